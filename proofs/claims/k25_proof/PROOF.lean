import PyProof.Rows.All
import Wide.All
import OpenK.AllK
import Wide.FinOn
import Lean
import PyProof.EqAt
import PyProof.EqKinds
import PyProof.TupleCall
import PyProof.EqLayable
import KE.KIntText
import PyProof.EnumMake
import PyProof.EnumStmt
import PyProof.EnumFor
import PyProof.Rows.EnumRows
import PyProof.ExcInit
import PyProof.ExcClass2
import PyProof.InstStoreFacts
import PySem.Challenge.RW_chancehall_k25_a_plan_mended
noncomputable def aj := @List.getElem?_eq_getElem
noncomputable def ak := @List.length_map
noncomputable def ao := @List.getElem?_eq_some_iff
noncomputable def au := @List.getElem?_map
noncomputable def aA := @List.getD_eq_getElem?_getD
noncomputable def aB := @List.length_append
noncomputable def aC := @List.mem_of_getElem?
noncomputable def aD := @List.getElem?_append_right
noncomputable def aF := @List.getElem?_append_left
noncomputable def aG := @Nat.le_refl
noncomputable def aH := @PySem.Heap.get?_push_of_some
noncomputable def aJ := @List.mem_cons_of_mem
noncomputable def aK := @PySem.Heap.lt_size
noncomputable def aL := @List.take_of_length_le
noncomputable def aM := @Nat.le_trans
noncomputable def aN := @List.length_replicate
noncomputable def aO := @List.mem_cons_self
noncomputable def aP := @List.take_length
noncomputable def aQ := @List.mem_append_right
noncomputable def aR := @Nat.ne_of_lt
noncomputable def aU := @Nat.lt_of_lt_of_le
noncomputable def aV := @List.getElem_mem
noncomputable def aW := @List.getElem?_of_mem
noncomputable def aX := @Int.fmod_eq_emod_of_nonneg
noncomputable def aY := @PySem.Heap.get?_push_size
noncomputable def aZ := @List.size_toArray
noncomputable def bh := @List.length_take
noncomputable def bw := @Nat.zero_le
noncomputable def bA := @List.map_append
noncomputable def bB := @Bool.false_ne_true
open PySem.W (Frag)
set_option Elab.async false
set_option linter.all false
set_option maxRecDepth 100000
set_option maxHeartbeats 4000000
namespace L2.Once
open PySem PySem.W
noncomputable def z:Pos:=⟨0,0,0,0⟩
noncomputable def tE:Obj:=⟨.type "tuple",none,.seq ⟨[]⟩ 0,⟨[]⟩⟩
noncomputable def fE:Obj:=⟨.none,none,.fields ⟨[]⟩,⟨[]⟩⟩
noncomputable def tN (t:Nat) (l:List Str):Obj:=⟨.type "tuple",none,.seq ⟨(l.zipIdx t).map fun x=>.str x.1 x.2⟩ 0,⟨[]⟩⟩
noncomputable def cO (n q:Str) (t:Nat) (l a f:Int) (r u:Nat):Obj:=⟨.type "code",none,.fields ⟨[.str n t,.str q (t + 1),.str "/claim/cut.py" (t + 2),.int l 0,.int a 0,.int 0 0,.int 0 0,.int f 0,.ref r,.bool true,.int 181 0,.ref (r + 1),.none,.ref (r + 2),.ref (r + 3),.ref (r + 4),.int u 0,.int l 0,.str "/claim/cut.py" (u + 1)]⟩,⟨[]⟩⟩
noncomputable def o11:Obj:={ cls:=.type "tuple",data:=.seq #[] }
noncomputable def o12:Obj:={ cls:=.none,data:=.fields #[] }
noncomputable def o13:Obj:={ cls:=.type "code",data:=.fields #[.str "<module>" 182,.str "<module>" 183,.str "/claim/cut.py" 184,.int 1 0,.int 0 0,.int 0 0,.int 0 0,.int 0 0,.ref 11,.bool false,.int 181 0,.ref 12,.none,.none,.none,.none,.int 185 0,.int 1 0,.str "/claim/cut.py" 186] }
noncomputable def o14:Obj:={ cls:=.type "frame",slots:=#[some (.ref 13),some (.ref 3),some (.ref 3),none,some (.str "__main__" 164),none,some (.ref 0)] }
noncomputable def cP (n q:Str) (t:Nat) (l a f:Int) (r u:Nat):Obj:=⟨.type "code",none,.fields ⟨[.str n t,.str q (t + 1),.str "/claim/cut.py" (t + 2),.int l 0,.int a 0,.int 0 0,.int 0 0,.int f 0,.ref r,.bool true,.int 181 0,.ref (r + 1),.none,.none,.none,.ref (r + 2),.int u 0,.int l 0,.str "/claim/cut.py" (u + 1)]⟩,⟨[]⟩⟩
noncomputable def dE (P:Params) (x:Str) (t:Nat) (v:Value):DictEntry:=⟨PyData.keyHash P x,.str x t,v⟩
noncomputable abbrev lf (o:Obj):BT:=.node o .nil .nil
noncomputable def tr (P:Params):BT:=.node (boot_o_0 P)
 (.node (boot_o_1 P) (.node (boot_o_3 P) (lf (boot_o_7 P)) (lf o11)) (.node (boot_o_5 P) (lf (boot_o_9 P)) (lf o13)))
 (.node (boot_o_2 P) (.node (boot_o_4 P) (lf (boot_o_8 P)) (lf o12)) (.node (boot_o_6 P) (lf (boot_o_10 P)) (lf o14)))
noncomputable def S0 (w:World) (os:OsState):Shared:=⟨boot_heap w.params,Array.mk [],boot_drawn,boot_toks,os⟩
noncomputable def Sa (w:World) (os:OsState):Shared:=⟨⟨Array.mk [boot_o_0 w.params,boot_o_1 w.params,boot_o_2 w.params,boot_o_3 w.params,boot_o_4 w.params,boot_o_5 w.params,boot_o_6 w.params,boot_o_7 w.params,boot_o_8 w.params,boot_o_9 w.params,boot_o_10 w.params,o11,o12,o13,o14],{}⟩,Array.mk [],{},187,os⟩
noncomputable def Sb (w:World) (os:OsState):SharedT:=⟨tr w.params,15,{},⟨[]⟩,{},187,os⟩
noncomputable def env (p:Program):Env:={ scope:=p.main.scope,locals:=mainNs,globals:=mainNs,cells:=[],code:=.ref 13,frame:=some 14 }
noncomputable def cE (p:Program):Code:=.body (behindTheImports p) (env p)
noncomputable abbrev ann:Option Value:=some (.ref 6)
noncomputable abbrev B:List Frame:=[topFrame z]
theorem size (w:World):((boot_heap w.params).isNs mainGlobals && (Array.mk [] : Array GenState).size == 0,(boot_heap w.params).objs.size,(boot_heap w.params).nsMap mainGlobals "__annotations__") = (true,11,ann):=by
 rw [Fast.te8920871248978507458]; kernel_rfl
noncomputable def m8 (p:Program) (w:World) (M:Nat) (S:SharedT) (l:List Stmt) (q:Pos) (G:Shared->Prop):Prop:=∃ s,topRun treeTable p w 11 ann M S.abs (restOf l (env p) (cE p) q B) = some s/\G s
theorem m8.cut {p:Program} {w:World} {n M:Nat} {S S':SharedT} {l1 l2:List Stmt} {q q':Pos} {G:Shared->Prop} (h:segRunT treeTable p w 11 ann 1 n S (piecesOf l1 (env p) (cE p) q B) = some (.next,S',cE p,q')) (k:m8 p w M S' l2 q' G):m8 p w (n + M) S (l1 ++ l2) q G :=
 let ⟨s,a,b⟩:=k
 ⟨s,piece_app (segRun_of h) a,b⟩
theorem m8.cutAt {p:Program} {w:World} {n m M:Nat} {S S':SharedT} {l:List Stmt} {q q':Pos} {G:Shared->Prop} (h:segRunT treeTable p w 11 ann 1 n S (piecesOf (l.take m) (env p) (cE p) q B) = some (.next,S',cE p,q')) (k:m8 p w M S' (l.drop m) q' G):m8 p w (n + M) S l q G:=by
 have:=m8.cut h k
 rwa [List.take_append_drop] at this
noncomputable def Good {α:Type} (p q:Program) (loose:List Str) (Xt:Shared->Bool) (Yf:Shared->α) (Ya:World->α) (g0:Bool) (w:World) (s:Shared):Prop :=
 (staticsOk (importedModules p.main.body) (boot_heap w.params) s.heap && namesBound p s.heap && gensDone s && laidKept (boot_heap w.params) s.heap,openSeen q loose (importedModules p.main.body) Xt g0 s,Yf s) = (true,openGood q loose,Ya w)
theorem m8.last {p q:Program} {loose:List Str} {Xt:Shared->Bool} {α:Type} {Yf:Shared->α} {Ya:World->α} {g0:Bool} {w:World} {n k:Nat} {S:SharedT} {l:List Stmt} {q0 e:Pos}
  (big:(segRunT treeTable p w 11 ann 1 n S (piecesOf l (env p) (cE p) q0 B)).map (fun r =>
    (r.1,r.2.2.1,r.2.2.2,(topRun treeTable p w 11 ann k r.2.1.abs ⟨doneF .next,cE p,e,B⟩).map fun s =>
     (staticsOk (importedModules p.main.body) (boot_heap w.params) s.heap && namesBound p s.heap && gensDone s && laidKept (boot_heap w.params) s.heap,openSeen q loose (importedModules p.main.body) Xt g0 s,Yf s))) =
   some (.next,cE p,e,some (true,openGood q loose,Ya w))):m8 p w (n + k) S l q0 (Good p q loose Xt Yf Ya g0 w):=by
 obtain ⟨⟨f,sT,c,ps⟩,r1,r2⟩:=Option.map_eq_some_iff.mp big
 obtain ⟨rfl,rfl,rfl,r3⟩ : f = .next/\c = cE p/\ps = e/\_:=by simpa only [Prod.mk.injEq] using r2
 obtain ⟨s,t1,t2⟩:=Option.map_eq_some_iff.mp r3
 have q1:=piece_app (rest:=[]) (segRun_of r1) (piece_nil t1)
 rw [List.append_nil] at q1
 exact ⟨s,q1,t2⟩
theorem Sq {p q:Program} {loose:List Str} {Xt:Shared->Bool} {α:Type} {Yf:Shared->α} {Ya:World->α} {N:Nat} {g0:Bool} {a b M:Nat}
  (open_:∀ w:World,(fencedOpening treeTable p w N).map (fun s=>(s.heap,s.gens,s.drawn,s.toks)) = some (boot_heap w.params,Array.mk [],boot_drawn,boot_toks))
  (pre:∀ w:World,(fun os=>topGo treeTable p w 11 ann a (S0 w os) (topStub p)) = fun os=>some (Sa w os,⟨denote treeTable (cE p),cE p,z,B⟩))
  (block:∀ w:World,(fun os=>segRun treeTable p w 11 ann 1 b (Sa w os) (blockOf (behindTheImports p) (env p) (cE p) z B)) = fun os=>some (.next,(Sb w os).abs,cE p,z))
  (ends:∀ (w:World) (os:OsState),m8 p w M (Sb w os) (behindTheImports p) z (Good p q loose Xt Yf Ya g0 w))
  (le:Nat.ble (a + (b + M)) N = true):LeftO p q loose Xt Yf Ya N g0:=fun w=>by
 obtain ⟨⟨h,gs,d,ks,os⟩,e1,e2⟩:=Option.map_eq_some_iff.mp (open_ w)
 obtain ⟨rfl,rfl,rfl,rfl⟩ : h = boot_heap w.params/\gs = Array.mk []/\d = boot_drawn/\ks = boot_toks:=by simpa using e2
 obtain ⟨z1,z2,z3⟩ : _/\_/\_:=by simpa only [Prod.mk.injEq] using size w
 obtain ⟨s,q1,t2⟩:=ends w os
 obtain ⟨l1,l2,l3⟩ : _/\_/\_:=by simpa only [Good,Prod.mk.injEq] using t2
 have q2:=go_top (congrFun (pre w) os) (piece_block (congrFun (block w) os) q1)
 have q3:=topRun_mono (N - (a + (b + M))) _ _ _ _ q2
 rw [show a + (b + M) + (N - (a + (b + M))) = N by have:=Nat.le_of_ble_eq_true le; omega] at q3
 have t:topFrom treeTable p w N ⟨boot_heap w.params,Array.mk [],boot_drawn,boot_toks,os⟩ = some s:=by
  unfold topFrom
  dsimp only
  rw [z1,z2,z3,show topRun treeTable p w 11 ann N ⟨boot_heap w.params,Array.mk [],boot_drawn,boot_toks,os⟩ (topStub p) = some s from q3]
  show (match staticsOk (importedModules p.main.body) (boot_heap w.params) s.heap && namesBound p s.heap && gensDone s && laidKept (boot_heap w.params) s.heap with | true=>_ | false=>_) = _
  rw [l1]
 unfold openEnds
 rw [e1]
 show (topFrom treeTable p w N _).map _ = _
 rw [t]
 exact congrArg some (Prod.ext l2 l3)
end L2.Once
namespace L2
open PySem
noncomputable def i_ (s:Stmt):Arguments:=match s with
 | .FunctionDef _ a _ _ _ _ _ _ _ _=>a
 | _=>{ posonlyargs:=[],args:=[],vararg:=none,kwonlyargs:=[],kw_defaults:=[],kwarg:=none,defaults:=[] }
noncomputable def fM (s:Stmt):List Stmt:=match s with
 | .FunctionDef _ _ b _ _ _ _ _ _ _=>b
 | _=>[]
noncomputable def bM (s:Stmt):Scope:=match s with
 | .FunctionDef _ _ _ _ _ _ sc _ _ _=>sc
 | _=>{ kind:=.function,names:=[],isGenerator:=false,isCoroutine:=false }
end L2
namespace K25
open PySem L2
noncomputable def top (i:Nat):Stmt:=PySem.Challenge.pw_chancehall_k25_a_plan_mended.main.body.getD i (.Pass ⟨0,0,0,0⟩)
noncomputable def d9 (i j:Nat):Stmt:=match top i with | .ClassDef _ _ _ b _ _ _ _ _ _ _=>b.getD j (.Pass ⟨0,0,0,0⟩) | _=>.Pass ⟨0,0,0,0⟩
end K25
namespace H25
open PySem PySem.W L2 L2.Once K25
noncomputable abbrev p:Program:=PySem.Challenge.pw_chancehall_k25_a_plan_mended
noncomputable section
noncomputable def fO (n q:Str) (s:Stmt) (m:Value) (c:Nat):Obj:=⟨.type "function",none,.func (fnOf n q (i_ s) (fM s) (bM s) .none .none .none m none (.ref c) .none),⟨[]⟩⟩
noncomputable def fT (n q:Str) (s:Stmt):Obj:=⟨.none,none,.func { fnOf n q (i_ s) (fM s) (bM s) .none .none .none .none none .none .none with globals:=0,builtins:=0 },⟨[]⟩⟩
noncomputable def afz (P:Params):Obj:=⟨(.type "dict"),none,(.dict ⟨dE P "__name__" 165 (.str "law_chancehall_k25_a_plan_mended" 796) :: dE P "__doc__" 166 .none :: dE P "__package__" 167 .none :: dE P "__loader__" 168 (.builtin "__main__.__loader__#opaque") :: dE P "__spec__" 169 .none :: dE P "__annotations__" 170 (.ref 6) :: dE P "__builtins__" 171 (.ref 4) :: dE P "__file__" 173 (.str "/claim/cut.py" 172) :: dE P "__cached__" 174 .none :: dE P "_wall" 193 (.ref 21) :: dE P "HallError" 213 (.ref 31) :: dE P "NoNumber" 229 (.ref 44) :: dE P "NoName" 245 (.ref 56) :: dE P "NoChance" 261 (.ref 68) :: dE P "NoShare" 277 (.ref 80) :: dE P "NoRoom" 302 (.ref 99) :: dE P "NoPlan" 327 (.ref 118) :: dE P "is_whole" 336 (.ref 127) :: dE P "divisor" 347 (.ref 134) :: dE P "NOUGHT" 352 (.ref 135) :: dE P "ONE" 355 (.ref 136) :: dE P "ratio" 364 (.ref 143) :: dE P "is_ratio" 373 (.ref 150) :: dE P "plus" 381 (.ref 157) :: dE P "minus" 389 (.ref 164) :: dE P "times" 397 (.ref 171) :: dE P "under" 405 (.ref 178) :: dE P "level" 413 (.ref 183) :: dE P "total" 421 (.ref 190) :: dE P "greatest" 430 (.ref 197) :: dE P "fits" 440 (.ref 204) :: dE P "check_plan" 450 (.ref 211) :: dE P "behind_door" 456 (.ref 216) :: dE P "raised_look" 466 (.ref 223) :: dE P "better_door" 477 (.ref 230) :: dE P "mended" 483 (.ref 235) :: dE P "LONGEST_WORD" 487 (.int 8 486) :: dE P "is_word" 493 (.ref 240) :: dE P "check_head" 503 (.ref 247) :: dE P "check_room_name" 510 (.ref 254) :: dE P "check_chance" 517 (.ref 261) :: dE P "check_pairs" 523 (.ref 266) :: dE P "joined_ways" 529 (.ref 271) :: dE P "Door" 576 (.ref 302) :: dE P "Sure" 603 (.ref 323) :: dE P "Mixed" 630 (.ref 342) :: dE P "Toss" 658 (.ref 361) :: dE P "Even" 680 (.ref 378) :: dE P "check_share" 689 (.ref 387) :: dE P "numbers_of" 699 (.ref 394) :: dE P "numbered_ways" 710 (.ref 401) :: dE P "offers_of" 721 (.ref 408) :: dE P "Hall" 795 (.ref 463) :: dE P "_law_cell" 805 (.ref 474) :: dE P "_law_stream" 817 (.ref 481) :: dE P "_law_gcd" 827 (.ref 488) :: dE P "_law_ratio" 836 (.ref 495) :: dE P "_law_names" 842 (.ref 500) :: dE P "_law_share" 851 (.ref 507) :: dE P "_law_pay" 860 (.ref 514) :: dE P "_law_door" 866 (.ref 519) :: dE P "_law_doors" 872 (.ref 524) :: dE P "_law_built" 878 (.ref 529) :: dE P "_law_hall" 884 (.ref 534) :: dE P "_law_chosen" 895 (.ref 541) :: dE P "_law_look" 909 (.ref 548) :: dE P "_law_below" 917 (.ref 555) :: dE P "_law_taken" 923 (.ref 560) :: dE P "_law_step" 929 (.ref 565) :: dE P "_law_size" 937 (.ref 572) :: dE P "_law_worths" 943 (.ref 577) :: dE P "_law_odd" 951 (.ref 584) :: dE P "_law_spoilt" 965 (.ref 591) :: dE P "_law_refused" 975 (.ref 598) :: []⟩ 74),⟨[]⟩⟩
noncomputable def acC:Obj:=⟨.none,none,(.fields ⟨(.int 1 0) :: (.int 0 0) :: (.ref 20) :: (.int 5 0) :: (.int 0 0) :: (.ref 27) :: (.int 7 0) :: (.int 0 0) :: (.ref 40) :: (.int 9 0) :: (.int 0 0) :: (.ref 52) :: (.int 11 0) :: (.int 0 0) :: (.ref 64) :: (.int 13 0) :: (.int 0 0) :: (.ref 76) :: (.int 15 0) :: (.int 0 0) :: (.ref 88) :: (.int 20 0) :: (.int 0 0) :: (.ref 107) :: (.int 26 0) :: (.int 0 0) :: (.ref 126) :: (.int 28 0) :: (.int 0 0) :: (.ref 133) :: (.int 39 0) :: (.int 0 0) :: (.ref 142) :: (.int 48 0) :: (.int 0 0) :: (.ref 149) :: (.int 56 0) :: (.int 0 0) :: (.ref 156) :: (.int 58 0) :: (.int 0 0) :: (.ref 163) :: (.int 60 0) :: (.int 0 0) :: (.ref 170) :: (.int 62 0) :: (.int 0 0) :: (.ref 177) :: (.int 65 0) :: (.int 0 0) :: (.ref 182) :: (.int 70 0) :: (.int 0 0) :: (.ref 189) :: (.int 73 0) :: (.int 0 0) :: (.ref 196) :: (.int 80 0) :: (.int 0 0) :: (.ref 203) :: (.int 84 0) :: (.int 0 0) :: (.ref 210) :: (.int 91 0) :: (.int 0 0) :: (.ref 215) :: (.int 94 0) :: (.int 0 0) :: (.ref 222) :: (.int 98 0) :: (.int 0 0) :: (.ref 229) :: (.int 103 0) :: (.int 0 0) :: (.ref 234) :: (.int 113 0) :: (.int 0 0) :: (.ref 239) :: (.int 118 0) :: (.int 0 0) :: (.ref 246) :: (.int 123 0) :: (.int 0 0) :: (.ref 253) :: (.int 126 0) :: (.int 0 0) :: (.ref 260) :: (.int 129 0) :: (.int 0 0) :: (.ref 265) :: (.int 135 0) :: (.int 0 0) :: (.ref 270) :: (.int 140 0) :: (.int 0 0) :: (.ref 277) :: (.int 153 0) :: (.int 0 0) :: (.ref 312) :: (.int 159 0) :: (.int 0 0) :: (.ref 331) :: (.int 165 0) :: (.int 0 0) :: (.ref 350) :: (.int 171 0) :: (.int 0 0) :: (.ref 369) :: (.int 176 0) :: (.int 0 0) :: (.ref 386) :: (.int 179 0) :: (.int 0 0) :: (.ref 393) :: (.int 187 0) :: (.int 0 0) :: (.ref 400) :: (.int 194 0) :: (.int 0 0) :: (.ref 407) :: (.int 203 0) :: (.int 0 0) :: (.ref 414) :: (.int 233 0) :: (.int 0 0) :: (.ref 473) :: (.int 235 0) :: (.int 0 0) :: (.ref 480) :: (.int 246 0) :: (.int 0 0) :: (.ref 487) :: (.int 251 0) :: (.int 0 0) :: (.ref 494) :: (.int 254 0) :: (.int 0 0) :: (.ref 499) :: (.int 263 0) :: (.int 0 0) :: (.ref 506) :: (.int 267 0) :: (.int 0 0) :: (.ref 513) :: (.int 275 0) :: (.int 0 0) :: (.ref 518) :: (.int 292 0) :: (.int 0 0) :: (.ref 523) :: (.int 306 0) :: (.int 0 0) :: (.ref 528) :: (.int 316 0) :: (.int 0 0) :: (.ref 533) :: (.int 323 0) :: (.int 0 0) :: (.ref 540) :: (.int 332 0) :: (.int 0 0) :: (.ref 547) :: (.int 342 0) :: (.int 0 0) :: (.ref 554) :: (.int 344 0) :: (.int 0 0) :: (.ref 559) :: (.int 352 0) :: (.int 0 0) :: (.ref 564) :: (.int 362 0) :: (.int 0 0) :: (.ref 571) :: (.int 369 0) :: (.int 0 0) :: (.ref 576) :: (.int 374 0) :: (.int 0 0) :: (.ref 583) :: (.int 378 0) :: (.int 0 0) :: (.ref 590) :: (.int 392 0) :: (.int 0 0) :: (.ref 597) :: []⟩),⟨[]⟩⟩
noncomputable def q21:Obj:=(fO "_wall" "_wall" (top 0) (.str "__main__" 164) 20)
noncomputable def q22:Obj:=⟨(.type "tuple"),none,(.seq ⟨(.type "ValueError") :: []⟩ 0),⟨[]⟩⟩
noncomputable def q23:Obj:=⟨(.type "builtin_function_or_method"),none,(.fields ⟨(.builtin "type.__prepare__") :: (.type "type") :: []⟩),⟨[]⟩⟩
noncomputable def q24 (P:Params):Obj:=⟨(.type "dict"),none,(.dict ⟨dE P "__module__" 203 (.str "chancehall.errors" 194) :: dE P "__qualname__" 205 (.str "HallError" 204) :: dE P "__firstlineno__" 207 (.int 5 206) :: dE P "__static_attributes__" 208 (.ref 29) :: []⟩ 4),⟨[]⟩⟩
noncomputable def q27:Obj:=⟨(.type "code"),none,(.fields ⟨(.str "HallError" 198) :: (.str "HallError" 199) :: (.str "/claim/cut.py" 200) :: (.int 5 0) :: (.int 0 0) :: (.int 0 0) :: (.int 0 0) :: (.int 0 0) :: (.ref 25) :: (.bool false) :: (.int 181 0) :: (.ref 26) :: .none :: .none :: .none :: .none :: (.int 201 0) :: (.int 5 0) :: (.str "/claim/cut.py" 202) :: []⟩),⟨[]⟩⟩
noncomputable def q28:Obj:=⟨(.type "frame"),none,.plain,⟨(some (.ref 27)) :: (some (.ref 3)) :: (some (.ref 24)) :: none :: (some (.str "chancehall.errors" 194)) :: none :: (some (.ref 0)) :: []⟩⟩
noncomputable def q30 (P:Params):Obj:=⟨(.type "dict"),none,(.dict ⟨dE P "__module__" 203 (.str "chancehall.errors" 194) :: dE P "__firstlineno__" 207 (.int 5 206) :: dE P "__static_attributes__" 208 (.ref 29) :: dE P "__weakref__" 210 (.ref 32) :: dE P "__doc__" 211 .none :: []⟩ 3),⟨[]⟩⟩
noncomputable def q31:Obj:=⟨(.type "type"),none,(.cls ⟨"HallError",[(.type "ValueError")],[(.ref 31),(.type "ValueError"),(.type "Exception"),(.type "BaseException"),(.type "object")],30, "HallError",true,[],[(.ref 44),(.ref 56),(.ref 68),(.ref 80),(.ref 99),(.ref 118)],false,none,false⟩),⟨(some (.ref 22)) :: none :: (some (.str "HallError" 196)) :: (some (.str "HallError" 204)) :: (some (.builtin "ValueError.__new__")) :: (some (.bool true)) :: []⟩⟩
noncomputable def q32:Obj:=⟨(.type "getset_descriptor"),none,(.fields ⟨(.str "__weakref__" 209) :: (.ref 31) :: (.builtin "ExceptionGroup.__weakref__") :: .none :: []⟩),⟨[]⟩⟩
noncomputable def q33:Obj:=⟨(.type "super"),none,(.fields ⟨(.ref 31) :: (.ref 31) :: (.ref 31) :: []⟩),⟨[]⟩⟩
noncomputable def q34:Obj:=⟨(.type "builtin_function_or_method"),none,(.fields ⟨(.builtin "object.__init_subclass__") :: (.ref 31) :: []⟩),⟨[]⟩⟩
noncomputable def q35:Obj:=⟨(.type "tuple"),none,(.seq ⟨(.ref 31) :: []⟩ 0),⟨[]⟩⟩
noncomputable def q36:Obj:=⟨(.type "builtin_function_or_method"),none,(.fields ⟨(.builtin "type.__prepare__") :: (.type "type") :: []⟩),⟨[]⟩⟩
noncomputable def q37 (P:Params):Obj:=⟨(.type "dict"),none,(.dict ⟨dE P "__module__" 221 (.str "chancehall.errors" 194) :: dE P "__qualname__" 223 (.str "NoNumber" 222) :: dE P "__firstlineno__" 225 (.int 7 224) :: dE P "__static_attributes__" 226 (.ref 42) :: []⟩ 4),⟨[]⟩⟩
noncomputable def q40:Obj:=⟨(.type "code"),none,(.fields ⟨(.str "NoNumber" 216) :: (.str "NoNumber" 217) :: (.str "/claim/cut.py" 218) :: (.int 7 0) :: (.int 0 0) :: (.int 0 0) :: (.int 0 0) :: (.int 0 0) :: (.ref 38) :: (.bool false) :: (.int 181 0) :: (.ref 39) :: .none :: .none :: .none :: .none :: (.int 219 0) :: (.int 7 0) :: (.str "/claim/cut.py" 220) :: []⟩),⟨[]⟩⟩
noncomputable def q41:Obj:=⟨(.type "frame"),none,.plain,⟨(some (.ref 40)) :: (some (.ref 3)) :: (some (.ref 37)) :: none :: (some (.str "chancehall.errors" 194)) :: none :: (some (.ref 0)) :: []⟩⟩
noncomputable def q43 (P:Params):Obj:=⟨(.type "dict"),none,(.dict ⟨dE P "__module__" 221 (.str "chancehall.errors" 194) :: dE P "__firstlineno__" 225 (.int 7 224) :: dE P "__static_attributes__" 226 (.ref 42) :: dE P "__doc__" 227 .none :: []⟩ 2),⟨[]⟩⟩
noncomputable def q44:Obj:=⟨(.type "type"),none,(.cls ⟨"NoNumber",[(.ref 31)],[(.ref 44),(.ref 31),(.type "ValueError"),(.type "Exception"),(.type "BaseException"),(.type "object")],43, "NoNumber",true,[],[],false,none,false⟩),⟨(some (.ref 35)) :: none :: (some (.str "NoNumber" 214)) :: (some (.str "NoNumber" 222)) :: (some (.builtin "ValueError.__new__")) :: (some (.bool true)) :: []⟩⟩
noncomputable def q45:Obj:=⟨(.type "super"),none,(.fields ⟨(.ref 44) :: (.ref 44) :: (.ref 44) :: []⟩),⟨[]⟩⟩
noncomputable def q46:Obj:=⟨(.type "builtin_function_or_method"),none,(.fields ⟨(.builtin "object.__init_subclass__") :: (.ref 44) :: []⟩),⟨[]⟩⟩
noncomputable def q47:Obj:=⟨(.type "tuple"),none,(.seq ⟨(.ref 31) :: []⟩ 0),⟨[]⟩⟩
noncomputable def q48:Obj:=⟨(.type "builtin_function_or_method"),none,(.fields ⟨(.builtin "type.__prepare__") :: (.type "type") :: []⟩),⟨[]⟩⟩
noncomputable def q49 (P:Params):Obj:=⟨(.type "dict"),none,(.dict ⟨dE P "__module__" 237 (.str "chancehall.errors" 194) :: dE P "__qualname__" 239 (.str "NoName" 238) :: dE P "__firstlineno__" 241 (.int 9 240) :: dE P "__static_attributes__" 242 (.ref 54) :: []⟩ 4),⟨[]⟩⟩
noncomputable def q52:Obj:=⟨(.type "code"),none,(.fields ⟨(.str "NoName" 232) :: (.str "NoName" 233) :: (.str "/claim/cut.py" 234) :: (.int 9 0) :: (.int 0 0) :: (.int 0 0) :: (.int 0 0) :: (.int 0 0) :: (.ref 50) :: (.bool false) :: (.int 181 0) :: (.ref 51) :: .none :: .none :: .none :: .none :: (.int 235 0) :: (.int 9 0) :: (.str "/claim/cut.py" 236) :: []⟩),⟨[]⟩⟩
noncomputable def q53:Obj:=⟨(.type "frame"),none,.plain,⟨(some (.ref 52)) :: (some (.ref 3)) :: (some (.ref 49)) :: none :: (some (.str "chancehall.errors" 194)) :: none :: (some (.ref 0)) :: []⟩⟩
noncomputable def q55 (P:Params):Obj:=⟨(.type "dict"),none,(.dict ⟨dE P "__module__" 237 (.str "chancehall.errors" 194) :: dE P "__firstlineno__" 241 (.int 9 240) :: dE P "__static_attributes__" 242 (.ref 54) :: dE P "__doc__" 243 .none :: []⟩ 2),⟨[]⟩⟩
noncomputable def q56:Obj:=⟨(.type "type"),none,(.cls ⟨"NoName",[(.ref 31)],[(.ref 56),(.ref 31),(.type "ValueError"),(.type "Exception"),(.type "BaseException"),(.type "object")],55, "NoName",true,[],[],false,none,false⟩),⟨(some (.ref 47)) :: none :: (some (.str "NoName" 230)) :: (some (.str "NoName" 238)) :: (some (.builtin "ValueError.__new__")) :: (some (.bool true)) :: []⟩⟩
noncomputable def q57:Obj:=⟨(.type "super"),none,(.fields ⟨(.ref 56) :: (.ref 56) :: (.ref 56) :: []⟩),⟨[]⟩⟩
noncomputable def q58:Obj:=⟨(.type "builtin_function_or_method"),none,(.fields ⟨(.builtin "object.__init_subclass__") :: (.ref 56) :: []⟩),⟨[]⟩⟩
noncomputable def q59:Obj:=⟨(.type "tuple"),none,(.seq ⟨(.ref 31) :: []⟩ 0),⟨[]⟩⟩
noncomputable def q60:Obj:=⟨(.type "builtin_function_or_method"),none,(.fields ⟨(.builtin "type.__prepare__") :: (.type "type") :: []⟩),⟨[]⟩⟩
noncomputable def q61 (P:Params):Obj:=⟨(.type "dict"),none,(.dict ⟨dE P "__module__" 253 (.str "chancehall.errors" 194) :: dE P "__qualname__" 255 (.str "NoChance" 254) :: dE P "__firstlineno__" 257 (.int 11 256) :: dE P "__static_attributes__" 258 (.ref 66) :: []⟩ 4),⟨[]⟩⟩
noncomputable def q64:Obj:=⟨(.type "code"),none,(.fields ⟨(.str "NoChance" 248) :: (.str "NoChance" 249) :: (.str "/claim/cut.py" 250) :: (.int 11 0) :: (.int 0 0) :: (.int 0 0) :: (.int 0 0) :: (.int 0 0) :: (.ref 62) :: (.bool false) :: (.int 181 0) :: (.ref 63) :: .none :: .none :: .none :: .none :: (.int 251 0) :: (.int 11 0) :: (.str "/claim/cut.py" 252) :: []⟩),⟨[]⟩⟩
noncomputable def q65:Obj:=⟨(.type "frame"),none,.plain,⟨(some (.ref 64)) :: (some (.ref 3)) :: (some (.ref 61)) :: none :: (some (.str "chancehall.errors" 194)) :: none :: (some (.ref 0)) :: []⟩⟩
noncomputable def q67 (P:Params):Obj:=⟨(.type "dict"),none,(.dict ⟨dE P "__module__" 253 (.str "chancehall.errors" 194) :: dE P "__firstlineno__" 257 (.int 11 256) :: dE P "__static_attributes__" 258 (.ref 66) :: dE P "__doc__" 259 .none :: []⟩ 2),⟨[]⟩⟩
noncomputable def q68:Obj:=⟨(.type "type"),none,(.cls ⟨"NoChance",[(.ref 31)],[(.ref 68),(.ref 31),(.type "ValueError"),(.type "Exception"),(.type "BaseException"),(.type "object")],67, "NoChance",true,[],[],false,none,false⟩),⟨(some (.ref 59)) :: none :: (some (.str "NoChance" 246)) :: (some (.str "NoChance" 254)) :: (some (.builtin "ValueError.__new__")) :: (some (.bool true)) :: []⟩⟩
noncomputable def q69:Obj:=⟨(.type "super"),none,(.fields ⟨(.ref 68) :: (.ref 68) :: (.ref 68) :: []⟩),⟨[]⟩⟩
noncomputable def q70:Obj:=⟨(.type "builtin_function_or_method"),none,(.fields ⟨(.builtin "object.__init_subclass__") :: (.ref 68) :: []⟩),⟨[]⟩⟩
noncomputable def q71:Obj:=⟨(.type "tuple"),none,(.seq ⟨(.ref 31) :: []⟩ 0),⟨[]⟩⟩
noncomputable def q72:Obj:=⟨(.type "builtin_function_or_method"),none,(.fields ⟨(.builtin "type.__prepare__") :: (.type "type") :: []⟩),⟨[]⟩⟩
noncomputable def q73 (P:Params):Obj:=⟨(.type "dict"),none,(.dict ⟨dE P "__module__" 269 (.str "chancehall.errors" 194) :: dE P "__qualname__" 271 (.str "NoShare" 270) :: dE P "__firstlineno__" 273 (.int 13 272) :: dE P "__static_attributes__" 274 (.ref 78) :: []⟩ 4),⟨[]⟩⟩
noncomputable def q76:Obj:=⟨(.type "code"),none,(.fields ⟨(.str "NoShare" 264) :: (.str "NoShare" 265) :: (.str "/claim/cut.py" 266) :: (.int 13 0) :: (.int 0 0) :: (.int 0 0) :: (.int 0 0) :: (.int 0 0) :: (.ref 74) :: (.bool false) :: (.int 181 0) :: (.ref 75) :: .none :: .none :: .none :: .none :: (.int 267 0) :: (.int 13 0) :: (.str "/claim/cut.py" 268) :: []⟩),⟨[]⟩⟩
noncomputable def q77:Obj:=⟨(.type "frame"),none,.plain,⟨(some (.ref 76)) :: (some (.ref 3)) :: (some (.ref 73)) :: none :: (some (.str "chancehall.errors" 194)) :: none :: (some (.ref 0)) :: []⟩⟩
noncomputable def q79 (P:Params):Obj:=⟨(.type "dict"),none,(.dict ⟨dE P "__module__" 269 (.str "chancehall.errors" 194) :: dE P "__firstlineno__" 273 (.int 13 272) :: dE P "__static_attributes__" 274 (.ref 78) :: dE P "__doc__" 275 .none :: []⟩ 2),⟨[]⟩⟩
noncomputable def q80:Obj:=⟨(.type "type"),none,(.cls ⟨"NoShare",[(.ref 31)],[(.ref 80),(.ref 31),(.type "ValueError"),(.type "Exception"),(.type "BaseException"),(.type "object")],79, "NoShare",true,[],[],false,none,false⟩),⟨(some (.ref 71)) :: none :: (some (.str "NoShare" 262)) :: (some (.str "NoShare" 270)) :: (some (.builtin "ValueError.__new__")) :: (some (.bool true)) :: []⟩⟩
noncomputable def q81:Obj:=⟨(.type "super"),none,(.fields ⟨(.ref 80) :: (.ref 80) :: (.ref 80) :: []⟩),⟨[]⟩⟩
noncomputable def q82:Obj:=⟨(.type "builtin_function_or_method"),none,(.fields ⟨(.builtin "object.__init_subclass__") :: (.ref 80) :: []⟩),⟨[]⟩⟩
noncomputable def q83:Obj:=⟨(.type "tuple"),none,(.seq ⟨(.ref 31) :: []⟩ 0),⟨[]⟩⟩
noncomputable def q84:Obj:=⟨(.type "builtin_function_or_method"),none,(.fields ⟨(.builtin "type.__prepare__") :: (.type "type") :: []⟩),⟨[]⟩⟩
noncomputable def q85 (P:Params):Obj:=⟨(.type "dict"),none,(.dict ⟨dE P "__module__" 285 (.str "chancehall.errors" 194) :: dE P "__qualname__" 287 (.str "NoRoom" 286) :: dE P "__firstlineno__" 289 (.int 15 288) :: dE P "__init__" 297 (.ref 96) :: dE P "__static_attributes__" 299 (.ref 97) :: []⟩ 5),⟨[]⟩⟩
noncomputable def q87:Obj:=⟨.none,none,(.fields ⟨(.int 17 0) :: (.int 4 0) :: (.ref 95) :: []⟩),⟨[]⟩⟩
noncomputable def q88:Obj:=⟨(.type "code"),none,(.fields ⟨(.str "NoRoom" 280) :: (.str "NoRoom" 281) :: (.str "/claim/cut.py" 282) :: (.int 15 0) :: (.int 0 0) :: (.int 0 0) :: (.int 0 0) :: (.int 0 0) :: (.ref 86) :: (.bool false) :: (.int 181 0) :: (.ref 87) :: .none :: .none :: .none :: .none :: (.int 283 0) :: (.int 15 0) :: (.str "/claim/cut.py" 284) :: []⟩),⟨[]⟩⟩
noncomputable def q89:Obj:=⟨(.type "frame"),none,.plain,⟨(some (.ref 88)) :: (some (.ref 3)) :: (some (.ref 85)) :: none :: (some (.str "chancehall.errors" 194)) :: none :: (some (.ref 0)) :: []⟩⟩
noncomputable def q95:Obj:=(cO "__init__" "NoRoom.__init__" 290 17 2 3 90 295)
noncomputable def q96:Obj:=(fO "__init__" "NoRoom.__init__" (d9 7 0) (.str "chancehall.errors" 194) 95)
noncomputable def q98 (P:Params):Obj:=⟨(.type "dict"),none,(.dict ⟨dE P "__module__" 285 (.str "chancehall.errors" 194) :: dE P "__firstlineno__" 289 (.int 15 288) :: dE P "__init__" 297 (.ref 96) :: dE P "__static_attributes__" 299 (.ref 97) :: dE P "__doc__" 300 .none :: []⟩ 2),⟨[]⟩⟩
noncomputable def q99:Obj:=⟨(.type "type"),none,(.cls ⟨"NoRoom",[(.ref 31)],[(.ref 99),(.ref 31),(.type "ValueError"),(.type "Exception"),(.type "BaseException"),(.type "object")],98, "NoRoom",true,[],[],false,none,false⟩),⟨(some (.ref 83)) :: none :: (some (.str "NoRoom" 278)) :: (some (.str "NoRoom" 286)) :: (some (.builtin "ValueError.__new__")) :: (some (.bool true)) :: []⟩⟩
noncomputable def af5:Obj:=⟨(.type "super"),none,(.fields ⟨(.ref 99) :: (.ref 99) :: (.ref 99) :: []⟩),⟨[]⟩⟩
noncomputable def afN:Obj:=⟨(.type "builtin_function_or_method"),none,(.fields ⟨(.builtin "object.__init_subclass__") :: (.ref 99) :: []⟩),⟨[]⟩⟩
noncomputable def aeu:Obj:=⟨(.type "tuple"),none,(.seq ⟨(.ref 31) :: []⟩ 0),⟨[]⟩⟩
noncomputable def afv:Obj:=⟨(.type "builtin_function_or_method"),none,(.fields ⟨(.builtin "type.__prepare__") :: (.type "type") :: []⟩),⟨[]⟩⟩
noncomputable def af3 (P:Params):Obj:=⟨(.type "dict"),none,(.dict ⟨dE P "__module__" 310 (.str "chancehall.errors" 194) :: dE P "__qualname__" 312 (.str "NoPlan" 311) :: dE P "__firstlineno__" 314 (.int 20 313) :: dE P "__init__" 322 (.ref 115) :: dE P "__static_attributes__" 324 (.ref 116) :: []⟩ 5),⟨[]⟩⟩
noncomputable def afV:Obj:=⟨.none,none,(.fields ⟨(.int 22 0) :: (.int 4 0) :: (.ref 114) :: []⟩),⟨[]⟩⟩
noncomputable def agb:Obj:=⟨(.type "code"),none,(.fields ⟨(.str "NoPlan" 305) :: (.str "NoPlan" 306) :: (.str "/claim/cut.py" 307) :: (.int 20 0) :: (.int 0 0) :: (.int 0 0) :: (.int 0 0) :: (.int 0 0) :: (.ref 105) :: (.bool false) :: (.int 181 0) :: (.ref 106) :: .none :: .none :: .none :: .none :: (.int 308 0) :: (.int 20 0) :: (.str "/claim/cut.py" 309) :: []⟩),⟨[]⟩⟩
noncomputable def agu:Obj:=⟨(.type "frame"),none,.plain,⟨(some (.ref 107)) :: (some (.ref 3)) :: (some (.ref 104)) :: none :: (some (.str "chancehall.errors" 194)) :: none :: (some (.ref 0)) :: []⟩⟩
noncomputable def adq:Obj:=(cO "__init__" "NoPlan.__init__" 315 22 2 3 109 320)
noncomputable def adi:Obj:=(fO "__init__" "NoPlan.__init__" (d9 8 0) (.str "chancehall.errors" 194) 114)
noncomputable def aec (P:Params):Obj:=⟨(.type "dict"),none,(.dict ⟨dE P "__module__" 310 (.str "chancehall.errors" 194) :: dE P "__firstlineno__" 314 (.int 20 313) :: dE P "__init__" 322 (.ref 115) :: dE P "__static_attributes__" 324 (.ref 116) :: dE P "__doc__" 325 .none :: []⟩ 2),⟨[]⟩⟩
noncomputable def adI:Obj:=⟨(.type "type"),none,(.cls ⟨"NoPlan",[(.ref 31)],[(.ref 118),(.ref 31),(.type "ValueError"),(.type "Exception"),(.type "BaseException"),(.type "object")],117, "NoPlan",true,[],[],false,none,false⟩),⟨(some (.ref 102)) :: none :: (some (.str "NoPlan" 303)) :: (some (.str "NoPlan" 311)) :: (some (.builtin "ValueError.__new__")) :: (some (.bool true)) :: []⟩⟩
noncomputable def afT:Obj:=⟨(.type "super"),none,(.fields ⟨(.ref 118) :: (.ref 118) :: (.ref 118) :: []⟩),⟨[]⟩⟩
noncomputable def aga:Obj:=⟨(.type "builtin_function_or_method"),none,(.fields ⟨(.builtin "object.__init_subclass__") :: (.ref 118) :: []⟩),⟨[]⟩⟩
noncomputable def acs:Obj:=(fO "is_whole" "is_whole" (top 10) (.str "chancehall.wholes" 328) 126)
noncomputable def afh:Obj:=(tN 340 ["one", "other", "left", "right", "rest"])
noncomputable def acD:Obj:=(fO "divisor" "divisor" (top 11) (.str "chancehall.wholes" 328) 133)
noncomputable def acN:Obj:=⟨(.type "tuple"),none,(.seq ⟨(.int 0 350) :: (.int 1 351) :: []⟩ 0),⟨[]⟩⟩
noncomputable def ade:Obj:=⟨(.type "tuple"),none,(.seq ⟨(.int 1 353) :: (.int 1 354) :: []⟩ 0),⟨[]⟩⟩
noncomputable def ac3:Obj:=(fO "ratio" "ratio" (top 15) (.str "chancehall.ratios" 348) 142)
noncomputable def acV:Obj:=(fO "is_ratio" "is_ratio" (top 16) (.str "chancehall.ratios" 348) 149)
noncomputable def ae9:Obj:=(fO "plus" "plus" (top 17) (.str "chancehall.ratios" 348) 156)
noncomputable def ach:Obj:=(fO "minus" "minus" (top 18) (.str "chancehall.ratios" 348) 163)
noncomputable def adu:Obj:=(fO "times" "times" (top 19) (.str "chancehall.ratios" 348) 170)
noncomputable def adl:Obj:=(fO "under" "under" (top 20) (.str "chancehall.ratios" 348) 177)
noncomputable def ae3:Obj:=(fO "level" "level" (top 22) (.str "chancehall.levels" 406) 182)
noncomputable def aci:Obj:=(fO "total" "total" (top 23) (.str "chancehall.levels" 406) 189)
noncomputable def ac0:Obj:=(fO "greatest" "greatest" (top 24) (.str "chancehall.levels" 406) 196)
noncomputable def acg:Obj:=(fO "fits" "fits" (top 26) (.str "chancehall.plans" 431) 203)
noncomputable def afg:Obj:=(cO "check_plan" "check_plan" 441 84 2 3 205 448)
noncomputable def adN:Obj:=(fO "check_plan" "check_plan" (top 27) (.str "chancehall.plans" 431) 210)
noncomputable def adH:Obj:=(cP "behind_door" "behind_door" 451 91 2 3 212 454)
noncomputable def ab9:Obj:=(fO "behind_door" "behind_door" (top 28) (.str "chancehall.plans" 431) 215)
noncomputable def ae2:Obj:=(tN 460 ["hall", "offer", "leveled", "behind"])
noncomputable def aeF:Obj:=(cO "raised_look" "raised_look" 457 94 3 3 217 464)
noncomputable def ac2:Obj:=(fO "raised_look" "raised_look" (top 29) (.str "chancehall.plans" 431) 222)
noncomputable def ac1:Obj:=(cO "better_door" "better_door" 469 98 2 3 224 475)
noncomputable def adR:Obj:=(fO "better_door" "better_door" (top 31) (.str "chancehall.mending" 467) 229)
noncomputable def ad8:Obj:=(fO "mended" "mended" (top 32) (.str "chancehall.mending" 467) 234)
noncomputable def aex:Obj:=(fO "is_word" "is_word" (top 35) (.str "chancehall.words" 484) 239)
noncomputable def aey:Obj:=(cO "check_head" "check_head" 496 118 2 3 241 501)
noncomputable def afd:Obj:=(fO "check_head" "check_head" (top 37) (.str "chancehall.doors" 494) 246)
noncomputable def agz:Obj:=(fT "check_room_name" "check_room_name" (top 38))
noncomputable def ae7:Obj:=(cO "check_room_name" "check_room_name" 504 123 1 3 248 508)
noncomputable def aej:Obj:=(fO "check_room_name" "check_room_name" (top 38) (.str "chancehall.doors" 494) 253)
noncomputable def aef:Obj:=(cO "check_chance" "check_chance" 511 126 1 3 255 515)
noncomputable def ae6:Obj:=(fO "check_chance" "check_chance" (top 39) (.str "chancehall.doors" 494) 260)
noncomputable def aea:Obj:=(cP "check_pairs" "check_pairs" 518 129 1 3 262 521)
noncomputable def aeE:Obj:=(fO "check_pairs" "check_pairs" (top 40) (.str "chancehall.doors" 494) 265)
noncomputable def aeb:Obj:=(cP "joined_ways" "joined_ways" 524 135 1 3 267 527)
noncomputable def adW:Obj:=(fO "joined_ways" "joined_ways" (top 41) (.str "chancehall.doors" 494) 270)
noncomputable def afY:Obj:=⟨(.type "builtin_function_or_method"),none,(.fields ⟨(.builtin "type.__prepare__") :: (.type "type") :: []⟩),⟨[]⟩⟩
noncomputable def af0 (P:Params):Obj:=⟨(.type "dict"),none,(.dict ⟨dE P "__module__" 537 (.str "chancehall.doors" 494) :: dE P "__qualname__" 539 (.str "Door" 538) :: dE P "__firstlineno__" 541 (.int 140 540) :: dE P "__init__" 550 (.ref 285) :: dE P "ways" 557 (.ref 292) :: dE P "chance_to" 565 (.ref 299) :: dE P "__static_attributes__" 569 (.ref 300) :: []⟩ 7),⟨[]⟩⟩
noncomputable def ago:Obj:=⟨.none,none,(.fields ⟨(.int 142 0) :: (.int 4 0) :: (.ref 284) :: (.int 148 0) :: (.int 4 0) :: (.ref 291) :: (.int 151 0) :: (.int 4 0) :: (.ref 298) :: []⟩),⟨[]⟩⟩
noncomputable def agl:Obj:=⟨(.type "code"),none,(.fields ⟨(.str "Door" 532) :: (.str "Door" 533) :: (.str "/claim/cut.py" 534) :: (.int 140 0) :: (.int 0 0) :: (.int 0 0) :: (.int 0 0) :: (.int 0 0) :: (.ref 275) :: (.bool false) :: (.int 181 0) :: (.ref 276) :: .none :: .none :: .none :: .none :: (.int 535 0) :: (.int 140 0) :: (.str "/claim/cut.py" 536) :: []⟩),⟨[]⟩⟩
noncomputable def agq:Obj:=⟨(.type "frame"),none,.plain,⟨(some (.ref 277)) :: (some (.ref 3)) :: (some (.ref 274)) :: none :: (some (.str "chancehall.doors" 494)) :: none :: (some (.ref 0)) :: []⟩⟩
noncomputable def aeI:Obj:=(cO "__init__" "Door.__init__" 542 142 3 3 279 548)
noncomputable def adZ:Obj:=(fO "__init__" "Door.__init__" (d9 42 0) (.str "chancehall.doors" 494) 284)
noncomputable def afi:Obj:=(fO "ways" "Door.ways" (d9 42 1) (.str "chancehall.doors" 494) 291)
noncomputable def adL:Obj:=(cO "chance_to" "Door.chance_to" 558 151 2 3 293 563)
noncomputable def adC:Obj:=(fO "chance_to" "Door.chance_to" (d9 42 2) (.str "chancehall.doors" 494) 298)
noncomputable def acz (P:Params):Obj:=⟨(.type "dict"),none,(.dict ⟨dE P "__module__" 537 (.str "chancehall.doors" 494) :: dE P "__firstlineno__" 541 (.int 140 540) :: dE P "__init__" 550 (.ref 285) :: dE P "ways" 557 (.ref 292) :: dE P "chance_to" 565 (.ref 299) :: dE P "__static_attributes__" 569 (.ref 300) :: dE P "__dict__" 571 (.ref 303) :: dE P "__weakref__" 573 (.ref 304) :: dE P "__doc__" 574 .none :: []⟩ 4),⟨[]⟩⟩
noncomputable def ac6:Obj:=⟨(.type "type"),none,(.cls ⟨"Door",[(.type "object")],[(.ref 302),(.type "object")],301, "Door",true,[],[(.ref 323),(.ref 342)],false,none,false⟩),⟨none :: none :: (some (.str "Door" 530)) :: (some (.str "Door" 538)) :: (some (.builtin "object.__new__")) :: (some (.bool true)) :: []⟩⟩
noncomputable def adY:Obj:=⟨(.type "getset_descriptor"),none,(.fields ⟨(.str "__dict__" 570) :: (.ref 302) :: (.builtin "function.__dict__") :: (.builtin "function.__dict__#set") :: []⟩),⟨[]⟩⟩
noncomputable def aeB:Obj:=⟨(.type "getset_descriptor"),none,(.fields ⟨(.str "__weakref__" 572) :: (.ref 302) :: (.builtin "ExceptionGroup.__weakref__") :: .none :: []⟩),⟨[]⟩⟩
noncomputable def afw:Obj:=⟨(.type "super"),none,(.fields ⟨(.ref 302) :: (.ref 302) :: (.ref 302) :: []⟩),⟨[]⟩⟩
noncomputable def agp:Obj:=⟨(.type "builtin_function_or_method"),none,(.fields ⟨(.builtin "object.__init_subclass__") :: (.ref 302) :: []⟩),⟨[]⟩⟩
noncomputable def adG:Obj:=⟨(.type "tuple"),none,(.seq ⟨(.ref 302) :: []⟩ 0),⟨[]⟩⟩
noncomputable def agm:Obj:=⟨(.type "builtin_function_or_method"),none,(.fields ⟨(.builtin "type.__prepare__") :: (.type "type") :: []⟩),⟨[]⟩⟩
noncomputable def agA (P:Params):Obj:=⟨(.type "dict"),none,(.dict ⟨dE P "__module__" 584 (.str "chancehall.doors" 494) :: dE P "__qualname__" 586 (.str "Sure" 585) :: dE P "__firstlineno__" 588 (.int 153 587) :: dE P "__init__" 598 (.ref 320) :: dE P "__static_attributes__" 600 (.ref 321) :: []⟩ 5),⟨[]⟩⟩
noncomputable def agv:Obj:=⟨.none,none,(.fields ⟨(.int 155 0) :: (.int 4 0) :: (.ref 319) :: []⟩),⟨[]⟩⟩
noncomputable def agt:Obj:=⟨(.type "code"),none,(.fields ⟨(.str "Sure" 579) :: (.str "Sure" 580) :: (.str "/claim/cut.py" 581) :: (.int 153 0) :: (.int 0 0) :: (.int 0 0) :: (.int 0 0) :: (.int 0 0) :: (.ref 310) :: (.bool false) :: (.int 181 0) :: (.ref 311) :: .none :: .none :: .none :: .none :: (.int 582 0) :: (.int 153 0) :: (.str "/claim/cut.py" 583) :: []⟩),⟨[]⟩⟩
noncomputable def agg:Obj:=⟨(.type "frame"),none,.plain,⟨(some (.ref 312)) :: (some (.ref 3)) :: (some (.ref 309)) :: none :: (some (.str "chancehall.doors" 494)) :: none :: (some (.ref 0)) :: []⟩⟩
noncomputable def acG:Obj:=(cO "__init__" "Sure.__init__" 589 155 4 3 314 596)
noncomputable def adD:Obj:=(fO "__init__" "Sure.__init__" (d9 43 0) (.str "chancehall.doors" 494) 319)
noncomputable def aem (P:Params):Obj:=⟨(.type "dict"),none,(.dict ⟨dE P "__module__" 584 (.str "chancehall.doors" 494) :: dE P "__firstlineno__" 588 (.int 153 587) :: dE P "__init__" 598 (.ref 320) :: dE P "__static_attributes__" 600 (.ref 321) :: dE P "__doc__" 601 .none :: []⟩ 2),⟨[]⟩⟩
noncomputable def aeK:Obj:=⟨(.type "type"),none,(.cls ⟨"Sure",[(.ref 302)],[(.ref 323),(.ref 302),(.type "object")],322, "Sure",true,[],[],false,none,false⟩),⟨(some (.ref 307)) :: none :: (some (.str "Sure" 577)) :: (some (.str "Sure" 585)) :: (some (.builtin "object.__new__")) :: (some (.bool true)) :: []⟩⟩
noncomputable def afK:Obj:=⟨(.type "super"),none,(.fields ⟨(.ref 323) :: (.ref 323) :: (.ref 323) :: []⟩),⟨[]⟩⟩
noncomputable def af6:Obj:=⟨(.type "builtin_function_or_method"),none,(.fields ⟨(.builtin "object.__init_subclass__") :: (.ref 323) :: []⟩),⟨[]⟩⟩
noncomputable def aeN:Obj:=⟨(.type "tuple"),none,(.seq ⟨(.ref 302) :: []⟩ 0),⟨[]⟩⟩
noncomputable def afS:Obj:=⟨(.type "builtin_function_or_method"),none,(.fields ⟨(.builtin "type.__prepare__") :: (.type "type") :: []⟩),⟨[]⟩⟩
noncomputable def agk (P:Params):Obj:=⟨(.type "dict"),none,(.dict ⟨dE P "__module__" 611 (.str "chancehall.doors" 494) :: dE P "__qualname__" 613 (.str "Mixed" 612) :: dE P "__firstlineno__" 615 (.int 159 614) :: dE P "__init__" 625 (.ref 339) :: dE P "__static_attributes__" 627 (.ref 340) :: []⟩ 5),⟨[]⟩⟩
noncomputable def agh:Obj:=⟨.none,none,(.fields ⟨(.int 161 0) :: (.int 4 0) :: (.ref 338) :: []⟩),⟨[]⟩⟩
noncomputable def afR:Obj:=⟨(.type "code"),none,(.fields ⟨(.str "Mixed" 606) :: (.str "Mixed" 607) :: (.str "/claim/cut.py" 608) :: (.int 159 0) :: (.int 0 0) :: (.int 0 0) :: (.int 0 0) :: (.int 0 0) :: (.ref 329) :: (.bool false) :: (.int 181 0) :: (.ref 330) :: .none :: .none :: .none :: .none :: (.int 609 0) :: (.int 159 0) :: (.str "/claim/cut.py" 610) :: []⟩),⟨[]⟩⟩
noncomputable def afX:Obj:=⟨(.type "frame"),none,.plain,⟨(some (.ref 331)) :: (some (.ref 3)) :: (some (.ref 328)) :: none :: (some (.str "chancehall.doors" 494)) :: none :: (some (.ref 0)) :: []⟩⟩
noncomputable def aeU:Obj:=(cO "__init__" "Mixed.__init__" 616 161 4 3 333 623)
noncomputable def aeM:Obj:=(fO "__init__" "Mixed.__init__" (d9 44 0) (.str "chancehall.doors" 494) 338)
noncomputable def adk (P:Params):Obj:=⟨(.type "dict"),none,(.dict ⟨dE P "__module__" 611 (.str "chancehall.doors" 494) :: dE P "__firstlineno__" 615 (.int 159 614) :: dE P "__init__" 625 (.ref 339) :: dE P "__static_attributes__" 627 (.ref 340) :: dE P "__doc__" 628 .none :: []⟩ 2),⟨[]⟩⟩
noncomputable def aed:Obj:=⟨(.type "type"),none,(.cls ⟨"Mixed",[(.ref 302)],[(.ref 342),(.ref 302),(.type "object")],341, "Mixed",true,[],[(.ref 361),(.ref 378)],false,none,false⟩),⟨(some (.ref 326)) :: none :: (some (.str "Mixed" 604)) :: (some (.str "Mixed" 612)) :: (some (.builtin "object.__new__")) :: (some (.bool true)) :: []⟩⟩
noncomputable def agd:Obj:=⟨(.type "super"),none,(.fields ⟨(.ref 342) :: (.ref 342) :: (.ref 342) :: []⟩),⟨[]⟩⟩
noncomputable def agw:Obj:=⟨(.type "builtin_function_or_method"),none,(.fields ⟨(.builtin "object.__init_subclass__") :: (.ref 342) :: []⟩),⟨[]⟩⟩
noncomputable def acy:Obj:=⟨(.type "tuple"),none,(.seq ⟨(.ref 342) :: []⟩ 0),⟨[]⟩⟩
noncomputable def agc:Obj:=⟨(.type "builtin_function_or_method"),none,(.fields ⟨(.builtin "type.__prepare__") :: (.type "type") :: []⟩),⟨[]⟩⟩
noncomputable def agj (P:Params):Obj:=⟨(.type "dict"),none,(.dict ⟨dE P "__module__" 638 (.str "chancehall.doors" 494) :: dE P "__qualname__" 640 (.str "Toss" 639) :: dE P "__firstlineno__" 642 (.int 165 641) :: dE P "__init__" 654 (.ref 358) :: dE P "__static_attributes__" 655 (.ref 359) :: []⟩ 5),⟨[]⟩⟩
noncomputable def afP:Obj:=⟨.none,none,(.fields ⟨(.int 167 0) :: (.int 4 0) :: (.ref 357) :: []⟩),⟨[]⟩⟩
noncomputable def afO:Obj:=⟨(.type "code"),none,(.fields ⟨(.str "Toss" 633) :: (.str "Toss" 634) :: (.str "/claim/cut.py" 635) :: (.int 165 0) :: (.int 0 0) :: (.int 0 0) :: (.int 0 0) :: (.int 0 0) :: (.ref 348) :: (.bool false) :: (.int 181 0) :: (.ref 349) :: .none :: .none :: .none :: .none :: (.int 636 0) :: (.int 165 0) :: (.str "/claim/cut.py" 637) :: []⟩),⟨[]⟩⟩
noncomputable def afE:Obj:=⟨(.type "frame"),none,.plain,⟨(some (.ref 350)) :: (some (.ref 3)) :: (some (.ref 347)) :: none :: (some (.str "chancehall.doors" 494)) :: none :: (some (.ref 0)) :: []⟩⟩
noncomputable def ad7:Obj:=(tN 646 ["self", "name", "pay", "chance", "room", "other"])
noncomputable def ae8:Obj:=(cO "__init__" "Toss.__init__" 643 167 6 3 352 652)
noncomputable def acA:Obj:=(fO "__init__" "Toss.__init__" (d9 45 0) (.str "chancehall.doors" 494) 357)
noncomputable def ac4 (P:Params):Obj:=⟨(.type "dict"),none,(.dict ⟨dE P "__module__" 638 (.str "chancehall.doors" 494) :: dE P "__firstlineno__" 642 (.int 165 641) :: dE P "__init__" 654 (.ref 358) :: dE P "__static_attributes__" 655 (.ref 359) :: dE P "__doc__" 656 .none :: []⟩ 2),⟨[]⟩⟩
noncomputable def aeg:Obj:=⟨(.type "type"),none,(.cls ⟨"Toss",[(.ref 342)],[(.ref 361),(.ref 342),(.ref 302),(.type "object")],360, "Toss",true,[],[],false,none,false⟩),⟨(some (.ref 345)) :: none :: (some (.str "Toss" 631)) :: (some (.str "Toss" 639)) :: (some (.builtin "object.__new__")) :: (some (.bool true)) :: []⟩⟩
noncomputable def afW:Obj:=⟨(.type "super"),none,(.fields ⟨(.ref 361) :: (.ref 361) :: (.ref 361) :: []⟩),⟨[]⟩⟩
noncomputable def afC:Obj:=⟨(.type "builtin_function_or_method"),none,(.fields ⟨(.builtin "object.__init_subclass__") :: (.ref 361) :: []⟩),⟨[]⟩⟩
noncomputable def aeT:Obj:=⟨(.type "tuple"),none,(.seq ⟨(.ref 342) :: []⟩ 0),⟨[]⟩⟩
noncomputable def afA:Obj:=⟨(.type "builtin_function_or_method"),none,(.fields ⟨(.builtin "type.__prepare__") :: (.type "type") :: []⟩),⟨[]⟩⟩
noncomputable def afZ (P:Params):Obj:=⟨(.type "dict"),none,(.dict ⟨dE P "__module__" 666 (.str "chancehall.doors" 494) :: dE P "__qualname__" 668 (.str "Even" 667) :: dE P "__firstlineno__" 670 (.int 171 669) :: dE P "__init__" 676 (.ref 375) :: dE P "__static_attributes__" 677 (.ref 376) :: []⟩ 5),⟨[]⟩⟩
noncomputable def afI:Obj:=⟨.none,none,(.fields ⟨(.int 173 0) :: (.int 4 0) :: (.ref 374) :: []⟩),⟨[]⟩⟩
noncomputable def agx:Obj:=⟨(.type "code"),none,(.fields ⟨(.str "Even" 661) :: (.str "Even" 662) :: (.str "/claim/cut.py" 663) :: (.int 171 0) :: (.int 0 0) :: (.int 0 0) :: (.int 0 0) :: (.int 0 0) :: (.ref 367) :: (.bool false) :: (.int 181 0) :: (.ref 368) :: .none :: .none :: .none :: .none :: (.int 664 0) :: (.int 171 0) :: (.str "/claim/cut.py" 665) :: []⟩),⟨[]⟩⟩
noncomputable def afG:Obj:=⟨(.type "frame"),none,.plain,⟨(some (.ref 369)) :: (some (.ref 3)) :: (some (.ref 366)) :: none :: (some (.str "chancehall.doors" 494)) :: none :: (some (.ref 0)) :: []⟩⟩
noncomputable def aeH:Obj:=(cP "__init__" "Even.__init__" 671 173 4 3 371 674)
noncomputable def adh:Obj:=(fO "__init__" "Even.__init__" (d9 46 0) (.str "chancehall.doors" 494) 374)
noncomputable def aeY (P:Params):Obj:=⟨(.type "dict"),none,(.dict ⟨dE P "__module__" 666 (.str "chancehall.doors" 494) :: dE P "__firstlineno__" 670 (.int 171 669) :: dE P "__init__" 676 (.ref 375) :: dE P "__static_attributes__" 677 (.ref 376) :: dE P "__doc__" 678 .none :: []⟩ 2),⟨[]⟩⟩
noncomputable def acB:Obj:=⟨(.type "type"),none,(.cls ⟨"Even",[(.ref 342)],[(.ref 378),(.ref 342),(.ref 302),(.type "object")],377, "Even",true,[],[],false,none,false⟩),⟨(some (.ref 364)) :: none :: (some (.str "Even" 659)) :: (some (.str "Even" 667)) :: (some (.builtin "object.__new__")) :: (some (.bool true)) :: []⟩⟩
noncomputable def afQ:Obj:=⟨(.type "super"),none,(.fields ⟨(.ref 378) :: (.ref 378) :: (.ref 378) :: []⟩),⟨[]⟩⟩
noncomputable def af4:Obj:=⟨(.type "builtin_function_or_method"),none,(.fields ⟨(.builtin "object.__init_subclass__") :: (.ref 378) :: []⟩),⟨[]⟩⟩
noncomputable def acR:Obj:=(cO "check_share" "check_share" 683 176 1 3 381 687)
noncomputable def adw:Obj:=(fO "check_share" "check_share" (top 48) (.str "chancehall.halls" 681) 386)
noncomputable def adQ:Obj:=(cO "numbers_of" "numbers_of" 690 179 1 3 388 697)
noncomputable def aeW:Obj:=(fO "numbers_of" "numbers_of" (top 49) (.str "chancehall.halls" 681) 393)
noncomputable def adp:Obj:=(tN 703 ["door", "numbers", "numbered", "name", "chance"])
noncomputable def aeA:Obj:=(cO "numbered_ways" "numbered_ways" 700 187 2 3 395 708)
noncomputable def afe:Obj:=(fO "numbered_ways" "numbered_ways" (top 50) (.str "chancehall.halls" 681) 400)
noncomputable def ace:Obj:=(tN 714 ["doors", "numbers", "taken", "told", "door"])
noncomputable def aez:Obj:=(cO "offers_of" "offers_of" 711 194 2 3 402 719)
noncomputable def ad4:Obj:=(fO "offers_of" "offers_of" (top 51) (.str "chancehall.halls" 681) 407)
noncomputable def afx:Obj:=⟨(.type "builtin_function_or_method"),none,(.fields ⟨(.builtin "type.__prepare__") :: (.type "type") :: []⟩),⟨[]⟩⟩
noncomputable def af2 (P:Params):Obj:=⟨(.type "dict"),none,(.dict ⟨dE P "__module__" 729 (.str "chancehall.halls" 681) :: dE P "__qualname__" 731 (.str "Hall" 730) :: dE P "__firstlineno__" 733 (.int 203 732) :: dE P "__init__" 739 (.ref 420) :: dE P "size" 746 (.ref 427) :: dE P "names" 753 (.ref 434) :: dE P "place" 761 (.ref 441) :: dE P "check_room" 769 (.ref 448) :: dE P "door_at" 778 (.ref 455) :: dE P "offers" 784 (.ref 460) :: dE P "__static_attributes__" 788 (.ref 461) :: []⟩ 11),⟨[]⟩⟩
noncomputable def af8:Obj:=⟨.none,none,(.fields ⟨(.int 205 0) :: (.int 4 0) :: (.ref 419) :: (.int 211 0) :: (.int 4 0) :: (.ref 426) :: (.int 214 0) :: (.int 4 0) :: (.ref 433) :: (.int 217 0) :: (.int 4 0) :: (.ref 440) :: (.int 222 0) :: (.int 4 0) :: (.ref 447) :: (.int 226 0) :: (.int 4 0) :: (.ref 454) :: (.int 229 0) :: (.int 4 0) :: (.ref 459) :: []⟩),⟨[]⟩⟩
noncomputable def afL:Obj:=⟨(.type "code"),none,(.fields ⟨(.str "Hall" 724) :: (.str "Hall" 725) :: (.str "/claim/cut.py" 726) :: (.int 203 0) :: (.int 0 0) :: (.int 0 0) :: (.int 0 0) :: (.int 0 0) :: (.ref 412) :: (.bool false) :: (.int 181 0) :: (.ref 413) :: .none :: .none :: .none :: .none :: (.int 727 0) :: (.int 203 0) :: (.str "/claim/cut.py" 728) :: []⟩),⟨[]⟩⟩
noncomputable def af9:Obj:=⟨(.type "frame"),none,.plain,⟨(some (.ref 414)) :: (some (.ref 3)) :: (some (.ref 411)) :: none :: (some (.str "chancehall.halls" 681)) :: none :: (some (.ref 0)) :: []⟩⟩
noncomputable def aeO:Obj:=(cP "__init__" "Hall.__init__" 734 205 3 3 416 737)
noncomputable def acd:Obj:=(fO "__init__" "Hall.__init__" (d9 52 0) (.str "chancehall.halls" 681) 419)
noncomputable def afb:Obj:=(fO "size" "Hall.size" (d9 52 1) (.str "chancehall.halls" 681) 426)
noncomputable def acL:Obj:=(fO "names" "Hall.names" (d9 52 2) (.str "chancehall.halls" 681) 433)
noncomputable def acQ:Obj:=(fO "place" "Hall.place" (d9 52 3) (.str "chancehall.halls" 681) 440)
noncomputable def agi:Obj:=(fT "check_room" "Hall.check_room" (d9 52 4))
noncomputable def ad0:Obj:=(cO "check_room" "Hall.check_room" 762 222 2 3 442 767)
noncomputable def adz:Obj:=(fO "check_room" "Hall.check_room" (d9 52 4) (.str "chancehall.halls" 681) 447)
noncomputable def aco:Obj:=(cO "door_at" "Hall.door_at" 770 226 3 3 449 776)
noncomputable def acH:Obj:=(fO "door_at" "Hall.door_at" (d9 52 5) (.str "chancehall.halls" 681) 454)
noncomputable def adT:Obj:=(cP "offers" "Hall.offers" 779 229 2 3 456 782)
noncomputable def aes:Obj:=(fO "offers" "Hall.offers" (d9 52 6) (.str "chancehall.halls" 681) 459)
noncomputable def adn (P:Params):Obj:=⟨(.type "dict"),none,(.dict ⟨dE P "__module__" 729 (.str "chancehall.halls" 681) :: dE P "__firstlineno__" 733 (.int 203 732) :: dE P "__init__" 739 (.ref 420) :: dE P "size" 746 (.ref 427) :: dE P "names" 753 (.ref 434) :: dE P "place" 761 (.ref 441) :: dE P "check_room" 769 (.ref 448) :: dE P "door_at" 778 (.ref 455) :: dE P "offers" 784 (.ref 460) :: dE P "__static_attributes__" 788 (.ref 461) :: dE P "__dict__" 790 (.ref 464) :: dE P "__weakref__" 792 (.ref 465) :: dE P "__doc__" 793 .none :: []⟩ 4),⟨[]⟩⟩
noncomputable def ael:Obj:=⟨(.type "type"),none,(.cls ⟨"Hall",[(.type "object")],[(.ref 463),(.type "object")],462, "Hall",true,[],[],false,none,false⟩),⟨none :: none :: (some (.str "Hall" 722)) :: (some (.str "Hall" 730)) :: (some (.builtin "object.__new__")) :: (some (.bool true)) :: []⟩⟩
noncomputable def ac5:Obj:=⟨(.type "getset_descriptor"),none,(.fields ⟨(.str "__dict__" 789) :: (.ref 463) :: (.builtin "function.__dict__") :: (.builtin "function.__dict__#set") :: []⟩),⟨[]⟩⟩
noncomputable def afk:Obj:=⟨(.type "getset_descriptor"),none,(.fields ⟨(.str "__weakref__" 791) :: (.ref 463) :: (.builtin "ExceptionGroup.__weakref__") :: .none :: []⟩),⟨[]⟩⟩
noncomputable def afU:Obj:=⟨(.type "super"),none,(.fields ⟨(.ref 463) :: (.ref 463) :: (.ref 463) :: []⟩),⟨[]⟩⟩
noncomputable def af7:Obj:=⟨(.type "builtin_function_or_method"),none,(.fields ⟨(.builtin "object.__init_subclass__") :: (.ref 463) :: []⟩),⟨[]⟩⟩
noncomputable def ae4:Obj:=(cO "_law_cell" "_law_cell" 798 233 2 3 468 803)
noncomputable def adx:Obj:=(fO "_law_cell" "_law_cell" (top 54) (.str "law_chancehall_k25_a_plan_mended" 796) 473)
noncomputable def adP:Obj:=(tN 809 ["_law_cell_here", "_law_many", "_law_found", "_law_number", "_law_digits", "_law_k"])
noncomputable def acT:Obj:=(cO "_law_stream" "_law_stream" 806 235 2 3 475 815)
noncomputable def acO:Obj:=(fO "_law_stream" "_law_stream" (top 55) (.str "law_chancehall_k25_a_plan_mended" 796) 480)
noncomputable def ad9:Obj:=(tN 821 ["_law_one", "_law_other", "_law_low", "_law_high"])
noncomputable def acu:Obj:=(cO "_law_gcd" "_law_gcd" 818 246 2 3 482 825)
noncomputable def adX:Obj:=(fO "_law_gcd" "_law_gcd" (top 56) (.str "law_chancehall_k25_a_plan_mended" 796) 487)
noncomputable def adV:Obj:=(tN 831 ["_law_top", "_law_bottom", "_law_common"])
noncomputable def aeZ:Obj:=(cO "_law_ratio" "_law_ratio" 828 251 2 3 489 834)
noncomputable def aeX:Obj:=(fO "_law_ratio" "_law_ratio" (top 57) (.str "law_chancehall_k25_a_plan_mended" 796) 494)
noncomputable def aev:Obj:=(cP "_law_names" "_law_names" 837 254 2 3 496 840)
noncomputable def adF:Obj:=(fO "_law_names" "_law_names" (top 58) (.str "law_chancehall_k25_a_plan_mended" 796) 499)
noncomputable def afa:Obj:=(tN 846 ["_law_cell_here", "_law_xs", "_law_bottom"])
noncomputable def aeC:Obj:=(cO "_law_share" "_law_share" 843 263 1 3 501 849)
noncomputable def adJ:Obj:=(fO "_law_share" "_law_share" (top 59) (.str "law_chancehall_k25_a_plan_mended" 796) 506)
noncomputable def acn:Obj:=(tN 855 ["_law_cell_here", "_law_x", "_law_y"])
noncomputable def acf:Obj:=(cO "_law_pay" "_law_pay" 852 267 3 3 508 858)
noncomputable def acY:Obj:=(fO "_law_pay" "_law_pay" (top 60) (.str "law_chancehall_k25_a_plan_mended" 796) 513)
noncomputable def adg:Obj:=(cP "_law_door" "_law_door" 861 275 2 3 515 864)
noncomputable def acP:Obj:=(fO "_law_door" "_law_door" (top 61) (.str "law_chancehall_k25_a_plan_mended" 796) 518)
noncomputable def adM:Obj:=(cP "_law_doors" "_law_doors" 867 292 4 3 520 870)
noncomputable def aep:Obj:=(fO "_law_doors" "_law_doors" (top 62) (.str "law_chancehall_k25_a_plan_mended" 796) 523)
noncomputable def adS:Obj:=(cP "_law_built" "_law_built" 873 306 3 3 525 876)
noncomputable def ad1:Obj:=(fO "_law_built" "_law_built" (top 63) (.str "law_chancehall_k25_a_plan_mended" 796) 528)
noncomputable def acK:Obj:=(cP "_law_hall" "_law_hall" 879 316 3 3 530 882)
noncomputable def aeS:Obj:=(fO "_law_hall" "_law_hall" (top 64) (.str "law_chancehall_k25_a_plan_mended" 796) 533)
noncomputable def afj:Obj:=(tN 888 ["_law_cell_here", "_law_rooms", "_law_xs", "_law_found", "_law_k"])
noncomputable def aeo:Obj:=(cO "_law_chosen" "_law_chosen" 885 323 2 3 535 893)
noncomputable def aei:Obj:=(fO "_law_chosen" "_law_chosen" (top 65) (.str "law_chancehall_k25_a_plan_mended" 796) 540)
noncomputable def acU:Obj:=(tN 899 ["_law_share_here", "_law_door_here", "_law_worths_here", "_law_top", "_law_bottom", "_law_room", "_law_chance", "_law_part"])
noncomputable def aeR:Obj:=(cO "_law_look" "_law_look" 896 332 3 3 542 907)
noncomputable def aee:Obj:=(fO "_law_look" "_law_look" (top 66) (.str "law_chancehall_k25_a_plan_mended" 796) 547)
noncomputable def adU:Obj:=(cO "_law_below" "_law_below" 910 342 2 3 549 915)
noncomputable def adv:Obj:=(fO "_law_below" "_law_below" (top 67) (.str "law_chancehall_k25_a_plan_mended" 796) 554)
noncomputable def adf:Obj:=(cP "_law_taken" "_law_taken" 918 344 3 3 556 921)
noncomputable def acS:Obj:=(fO "_law_taken" "_law_taken" (top 68) (.str "law_chancehall_k25_a_plan_mended" 796) 559)
noncomputable def acX:Obj:=(cP "_law_step" "_law_step" 924 352 5 3 561 927)
noncomputable def adb:Obj:=(fO "_law_step" "_law_step" (top 69) (.str "law_chancehall_k25_a_plan_mended" 796) 564)
noncomputable def adE:Obj:=(cO "_law_size" "_law_size" 930 362 1 3 566 935)
noncomputable def acM:Obj:=(fO "_law_size" "_law_size" (top 70) (.str "law_chancehall_k25_a_plan_mended" 796) 571)
noncomputable def acI:Obj:=(cP "_law_worths" "_law_worths" 938 369 2 3 573 941)
noncomputable def ae1:Obj:=(fO "_law_worths" "_law_worths" (top 71) (.str "law_chancehall_k25_a_plan_mended" 796) 576)
noncomputable def ae0:Obj:=(cO "_law_odd" "_law_odd" 944 374 2 3 578 949)
noncomputable def acv:Obj:=(fO "_law_odd" "_law_odd" (top 72) (.str "law_chancehall_k25_a_plan_mended" 796) 583)
noncomputable def aen:Obj:=(tN 955 ["_law_cell_here", "_law_plan", "_law_rooms", "_law_xs", "_law_some", "_law_at", "_law_later", "_law_found"])
noncomputable def ac7:Obj:=(cO "_law_spoilt" "_law_spoilt" 952 378 3 3 585 963)
noncomputable def aeh:Obj:=(fO "_law_spoilt" "_law_spoilt" (top 73) (.str "law_chancehall_k25_a_plan_mended" 796) 590)
noncomputable def afc:Obj:=(tN 969 ["_law_hall_here", "_law_plan", "_law_worths_here", "e"])
noncomputable def acp:Obj:=(cO "_law_refused" "_law_refused" 966 392 3 3 592 973)
noncomputable def acq:Obj:=(fO "_law_refused" "_law_refused" (top 74) (.str "law_chancehall_k25_a_plan_mended" 796) 597)
noncomputable def tr1 (P:Params):BT:=(.node (boot_o_0 P) (.node (boot_o_1 P) (.node (afz P) (.node (boot_o_7 P) (.node tE (.node q31 (.node fE (.node acs (.node tE (lf tE) .nil) (lf (tN 686 ["share"]))) (.node tE (.node acG (lf (fT "_law_worths" "_law_worths" (top 71))) .nil) (lf ad0))) (.node q95 (.node fE (.node fE (lf fE) .nil) (lf af9)) (.node ac2 (lf afE) (lf (fT "_law_stream" "_law_stream" (top 55)))))) (.node q47 (.node (q79 P) (.node ac3 (.node adW (lf (fT "_law_built" "_law_built" (top 63))) .nil) (lf (fT "numbered_ways" "numbered_ways" (top 50)))) (.node (tN 444 ["hall", "plan", "room", "thing"]) (.node (tN 619 ["self", "name", "pay", "pairs"]) (lf aeh) .nil) (lf ael))) (.node (tN 318 ["self", "room"]) (.node tE (.node adY (lf adf) .nil) (lf tE)) (.node (cP "is_word" "is_word" 488 113 1 3 236 491) (lf tE) (lf aeX))))) (.node q23 (.node fE (.node q71 (.node acN (.node fE (lf acP) .nil) (lf tE)) (.node fE (.node afS (lf ae0) .nil) (lf acH))) (.node afv (.node (tN 393 ["one", "other"]) (.node (tN 561 ["self", "room"]) (lf (tN 913 ["_law_one", "_law_other"])) .nil) (lf (tN 743 ["self"]))) (.node tE (lf tE) (lf acu)))) (.node (q55 P) (.node q87 (.node tE (.node tE (lf tE) .nil) (lf aez)) (.node adH (lf agd) (lf tE))) (.node afT (.node ae3 (.node agv (lf fE) .nil) (lf (fT "place" "Hall.place" (d9 52 3)))) (.node afd (lf adh) (lf afa)))))) (.node o11 (.node (fT "_wall" "_wall" (top 0)) (.node q35 (.node (q67 P) (.node tE (.node (fT "check_chance" "check_chance" (top 39)) (lf tE) .nil) (lf adw)) (.node (fT "greatest" "greatest" (top 24)) (.node aeK (lf fE) .nil) (lf (tN 773 ["self", "room", "name"])))) (.node q99 (.node (cO "minus" "minus" 382 58 2 3 158 387) (.node (cO "ways" "Door.ways" 551 148 1 3 286 555) (lf aeR) .nil) (lf aeO)) (.node tE (lf tE) (lf fE)))) (.node fE (.node q83 (.node tE (.node tE (lf fE) .nil) (lf fE)) (.node adN (.node aeM (lf tE) .nil) (lf af7))) (.node adi (.node tE (.node adG (lf (fT "_law_step" "_law_step" (top 69))) .nil) (lf tE)) (.node (tN 499 ["name", "pay"]) (lf tE) (lf aev))))) (.node q27 (.node (q43 P) (.node fE (.node (tN 359 ["top", "bottom", "common"]) (.node tE (lf adM) .nil) (lf tE)) (.node (cO "fits" "fits" 433 80 2 3 198 438) (.node afR (lf aen) .nil) (lf adT))) (.node agb (.node adu (.node adC (lf adv) .nil) (lf afb)) (.node ad8 (lf afC) (lf adV)))) (.node q59 (.node fE (.node (fT "plus" "plus" (top 17)) (.node (fT "__init__" "Door.__init__" (d9 42 0)) (lf (fT "_law_chosen" "_law_chosen" (top 65))) .nil) (lf (af2 P))) (.node ae2 (lf (agj P)) (lf tE))) (.node (tN 333 ["thing"]) (.node tE (.node fE (lf adE) .nil) (lf fE)) (.node tE (lf afQ) (lf adJ))))))) (.node (boot_o_5 P) (.node (boot_o_9 P) (.node (tN 190 ["k"]) (.node q33 (.node q65 (.node fE (.node (tN 514 ["chance"]) (lf acf) .nil) (lf (fT "check_share" "check_share" (top 48)))) (.node (tN 425 ["fractions", "found", "one"]) (.node (tN 599 ["leads"]) (lf ae1) .nil) (lf tE))) (.node (tN 298 ["room"]) (.node tE (.node tE (lf tE) .nil) (lf fE)) (.node fE (lf fE) (lf acO)))) (.node (q49 P) (.node q81 (.node fE (.node afY (lf ad1) .nil) (lf afe)) (.node (fT "check_plan" "check_plan" (top 27)) (.node (fT "__init__" "Mixed.__init__" (d9 44 0)) (lf fE) .nil) (lf afk))) (.node (fT "__init__" "NoPlan.__init__" (d9 8 0)) (.node (cO "under" "under" 398 62 2 3 172 403) (.node afw (lf tE) .nil) (lf (cO "names" "Hall.names" 747 214 1 3 428 751))) (.node tE (lf agx) (lf fE))))) (.node tE (.node q41 (.node (q73 P) (.node tE (.node aea (lf fE) .nil) (lf adQ)) (.node tE (.node tE (lf tE) .nil) (lf fE))) (.node tE (.node (fT "times" "times" (top 19)) (.node (fT "chance_to" "Door.chance_to" (d9 42 2)) (lf (fT "_law_below" "_law_below" (top 67))) .nil) (lf (fT "size" "Hall.size" (d9 52 1)))) (.node (fT "mended" "mended" (top 32)) (lf aeg) (lf tE)))) (.node q57 (.node q89 (.node (tN 377 ["one", "other"]) (.node (tN 545 ["self", "name", "pay"]) (lf afj) .nil) (lf tE)) (.node tE (lf acy) (lf ae4))) (.node tE (.node fE (.node agg (lf tE) .nil) (lf acQ)) (.node fE (lf (aeY P)) (lf (fT "_law_share" "_law_share" (top 59)))))))) (.node o13 (.node q21 (.node (q37 P) (.node q69 (.node (cO "divisor" "divisor" 337 28 2 3 128 345) (.node ae6 (lf (fT "_law_door" "_law_door" (top 61))) .nil) (lf fE)) (.node ac0 (.node af6 (lf tE) .nil) (lf (fT "door_at" "Hall.door_at" (d9 52 5))))) (.node afN (.node tE (.node tE (lf tE) .nil) (lf tE)) (.node ac1 (lf ae8) (lf tE)))) (.node q53 (.node (q85 P) (.node (cO "is_ratio" "is_ratio" 365 48 1 3 144 371) (.node agl (lf acK) .nil) (lf tE)) (.node fE (.node (adk P) (lf acp) .nil) (lf fE))) (.node (aec P) (.node (fT "level" "level" (top 22)) (.node (agA P) (lf adb) .nil) (lf (tN 757 ["self", "name"]))) (.node (fT "check_head" "check_head" (top 37)) (lf (fT "__init__" "Even.__init__" (d9 46 0))) (lf tE))))) (.node tE (.node q45 (.node q77 (.node (fT "ratio" "ratio" (top 15)) (.node (fT "joined_ways" "joined_ways" (top 41)) (lf tE) .nil) (lf adp)) (.node tE (.node tE (lf (fT "_law_spoilt" "_law_spoilt" (top 73))) .nil) (lf (tN 785 ["numbers", "offered", "share"])))) (.node tE (.node fE (.node (acz P) (lf fE) .nil) (lf fE)) (.node fE (lf afA) (lf (fT "_law_ratio" "_law_ratio" (top 57)))))) (.node (q61 P) (.node tE (.node ae9 (.node adZ (lf aei) .nil) (lf af8)) (.node (fT "raised_look" "raised_look" (top 29)) (lf afP) (lf adP))) (.node (fT "is_whole" "is_whole" (top 10)) (.node (cO "total" "total" 414 70 1 3 184 419) (.node tE (lf tE) .nil) (lf tE)) (.node ae7 (lf tE) (lf fE)))))))) (.node (boot_o_2 P) (.node (boot_o_4 P) (.node (boot_o_8 P) (.node fE (.node q32 (.node q64 (.node tE (.node fE (lf (fT "_law_pay" "_law_pay" (top 60))) .nil) (lf tE)) (.node fE (.node adD (lf acI) .nil) (lf adz))) (.node q96 (.node (tN 385 ["one", "other"]) (.node (tN 554 ["self"]) (lf acU) .nil) (lf tE)) (.node tE (lf tE) (lf acT)))) (.node q48 (.node q80 (.node tE (.node tE (lf adS) .nil) (lf aeA)) (.node tE (.node tE (lf tE) .nil) (lf ac5))) (.node tE (.node (fT "under" "under" (top 20)) (.node aeB (lf acS) .nil) (lf (fT "names" "Hall.names" (d9 52 2)))) (.node aex (lf afI) (lf tE))))) (.node (q24 P) (.node q40 (.node q72 (.node ade (.node (fT "check_pairs" "check_pairs" (top 40)) (lf tE) .nil) (lf (fT "numbers_of" "numbers_of" (top 49)))) (.node (tN 436 ["thing", "many"]) (.node (agk P) (lf acv) .nil) (lf tE))) (.node (af3 P) (.node tE (.node tE (lf tE) .nil) (lf tE)) (.node fE (lf (ac4 P)) (lf adX)))) (.node q56 (.node q88 (.node fE (.node fE (lf fE) .nil) (lf ad4)) (.node ab9 (lf agw) (lf (fT "_law_cell" "_law_cell" (top 54))))) (.node aga (.node tE (.node agt (lf (tN 933 ["_law_cell_here", "_law_xs"])) .nil) (lf (cO "place" "Hall.place" 754 217 2 3 435 759))) (.node tE (lf tE) (lf tE)))))) (.node acC (.node (cO "_wall" "_wall" 187 1 1 3 15 191) (.node q36 (.node q68 (.node (fT "divisor" "divisor" (top 11)) (.node aef (lf fE) .nil) (lf tE)) (.node (cO "greatest" "greatest" 422 73 1 3 191 428) (.node afK (lf (tN 947 ["_law_cell_here", "_law_many"])) .nil) (lf tE))) (.node af5 (.node ach (.node afi (lf aee) .nil) (lf acd)) (.node (fT "better_door" "better_door" (top 31)) (lf (fT "__init__" "Toss.__init__" (d9 45 0))) (lf ad9)))) (.node q52 (.node q84 (.node (fT "is_ratio" "is_ratio" (top 16)) (.node ago (lf (fT "_law_hall" "_law_hall" (top 64))) .nil) (lf ace)) (.node tE (.node (tN 626 ["leads"]) (lf (fT "_law_refused" "_law_refused" (top 74))) .nil) (lf tE))) (.node (tN 323 ["room"]) (.node fE (.node agm (lf acX) .nil) (lf fE)) (.node tE (lf fE) (lf adF))))) (.node q28 (.node q44 (.node q76 (.node tE (.node fE (lf aep) .nil) (lf fE)) (.node acg (.node afX (lf tE) .nil) (lf aes))) (.node agu (.node tE (.node (tN 566 ["leads", "name", "pay"]) (lf tE) .nil) (lf tE)) (.node tE (lf aeT) (lf tE)))) (.node q60 (.node (tN 293 ["self", "room"]) (.node (cO "plus" "plus" 374 56 2 3 151 379) (.node aeI (lf aeo) .nil) (lf tE)) (.node tE (lf tE) (lf fE))) (.node tE (.node (fT "total" "total" (top 23)) (.node (tN 592 ["self", "name", "pay", "room"]) (lf acM) .nil) (lf (tN 765 ["self", "room"]))) (.node agz (lf af4) (lf tE))))))) (.node (boot_o_6 P) (.node (boot_o_10 P) (.node tE (.node q34 (.node tE (.node afh (.node tE (lf acY) .nil) (lf acR)) (.node tE (.node (aem P) (lf tE) .nil) (lf fE))) (.node (q98 P) (.node (fT "minus" "minus" (top 18)) (.node (fT "ways" "Door.ways" (d9 42 1)) (lf (fT "_law_look" "_law_look" (top 66))) .nil) (lf (fT "__init__" "Hall.__init__" (d9 52 0)))) (.node (tN 472 ["seen", "door", "most"]) (lf ad7) (lf tE)))) (.node tE (.node q82 (.node (tN 368 ["thing", "top", "bottom"]) (.node (af0 P) (lf tE) .nil) (lf tE)) (.node afg (.node aeU (lf afc) .nil) (lf afU))) (.node adq (.node adl (.node agp (lf fE) .nil) (lf acL)) (.node fE (lf afG) (lf (fT "_law_names" "_law_names" (top 58))))))) (.node fE (.node tE (.node tE (.node fE (.node aeE (lf (fT "_law_doors" "_law_doors" (top 62))) .nil) (lf aeW)) (.node (fT "fits" "fits" (top 26)) (.node agh (lf fE) .nil) (lf (fT "offers" "Hall.offers" (d9 52 6))))) (.node afV (.node (cO "times" "times" 390 60 2 3 165 395) (.node adL (lf adU) .nil) (lf (cO "size" "Hall.size" 740 211 1 3 421 744))) (.node (cP "mended" "mended" 478 103 3 3 231 481) (lf afW) (lf fE)))) (.node q58 (.node tE (.node tE (.node tE (lf tE) .nil) (lf afx)) (.node fE (lf agc) (lf adx))) (.node fE (.node (tN 417 ["fractions", "leveled"]) (.node tE (lf (fT "_law_size" "_law_size" (top 70))) .nil) (lf tE)) (.node (tN 507 ["room"]) (lf acB) (lf aeC)))))) (.node o14 (.node q22 (.node tE (.node q70 (.node acD (.node tE (lf adg) .nil) (lf (tN 693 ["rooms", "numbers", "room", "name"]))) (.node tE (.node aeN (lf (fT "_law_odd" "_law_odd" (top 72))) .nil) (lf aco))) (.node aeu (.node fE (.node fE (lf fE) .nil) (lf fE)) (.node adR (lf acA) (lf (fT "_law_gcd" "_law_gcd" (top 56)))))) (.node tE (.node tE (.node acV (.node agq (lf aeS) .nil) (lf (fT "offers_of" "offers_of" (top 51)))) (.node (fT "behind_door" "behind_door" (top 28)) (.node aed (lf acq) .nil) (lf (tN 801 ["_law_script", "_law_k"])))) (.node adI (.node (cP "level" "level" 408 65 1 3 179 411) (.node tE (lf tE) .nil) (lf tE)) (.node aey (lf aeH) (lf fE))))) (.node (q30 P) (.node q46 (.node tE (.node (cO "ratio" "ratio" 356 39 2 3 137 362) (.node aeb (lf fE) .nil) (lf tE)) (.node fE (.node fE (lf ac7) .nil) (lf (adn P)))) (.node fE (.node (tN 401 ["one", "other"]) (.node ac6 (lf (fT "_law_taken" "_law_taken" (top 68))) .nil) (lf (tN 750 ["self"]))) (.node (fT "is_word" "is_word" (top 35)) (lf (afZ P)) (lf aeZ)))) (.node tE (.node (fT "__init__" "NoRoom.__init__" (d9 7 0)) (.node tE (.node tE (lf tE) .nil) (lf afL)) (.node aeF (lf afO) (lf tE))) (.node (cO "is_whole" "is_whole" 330 26 1 3 121 334) (.node aci (.node (fT "__init__" "Sure.__init__" (d9 43 0)) (lf fE) .nil) (lf agi)) (.node aej (lf fE) (lf acn)))))))))
noncomputable def S1 (w:World) (os:OsState):SharedT:=⟨tr1 w.params,599,{},⟨[]⟩,{},976,os⟩
noncomputable def e1:Pos:=⟨392,0,397,25⟩
noncomputable def KH:Params->Frag:=fun P=>(
 (nat_lit 2,(boot_o_2 P)) ::
 (nat_lit 3,⟨(.type "dict"),none,(.dict ⟨dE P "__name__" 165 (.str "law_chancehall_k25_a_plan_mended" 796) :: dE P "__doc__" 166 .none :: dE P "__package__" 167 .none :: dE P "__loader__" 168 (.builtin "__main__.__loader__#opaque") :: dE P "__spec__" 169 .none :: dE P "__annotations__" 170 (.ref 6) :: dE P "__builtins__" 171 (.ref 4) :: dE P "__file__" 173 (.str "/claim/cut.py" 172) :: dE P "__cached__" 174 .none :: dE P "_wall" 193 (.ref 21) :: dE P "HallError" 213 (.ref 31) :: dE P "NoNumber" 229 (.ref 44) :: dE P "NoName" 245 (.ref 56) :: dE P "NoChance" 261 (.ref 68) :: dE P "NoShare" 277 (.ref 80) :: dE P "NoRoom" 302 (.ref 99) :: dE P "NoPlan" 327 (.ref 118) :: dE P "is_whole" 336 (.ref 127) :: dE P "divisor" 347 (.ref 134) :: dE P "NOUGHT" 352 (.ref 135) :: dE P "ONE" 355 (.ref 136) :: dE P "ratio" 364 (.ref 143) :: dE P "is_ratio" 373 (.ref 150) :: dE P "plus" 381 (.ref 157) :: dE P "minus" 389 (.ref 164) :: dE P "times" 397 (.ref 171) :: dE P "under" 405 (.ref 178) :: dE P "level" 413 (.ref 183) :: dE P "total" 421 (.ref 190) :: dE P "greatest" 430 (.ref 197) :: dE P "fits" 440 (.ref 204) :: dE P "check_plan" 450 (.ref 211) :: dE P "behind_door" 456 (.ref 216) :: dE P "raised_look" 466 (.ref 223) :: dE P "better_door" 477 (.ref 230) :: dE P "mended" 483 (.ref 235) :: dE P "LONGEST_WORD" 487 (.int 8 486) :: dE P "is_word" 493 (.ref 240) :: dE P "check_head" 503 (.ref 247) :: dE P "check_room_name" 510 (.ref 254) :: dE P "check_chance" 517 (.ref 261) :: dE P "check_pairs" 523 (.ref 266) :: dE P "joined_ways" 529 (.ref 271) :: dE P "Door" 576 (.ref 302) :: dE P "Sure" 603 (.ref 323) :: dE P "Mixed" 630 (.ref 342) :: dE P "Toss" 658 (.ref 361) :: dE P "Even" 680 (.ref 378) :: dE P "check_share" 689 (.ref 387) :: dE P "numbers_of" 699 (.ref 394) :: dE P "numbered_ways" 710 (.ref 401) :: dE P "offers_of" 721 (.ref 408) :: dE P "Hall" 795 (.ref 463) :: dE P "_law_cell" 805 (.ref 474) :: dE P "_law_stream" 817 (.ref 481) :: dE P "_law_gcd" 827 (.ref 488) :: dE P "_law_ratio" 836 (.ref 495) :: dE P "_law_names" 842 (.ref 500) :: dE P "_law_share" 851 (.ref 507) :: dE P "_law_pay" 860 (.ref 514) :: dE P "_law_door" 866 (.ref 519) :: dE P "_law_doors" 872 (.ref 524) :: dE P "_law_built" 878 (.ref 529) :: dE P "_law_hall" 884 (.ref 534) :: dE P "_law_chosen" 895 (.ref 541) :: dE P "_law_look" 909 (.ref 548) :: dE P "_law_below" 917 (.ref 555) :: dE P "_law_taken" 923 (.ref 560) :: dE P "_law_step" 929 (.ref 565) :: dE P "_law_size" 937 (.ref 572) :: dE P "_law_worths" 943 (.ref 577) :: dE P "_law_odd" 951 (.ref 584) :: dE P "_law_spoilt" 965 (.ref 591) :: dE P "_law_refused" 975 (.ref 598) :: dE P "_law_plan_told" 990 (.ref 605) :: dE P "law" 1010 (.ref 612) :: []⟩ 76),⟨[]⟩⟩) ::
 (nat_lit 15,tE) ::
 (nat_lit 17,(tN 190 ["k"])) ::
 (nat_lit 18,tE) ::
 (nat_lit 20,(cO "_wall" "_wall" 187 1 1 3 15 191)) ::
 (nat_lit 21,q21) ::
 (nat_lit 22,q22) ::
 (nat_lit 29,tE) ::
 (nat_lit 30,(q30 P)) ::
 (nat_lit 31,q31) ::
 (nat_lit 32,q32) ::
 (nat_lit 35,q35) ::
 (nat_lit 42,tE) ::
 (nat_lit 43,(q43 P)) ::
 (nat_lit 44,q44) ::
 (nat_lit 47,q47) ::
 (nat_lit 54,tE) ::
 (nat_lit 55,(q55 P)) ::
 (nat_lit 56,q56) ::
 (nat_lit 59,q59) ::
 (nat_lit 66,tE) ::
 (nat_lit 67,(q67 P)) ::
 (nat_lit 68,q68) ::
 (nat_lit 71,q71) ::
 (nat_lit 78,tE) ::
 (nat_lit 79,(q79 P)) ::
 (nat_lit 80,q80) ::
 (nat_lit 83,q83) ::
 (nat_lit 90,tE) ::
 (nat_lit 92,(tN 293 ["self", "room"])) ::
 (nat_lit 93,tE) ::
 (nat_lit 95,q95) ::
 (nat_lit 96,q96) ::
 (nat_lit 97,(tN 298 ["room"])) ::
 (nat_lit 98,(q98 P)) ::
 (nat_lit 99,q99) ::
 (nat_lit 102,aeu) ::
 (nat_lit 109,tE) ::
 (nat_lit 111,(tN 318 ["self", "room"])) ::
 (nat_lit 112,tE) ::
 (nat_lit 114,adq) ::
 (nat_lit 115,adi) ::
 (nat_lit 116,(tN 323 ["room"])) ::
 (nat_lit 117,(aec P)) ::
 (nat_lit 118,adI) ::
 (nat_lit 121,tE) ::
 (nat_lit 123,(tN 333 ["thing"])) ::
 (nat_lit 124,tE) ::
 (nat_lit 126,(cO "is_whole" "is_whole" 330 26 1 3 121 334)) ::
 (nat_lit 127,acs) ::
 (nat_lit 128,tE) ::
 (nat_lit 130,afh) ::
 (nat_lit 131,tE) ::
 (nat_lit 133,(cO "divisor" "divisor" 337 28 2 3 128 345)) ::
 (nat_lit 134,acD) ::
 (nat_lit 135,acN) ::
 (nat_lit 136,ade) ::
 (nat_lit 137,tE) ::
 (nat_lit 139,(tN 359 ["top", "bottom", "common"])) ::
 (nat_lit 140,tE) ::
 (nat_lit 142,(cO "ratio" "ratio" 356 39 2 3 137 362)) ::
 (nat_lit 143,ac3) ::
 (nat_lit 144,tE) ::
 (nat_lit 146,(tN 368 ["thing", "top", "bottom"])) ::
 (nat_lit 147,tE) ::
 (nat_lit 149,(cO "is_ratio" "is_ratio" 365 48 1 3 144 371)) ::
 (nat_lit 150,acV) ::
 (nat_lit 151,tE) ::
 (nat_lit 153,(tN 377 ["one", "other"])) ::
 (nat_lit 154,tE) ::
 (nat_lit 156,(cO "plus" "plus" 374 56 2 3 151 379)) ::
 (nat_lit 157,ae9) ::
 (nat_lit 158,tE) ::
 (nat_lit 160,(tN 385 ["one", "other"])) ::
 (nat_lit 161,tE) ::
 (nat_lit 163,(cO "minus" "minus" 382 58 2 3 158 387)) ::
 (nat_lit 164,ach) ::
 (nat_lit 165,tE) ::
 (nat_lit 167,(tN 393 ["one", "other"])) ::
 (nat_lit 168,tE) ::
 (nat_lit 170,(cO "times" "times" 390 60 2 3 165 395)) ::
 (nat_lit 171,adu) ::
 (nat_lit 172,tE) ::
 (nat_lit 174,(tN 401 ["one", "other"])) ::
 (nat_lit 175,tE) ::
 (nat_lit 177,(cO "under" "under" 398 62 2 3 172 403)) ::
 (nat_lit 178,adl) ::
 (nat_lit 179,tE) ::
 (nat_lit 182,(cP "level" "level" 408 65 1 3 179 411)) ::
 (nat_lit 183,ae3) ::
 (nat_lit 184,tE) ::
 (nat_lit 186,(tN 417 ["fractions", "leveled"])) ::
 (nat_lit 187,tE) ::
 (nat_lit 189,(cO "total" "total" 414 70 1 3 184 419)) ::
 (nat_lit 190,aci) ::
 (nat_lit 191,tE) ::
 (nat_lit 193,(tN 425 ["fractions", "found", "one"])) ::
 (nat_lit 194,tE) ::
 (nat_lit 196,(cO "greatest" "greatest" 422 73 1 3 191 428)) ::
 (nat_lit 197,ac0) ::
 (nat_lit 198,tE) ::
 (nat_lit 200,(tN 436 ["thing", "many"])) ::
 (nat_lit 201,tE) ::
 (nat_lit 203,(cO "fits" "fits" 433 80 2 3 198 438)) ::
 (nat_lit 204,acg) ::
 (nat_lit 205,tE) ::
 (nat_lit 207,(tN 444 ["hall", "plan", "room", "thing"])) ::
 (nat_lit 208,tE) ::
 (nat_lit 210,afg) ::
 (nat_lit 211,adN) ::
 (nat_lit 212,tE) ::
 (nat_lit 215,adH) ::
 (nat_lit 216,ab9) ::
 (nat_lit 217,tE) ::
 (nat_lit 219,ae2) ::
 (nat_lit 220,tE) ::
 (nat_lit 222,aeF) ::
 (nat_lit 223,ac2) ::
 (nat_lit 224,tE) ::
 (nat_lit 226,(tN 472 ["seen", "door", "most"])) ::
 (nat_lit 227,tE) ::
 (nat_lit 229,ac1) ::
 (nat_lit 230,adR) ::
 (nat_lit 231,tE) ::
 (nat_lit 234,(cP "mended" "mended" 478 103 3 3 231 481)) ::
 (nat_lit 235,ad8) ::
 (nat_lit 236,tE) ::
 (nat_lit 239,(cP "is_word" "is_word" 488 113 1 3 236 491)) ::
 (nat_lit 240,aex) ::
 (nat_lit 241,tE) ::
 (nat_lit 243,(tN 499 ["name", "pay"])) ::
 (nat_lit 244,tE) ::
 (nat_lit 246,aey) ::
 (nat_lit 247,afd) ::
 (nat_lit 248,tE) ::
 (nat_lit 250,(tN 507 ["room"])) ::
 (nat_lit 251,tE) ::
 (nat_lit 253,ae7) ::
 (nat_lit 254,aej) ::
 (nat_lit 255,tE) ::
 (nat_lit 257,(tN 514 ["chance"])) ::
 (nat_lit 258,tE) ::
 (nat_lit 260,aef) ::
 (nat_lit 261,ae6) ::
 (nat_lit 262,tE) ::
 (nat_lit 265,aea) ::
 (nat_lit 266,aeE) ::
 (nat_lit 267,tE) ::
 (nat_lit 270,aeb) ::
 (nat_lit 271,adW) ::
 (nat_lit 279,tE) ::
 (nat_lit 281,(tN 545 ["self", "name", "pay"])) ::
 (nat_lit 282,tE) ::
 (nat_lit 284,aeI) ::
 (nat_lit 285,adZ) ::
 (nat_lit 286,tE) ::
 (nat_lit 288,(tN 554 ["self"])) ::
 (nat_lit 289,tE) ::
 (nat_lit 291,(cO "ways" "Door.ways" 551 148 1 3 286 555)) ::
 (nat_lit 292,afi) ::
 (nat_lit 293,tE) ::
 (nat_lit 295,(tN 561 ["self", "room"])) ::
 (nat_lit 296,tE) ::
 (nat_lit 298,adL) ::
 (nat_lit 299,adC) ::
 (nat_lit 300,(tN 566 ["leads", "name", "pay"])) ::
 (nat_lit 301,(acz P)) ::
 (nat_lit 302,ac6) ::
 (nat_lit 303,adY) ::
 (nat_lit 304,aeB) ::
 (nat_lit 307,adG) ::
 (nat_lit 314,tE) ::
 (nat_lit 316,(tN 592 ["self", "name", "pay", "room"])) ::
 (nat_lit 317,tE) ::
 (nat_lit 319,acG) ::
 (nat_lit 320,adD) ::
 (nat_lit 321,(tN 599 ["leads"])) ::
 (nat_lit 322,(aem P)) ::
 (nat_lit 323,aeK) ::
 (nat_lit 326,aeN) ::
 (nat_lit 333,tE) ::
 (nat_lit 335,(tN 619 ["self", "name", "pay", "pairs"])) ::
 (nat_lit 336,tE) ::
 (nat_lit 338,aeU) ::
 (nat_lit 339,aeM) ::
 (nat_lit 340,(tN 626 ["leads"])) ::
 (nat_lit 341,(adk P)) ::
 (nat_lit 342,aed) ::
 (nat_lit 345,acy) ::
 (nat_lit 352,tE) ::
 (nat_lit 354,ad7) ::
 (nat_lit 355,tE) ::
 (nat_lit 357,ae8) ::
 (nat_lit 358,acA) ::
 (nat_lit 359,tE) ::
 (nat_lit 360,(ac4 P)) ::
 (nat_lit 361,aeg) ::
 (nat_lit 364,aeT) ::
 (nat_lit 371,tE) ::
 (nat_lit 374,aeH) ::
 (nat_lit 375,adh) ::
 (nat_lit 376,tE) ::
 (nat_lit 377,(aeY P)) ::
 (nat_lit 378,acB) ::
 (nat_lit 381,tE) ::
 (nat_lit 383,(tN 686 ["share"])) ::
 (nat_lit 384,tE) ::
 (nat_lit 386,acR) ::
 (nat_lit 387,adw) ::
 (nat_lit 388,tE) ::
 (nat_lit 390,(tN 693 ["rooms", "numbers", "room", "name"])) ::
 (nat_lit 391,tE) ::
 (nat_lit 393,adQ) ::
 (nat_lit 394,aeW) ::
 (nat_lit 395,tE) ::
 (nat_lit 397,adp) ::
 (nat_lit 398,tE) ::
 (nat_lit 400,aeA) ::
 (nat_lit 401,afe) ::
 (nat_lit 402,tE) ::
 (nat_lit 404,ace) ::
 (nat_lit 405,tE) ::
 (nat_lit 407,aez) ::
 (nat_lit 408,ad4) ::
 (nat_lit 416,tE) ::
 (nat_lit 419,aeO) ::
 (nat_lit 420,acd) ::
 (nat_lit 421,tE) ::
 (nat_lit 423,(tN 743 ["self"])) ::
 (nat_lit 424,tE) ::
 (nat_lit 426,(cO "size" "Hall.size" 740 211 1 3 421 744)) ::
 (nat_lit 427,afb) ::
 (nat_lit 428,tE) ::
 (nat_lit 430,(tN 750 ["self"])) ::
 (nat_lit 431,tE) ::
 (nat_lit 433,(cO "names" "Hall.names" 747 214 1 3 428 751)) ::
 (nat_lit 434,acL) ::
 (nat_lit 435,tE) ::
 (nat_lit 437,(tN 757 ["self", "name"])) ::
 (nat_lit 438,tE) ::
 (nat_lit 440,(cO "place" "Hall.place" 754 217 2 3 435 759)) ::
 (nat_lit 441,acQ) ::
 (nat_lit 442,tE) ::
 (nat_lit 444,(tN 765 ["self", "room"])) ::
 (nat_lit 445,tE) ::
 (nat_lit 447,ad0) ::
 (nat_lit 448,adz) ::
 (nat_lit 449,tE) ::
 (nat_lit 451,(tN 773 ["self", "room", "name"])) ::
 (nat_lit 452,tE) ::
 (nat_lit 454,aco) ::
 (nat_lit 455,acH) ::
 (nat_lit 456,tE) ::
 (nat_lit 459,adT) ::
 (nat_lit 460,aes) ::
 (nat_lit 461,(tN 785 ["numbers", "offered", "share"])) ::
 (nat_lit 462,(adn P)) ::
 (nat_lit 463,ael) ::
 (nat_lit 464,ac5) ::
 (nat_lit 465,afk) ::
 (nat_lit 468,tE) ::
 (nat_lit 470,(tN 801 ["_law_script", "_law_k"])) ::
 (nat_lit 471,tE) ::
 (nat_lit 473,ae4) ::
 (nat_lit 474,adx) ::
 (nat_lit 475,tE) ::
 (nat_lit 477,adP) ::
 (nat_lit 478,tE) ::
 (nat_lit 480,acT) ::
 (nat_lit 481,acO) ::
 (nat_lit 482,tE) ::
 (nat_lit 484,ad9) ::
 (nat_lit 485,tE) ::
 (nat_lit 487,acu) ::
 (nat_lit 488,adX) ::
 (nat_lit 489,tE) ::
 (nat_lit 491,adV) ::
 (nat_lit 492,tE) ::
 (nat_lit 494,aeZ) ::
 (nat_lit 495,aeX) ::
 (nat_lit 496,tE) ::
 (nat_lit 499,aev) ::
 (nat_lit 500,adF) ::
 (nat_lit 501,tE) ::
 (nat_lit 503,afa) ::
 (nat_lit 504,tE) ::
 (nat_lit 506,aeC) ::
 (nat_lit 507,adJ) ::
 (nat_lit 508,tE) ::
 (nat_lit 510,acn) ::
 (nat_lit 511,tE) ::
 (nat_lit 513,acf) ::
 (nat_lit 514,acY) ::
 (nat_lit 515,tE) ::
 (nat_lit 518,adg) ::
 (nat_lit 519,acP) ::
 (nat_lit 520,tE) ::
 (nat_lit 523,adM) ::
 (nat_lit 524,aep) ::
 (nat_lit 525,tE) ::
 (nat_lit 528,adS) ::
 (nat_lit 529,ad1) ::
 (nat_lit 530,tE) ::
 (nat_lit 533,acK) ::
 (nat_lit 534,aeS) ::
 (nat_lit 535,tE) ::
 (nat_lit 537,afj) ::
 (nat_lit 538,tE) ::
 (nat_lit 540,aeo) ::
 (nat_lit 541,aei) ::
 (nat_lit 542,tE) ::
 (nat_lit 544,acU) ::
 (nat_lit 545,tE) ::
 (nat_lit 547,aeR) ::
 (nat_lit 548,aee) ::
 (nat_lit 549,tE) ::
 (nat_lit 551,(tN 913 ["_law_one", "_law_other"])) ::
 (nat_lit 552,tE) ::
 (nat_lit 554,adU) ::
 (nat_lit 555,adv) ::
 (nat_lit 556,tE) ::
 (nat_lit 559,adf) ::
 (nat_lit 560,acS) ::
 (nat_lit 561,tE) ::
 (nat_lit 564,acX) ::
 (nat_lit 565,adb) ::
 (nat_lit 566,tE) ::
 (nat_lit 568,(tN 933 ["_law_cell_here", "_law_xs"])) ::
 (nat_lit 569,tE) ::
 (nat_lit 571,adE) ::
 (nat_lit 572,acM) ::
 (nat_lit 573,tE) ::
 (nat_lit 576,acI) ::
 (nat_lit 577,ae1) ::
 (nat_lit 578,tE) ::
 (nat_lit 580,(tN 947 ["_law_cell_here", "_law_many"])) ::
 (nat_lit 581,tE) ::
 (nat_lit 583,ae0) ::
 (nat_lit 584,acv) ::
 (nat_lit 585,tE) ::
 (nat_lit 587,aen) ::
 (nat_lit 588,tE) ::
 (nat_lit 590,ac7) ::
 (nat_lit 591,aeh) ::
 (nat_lit 592,tE) ::
 (nat_lit 594,afc) ::
 (nat_lit 595,tE) ::
 (nat_lit 597,acp) ::
 (nat_lit 598,acq) ::
 (nat_lit 599,tE) ::
 (nat_lit 601,(tN 979 ["_law_hall_here", "_law_cell_here", "_law_plan", "_law_rooms", "_law_worths_here", "_law_at", "_law_spoilt_here", "_law_word", "_law_room"])) ::
 (nat_lit 602,tE) ::
 (nat_lit 604,(cO "_law_plan_told" "_law_plan_told" 976 398 5 3 599 988)) ::
 (nat_lit 605,(fO "_law_plan_told" "_law_plan_told" (top 75) (.str "law_chancehall_k25_a_plan_mended" 796) 604)) ::
 (nat_lit 606,tE) ::
 (nat_lit 608,(tN 994 ["_law_script", "_law_share_here", "_law_many", "_law_rooms", "_law_hall_here", "_law_plan", "_law_handed", "_law_one", "_law_other", "_law_lists", "_law_held", "_law_cell_here", "_law_found", "_law_worths_here"])) ::
 (nat_lit 609,tE) ::
 (nat_lit 611,(cO "law" "law" 991 402 1 3 606 1008)) ::
 (nat_lit 612,(fO "law" "law" (top 76) (.str "law_chancehall_k25_a_plan_mended" 796) 611)) ::
 ([] : List (Nat × Obj)))
noncomputable abbrev asH:List Nat:=[2,3,15,17,18,20,21,22,29,30,31,32,35,42,43,44,47,54,55,56,59,66,67,68,71,78,79,80,83,90,92,93,95,96,97,98,99,102,109,111,112,114,115,116,117,118,121,123,124,126,127,128,130,131,133,134,135,136,137,139,140,142,143,144,146,147,149,150,151,153,154,156,157,158,160,161,163,164,165,167,168,170,171,172,174,175,177,178,179,182,183,184,186,187,189,190,191,193,194,196,197,198,200,201,203,204,205,207,208,210,211,212,215,216,217,219,220,222,223,224,226,227,229,230,231,234,235,236,239,240,241,243,244,246,247,248,250,251,253,254,255,257,258,260,261,262,265,266,267,270,271,279,281,282,284,285,286,288,289,291,292,293,295,296,298,299,300,301,302,303,304,307,314,316,317,319,320,321,322,323,326,333,335,336,338,339,340,341,342,345,352,354,355,357,358,359,360,361,364,371,374,375,376,377,378,381,383,384,386,387,388,390,391,393,394,395,397,398,400,401,402,404,405,407,408,416,419,420,421,423,424,426,427,428,430,431,433,434,435,437,438,440,441,442,444,445,447,448,449,451,452,454,455,456,459,460,461,462,463,464,465,468,470,471,473,474,475,477,478,480,481,482,484,485,487,488,489,491,492,494,495,496,499,500,501,503,504,506,507,508,510,511,513,514,515,518,519,520,523,524,525,528,529,530,533,534,535,537,538,540,541,542,544,545,547,548,549,551,552,554,555,556,559,560,561,564,565,566,568,569,571,572,573,576,577,578,580,581,583,584,585,587,588,590,591,592,594,595,597,598,599,601,602,604,605,606,608,609,611,612]
end
noncomputable def qv:Program:=view p [0,2,3,4,5,6,7,8,10,11,13,14,15,16,17,18,19,20,22,23,24,26,27,28,29,31,32,34,35,37,38,39,40,41,42,43,44,45,46,48,49,50,51,52,54,55,56,57,58,59,60,61,62,63,64,65,66,67,68,69,70,71,72,73,74,75,76]
noncomputable abbrev R:RowW:=PySem.Challenge.rw_chancehall_k25_a_plan_mended.row.toRowW
noncomputable def Xt (s:Shared):Bool:=xlAt qv [] s && recOk R.records s
noncomputable def e:Pos:=⟨402,0,426,127⟩
set_option maxHeartbeats 0
theorem wsd:PySem.Challenge.rw_chancehall_k25_a_plan_mended.wellSaid = true:=by kernel_rfl
theorem asK:∀ P,asH = (KH P).map (·.1):=fun _=>by kernel_rfl
theorem pre (w:World):(fun os=>topGo treeTable p w 11 ann 12 (S0 w os) (topStub p)) = fun os=>some (Sa w os,⟨denote treeTable (cE p),cE p,z,B⟩):=by
 rw [Fast.te15667345088766844465,Fast.te14364793385576792824,Fast.te11892475500146522536]; kernel_rfl
theorem block (w:World):(fun os=>segRun treeTable p w 11 ann 1 1 (Sa w os) (blockOf (behindTheImports p) (env p) (cE p) z B)) = fun os=>some (.next,(Sb w os).abs,cE p,z):=by
 rw [Fast.te14374325043358763698,Fast.te14364793385576792824]; kernel_rfl
theorem aer (w:World):(fun os=>segRunT treeTable p w 11 ann 1 30000 (Sb w os) (piecesOf ((behindTheImports p).take 75) (env p) (cE p) z B)) = fun os=>some (.next,S1 w os,cE p,e1):=by
 rw [Fast.te10110043849684766642,Fast.te14364793385576792824]; kernel_rfl
theorem big (w:World):(fun os=>(segRunT treeTable p w 11 ann 1 50000 (S1 w os) (piecesOf ((behindTheImports p).drop 75) (env p) (cE p) e1 B)).map fun r =>
  (r.1,r.2.2.1,r.2.2.2,(topRun treeTable p w 11 ann 2 r.2.1.abs ⟨doneF .next,cE p,e,B⟩).map fun s =>
   (staticsOk (importedModules p.main.body) (boot_heap w.params) s.heap && namesBound p s.heap && gensDone s && laidKept (boot_heap w.params) s.heap,openSeen qv [] (importedModules p.main.body) Xt true s,asH.map s.heap.get?))) =
  fun _=>some (.next,cE p,e,some (true,openGood qv [],(KH w.params).map fun p=>some p.2)):=by
 rw [Fast.te10110043849684766642,Fast.te14364793385576792824,Fast.te14082659384304107361,Fast.te4187177175401517315,Fast.te5923862056798008813]; kernel_rfl
theorem left:LeftO p qv [] Xt (fun s=>asH.map s.heap.get?) (fun w=>(KH w.params).map fun p=>some p.2) 200000 :=
 Sq (boot_open rfl rfl fun _=>rfl) pre block (fun w os=>m8.cutAt (congrFun (aer w) os) (m8.last (congrFun (big w) os))) rfl
theorem hX (s:Shared) (h:Xt s = true):XL qv [] (s.heap.nsMap mainGlobals) s.heap:=xl_of s (Bool.and_eq_true_iff.mp h).1
theorem hR (s:Shared) (h:Xt s = true):RecFacts R.records s.heap:=recFacts_of (Bool.and_eq_true_iff.mp h).2
end H25
namespace L2
open PySem PySem.Spec PyProof.Rows
noncomputable abbrev Key:=Sum Int Str
noncomputable def yt:Key->Value->Bool
 | .inl k,v=>Value.isInt k v
 | .inr x,v=>Value.isStrOf x v
noncomputable def agy (w:World):Key->Int
 | .inl k=>hashInt k
 | .inr x=>hashStr w x
theorem fu:∀ {k:Key} {v:Value},yt k v = true->(∃ i t,k = Sum.inl i/\v = Value.int i t)\/(∃ x t,k = Sum.inr x/\v = Value.str x t)
 | .inl i,v,h=>by
  obtain ⟨t,e⟩:=Value.isInt_shape (k:=i) (v:=v) h
  exact .inl ⟨i,t,rfl,e⟩
 | .inr x,v,h=>by
  obtain ⟨t,e⟩:=Value.isStrOf_shape (x:=x) (v:=v) h
  exact .inr ⟨x,t,rfl,e⟩
theorem Tg (i:Int) (t:Tok):yt (.inl i) (.int i t) = true:=by simp [yt,Value.isInt]
theorem Rv (x:Str) (t:Tok):yt (.inr x) (.str x t) = true:=by simp [yt,Value.isStrOf]
theorem abz (a b:Int):decide ((Sum.inl a:Key) = Sum.inl b) = (a == b):=by
 by_cases e:a = b
 .subst e; simp
 .have h:¬ (Sum.inl a:Key) = Sum.inl b:=fun q=>e (Sum.inl.inj q)
  rw [decide_eq_false h]
  exact (beq_eq_false_iff_ne.mpr e).symm
theorem aaM (a b:Str):decide ((Sum.inr a:Key) = Sum.inr b) = decide (a = b):=by
 by_cases e:a = b
 .subst e; simp
 .have h:¬ (Sum.inr a:Key) = Sum.inr b:=fun q=>e (Sum.inr.inj q)
  rw [decide_eq_false h,decide_eq_false e]
theorem aby (a:Int) (b:Str):decide ((Sum.inl a:Key) = Sum.inr b) = false:=decide_eq_false (fun q=>nomatch q)
theorem abI (a:Str) (b:Int):decide ((Sum.inr a:Key) = Sum.inl b) = false:=decide_eq_false (fun q=>nomatch q)
noncomputable def jF (prog:Program) (w:World):PySem.KeyKind prog w Key where
 is:=yt
 hash:=agy w
 inj:=fun v a b ha hb=>by
  rcases fu ha with ⟨i,t,rfl,rfl⟩ | ⟨x,t,rfl,rfl⟩
  .rcases fu hb with ⟨j,u,rfl,e⟩ | ⟨y,u,rfl,e⟩
   .injection e with e1 _; rw [e1]
   .exact nomatch e
  .rcases fu hb with ⟨j,u,rfl,e⟩ | ⟨y,u,rfl,e⟩
   .exact nomatch e
   .injection e with e1 _; rw [e1]
 byValue:=fun k v h=>by
  rcases fu h with ⟨i,t,rfl,rfl⟩ | ⟨x,t,rfl,rfl⟩ <;> rfl
 pyHash:=fun hv h=>by
  rcases fu hv with ⟨i,t,rfl,rfl⟩ | ⟨x,t,rfl,rfl⟩
  .exact wpAny_pyHash_int h
  .exact wpAny_pyHash_str h
 eqBool:=fun hu hv h=>by
  rcases fu hu with ⟨i,t,rfl,rfl⟩ | ⟨x,t,rfl,rfl⟩
  .rcases fu hv with ⟨j,u,rfl,rfl⟩ | ⟨y,u,rfl,rfl⟩
   .rw [abz] at h; exact wpAny_eqBool_int h
   .rw [aby] at h; exact SeqAt.EqAt.int_str i t y u _ _ _ _ h
  .rcases fu hv with ⟨j,u,rfl,rfl⟩ | ⟨y,u,rfl,rfl⟩
   .rw [abI] at h; exact SeqAt.EqAt.str_int x t j u _ _ _ _ h
   .rw [aaM] at h; exact wpAny_eqBool_str h
 «strs»:=fun k x t v h=>by
  rcases fu h with ⟨i,u,rfl,e⟩ | ⟨y,u,rfl,e⟩
  .exact nomatch e
  .injection e with e1 _
   subst e1
   cases v <;> rfl
theorem Lj (prog:Program) (w:World) (i:Int) (t:Tok):(jF prog w).is (.inl i) (.int i t) = true:=Tg i t
theorem J1 (prog:Program) (w:World) (x:Str) (t:Tok):(jF prog w).is (.inr x) (.str x t) = true:=Rv x t
end L2
namespace L2
open PySem PySem.Spec PyProof.Rows
inductive V where
 | non | bl (b:Bool) | int (i:Int) | str (x:Str) | byt (b:Array UInt8) | flt (b:UInt64) | ref (a:Addr) | ty (n:String)
 deriving DecidableEq
noncomputable def RelV:V->Value->Prop
 | .non,u=>u = Value.none
 | .bl b,u=>u = Value.bool b
 | .int i,u=>∃ t,u = Value.int i t
 | .str x,u=>∃ t,u = Value.str x t
 | .byt b,u=>∃ t,u = Value.bytes b t
 | .flt b,u=>∃ t,u = Value.float b t
 | .ref a,u=>u = Value.ref a
 | .ty n,u=>u = Value.type n
noncomputable abbrev Vals:List V->List Value->Prop:=Paired RelV
theorem Vals.length {xs:List V} {us:List Value} (r:Vals xs us):xs.length = us.length:=Paired.length r
theorem Vals.get:∀ {xs:List V} {us:List Value} {i:Nat} {x:V},Vals xs us->xs[i]? = some x->∃ u,us[i]? = some u/\RelV x u
 | _,_,_,_,.nil,e=>by simp at e
 | _,_,0,_,.cons r _,e=>by simp at e; subst e; exact ⟨_,rfl,r⟩
 | _,_,i + 1,x,.cons _ t,e=>by
  obtain ⟨u,h1,h2⟩:=Vals.get (i:=i) (x:=x) t (by simpa using e)
  exact ⟨u,by simpa using h1,h2⟩
theorem Vals.set {x:V} {u:Value} (r:RelV x u):∀ {xs:List V} {us:List Value} (i:Nat),Vals xs us->Vals (xs.set i x) (us.set i u)
 | _,_,_,.nil=>.nil
 | _,_,0,.cons _ t=>.cons r t
 | _,_,i + 1,.cons q t=>.cons q (Vals.set r i t)
theorem Vals.append:∀ {xs ys:List V} {us ws:List Value},Vals xs us->Vals ys ws->Vals (xs ++ ys) (us ++ ws)
 | _,_,_,_,.nil,s=>s
 | _,_,_,_,.cons r t,s=>.cons r (Vals.append t s)
theorem Vals.take:∀ {xs:List V} {us:List Value} (n:Nat),Vals xs us->Vals (xs.take n) (us.take n)
 | _,_,0,_=>.nil
 | _,_,_ + 1,.nil=>.nil
 | _,_,n + 1,.cons r t=>.cons r (Vals.take n t)
theorem Vals.drop:∀ {xs:List V} {us:List Value} (n:Nat),Vals xs us->Vals (xs.drop n) (us.drop n)
 | _,_,0,r=>r
 | _,_,_ + 1,.nil=>.nil
 | _,_,n + 1,.cons _ t=>Vals.drop n t
noncomputable def tW:Option V->Option Value->Prop
 | some v,some u=>RelV v u
 | none,none=>True
 | _,_=>False
noncomputable def KV {κ:Type} : List (κ × V)->List (κ × Value)->Prop:=Paired fun (p:κ × V) (q:κ × Value)=>p.1 = q.1/\RelV p.2 q.2
noncomputable def kV:Key->V
 | .inl i=>.int i
 | .inr x=>.str x
inductive HO where
  | lst (xs:List V)
  | tup (xs:List V)
  | dK (kvs:List (Key × V))
  | set (S:Int->Bool) (n:Nat)
  | ins (C dx:Addr) (fs:List (Str × V))
  | own (x:Addr)
  | xd (fs:List (Str × V))
  | met (f x:Addr)
  | rng (lo hi:Int)
  | frz (o:Obj) (u:HO)
  | tbl (ps:Array Value)
  | ext (φ:Heap->Prop)
noncomputable abbrev Hp:=Addr->Option HO
noncomputable def upd (H:Hp) (a:Addr) (o:HO):Hp:=fun b=>if b = a then some o else H b
theorem bH {H:Hp} {a:Addr} {o:HO} : upd H a o a = some o:=by unfold upd; rw [if_pos rfl]
theorem bI {H:Hp} {a b:Addr} {o:HO} (h:b ≠ a):upd H a o b = H b:=by unfold upd; rw [if_neg h]
theorem nH {H:Hp} {a:Addr} {o u:HO} : upd (upd H a o) a u = upd H a u:=by
 funext b; unfold upd; split <;> rfl
theorem fB {H:Hp} {a b:Addr} {o u:HO} (h:H a = some o) (h':H b = some u) (d:o ≠ u):a ≠ b:=by
 intro e; subst e; rw [h] at h'; exact d (Option.some.inj h')
theorem bD {H:Hp} {a b:Addr} {o:HO} (h:H a = some o) (h':H b = none):a ≠ b:=by
 intro e; subst e; rw [h] at h'; cases h'
section
variable (P:Program) (w:World)
noncomputable def dz (H:Hp) (h:Heap) (a:Addr):HO->Prop
 | .lst xs=>xs.length <= sizeLine/\∃ (its:List Value) (n:Nat),Vals xs its/\h.get? a = some { cls:=.type "list",data:=.seq its.toArray n }
 | .tup xs=>xs.length <= sizeLine/\∃ its:List Value,Vals xs its/\IsTup h a its.toArray
 | .dK kvs=>kvs.length <= sizeLine/\(a == sysModules) = false/\∃ vs,KV kvs vs/\h.DictOf (jF P w) a vs
 | .set S n=>h.SetOf (intKind P w) a S n
 | .ins C dx fs=>H dx = some (.own a)/\fs.length <= 1000/\dx ≠ a/\h.get? a = some (PySem.W.instObj C dx) /\
   ∃ mA,h.Ns1 dx mA/\(∀ f,tW (fs.lookup f) (mA f))/\PySem.Within mA (fs.map (·.1))
 | .own _=>∃ o,h.get? a = some o
 | .xd fs=>∃ mA,h.Ns1 a mA/\∀ f,tW (fs.lookup f) (mA f)
 | .rng lo hi=>∃ t u v,h.get? a = some { cls:=.type "range",data:=.fields #[.int lo t,.int hi u,.int 1 v] }
 | .frz o u=>h.get? a = some o/\dz H h a u
 | .tbl ps=>h.get? a = some { cls:=.none,data:=.fields ps }
 | .met f x=>h.get? a = some (PySem.W.methodObj (.ref f) (.ref x))
 | .ext φ=>φ h/\(∃ o,h.get? a = some o)/\∀ h1 h2:Heap,φ h1->(∀ o,h1.get? a = some o->h2.get? a = some o)->φ h2
noncomputable def HOk (H:Hp) (h:Heap):Prop:=∀ a o,H a = some o->dz P w H h a o
end
section
variable {P:Program} {w:World} {H H':Hp} {h h':Heap} {a:Addr} {o:HO}
theorem dz.lt (x:dz P w H h a o):a < h.objs.size:=by
 cases o with
 | lst xs=>obtain ⟨_,_,_,_,e⟩:=x; exact aK e
 | tup xs=>obtain ⟨_,_,_,p⟩:=x; exact p.lt
 | dK kvs=>obtain ⟨_,_,_,_,o,_,_,e,_⟩:=x; exact aK e
 | set S n=>obtain ⟨o,_,_,_,e,_⟩:=x; exact aK e
 | ins C dx fs=>obtain ⟨_,_,_,e,_⟩:=x; exact aK e
 | own y=>obtain ⟨_,e⟩:=x; exact aK e
 | xd fs=>obtain ⟨_,⟨_,_,_,e,_⟩,_⟩:=x; exact aK e
 | rng lo hi=>obtain ⟨_,_,_,e⟩:=x; exact aK e
 | frz ob u=>obtain ⟨e,_⟩:=x; exact aK e
 | tbl ps=>exact aK (show h.get? a = some _ from x)
 | met f y=>exact aK (show h.get? a = some _ from x)
 | ext φ=>obtain ⟨_,⟨_,e⟩,_⟩:=x; exact aK e
theorem dz.stay (x:dz P w H h a o) (k:∀ b u,(b = a\/H b = some (.own a))->h.get? b = some u->h'.get? b = some u)
  (ho:∀ b,H b = some (.own a)->H' b = some (.own a)) (ht:∀ b xs,H b = some (.tup xs)->H' b = some (.tup xs)):dz P w H' h' a o:=by
 induction o with
 | lst xs=>obtain ⟨z,its,n,r,e⟩:=x; exact ⟨z,its,n,r,k _ _ (.inl rfl) e⟩
 | tup xs=>obtain ⟨z,its,r,ob,e,c⟩:=x; exact ⟨z,its,r,ob,k _ _ (.inl rfl) e,c⟩
 | dK kvs=>obtain ⟨z,y,vs,r,ob,es,ep,e,c⟩:=x; exact ⟨z,y,vs,r,ob,es,ep,k _ _ (.inl rfl) e,c⟩
 | set S n=>obtain ⟨ob,es,ep,t,e,c⟩:=x; exact ⟨ob,es,ep,t,k _ _ (.inl rfl) e,c⟩
 | ins C dx fs =>
  obtain ⟨d,z,ne,e,mA,⟨od,es,ep,e2,c⟩,r⟩:=x
  exact ⟨ho _ d,z,ne,k _ _ (.inl rfl) e,mA,⟨od,es,ep,k _ _ (.inr d) e2,c⟩,r⟩
 | own y=>obtain ⟨ob,e⟩:=x; exact ⟨ob,k _ _ (.inl rfl) e⟩
 | xd fs=>obtain ⟨mA,⟨od,es,ep,e,c⟩,r⟩:=x; exact ⟨mA,⟨od,es,ep,k _ _ (.inl rfl) e,c⟩,r⟩
 | rng lo hi=>obtain ⟨t,u,v,e⟩:=x; exact ⟨t,u,v,k _ _ (.inl rfl) e⟩
 | frz ob u ih=>obtain ⟨e,q⟩:=x; exact ⟨k _ _ (.inl rfl) e,ih q⟩
 | tbl ps =>
  have e:h.get? a = some { cls:=.none,data:=.fields ps }:=x
  show h'.get? a = some { cls:=.none,data:=.fields ps }
  exact k a _ (.inl rfl) e
 | met f y =>
  have e:h.get? a = some (PySem.W.methodObj (.ref f) (.ref y)):=x
  show h'.get? a = some (PySem.W.methodObj (.ref f) (.ref y))
  exact k a _ (.inl rfl) e
 | ext φ=>obtain ⟨p,⟨o,e⟩,st⟩:=x; exact ⟨st _ _ p fun o q=>k _ _ (.inl rfl) q,⟨o,k _ _ (.inl rfl) e⟩,st⟩
theorem HOk.lt (x:HOk P w H h) (e:H a = some o):a < h.objs.size:=(x a o e).lt
theorem HOk.fresh (x:HOk P w H h) (e:h.objs.size <= a):H a = none:=by
 cases q:H a with
 | none=>rfl
 | some u=>exact absurd (aU (x.lt q) e) (Nat.lt_irrefl _)
theorem HOk.kept (x:HOk P w H h) (k:∀ b u,h.get? b = some u->h'.get? b = some u):HOk P w H h':=fun a o e =>
 (x a o e).stay (fun b u _ q=>k b u q) (fun _ q=>q) fun _ _ q=>q
theorem HOk.laid (x:HOk P w H h) (k:∀ b u,h.get? b = some u->h'.get? b = some u) (hp:h.objs.size <= a) (new:dz P w (upd H a o) h' a o):HOk P w (upd H a o) h':=fun b u e=>by
 have hn:=x.fresh hp
 by_cases hb:b = a
 .subst hb; rw [bH] at e; cases e; exact new
 .rw [bI hb] at e
  exact (x b u e).stay (fun c v _ q=>k c v q) (fun c q=>by rw [bI (bD q hn)]; exact q) fun c xs q=>by rw [bI (bD q hn)]; exact q
end
noncomputable def Rd (H:Hp) (a:Addr) (u:HO):Prop:=H a = some u\/∃ o,H a = some (.frz o u)
theorem Rd.ok {P:Program} {w:World} {H:Hp} {h:Heap} {a:Addr} {u:HO} (r:Rd H a u) (x:HOk P w H h):dz P w H h a u:=by
 rcases r with r | ⟨o,r⟩
 .exact x a u r
 .obtain ⟨_,q⟩:=x a _ r
  exact q
noncomputable def Mut:Option HO->Prop
 | some (.lst _)=>True
 | some (.dK _)=>True
 | some (.set _ _)=>True
 | some (.ins _ _ _)=>True
 | some (.ext _)=>True
 | _=>False
section
variable {P:Program} {w:World} {H:Hp} {h h':Heap} {x e:Addr} {o':HO}
theorem HOk.write (ok:HOk P w H h) (mu:Mut (H x)) (he:e = x\/H e = some (.own x)) (k:∀ b u,b ≠ e->h.get? b = some u->h'.get? b = some u) (heo:∃ u,h'.get? e = some u)
  (new:dz P w (upd H x o') h' x o'):HOk P w (upd H x o') h':=fun b u q=>by
 have nown:∀ c y,H c = some (.own y)->c ≠ x:=fun c y r z=>by subst z; rw [r] at mu; exact mu
 have ntup:∀ c xs,H c = some (.tup xs)->c ≠ x:=fun c xs r z=>by subst z; rw [r] at mu; exact mu
 by_cases hb:b = x
 .subst hb; rw [bH] at q; cases q; exact new
 .rw [bI hb] at q
  by_cases hbe:b = e
  .have q':H b = some (.own x):=by
    rcases he with z | z
    .exact absurd (hbe.trans z) hb
    .rw [hbe]; exact z
   rw [q] at q'; cases q'
   obtain ⟨v,hv⟩:=heo
   exact ⟨v,by rw [hbe]; exact hv⟩
  .refine (ok b u q).stay (fun c v hc r=>k c v ?_ r) (fun c r=>by rw [bI (nown c b r)]; exact r) fun c xs r=>by rw [bI (ntup c xs r)]; exact r
   rcases hc with rfl | hc
   .exact hbe
   .rintro rfl
    rcases he with z | z
    .exact nown c b hc z
    .rw [hc] at z; cases z; exact hb rfl
end
structure Un (fs ex:List Addr) (H H':Hp) (h h':Heap):Prop where
 keep:∀ b o,h.get? b = some o->H b = none->b ∉ fs->b ∉ ex->h'.get? b = some o
 slot:∀ b o,h.get? b = some o->H b = none->b ∈ fs->b ∉ ex->∃ sl,h'.get? b = some { o with slots:=sl }
 free:∀ b o,h.get? b = some o->H b = none->b ∉ ex->H' b = none
 there:∀ b o,h.get? b = some o->b ∉ ex->∃ o',h'.get? b = some o'
 tups:∀ b xs,H b = some (.tup xs)->H' b = some (.tup xs)
 frzs:∀ b o u,H b = some (.frz o u)->H' b = some (.frz o u)
 tbls:∀ b ps,H b = some (.tbl ps)->∃ more,H' b = some (.tbl (ps ++ more))
section
variable {fs fs' ex ex':List Addr} {H H1 H2:Hp} {h h1 h2 h':Heap} {a x e:Addr} {o:HO}
theorem Un.any (u:Un fs ex H H1 h h1) {b:Addr} {ob:Obj} (q:h.get? b = some ob) (n:H b = none) (hx:b ∉ ex):∃ sl,h1.get? b = some { ob with slots:=sl }:=by
 by_cases hb:b ∈ fs
 .exact u.slot b ob q n hb hx
 .exact ⟨ob.slots,u.keep b ob q n hb hx⟩
theorem Un.kept (k:∀ b u,h.get? b = some u->h'.get? b = some u):Un fs ex H H h h' :=
 ⟨fun b ob q _ _ _=>k b ob q,fun b ob q _ _ _=>⟨ob.slots,k b ob q⟩,fun _ _ _ n _=>n,fun b ob q _=>⟨ob,k b ob q⟩,fun _ _ q=>q,fun _ _ _ q=>q,fun _ ps q=>⟨#[],by rw [q]; simp⟩⟩
theorem Un.refl:Un fs ex H H h h:=Un.kept fun _ _ q=>q
theorem Un.laid (k:∀ b u,h.get? b = some u->h'.get? b = some u) (hp:h.objs.size <= a) (hn:H a = none):Un fs ex H (upd H a o) h h' where
 keep:=fun b u q _ _ _=>k b u q
 slot:=fun b u q _ _ _=>⟨u.slots,k b u q⟩
 free:=fun b u q n _=>by rw [bI (aR (aU (aK q) hp))]; exact n
 there:=fun b u q _=>⟨u,k b u q⟩
 tups:=fun b xs q=>by rw [bI (bD q hn)]; exact q
 frzs:=fun b u xs q=>by rw [bI (bD q hn)]; exact q
 tbls:=fun b ps q=>⟨#[],by rw [bI (bD q hn),q]; simp⟩
theorem Un.write (mu:Mut (H x)) (he:e = x\/H e = some (.own x)) (k:∀ b u,b ≠ e->h.get? b = some u->h'.get? b = some u) (heo:∃ u,h'.get? e = some u):Un fs ex H (upd H x o) h h':=by
 have hx:∀ b,H b = none->b ≠ x:=fun b n z=>by subst z; rw [n] at mu; exact mu
 have hb:∀ b,H b = none->b ≠ e:=fun b n z=>by
  subst z
  rcases he with r | r
  .exact hx b n r
  .rw [n] at r; cases r
 have hm:∀ b u,H b = some u->¬ Mut (some u)->b ≠ x:=fun b u q nm z=>by subst z; rw [q] at mu; exact nm mu
 refine ⟨fun b u q n _ _=>k b u (hb b n) q,fun b u q n _ _=>⟨u.slots,k b u (hb b n) q⟩,fun b u q n _=>by rw [bI (hx b n)]; exact n,fun b u q _=>?_,
  fun b xs q=>by rw [bI (hm b _ q fun z=>z)]; exact q,fun b u xs q=>by rw [bI (hm b _ q fun z=>z)]; exact q,fun b ps q=>⟨#[],by rw [bI (hm b _ q fun z=>z),q]; simp⟩⟩
 by_cases hbe:b = e
 .subst hbe; exact heo
 .exact ⟨u,k b u hbe q⟩
end
noncomputable def trk (h:Heap) (H:Hp):List Addr:=(List.range h.objs.size).filter fun a=>(H a).isSome
noncomputable def Jc (h:Heap) (H:Hp):Heap:=PySem.W.hideAll h (trk h H)
theorem RG (h:Heap) (H:Hp):(Jc h H).objs.size = h.objs.size:=PySem.W.hideAll_size _ _
theorem Uv {h:Heap} {H:Hp} {b:Addr} {o:Obj} (e:h.get? b = some o) (n:H b = none):(Jc h H).get? b = some o :=
 PySem.W.hideAll_get _ e fun hm=>by
  have q:(H b).isSome = true:=(List.mem_filter.mp hm).2
  rw [n] at q; simp at q
theorem ZP {h:Heap} {H:Hp} {b:Addr} {o:Obj} (e:(Jc h H).get? b = some o):h.get? b = some o/\H b = none:=by
 have e':h.get? b = some o:=PySem.W.of_hideAll (trk h H) e
 refine ⟨e',?_⟩
 cases q:H b with
 | none=>rfl
 | some x =>
  have hm:b ∈ trk h H:=List.mem_filter.mpr ⟨List.mem_range.mpr (aK e'),by simp [q]⟩
  have z:(Jc h H).get? b = none:=PySem.W.hideAll_none (trk h H) hm
  rw [z] at e; cases e
noncomputable def aac (g h:Heap) (L:Addr):List (Addr × Obj):=(List.range h.objs.size).filterMap fun a=>if a = L\/(g.get? a).isSome = true then none else (h.get? a).map fun o=>(a,o)
noncomputable def rest (g h:Heap) (L d:Addr):List (Addr × Obj):=(aac g h L).filter fun p=>decide (p.1 ≠ d)
end L2
namespace L2
open PySem PySem.Spec PyProof.Rows
structure Mod (K:Frag) (mg:Str->Option Value) (base:Heap):Prop where
 kin:K.In base
 glob:base.Ns mainGlobals mg
 blt:∃ mb,base.Ns builtinsNs mb/\∀ x:Str,x ≠ "__name__" -> mb x = bootBuiltins x
 nolimit:base.NoLimit
structure Cx where
 prog:Program
 w:World
 K:Frag
 mg:Str->Option Value
 base:Heap
 A:Around
 N:List Str
 s₀:Shared
 H₀:Hp
 env:Env
 outer:List Env
 stack:List Env
 ex:List Addr
 fn:Str->Bool
 calm:Bool
 pn:List (Addr × Obj)
 xe:Value->Shared->Prop
noncomputable def frs (l:List Env):List Addr:=l.filterMap (·.frame)
noncomputable abbrev Cx.fs (X:Cx):List Addr:=frs X.outer
noncomputable def Vis (sc:Scope) (x:Str):Prop:=sc.names.lookup x = some .local\/sc.names.lookup x = some .cell\/sc.names.lookup x = some .free
noncomputable def Loc (sc:Scope) (x:Str):Prop:=sc.names.lookup x = some .local\/sc.names.lookup x = some .cell
noncomputable def Look (env:Env) (h:Heap) (m:Str->Option Value) (x:Str) (u:Value):Prop :=
 (env.kindOf x = some .local/\m x = some u)\/((env.kindOf x = some .cell\/env.kindOf x = some .free)/\∃ c,env.cells.lookup x = some c/\h.IsCell c (some u))
structure Cx.Ok (X:Cx):Prop where
 mod:Mod X.K X.mg X.base
 kind:X.env.scope.kind = .function
 glob:X.env.globals = mainGlobals
 blt:X.env.builtins = builtinsNs
 above:X.s₀.heap.objs.size <= X.env.locals
 inj:∀ x y c,X.env.cells.lookup x = some c->X.env.cells.lookup y = some c->x = y
 has:∀ x,(X.env.kindOf x = some .cell\/X.env.kindOf x = some .free)->∃ c,X.env.cells.lookup x = some c
 cab:∀ x c,X.fn x = true->X.env.cells.lookup x = some c->X.s₀.heap.objs.size <= c
 hd:X.calm = true->X.A.handled = none
 frames:X.A.frames = some X.stack
 stk:X.stack = X.outer\/(X.stack = X.env :: X.outer/\X.env.frame = some X.env.locals)
 exf:∀ b ∈ X.ex,b ≠ X.env.locals/\∀ x c,X.env.cells.lookup x = some c->c ≠ b
 bs:∀ b o,X.base.get? b = some o->X.s₀.heap.get? b = some o/\X.H₀ b = none
 bsz:X.base.objs.size <= X.s₀.heap.objs.size
 noex:∀ b o,X.base.get? b = some o->b ∉ X.ex
 exfs:∀ b ∈ X.ex,b ∉ X.fs
 funs:X.s₀.heap.FunFrames X.base X.outer
 frf:∀ b ∈ X.fs,X.H₀ b = none
structure Inv (X:Cx) (pins:List (Addr × Obj)) (σ:List (Option V)) (H:Hp) (s:Shared):Prop where
 ok:X.Ok
 os:s.os = X.s₀.os
 bare:AllBare s.gens
 base:Un X.fs X.ex X.H₀ H X.s₀.heap s.heap
 loc:∃ m,s.heap.Ns X.env.locals m/\∀ (i:Nat) (x:Str) (v:V),X.N[i]? = some x->σ[i]? = some (some v)->Vis X.env.scope x->∃ u,RelV v u/\Look X.env s.heap m x u
 cell:∀ x c,X.env.cells.lookup x = some c->∃ v,s.heap.IsCell c v
 free:H X.env.locals = none
 freeC:∀ x c,X.env.cells.lookup x = some c->H c = none
 pin:∀ p ∈ X.pn ++ pins,s.heap.get? p.1 = some p.2/\H p.1 = none/\p.1 ≠ X.env.locals/\p.1 ∉ X.fs/\∀ v,p.2.data ≠ .cell v
 hok:HOk X.prog X.w H s.heap
 len:σ.length = X.N.length
section
variable {X:Cx} {pins:List (Addr × Obj)} {σ:List (Option V)} {H H':Hp} {s:Shared} {h':Heap}
theorem Cx.Ok.nofr (ok:X.Ok) {b:Addr} {o:Obj} (e:X.base.get? b = some o):b ∉ X.fs:=fun hb=>by
 have:=(ok.funs.mem hb).1
 rw [e] at this; cases this
theorem Inv.bs (I:Inv X pins σ H s):∀ b o,X.base.get? b = some o->s.heap.get? b = some o/\H b = none:=fun b o e =>
 ⟨I.base.keep b o (I.ok.bs b o e).1 (I.ok.bs b o e).2 (I.ok.nofr e) (I.ok.noex b o e),I.base.free b o (I.ok.bs b o e).1 (I.ok.bs b o e).2 (I.ok.noex b o e)⟩
theorem Inv.bk (I:Inv X pins σ H s):∀ b o,X.base.get? b = some o->s.heap.get? b = some o:=fun b o e=>(I.bs b o e).1
theorem Inv.mod (I:Inv X pins σ H s):Mod X.K X.mg X.base:=I.ok.mod
theorem Inv.kIn (I:Inv X pins σ H s):X.K.In s.heap:=I.ok.mod.kin.keeps I.bk
theorem Inv.fr (I:Inv X pins σ H s):∃ m,Fr X.base X.env.locals s.heap m :=
 let ⟨m,hn,_⟩:=I.loc
 ⟨m,hn,I.bk,aM I.ok.bsz I.ok.above⟩
theorem Inv.lt (I:Inv X pins σ H s):X.env.locals < s.heap.objs.size:=let ⟨_,hn,_⟩:=I.loc; hn.lt
theorem Inv.sz (I:Inv X pins σ H s):X.s₀.heap.objs.size <= s.heap.objs.size:=aM I.ok.above (Nat.le_of_lt I.lt)
theorem Inv.nofs (I:Inv X pins σ H s) {a:Addr} (h:s.heap.objs.size <= a):a ∉ X.fs:=fun hb=>by
 obtain ⟨_,o,ho,_⟩:=I.ok.funs.mem hb
 exact absurd (aU (aK ho) (aM I.sz h)) (Nat.lt_irrefl _)
theorem Inv.cne (I:Inv X pins σ H s):∀ x c,X.env.cells.lookup x = some c->c ≠ X.env.locals:=fun x c e z=>by
 obtain ⟨v,o,ho,hd⟩:=I.cell x c e
 obtain ⟨m,⟨o',es,ep,ho',hd',_⟩,_⟩:=I.loc
 rw [z,ho'] at ho; cases ho; rw [hd'] at hd; cases hd
theorem Inv.funs (I:Inv X pins σ H s):s.heap.FunFrames X.base X.outer:=by
 have all:∀ (l:List Env),(∀ b ∈ frs l,b ∈ X.fs)->X.s₀.heap.FunFrames X.base l->s.heap.FunFrames X.base l:=by
  intro l
  induction l with
  | nil=>intro _ _; trivial
  | cons env r ih =>
   intro hs hl
   obtain ⟨hk,⟨L,o,hf,hn,ho,hd⟩,hr⟩:=hl
   have hL:L ∈ X.fs:=hs L (by unfold frs; rw [List.filterMap_cons,hf]; exact aO)
   obtain ⟨sl,e⟩:=I.base.slot L o ho (I.ok.frf L hL) hL fun z=>I.ok.exfs L z hL
   exact ⟨hk,⟨L,_,hf,hn,e,hd⟩,ih (fun b hb=>hs b (by unfold frs; rw [List.filterMap_cons,hf]; exact aJ _ hb)) hr⟩
 exact all X.outer (fun _ hb=>hb) I.ok.funs
theorem Inv.stack (I:Inv X pins σ H s):s.heap.FunFrames X.base X.stack:=by
 rcases I.ok.stk with e | ⟨e,hf⟩
 .rw [e]; exact I.funs
 .rw [e]
  obtain ⟨m,hn,_⟩:=I.loc
  refine .cons (by rw [I.ok.kind]; decide) hf hn ?_ I.funs
  exact Heap.get?_none_of_le (aM I.ok.bsz I.ok.above)
theorem Inv.stkSub (I:Inv X pins σ H s):∀ b ∈ frs X.stack,b ∈ X.env.locals :: X.fs:=fun b hb=>by
 rcases I.ok.stk with e | ⟨e,hf⟩
 .rw [e] at hb; exact aJ _ hb
 .rw [e] at hb
  unfold frs at hb
  rw [List.filterMap_cons,hf] at hb
  exact hb
theorem Inv.stkFree (I:Inv X pins σ H s):∀ b ∈ frs X.stack,H b = none:=fun b hb=>by
 rcases List.mem_cons.mp (I.stkSub b hb) with e | hb
 .rw [e]; exact I.free
 .obtain ⟨_,o,ho,_⟩:=I.ok.funs.mem hb
  exact I.base.free b o ho (I.ok.frf b hb) fun z=>I.ok.exfs b z hb
theorem Inv.step {g':Array GenState} {t':Nat} {d':Drawn} {ch:List Addr} (I:Inv X pins σ H s)
  (hch:∀ b ∈ ch,(b ∈ X.ex\/X.s₀.heap.objs.size <= b)/\b ≠ X.env.locals/\(∀ x c,X.env.cells.lookup x = some c->c ≠ b)/\∀ p ∈ X.pn ++ pins,p.1 ≠ b)
  (keep:∀ b o,b ≠ X.env.locals->b ∉ X.fs->b ∉ ch->s.heap.get? b = some o->H b = none->h'.get? b = some o)
  (slot:∀ b o,b ≠ X.env.locals->b ∈ X.fs->b ∉ ch->s.heap.get? b = some o->H b = none->∃ sl,h'.get? b = some { o with slots:=sl }) (free:∀ b o,b ∉ ch->s.heap.get? b = some o->H b = none->H' b = none)
  (there:∀ b o,b ∉ ch->s.heap.get? b = some o->∃ o',h'.get? b = some o')
  (tups:∀ b xs,H b = some (.tup xs)->H' b = some (.tup xs)) (frzs:∀ b o u,H b = some (.frz o u)->H' b = some (.frz o u)) (tbls:∀ b ps,H b = some (.tbl ps)->∃ more,H' b = some (.tbl (ps ++ more)))
  (ns:∀ m,s.heap.Ns X.env.locals m->h'.Ns X.env.locals m) (hok:HOk X.prog X.w H' h') (hg:AllBare g') :
  Inv X pins σ H' { s with heap:=h',gens:=g',drawn:=d',toks:=t' }:=by
 have neL:∀ b o,X.s₀.heap.get? b = some o->b ≠ X.env.locals:=fun b o e=>aR (aU (aK e) I.ok.above)
 have neC:∀ b o,X.s₀.heap.get? b = some o->b ∉ X.ex->b ∉ ch:=fun b o e hx hb=>by
  rcases (hch b hb).1 with z | z
  .exact hx z
  .exact absurd (aU (aK e) z) (Nat.lt_irrefl _)
 have cellK:∀ x c,X.env.cells.lookup x = some c->∀ v,s.heap.IsCell c v->h'.IsCell c v:=fun x c e v ⟨o,ho,hd⟩=>by
  have nch:c ∉ ch:=fun z=>(hch c z).2.2.1 x c e rfl
  by_cases hc:c ∈ X.fs
  .obtain ⟨sl,q⟩:=slot c o (I.cne x c e) hc nch ho (I.freeC x c e)
   exact ⟨_,q,hd⟩
  .exact ⟨o,keep c o (I.cne x c e) hc nch ho (I.freeC x c e),hd⟩
 refine ⟨I.ok,I.os,hg,⟨fun b o e n hb hx=>?_,fun b o e n hb hx=>?_,fun b o e n hx=>?_,fun b o e hx=>?_,fun b xs e=>tups b xs (I.base.tups b xs e),fun b o xs e=>frzs b o xs (I.base.frzs b o xs e),fun b ps e=>?_⟩,?_,fun x c e=>?_,?_,fun x c e=>?_,fun p hp=>?_,hok,I.len⟩
 .exact keep b o (neL b o e) hb (neC b o e hx) (I.base.keep b o e n hb hx) (I.base.free b o e n hx)
 .obtain ⟨sl,e1⟩:=I.base.slot b o e n hb hx
  obtain ⟨sl',e2⟩:=slot b _ (neL b o e) hb (neC b o e hx) e1 (I.base.free b o e n hx)
  exact ⟨sl',e2⟩
 .obtain ⟨o',e1⟩:=I.base.there b o e hx
  exact free b o' (neC b o e hx) e1 (I.base.free b o e n hx)
 .obtain ⟨o',e1⟩:=I.base.there b o e hx
  exact there b o' (neC b o e hx) e1
 .obtain ⟨m1,e1⟩:=I.base.tbls b ps e
  obtain ⟨m2,e2⟩:=tbls b _ e1
  exact ⟨m1 ++ m2,by rw [e2,Array.append_assoc]⟩
 .obtain ⟨m,hn,hl⟩:=I.loc
  refine ⟨m,ns m hn,fun i x v e1 e2 e3=>?_⟩
  obtain ⟨u,r,l⟩:=hl i x v e1 e2 e3
  refine ⟨u,r,?_⟩
  rcases l with l | ⟨k,c,e,z⟩
  .exact .inl l
  .exact .inr ⟨k,c,e,cellK x c e _ z⟩
 .obtain ⟨v,z⟩:=I.cell x c e
  exact ⟨v,cellK x c e v z⟩
 .obtain ⟨m,⟨o,_,_,ho,_⟩,_⟩:=I.loc
  exact free _ o (fun z=>(hch _ z).2.1 rfl) ho I.free
 .obtain ⟨v,o,ho,hd⟩:=I.cell x c e
  exact free c o (fun z=>(hch c z).2.2.1 x c e rfl) ho (I.freeC x c e)
 .obtain ⟨e,n,ne,nf,d⟩:=I.pin p hp
  have nch:p.1 ∉ ch:=fun z=>(hch p.1 z).2.2.2 p hp rfl
  exact ⟨keep p.1 p.2 ne nf nch e n,free p.1 p.2 nch e n,ne,nf,d⟩
theorem Inv.un {t':Nat} (I:Inv X pins σ H s) (u:Un X.fs [] H H' s.heap h') (hok:HOk X.prog X.w H' h'):Inv X pins σ H' { s with heap:=h',toks:=t' }:=by
 obtain ⟨m,⟨o,es,ep,ho,r⟩,_⟩:=id I.loc
 obtain ⟨sl,hL⟩:=u.any ho I.free (by simp)
 exact I.step (g':=s.gens) (d':=s.drawn) (ch:=[]) (fun _ z=>nomatch z) (fun b o _ hb _ e n=>u.keep b o e n hb (by simp)) (fun b o _ hb _ e n=>u.slot b o e n hb (by simp)) (fun b o _ e n=>u.free b o e n (by simp)) (fun b o _ e=>u.there b o e (by simp)) u.tups u.frzs u.tbls (fun m' hm=>by
  obtain ⟨o',es',ep',ho',r'⟩:=hm
  rw [ho] at ho'; cases ho'
  exact ⟨_,es',ep',hL,r'⟩) hok I.bare
theorem Inv.call {g':Array GenState} {t':Nat} {d':Drawn} {ch:List Addr} (I:Inv X pins σ H s) (u:Un (frs X.stack) ch H H' s.heap h') (hok:HOk X.prog X.w H' h') (hg:AllBare g')
  (hch:∀ b ∈ ch,(b ∈ X.ex\/X.s₀.heap.objs.size <= b)/\b ≠ X.env.locals/\(∀ x c,X.env.cells.lookup x = some c->c ≠ b)/\∀ p ∈ X.pn ++ pins,p.1 ≠ b) :
  Inv X pins σ H' { s with heap:=h',gens:=g',drawn:=d',toks:=t' }:=by
 obtain ⟨m,⟨o,es,ep,ho,r⟩,_⟩:=id I.loc
 obtain ⟨sl,hL⟩:=u.any ho I.free fun z=>(hch _ z).2.1 rfl
 exact I.step (ch:=ch) hch (fun b o hL hb hc e n=>u.keep b o e n (fun z=>(List.mem_cons.mp (I.stkSub b z)).elim hL hb) hc) (fun b o _ _ hc e n=>u.any e n hc) (fun b o hc e n=>u.free b o e n hc) (fun b o hc e=>u.there b o e hc) u.tups u.frzs u.tbls (fun m' hm=>by
  obtain ⟨o',es',ep',ho',r'⟩:=hm
  rw [ho] at ho'; cases ho'
  exact ⟨_,es',ep',hL,r'⟩) hok hg
theorem Inv.turned {t':Nat} {it:Addr} (I:Inv X pins σ H s) (k:∀ b o,b ≠ it->s.heap.get? b = some o->h'.get? b = some o) (hn:H it = none) (hL:it ≠ X.env.locals)
  (h1:it ∈ X.ex\/X.s₀.heap.objs.size <= it) (h2:∀ x c,X.env.cells.lookup x = some c->c ≠ it) (h3:∀ p ∈ X.pn ++ pins,p.1 ≠ it):Inv X pins σ H { s with heap:=h',toks:=t' }:=by
 have nit:∀ b u,H b = some u->b ≠ it:=fun b u e z=>by rw [z,hn] at e; cases e
 refine I.step (g':=s.gens) (d':=s.drawn) (ch:=[it]) (fun b hb=>?_) (fun b o _ _ hc e _=>k b o (fun z=>hc (by simp [z])) e) (fun b o _ _ hc e _=>⟨o.slots,k b o (fun z=>hc (by simp [z])) e⟩) (fun _ _ _ _ n=>n)
  (fun b o hc e=>⟨o,k b o (fun z=>hc (by simp [z])) e⟩) (fun _ _ e=>e) (fun _ _ _ e=>e) (fun b ps e=>⟨#[],by rw [e]; simp⟩) (fun m hm=>?_) (fun b u e=>?_) I.bare
 .have e:b = it:=by simpa using hb
  subst e
  exact ⟨h1,hL,h2,h3⟩
 .obtain ⟨o,es,ep,ho,r⟩:=hm
  exact ⟨o,es,ep,k _ o (Ne.symm hL) ho,r⟩
 .refine (I.hok b u e).stay (fun c v hc q=>k c v ?_ q) (fun _ q=>q) fun _ _ q=>q
  rcases hc with z | z
  .rw [z]; exact nit b u e
  .exact nit c _ z
theorem Inv.tok (I:Inv X pins σ H s) (t:Nat):Inv X pins σ H { s with toks:=t }:=I.un (h':=s.heap) (t':=t) Un.refl I.hok
theorem Inv.kept {t':Nat} (I:Inv X pins σ H s) (k:∀ b u,s.heap.get? b = some u->h'.get? b = some u):Inv X pins σ H { s with heap:=h',toks:=t' }:=I.un (Un.kept k) (I.hok.kept k)
theorem Inv.laid {a:Addr} {o:HO} {t':Nat} (I:Inv X pins σ H s) (k:∀ b u,s.heap.get? b = some u->h'.get? b = some u) (hp:s.heap.objs.size <= a) (new:dz X.prog X.w (upd H a o) h' a o) :
  Inv X pins σ (upd H a o) { s with heap:=h',toks:=t' }:=I.un (Un.laid k hp (I.hok.fresh hp)) (I.hok.laid k hp new)
theorem Inv.write {x e:Addr} {o:HO} {t':Nat} (I:Inv X pins σ H s) (mu:Mut (H x)) (he:e = x\/H e = some (.own x)) (k:∀ b u,b ≠ e->s.heap.get? b = some u->h'.get? b = some u) (heo:∃ u,h'.get? e = some u)
  (new:dz X.prog X.w (upd H x o) h' x o):Inv X pins σ (upd H x o) { s with heap:=h',toks:=t' }:=I.un (Un.write mu he k heo) (I.hok.write mu he k heo new)
theorem Inv.pins_of {pins':List (Addr × Obj)} (I:Inv X pins σ H s) (h:∀ p ∈ pins',s.heap.get? p.1 = some p.2/\H p.1 = none/\p.1 ≠ X.env.locals/\p.1 ∉ X.fs/\∀ v,p.2.data ≠ .cell v):Inv X pins' σ H s :=
 ⟨I.ok,I.os,I.bare,I.base,I.loc,I.cell,I.free,I.freeC,fun p hp=>(List.mem_append.mp hp).elim (fun z=>I.pin p (List.mem_append_left _ z)) (h p),I.hok,I.len⟩
theorem qg {N:List Str} (hN:N.Nodup) {i j:Nat} {x:Str} (a:N[i]? = some x) (b:N[j]? = some x):i = j:=by
 obtain ⟨h1,e1⟩:=ao.mp a
 obtain ⟨h2,e2⟩:=ao.mp b
 exact (List.getElem_inj hN).mp (e1.trans e2.symm)
theorem SQ {M:Model} {A:Around} {E:Value->Shared->Prop} {i:Nat} {x:Str} {v:V} {u:Value} {Q:Unit->Shared->Prop} (I:Inv X pins σ H s) (hN:X.N.Nodup) (hi:X.N[i]? = some x) (hx:Loc X.env.scope x) (r:RelV v u)
  (h:∀ s',Inv X pins (σ.set i (some v)) H s'->(∃ a,Heap.SameBut a s.heap s'.heap/\(a = X.env.locals\/X.env.cells.lookup x = some a))->Q () s') (hf:X.fn x = true\/X.env.scope.names.lookup x = some .local):wpAny M A (storeName X.env x u) Q E s:=by
 obtain ⟨m,hn,hl⟩:=id I.loc
 have hcls:(X.env.scope.kind == .class || (X.env.scope.kind == .module && X.env.locals != X.env.globals)) = false:=by rw [I.ok.kind]; rfl
 have hiσ:i < σ.length:=by rw [I.len]; exact (ao.mp hi).1
 have cne:=I.cne
 have tracked:∀ {a:Addr} {h':Heap},(∃ o,s.heap.get? a = some o/\H a = none)->Heap.SameBut a s.heap h'->HOk X.prog X.w H h':=fun {a h'} ha hs b ob e=>by
  obtain ⟨_,_,hfree⟩:=ha
  refine (I.hok b ob e).stay (fun c w' hc q=>(hs.2 c ?_).trans q) (fun _ q=>q) fun _ _ q=>q
  rintro rfl
  rcases hc with rfl | hc
  .rw [hfree] at e; cases e
  .rw [hfree] at hc; cases hc
 rcases hx with hk | hk
 .refine wpAny_storeName_local hk hn (fun h' hn' hs=>?_) hcls
  obtain ⟨oL,_,_,hoL,_⟩:=id hn
  refine h _ ⟨I.ok,I.os,I.bare,⟨fun b o e n hb hx=>?_,fun b o e n hb hx=>?_,I.base.free,fun b o e hx=>?_,I.base.tups,I.base.frzs,I.base.tbls⟩,⟨_,hn',fun j y v' e1 e2 e3=>?_⟩,fun y c e=>?_,I.free,I.freeC,fun p hp=>?_,tracked ⟨oL,hoL,I.free⟩ hs,by simpa using I.len⟩ ⟨_,hs,.inl rfl⟩
  .exact (hs.2 b (aR (aU (aK e) I.ok.above))).trans (I.base.keep b o e n hb hx)
  .obtain ⟨sl,e1⟩:=I.base.slot b o e n hb hx
   exact ⟨sl,(hs.2 b (aR (aU (aK e) I.ok.above))).trans e1⟩
  .obtain ⟨o',e1⟩:=I.base.there b o e hx
   exact ⟨o',(hs.2 b (aR (aU (aK e) I.ok.above))).trans e1⟩
  .by_cases hj:j = i
   .subst hj
    rw [hi] at e1; cases e1
    rw [List.getElem?_set_self hiσ] at e2
    cases e2
    exact ⟨u,r,.inl ⟨hk,by simp⟩⟩
   .rw [List.getElem?_set_ne (Ne.symm hj)] at e2
    obtain ⟨u',r',q⟩:=hl j y v' e1 e2 e3
    refine ⟨u',r',?_⟩
    rcases q with ⟨k,e⟩ | ⟨k,c,e,z⟩
    .refine .inl ⟨k,?_⟩
     have:y ≠ x:=fun e=>hj (qg hN e1 (e ▸ hi))
     simp [this,e]
    .exact .inr ⟨k,c,e,z.sameBut hs (cne y c e)⟩
  .obtain ⟨w',z⟩:=I.cell y c e
   exact ⟨w',z.sameBut hs (cne y c e)⟩
  .obtain ⟨e,n,ne,nf,d⟩:=I.pin p hp
   exact ⟨(hs.2 p.1 ne).trans e,n,ne,nf,d⟩
 .have hfn:X.fn x = true:=by
   rcases hf with z | z
   .exact z
   .rw [z] at hk; cases hk
  obtain ⟨c,hc⟩:=I.ok.has x (.inl hk)
  obtain ⟨w',z⟩:=I.cell x c hc
  refine wpAny_storeName_cell I.ok.kind hk hc z (fun h' hc' hs=>?_)
  obtain ⟨oc,hoc,hocd⟩:=id z
  refine h { s with heap:=h' } ⟨I.ok,I.os,I.bare,⟨fun b o e n hb hx=>?_,fun b o e n hb hx=>?_,I.base.free,fun b o e hx=>?_,I.base.tups,I.base.frzs,I.base.tbls⟩,⟨m,hn.sameBut hs (Ne.symm (cne x c hc)),fun j y v' e1 e2 e3=>?_⟩,fun y c' e=>?_,I.free,I.freeC,fun p hp=>?_,tracked ⟨oc,hoc,I.freeC x c hc⟩ hs,by simpa using I.len⟩ ⟨c,hs,.inr hc⟩
  .exact (hs.2 b (aR (aU (aK e) (I.ok.cab x c hfn hc)))).trans (I.base.keep b o e n hb hx)
  .obtain ⟨sl,e1⟩:=I.base.slot b o e n hb hx
   exact ⟨sl,(hs.2 b (aR (aU (aK e) (I.ok.cab x c hfn hc)))).trans e1⟩
  .obtain ⟨o',e1⟩:=I.base.there b o e hx
   exact ⟨o',(hs.2 b (aR (aU (aK e) (I.ok.cab x c hfn hc)))).trans e1⟩
  .by_cases hj:j = i
   .subst hj
    rw [hi] at e1; cases e1
    rw [List.getElem?_set_self hiσ] at e2
    cases e2
    exact ⟨u,r,.inr ⟨.inl hk,c,hc,hc'⟩⟩
   .rw [List.getElem?_set_ne (Ne.symm hj)] at e2
    obtain ⟨u',r',q⟩:=hl j y v' e1 e2 e3
    refine ⟨u',r',?_⟩
    rcases q with q | ⟨k,c',e,z'⟩
    .exact .inl q
    .refine .inr ⟨k,c',e,z'.sameBut hs ?_⟩
     rintro rfl
     exact hj (qg hN e1 (I.ok.inj _ _ _ e hc ▸ hi))
  .by_cases hcc:c' = c
   .subst hcc; exact ⟨_,hc'⟩
   .obtain ⟨w2,z2⟩:=I.cell y c' e
    exact ⟨w2,z2.sameBut hs hcc⟩
  .obtain ⟨e,n,ne,nf,d⟩:=I.pin p hp
   refine ⟨(hs.2 p.1 ?_).trans e,n,ne,nf,d⟩
   intro q
   rw [q,hoc] at e
   have q':oc = p.2:=Option.some.inj e
   exact d w' (by rw [<- q']; exact hocd)
theorem um {M:Model} {A:Around} {E:Value->Shared->Prop} {i:Nat} {x:Str} {v:V} {u:Value} {Q:Unit->Shared->Prop} (I:Inv X pins σ H s) (hN:X.N.Nodup) (hi:X.N[i]? = some x) (hx:Loc X.env.scope x) (r:RelV v u)
  (h:∀ s',Inv X pins (σ.set i (some v)) H s'->Q () s') (hf:X.fn x = true\/X.env.scope.names.lookup x = some .local:=by first | exact .inl rfl | exact .inr rfl | assumption):wpAny M A (storeName X.env x u) Q E s :=
 SQ I hN hi hx r (fun s' I' _=>h s' I') hf
theorem Inv.call' {s':Shared} {ch:List Addr} (I:Inv X pins σ H s) (ho:s'.os = s.os) (u:Un (frs X.stack) ch H H' s.heap s'.heap) (hok:HOk X.prog X.w H' s'.heap) (hg:AllBare s'.gens)
  (hch:∀ b ∈ ch,(b ∈ X.ex\/X.s₀.heap.objs.size <= b)/\b ≠ X.env.locals/\(∀ x c,X.env.cells.lookup x = some c->c ≠ b)/\∀ p ∈ X.pn ++ pins,p.1 ≠ b):Inv X pins σ H' s':=by
 obtain ⟨h',g',d',t',o'⟩:=s'
 have e:o' = s.os:=ho
 subst e
 exact I.call (g':=g') (t':=t') (d':=d') u hok hg hch
end
noncomputable abbrev XK:=Value->Option Addr->Hp->Prop
noncomputable abbrev St:=List (Option V)
noncomputable abbrev VK:=V->Hp->Prop
noncomputable abbrev TE:=St->Hp->VK->Prop
noncomputable abbrev TT:=St->Hp->(Bool->Hp->Prop)->Prop
noncomputable abbrev TA:=St->Hp->(List V->Hp->Prop)->Prop
structure Ends where
 nx:St->Hp->Prop
 rt:VK
 bk:St->Hp->Prop:=fun _ _=>False
 ct:St->Hp->Prop:=fun _ _=>False
noncomputable abbrev TS:=Ends->St->Hp->Prop
noncomputable def EP (X:Cx) (pins:List (Addr × Obj)) (σ:St) (Q:VK) (u:Value) (s':Shared):Prop:=∃ v H',Inv X pins σ H' s'/\RelV v u/\Q v H'
noncomputable def TP (X:Cx) (pins:List (Addr × Obj)) (σ:St) (Q:Bool->Hp->Prop) (b:Bool) (s':Shared):Prop:=∃ H',Inv X pins σ H' s'/\Q b H'
noncomputable def AP (X:Cx) (pins:List (Addr × Obj)) (σ:St) (Q:List V->Hp->Prop) (us:List Value) (s':Shared):Prop:=∃ vs H',Inv X pins σ H' s'/\Vals vs us/\Q vs H'
noncomputable def SP (X:Cx) (pins:List (Addr × Obj)) (D:Ends) (f:Flow) (s':Shared):Prop :=
 match f with
 | .next=>∃ σ' H',Inv X pins σ' H' s'/\D.nx σ' H'
 | .brk=>∃ σ' H',Inv X pins σ' H' s'/\D.bk σ' H'
 | .cont=>∃ σ' H',Inv X pins σ' H' s'/\D.ct σ' H'
 | .ret u=>∃ v σ' H',Inv X pins σ' H' s'/\RelV v u/\D.rt v H'
noncomputable def PE (X:Cx) (e:Expr) (t:TE):Prop :=
 ∀ (pins:List (Addr × Obj)) (s:Shared) (σ:St) (H:Hp) (Q:VK),Inv X pins σ H s->t σ H Q->wpAny (model X.prog X.w) X.A (eval e X.env) (EP X pins σ Q) X.xe s
noncomputable def PT (X:Cx) (e:Expr) (t:TT):Prop :=
 ∀ (pins:List (Addr × Obj)) (s:Shared) (σ:St) (H:Hp) (Q:Bool->Hp->Prop),Inv X pins σ H s->t σ H Q->wpAny (model X.prog X.w) X.A (isTrue e X.env (eval e X.env)) (TP X pins σ Q) X.xe s
noncomputable def PW (X:Cx) (e:Expr) (t:TT):Prop :=
 ∀ (whole:Sem Value) (pins:List (Addr × Obj)) (s:Shared) (σ:St) (H:Hp) (Q:Bool->Hp->Prop),Inv X pins σ H s->t σ H Q->wpAny (model X.prog X.w) X.A (isTrue e X.env whole) (TP X pins σ Q) X.xe s
theorem PW.pt {X:Cx} {e:Expr} {t:TT} (h:PW X e t):PT X e t:=h _
noncomputable def PA (X:Cx) (es:List Expr) (t:TA):Prop :=
 ∀ (pos:Pos) (pins:List (Addr × Obj)) (s:Shared) (σ:St) (H:Hp) (Q:List V->Hp->Prop),Inv X pins σ H s->t σ H Q->wpAny (model X.prog X.w) X.A (spliced (backTo pos (starEach es X.env))) (AP X pins σ Q) X.xe s
noncomputable def PS (X:Cx) (st:Stmt) (t:TS):Prop :=
 ∀ (pins:List (Addr × Obj)) (s:Shared) (σ:St) (H:Hp) (D:Ends),Inv X pins σ H s->t D σ H->wpAny (model X.prog X.w) X.A (exec st X.env) (SP X pins D) X.xe s
noncomputable def PSs (X:Cx) (st:List Stmt) (t:TS):Prop :=
 ∀ (pins:List (Addr × Obj)) (s:Shared) (σ:St) (H:Hp) (D:Ends),Inv X pins σ H s->t D σ H->wpAny (model X.prog X.w) X.A (execs st X.env) (SP X pins D) X.xe s
theorem thn {α:Type} {t:Sem α} {Q Q':α->Shared->Prop} {M:Model} {A:Around} {E:Value->Shared->Prop} {s:Shared} (h:wpAny M A t Q E s) (hQ:∀ a s,Q a s->Q' a s):wpAny M A t Q' E s:=wpAny_mono h hQ fun _ _ x=>x
end L2
namespace L2
open PySem PySem.Spec PyProof.Rows
section
variable {X:Cx}
noncomputable def Df (i:Nat):TE:=fun σ H Q=>∃ v,σ[i]? = some (some v)/\Q v H
noncomputable def tC (v:V):TE:=fun _ H Q=>Q v H
theorem ab0 {i:Nat} {x:Str} {pos:Pos} (hN:X.N[i]? = some x) (hv:Vis X.env.scope x) (hd:(x == ("__debug__" : Str)) = false:=by decide) (hcd:(x == ("__classdict__" : Str)) = false:=by decide):PE X (.Name x pos) (Df i):=by
 intro pins s σ H Q I h
 obtain ⟨v,e,h⟩:=h
 obtain ⟨m,hn,hl⟩:=I.loc
 obtain ⟨u,r,l⟩:=hl i x v hN e hv
 have fin:EP X pins σ Q u s:=⟨v,H,I,r,h⟩
 rcases l with ⟨hk,hm⟩ | ⟨hk,c,hc,hcell⟩
 .exact wpAny_Name (wpAny_loadName_local I.ok.kind hk hn hm fin) hd
 .rcases hk with hk | hk
  .exact wpAny_Name (wpAny_loadName_cell I.ok.kind hk hc hcell fin) hd
  .exact wpAny_Name (wpAny_loadName_free I.ok.kind hk hc hcell fin hcd) hd
theorem bF {i j pos} : PE X (.Constant (.int i) j pos) (tC (.int i)):=fun _ _ _ H _ I h=>wpAny_Constant_int ⟨.int i,H,I.tok _,⟨_,rfl⟩,h⟩
theorem jY {b j pos} : PE X (.Constant (.bool b) j pos) (tC (.bl b)):=fun _ _ _ H _ I h=>Constant_bool ⟨.bl b,H,I,rfl,h⟩
theorem lg {j pos} : PE X (.Constant .none j pos) (tC .non):=fun _ _ _ H _ I h=>Constant_none ⟨.non,H,I,rfl,h⟩
theorem jq {x j pos} : PE X (.Constant (.str x) j pos) (tC (.str x)):=fun _ _ _ H _ I h=>Calls.Constant_str ⟨.str x,H,I.tok _,⟨_,rfl⟩,h⟩
noncomputable def Gl (X:Cx) (x:Str):Prop:=X.env.kindOf x = some .globalImplicit
theorem nA {E:Value->Shared->Prop} {pins:List (Addr × Obj)} {s:Shared} {σ:St} {H:Hp} {x:Str} {u:Value} {pos:Pos} {Q:Value->Shared->Prop} (I:Inv X pins σ H s) (hg:Gl X x) (hm:X.mg x = some u) (h:Q u s)
  (hd:(x == ("__debug__" : Str)) = false:=by decide):wpAny (model X.prog X.w) X.A (eval (.Name x pos) X.env) Q E s :=
 Calls.Name_function_global I.ok.kind hg (Calls.loadGlobal_global (by rw [I.ok.glob]; exact I.mod.glob.keeps I.bk) hm h) hd
theorem zj {E:Value->Shared->Prop} {pins:List (Addr × Obj)} {s:Shared} {σ:St} {H:Hp} {x:Str} {u:Value} {pos:Pos} {Q:Value->Shared->Prop} (I:Inv X pins σ H s) (hg:Gl X x) (hm:X.mg x = none) (hv:bootBuiltins x = some u) (h:Q u s)
  (hn:x ≠ "__name__" := by decide) (hd:(x == ("__debug__" : Str)) = false:=by decide):wpAny (model X.prog X.w) X.A (eval (.Name x pos) X.env) Q E s:=by
 obtain ⟨mb,h1,h2⟩:=I.mod.blt
 exact Calls.Name_function_global I.ok.kind hg (Calls.loadGlobal_builtin (by rw [I.ok.glob]; exact I.mod.glob.keeps I.bk) hm (by rw [I.ok.blt]; exact h1.keeps I.bk) ((h2 x hn).trans hv) h) hd
theorem Pn {x:Str} {v:V} {u:Value} {pos:Pos} (hg:Gl X x) (hm:X.mg x = some u) (r:RelV v u) (hd:(x == ("__debug__" : Str)) = false:=by decide):PE X (.Name x pos) (tC v) :=
 fun _ _ _ H _ I h=>nA I hg hm ⟨v,H,I,r,h⟩ hd
theorem nR {x:Str} {v:V} {u:Value} {pos:Pos} (hg:Gl X x) (hm:X.mg x = none) (hv:bootBuiltins x = some u) (r:RelV v u) (hn:x ≠ "__name__" := by decide) (hd:(x == ("__debug__" : Str)) = false:=by decide):PE X (.Name x pos) (tC v) :=
 fun _ _ _ H _ I h=>zj I hg hm hv ⟨v,H,I,r,h⟩ hn hd
variable {a b:Expr} {ta tb:TE} {pos:Pos}
noncomputable def PC (X:Cx) (op:CmpOp) (a b:Expr) (t:TE):Prop :=
 ∀ (pins:List (Addr × Obj)) (s:Shared) (σ:St) (H:Hp) (Q:VK),Inv X pins σ H s->t σ H Q ->
  wpAny (model X.prog X.w) X.A (eval a X.env) (fun v s₁=>wpAny (model X.prog X.w) X.A (eval b X.env) (fun u s₂=>wpAny (model X.prog X.w) X.A (compareOp op v u) (EP X pins σ Q) X.xe s₂) X.xe s₁) X.xe s
noncomputable def tB (t:TE):TT:=fun σ H Q=>t σ H fun x H1=>∃ c,x = .bl c/\Q c H1
theorem Ov {op:CmpOp} {t:TE} (h:PC X op a b t) (h1:behindInMarks op b = false:=by rfl):PT X (.Compare a [op] [b] pos) (tB t):=by
 intro pins s σ H Q I hw
 refine wpAny_isTrue_Compare1 (thn (h pins s σ H _ I hw) fun v s1 h1=>thn h1 fun u s2 h2=>thn h2 fun c s3 ⟨x,H1,I1,r1,q1⟩=>?_) h1
 obtain ⟨d,rfl,q⟩:=q1
 cases r1
 exact wpAny_truthy_bool ⟨H1,I1,q⟩
variable {tA tB':TT} {rest:List Expr}
noncomputable def W5 (t u:TT):TT:=fun σ H Q=>t σ H fun c H1=>if c = true then u σ H1 Q else Q false H1
noncomputable def tOr (t u:TT):TT:=fun σ H Q=>t σ H fun c H1=>if c = true then Q true H1 else u σ H1 Q
noncomputable def Wh (t:TT):TT:=fun σ H Q=>t σ H fun c H1=>Q (!c) H1
theorem pw_and1 (ha:PT X a tA):PW X (.BoolOp .And [a] pos) tA:=by
 intro wh pins s σ H Q I h
 refine isTrue_and (thn (ha pins s σ H Q I h) fun c s1 e=>?_)
 cases c with
 | true=>exact isTrue_and_nil e
 | false=>exact e
theorem pw_or1 (ha:PT X a tA):PW X (.BoolOp .Or [a] pos) tA:=by
 intro wh pins s σ H Q I h
 refine isTrue_or (thn (ha pins s σ H Q I h) fun c s1 e=>?_)
 cases c with
 | false=>exact isTrue_or_nil e
 | true=>exact e
theorem pw_and (ha:PT X a tA) (hb:PW X (.BoolOp .And (b :: rest) pos) tB'):PW X (.BoolOp .And (a :: b :: rest) pos) (W5 tA tB'):=by
 intro wh pins s σ H Q I h
 refine isTrue_and (thn (ha pins s σ H _ I h) fun c s1 ⟨H1,I1,q1⟩=>?_)
 cases c with
 | true=>exact hb wh pins s1 σ H1 Q I1 q1
 | false=>exact ⟨H1,I1,q1⟩
theorem pw_or (ha:PT X a tA) (hb:PW X (.BoolOp .Or (b :: rest) pos) tB'):PW X (.BoolOp .Or (a :: b :: rest) pos) (tOr tA tB'):=by
 intro wh pins s σ H Q I h
 refine isTrue_or (thn (ha pins s σ H _ I h) fun c s1 ⟨H1,I1,q1⟩=>?_)
 cases c with
 | true=>exact ⟨H1,I1,q1⟩
 | false=>exact hb wh pins s1 σ H1 Q I1 q1
theorem d_ (ha:PT X a tA):PT X (.UnaryOp .Not a pos) (Wh tA):=by
 intro pins s σ H Q I h
 exact isTrue_not (ha pins s σ H (fun c H1=>Q (!c) H1) I h)
noncomputable def QW (ta tb:TE):TE:=fun σ H Q=>ta σ H fun x H1=>∃ c,x = .bl c/\if c = true then tb σ H1 Q else Q (.bl false) H1
noncomputable def abX (ta tb:TE):TE:=fun σ H Q=>ta σ H fun x H1=>∃ c,x = .bl c/\if c = true then Q (.bl true) H1 else tb σ H1 Q
noncomputable def Ql (ta:TE):TE:=fun σ H Q=>ta σ H fun x H1=>∃ c,x = .bl c/\Q (.bl (!c)) H1
theorem Bu {op} {t:TE} (h:PE X a t):PE X (.BoolOp op [a] pos) t:=fun pins s σ H Q I hw=>BoolOp_one (h pins s σ H Q I hw)
theorem yR (ha:PE X a ta) (hb:PE X (.BoolOp .And (b :: rest) pos) tb):PE X (.BoolOp .And (a :: b :: rest) pos) (QW ta tb):=by
 intro pins s σ H Q I h
 refine BoolOp_and (thn (ha pins s σ H _ I h) fun v s1 ⟨x,H1,I1,r1,q1⟩=>?_)
 obtain ⟨c,rfl,q1⟩:=q1
 cases r1
 refine wpAny_truthy_bool ?_
 cases c with
 | true=>exact hb pins s1 σ H1 Q I1 q1
 | false=>exact ⟨.bl false,H1,I1,rfl,q1⟩
theorem Xp (ha:PE X a ta):PE X (.UnaryOp .Not a pos) (Ql ta):=by
 intro pins s σ H Q I h
 refine UnaryOp_ (thn (ha pins s σ H _ I h) fun v s1 ⟨x,H1,I1,r1,q1⟩=>?_)
 obtain ⟨c,rfl,q1⟩:=q1
 cases r1
 exact not_of (wpAny_truthy_bool ⟨.bl (!c),H1,I1,rfl,q1⟩)
noncomputable def tIf (t:TT) (ta tb:TE):TE:=fun σ H Q=>t σ H fun c H1=>if c = true then ta σ H1 Q else tb σ H1 Q
theorem Xi {c:Expr} (hc:PT X c tA) (ha:PE X a ta) (hb:PE X b tb):PE X (.IfExp c a b pos) (tIf tA ta tb):=by
 intro pins s σ H Q I h
 refine wpAny_IfExp (thn (hc pins s σ H _ I h) fun d s1 ⟨H1,I1,q1⟩=>?_)
 cases d with
 | true=>exact ha pins s1 σ H1 Q I1 q1
 | false=>exact hb pins s1 σ H1 Q I1 q1
end
end L2
namespace L2
open PySem PySem.Spec PyProof.Rows
noncomputable def SqL (K:Frag) (H:Hp) (a:Addr) (xs:List V):Prop :=
 Rd H a (.lst xs) \/
  ∃ (o:Obj) (its:Array Value) (n:Nat),K.lookup a = some o/\o.cls = .type "list" /\ o.dict = none/\o.data = .seq its n/\its.size <= sizeLine/\Vals xs its.toList
noncomputable def SqT (K:Frag) (H:Hp) (a:Addr) (xs:List V):Prop :=
 Rd H a (.tup xs) \/
  ∃ (o:Obj) (its:Array Value) (n:Nat),K.lookup a = some o/\o.cls = .type "tuple" /\ o.data = .seq its n/\its.size <= sizeLine/\Vals xs its.toList
noncomputable def agr:Value->Option V
 | .none=>some .non
 | .bool b=>some (.bl b)
 | .int i _=>some (.int i)
 | .str x _=>some (.str x)
 | .bytes b _=>some (.byt b)
 | .float b _=>some (.flt b)
 | .ref a=>some (.ref a)
 | .type n=>some (.ty n)
 | _=>none
theorem RelV.abs {x:V} {u:Value} (r:RelV x u):agr u = some x:=by
 cases x with
 | non=>cases r; rfl
 | bl _=>cases r; rfl
 | int _=>obtain ⟨t,rfl⟩:=r; rfl
 | str _=>obtain ⟨t,rfl⟩:=r; rfl
 | byt _=>obtain ⟨t,rfl⟩:=r; rfl
 | flt _=>obtain ⟨t,rfl⟩:=r; rfl
 | ref _=>cases r; rfl
 | ty _=>cases r; rfl
theorem RelV.inj {x y:V} {u:Value} (r:RelV x u) (q:RelV y u):x = y:=Option.some.inj (r.abs.symm.trans q.abs)
theorem Vals.inj:∀ {xs ys:List V} {us:List Value},Vals xs us->Vals ys us->xs = ys
 | _,_,_,.nil,.nil=>rfl
 | _,_,_,.cons r t,.cons r' t'=>by rw [r.inj r',Vals.inj t t']
section
variable {X:Cx} {pins:List (Addr × Obj)} {σ:St} {H:Hp} {s:Shared} {a:Addr} {xs ys:List V}
theorem SqL.of {K:Frag} (h:H a = some (.lst xs)):SqL K H a xs:=.inl (.inl h)
theorem SqT.of {K:Frag} (h:H a = some (.tup xs)):SqT K H a xs:=.inl (.inl h)
theorem Inv.list (I:Inv X pins σ H s) (h:SqL X.K H a xs):∃ its:List Value,Vals xs its/\PlainL s.heap a its.toArray/\xs.length <= sizeLine:=by
 rcases h with h | ⟨o,its,n,hk,hc,hd,hs,hz,r⟩
 .obtain ⟨z,its,n,r,e⟩:=h.ok I.hok
  exact ⟨its,r,⟨_,n,e,rfl,rfl,rfl⟩,z⟩
 .refine ⟨its.toList,r,⟨o,n,I.kIn a o hk,hc,hd,by simpa using hs⟩,?_⟩
  have e:=r.length
  simp only [Array.length_toList] at e
  omega
theorem Inv.tuple (I:Inv X pins σ H s) (h:SqT X.K H a xs):∃ its:List Value,Vals xs its/\IsTup s.heap a its.toArray/\xs.length <= sizeLine:=by
 rcases h with h | ⟨o,its,n,hk,hc,hs,hz,r⟩
 .obtain ⟨z,its,r,p⟩:=h.ok I.hok
  exact ⟨its,r,p,z⟩
 .refine ⟨its.toList,r,⟨o,I.kIn a o hk,hc,n,by simpa using hs⟩,?_⟩
  have e:=r.length
  simp only [Array.length_toList] at e
  omega
theorem Inv.list_inj (I:Inv X pins σ H s) (h:SqL X.K H a xs) (h':SqL X.K H a ys):xs = ys:=by
 obtain ⟨its,r,⟨o,n,e,_,_,d⟩,_⟩:=I.list h
 obtain ⟨its',r',⟨o',n',e',_,_,d'⟩,_⟩:=I.list h'
 rw [e] at e'; cases e'
 rw [d] at d'
 injection d' with d1 _
 have:its = its':=by simpa using congrArg Array.toList d1
 subst this
 exact r.inj r'
end
noncomputable abbrev Cx.wish (X:Cx) (E:Value->Shared->Prop):Cx:={ X with xe:=E }
noncomputable abbrev Cx.nox (X:Cx):Cx:=X.wish fun _ _=>False
theorem Cx.Ok.wish {X:Cx} (ok:X.Ok) (E:Value->Shared->Prop):(X.wish E).Ok :=
 ⟨ok.mod,ok.kind,ok.glob,ok.blt,ok.above,ok.inj,ok.has,ok.cab,ok.hd,ok.frames,ok.stk,ok.exf,ok.bs,ok.bsz,ok.noex,ok.exfs,ok.funs,ok.frf⟩
theorem Cx.Ok.unwish {X:Cx} {E:Value->Shared->Prop} (ok:(X.wish E).Ok):X.Ok :=
 ⟨ok.mod,ok.kind,ok.glob,ok.blt,ok.above,ok.inj,ok.has,ok.cab,ok.hd,ok.frames,ok.stk,ok.exf,ok.bs,ok.bsz,ok.noex,ok.exfs,ok.funs,ok.frf⟩
section
variable {X:Cx} {pins:List (Addr × Obj)} {σ:St} {H:Hp} {s:Shared} {E:Value->Shared->Prop}
theorem Inv.wish (I:Inv X pins σ H s) (E:Value->Shared->Prop):Inv (X.wish E) pins σ H s:=⟨I.ok.wish E,I.os,I.bare,I.base,I.loc,I.cell,I.free,I.freeC,I.pin,I.hok,I.len⟩
theorem Inv.unwish (I:Inv (X.wish E) pins σ H s):Inv X pins σ H s:=⟨I.ok.unwish,I.os,I.bare,I.base,I.loc,I.cell,I.free,I.freeC,I.pin,I.hok,I.len⟩
theorem SP.unwish {D:Ends} {f:Flow} {s':Shared} (h:SP (X.wish E) pins D f s'):SP X pins D f s':=by
 cases f with
 | next=>obtain ⟨σ',H',I,q⟩:=h; exact ⟨σ',H',I.unwish,q⟩
 | brk=>obtain ⟨σ',H',I,q⟩:=h; exact ⟨σ',H',I.unwish,q⟩
 | cont=>obtain ⟨σ',H',I,q⟩:=h; exact ⟨σ',H',I.unwish,q⟩
 | ret u=>obtain ⟨v,σ',H',I,r,q⟩:=h; exact ⟨v,σ',H',I.unwish,r,q⟩
theorem PSs.nox {st:List Stmt} {t:TS} (h:PSs X.nox st t):PSs X st t:=fun pins s σ H D I hw =>
 wpAny_mono (h pins s σ H D (I.wish _) hw) (fun _ _ q=>q.unwish) fun _ _ z=>False.elim z
end
section
variable {X:Cx} {st:Stmt} {rest:List Stmt} {t u:TS} {e:Expr} {te:TE} {pos:Pos}
noncomputable def wu:TS:=fun D σ H=>D.nx σ H
noncomputable def qd (t u:TS):TS:=fun D σ H=>t { D with nx:=u D } σ H
theorem cj:PSs X [] wu:=fun _ _ σ H _ I h=>wpAny_execs_nil ⟨σ,H,I,h⟩
theorem bK (h1:PS X st t) (h2:PSs X rest u):PSs X (st :: rest) (qd t u):=by
 intro pins s σ H D I h
 refine wpAny_execs_cons (thn (h1 pins s σ H { D with nx:=u D } I h) fun f s1 q=>?_)
 cases f with
 | next =>
  obtain ⟨σ',H',I',q⟩:=q
  exact h2 pins s1 σ' H' D I' q
 | ret v=>exact q
 | brk=>exact q
 | cont=>exact q
theorem bL (h1:PS X st t):PSs X [st] t:=by
 intro pins s σ H D I h
 refine wpAny_execs_cons (thn (h1 pins s σ H D I h) fun f s1 q=>?_)
 cases f with
 | next=>exact wpAny_execs_nil q
 | ret v=>exact q
 | brk=>exact q
 | cont=>exact q
theorem Inv.quiet {pins:List (Addr × Obj)} {σ:St} {H:Hp} {s:Shared} (I:Inv X pins σ H s):interactive X.env = false:=by simp [interactive,I.ok.kind]
noncomputable def Pg (te:TE):TS:=fun D σ H=>te σ H fun _ H1=>D.nx σ H1
theorem cU (he:PE X e te) (hs:swapsWith e none pos.line X.env = pure false:=by rfl):PS X (.Expr e pos) (Pg te):=by
 intro pins s σ H D I h
 exact wpAny_Expr_any (thn (he pins s σ H _ I h) fun v s1 ⟨x,H1,I1,r1,q1⟩=>⟨σ,H1,I1,q1⟩) I.quiet hs
noncomputable def R6 (te:TE):TS:=fun D σ H=>te σ H D.rt
theorem cg (he:PE X e te):PS X (.Return (some e) pos) (R6 te):=by
 intro pins s σ H D I h
 exact wpAny_Return_some (thn (he pins s σ H _ I h) fun v s1 ⟨x,H1,I1,r1,q1⟩=>⟨x,σ,H1,I1,r1,q1⟩)
noncomputable def WQ:TS:=fun D _ H=>D.rt .non H
noncomputable def z8 (c:TT) (t u:TS):TS:=fun D σ H=>c σ H fun b H1=>if b = true then t D σ H1 else u D σ H1
theorem cQ {c:Expr} {a b:List Stmt} {tc:TT} (hc:PT X c tc) (ha:PSs X a t) (hb:PSs X b u):PS X (.If c a b pos) (z8 tc t u):=by
 intro pins s σ H D I h
 refine wpAny_If (thn (hc pins s σ H _ I h) fun d s1 ⟨H1,I1,q1⟩=>?_)
 cases d with
 | true=>exact ha pins s1 σ H1 D I1 q1
 | false=>exact hb pins s1 σ H1 D I1 q1
noncomputable def aaT:TS:=fun _ _ _=>False
theorem oF:PS X st aaT:=fun _ _ _ _ _ _ h=>h.elim
end
noncomputable abbrev TG:=V->St->Hp->(St->Hp->Prop)->Prop
noncomputable abbrev TGs:=List V->St->Hp->(St->Hp->Prop)->Prop
noncomputable def PG (X:Cx) (target:Expr) (t:TG):Prop :=
 ∀ (pins:List (Addr × Obj)) (s:Shared) (σ:St) (H:Hp) (v:V) (u:Value) (Q:St->Hp->Prop),Inv X pins σ H s->RelV v u->t v σ H Q ->
  wpAny (model X.prog X.w) X.A (assign target X.env u) (fun _ s'=>∃ σ' H',Inv X pins σ' H' s'/\Q σ' H') X.xe s
noncomputable def PGs (X:Cx) (ts:List Expr) (t:TGs):Prop :=
 ∀ (pins:List (Addr × Obj)) (s:Shared) (σ:St) (H:Hp) (vs:List V) (us:List Value) (Q:St->Hp->Prop),Inv X pins σ H s->Vals vs us->t vs σ H Q ->
  wpAny (model X.prog X.w) X.A (assignInOrder ((assignEach ts X.env).map (·.2)) us) (fun _ s'=>∃ σ' H',Inv X pins σ' H' s'/\Q σ' H') X.xe s
noncomputable abbrev abD:=V->V->V->Hp->(Hp->Prop)->Prop
noncomputable def ady (X:Cx) (t:abD):Prop :=
 ∀ (pins:List (Addr × Obj)) (s:Shared) (σ:St) (H:Hp) (o i v:V) (ov iv u:Value) (Q:Hp->Prop),Inv X pins σ H s->RelV o ov->RelV i iv->RelV v u->t o i v H Q ->
  wpAny (model X.prog X.w) X.A (setItem ov iv u) (fun _ s'=>∃ H',Inv X pins σ H' s'/\Q H') X.xe s
section
variable {X:Cx} {pos:Pos}
noncomputable def cN (i:Nat):TG:=fun v σ H Q=>Q (σ.set i (some v)) H
theorem cI {i:Nat} {x:Str} (hN:X.N.Nodup) (hi:X.N[i]? = some x) (hx:Loc X.env.scope x) (hf:X.fn x = true\/X.env.scope.names.lookup x = some .local:=by first | exact .inl rfl | exact .inr rfl | assumption):PG X (.Name x pos) (cN i):=by
 intro pins s σ H v u Q I r h
 exact wpAny_assign_Name (um I hN hi hx r (fun s' I'=>⟨_,H,I',h⟩) hf)
noncomputable def ZJ:TGs:=fun vs σ H Q=>vs = []/\Q σ H
noncomputable def QT (t:TG) (u:TGs):TGs:=fun vs σ H Q=>∃ v r,vs = v :: r/\t v σ H fun σ' H'=>u r σ' H' Q
theorem eG:PGs X [] ZJ:=by
 intro pins s σ H vs us Q I r h
 obtain ⟨e,h⟩:=h
 subst e
 cases r
 exact assignInOrder_nil ⟨σ,H,I,h⟩
theorem cu {e:Expr} {es:List Expr} {t:TG} {u:TGs} (h1:PG X e t) (h2:PGs X es u)
  (hs:(assignEach (e :: es) X.env).map (·.2) = assign e X.env :: (assignEach es X.env).map (·.2):=by rfl):PGs X (e :: es) (QT t u):=by
 intro pins s σ H vs us Q I r h
 obtain ⟨v,vr,e1,h⟩:=h
 subst e1
 cases r with
 | cons r rr =>
  rw [hs]
  refine assignInOrder_cons (thn (h1 pins s σ H _ _ _ I r h) fun _ s1 ⟨σ1,H1,I1,q1⟩=>?_)
  exact h2 pins s1 σ1 H1 _ _ Q I1 rr q1
noncomputable def aah (K:Frag) (n:Nat) (t:TGs):TG:=fun v σ H Q=>∃ a xs,v = .ref a/\SqT K H a xs/\xs.length = n/\t xs σ H Q
theorem ab4 {es:List Expr} {k:Nat} {t:TGs} {n:Nat} (hc:X.calm = true) (h:PGs X es t)
  (hn:(assignEach es X.env).length = n:=by rfl) (hst:(assignEach es X.env).findIdx? (·.1) = none:=by rfl):PG X (.Tuple es k pos) (aah X.K n t):=by
 intro pins s σ H v u Q I r hw
 obtain ⟨a,xs,e1,hq,hl,hw⟩:=hw
 subst e1
 cases r
 obtain ⟨its,rv,ht,hz⟩:=I.tuple hq
 refine assign_Tuple_tuple (I.ok.hd hc) ht (by simp [hn,<- hl,rv.length]) hst fun h' hx=>?_
 have I1:Inv X pins σ H { s with heap:=h' }:=I.kept (t':=s.toks) fun b o e=>hx b o (aR (aK e)) e
 exact h pins _ σ H xs _ Q I1 (by simpa using rv) hw
noncomputable def YS (to ti:TE) (t:abD):TG:=fun v σ H Q=>to σ H fun o H1=>ti σ H1 fun i H2=>t o i v H2 fun H3=>Q σ H3
theorem Nt {o i:Expr} {to ti:TE} {t:abD} (ho:PE X o to) (hi:PE X i ti) (hs:ady X t)
  (ha:∀ v,assign (.Subscript o i pos) X.env v = (do
   let ov <- holding [v] (eval o X.env)
   let iv <- holding [v,ov] (eval i X.env)
   standAt pos
   holding [v,ov,iv] (setItem ov iv v)
   release [v,ov,iv] []):=by intro _; rfl):PG X (.Subscript o i pos) (YS to ti t):=by
 intro pins s σ H v u Q I r h
 rw [ha]
 refine wpAny_bind (wpAny_holding (thn (ho pins s σ H _ I h) fun ov s1 ⟨x,H1,I1,r1,q1⟩=>?_))
 refine wpAny_bind (wpAny_holding (thn (hi pins s1 σ H1 _ I1 q1) fun iv s2 ⟨y,H2,I2,r2,q2⟩=>?_))
 refine wpAny_bind (wpAny_standAt (wpAny_bind (wpAny_holding (thn (hs pins s2 σ H2 x y v ov iv u _ I2 r1 r2 r q2) fun _ s3 ⟨H3,I3,q3⟩=>?_))))
 exact wpAny_release ⟨σ,H3,I3,q3⟩
noncomputable def El (te:TE) (g:TG):TS:=fun D σ H=>te σ H fun x H1=>g x σ H1 D.nx
theorem rP {tg e:Expr} {te:TE} {g:TG} (he:PE X e te) (hg:PG X tg g) (hs:swapsWithSole [tg] e pos.line X.env = pure false:=by rfl) (hw:swappedStores [tg] e X.env = pure none:=by rfl)
  (h1:(assignEach [tg] X.env).map (·.2) = [assign tg X.env]:=by rfl):PS X (.Assign [tg] e pos) (El te g):=by
 intro pins s σ H D I h
 refine wpAny_Assign_stores (thn (he pins s σ H _ I h) fun v s1 ⟨x,H1,I1,r1,q1⟩=>?_) hs hw
 rw [h1]
 exact thn (hg pins s1 σ H1 x v _ I1 r1 q1) fun _ s2 q=>q
theorem bZ {i:Nat} {x:Str} {e:Expr} {te:TE} {pos':Pos} (hN:X.N.Nodup) (hi:X.N[i]? = some x) (hx:Loc X.env.scope x) (he:PE X e te) (hs:swapsWith e (some (.Name x pos')) pos.line X.env = pure false:=by rfl) (hf:X.fn x = true\/X.env.scope.names.lookup x = some .local:=by first | exact .inl rfl | exact .inr rfl | assumption) :
  PS X (.Assign [.Name x pos'] e pos) (El te (cN i)):=by
 intro pins s σ H D I h
 refine wpAny_Assign_Name (thn (he pins s σ H _ I h) fun v s1 ⟨y,H1,I1,r1,q1⟩=>?_) hs
 exact um I1 hN hi hx r1 (fun s2 I2=>⟨_,H1,I2,q1⟩) hf
noncomputable def Zh (i j:Nat) (ta:TA):TS:=fun D σ H=>ta σ H fun vs H1=>∃ v w,vs = [v,w]/\D.nx ((σ.set i (some v)).set j (some w)) H1
theorem abk {i j:Nat} {x y:Str} {a b:Expr} {ta:TA} {px py pt:Pos} {kt k2 pt2} (hc:X.calm = true) (hN:X.N.Nodup) (hi:X.N[i]? = some x) (hj:X.N[j]? = some y) (hij:i ≠ j)
  (hx:X.env.scope.names.lookup x = some .local) (hy:X.env.scope.names.lookup y = some .local) (ha:PA X [a,b] ta)
  (hw:swappedStores [.Tuple [.Name x px,.Name y py] kt pt] (.Tuple [a,b] k2 pt2) X.env = pure (some [x,y]))
  (hs:swapsWithSole [.Tuple [.Name x px,.Name y py] kt pt] (.Tuple [a,b] k2 pt2) pos.line X.env = pure false:=by rfl) :
  PS X (.Assign [.Tuple [.Name x px,.Name y py] kt pt] (.Tuple [a,b] k2 pt2) pos) (Zh i j ta):=by
 intro pins s σ H D I h
 rw [exec_Assign_arm]
 refine wpAny_bind (wpAny_standAt ?_)
 rw [hs]
 refine wpAny_bind (wpAny_pure ?_)
 rw [if_neg (by decide)]
 refine wpAny_bind (Tuple_ (thn (ha _ pins s σ H _ I h) fun us s1 ⟨vs,H1,I1,r1,q1⟩=>?_))
 obtain ⟨v,w,e1,q1⟩:=q1
 subst e1
 obtain ⟨u1,u2,rfl,rv,rw'⟩ : ∃ u1 u2,us = [u1,u2]/\RelV v u1/\RelV w u2:=by
  cases r1 with
  | cons p q =>
   cases q with
   | cons p' q' =>
    cases q'
    exact ⟨_,_,rfl,p,p'⟩
 refine wpAny_newObj_type ?_ (by show 2 <= sizeLine; decide)
 have I2:Inv X pins σ H1 { s1 with heap:=s1.heap.push { cls:=.type "tuple",data:=.seq [u1,u2].toArray } }:=I1.kept (t':=s1.toks) fun b o e=>aH _ e
 rw [hw]
 refine wpAny_bind (wpAny_pure ?_)
 show wpAny (model X.prog X.w) X.A (do rule "assign.swapped-stores"; let items <- unpackItems (.ref s1.heap.objs.size) 2 none; assignInOrder [fun v=>bindName X.env y v,fun v=>bindName X.env x v] items.reverse; pure Flow.next) _ _ _
 refine wpAny_bind (wpAny_rule (wpAny_bind (unpackItems_tuple (items:=#[u1,u2]) (I.ok.hd hc) (IsTup.new s1.heap _) fun h' hx'=>?_)))
 have I3:=I2.kept (h':=h') (t':=s1.toks) fun b o e=>hx' b o (aR (aK e)) e
 show wpAny _ _ (assignInOrder [fun v=>bindName X.env y v,fun v=>bindName X.env x v] [u2,u1] >>= fun _=>pure Flow.next) _ _ _
 refine wpAny_bind (assignInOrder_cons (wpAny_bindName (um I3 hN hj (.inl hy) rw' (fun s2 I4=>?_) (.inr hy))))
 refine assignInOrder_cons (wpAny_bindName (um I4 hN hi (.inl hx) rv (fun s3 I5=>assignInOrder_nil (wpAny_pure ?_)) (.inr hx)))
 rw [List.set_comm _ _ (Ne.symm hij)] at I5
 exact ⟨_,H1,I5,q1⟩
end
section
variable {X:Cx} {pos:Pos}
noncomputable def Uq (c:TT) (tb:TS):TS:=fun D σ H=>∃ W:Nat->St->Hp->Prop,(∃ m,W m σ H)/\∀ m σ H,W m σ H ->
 c σ H fun b H1=>if b = true then ∃ N:St->Hp->Prop,(∀ σ' H',N σ' H'->∃ m',m' < m/\W m' σ' H')/\tb { D with nx:=N,ct:=N,bk:=D.nx } σ H1 else D.nx σ H1
theorem Lk {c:Expr} {body:List Stmt} {tc:TT} {tb:TS} (hp:PassesOwn (model X.prog X.w) X.A X.env X.xe) (hc:PT X c tc) (hb:PSs X body tb):PS X (.While c body [] pos) (Uq tc tb):=by
 intro pins s σ H D I h
 obtain ⟨W,⟨m0,w0⟩,turn⟩:=h
 refine wpAny_While (codeAny_whileLoop (fun n s'=>∃ σ' H',Inv X pins σ' H' s'/\W n σ' H') ?_ m0 ⟨σ,H,I,w0⟩)
 rintro n s1 ⟨σ1,H1,I1,w1⟩
 refine wpAny_passesOwn hp (thn (hc pins s1 σ1 H1 _ I1 (turn n σ1 H1 w1)) fun b s2 ⟨H2,I2,q2⟩=>?_)
 cases b with
 | true =>
  obtain ⟨N,hN,q2⟩:=q2
  rw [if_pos rfl]
  refine wpAny_passesOwn hp (thn (hb pins s2 σ1 H2 _ I2 q2) fun f s3 q3=>?_)
  cases f with
  | next =>
   obtain ⟨σ3,H3,I3,n3⟩:=q3
   obtain ⟨m',hm,w3⟩:=hN σ3 H3 n3
   exact ⟨m',hm,σ3,H3,I3,w3⟩
  | cont =>
   obtain ⟨σ3,H3,I3,n3⟩:=q3
   obtain ⟨m',hm,w3⟩:=hN σ3 H3 n3
   exact ⟨m',hm,σ3,H3,I3,w3⟩
  | brk=>exact q3
  | ret v=>exact q3
 | false =>
  rw [if_neg bB]
  exact wpAny_execs_nil ⟨σ1,H2,I2,q2⟩
end
structure It where
 go:Nat->Hp->Prop
 yld:Nat->Hp->V->Hp->Prop
 stop:Nat->Hp->Prop
noncomputable def Ae (X:Cx) (pins:List (Addr × Obj)) (H:Hp) (b:Addr):Prop :=
 H b = none/\b ≠ X.env.locals/\b ∉ X.fs/\(b ∈ X.ex\/X.s₀.heap.objs.size <= b)/\(∀ x c,X.env.cells.lookup x = some c->c ≠ b)/\∀ p ∈ X.pn ++ pins,p.1 ≠ b
theorem Inv.fpOk {X:Cx} {pins:List (Addr × Obj)} {σ:St} {H H':Hp} {s:Shared} {b:Addr} (I:Inv X pins σ H s) (hb:s.heap.objs.size <= b) (hn:H' b = none):Ae X pins H' b:=by
 refine ⟨hn,Nat.ne_of_gt (aU I.lt hb),I.nofs hb,.inr (aM I.sz hb),fun x c e z=>?_,fun p hp z=>?_⟩
 .obtain ⟨v,q⟩:=I.cell x c e
  exact absurd (aU q.lt (by rw [z]; exact hb)) (Nat.lt_irrefl _)
 .exact absurd (aU (aK (I.pin p hp).1) (by rw [z]; exact hb)) (Nat.lt_irrefl _)
structure Turn (P:Program) (w:World) (K:Frag) (tg:Expr) (J:It) (fp:List Addr) (it:Addr) (tn:Nat->Heap->Prop):Prop where
 mem:it ∈ fp
 obj:∀ i h,tn i h->∀ b ∈ fp,∃ o,h.get? b = some o/\∀ v,o.data ≠ .cell v
 keep:∀ i h h',tn i h->(∀ b ∈ fp,∀ o,h.get? b = some o->h'.get? b = some o)->tn i h'
 item:∀ (X:Cx),X.prog = P->X.w = w->X.K = K->X.calm = true->∀ (i:Nat) (pins:List (Addr × Obj)) (s:Shared) (σ:St) (H:Hp) (E:Value->Shared->Prop),Inv X pins σ H s->(∀ b ∈ fp,Ae X pins H b)->tn i s.heap->J.go i H ->
  wpAny (model P w) X.A (pyNext (.ref it)) (fun r s1=>∃ u,r = some u /\
   wpAny (model P w) X.A (letOwnedTupleGo tg (.ref it) u) (fun _ s2=>∃ x H',Inv X pins σ H' s2/\RelV x u/\J.yld i H x H'/\tn (i + 1) s2.heap/\∀ b ∈ fp,H' b = none) E s1) E s
 done:∀ (X:Cx),X.prog = P->X.w = w->X.K = K->X.calm = true->∀ (i:Nat) (pins:List (Addr × Obj)) (s:Shared) (σ:St) (H:Hp) (E:Value->Shared->Prop),Inv X pins σ H s->(∀ b ∈ fp,Ae X pins H b)->tn i s.heap->J.stop i H ->
  wpAny (model P w) X.A (pyNext (.ref it)) (fun r s1=>r = none/\Inv X pins σ H s1) E s
 self:∀ (A:Around) (i:Nat) (s:Shared) (Q:Value->Shared->Prop) (E:Value->Shared->Prop),tn i s.heap->Q (.ref it) s->wpAny (model P w) A (pyIter (.ref it)) Q E s
noncomputable abbrev TI:=St->Hp->(It->Hp->Prop)->Prop
noncomputable def PIE (X:Cx) (pins:List (Addr × Obj)) (σ:St) (tg:Expr) (R:It->Hp->Prop) (itv:Value) (s2:Shared):Prop :=
 ∃ (it:Addr) (fp:List Addr) (tn:Nat->Heap->Prop) (J:It) (H':Hp),itv = .ref it/\Inv X pins σ H' s2/\Turn X.prog X.w X.K tg J fp it tn/\tn 0 s2.heap/\(∀ b ∈ fp,Ae X pins H' b)/\R J H'
noncomputable def PI (X:Cx) (tg iter:Expr) (wi:TI):Prop :=
 ∀ (pins:List (Addr × Obj)) (s:Shared) (σ:St) (H:Hp) (R:It->Hp->Prop),Inv X pins σ H s->wi σ H R ->
  wpAny (model X.prog X.w) X.A (eval iter X.env) (fun v s1=>wpAny (model X.prog X.w) X.A (pyIter v) (PIE X pins σ tg R) X.xe s1) X.xe s
theorem Qq {M:Model} {A:Around} {E:Value->Shared->Prop} {s:Shared} {tg:Expr} {it:Addr} {u:Value} {o:Obj} {n:String} {vs:Array Value} {Q:Unit->Shared->Prop} (ho:s.heap.get? it = some o) (hc:o.cls = .type n) (hd:o.data = .fields vs)
    (hn : ["enumerate", "zip", "dict_itemiterator", "dict_reverseitemiterator", "odict_iterator", "itertools.zip_longest", "itertools.pairwise"].contains n = false) (hQ:Q () s):wpAny M A (letOwnedTupleGo tg (.ref it) u) Q E s:=by
  unfold letOwnedTupleGo
  cases tg <;> first
    | exact wpAny_pure hQ
    | (cases u <;> first
        | exact wpAny_pure hQ
        | (refine wpAny_bind (wpAny_load ho ?_)
           rw [hc,hd]
           show wpAny M A (if (["enumerate", "zip", "dict_itemiterator", "dict_reverseitemiterator", "odict_iterator", "itertools.zip_longest", "itertools.pairwise"].contains n && vs[0]? == some (rawInt _)) = true then _ else _) Q E s
           rw [if_neg (by intro h; rw [hn,Bool.false_and] at h; cases h)]
           exact wpAny_pure hQ))
noncomputable def Itl (K:Frag) (a:Addr):It :=
 ⟨fun i H=>∃ xs x,SqL K H a xs/\xs[i]? = some x,fun i H x H'=>H' = H/\∀ xs,SqL K H a xs->xs[i]? = some x,fun i H=>∃ xs,SqL K H a xs/\xs.length <= i⟩
noncomputable def Itr (lo:Int) (n:Nat):It:=⟨fun i _=>i < n,fun i H x H'=>H' = H/\x = .int (lo + i),fun i _=>n <= i⟩
theorem RN {P:Program} {w:World} {K:Frag} {tg:Expr} (a it:Addr):Turn P w K tg (Itl K a) [it] it (fun i h=>h.IsListIter it a i) where
 mem:=by simp
 obj:=fun i h st b hb=>by
  have e:b = it:=by simpa using hb
  subst e
  obtain ⟨o,e,c,d⟩:=st
  exact ⟨o,e,fun v z=>by rw [d] at z; cases z⟩
 keep:=fun i h h' st k=>st.at fun o e=>k it (by simp) o e
 item:=by
  intro X hP hw hK hc i pins s σ H E I hf st hg
  subst hP hw hK
  obtain ⟨xs,x,hq,hx⟩:=hg
  obtain ⟨its,rv,p,hz⟩:=I.list hq
  obtain ⟨u,hu,ru⟩:=rv.get hx
  obtain ⟨f0,f1,f2,f3,f4,f5⟩:=hf it (by simp)
  refine wpAny_pyNext_list_item st p.isList (x:=u) (by simpa using hu) fun h' st' sb=>?_
  have I1:Inv X pins σ H { s with heap:=h' }:=I.turned (t':=s.toks) (fun b o hb e=>(sb.2 b hb).trans e) f0 f1 f3 f4 f5
  obtain ⟨o,e,c,d⟩:=id st'
  exact ⟨u,rfl,Qq (s:={ s with heap:=h' }) e c d (by decide) ⟨x,H,I1,ru,⟨rfl,fun ys hy=>by rw [I.list_inj hy hq]; exact hx⟩,st',fun b hb=>(hf b hb).1⟩⟩
 done:=by
  intro X hP hw hK hc i pins s σ H E I hf st hg
  subst hP hw hK
  obtain ⟨xs,hq,hx⟩:=hg
  obtain ⟨its,rv,p,hz⟩:=I.list hq
  obtain ⟨f0,f1,f2,f3,f4,f5⟩:=hf it (by simp)
  have hl:=rv.length
  exact wpAny_pyNext_list_end (I.ok.hd hc) st p.isList (by simp; omega) fun h' eb=>⟨rfl,I.turned (t':=s.toks) (fun b o hb e=>eb b o hb e) f0 f1 f3 f4 f5⟩
 self:=fun _ _ _ _ _ st h=>wpAny_pyIter_listiter st h
theorem Nr {P:Program} {w:World} {K:Frag} {tg:Expr} (it:Addr) (lo:Int) (n:Nat):Turn P w K tg (Itr lo n) [it] it (fun i h=>IsRangeIter h it (lo + (i:Nat) * 1) ((n:Int) - (i:Nat)) 1) where
 mem:=by simp
 obj:=fun i h st b hb=>by
  have e:b = it:=by simpa using hb
  subst e
  exact ⟨_,st,fun v z=>by
   have z':Data.fields _ = Data.cell v:=z
   cases z'⟩
 keep:=fun i h h' st k=>k it (by simp) _ st
 item:=by
  intro X hP hw hK hc i pins s σ H E I hf st hg
  subst hP hw hK
  obtain ⟨f0,f1,f2,f3,f4,f5⟩:=hf it (by simp)
  have W:=Walks.range (prog:=X.prog) (w:=X.w) (I.ok.hd hc) it lo 1 n
  refine W.item i s _ _ hg st fun v h' tk hv st' kk=>?_
  obtain ⟨t,rfl⟩:=hv
  have I1:Inv X pins σ H { s with heap:=h',toks:=tk }:=I.turned (fun b o hb e=>kk b o (by simpa using hb) e) f0 f1 f3 f4 f5
  refine ⟨_,rfl,Qq (s:={ s with heap:=h',toks:=tk }) (n := "range_iterator") st' rfl rfl (by decide) ⟨.int (lo + i),H,I1,⟨t,?_⟩,⟨rfl,rfl⟩,st',fun b hb=>(hf b hb).1⟩⟩
  rw [Int.mul_one]
 done:=by
  intro X hP hw hK hc i pins s σ H E I hf st hg
  subst hP hw hK
  obtain ⟨f0,f1,f2,f3,f4,f5⟩:=hf it (by simp)
  exact wpAny_pyNext_range_end (I.ok.hd hc) st (by have:n <= i:=hg; omega) fun h' eb=>⟨rfl,I.turned (t':=s.toks) (fun b o hb e=>eb b o hb e) f0 f1 f3 f4 f5⟩
 self:=fun _ _ _ _ _ st h=>wpAny_pyIter_rangeiter st h
end L2
namespace L2
open PySem PySem.Spec PyProof.Rows
section
variable {X:Cx} {tg:Expr}
noncomputable def Dt (K:Frag) (tl:TE):TI:=fun σ H R=>tl σ H fun x H1=>∃ a,x = .ref a/\(∃ xs,SqL K H1 a xs)/\R (Itl K a) H1
theorem dj {l:Expr} {tl:TE} (hl:PE X l tl):PI X tg l (Dt X.K tl):=by
 intro pins s σ H R I h
 refine thn (hl pins s σ H _ I h) fun v s1 ⟨x,H1,I1,r1,q1⟩=>?_
 obtain ⟨a,e,⟨xs,hq⟩,q⟩:=q1
 subst e
 cases r1
 obtain ⟨its,rv,p,hz⟩:=I1.list hq
 refine wpAny_pyIter_list p.isList ?_
 refine ⟨s1.heap.objs.size,[s1.heap.objs.size],_,_,H1,rfl,I1.kept (t':=s1.toks) fun b o e=>aH _ e,RN a _,⟨_,aY _ rfl,rfl,rfl⟩,fun b hb=>?_,q⟩
 have e:b = s1.heap.objs.size:=by simpa using hb
 subst e
 exact I1.fpOk (aG _) (I1.hok.fresh (aG _))
theorem WD {pins:List (Addr × Obj)} {σ:St} {H:Hp} {s:Shared} {R:It->Hp->Prop} {E:Value->Shared->Prop} {lo hi:Int} {t u v:Tok} {tk:Nat} (I:Inv X pins σ H s) (h1 : -(2 ^ 62) <= lo) (h2:lo < 2 ^ 62) (h3 : -(2 ^ 62) <= hi) (h4:hi < 2 ^ 62)
  (q:R (Itr lo (hi - lo).toNat) H):wpAny (model X.prog X.w) X.A (pyIter (.ref s.heap.objs.size)) (PIE X pins σ tg R) E { s with heap:=s.heap.push { cls:=.type "range",data:=.fields #[.int lo t,.int hi u,.int 1 v] },toks:=tk }:=by
 refine wpAny_pyIter_range (IsRange.new ..) (small_one h1 h2 h3 h4) ?_
 have I1:Inv X pins σ H { s with heap:=s.heap.push { cls:=.type "range",data:=.fields #[.int lo t,.int hi u,.int 1 v] },toks:=tk }:=I.kept fun b o e=>aH _ e
 refine ⟨(s.heap.push { cls:=.type "range",data:=.fields #[.int lo t,.int hi u,.int 1 v] }).objs.size,[(s.heap.push { cls:=.type "range",data:=.fields #[.int lo t,.int hi u,.int 1 v] }).objs.size],_,_,H,rfl,
  I1.kept (t':=tk) fun b o e=>aH _ e,Nr _ lo (hi - lo).toNat,?_,fun b hb=>?_,q⟩
 .have e1:lo + ((0:Nat):Int) * 1 = lo:=by simp
  have e2:(((hi - lo).toNat:Nat):Int) - ((0:Nat):Int) = Builtin.Range.rangeSize lo hi 1:=by rw [rangeSize_one]; split <;> omega
  show IsRangeIter _ _ (lo + ((0:Nat):Int) * 1) ((((hi - lo).toNat:Nat):Int) - ((0:Nat):Int)) 1
  rw [e1,e2]
  exact aY _ rfl
 .have e:b = (s.heap.push { cls:=.type "range",data:=.fields #[.int lo t,.int hi u,.int 1 v] }).objs.size:=by simpa using hb
  subst e
  exact I1.fpOk (aG _) (I1.hok.fresh (aG _))
noncomputable def KY (ta:TA):TI:=fun σ H R=>ta σ H fun vs H1=>∃ j:Int,vs = [.int j]/\-(2 ^ 62) <= j/\j < 2 ^ 62/\R (Itr 0 j.toNat) H1
theorem fV {a:Expr} {ta:TA} {p pos:Pos} (hg:Gl X "range") (hm:X.mg "range" = none) (ha:PA X [a] ta) (hs:starEach [a] X.env = [(false,eval a X.env)]:=by rfl):PI X tg (.Call (.Name "range" p) [a] [] pos) (KY ta):=by
 intro pins s σ H R I h
 refine Call_ (zj I hg hm boot_range (PyProof.Rows.callWith_type1 (thn (ha pos pins s σ H _ I h) fun us s1 ⟨vs,H1,I1,r1,q1⟩=>?_) hs rfl))
 obtain ⟨j,e,q1,q2,q⟩:=q1
 subst e
 cases r1 with
 | cons r rr =>
  cases rr
  obtain ⟨t,rfl⟩:=r
  exact call_range_1 (WD I1 (by omega) (by omega) q1 q2 (by simpa using q))
noncomputable def NQ (wi:TI) (g:TG) (tb:TS):TS:=fun D σ H=>wi σ H fun J H1=>∃ W:Nat->Nat->St->Hp->Prop,(∃ m,W 0 m σ H1)/\∀ i m σ H,W i m σ H ->
 (J.stop i H/\D.nx σ H)\/(J.go i H/\∃ N:St->Hp->Prop,(∀ σ' H',N σ' H'->∃ m',m' < m/\W (i + 1) m' σ' H')/\∀ x H',J.yld i H x H'->g x σ H' fun σ2 H2=>tb { D with nx:=N,ct:=N,bk:=D.nx } σ2 H2)
noncomputable def Dh (fp:List Addr) (h:Heap):List (Addr × Obj):=fp.filterMap fun b=>(h.get? b).map fun o=>(b,o)
theorem oU {fp:List Addr} {h:Heap} {b:Addr} {o:Obj} (hb:b ∈ fp) (e:h.get? b = some o):(b,o) ∈ Dh fp h:=List.mem_filterMap.mpr ⟨b,hb,by rw [e]; rfl⟩
theorem Rx {fp:List Addr} {h:Heap} {p:Addr × Obj} (hp:p ∈ Dh fp h):p.1 ∈ fp/\h.get? p.1 = some p.2:=by
 obtain ⟨b,hb,e⟩:=List.mem_filterMap.mp hp
 cases q:h.get? b with
 | none=>rw [q] at e; cases e
 | some o =>
  rw [q] at e
  have e':(b,o) = p:=Option.some.inj e
  subst e'
  exact ⟨hb,q⟩
theorem Inv.pinned {pins:List (Addr × Obj)} {σ:St} {H:Hp} {s:Shared} {fp:List Addr} (I:Inv X pins σ H s) (hf:∀ b ∈ fp,Ae X pins H b) (ho:∀ b ∈ fp,∃ o,s.heap.get? b = some o/\∀ v,o.data ≠ .cell v):Inv X (pins ++ Dh fp s.heap) σ H s :=
 I.pins_of fun p hp=>(List.mem_append.mp hp).elim (fun z=>I.pin p (aQ _ z)) fun z=>by
  obtain ⟨hb,e⟩:=Rx z
  obtain ⟨f0,f1,f2,_⟩:=hf p.1 hb
  obtain ⟨o,e',d⟩:=ho p.1 hb
  rw [e] at e'; cases e'
  exact ⟨e,f0,f1,f2,d⟩
theorem Inv.unpinned {pins pl:List (Addr × Obj)} {σ:St} {H:Hp} {s:Shared} (I:Inv X (pins ++ pl) σ H s):Inv X pins σ H s:=I.pins_of fun p hp=>I.pin p (aQ _ (List.mem_append_left _ hp))
theorem jo {iter:Expr} {body:List Stmt} {wi:TI} {g:TG} {tb:TS} {pos:Pos} (hp:PassesOwn (model X.prog X.w) X.A X.env X.xe) (hc:X.calm = true) (hi:PI X tg iter wi) (hg:PG X tg g) (hb:PSs X body tb)
  (hs:∀ x,foldedSetIterable iter X.env x = pure x:=by intro _; rfl):PS X (.For tg iter body [] pos) (NQ wi g tb):=by
 intro pins s σ H D I h
 refine wpAny_For (thn (hi pins s σ H _ I h) fun v s1 h1=>thn h1 fun itv s2 h2=>?_) hs
 obtain ⟨it,fp,tn,J,H2,e,I2,T,st2,f2,W,⟨m0,w0⟩,turn⟩:=h2
 subst e
 -- what stays true of the iterator's objects through the loop
 have stat:∀ {H':Hp},(∀ b ∈ fp,H' b = none)->∀ b ∈ fp,Ae X pins H' b:=fun hn b hb=>⟨hn b hb,(f2 b hb).2⟩
 refine codeAny_forLoop_any (fun n s'=>∃ i σ' H',Inv X pins σ' H' s'/\tn i s'.heap/\(∀ b ∈ fp,H' b = none)/\W i n σ' H') ?_ m0 ⟨0,σ,H2,I2,st2,fun b hb=>(f2 b hb).1,w0⟩
 rintro n s3 ⟨i,σ3,H3,I3,st3,fr3,w3⟩
 rcases turn i n σ3 H3 w3 with ⟨stop,qn⟩ | ⟨go,N,hN,step⟩
 .refine wpAny_passesOwn hp (thn (T.done X rfl rfl rfl hc i pins s3 σ3 H3 X.xe I3 (stat fr3) st3 stop) fun r s4 ⟨hr,I4⟩=>?_)
  subst hr
  exact wpAny_execs_nil ⟨σ3,H3,I4,qn⟩
 .refine wpAny_passesOwn hp (thn (T.item X rfl rfl rfl hc i pins s3 σ3 H3 X.xe I3 (stat fr3) st3 go) fun r s4 ⟨u,hr,h4⟩=>?_)
  subst hr
  refine wpAny_passesOwn hp (thn h4 fun _ s5 ⟨x,H5,I5,r5,y5,st5,fr5⟩=>?_)
  have I5':=I5.pinned (stat fr5) (T.obj _ _ st5)
  refine wpAny_passesOwn hp (thn (hg _ s5 σ3 H5 x u _ I5' r5 (step x H5 y5)) fun _ s6 ⟨σ6,H6,I6,q6⟩=>?_)
  refine wpAny_passesOwn hp (thn (hb _ s6 σ6 H6 _ I6 q6) fun f s7 q7=>?_)
  have again:∀ {σ7:St} {H7:Hp},Inv X (pins ++ Dh fp s5.heap) σ7 H7 s7->N σ7 H7->∃ m,m < n/\∃ i σ' H',Inv X pins σ' H' s7/\tn i s7.heap/\(∀ b ∈ fp,H' b = none)/\W i m σ' H':=fun {σ7 H7} I7 n7=>by
   obtain ⟨m',hm,w7⟩:=hN σ7 H7 n7
   refine ⟨m',hm,i + 1,σ7,H7,I7.unpinned,T.keep _ _ _ st5 fun b hb o e=>(I7.pin (b,o) (aQ _ (aQ _ (oU hb e)))).1,fun b hb=>?_,w7⟩
   obtain ⟨o,e,d⟩:=T.obj _ _ st5 b hb
   exact (I7.pin (b,o) (aQ _ (aQ _ (oU hb e)))).2.1
  cases f with
  | next=>obtain ⟨σ7,H7,I7,n7⟩:=q7; exact again I7 n7
  | cont=>obtain ⟨σ7,H7,I7,n7⟩:=q7; exact again I7 n7
  | brk=>obtain ⟨σ7,H7,I7,q7⟩:=q7; exact ⟨σ7,H7,I7.unpinned,q7⟩
  | ret v=>obtain ⟨x7,σ7,H7,I7,r7,q7⟩:=q7; exact ⟨x7,σ7,H7,I7.unpinned,r7,q7⟩
end
theorem Lf {c:TT} {tb:TS} {D:Ends} {σ:St} {H:Hp} (Pv:St->Hp->Prop) (μ:St->Hp->Nat) (h0:Pv σ H)
  (hs:∀ σ H,Pv σ H->c σ H fun b H1=>if b = true then tb { D with nx:=fun σ' H'=>Pv σ' H'/\μ σ' H' < μ σ H,ct:=fun σ' H'=>Pv σ' H'/\μ σ' H' < μ σ H,bk:=D.nx } σ H1 else D.nx σ H1)
  (mono:∀ σ H Q Q',(∀ b H1,Q b H1->Q' b H1)->c σ H Q->c σ H Q'):Uq c tb D σ H:=by
 refine ⟨fun m σ H=>m = μ σ H/\Pv σ H,⟨_,rfl,h0⟩,?_⟩
 rintro m σ H ⟨rfl,p⟩
 refine mono σ H _ _ (fun b H1 q=>?_) (hs σ H p)
 cases b with
 | true=>exact ⟨_,fun σ' H' ⟨p',l⟩=>⟨_,l,rfl,p'⟩,q⟩
 | false=>exact q
end L2
namespace L2
open PySem PySem.Spec PyProof.Rows
noncomputable abbrev R2:=V->V->Hp->VK->Prop
noncomputable def OpR (X:Cx) (f:Value->Value->Sem Value) (r:R2):Prop :=
 ∀ (pins:List (Addr × Obj)) (s:Shared) (σ:St) (H:Hp) (x y:V) (v u:Value) (Q:VK),Inv X pins σ H s->RelV x v->RelV y u->r x y H Q ->
  wpAny (model X.prog X.w) X.A (f v u) (EP X pins σ Q) X.xe s
noncomputable def UnR (X:Cx) (f:Value->Sem Value) (r:V->Hp->VK->Prop):Prop :=
 ∀ (pins:List (Addr × Obj)) (s:Shared) (σ:St) (H:Hp) (x:V) (v:Value) (Q:VK),Inv X pins σ H s->RelV x v->r x H Q ->
  wpAny (model X.prog X.w) X.A (f v) (EP X pins σ Q) X.xe s
noncomputable def eZ (X:Cx) (f:Value) (r:List V->Hp->VK->Prop):Prop :=
 ∀ (pins:List (Addr × Obj)) (s:Shared) (σ:St) (H:Hp) (xs:List V) (us:List Value) (Q:VK),Inv X pins σ H s->Vals xs us->r xs H Q ->
  wpAny (model X.prog X.w) X.A (call f us) (EP X pins σ Q) X.xe s
noncomputable def afF (X:Cx) (r:V->Hp->(Bool->Hp->Prop)->Prop):Prop :=
 ∀ (pins:List (Addr × Obj)) (s:Shared) (σ:St) (H:Hp) (x:V) (v:Value) (Q:Bool->Hp->Prop),Inv X pins σ H s->RelV x v->r x H Q ->
  wpAny (model X.prog X.w) X.A (truthy v) (TP X pins σ Q) X.xe s
noncomputable def tOp (r:R2) (ta tb:TE):TE:=fun σ H Q=>ta σ H fun x H1=>tb σ H1 fun y H2=>r x y H2 Q
noncomputable def tUn (r:V->Hp->VK->Prop) (ta:TE):TE:=fun σ H Q=>ta σ H fun x H1=>r x H1 Q
noncomputable def rI (C:Int->Int->Prop) (g:Int->Int->V):R2:=fun x y H Q=>∃ i j,x = .int i/\y = .int j/\C i j/\Q (g i j) H
noncomputable def rI0 (g:Int->Int->V):R2:=fun x y H Q=>∃ i j,x = .int i/\y = .int j/\Q (g i j) H
noncomputable def rU (g:Int->V):V->Hp->VK->Prop:=fun x H Q=>∃ i,x = .int i/\Q (g i) H
section
variable {X:Cx} {a b c:Expr} {ta tb tc:TE} {pos:Pos}
theorem abJ (ha:PE X a ta) (hb:PE X b tb) {pins:List (Addr × Obj)} {s:Shared} {σ:St} {H:Hp} {R:V->V->Hp->Prop} (I:Inv X pins σ H s)
  (h:ta σ H fun x H1=>tb σ H1 fun y H2=>R x y H2) {Q:Value->Shared->Prop} {f:Value->Value->Sem Value}
  (hf:∀ v u s2 x y H2,Inv X pins σ H2 s2->RelV x v->RelV y u->R x y H2->wpAny (model X.prog X.w) X.A (f v u) Q X.xe s2) :
  wpAny (model X.prog X.w) X.A (eval a X.env) (fun v s₁=>wpAny (model X.prog X.w) X.A (eval b X.env) (fun u s₂=>wpAny (model X.prog X.w) X.A (f v u) Q X.xe s₂) X.xe s₁) X.xe s:=by
 refine thn (ha pins s σ H _ I h) fun v s1 ⟨x,H1,I1,r1,q1⟩=>?_
 refine thn (hb pins s1 σ H1 _ I1 q1) fun u s2 ⟨y,H2,I2,r2,q2⟩=>?_
 exact hf v u s2 x y H2 I2 r1 r2 q2
theorem bQ {op:Operator} {r:R2} (ho:OpR X (binaryOp op) r) (ha:PE X a ta) (hb:PE X b tb):PE X (.BinOp a op b pos) (tOp r ta tb):=by
 intro pins s σ H Q I h
 exact wpAny_BinOp (abJ ha hb I h fun v u s2 x y H2 I2 rx ry q=>ho pins s2 σ H2 x y v u Q I2 rx ry q)
theorem Gb {op:UnaryOp} {r:V->Hp->VK->Prop} (ho:UnR X (unaryOp op) r) (ha:PE X a ta):PE X (.UnaryOp op a pos) (tUn r ta):=by
 intro pins s σ H Q I h
 exact UnaryOp_ (thn (ha pins s σ H _ I h) fun v s1 ⟨x,H1,I1,r1,q1⟩=>ho pins s1 σ H1 x v Q I1 r1 q1)
theorem opI {f:Value->Value->Sem Value} {C:Int->Int->Prop} {g:Int->Int->Int}
  (rule:∀ (i j:Int) (t u:Tok) (s:Shared) (Q:Value->Shared->Prop) (E:Value->Shared->Prop),C i j->Q (.int (g i j) s.toks) { s with toks:=s.toks + 1 }->wpAny (model X.prog X.w) X.A (f (.int i t) (.int j u)) Q E s) :
  OpR X f (rI C fun i j=>.int (g i j)):=by
 intro pins s σ H x y v u Q I rx ry h
 obtain ⟨i,j,rfl,rfl,hc,q⟩:=h
 obtain ⟨t,rfl⟩:=rx
 obtain ⟨t',rfl⟩:=ry
 exact rule i j t t' s _ _ hc ⟨.int (g i j),H,I.tok _,⟨_,rfl⟩,q⟩
theorem ad6 {f:Value->Value->Sem Value} {g:Int->Int->Int}
  (rule:∀ (i j:Int) (t u:Tok) (s:Shared) (Q:Value->Shared->Prop) (E:Value->Shared->Prop),Q (.int (g i j) s.toks) { s with toks:=s.toks + 1 }->wpAny (model X.prog X.w) X.A (f (.int i t) (.int j u)) Q E s) :
  OpR X f (rI0 fun i j=>.int (g i j)):=by
 intro pins s σ H x y v u Q I rx ry h
 obtain ⟨i,j,rfl,rfl,q⟩:=h
 obtain ⟨t,rfl⟩:=rx
 obtain ⟨t',rfl⟩:=ry
 exact rule i j t t' s _ _ ⟨.int (g i j),H,I.tok _,⟨_,rfl⟩,q⟩
theorem aai {f:Value->Value->Sem Value} {g:Int->Int->Bool}
  (rule:∀ (i j:Int) (t u:Tok) (s:Shared) (Q:Value->Shared->Prop) (E:Value->Shared->Prop),Q (.bool (g i j)) s->wpAny (model X.prog X.w) X.A (f (.int i t) (.int j u)) Q E s) :
  OpR X f (rI0 fun i j=>.bl (g i j)):=by
 intro pins s σ H x y v u Q I rx ry h
 obtain ⟨i,j,rfl,rfl,q⟩:=h
 obtain ⟨t,rfl⟩:=rx
 obtain ⟨t',rfl⟩:=ry
 exact rule i j t t' s _ _ ⟨.bl (g i j),H,I,rfl,q⟩
noncomputable def aeL (i j:Int):Prop:=0 <= j/\j <= 1000000/\i.natAbs < 2 ^ 64
noncomputable def ab1 (i j:Int):Prop:=(-(2 ^ 64) < i/\i < 2 ^ 64)\/(-(2 ^ 64) < j/\j < 2 ^ 64)
theorem ab1.ok {i j:Int} (h:ab1 i j):IntMulOk i j:=by
 rcases h with ⟨h1,h2⟩ | ⟨h1,h2⟩
 .exact .of_left (intBits_le_64 h1 h2)
 .exact .of_right (intBits_le_64 h1 h2)
theorem cV:OpR X (binaryOp .Add) (rI0 fun i j=>.int (i + j)):=ad6 fun _ _ _ _ _ _ _ q=>add_int q
theorem zM:OpR X (binaryOp .Sub) (rI0 fun i j=>.int (i - j)):=ad6 fun _ _ _ _ _ _ _ q=>sub_int q
theorem Cq:OpR X (binaryOp .Mult) (rI ab1 fun i j=>.int (i * j)):=opI fun _ _ _ _ _ _ _ hc q=>mul_int q hc.ok
theorem cR:OpR X (binaryOp .Mod) (rI (fun _ j=>0 < j) fun i j=>.int (i % j)):=opI fun i j _ _ _ _ _ hc q=>by
 have h1:(0:Int) < j:=hc
 exact mod_int' (by omega) (by rw [aX i (by omega)]; exact q)
theorem iW:OpR X (binaryOp .Mod) (rI (fun _ j=>j ≠ 0) fun i j=>.int (i.fmod j)):=opI fun _ _ _ _ _ _ _ hc q=>mod_int' hc q
theorem JR:OpR X (binaryOp .Pow) (rI aeL fun i j=>.int (i ^ j.toNat)):=opI fun _ _ _ _ _ _ _ hc q=>pow_int_small hc.1 hc.2.1 hc.2.2 q
theorem unI {f:Value->Sem Value} {g:Int->Int}
  (rule:∀ (i:Int) (t:Tok) (s:Shared) (Q:Value->Shared->Prop) (E:Value->Shared->Prop),Q (.int (g i) s.toks) { s with toks:=s.toks + 1 }->wpAny (model X.prog X.w) X.A (f (.int i t)) Q E s) :
  UnR X f (rU fun i=>.int (g i)):=by
 intro pins s σ H x v Q I rx h
 obtain ⟨i,rfl,q⟩:=h
 obtain ⟨t,rfl⟩:=rx
 exact rule i t s _ _ ⟨.int (g i),H,I.tok _,⟨_,rfl⟩,q⟩
theorem yX:UnR X (unaryOp .USub) (rU fun i=>.int (-i)):=unI fun _ _ _ _ _ q=>neg_int q
end
noncomputable def Mt:V->V->Bool
 | .non,.non=>true | .non,.int _=>true | .int _,.non=>true | .non,.bl _=>true | .bl _,.non=>true | .non,.str _=>true | .str _,.non=>true
 | .int _,.int _=>true | .bl _,.bl _=>true | .str _,.str _=>true | .byt _,.byt _=>true
 | .int _,.str _=>true | .str _,.int _=>true | .bl _,.str _=>true | .str _,.bl _=>true
 | _,_=>false
noncomputable def rEq:R2:=fun x y H Q=>Mt x y = true/\Q (.bl (decide (x = y))) H
noncomputable def rNe:R2:=fun x y H Q=>Mt x y = true/\Q (.bl (!decide (x = y))) H
theorem QS {i j:Int} : decide (V.int i = V.int j) = (i == j):=by
 rw [Bool.eq_iff_iff]
 simp
theorem Uy {i j:Bool} : decide (V.bl i = V.bl j) = (i == j):=by
 rw [Bool.eq_iff_iff]
 simp
theorem PB {i j:Str} : decide (V.str i = V.str j) = (i == j):=by
 rw [Bool.eq_iff_iff]
 simp
theorem QC {i j:Array UInt8} : decide (V.byt i = V.byt j) = (i.toList == j.toList):=by
 rw [Bool.eq_iff_iff]
 cases i
 cases j
 simp
section
variable {X:Cx} {a b c:Expr} {ta tb tc:TE} {pos:Pos}
theorem cY {pins:List (Addr × Obj)} {σ:St} {H:Hp} {s:Shared} {Q:VK} {k k':Bool} (I:Inv X pins σ H s) (q:Q (.bl k) H) (e:k = k'):EP X pins σ Q (.bool k') s:=by
 subst e
 exact ⟨.bl k,H,I,rfl,q⟩
theorem iI:OpR X (compareOp .Eq) rEq:=by
 intro pins s σ H x y v u Q I rx ry h
 obtain ⟨hs,q⟩:=h
 cases x with
 | non =>
  cases rx
  cases y with
  | non=>cases ry; exact PySem.EqNone.eq_none_none (cY I q (by simp))
  | bl j=>cases ry; exact PySem.EqNone.eq_none_bool (cY I q (by simp))
  | int j=>obtain ⟨t',rfl⟩:=ry; exact PySem.EqNone.eq_none_int (cY I q (by simp))
  | str j=>obtain ⟨t',rfl⟩:=ry; exact PySem.EqNone.eq_none_str (cY I q (by simp))
  | _=>exact absurd (show false = true from hs) bB
 | bl i =>
  cases rx
  cases y with
  | non=>cases ry; exact PySem.EqNone.eq_bool_none (cY I q (by simp))
  | bl j=>cases ry; exact eq_bool (cY I q Uy)
  | str j=>obtain ⟨t',rfl⟩:=ry; exact PySem.EqMixed.eq_bool_str (cY I q (by simp))
  | _=>exact absurd (show false = true from hs) bB
 | int i =>
  obtain ⟨t,rfl⟩:=rx
  cases y with
  | non=>cases ry; exact PySem.EqNone.eq_int_none (cY I q (by simp))
  | int j=>obtain ⟨t',rfl⟩:=ry; exact eq_int (cY I q QS)
  | str j=>obtain ⟨t',rfl⟩:=ry; exact PySem.EqMixed.eq_int_str (cY I q (by simp))
  | _=>exact absurd (show false = true from hs) bB
 | str i =>
  obtain ⟨t,rfl⟩:=rx
  cases y with
  | non=>cases ry; exact PySem.EqNone.eq_str_none (cY I q (by simp))
  | bl j=>cases ry; exact PySem.EqMixed.eq_str_bool (cY I q (by simp))
  | int j=>obtain ⟨t',rfl⟩:=ry; exact PySem.EqMixed.eq_str_int (cY I q (by simp))
  | str j=>obtain ⟨t',rfl⟩:=ry; exact eq_str (cY I q PB)
  | _=>exact absurd (show false = true from hs) bB
 | byt i =>
  obtain ⟨t,rfl⟩:=rx
  cases y with
  | byt j=>obtain ⟨t',rfl⟩:=ry; exact PySem.W.eq_bytes (cY I q QC)
  | _=>exact absurd (show false = true from hs) bB
 | _=>cases y <;> exact absurd (show false = true from hs) bB
theorem Ra:OpR X (compareOp .NotEq) rNe:=by
 intro pins s σ H x y v u Q I rx ry h
 obtain ⟨hs,q⟩:=h
 cases x with
 | non =>
  cases rx
  cases y with
  | non=>cases ry; exact PySem.EqNone.ne_none_none (cY I q (by simp))
  | bl j=>cases ry; exact PySem.EqNone.ne_none_bool (cY I q (by simp))
  | int j=>obtain ⟨t',rfl⟩:=ry; exact PySem.EqNone.ne_none_int (cY I q (by simp))
  | str j=>obtain ⟨t',rfl⟩:=ry; exact PySem.EqNone.ne_none_str (cY I q (by simp))
  | _=>exact absurd (show false = true from hs) bB
 | bl i =>
  cases rx
  cases y with
  | non=>cases ry; exact PySem.EqNone.ne_bool_none (cY I q (by simp))
  | bl j=>cases ry; exact ne_bool (cY I q (congrArg not Uy))
  | str j=>obtain ⟨t',rfl⟩:=ry; exact PySem.EqMixed.ne_bool_str (cY I q (by simp))
  | _=>exact absurd (show false = true from hs) bB
 | int i =>
  obtain ⟨t,rfl⟩:=rx
  cases y with
  | non=>cases ry; exact PySem.EqNone.ne_int_none (cY I q (by simp))
  | int j=>obtain ⟨t',rfl⟩:=ry; exact ne_int (cY I q (congrArg not QS))
  | str j=>obtain ⟨t',rfl⟩:=ry; exact PySem.EqMixed.ne_int_str (cY I q (by simp))
  | _=>exact absurd (show false = true from hs) bB
 | str i =>
  obtain ⟨t,rfl⟩:=rx
  cases y with
  | non=>cases ry; exact PySem.EqNone.ne_str_none (cY I q (by simp))
  | bl j=>cases ry; exact PySem.EqMixed.ne_str_bool (cY I q (by simp))
  | int j=>obtain ⟨t',rfl⟩:=ry; exact PySem.EqMixed.ne_str_int (cY I q (by simp))
  | str j=>obtain ⟨t',rfl⟩:=ry; exact ne_str (cY I q (congrArg not PB))
  | _=>exact absurd (show false = true from hs) bB
 | byt i =>
  obtain ⟨t,rfl⟩:=rx
  cases y with
  | byt j=>obtain ⟨t',rfl⟩:=ry; exact PySem.W.ne_bytes (cY I q (congrArg not QC))
  | _=>exact absurd (show false = true from hs) bB
 | _=>cases y <;> exact absurd (show false = true from hs) bB
theorem tG:OpR X (compareOp .Lt) (rI0 fun i j=>.bl (decide (i < j))):=aai fun _ _ _ _ _ _ _ q=>lt_int q
theorem Ks:OpR X (compareOp .LtE) (rI0 fun i j=>.bl (decide (i <= j))):=aai fun _ _ _ _ _ _ _ q=>le_int q
theorem Q6:OpR X (compareOp .Gt) (rI0 fun i j=>.bl (decide (j < i))):=aai fun _ _ _ _ _ _ _ q=>gt_int q
theorem Ws:OpR X (compareOp .GtE) (rI0 fun i j=>.bl (decide (j <= i))):=aai fun _ _ _ _ _ _ _ q=>ge_int q
theorem Gy:OpR X (compareOp .Is) (fun x y H Q=>y = .non/\Q (.bl (decide (x = .non))) H):=by
 intro pins s σ H x y v u Q I rx ry h
 obtain ⟨rfl,q⟩:=h
 cases ry
 refine is_none_gen (cY I q ?_)
 cases x <;> first
  | (cases rx; rfl)
  | (obtain ⟨t,rfl⟩:=rx; rfl)
theorem ZK:OpR X (compareOp .IsNot) (fun x y H Q=>y = .non/\Q (.bl (!decide (x = .non))) H):=by
 intro pins s σ H x y v u Q I rx ry h
 obtain ⟨rfl,q⟩:=h
 cases ry
 refine isnot_none_gen (cY I q ?_)
 cases x <;> first
  | (cases rx; rfl)
  | (obtain ⟨t,rfl⟩:=rx; rfl)
theorem cC (b:Expr) {op:CmpOp} (h:op ≠ .In:=by decide) (h2:op ≠ .NotIn:=by decide):behindInMarks op b = false:=by
 have e1:(op == CmpOp.In) = false:=by cases op <;> first | rfl | exact absurd rfl h
 have e2:(op == CmpOp.NotIn) = false:=by cases op <;> first | rfl | exact absurd rfl h2
 cases b <;> simp [behindInMarks,e1,e2]
theorem oX {op:CmpOp} {r:R2} (ho:OpR X (compareOp op) r) (ha:PE X a ta) (hb:PE X b tb) (hm:behindInMarks op b = false):PE X (.Compare a [op] [b] pos) (tOp r ta tb):=by
 intro pins s σ H Q I h
 exact wpAny_Compare1 (abJ ha hb I h fun v u s2 x y H2 I2 rx ry q=>ho pins s2 σ H2 x y v u Q I2 rx ry q) hm
noncomputable def xM (t:TE):TT:=fun σ H Q=>t σ H fun x H'=>∃ k,x = .bl k/\Q k H'
theorem cA {op:CmpOp} {r:R2} (ho:OpR X (compareOp op) r) (ha:PE X a ta) (hb:PE X b tb) (hm:behindInMarks op b = false):PT X (.Compare a [op] [b] pos) (xM (tOp r ta tb)):=by
 intro pins s σ H Q I h
 refine wpAny_isTrue_Compare1 (thn (ha pins s σ H _ I h) fun v s1 ⟨x,H1,I1,r1,q1⟩=>thn (hb pins s1 σ H1 _ I1 q1) fun u s2 ⟨y,H2,I2,r2,q2⟩ =>
  thn (ho pins s2 σ H2 x y v u _ I2 r1 r2 q2) fun c s3 ⟨z,H3,I3,r3,k,e,q3⟩=>?_) hm
 subst e
 cases r3
 exact wpAny_truthy_bool ⟨H3,I3,q3⟩
noncomputable def A_ (r r':R2) (ta tb tc:TE):TE:=fun σ H Q=>ta σ H fun x H1=>tb σ H1 fun y H2=>r x y H2 fun z H3=>∃ k,z = .bl k /\
 (if k = true then tc σ H3 fun w' H4=>r' y w' H4 Q else Q (.bl false) H3)
theorem Mq {op op':CmpOp} {r r':R2} (ho:OpR X (compareOp op) r) (ho':OpR X (compareOp op') r') (ha:PE X a ta) (hb:PE X b tb) (hc:PE X c tc)
  (hm:lastMarks [op,op'] [b,c] = false:=by with_unfolding_all rfl):PE X (.Compare a [op,op'] [b,c] pos) (A_ r r' ta tb tc):=by
 intro pins s σ H Q I h
 refine Compare_chain (thn (ha pins s σ H _ I h) fun v s1 ⟨x,H1,I1,r1,q1⟩=>chain_link (thn (hb pins s1 σ H1 _ I1 q1) fun u s2 ⟨y,H2,I2,r2,q2⟩ =>
  thn (ho pins s2 σ H2 x y v u _ I2 r1 r2 q2) fun d s3 ⟨z,H3,I3,r3,k,e,q3⟩=>?_)) hm
 subst e
 cases r3
 refine wpAny_truthy_bool ?_
 cases k with
 | false=>exact ite_ff ⟨.bl false,H3,I3,rfl,q3⟩
 | true=>exact ite_tt (chain_last (thn (hc pins s3 σ H3 _ I3 q3) fun w' s4 ⟨z',H4,I4,r4,q4⟩=>ho' pins s4 σ H4 y z' u w' Q I4 r2 r4 q4))
theorem Lh {op op':CmpOp} {r r':R2} (ho:OpR X (compareOp op) r) (ho':OpR X (compareOp op') r') (ha:PE X a ta) (hb:PE X b tb) (hc:PE X c tc)
  (hm:lastMarks [op,op'] [b,c] = false:=by with_unfolding_all rfl):PT X (.Compare a [op,op'] [b,c] pos) (xM (A_ r r' ta tb tc)):=by
 intro pins s σ H Q I h
 refine isTrue_chain (thn (ha pins s σ H _ I h) fun v s1 ⟨x,H1,I1,r1,q1⟩=>test_link (thn (hb pins s1 σ H1 _ I1 q1) fun u s2 ⟨y,H2,I2,r2,q2⟩ =>
  thn (ho pins s2 σ H2 x y v u _ I2 r1 r2 q2) fun d s3 ⟨z,H3,I3,r3,k,e,q3⟩=>?_)) hm
 subst e
 cases r3
 refine wpAny_truthy_bool ?_
 cases k with
 | false =>
  obtain ⟨k',e',q'⟩:=q3
  cases e'
  exact ite_ff ⟨H3,I3,q'⟩
 | true =>
  refine ite_tt (test_last (thn (hc pins s3 σ H3 _ I3 q3) fun w' s4 ⟨z',H4,I4,r4,q4⟩=>thn (ho' pins s4 σ H4 y z' u w' _ I4 r2 r4 q4) fun d' s5 ⟨z2,H5,I5,r5,k2,e2,q5⟩=>?_))
  subst e2
  cases r5
  exact wpAny_truthy_bool ⟨H5,I5,q5⟩
noncomputable def ado (K:Frag) (x:V) (H:Hp) (k:Bool):Prop :=
 match x with
 | .non=>k = false
 | .bl b=>k = b
 | .int i=>k = (i != 0)
 | .str y=>y.length <= sizeLine/\k = ((y.length:Int) != 0)
 | .byt y=>y.size <= sizeLine/\k = ((y.size:Int) != 0)
 | .ref p=>(∃ xs,SqL K H p xs/\k = !xs.isEmpty)\/(∃ xs,SqT K H p xs/\k = !xs.isEmpty)\/∃ kvs,H p = some (.dK kvs)/\k = !kvs.isEmpty
 | _=>False
theorem NZ {κ:Type} {kvs:List (κ × V)} {vs:List (κ × Value)} (r:KV kvs vs):(!vs.isEmpty) = !kvs.isEmpty:=by
 cases r <;> rfl
theorem CP {xs:List V} {its:List Value} (r:Vals xs its):(!its.toArray.isEmpty) = !xs.isEmpty:=by
 cases r <;> simp
theorem uf:(sizeLine:Nat) < 2 ^ 63:=by rw [sizeLine_eq]; decide
theorem aa7:afF X (fun x H Q=>∃ k,ado X.K x H k/\Q k H):=by
 intro pins s σ H x v Q I rx h
 obtain ⟨k,e,q⟩:=h
 have hl:=uf
 have hs:sizeLine = 16777216:=sizeLine_eq
 cases x with
 | non =>
  cases rx
  have e':k = false:=e
  subst e'
  exact truthy_none ⟨H,I,q⟩
 | bl b =>
  cases rx
  have e':k = b:=e
  subst e'
  exact wpAny_truthy_bool ⟨H,I,q⟩
 | int i =>
  obtain ⟨t,rfl⟩:=rx
  have e':k = (i != 0):=e
  subst e'
  exact PySem.P.truthy_int ⟨H,I,q⟩
 | str y =>
  obtain ⟨t,rfl⟩:=rx
  obtain ⟨hy,e'⟩ : y.length <= sizeLine/\k = ((y.length:Int) != 0):=e
  subst e'
  exact PySem.P.truthy_str (by omega) ⟨H,I.tok _,q⟩
 | byt y =>
  obtain ⟨t,rfl⟩:=rx
  obtain ⟨hy,e'⟩ : y.size <= sizeLine/\k = ((y.size:Int) != 0):=e
  subst e'
  exact PySem.W.truthy_bytes (by omega) ⟨H,I.tok _,q⟩
 | ref p =>
  cases rx
  have e':(∃ xs,SqL X.K H p xs/\k = !xs.isEmpty)\/(∃ xs,SqT X.K H p xs/\k = !xs.isEmpty)\/∃ kvs,H p = some (.dK kvs)/\k = !kvs.isEmpty:=e
  rcases e' with ⟨xs,hx,e'⟩ | ⟨xs,hx,e'⟩ | ⟨kvs,hx,e'⟩
  .subst e'
   obtain ⟨its,r,pl,hz⟩:=I.list hx
   have hlen:=r.length
   exact wpAny_truthy_list pl.isList (by simp only [aZ]; omega) ⟨H,I.tok _,by rw [CP r]; exact q⟩
  .subst e'
   obtain ⟨its,r,pl,hz⟩:=I.tuple hx
   have hlen:=r.length
   exact truthy_tuple pl (by simp only [aZ]; omega) ⟨H,I.tok _,by rw [CP r]; exact q⟩
  .subst e'
   obtain ⟨hz,hS,vs,r,m⟩ : kvs.length <= sizeLine/\(p == sysModules) = false/\∃ vs,KV kvs vs/\s.heap.DictOf (jF X.prog X.w) p vs:=I.hok p _ hx
   have hlen:kvs.length = vs.length:=Paired.length r
   exact wpAny_truthy_dict hS m (by omega) ⟨H,I.tok _,by rw [NZ r]; exact q⟩
 | _=>exact (show False from e).elim
theorem Ot:OpR X (binaryOp .Add) (fun x y H Q=>∃ i j,x = .str i/\y = .str j/\i.length + j.length <= sizeLine/\Q (.str (i ++ j)) H):=by
 intro pins s σ H x y v u Q I rx ry h
 obtain ⟨i,j,rfl,rfl,hz,q⟩:=h
 obtain ⟨t,rfl⟩:=rx
 obtain ⟨t',rfl⟩:=ry
 exact add_str (fun t' tk=>⟨.str (i ++ j),H,I.tok _,⟨_,rfl⟩,q⟩) hz
theorem vals1 {x:V} {us:List Value} (r:Vals [x] us):∃ u,us = [u]/\RelV x u:=by
 cases r with
 | cons r1 r2=>cases r2; exact ⟨_,rfl,r1⟩
theorem rE:eZ X (.builtin "abs") (fun xs H Q=>∃ i,xs = [.int i]/\Q (.int (if i < 0 then -i else i)) H):=by
 intro pins s σ H xs us Q I r h
 obtain ⟨i,rfl,q⟩:=h
 obtain ⟨u,rfl,t,rfl⟩:=vals1 r
 exact call_abs_int fun u tk=>⟨.int (if i < 0 then -i else i),H,I.tok _,⟨_,rfl⟩,q⟩
theorem RJ:eZ X (.type "int") (fun xs H Q=>(∃ i,xs = [.int i]/\Q (.int i) H)\/∃ k,xs = [.bl k]/\Q (.int (if k then 1 else 0)) H):=by
 intro pins s σ H xs us Q I r h
 rcases h with ⟨i,rfl,q⟩ | ⟨k,rfl,q⟩
 .obtain ⟨u,rfl,t,rfl⟩:=vals1 r
  exact call_int_int ⟨.int i,H,I,⟨_,rfl⟩,q⟩
 .obtain ⟨u,rfl,r1⟩:=vals1 r
  cases r1
  exact call_int_bool ⟨.int (if k then 1 else 0),H,I.tok _,⟨_,rfl⟩,q⟩
end
end L2
namespace L2
open PySem PySem.Spec PyProof.Rows
structure NP (h:Heap) (x dx C:Addr) (mA:Str->Option Value):Prop where
 obj:h.get? x = some (PySem.W.instObj C dx)
 ns:h.Ns1 dx mA
 ne:dx ≠ x
theorem Gh {h:Heap} {dx:Addr} {mA:Str->Option Value} (n:h.Ns1 dx mA):∃ od,h.get? dx = some od/\∀ name,PySem.W.lookIn name od = some (mA name):=by
 obtain ⟨o,es,ep,ho,hd,hk,_,hm⟩:=n
 refine ⟨o,ho,fun name=>?_⟩
 have e:=hm name
 unfold nsFind findBy at e
 rw [<- Array.find?_toList] at e
 unfold PySem.W.lookIn
 rw [hd]
 dsimp only
 split
 .rename_i y q
  rw [q] at e
  exact congrArg some e
 .rename_i q
  rw [q] at e
  have a:es.toList.any (·.refKey) = false:=by
   rw [List.any_eq_false]
   intro y hy
   obtain ⟨z,t,hkey⟩:=hk y (Array.mem_toList_iff.mp hy)
   simp [DictEntry.refKey,hkey]
  have a':¬ es.toList.any (·.refKey) = true:=by rw [a]; exact bB
  rw [if_neg a']
  exact congrArg some e
theorem NP.look {h:Heap} {x dx C:Addr} {mA:Str->Option Value} (I:NP h x dx C mA):∃ od,PySem.W.InstAt h x (PySem.W.instObj C dx) C (some od)/\∀ name,PySem.W.lookIn name od = some (mA name) :=
 let ⟨od,ho,hl⟩:=Gh I.ns
 ⟨od,⟨I.obj,rfl,rfl,ho⟩,hl⟩
section
variable {prog:Program} {w:World} {A:Around} {E:Value->Shared->Prop} {s:Shared} {K:Frag} {x dx C f:Addr} {mA:Str->Option Value} {name:Str} {v:Value}
theorem get_map {expr:Bool} {Q:Value->Shared->Prop} (X:K.In s.heap) (I:NP s.heap x dx C mA) (hg:PySem.W.plainGet K C name = true) (hh:PySem.W.hasDictIn K C = true)
  (ha:PySem.W.findIn K (.ref C) name = some none) (hv:mA name = some v) (hv':PySem.W.handedIn v = true) (h:Q v { s with toks:=s.toks + 1 }) :
  wpAny (model prog w) A (getAttr (.ref x) name expr) Q E s:=by
 obtain ⟨od,J,hl⟩:=I.look
 exact PySem.W.get_value X J (PySem.W.plainGet_of hg).1 (PySem.W.findObj_own hh ha rfl (by rw [hl,hv])) hv' h
theorem Wm {pl:Sem Bool} {Q:Value × List Value->Shared->Prop} (X:K.In s.heap) (I:NP s.heap x dx C mA) (hg:PySem.W.plainGet K C name = true)
  (hf:PySem.W.findIn K (.ref C) name = some (some (.ref f))) (ht:PySem.W.isFn K (.ref f) = true) (hv:mA name = none) (h:Q (.ref f,[.ref x]) s) :
  wpAny (model prog w) A (getMethod (.ref x) name pl) Q E s:=by
 obtain ⟨od,J,hl⟩:=I.look
 exact PySem.W.method_fn X J (PySem.W.plainGet_of hg).1 (PySem.W.plainGet_of hg).2 hf (beq_iff_eq.mp ht) (by show (PySem.W.lookIn name od).map (·.isSome) = some false; rw [hl,hv]; rfl) h
theorem Y0 {ns:List Str} {Q:Unit->Shared->Prop} (X:K.In s.heap) (I:NP s.heap x dx C mA)
  (hs:PySem.W.findIn K (.ref C) "__setattr__" = some (some (.builtin "object.__setattr__"))) (hp:PySem.W.plainOver K C = true) (ht:PySem.W.takerIn K C name = some none) (hh:PySem.W.hasDictIn K C = true)
  (hw:PySem.Within mA ns) (hsz:ns.length <= sizeLine)
  (h:∀ h',NP h' x dx C (fun y=>if y = name then some v else mA y)->Heap.SameBut dx s.heap h'->Q () { s with heap:=h',toks:=s.toks + 2 }) :
  wpAny (model prog w) A (setAttr (.ref x) name v) Q E s:=by
 obtain ⟨od,J,hl⟩:=I.look
 refine PySem.W.set_plain X J hs (PySem.W.osa_open (s:={ s with toks:=s.toks + 1 }) (r:=none) X J hp ht fun b=>?_)
 obtain ⟨cd,hc,hd'⟩:=PySem.W.any_some hh
 have hx:s.heap.get? x = some ⟨.ref C,some dx,.plain,#[]⟩:=I.obj
 refine wpAny_bind (wpAny_pure (wpAny_bind (wpAny_bind (wpAny_loadPart hx (wpAny_bind (PySem.W.Looks.here (s:={ s with toks:=s.toks + 1 }) (PySem.W.looks_clsIn X hc) ?_))))))
 rw [hd']
 refine wpAny_pure (a:=some dx) (wpAny_bind (wpAny_pure (wpAny_bind ?_)))
 refine wpAny_nsSet1 (s:={ s with toks:=s.toks + 1 }) I.ns fun h' hn2 hs2=>?_
 obtain ⟨oD,esD,epD,hoD,hdD,hcD⟩:=hn2.count (PySem.Within.cons name v hw)
 refine wpAny_bind (wpAny_lookBehind hoD (by rw [hdD]; exact pastItsLine_dict (aM hcD (by rw [List.length_cons]; omega))) ?_)
 exact wpAny_pure (h _ ⟨(hs2.2 _ (Ne.symm I.ne)).trans I.obj,hn2,I.ne⟩ hs2)
theorem Xr {R:Result->Shared->Prop} {vs:List Value} {kw:List (Str × Value)} (X:K.In s.heap) (hm:PySem.W.makesIn K C = true)
  (hi:PySem.W.findIn K (.ref C) "__init__" = some (some (.ref f))) (hf:PySem.W.typeIn K (.ref f) = some (.type "function"))
  (h:codeAny (model prog w) (A.under (.builtin "type.__call__" ⟨.ref C :: vs,kw⟩)) (.call (.ref f) ⟨.ref (s.heap.objs.size + 1) :: vs,kw⟩) (PySem.W.InitBack (s.heap.objs.size + 1) R)
   { s with heap:=(s.heap.push PySem.W.emptyDict).push (PySem.W.instObj C s.heap.objs.size) }) :
  codeAny (model prog w) A (.call (.ref C) ⟨vs,kw⟩) R s:=by
 obtain ⟨hh,g,d,t,os⟩:=s
 exact PySem.W.make_core (PySem.W.makes_of X hm) (PySem.W.looks_findIn X hi) (fun self=>PySem.W.bind_fn X self hf) (.inl rfl) h
end
noncomputable def lB (f:Str) (v:V):List (Str × V)->List (Str × V)
 | []=>[(f,v)]
 | (g,x) :: r=>if g = f then (g,v) :: r else (g,x) :: lB f v r
theorem zO (f g:Str) (v:V):∀ fs:List (Str × V),(lB f v fs).lookup g = if g = f then some v else fs.lookup g
 | []=>by
  show List.lookup g [(f,v)] = _
  by_cases h:g = f
  .have hb:(g == f) = true:=beq_iff_eq.mpr h
   simp only [List.lookup,hb,if_pos h]
  .have hb:(g == f) = false:=beq_eq_false_iff_ne.mpr h
   simp only [List.lookup,hb,if_neg h]
 | (k,x) :: r=>by
  have ih:=zO f g v r
  rw [show lB f v ((k,x) :: r) = (if k = f then (k,v) :: r else (k,x) :: lB f v r) from rfl]
  by_cases hk:k = f
  .rw [if_pos hk]
   by_cases h:g = k
   .have hb:(g == k) = true:=beq_iff_eq.mpr h
    simp only [List.lookup,hb,if_pos (h.trans hk)]
   .have hb:(g == k) = false:=beq_eq_false_iff_ne.mpr h
    simp only [List.lookup,hb,if_neg (fun e:g = f=>h (e.trans hk.symm))]
  .rw [if_neg hk]
   by_cases h:g = k
   .have hb:(g == k) = true:=beq_iff_eq.mpr h
    simp only [List.lookup,hb,if_neg (fun e:g = f=>hk (h.symm.trans e))]
   .have hb:(g == k) = false:=beq_eq_false_iff_ne.mpr h
    simp only [List.lookup,hb]
    exact ih
theorem zL (f:Str) (v:V):∀ fs:List (Str × V),f ∈ (lB f v fs).map (·.1)/\∀ g,g ∈ fs.map (·.1)->g ∈ (lB f v fs).map (·.1)
 | []=>⟨by simp [lB],fun g h=>by simp at h⟩
 | (k,x) :: r=>by
  obtain ⟨i1,i2⟩:=zL f v r
  rw [show lB f v ((k,x) :: r) = (if k = f then (k,v) :: r else (k,x) :: lB f v r) from rfl]
  by_cases hk:k = f
  .rw [if_pos hk]
   subst hk
   exact ⟨by simp,fun g h=>by simpa using h⟩
  .rw [if_neg hk]
   refine ⟨?_,fun g h=>?_⟩
   .rw [List.map_cons]
    exact aJ _ i1
   .rw [List.map_cons] at h ⊢
    rcases List.mem_cons.mp h with e | e
    .exact List.mem_cons.mpr (.inl e)
    .exact aJ _ (i2 g e)
theorem zN (f:Str) (v:V):∀ fs:List (Str × V),(lB f v fs).length <= fs.length + 1
 | []=>by simp [lB]
 | (k,x) :: r=>by
  have ih:=zN f v r
  rw [show lB f v ((k,x) :: r) = (if k = f then (k,v) :: r else (k,x) :: lB f v r) from rfl]
  by_cases hk:k = f
  .rw [if_pos hk,List.length_cons,List.length_cons]; omega
  .rw [if_neg hk,List.length_cons,List.length_cons]; omega
theorem tW.some_of {v:V} {o:Option Value} (r:tW (some v) o):∃ u,o = some u/\RelV v u:=by
 cases o with
 | none=>exact (show False from r).elim
 | some u=>exact ⟨u,rfl,r⟩
theorem tW.none_of {o:Option Value} (r:tW none o):o = none:=by
 cases o with
 | none=>rfl
 | some u=>exact (show False from r).elim
theorem Gq {v:V} {u:Value} (r:RelV v u):PySem.W.handedIn u = true:=by
 cases v with
 | non=>cases (show u = Value.none from r); rfl
 | bl b=>cases (show u = Value.bool b from r); rfl
 | int i=>obtain ⟨t,e⟩:=(show ∃ t,u = Value.int i t from r); cases e; rfl
 | str x=>obtain ⟨t,e⟩:=(show ∃ t,u = Value.str x t from r); cases e; rfl
 | byt b=>obtain ⟨t,e⟩:=(show ∃ t,u = Value.bytes b t from r); cases e; rfl
 | flt b=>obtain ⟨t,e⟩:=(show ∃ t,u = Value.float b t from r); cases e; rfl
 | ref a=>cases (show u = Value.ref a from r); rfl
 | ty n=>cases (show u = Value.type n from r); rfl
section
variable {P:Program} {w:World} {H H':Hp} {h h':Heap} {a C dx:Addr} {fs fs':List (Str × V)}
theorem Aj (hok:HOk P w H h) (e:H a = some (.ins C dx fs)):∃ mA,NP h a dx C mA/\(∀ f,tW (fs.lookup f) (mA f))/\PySem.Within mA (fs.map (·.1))/\fs.length <= 1000/\H dx = some (.own a):=by
 obtain ⟨d,z,ne,ob,mA,n,r,q⟩:=(show dz P w H h a (.ins C dx fs) from hok a _ e)
 exact ⟨mA,⟨ob,n,ne⟩,r,q,z,d⟩
end
structure Cls (K:Frag) (C:Addr):Prop where
 pg:PySem.W.plainGet K C Str.empty = true
 hd:PySem.W.hasDictIn K C = true
 po:PySem.W.plainOver K C = true
 sa:PySem.W.findIn K (.ref C) "__setattr__" = some (some (.builtin "object.__setattr__"))
theorem Cls.get {K:Frag} {C:Addr} (c:Cls K C) (f:Str):PySem.W.plainGet K C f = true:=c.pg
noncomputable def cF (K:Frag) (C:Addr) (f:Str):Prop:=PySem.W.findIn K (.ref C) f = some none
theorem cF.taker {K:Frag} {C:Addr} {f:Str} (n:cF K C f):PySem.W.takerIn K C f = some none:=by
 unfold PySem.W.takerIn
 rw [show PySem.W.findIn K (.ref C) f = some none from n]
 rfl
structure Meth (K:Frag) (C:Addr) (m:Str) (f:Addr):Prop where
 at_:PySem.W.findIn K (.ref C) m = some (some (.ref f))
 fn:PySem.W.isFn K (.ref f) = true
 kp:PySem.W.keepIn K (.ref f) = true
section
variable {X:Cx} {pins:List (Addr × Obj)} {σ:St} {H:Hp} {s:Shared} {a C dx:Addr} {fs:List (Str × V)} {f:Str} {v:V} {A:Around} {E:Value->Shared->Prop}
theorem Ob {b:Bool} {Q:Value->Shared->Prop} (I:Inv X pins σ H s) (e:H a = some (.ins C dx fs)) (c:Cls X.K C) (n:cF X.K C f) (l:fs.lookup f = some v)
  (h:∀ u s',Inv X pins σ H s'->RelV v u->Q u s'):wpAny (model X.prog X.w) A (getAttr (.ref a) f b) Q E s:=by
 obtain ⟨mA,O,r,_,_,_⟩:=Aj I.hok e
 obtain ⟨u,hu,ru⟩:=tW.some_of (v:=v) (o:=mA f) (by rw [<- l]; exact r f)
 exact get_map I.kIn O (c.get f) c.hd n hu (Gq ru) (h u _ (I.tok _) ru)
theorem Cu {m:Str} {g:Addr} {pl:Sem Bool} {Q:Value × List Value->Shared->Prop} (I:Inv X pins σ H s) (e:H a = some (.ins C dx fs)) (c:Cls X.K C) (k:Meth X.K C m g) (l:fs.lookup m = none)
  (h:Q (.ref g,[.ref a]) s):wpAny (model X.prog X.w) A (getMethod (.ref a) m pl) Q E s:=by
 obtain ⟨mA,O,r,_,_,_⟩:=Aj I.hok e
 have hn:mA m = none:=tW.none_of (by rw [<- l]; exact r m)
 exact Wm I.kIn O (c.get m) k.at_ k.fn hn h
theorem Ox {y:V} {u:Value} {Q:Unit->Shared->Prop} (I:Inv X pins σ H s) (e:H a = some (.ins C dx fs)) (c:Cls X.K C) (n:cF X.K C f) (hl:fs.length < 1000) (ry:RelV y u)
  (h:∀ s',Inv X pins σ (upd H a (.ins C dx (lB f y fs))) s'->Q () s'):wpAny (model X.prog X.w) A (setAttr (.ref a) f u) Q E s:=by
 obtain ⟨mA,O,r,wi,_,ho⟩:=Aj I.hok e
 have hz:(fs.map (·.1)).length <= sizeLine:=by rw [ak,sizeLine_eq]; omega
 refine Y0 I.kIn O c.sa c.po n.taker c.hd wi hz fun h' O' sb=>h _ ?_
 have hd:∃ o,h'.get? dx = some o:=let ⟨o,_,_,e',_⟩:=O'.ns; ⟨o,e'⟩
 refine I.write (x:=a) (e:=dx) (by rw [e]; exact True.intro) (.inr ho) (fun b q hb z=>(sb.2 b hb).trans z) hd ?_
 refine ⟨by rw [bI O.ne]; exact ho,?_,O.ne,O'.obj,_,O'.ns,fun g=>?_,fun g hg=>?_⟩
 .have:=zN f y fs; omega
 .show tW ((lB f y fs).lookup g) (if g = f then some u else mA g)
  rw [zO]
  by_cases q:g = f
  .rw [if_pos q,if_pos q]; exact ry
  .rw [if_neg q,if_neg q]; exact r g
 .by_cases q:g = f
  .rw [q]; exact (zL f y fs).1
  .refine (zL f y fs).2 g (wi g fun z=>hg ?_)
   show (if g = f then some u else mA g) = none
   rw [if_neg q]; exact z
theorem Inv.made (I:Inv X pins σ H s):Inv X pins σ (upd (upd H s.heap.objs.size (.own (s.heap.objs.size + 1))) (s.heap.objs.size + 1) (.ins C s.heap.objs.size []))
  { s with heap:=(s.heap.push PySem.W.emptyDict).push (PySem.W.instObj C s.heap.objs.size) }:=by
 have e1:(s.heap.push PySem.W.emptyDict).get? s.heap.objs.size = some PySem.W.emptyDict:=aY s.heap rfl
 have e2:((s.heap.push PySem.W.emptyDict).push (PySem.W.instObj C s.heap.objs.size)).get? (s.heap.objs.size + 1) = some (PySem.W.instObj C s.heap.objs.size):=by
  have:=aY (s.heap.push PySem.W.emptyDict) (o:=PySem.W.instObj C s.heap.objs.size) rfl
  rwa [Heap.size_push] at this
 have e3:(s.heap.push PySem.W.emptyDict).Ns s.heap.objs.size (fun _=>none):=⟨PySem.W.emptyDict,#[],_,e1,rfl,(fun e he=>absurd he (by simp)),fun _=>rfl⟩
 have I1:=I.laid (a:=s.heap.objs.size) (o:=.own (s.heap.objs.size + 1)) (h':=s.heap.push PySem.W.emptyDict) (t':=s.toks) (fun b u q=>aH _ q) (aG _) ⟨_,e1⟩
 refine I1.laid (a:=s.heap.objs.size + 1) (o:=.ins C s.heap.objs.size []) (t':=s.toks) (fun b u q=>aH _ q) (Nat.le_of_eq (Heap.size_push _ _)) ?_
 have ne:s.heap.objs.size ≠ s.heap.objs.size + 1:=aR (Nat.lt_succ_self _)
 refine ⟨by rw [bI ne,bH],bw _,ne,e2,fun _=>none,(Heap.Ns1.of_empty e3).at fun o q=>aH _ q,fun _=>True.intro,fun y hy=>absurd rfl hy⟩
theorem Qn {prog:Program} {w:World} {env:Env} {e:Expr} {f:Str} {pos:Pos} {s:Shared} {Q:Value->Shared->Prop} (hb:attributeBase e f env (eval e env) = eval e env)
  (h:wpAny (model prog w) A (eval e env) (fun o s₁=>wpAny (model prog w) A (getAttr o f true) Q E s₁) E s):wpAny (model prog w) A (eval (.Attribute e f pos) env) Q E s :=
 Attribute_any_ h (by rw [arm_eval_Attribute,hb])
end
noncomputable def Vr (K:Frag) (ta:TE) (f:Str):TE:=fun σ H Q=>ta σ H fun x H1=>∃ a C dx fs v,x = .ref a/\H1 a = some (.ins C dx fs)/\Cls K C/\cF K C f/\fs.lookup f = some v/\Q v H1
noncomputable def YH (K:Frag) (ta tv:TE) (f:Str):TS:=fun D σ H=>tv σ H fun y H1=>ta σ H1 fun x H2=>∃ a C dx fs,x = .ref a/\H2 a = some (.ins C dx fs)/\Cls K C/\cF K C f/\fs.length < 1000 /\
 D.nx σ (upd H2 a (.ins C dx (lB f y fs)))
section
variable {X:Cx} {o e value:Expr} {f:Str} {pos pos' tpos:Pos} {ta tv:TE}
theorem qu (he:PE X e ta) (hb:attributeBase e f X.env (eval e X.env) = eval e X.env):PE X (.Attribute e f pos) (Vr X.K ta f):=by
 intro pins s σ H Q I h
 refine Qn hb (thn (he pins s σ H _ I h) fun u s1 h=>?_)
 obtain ⟨x,H1,I1,rx,a,C,dx,fs,v,rfl,ea,c,n,l,q⟩:=h
 obtain rfl:u = Value.ref a:=rx
 exact Ob I1 ea c n l fun u' s2 I2 ru=>⟨v,H1,I2,ru,q⟩
theorem su (ha:PE X o ta) (hv:PE X value tv) (hs:swapsWith value (some (.Attribute o f pos')) pos.line X.env = pure false):PS X (.Assign [.Attribute o f pos'] value pos) (YH X.K ta tv f):=by
 intro pins s σ H D I h
 refine plainObj_wpAny_Assign_Attribute (thn (hv pins s σ H _ I h) fun u s1 ⟨y,H1,I1,ry,q⟩=>thn (ha pins s1 σ H1 _ I1 q) fun ov s2 h=>?_) hs
 obtain ⟨x,H2,I2,rx,a,C,dx,fs,rfl,ea,c,n,l,q2⟩:=h
 obtain rfl:ov = Value.ref a:=rx
 exact Ox I2 ea c n l ry fun s3 I3=>⟨σ,_,I3,q2⟩
end
section
variable {X:Cx} {pins:List (Addr × Obj)} {σ:St} {H:Hp} {s:Shared} {A:Around} {E:Value->Shared->Prop} {Q:Value->Shared->Prop} {c:Value} {b:Bool}
inductive zq (K:Frag) (H:Hp):V->Value->Prop where
 | non:zq K H .non (.type "NoneType")
 | bl (x:Bool):zq K H (.bl x) (.type "bool")
 | int (i:Int):zq K H (.int i) (.type "int")
 | str (x:Str):zq K H (.str x) (.type "str")
 | flt (x:UInt64):zq K H (.flt x) (.type "float")
 | lst {a:Addr} {xs:List V} (e:H a = some (.lst xs)):zq K H (.ref a) (.type "list")
 | frz {a:Addr} {o:Obj} {xs:List V} (e:H a = some (.frz o (.lst xs))):zq K H (.ref a) (.type "list")
 | tup {a:Addr} {xs:List V} (e:H a = some (.tup xs)):zq K H (.ref a) (.type "tuple")
 | dK {a:Addr} {kvs:List (Key × V)} (e:H a = some (.dK kvs)):zq K H (.ref a) (.type "dict")
 | ins {a C dx:Addr} {fs:List (Str × V)} (e:H a = some (.ins C dx fs)) (cl:Cls K C) (ha:PySem.W.findIn K (.ref C) "__class__" = some (some (.builtin "object.__class__")))
   (hn:PySem.W.specialIn K (.builtin "object.__class__") "__get__" = some (some (.builtin "getset_descriptor.__get__"))) (htk:PySem.W.takesIn K (.builtin "object.__class__") = some true)
   (hm:PySem.W.mroIn K C (.type "object") = some true):zq K H (.ref a) (.ref C)
theorem Te {x:V} {u t:Value} (I:Inv X pins σ H s) (rx:RelV x u) (ty:zq X.K H x t) (e:PySem.W.kitOne X.K t c = some b) (h:∀ tk,Q (.bool b) { s with toks:=tk }) :
  wpAny (model X.prog X.w) A (call (.builtin "isinstance") [u,c]) Q E s:=by
 cases ty with
 | non=>cases (show u = Value.none from rx); exact PySem.W.kia_one PySem.W.kitx_none I.kIn True.intro e (fun z=>nomatch z) h
 | bl y=>cases (show u = Value.bool y from rx); exact PySem.W.kia_one PySem.W.kitx_bool I.kIn True.intro e (fun z=>nomatch z) h
 | int i=>obtain ⟨t,q⟩:=(show ∃ t,u = Value.int i t from rx); cases q; exact PySem.W.kia_one PySem.W.kitx_int I.kIn True.intro e (fun z=>nomatch z) h
 | str y=>obtain ⟨t,q⟩:=(show ∃ t,u = Value.str y t from rx); cases q; exact PySem.W.kia_one PySem.W.kitx_str I.kIn True.intro e (fun z=>nomatch z) h
 | flt y=>obtain ⟨t,q⟩:=(show ∃ t,u = Value.float y t from rx); cases q; exact PySem.W.kia_one PySem.W.kitx_float I.kIn True.intro e (fun z=>nomatch z) h
 | @lst a xs ea =>
  cases (show u = Value.ref a from rx)
  obtain ⟨_,_,n,_,h1⟩:=(show dz X.prog X.w H s.heap a (.lst xs) from I.hok a _ ea)
  exact PySem.W.kia_one PySem.W.kitx_list I.kIn ⟨_,h1,rfl⟩ e (fun z=>nomatch z) h
 | @frz a ob xs ea =>
  cases (show u = Value.ref a from rx)
  obtain ⟨_,_,_,n,_,h1⟩:=(show dz X.prog X.w H s.heap a (.frz ob (.lst xs)) from I.hok a _ ea)
  exact PySem.W.kia_one PySem.W.kitx_list I.kIn ⟨_,h1,rfl⟩ e (fun z=>nomatch z) h
 | @tup a xs ea =>
  cases (show u = Value.ref a from rx)
  obtain ⟨_,_,_,p⟩:=(show dz X.prog X.w H s.heap a (.tup xs) from I.hok a _ ea)
  obtain ⟨o,h1,h2,_⟩:=p
  exact PySem.W.kia_one PySem.W.kitx_tuple I.kIn ⟨o,h1,h2⟩ e (fun z=>nomatch z) h
 | @dK a kvs ea =>
  cases (show u = Value.ref a from rx)
  obtain ⟨_,_,vs,_,p⟩:=(show dz X.prog X.w H s.heap a (.dK kvs) from I.hok a _ ea)
  obtain ⟨o,es,ep,h1,h2,_⟩:=p
  exact PySem.W.kia_one PySem.W.kitx_dict I.kIn ⟨o,h1,h2.1⟩ e (fun z=>nomatch z) h
 | @ins a C dx fs ea cl ha hn htk hm =>
  cases (show u = Value.ref a from rx)
  obtain ⟨mA,O,_⟩:=Aj I.hok ea
  obtain ⟨od,J,_⟩:=O.look
  exact PySem.W.kia_one (PySem.W.kitx_own (cl.get _) cl.hd ha hn htk hm) I.kIn J e (fun z=>nomatch z) h
end
end L2
namespace L2
open PySem PySem.Spec PyProof.Rows
structure gG (k:Nat) (A:Around):Prop where
 hd:A.handled = none
 dp:A.depth + 3 * k + 5 < recursionLimit
 un:A.units + 16 * k + 200 < cLine
theorem gG.mono {j k:Nat} {A:Around} (r:gG k A) (h:j <= k):gG j A:=⟨r.hd,by have:=r.dp; omega,by have:=r.un; omega⟩
theorem gG.deeper {k:Nat} {A:Around} (r:gG (k + 1) A) (env:Env):gG k (A.deeper env) :=
 ⟨r.hd,by have:=r.dp; show A.depth + 1 + 3 * k + 5 < _; omega,by have:=r.un; show A.units + 3 + 16 * k + 200 < _; omega⟩
theorem Ms {A:Around} {C:Addr} {us:List Value} {kw:List (Str × Value)} : (A.under (.builtin "type.__call__" ⟨.ref C :: us,kw⟩)).depth = A.depth + 1:=by
 first | rfl | simp [Around.under,Code.weight,Code.isCreation,Code.isGuard,Code.isCaller,Code.frames,Code.isFrame,guardIds]
theorem Oi {A:Around} {C:Addr} {us:List Value} {kw:List (Str × Value)} : (A.under (.builtin "type.__call__" ⟨.ref C :: us,kw⟩)).units = A.units + 1:=by
 first | rfl | simp [Around.under,Code.cUnits,Code.frames,Code.isFrame]
theorem gG.make {k:Nat} {A:Around} (r:gG (k + 1) A) (C:Addr) (us:List Value) (kw:List (Str × Value)):gG k (A.under (.builtin "type.__call__" ⟨.ref C :: us,kw⟩)) :=
 ⟨r.hd,by have:=r.dp; rw [Ms]; omega,by have:=r.un; rw [Oi]; omega⟩
theorem gG.depth {k:Nat} {A:Around} (r:gG k A):A.depth < recursionLimit:=by have:=r.dp; omega
theorem gG.units {k:Nat} {A:Around} (r:gG k A):A.units + 64 < cLine:=by have:=r.un; omega
noncomputable def sV:TA:=fun _ H Q=>Q [] H
noncomputable def pY (ta:TE) (tr:TA):TA:=fun σ H Q=>ta σ H fun x H1=>tr σ H1 fun xs H2=>Q (x :: xs) H2
section
variable {X:Cx} {e:Expr} {es:List Expr} {te:TE} {t:TA} {pos:Pos}
theorem bG:PA X [] sV:=fun _ _ _ _ H Q I h=>Calls.spliced_nil ⟨[],H,I,.nil,h⟩
theorem bC (ha:PE X e te) (hr:PA X es t) (hs:starEach (e :: es) X.env = (false,eval e X.env) :: starEach es X.env:=by rfl):PA X (e :: es) (pY te t):=by
 intro pos pins s σ H Q I h
 rw [hs]
 show wpAny _ _ (spliced ((false,eval e X.env) :: backTo pos (starEach es X.env))) _ _ s
 refine Calls.spliced_cons (thn (ha pins s σ H _ I h) fun u s1 ⟨x,H1,I1,r1,q1⟩=>?_)
 exact thn (hr pos pins s1 σ H1 _ I1 q1) fun us s2 ⟨xs,H2,I2,r2,q2⟩=>⟨x :: xs,H2,I2,.cons r1 r2,q2⟩
noncomputable def Yu (t:TA):TE:=fun σ H Q=>t σ H fun xs H1=>xs.length <= sizeLine/\∀ p,H1 p = none->Q (.ref p) (upd H1 p (.tup xs))
noncomputable def Uw (t:TA):TE:=fun σ H Q=>t σ H fun xs H1=>xs.length <= sizeLine/\∀ p,H1 p = none->Q (.ref p) (upd H1 p (.lst xs))
theorem dO {x1} (h:PA X es t):PE X (.Tuple es x1 pos) (Yu t):=by
 intro pins s σ H Q I hq
 refine wpAny_Tuple_spliced (thn (h pos pins s σ H _ I hq) fun us s1 ⟨xs,H1,I1,r,z,q⟩=>⟨by rw [<- r.length]; exact z,?_⟩)
 have hf:H1 s1.heap.objs.size = none:=I1.hok.fresh (aG _)
 refine ⟨.ref s1.heap.objs.size,upd H1 s1.heap.objs.size (.tup xs),I1.laid (t':=s1.toks) (fun b u e=>aH _ e) (aG _) ?_,rfl,q _ hf⟩
 exact ⟨z,us,r,⟨_,aY _ rfl,rfl,_,rfl⟩⟩
theorem ji (h:PA X es t):PE X (.List es pos) (Uw t):=by
 intro pins s σ H Q I hq
 refine wpAny_List_spliced (thn (h pos pins s σ H _ I hq) fun us s1 ⟨xs,H1,I1,r,z,q⟩=>⟨by rw [<- r.length]; exact z,?_⟩)
 have hf:H1 s1.heap.objs.size = none:=I1.hok.fresh (aG _)
 refine ⟨.ref s1.heap.objs.size,upd H1 s1.heap.objs.size (.lst xs),I1.laid (t':=s1.toks) (fun b u e=>aH _ e) (aG _) ?_,rfl,q _ hf⟩
 exact ⟨z,us,0,r,aY _ rfl⟩
end
noncomputable abbrev Sp:=List V->Hp->VK->XK->Prop
noncomputable abbrev CXT:=List Env->Hp->Shared->XK->Value->Shared->Prop
structure MK (P:Program) (w:World) (K:Frag) (mg:Str->Option Value) (base:Heap) (A:Around) (outer:List Env) (s:Shared) (H:Hp):Prop where
 frames:A.frames = some outer
 mod:Mod K mg base
 bs:∀ b o,base.get? b = some o->s.heap.get? b = some o/\H b = none
 bsz:base.objs.size <= s.heap.objs.size
 funs:s.heap.FunFrames base outer
 frf:∀ b ∈ frs outer,H b = none
 hok:HOk P w H s.heap
 bare:AllBare s.gens
noncomputable def CE (outer:List Env) (P:Program) (w:World) (H:Hp) (s:Shared) (Q:VK) (u:Value) (s':Shared):Prop :=
 ∃ v H',s'.os = s.os/\AllBare s'.gens/\Un (frs outer) [] H H' s.heap s'.heap/\HOk P w H' s'.heap/\RelV v u/\Q v H'
noncomputable def CR (CX:CXT) (outer:List Env) (P:Program) (w:World) (H:Hp) (s:Shared) (Q:VK) (E:XK) (r:Result) (s':Shared):Prop :=
 match r with
 | .ok (.ret u)=>CE outer P w H s Q u s'
 | .ok _=>False
 | .error e=>CX outer H s E e s'
structure cD (P:Program) (w:World) (K:Frag) (mg:Str->Option Value) (base:Heap) (CX:CXT) (k:Nat) (f:Addr) (fd:FuncData) (ps:List Str) (sp:Sp):Prop where
 len:∀ vs H Q E,sp vs H Q E->vs.length = ps.length
 run:∀ (A:Around) (outer:List Env) (s:Shared) (H:Hp) (args:Args) (us:List Value) (vs:List V) (Q:VK) (E:XK),gG k A->MK P w K mg base A outer s H->BindsTo s fd args (ps.zip us)->Vals vs us->sp vs H Q E ->
  codeAny (model P w) A (.call (.ref f) args) (CR CX outer P w H s Q E) s
theorem cD.imp {P:Program} {w:World} {K:Frag} {mg:Str->Option Value} {base:Heap} {CX:CXT} {k:Nat} {f:Addr} {fd:FuncData} {ps:List Str} {sp sp':Sp} (F:cD P w K mg base CX k f fd ps sp)
  (h:∀ vs H Q E,sp' vs H Q E->sp vs H Q E):cD P w K mg base CX k f fd ps sp' :=
 ⟨fun vs H Q E q=>F.len vs H Q E (h _ _ _ _ q),fun A outer s H args us vs Q E hr he hb hv hs=>F.run A outer s H args us vs Q E hr he hb hv (h _ _ _ _ hs)⟩
theorem MK.make {P:Program} {w:World} {K:Frag} {mg:Str->Option Value} {base:Heap} {A:Around} {outer:List Env} {s:Shared} {H:Hp} (e:MK P w K mg base A outer s H) (C:Addr) (us:List Value) (kw:List (Str × Value)) :
  MK P w K mg base (A.under (.builtin "type.__call__" ⟨.ref C :: us,kw⟩)) outer s H:=⟨by first | exact e.frames | (simpa [Around.under,Code.envs,Code.isFrame,pushEnvs] using e.frames),e.mod,e.bs,e.bsz,e.funs,e.frf,e.hok,e.bare⟩
section
variable {X:Cx} {pins:List (Addr × Obj)} {σ:St} {H:Hp} {s s':Shared}
theorem Inv.env0 (I:Inv X pins σ H s):MK X.prog X.w X.K X.mg X.base X.A X.stack s H :=
 ⟨I.ok.frames,I.ok.mod,I.bs,aM I.ok.bsz I.sz,I.stack,I.stkFree,I.hok,I.bare⟩
theorem Inv.after {Q:VK} {u:Value} (I:Inv X pins σ H s) (h:CE X.stack X.prog X.w H s Q u s'):EP X pins σ Q u s':=by
 obtain ⟨v,H',os,bare,un,hok,r,q⟩:=h
 obtain ⟨hh,g,d,t,os'⟩:=s'
 obtain rfl:os' = s.os:=os
 exact ⟨v,H',I.call (h':=hh) (g':=g) (d':=d) (t':=t) (ch:=[]) un hok bare (fun b z=>absurd z (by simp)),r,q⟩
end
noncomputable def aew (sp:Sp) (dvs:List V) (E:XK) (t:TA):TE:=fun σ H Q=>t σ H fun vs H1=>sp (vs ++ dvs) H1 Q E
noncomputable def aaD (C:Addr) (m:Str) (sp:Sp) (dvs:List V) (E:XK) (ta:TE) (t:TA):TE:=fun σ H Q=>ta σ H fun x H1=>∃ a dx fs,x = .ref a/\H1 a = some (.ins C dx fs)/\fs.lookup m = none /\
 t σ H1 fun vs H2=>sp (x :: (vs ++ dvs)) H2 Q E
noncomputable def Binds (K:Frag) (fd:FuncData) (ps:List Str) (ds:List Value):Prop :=
 ∀ (s:Shared) (us:List Value),K.In s.heap->(us ++ ds).length = ps.length->BindsTo s fd ⟨us,[]⟩ (ps.zip (us ++ ds))
theorem Binds.all {K:Frag} {fd:FuncData} {ps:List Str} (h:∀ us:List Value,us.length = ps.length->bindArgs fd ⟨us,[]⟩ = pure (ps.zip us)):Binds K fd ps []:=fun s us _ hl=>by
 rw [List.append_nil] at hl ⊢
 exact .of_eq (h us hl)
noncomputable def Passes (CX:CXT) (X:Cx) (E:XK):Prop:=∀ (pins:List (Addr × Obj)) (σ:St) (H:Hp) (s:Shared) (e:Value) (s':Shared),Inv X pins σ H s->CX X.stack H s E e s'->X.xe e s'
section
variable {X:Cx} {CX:CXT} {k:Nat} {f C:Addr} {fd:FuncData} {ps:List Str} {sp:Sp} {dvs:List V} {ds:List Value} {E:XK} {x m:Str} {p pos apos:Pos} {e o:Expr} {es:List Expr} {ta:TE} {t:TA}
theorem NT {pins:List (Addr × Obj)} {σ:St} {H:Hp} {s:Shared} {Q:VK} {us:List Value} {vs:List V} (F:cD X.prog X.w X.K X.mg X.base CX k f fd ps sp) (hr:gG k X.A) (hb:Binds X.K fd ps ds) (hd:Vals dvs ds) (hx:Passes CX X E)
  (I:Inv X pins σ H s) (r:Vals vs us) (h:sp (vs ++ dvs) H Q E):wpAny (model X.prog X.w) X.A (call (.ref f) us) (EP X pins σ Q) X.xe s:=by
 have r2:Vals (vs ++ dvs) (us ++ ds):=r.append hd
 have hl:(us ++ ds).length = ps.length:=by rw [<- r2.length]; exact F.len _ _ _ _ h
 refine wpAny_call (codeAny_mono (F.run X.A X.stack s H ⟨us,[]⟩ (us ++ ds) (vs ++ dvs) Q E hr I.env0 (hb s us I.kIn hl) r2 h) fun r s' hq=>?_)
 cases r with
 | error e=>exact hx pins σ H s e s' I hq
 | ok fl =>
  cases fl with
  | ret u=>exact I.after hq
  | next=>exact False.elim hq
  | brk=>exact False.elim hq
  | cont=>exact False.elim hq
theorem YQ (F:cD X.prog X.w X.K X.mg X.base CX k f fd ps sp) (hr:gG k X.A) (hg:Gl X x) (hm:X.mg x = some (.ref f)) (hk:PySem.W.keepIn X.K (.ref f) = true) (hb:Binds X.K fd ps ds) (hd:Vals dvs ds) (hx:Passes CX X E)
  (ha:PA X (e :: es) t) (hdb:(x == ("__debug__" : Str)) = false:=by decide) (he:starEach (e :: es) X.env = (false,eval e X.env) :: starEach es X.env:=by rfl) (hpl:(backTo pos (starEach es X.env)).any (·.1) = false:=by rfl) :
  PE X (.Call (.Name x p) (e :: es) [] pos) (aew sp dvs E t):=by
 intro pins s σ H Q I h
 refine wpAny_Call_Name_kw (nA I hg hm ?_ hdb)
 refine PySem.W.callWith_K (h₀:=X.base) I.ok.mod.kin hk (thn (ha pos pins s σ H _ I h) fun us s1 ⟨vs,H1,I1,r,q⟩=>⟨I1.kIn,?_⟩) he hpl
 exact NT F hr hb hd hx I1 r q
theorem YM {pl:Sem Bool} (he:PE X o ta) (c:Cls X.K C) (hm:Meth X.K C m f) (F:cD X.prog X.w X.K X.mg X.base CX k f fd ps sp) (hr:gG k X.A) (hb:Binds X.K fd ps ds) (hd:Vals dvs ds) (hx:Passes CX X E) (ha:PA X (e :: es) t)
  (hst:starEach (e :: es) X.env = (false,eval e X.env) :: starEach es X.env:=by rfl) (hpl:(backTo pos (starEach es X.env)).any (·.1) = false:=by rfl)
  (ht:eval (.Call (.Attribute o m apos) (e :: es) [] pos) X.env = (do
   let ov <- eval o X.env
   standAt apos.atName
   let (f,first) <- holding [ov] (getMethod ov m pl)
   callWith pos f first (backTo pos (starEach (e :: es) X.env)) (backToKw pos (keywordEach [] X.env))):=by rfl) :
  PE X (.Call (.Attribute o m apos) (e :: es) [] pos) (aaD C m sp dvs E ta t):=by
 intro pins s σ H Q I h
 refine PySem.W.methodCall_KW (pl:=pl) (thn (he pins s σ H _ I h) fun u s1 ⟨x,H1,I1,rx,a,dx,fs,ex,ea,l,q⟩=>?_) ht
 subst ex
 obtain rfl:u = Value.ref a:=rx
 refine Cu I1 ea c hm l ?_
 refine PySem.W.callWith_K (first:=[.ref a]) (h₀:=X.base) I.ok.mod.kin hm.kp (thn (ha pos pins s1 σ H1 _ I1 q) fun us s2 ⟨vs,H2,I2,r,q2⟩=>⟨I2.kIn,?_⟩) hst hpl
 exact NT (us:=.ref a :: us) (vs:=.ref a :: vs) F hr hb hd hx I2 (.cons rfl r) q2
theorem T9 {pl:Sem Bool} (he:PE X o ta) (c:Cls X.K C) (hm:Meth X.K C m f) (F:cD X.prog X.w X.K X.mg X.base CX k f fd ps sp) (hr:gG k X.A) (hb:Binds X.K fd ps ds) (hd:Vals dvs ds) (hx:Passes CX X E)
  (ht:eval (.Call (.Attribute o m apos) [] [] pos) X.env = (do
   let ov <- eval o X.env
   standAt apos.atName
   let (f,first) <- holding [ov] (getMethod ov m pl)
   callWith pos f first (backTo pos (starEach [] X.env)) (backToKw pos (keywordEach [] X.env))):=by rfl) :
  PE X (.Call (.Attribute o m apos) [] [] pos) (aaD C m sp dvs E ta sV):=by
 intro pins s σ H Q I h
 refine PySem.W.methodCall_KW (pl:=pl) (thn (he pins s σ H _ I h) fun u s1 ⟨x,H1,I1,rx,a,dx,fs,ex,ea,l,q⟩=>?_) ht
 subst ex
 obtain rfl:u = Value.ref a:=rx
 refine Cu I1 ea c hm l ?_
 exact PySem.W.callWith_K0 (first:=[.ref a]) I1.kIn hm.kp (NT (us:=[.ref a]) (vs:=[.ref a]) F hr hb hd hx I1 (.cons rfl .nil) q)
structure Mk (K:Frag) (C f:Addr):Prop where
 makes:PySem.W.makesIn K C = true
 init:PySem.W.findIn K (.ref C) "__init__" = some (some (.ref f))
 fn:PySem.W.isFn K (.ref f) = true
 kp:PySem.W.keepIn K (.ref C) = true
end
section
variable {X:Cx} {CX:CXT} {k:Nat} {f C:Addr} {fd:FuncData} {ps ks:List Str} {sp:Sp} {E:XK} {x m:Str} {p pos apos kpos:Pos} {e o:Expr} {es:List Expr} {kws:List Keyword} {te ta:TE} {t tk:TA} {nm:Option Str}
variable {g:List Value->List Value->List Value} {gV:List V->List V->List V}
end
structure bY (N P:List Str) (sc:Scope):Prop where
 kind:sc.kind = .function
 co:sc.isCoroutine = false
 gen:sc.isGenerator = false
 nd:N.Nodup
 pre:N.take P.length = P
 par:∀ x ∈ P,sc.names.lookup x = some .local\/sc.names.lookup x = some .cell
 nofree:∀ y ∈ sc.names,y.2 ≠ .free
theorem FQ {kindOf:Str->Option NameKind} {x:Str} : ∀ {binds:List (Str × Value)} {m:Str->Option Value},(∀ v,(x,v) ∉ binds)->bindL kindOf binds m x = m x
 | [],_,_=>rfl
 | (n,v) :: r,m,h=>by
  unfold bindL
  rw [FQ fun w hw=>h w (aJ _ hw)]
  split
  .have:x ≠ n:=by rintro rfl; exact h v aO
   simp [this]
  .rfl
theorem Gd {kindOf:Str->Option NameKind} {x:Str} : ∀ {binds:List (Str × Value)} {m:Str->Option Value},(∀ v,(x,v) ∉ binds)->bindC kindOf binds m x = m x
 | [],_,_=>rfl
 | (n,v) :: r,m,h=>by
  unfold bindC
  rw [Gd fun w hw=>h w (aJ _ hw)]
  split
  .rfl
  .have:x ≠ n:=by rintro rfl; exact h v aO
   simp [this]
theorem Gu {kindOf:Str->Option NameKind} {x:Str} {v:Value} : ∀ {P:List Str} {vs:List Value} {i:Nat} {m:Str->Option Value},P.Nodup->P[i]? = some x->vs[i]? = some v->kindOf x = some .local ->
  bindL kindOf (P.zip vs) m x = some v
 | [],_,_,_,_,h,_,_=>by simp at h
 | _ :: _,[],_,_,_,_,h,_=>by simp at h
 | p :: P,w :: vs,0,m,nd,h1,h2,hk=>by
  simp at h1 h2; subst h1; subst h2
  show bindL kindOf ((p,w) :: P.zip vs) m p = _
  unfold bindL
  rw [FQ fun v hv=>(List.nodup_cons.mp nd).1 (List.of_mem_zip hv).1,if_pos hk]
  simp
 | p :: P,w :: vs,i + 1,m,nd,h1,h2,hk=>by
  show bindL kindOf ((p,w) :: P.zip vs) m x = _
  unfold bindL
  exact Gu (i:=i) (List.nodup_cons.mp nd).2 (by simpa using h1) (by simpa using h2) hk
theorem Gn {kindOf:Str->Option NameKind} {x:Str} {v:Value} : ∀ {P:List Str} {vs:List Value} {i:Nat} {m:Str->Option Value},P.Nodup->P[i]? = some x->vs[i]? = some v->kindOf x ≠ some .local ->
  bindC kindOf (P.zip vs) m x = some v
 | [],_,_,_,_,h,_,_=>by simp at h
 | _ :: _,[],_,_,_,_,h,_=>by simp at h
 | p :: P,w :: vs,0,m,nd,h1,h2,hk=>by
  simp at h1 h2; subst h1; subst h2
  show bindC kindOf ((p,w) :: P.zip vs) m p = _
  unfold bindC
  rw [Gd fun v hv=>(List.nodup_cons.mp nd).1 (List.of_mem_zip hv).1,if_neg hk]
  simp
 | p :: P,w :: vs,i + 1,m,nd,h1,h2,hk=>by
  show bindC kindOf ((p,w) :: P.zip vs) m x = _
  unfold bindC
  exact Gn (i:=i) (List.nodup_cons.mp nd).2 (by simpa using h1) (by simpa using h2) hk
noncomputable def start (N:List Str) (vs:List V):St:=vs.map some ++ List.replicate (N.length - vs.length) none
noncomputable def Ca (CX:CXT) (P:Program) (w:World) (K:Frag) (mg:Str->Option Value) (base:Heap) (N:List Str) (qual:Str) (scope:Scope) (f:Addr) (cd:Value) (A:Around) (outer:List Env) (s:Shared) (H:Hp) (E:XK):Cx where
 prog:=P
 w:=w
 K:=K
 mg:=mg
 base:=base
 A:=A.deeper (envOfC qual scope s.heap.objs.size f cd)
 N:=N
 s₀:=s
 H₀:=H
 env:=envOfC qual scope s.heap.objs.size f cd
 outer:=outer
 stack:=envOfC qual scope s.heap.objs.size f cd :: outer
 ex:=[]
 calm:=true
 fn:=fun _=>true
 pn:=[]
 xe:=fun e s'=>wpAny (model P w) (A.deeper (envOfC qual scope s.heap.objs.size f cd)) (leaving (envOfC qual scope s.heap.objs.size f cd) e) (fun _ s''=>CX outer H s E e s'') (fun e' s''=>CX outer H s E e' s'') s'
theorem Kl {sc:Scope} {n:Nat} {x:Str} (h:sc.names.lookup x = some .cell):∃ c,(cellsFrom n sc.names []).lookup x = some c:=by
 have q:=PySem.W.cellsFrom_some sc.names n [] (.inl h)
 exact Option.isSome_iff_exists.mp q
theorem Ri {CX:CXT} {P:Program} {w:World} {K:Frag} {mg:Str->Option Value} {base:Heap} {N ps:List Str} {qual:Str} {scope:Scope} {f:Addr} {cd:Value} {A:Around} {outer:List Env} {s s1:Shared} {H:Hp} {E:XK} {us:List Value} {vs:List V}
  (S:bY N ps scope) (hd:A.handled = none) (e0:MK P w K mg base A outer s H) (hl:vs.length = ps.length) (r:Vals vs us)
  (x:InCallC s s.heap.objs.size (bindL (envOfC qual scope s.heap.objs.size f cd).kindOf (ps.zip us) fun _=>none) (cellsFrom (s.heap.objs.size + 1) scope.names []) (bindC (envOfC qual scope s.heap.objs.size f cd).kindOf (ps.zip us) fun _=>none) s1) :
  Inv (Ca CX P w K mg base N qual scope f cd A outer s H E) [] (start N vs) H s1:=by
 have hpl:ps.length <= N.length:=by have:=congrArg List.length S.pre; rw [bh] at this; omega
 obtain ⟨h1,tk,rfl,hk⟩:=x.done
 have noA:∀ b:Addr,b ∉ (Ca CX P w K mg base N qual scope f cd A outer s H E).ex:=fun b z=>absurd (show b ∈ ([] : List Addr) from z) (by simp)
 refine ⟨⟨e0.mod,S.kind,rfl,rfl,aG _,fun y z c h1 h2=>?_,fun y hy=>?_,fun y c _ h=>?_,fun _=>hd,Around.frames_deeper e0.frames,.inr ⟨rfl,rfl⟩,fun b z=>absurd z (noA b),e0.bs,e0.bsz,fun b _ _=>noA b,fun b z=>absurd z (noA b),e0.funs,e0.frf⟩,
  rfl,e0.bare,Un.kept hk,⟨_,x.toInCall.ns,fun i y v h1 h2 h3=>?_⟩,fun y c h=>⟨_,x.cell y c h⟩,e0.hok.fresh (aG _),fun y c h=>?_,fun p hp=>absurd (show p ∈ ([] : List (Addr × Obj)) from hp) (by simp),e0.hok.kept hk,?_⟩
 .exact name_of_addr x.apart (PySem.mem_of_lookup h1) (PySem.mem_of_lookup h2)
 .have hy:scope.names.lookup y = some .cell\/scope.names.lookup y = some .free:=hy
  rcases hy with hy | hy
  .exact Kl hy
  .exact absurd rfl (S.nofree _ (PySem.mem_of_lookup hy))
 .exact Nat.le_of_lt (x.above y c (PySem.mem_of_lookup h))
 .have hi:i < vs.length:=by
   unfold start at h2
   by_cases hi:i < vs.length
   .exact hi
   .rw [aD (by simpa using hi)] at h2
    rw [List.getElem?_replicate] at h2
    split at h2 <;> cases h2
  have ha:vs[i]? = some v:=by
   unfold start at h2
   rw [aF (by simpa using hi),au] at h2
   cases e:vs[i]? with
   | none=>rw [e] at h2; cases h2
   | some a=>rw [e] at h2; cases h2; rfl
  obtain ⟨u,hu,rv⟩:=r.get ha
  have hp:ps[i]? = some y:=by
   rw [<- S.pre,List.getElem?_take_of_lt (by omega)]; exact h1
  have ndP:ps.Nodup:=by rw [<- S.pre]; exact S.nd.sublist (List.take_sublist _ _)
  refine ⟨u,rv,?_⟩
  rcases S.par y (aC hp) with k | k
  .exact .inl ⟨k,Gu ndP hp hu k⟩
  .obtain ⟨c,e⟩:=Kl (n:=s.heap.objs.size + 1) k
   refine .inr ⟨.inl k,c,e,?_⟩
   have q:=x.cell y c e
   rw [Gn ndP hp hu (by show scope.names.lookup y ≠ _; rw [k]; decide)] at q
   exact q
 .exact e0.hok.fresh (Nat.le_of_lt (x.above y c (PySem.mem_of_lookup h)))
 .unfold start
  show _ = N.length
  rw [aB,ak,aN]
  omega
theorem aax {CX:CXT} {P:Program} {w:World} {K:Frag} {mg:Str->Option Value} {base:Heap} {k:Nat} {f:Addr} {name qual:Str} {params:Arguments} {body:List Stmt} {scope:Scope} {dV kV doc pm cdv ct oc:Value} {an od:Option Addr}
  {osl:Array (Option Value)} {N ps:List Str} {sp:Sp} (lk:K.lookup f = some ⟨oc,od,.func (PySem.W.fnOf name qual params body scope dV kV doc pm an cdv ct),osl⟩) (hcd:PySem.W.codeIn K cdv qual = true) (S:bY N ps scope)
  (len:∀ vs H Q E,sp vs H Q E->vs.length = ps.length)
  (hbody:∀ (A:Around) (outer:List Env) (s:Shared) (H:Hp) (vs:List V) (Q:VK) (E:XK),gG k (A.deeper (envOfC qual scope s.heap.objs.size f cdv))->sp vs H Q E ->
   ∃ t,PSs (Ca CX P w K mg base N qual scope f cdv A outer s H E) body t/\t { nx:=fun _ H'=>Q .non H',rt:=Q } (start N vs) H) :
  cD P w K mg base CX (k + 1) f (PySem.W.fnOf name qual params body scope dV kV doc pm an cdv ct) ps sp:=by
 refine ⟨len,fun A outer s H args us vs Q E hr e0 hb r hsp=>?_⟩
 have hl:=len _ _ _ _ hsp
 have KX:K.In s.heap:=e0.mod.kin.keeps fun b o e=>(e0.bs b o e).1
 have lim:s.heap.NoLimit:=e0.mod.nolimit.keeps fun b o e=>(e0.bs b o e).1
 have hkind:∀ y ∈ ps.zip us,scope.names.lookup y.1 = some .local\/(scope.names.lookup y.1 = some .cell/\((cellsFrom (s.heap.objs.size + 1) scope.names []).lookup y.1).isSome = true):=fun ⟨n,v⟩ hy=>by
  rcases S.par n (List.of_mem_zip hy).1 with q | q
  .exact .inl q
  .exact .inr ⟨q,PySem.W.cellsFrom_some _ _ _ (.inl q)⟩
 refine codeAny_call_function hr.depth (KX _ _ lk) rfl S.co S.gen rfl (PySem.W.codeRec_of KX hcd) (hb _ _ _ _ ?_)
 refine wpAny_newFunctionEnv_cells S.kind hkind fun env he s1 x=>?_
 subst he
 refine ⟨lim.keeps x.toInCall.keep,codeAny_func ?_⟩
 obtain ⟨t,ht,hq⟩:=hbody A outer s H vs Q E (hr.deeper _) hsp
 have I:Inv (Ca CX P w K mg base N qual scope f cdv A outer s H E) [] (start N vs) H s1:=Ri S hr.hd e0 hl r x
 refine wpAny_mono (ht [] s1 (start N vs) H _ I hq) (fun fl s' hs=>?_) fun e s' hs=>hs
 have fin:∀ {σ':St} {H':Hp} {v:V} {u:Value},Inv (Ca CX P w K mg base N qual scope f cdv A outer s H E) [] σ' H' s'->RelV v u->Q v H'->CE outer P w H s Q u s' :=
  fun {σ' H' v u} J rv q=>⟨v,H',J.os,J.bare,J.base,J.hok,rv,q⟩
 cases fl with
 | ret u =>
  obtain ⟨v,σ',H',J,rv,q⟩:=hs
  exact fin J rv q
 | next =>
  obtain ⟨σ',H',J,q⟩:=hs
  exact fin (v:=V.non) (u:=Value.none) J rfl q
 | brk =>
  obtain ⟨_,_,_,q⟩:=hs
  exact False.elim q
 | cont =>
  obtain ⟨_,_,_,q⟩:=hs
  exact False.elim q
end L2
namespace L2
open PySem PySem.Spec PyProof.Rows
section
variable {X:Cx} {x:Str} {p pos:Pos} {e:Expr} {es:List Expr} {t:TA} {id T:String} {r:List V->Hp->VK->Prop}
noncomputable def tCB (r:List V->Hp->VK->Prop) (t:TA):TE:=fun σ H Q=>t σ H fun vs H1=>r vs H1 Q
theorem b_ (hc:eZ X (.builtin id) r) (hg:Gl X x) (hm:X.mg x = none) (hv:bootBuiltins x = some (.builtin id)) (ha:PA X (e :: es) t) (hn:x ≠ "__name__" := by decide) (hdb:(x == ("__debug__" : Str)) = false:=by decide)
  (he:starEach (e :: es) X.env = (false,eval e X.env) :: starEach es X.env:=by rfl) (hpl:(backTo pos (starEach es X.env)).any (·.1) = false:=by rfl):PE X (.Call (.Name x p) (e :: es) [] pos) (tCB r t):=by
 intro pins s σ H Q I h
 refine wpAny_Call_Name_kw (zj I hg hm hv ?_ hn hdb)
 exact PyProof.Rows.callWith_builtin1 (thn (ha pos pins s σ H _ I h) fun us s1 ⟨vs,H1,I1,r1,q1⟩=>hc pins s1 σ H1 vs us Q I1 r1 q1) he hpl
theorem gP (hc:eZ X (.type T) r) (hg:Gl X x) (hm:X.mg x = none) (hv:bootBuiltins x = some (.type T)) (ha:PA X (e :: es) t) (hn:x ≠ "__name__" := by decide) (hdb:(x == ("__debug__" : Str)) = false:=by decide)
  (he:starEach (e :: es) X.env = (false,eval e X.env) :: starEach es X.env:=by rfl) (hpl:(backTo pos (starEach es X.env)).any (·.1) = false:=by rfl):PE X (.Call (.Name x p) (e :: es) [] pos) (tCB r t):=by
 intro pins s σ H Q I h
 refine wpAny_Call_Name_kw (zj I hg hm hv ?_ hn hdb)
 exact PyProof.Rows.callWith_type1 (thn (ha pos pins s σ H _ I h) fun us s1 ⟨vs,H1,I1,r1,q1⟩=>hc pins s1 σ H1 vs us Q I1 r1 q1) he hpl
end
end L2
namespace HT
open PySem PyProof.Rows
section
open PySem.SeqAt
open PySem.AutoSeq1 (wpAny_loadPart')
open PySem.MeetsSeq PySem.MeetsSeq2 PySem.MeetsSeq3
end
section
variable {prog:Program} {w:World} {A:Around} {E:Value->Shared->Prop} {s:Shared}
noncomputable def sIx (n d:Nat):Option Int->Nat
 | none=>d
 | some v=>if v < 0 then (v + (n:Int)).toNat else min v.toNat n
theorem nQ (n d k:Nat):sIx n d (some (k:Int)) = min k n:=by
 show (if (k:Int) < 0 then ((k:Int) + (n:Int)).toNat else min (k:Int).toNat n) = min k n
 rw [if_neg (by omega),Int.toNat_natCast]
theorem aaW (n d:Nat) (hd:d <= n) (o:Option Int):sIx n d o <= n:=by
 cases o with
 | none=>exact hd
 | some v =>
  show (if v < 0 then (v + (n:Int)).toNat else min v.toNat n) <= n
  by_cases hv:v < 0
  .rw [if_pos hv]; omega
  .rw [if_neg hv]; exact Nat.min_le_right _ _
end
end HT
namespace L2
open PySem PySem.Spec PyProof.Rows
noncomputable abbrev TO:=St->Hp->(Option Int->Hp->Prop)->Prop
noncomputable def PO (X:Cx) (e:Option Expr) (t:TO):Prop :=
 ∀ (pins:List (Addr × Obj)) (s:Shared) (σ:St) (H:Hp) (Q:Option Int->Hp->Prop),Inv X pins σ H s->t σ H Q ->
  wpAny (model X.prog X.w) X.A (evalPart e X.env) (fun u s'=>∃ o H',Inv X pins σ H' s'/\IsPart u o/\Q o H') X.xe s
noncomputable def Ao:TO:=fun _ H Q=>Q none H
noncomputable def Qd (t:TE):TO:=fun σ H Q=>t σ H fun x H1=>∃ i,x = .int i/\Q (some i) H1
theorem intsAre_of {ns:List Int} : ∀ {us:List Value},Vals (ns.map V.int) us->IntsAre us ns:=by
 induction ns with
 | nil=>intro us r; rw [List.map_nil] at r; cases r; exact .nil
 | cons n ns ih =>
  intro us r
  rw [List.map_cons] at r
  cases r with
  | cons r1 r2 =>
   obtain ⟨t,e⟩:=r1
   subst e
   exact .cons n t (ih r2)
section
variable {X:Cx} {e:Expr} {te:TE} {lo hi:Option Expr} {tl th:TO} {pos p2:Pos}
theorem uM:PO X none Ao:=by
 intro pins s σ H Q I h
 rw [evalPart_none]
 exact wpAny_pure ⟨none,H,I,.none,h⟩
theorem fL (h:PE X e te):PO X (some e) (Qd te):=by
 intro pins s σ H Q I hw
 rw [evalPart_some]
 refine thn (h pins s σ H _ I hw) fun u s1 ⟨x,H1,I1,r1,q1⟩=>?_
 obtain ⟨i,rfl,q⟩:=q1
 obtain ⟨t,rfl⟩:=r1
 exact ⟨some i,H1,I1,.int i t,q⟩
noncomputable def SlR (X:Cx) (r:V->Option Int->Option Int->Hp->VK->Prop):Prop :=
 ∀ (pins:List (Addr × Obj)) (s:Shared) (σ:St) (H:Hp) (x:V) (v vl vu:Value) (lo hi:Option Int) (sl:Addr) (Q:VK),Inv X pins σ H s->RelV x v->s.heap.IsSliceOf sl vl vu .none->IsPart vl lo->IsPart vu hi->r x lo hi H Q ->
  ∃ T id,typeLookup (.type T) "__getitem__" = pure (some (.builtin id))/\s.TypeIs v T/\wpAny (model X.prog X.w) X.A (getItem v (.ref sl)) (EP X pins σ Q) X.xe s
noncomputable def tSl (r:V->Option Int->Option Int->Hp->VK->Prop) (te:TE) (tl th:TO):TE:=fun σ H Q=>te σ H fun x H1=>tl σ H1 fun l H2=>th σ H2 fun u H3=>r x l u H3 Q
theorem iM {r:V->Option Int->Option Int->Hp->VK->Prop} (hr:SlR X r) (he:PE X e te) (hl:PO X lo tl) (hu:PO X hi th):PE X (.Subscript e (.Slice lo hi none p2) pos) (tSl r te tl th):=by
 intro pins s σ H Q I h
 refine Subscript_ (thn (he pins s σ H _ I h) fun v s1 ⟨x,H1,I1,r1,q1⟩=>?_)
 refine wpAny_Slice (thn (hl pins s1 σ H1 _ I1 q1) fun vl s2 ⟨l,H2,I2,pl,q2⟩=>thn (hu pins s2 σ H2 _ I2 q2) fun vu s3 ⟨u,H3,I3,pu,q3⟩=>?_)
 rw [evalPart_none]
 refine wpAny_pure ?_
 have I4:Inv X pins σ H3 { s3 with heap:=s3.heap.push { cls:=.type "slice",data:=.fields #[vl,vu,.none] } }:=I3.kept (t':=s3.toks) fun b ob q=>aH _ q
 obtain ⟨T,id,hT,ht,hg⟩:=hr pins { s3 with heap:=s3.heap.push { cls:=.type "slice",data:=.fields #[vl,vu,.none] } } σ H3 x v vl vu l u s3.heap.objs.size Q I4 r1 (Heap.IsSliceOf.new ..) pl pu q3
 show wpAny (model X.prog X.w) X.A (subscriptTail e (.Slice lo hi none p2) v (.ref s3.heap.objs.size)) (EP X pins σ Q) X.xe { s3 with heap:=s3.heap.push { cls:=.type "slice",data:=.fields #[vl,vu,.none] } }
 exact tail_any (ops:=[.ref s3.heap.objs.size,v]) ht hT hg (by with_unfolding_all rfl)
noncomputable def gU (xs:List V) (lo hi:Option Int):List V:=(xs.drop (HT.sIx xs.length 0 lo)).take (HT.sIx xs.length xs.length hi - HT.sIx xs.length 0 lo)
theorem zT (xs:List V) (lo hi:Option Int):(gU xs lo hi).length <= xs.length:=by
 unfold gU
 rw [bh,List.length_drop]
 omega
end
end L2
namespace L2
open PySem PySem.Spec PyProof.Rows
noncomputable def ixN (n:Nat) (i:Int):Option Nat:=if 0 <= i then (if i < n then some i.toNat else none) else if -(n:Int) <= i then some (i + n).toNat else none
noncomputable def atI {α:Type} (xs:List α) (i:Int):Option α:=(ixN xs.length i).bind fun j=>xs[j]?
theorem Pa {n:Nat} {i:Int} {j:Nat} (h:ixN n i = some j):seqIndex? i n = some j/\j < n/\-(n:Int) <= i/\i < n:=by
 unfold ixN at h
 by_cases h0:0 <= i
 .rw [if_pos h0] at h
  by_cases h1:i < n
  .rw [if_pos h1] at h
   have e:i.toNat = j:=Option.some.inj h
   exact ⟨by rw [seqIndex_of h0 h1,e],by omega,by omega,h1⟩
  .rw [if_neg h1] at h; cases h
 .rw [if_neg h0] at h
  by_cases h1 : -(n:Int) <= i
  .rw [if_pos h1] at h
   have e:(i + n).toNat = j:=Option.some.inj h
   exact ⟨by rw [seqIndex_neg (by omega) h1,e],by omega,h1,by omega⟩
  .rw [if_neg h1] at h; cases h
theorem GF {α:Type} {xs:List α} {i:Int} {v:α} (h:atI xs i = some v):∃ j,seqIndex? i xs.length = some j/\xs[j]? = some v/\j < xs.length/\-(xs.length:Int) <= i/\i < xs.length:=by
 unfold atI at h
 cases e:ixN xs.length i with
 | none=>rw [e] at h; cases h
 | some j =>
  rw [e] at h
  obtain ⟨h1,h2,h3,h4⟩:=Pa e
  exact ⟨j,h1,h,h2,h3,h4⟩
theorem bU {α:Type} {xs:List α} {j:Nat} {v:α} (h:xs[j]? = some v):atI xs (j:Int) = some v:=by
 have hj:j < xs.length:=(ao.mp h).1
 have e:ixN xs.length (j:Int) = some j:=by
  unfold ixN
  rw [if_pos (by omega),if_pos (by omega)]; simp
 unfold atI; rw [e]; exact h
noncomputable def PJ (b:Expr):Prop:=∀ o i,subscripted b false o i = operate [o,i] (getItem o i)
noncomputable def IxR (X:Cx) (r:R2):Prop :=
 ∀ (value slice:Expr) (pins:List (Addr × Obj)) (s:Shared) (σ:St) (H:Hp) (x y:V) (v u:Value) (Q:VK),Inv X pins σ H s->RelV x v->RelV y u->r x y H Q ->
  subscripted slice false v u = operate [v,u] (getItem v u)->wpAny (model X.prog X.w) X.A (subscriptTail value slice v u) (EP X pins σ Q) X.xe s
noncomputable def MtR (X:Cx) (id:String) (r:V->List V->Hp->VK->Prop):Prop :=
 ∀ (pins:List (Addr × Obj)) (s:Shared) (σ:St) (H:Hp) (x:V) (xs:List V) (v:Value) (us:List Value) (Q:VK),Inv X pins σ H s->RelV x v->Vals xs us->r x xs H Q ->
  wpAny (model X.prog X.w) X.A (call (.builtin id) (v :: us)) (EP X pins σ Q) X.xe s
section
variable {X:Cx} {a b:Expr} {ta tb:TE} {pos:Pos}
theorem bR {r:R2} (hr:IxR X r) (ha:PE X a ta) (hb:PE X b tb) (hs:PJ b):PE X (.Subscript a b pos) (tOp r ta tb):=by
 intro pins s σ H Q I h
 exact Subscript_ (abJ ha hb I h fun v u s2 x y H2 I2 rx ry q=>hr a b pins s2 σ H2 x y v u Q I2 rx ry q (hs _ _))
noncomputable def ZX (K:Frag):R2:=fun x y H Q=>∃ p xs i v,x = .ref p/\y = .int i/\SqL K H p xs/\atI xs i = some v/\Q v H
noncomputable def Li (K:Frag):R2:=fun x y H Q=>∃ p xs i v,x = .ref p/\y = .int i/\SqT K H p xs/\atI xs i = some v/\Q v H
noncomputable def Zx:R2:=fun x y H Q=>∃ z i c,x = .str z/\y = .int i/\z.length <= sizeLine/\atI z.cps.toList i = some c/\Q (.str ⟨#[c]⟩) H
theorem ZD:IxR X (ZX X.K):=by
 intro value slice pins s σ H x y v u Q I rx ry h hs
 obtain ⟨p,xs,i,z,rfl,rfl,hq,he,q⟩:=h
 cases rx
 obtain ⟨t,rfl⟩:=ry
 obtain ⟨its,r,pl,hz⟩:=I.list hq
 obtain ⟨j,h1,h2,h3,h4,h5⟩:=GF he
 obtain ⟨w,ew,rw'⟩:=r.get h2
 have hl:=r.length
 have hn:=uf
 have fin:EP X pins σ Q w s:=⟨z,H,I,rw',q⟩
 by_cases h0:0 <= i
 .have hj:i.toNat = j:=by
   rw [seqIndex_of h0 h5] at h1
   exact Option.some.inj h1
  exact item_listR pl.isList h0 (by omega) (by rw [hj]; simpa using ew) fin hs
 .have hj:(i + (its.toArray.size:Int)).toNat = j:=by
   rw [seqIndex_neg (by omega) h4] at h1
   rw [aZ,<- hl]
   exact Option.some.inj h1
  exact subscriptTail_builtinR (x:=w) pl.isList.typeIs slot_list_getitem.lookup
   (wpAny_getItem_list_neg (Q:=fun r s'=>r = w/\EP X pins σ Q r s') pl.isList (by omega) (by rw [aZ] <;> omega) (by omega) (by rw [hj]; simpa using ew) ⟨rfl,fin⟩) hs
theorem eE:IxR X (Li X.K):=by
 intro value slice pins s σ H x y v u Q I rx ry h hs
 obtain ⟨p,xs,i,z,rfl,rfl,hq,he,q⟩:=h
 cases rx
 obtain ⟨t,rfl⟩:=ry
 obtain ⟨its,r,pl,hz⟩:=I.tuple hq
 obtain ⟨j,h1,h2,h3,h4,h5⟩:=GF he
 obtain ⟨w,ew,rw'⟩:=r.get h2
 have hl:=r.length
 have hn:=uf
 have fin:EP X pins σ Q w s:=⟨z,H,I,rw',q⟩
 exact subscriptTail_builtinR (x:=w) pl.typeIs slot_tuple_getitem.lookup
  (getItem_tuple (j:=j) (Q:=fun r s'=>r = w/\EP X pins σ Q r s') pl (by omega) (by omega) (by rw [aZ,<- hl]; exact h1) (by simpa using ew) ⟨rfl,fin⟩) hs
theorem Ou:IxR X Zx:=by
 intro value slice pins s σ H x y v u Q I rx ry h hs
 obtain ⟨z,i,c,rfl,rfl,hz,he,q⟩:=h
 obtain ⟨t,rfl⟩:=rx
 obtain ⟨t',rfl⟩:=ry
 obtain ⟨j,h1,h2,h3,h4,h5⟩:=GF he
 have hl:z.cps.toList.length = z.length:=by simp [Str.length]
 rw [hl] at h1 h4 h5
 have hn:=uf
 exact tail_any (typeIs_str s z t) slot_str_getitem.lookup (getItem_str (c:=c) (by
  have e1:decide (i < -(2 ^ 63:Int)) = false:=decide_eq_false (by omega)
  have e2:decide (i >= 2 ^ 63) = false:=decide_eq_false (by omega)
  rw [e1,e2,Bool.or_false]) (by rw [h1]; simpa using h2) ⟨.str ⟨#[c]⟩,H,I.tok _,⟨_,rfl⟩,q⟩) hs
theorem Nj (its:List Value) (n j:Nat) (u:Value):Obj.mapSeq (·.setIfInBounds j u) { cls:=.type "list",data:=.seq its.toArray n } = { cls:=.type "list",data:=.seq (its.set j u).toArray n }:=by
 simp [Obj.mapSeq]
theorem Inv.lst {pins:List (Addr × Obj)} {σ:St} {H:Hp} {s:Shared} {p:Addr} {xs:List V} (I:Inv X pins σ H s) (h:H p = some (.lst xs)) :
  ∃ (its:List Value) (n:Nat),Vals xs its/\s.heap.get? p = some { cls:=.type "list",data:=.seq its.toArray n }/\xs.length <= sizeLine:=by
 obtain ⟨z,its,n,r,e⟩:=I.hok p _ h
 exact ⟨its,n,r,e,z⟩
theorem Inv.lstUpd {pins:List (Addr × Obj)} {σ:St} {H:Hp} {s:Shared} {p:Addr} {xs ys:List V} {its its':List Value} {n n':Nat} {f:Obj->Obj} (I:Inv X pins σ H s) (h:H p = some (.lst xs))
  (ho:s.heap.get? p = some { cls:=.type "list",data:=.seq its.toArray n }) (hf:f { cls:=.type "list",data:=.seq its.toArray n } = { cls:=.type "list",data:=.seq its'.toArray n' }) (r:Vals ys its') (hz:ys.length <= sizeLine) (t:Nat) :
  Inv X pins σ (upd H p (.lst ys)) { s with heap:=s.heap.update p f,toks:=t }:=by
 have e:(s.heap.update p f).get? p = some { cls:=.type "list",data:=.seq its'.toArray n' }:=by
  rw [Heap.get?_update_self f ho (by rw [hf] <;> rfl),hf]
 refine I.write (x:=p) (e:=p) (by rw [h]; trivial) (.inl rfl) (fun b u hb q=>(Heap.get?_update_other _ _ (Ne.symm hb)).trans q) ⟨_,e⟩ ?_
 exact ⟨hz,its',n',r,e⟩
noncomputable def QM:V->V->V->Hp->(Hp->Prop)->Prop:=fun o i v H Q=>∃ p xs k j,o = .ref p/\i = .int k/\H p = some (.lst xs)/\ixN xs.length k = some j/\Q (upd H p (.lst (xs.set j v)))
theorem set_list:ady X QM:=by
 intro pins s σ H o i v ov iv u Q I ro ri rv h
 obtain ⟨p,xs,k,j,rfl,rfl,hp,hj,q⟩:=h
 cases ro
 obtain ⟨t,rfl⟩:=ri
 obtain ⟨its,n,r,ho,hz⟩:=I.lst hp
 obtain ⟨h1,h2,h3,h4⟩:=Pa hj
 have hl:=r.length
 have hn:=uf
 have I':Inv X pins σ (upd H p (.lst (xs.set j v))) { s with heap:=s.heap.update p (Obj.mapSeq (·.setIfInBounds j u)) } :=
  I.lstUpd hp ho (Nj its n j u) (r.set rv j) (by rw [List.length_set]; exact hz) s.toks
 by_cases h0:0 <= k
 .have hk:k.toNat = j:=by
   rw [seqIndex_of h0 h4] at h1
   exact Option.some.inj h1
  exact PySem.W.ki_setAt ho h0 (by omega) (by rw [aZ,<- hl]; exact h4) (by rw [hk]; exact ⟨_,I',q⟩)
 .have hk:(k + (its.toArray.size:Int)).toNat = j:=by
   rw [seqIndex_neg (by omega) h3] at h1
   rw [aZ,<- hl]
   exact Option.some.inj h1
  exact PySem.W.ki_setBack ho (by omega) (by rw [aZ,<- hl]; exact h3) (by omega) (by rw [hk]; exact ⟨_,I',q⟩)
theorem HD (lo hi:Option Int) (n:Nat):(sliceBounds lo hi none n).1 = ((HT.sIx n 0 lo:Nat):Int)/\(sliceBounds lo hi none n).2.1 = ((HT.sIx n n hi:Nat):Int)/\(sliceBounds lo hi none n).2.2 = 1:=by
 refine ⟨?_,?_,rfl⟩
 .cases lo with
  | none=>simp [sliceBounds,HT.sIx]
  | some i =>
   simp only [sliceBounds,HT.sIx,Option.getD_none,show (1:Int) > 0 by decide,if_true]
   by_cases h:i < 0
   .simp only [h,if_true] <;> omega
   .simp only [h,if_false] <;> omega
 .cases hi with
  | none=>simp [sliceBounds,HT.sIx]
  | some i =>
   simp only [sliceBounds,HT.sIx,Option.getD_none,show (1:Int) > 0 by decide,if_true]
   by_cases h:i < 0
   .simp only [h,if_true] <;> omega
   .simp only [h,if_false] <;> omega
theorem Eu (its:List Value) (lo hi:Option Int):slicePick its.toArray lo hi none = ((its.drop (HT.sIx its.length 0 lo)).take (HT.sIx its.length its.length hi - HT.sIx its.length 0 lo)).toArray:=by
 obtain ⟨h1,h2,h3⟩:=HD lo hi its.toArray.size
 unfold slicePick
 rw [h1,h2,h3]
 simp only [sliceRange_one,pick_run,aZ] <;> rfl
noncomputable def ZW (K:Frag):V->Option Int->Option Int->Hp->VK->Prop:=fun x lo hi H Q=>∃ a xs,x = .ref a/\SqL K H a xs/\∀ p,H p = none->Q (.ref p) (upd H p (.lst (gU xs lo hi)))
theorem qp:SlR X (ZW X.K):=by
 intro pins s σ H x v vl vu lo hi sl Q I rx hs pl pu h
 obtain ⟨a,xs,rfl,hx,q⟩:=h
 cases rx
 obtain ⟨its,r,ht,hz⟩:=I.list hx
 have hlen:=r.length
 refine ⟨"list",_,slot_list_getitem.lookup,ht.isList.typeIs,?_⟩
 refine wpAny_getItem_list_slice ht.isList hs pl pu .none (by simp) ?_ (by rw [aZ] <;> omega)
 rw [Eu,<- hlen]
 refine ⟨.ref s.heap.objs.size,_,I.laid (t':=s.toks) (o:=.lst (gU xs lo hi)) (fun b ob q=>aH _ q) (aG _) ?_,rfl,q _ (I.hok.fresh (aG _))⟩
 exact ⟨aM (zT xs lo hi) hz,_,0,(r.drop (HT.sIx xs.length 0 lo)).take (HT.sIx xs.length xs.length hi - HT.sIx xs.length 0 lo),aY _ rfl⟩
noncomputable def o8:V->Bool
 | .non=>true
 | .bl _=>true
 | .int _=>true
 | .str _=>true
 | _=>false
noncomputable def eqV:V->V->Bool
 | .non,.non=>true
 | .bl a,.bl b=>a == b
 | .bl a,.int b=>(if a then 1 else 0) == b
 | .int a,.bl b=>a == (if b then 1 else 0)
 | .int a,.int b=>a == b
 | .str a,.str b=>a == b
 | _,_=>false
theorem abr {A:Around} {s:Shared} {y x:V} {u v:Value} (ry:RelV y u) (rx:RelV x v) (fy:o8 y = true) (fx:o8 x = true):SeqAt.EqAt A s u v (eqV y x):=by
 cases y with
 | non =>
  cases ry
  cases x with
  | non=>cases rx; exact SeqAt.EqAt.same _
  | bl b=>cases rx; exact SeqAt.EqAt.none_bool b
  | int b=>obtain ⟨t,rfl⟩:=rx; exact SeqAt.EqAt.none_int b t
  | str b=>obtain ⟨t,rfl⟩:=rx; exact SeqAt.EqAt.none_str b t
  | _=>exact absurd (show false = true from fx) bB
 | bl a =>
  cases ry
  cases x with
  | non=>cases rx; exact SeqAt.EqAt.bool_none a
  | bl b=>cases rx; exact SeqAt.EqAt.bool_bool a b
  | int b=>obtain ⟨t,rfl⟩:=rx; exact SeqAt.EqAt.bool_int a b t
  | str b=>obtain ⟨t,rfl⟩:=rx; exact SeqAt.EqAt.bool_str a b t
  | _=>exact absurd (show false = true from fx) bB
 | int a =>
  obtain ⟨t',rfl⟩:=ry
  cases x with
  | non=>cases rx; exact SeqAt.EqAt.int_none a t'
  | bl b=>cases rx; exact SeqAt.EqAt.int_bool a t' b
  | int b=>obtain ⟨t,rfl⟩:=rx; exact SeqAt.EqAt.int_int a t' b t
  | str b=>obtain ⟨t,rfl⟩:=rx; exact SeqAt.EqAt.int_str a t' b t
  | _=>exact absurd (show false = true from fx) bB
 | str a =>
  obtain ⟨t',rfl⟩:=ry
  cases x with
  | non=>cases rx; exact SeqAt.EqAt.str_none a t'
  | bl b=>cases rx; exact SeqAt.EqAt.str_bool a t' b
  | int b=>obtain ⟨t,rfl⟩:=rx; exact SeqAt.EqAt.str_int a t' b t
  | str b=>obtain ⟨t,rfl⟩:=rx; exact SeqAt.EqAt.str_str a t' b t
  | _=>exact absurd (show false = true from fx) bB
 | _=>exact absurd (show false = true from fy) bB
theorem yd:eZ X (.builtin "len") (fun xs H Q=>∃ p ys,xs = [.ref p]/\(SqL X.K H p ys\/SqT X.K H p ys)/\Q (.int ys.length) H):=by
 intro pins s σ H xs us Q I r h
 obtain ⟨p,ys,rfl,hq,q⟩:=h
 obtain ⟨u,rfl,rx⟩:=vals1 r
 cases rx
 have hn:=uf
 rcases hq with hq | hq
 .obtain ⟨its,r',pl,hz⟩:=I.list hq
  have hlen:=r'.length
  exact Calls.call_len_list pl.isList (by simp only [aZ] <;> omega) ⟨.int ys.length,H,I.tok _,⟨s.toks + 1,by rw [aZ,hlen]⟩,q⟩
 .obtain ⟨its,r',pl,hz⟩:=I.tuple hq
  have hlen:=r'.length
  exact len_tuple pl (by simp only [aZ] <;> omega) ⟨.int ys.length,H,I.tok _,⟨s.toks + 1,by rw [aZ,hlen]⟩,q⟩
theorem Iw:eZ X (.builtin "len") (fun xs H Q=>∃ z,xs = [.str z]/\z.length <= sizeLine/\Q (.int z.length) H):=by
 intro pins s σ H xs us Q I r h
 obtain ⟨z,rfl,hz,q⟩:=h
 obtain ⟨u,rfl,t,rfl⟩:=vals1 r
 have hn:=uf
 exact len_str (by omega) ⟨.int z.length,H,I.tok _,⟨_,rfl⟩,q⟩
theorem eZ.or {f:Value} {r r':List V->Hp->VK->Prop} (h:eZ X f r) (h':eZ X f r'):eZ X f (fun xs H Q=>r xs H Q\/r' xs H Q):=by
 intro pins s σ H xs us Q I rs q
 rcases q with q | q
 .exact h pins s σ H xs us Q I rs q
 .exact h' pins s σ H xs us Q I rs q
theorem GK:eZ X (.type "list") (fun xs H Q=>∃ p ys,xs = [.ref p]/\(SqL X.K H p ys\/SqT X.K H p ys)/\∀ l,H l = none->Q (.ref l) (upd H l (.lst ys))):=by
 intro pins s σ H xs us Q I r h
 obtain ⟨p,ys,rfl,hq,q⟩:=h
 obtain ⟨u,rfl,rx⟩:=vals1 r
 cases rx
 have fin:∀ (its:List Value),Vals ys its->ys.length <= sizeLine->∀ (h':Heap) (c':Nat),(∀ b o',s.heap.get? b = some o'->h'.get? b = some o') ->
   h'.get? s.heap.objs.size = some { cls:=.type "list",dict:=none,data:=.seq its.toArray c',slots:=#[] }->EP X pins σ Q (.ref s.heap.objs.size) { s with heap:=h' }:=fun its r' hz h' c' kp e =>
  ⟨.ref s.heap.objs.size,_,I.laid (t':=s.toks) kp (aG _) (show dz X.prog X.w _ h' _ (.lst ys) from ⟨hz,its,c',r',e⟩),rfl,q _ (I.hok.fresh (aG _))⟩
 rcases hq with hq | hq
 .obtain ⟨its,r',pl,hz⟩:=I.list hq
  have hlen:=r'.length
  obtain ⟨o,ho,hc,n,hd⟩:=pl.isList
  exact call_list_seq p (.inl rfl) ho hc hd (fun h' c' kp e=>fin its r' hz h' c' kp e) (by simp only [aZ] <;> omega)
 .obtain ⟨its,r',pl,hz⟩:=I.tuple hq
  have hlen:=r'.length
  obtain ⟨o,ho,hc,n,hd⟩:=pl
  exact call_list_seq p (.inr rfl) ho hc hd (fun h' c' kp e=>fin its r' hz h' c' kp e) (by simp only [aZ] <;> omega)
theorem Eh:eZ X (.type "tuple") (fun xs H Q=>∃ p ys,xs = [.ref p]/\((SqL X.K H p ys/\∀ l,H l = none->Q (.ref l) (upd H l (.tup ys)))\/(SqT X.K H p ys/\Q (.ref p) H))):=by
 intro pins s σ H xs us Q I r h
 obtain ⟨p,ys,rfl,h⟩:=h
 obtain ⟨u,rfl,rx⟩:=vals1 r
 cases rx
 rcases h with ⟨hq,q⟩ | ⟨hq,q⟩
 .obtain ⟨its,r',pl,hz⟩:=I.list hq
  have hlen:=r'.length
  refine call_tuple_list pl.isList (fun h' kp=>?_) (by simp only [aZ] <;> omega)
  have I1:Inv X pins σ H { s with heap:=h' }:=I.kept (t':=s.toks) kp
  have I2:Inv X pins σ (upd H h'.objs.size (.tup ys)) { s with heap:=h'.push { cls:=.type "tuple",data:=.seq its.toArray } } :=
   I1.laid (t':=s.toks) (fun b o e=>aH _ e) (aG _) (show dz X.prog X.w _ _ _ (.tup ys) from ⟨hz,its,r',IsTup.new _ _⟩)
  exact ⟨.ref h'.objs.size,_,I2,rfl,q _ (I1.hok.fresh (aG _))⟩
 .obtain ⟨its,r',pl,hz⟩:=I.tuple hq
  exact call_tuple_same pl ⟨.ref p,H,I,rfl,q⟩
noncomputable def tyV (K:Frag) (T:String) (x:V) (H:Hp):Prop:=match x with
 | .str _=>T = "str"
 | .int _=>T = "int"
 | .ref p=>(T = "list" /\ ∃ xs,SqL K H p xs)\/(T = "tuple" /\ ∃ o,K.lookup p = some o/\o.cls = .type "tuple" /\ o.dict = none) \/
   (T = "dict" /\ (∃ kvs,H p = some (.dK kvs)))\/(T = "set" /\ ∃ S n,H p = some (.set S n))
 | _=>False
theorem Ua {pins:List (Addr × Obj)} {σ:St} {H:Hp} {s:Shared} {T:String} {x:V} {v:Value} (I:Inv X pins σ H s) (r:RelV x v) (ty:tyV X.K T x H) :
  s.TypeIs v T/\∀ a,v = .ref a->∃ ob,s.heap.get? a = some ob/\ob.dict = none:=by
 cases x with
 | str z =>
  obtain ⟨t,rfl⟩:=r
  cases (show T = "str" from ty)
  exact ⟨typeIs_str s z t,fun _ e=>nomatch e⟩
 | int i =>
  obtain ⟨t,rfl⟩:=r
  cases (show T = "int" from ty)
  exact ⟨typeIs_int s i t,fun _ e=>nomatch e⟩
 | ref p =>
  cases r
  rcases ty with ⟨rfl,xs,hq⟩ | ⟨rfl,o,hk,hc,hd⟩ | ⟨rfl,hk⟩ | ⟨rfl,S,n,hk⟩
  .obtain ⟨its,_,pl,_⟩:=I.list hq
   refine ⟨pl.isList.typeIs,fun a e=>?_⟩
   cases e
   obtain ⟨o,n,e,c,hd,_⟩:=pl
   exact ⟨o,e,hd⟩
  .refine ⟨⟨o,I.kIn p o hk,hc⟩,fun a e=>?_⟩
   cases e
   exact ⟨o,I.kIn _ o hk,hd⟩
  .have z:∃ o,s.heap.get? p = some o/\o.ExactDict:=by
    obtain ⟨kvs,hk⟩:=hk
    obtain ⟨_,_,_,_,o,_,_,e,ex,_⟩:=I.hok p _ hk
    exact ⟨o,e,ex⟩
   obtain ⟨o,e,ex⟩:=z
   refine ⟨⟨o,e,ex.1⟩,fun a e2=>?_⟩
   cases e2
   exact ⟨o,e,ex.2.1⟩
  .obtain ⟨o,_,_,_,e,ex,_⟩:=I.hok p _ hk
   refine ⟨⟨o,e,ex.1⟩,fun a e2=>?_⟩
   cases e2
   exact ⟨o,e,ex.2.1⟩
 | _=>exact False.elim ty
noncomputable def ags (K:Frag) (T:String) (r:V->List V->Hp->VK->Prop) (to:TE):TE:=fun σ H Q=>to σ H fun x H1=>tyV K T x H1/\r x [] H1 Q
noncomputable def tBM (K:Frag) (T:String) (r:V->List V->Hp->VK->Prop) (to:TE) (t:TA):TE:=fun σ H Q=>to σ H fun x H1=>tyV K T x H1/\t σ H1 fun xs H2=>r x xs H2 Q
variable {o e:Expr} {es:List Expr} {to:TE} {t:TA} {name:Str} {apos cpos:Pos} {T id:String} {r:V->List V->Hp->VK->Prop}
theorem aa9 (pa:PlainAttrs T) (slot:Slot T name id) (hty:typeOf (.builtin id) = pure (.type "method_descriptor")) (hm:MtR X id r) (ho:PE X o to)
  (hbase:attributeBase o name X.env (eval o X.env) = eval o X.env:=by rfl) (hline:(apos.endLine == cpos.line) = true:=by rfl):PE X (.Call (.Attribute o name apos) [] [] cpos) (ags X.K T r to):=by
 intro pins s σ H Q I h
 refine wpAny_Call_method0_late hbase hline (thn (ho pins s σ H _ I h) fun v s1 ⟨x,H1,I1,r1,ty,q1⟩=>?_)
 obtain ⟨h1,h2⟩:=Ua I1 r1 ty
 exact ⟨T,id,pa,slot,hty,h1,h2,Calls.callWith_builtin rfl (PySem.evalArgs_none (hm pins s1 σ H1 x [] v [] Q I1 r1 .nil q1))⟩
theorem Ug (pa:PlainAttrs T) (slot:Slot T name id) (hty:typeOf (.builtin id) = pure (.type "method_descriptor")) (hm:MtR X id r) (ho:PE X o to) (ha:PA X (e :: es) t)
  (hbase:attributeBase o name X.env (eval o X.env) = eval o X.env:=by rfl)
  (hfew:((backTo cpos (starEach (e :: es) X.env)).all (fun x=>!x.1) && (backToKw cpos (keywordEach [] X.env)).all (fun x=>x.1.isSome)
   && decide ((e :: es).length + ([] : List Keyword).length + (if ([] : List Keyword).isEmpty then 0 else 1) < 30)) = true:=by rfl)
  (hline:(apos.endLine == cpos.line) = true:=by rfl) (hs:starEach (e :: es) X.env = (false,eval e X.env) :: starEach es X.env:=by rfl) (hplain:(backTo cpos (starEach es X.env)).any (·.1) = false:=by rfl) :
  PE X (.Call (.Attribute o name apos) (e :: es) [] cpos) (tBM X.K T r to t):=by
 intro pins s σ H Q I h
 refine wpAny_Call_method_late hbase hfew hline rfl (thn (ho pins s σ H _ I h) fun v s1 ⟨x,H1,I1,r1,ty,q1⟩=>?_)
 obtain ⟨h1,h2⟩:=Ua I1 r1 ty
 refine ⟨T,id,pa,slot,hty,h1,h2,?_⟩
 have hA:=ha cpos pins s1 σ H1 _ I1 q1
 rw [hs] at hA ⊢
 refine Calls.callWith_builtin (by show (false || (backTo cpos (starEach es X.env)).any (·.1)) = false; rw [hplain] <;> rfl) (Calls.evalArgs_plain ?_)
 exact thn hA fun us s2 ⟨vs,H2,I2,r2,q2⟩=>hm pins s2 σ H2 x vs v us Q I2 r1 r2 q2
/- xs.append(e),list.index on a module's tuple .. are MtR facts of 06m -/
end
end L2
namespace L2
open PySem PySem.Spec PyProof.Rows
noncomputable def MtM (X:Cx) (id:String) (r:V->List V->Hp->VK->Prop):Prop :=
 ∀ (pins:List (Addr × Obj)) (s:Shared) (σ:St) (H:Hp) (x:V) (xs:List V) (v:Value) (us:List Value) (Q:VK),Inv X pins σ H s->RelV x v->Vals xs us->r x xs H Q ->
  wpAny (model X.prog X.w) X.A (call (.builtin id) (v :: us)) (EP X pins σ Q) X.xe s
theorem Vals.one:∀ {x:V} {us:List Value},Vals [x] us->∃ u,us = [u]/\RelV x u
 | _,_,.cons r .nil=>⟨_,rfl,r⟩
theorem Vals.two {x y:V} {us:List Value} (h:Vals [x,y] us):∃ u v,us = [u,v]/\RelV x u/\RelV y v:=by
 cases h with | cons r t=>cases t with | cons q t=>cases t; exact ⟨_,_,rfl,r,q⟩
theorem Vals.zero:∀ {us:List Value},Vals [] us->us = []
 | _,.nil=>rfl
theorem Vals.eraseIdx:∀ {xs:List V} {us:List Value} (i:Nat),Vals xs us->Vals (xs.eraseIdx i) (us.eraseIdx i)
 | _,_,_,.nil=>.nil
 | _,_,0,.cons _ t=>t
 | _,_,i + 1,.cons r t=>.cons r (Vals.eraseIdx i t)
theorem Vals.reverse {xs:List V} {us:List Value} (h:Vals xs us):Vals xs.reverse us.reverse:=by
 induction h with
 | nil=>exact .nil
 | cons r t ih=>rw [List.reverse_cons,List.reverse_cons]; exact Vals.append ih (.cons r .nil)
theorem FZ {α:Type} : ∀ (l:List α) (i:Nat),(l.eraseIdx i).length <= l.length
 | [],_=>aG _
 | _ :: _,0=>Nat.le_succ _
 | _ :: r,i + 1=>Nat.succ_le_succ (FZ r i)
section
variable {X:Cx} {pins:List (Addr × Obj)} {σ:St} {H:Hp} {s:Shared} {l b:Addr} {xs ys zs:List V}
theorem Inv.lset {its its':List Value} {n:Nat} {f:Array Value->Array Value} {t':Nat} (I:Inv X pins σ H s) (hH:H l = some (.lst xs))
  (e:s.heap.get? l = some { cls:=.type "list",data:=.seq its.toArray n }) (hf:f its.toArray = its'.toArray) (hv:Vals ys its') (hz:ys.length <= sizeLine) :
  Inv X pins σ (upd H l (.lst ys)) { s with heap:=s.heap.update l (Obj.mapSeq f),toks:=t' }:=by
 have q:=PySem.IsL.update e f
 rw [hf] at q
 refine I.write (x:=l) (e:=l) (by rw [hH]; exact trivial) (.inl rfl) (fun b' u hb hu=>(Heap.get?_update_other s.heap (Obj.mapSeq f) (Ne.symm hb)).trans hu) ⟨_,q⟩ ?_
 exact ⟨hz,its',_,hv,q⟩
theorem Inv.lnew {its:List Value} {t':Nat} (I:Inv X pins σ H s) (hv:Vals ys its) (hz:ys.length <= sizeLine) :
  Inv X pins σ (upd H s.heap.objs.size (.lst ys)) { s with heap:=s.heap.push { cls:=.type "list",data:=.seq its.toArray },toks:=t' } :=
 I.laid (fun _ _ q=>aH _ q) (aG _) ⟨hz,its,0,hv,aY _ rfl⟩
theorem Inv.fresh (I:Inv X pins σ H s):H s.heap.objs.size = none:=I.hok.fresh (aG _)
theorem Inv.lstM (I:Inv X pins σ H s) (hH:H l = some (.lst xs)):xs.length <= sizeLine/\∃ (its:List Value) (n:Nat),Vals xs its/\xs.length = its.length/\s.heap.get? l = some { cls:=.type "list",data:=.seq its.toArray n }:=by
 obtain ⟨z,its,n,r,e⟩:=I.hok l _ hH
 exact ⟨z,its,n,r,r.length,e⟩
end
section
variable {X:Cx}
noncomputable def Ym:V->List V->Hp->VK->Prop:=fun x vs H Q=>∃ l xs y,x = .ref l/\vs = [y]/\H l = some (.lst xs)/\xs.length < sizeLine/\Q .non (upd H l (.lst (xs ++ [y])))
theorem FP:MtM X "list.append" Ym:=by
 intro pins s σ H x vs v us Q I rx rv h
 obtain ⟨l,xs,y,rfl,rfl,hH,hz,q⟩:=h
 cases rx
 obtain ⟨u,rfl,ru⟩:=rv.one
 obtain ⟨z,its,n,r,hl,e⟩:=I.lstM hH
 refine call_meets F.slot_list_append ⟨_,e,rfl⟩ F.entry_list_append (F.args_list_append_2 _ _) (PySem.list_append l its.toArray n u (by rw [aZ]; omega)) ⟨e,?_⟩
 refine ⟨.non,_,I.lset (its':=its ++ [u]) hH e (by simp) (r.append (.cons ru .nil)) ?_,rfl,q⟩
 rw [aB,List.length_singleton]
 omega
noncomputable def Wa:V->List V->Hp->VK->Prop:=fun x vs H Q=>∃ l xs,x = .ref l/\vs = []/\H l = some (.lst xs)/\Q .non (upd H l (.lst xs.reverse))
theorem M8:MtM X "list.reverse" Wa:=by
 intro pins s σ H x vs v us Q I rx rv h
 obtain ⟨l,xs,rfl,rfl,hH,q⟩:=h
 cases rx
 have hus:=rv.zero
 subst hus
 obtain ⟨z,its,n,r,hl,e⟩:=I.lstM hH
 refine call_meets F.slot_list_reverse ⟨_,e,rfl⟩ F.entry_list_reverse (F.args_list_reverse_1 _) (AutoSeq1.list_reverse_list_0 l its.toArray n (by rw [aZ]; omega)) ⟨e,?_⟩
 refine ⟨.non,_,I.lset (its':=its.reverse) hH e (by simp) r.reverse ?_,rfl,q⟩
 rw [List.length_reverse]
 omega
noncomputable def YT:R2:=fun x y H Q=>∃ l b xs zs,x = .ref l/\y = .ref b/\H l = some (.lst xs)/\H b = some (.lst zs)/\xs.length + zs.length <= sizeLine/\∀ p,H p = none->Q (.ref p) (upd H p (.lst (xs ++ zs)))
theorem Nv:OpR X (binaryOp .Add) YT:=by
 intro pins s σ H x y v u Q I rx ry h
 obtain ⟨l,b,xs,zs,rfl,rfl,hH,hB,hz,q⟩:=h
 cases rx
 cases ry
 obtain ⟨z,its,n,r,hl,e⟩:=I.lstM hH
 obtain ⟨z2,its2,n2,r2,hl2,e2⟩:=I.lstM hB
 refine PySem.P.add_list e e2 ?_ (by rw [aZ,aZ]; omega)
 have ea:its.toArray ++ its2.toArray = (its ++ its2).toArray:=by simp
 rw [ea]
 exact ⟨.ref _,_,I.lnew (t':=s.toks) (r.append r2) (by rw [aB]; omega),rfl,q _ I.fresh⟩
theorem uH {pins:List (Addr × Obj)} {s:Shared} {σ:St} {H:Hp} {l:Addr} {xs:List V} {i:Int} {t:Tok} {k:Nat} {Q:Unit->Shared->Prop} (I:Inv X pins σ H s) (hH:H l = some (.lst xs))
  (h1 : -(2 ^ 63) <= i) (h2:i < 2 ^ 63) (hk:seqIndex? i xs.length = some k) (h:∀ s',Inv X pins σ (upd H l (.lst (xs.eraseIdx k))) s'->Q () s') :
  wpAny (model X.prog X.w) X.A (delItem (.ref l) (.int i t)) Q X.xe s:=by
 obtain ⟨z,its,n,r,hl,e⟩:=I.lstM hH
 refine PySem.P.delItem_list (k:=k) e (fitsIndex_both h1 h2) (by rw [aZ,<- hl]; exact hk) (h _ ?_) (by rw [aZ]; omega)
 refine I.lset (its':=its.eraseIdx k) (t':=s.toks) hH e ?_ (r.eraseIdx k) ?_
 .show its.toArray.eraseIdxIfInBounds k = (its.eraseIdx k).toArray
  rw [List.eraseIdxIfInBounds_toArray]
 .have:=FZ xs k
  omega
end
section
variable {prog:Program} {w:World} {A:Around} {E:Value->Shared->Prop} {s:Shared}
end
section
variable {X:Cx}
end
end L2
namespace Att
open PySem PySem.W PySem.Calls PyProof.Rows
theorem Aa {P:Params} {h:Heap} : ∀ (ns:List Int) (vs:List Value),WellAll P h vs (ns.map WData.int)->IntsAre vs ns:=by
 intro ns
 induction ns with
 | nil =>
  intro vs w
  rw [List.map_nil] at w
  cases w
  exact .nil
 | cons n ns ih =>
  intro vs w
  rw [List.map_cons] at w
  cases w with
  | cons a b =>
   cases a
   exact .cons _ _ (ih _ b)
theorem R5 {l:OpenLaw} {n:Nat} (hn:l.most = some n) {P:Params} {h:Heap} {args:List WData} {vals:List Value}
  (hpre:l.row.toRowW.claim.pre args = true) (hwl:WellAll P h vals args) :
  ∃ a vs ns,vals = [Value.ref a]/\args = [WData.list (ns.map WData.int)]/\h.get? a = some { cls:=.type "list",data:=.seq vs.toArray }/\IntsAre vs ns/\ns.length <= n:=by
 have hsh:WShape.hasAll [] args [.list .int] = true:=(pre_splitW hpre).1
 have hc:l.pre.holds [] { args:=args } = true:=(pre_splitW hpre).2
 obtain ⟨d,r,rfl,h1,h2⟩:=hasAllW_cons hsh
 obtain rfl:=hasAllW_nil h2
 obtain ⟨xs,rfl,h3⟩:=hasW_list h1
 obtain ⟨ns,rfl⟩:=items_int h3
 have hlen:ns.length <= n:=by
  unfold OpenLaw.pre at hc
  have h4:(WTm.not (.lt (.lit (.int (n:Int))) (.len (.arg 0)))).holds [] { args:=[.list (ns.map .int)] } = true:=by
   have h4:=(holds_andW hc).1
   rw [hn] at h4
   exact h4
  have h5:=condW_of h4 (w_not (w_lt w_lit (w_len_list (w_arg rfl))))
  rw [ak] at h5
  refine Nat.le_of_not_lt fun q=>?_
  have q':(n:Int) < ((ns.length:Nat):Int):=by omega
  first
   | (rw [decide_eq_true q'] at h5; exact absurd h5 (by decide))
   | (simp at h5; omega)
 cases hwl with
 | cons w1 w2 =>
  cases w2
  cases w1 with
  | list ho hall=>exact ⟨_,_,ns,rfl,rfl,ho,Aa ns _ hall,hlen⟩
theorem RP (l:OpenLaw) (args:List WData):l.row.toRowW.claim.post args (.bool true) args = true :=
 postW_of (r:=l.row.toRowW) (X:=(true == true))
  (show WShape.has [] (.bool true) .bool = true by first | rfl | decide | simp [WShape.has,WShape.arms,WShape.armsAll])
  (show (WTm.eq .res (.lit (.bool true))).value [] { args:=args,res:=some (.bool true),after:=args } = some (.bool (true == true)) from w_eq_bool (w_res rfl) w_lit) rfl
theorem KD {l:OpenLaw} {n:Nat} {q:Program} {loose:List Str} {XP:(Str->Option Value)->Heap->Prop} {YP:World->Heap->Prop} {d:DefRec}
  (hn:l.most = some n) (hdf:d.params.defaults = [])
  (call:∀ (w:World) (s₀ s₁:Shared) (mg mb:Str->Option Value) (fa:Addr) (o:Obj) (pm cd doc:Value) (a:Addr) (vs:List Value) (ns:List Int),
   Ground q loose [] XP w s₀ mg mb s₁.heap->YP w s₁.heap ->
   s₁.heap.get? fa = some o->o.data = .func (docDef d.name d.params d.body d.scope pm cd doc)->s₁.heap.CodeRec cd d.name->mg d.name = some (.ref fa) ->
   s₁.heap.get? a = some { cls:=.type "list",data:=.seq vs.toArray }->IntsAre vs ns->ns.length <= n->s₁.gens = #[] ->
   codeAny (model l.prog w) callerA (.call (.ref fa) ⟨[.ref a],[]⟩) (fun r s'=>r = .ok (.ret (.bool true))/\OldK s₁.heap s'.heap/\s'.os = s₁.os/\AllBare s'.gens) s₁) :
  WalkO q loose XP YP l.row.toRowW d [] (fun f vs=>PySem.call f vs):=by
 intro w s₀ s₁ mg mb G Y fa o pm cd doc dV kV ho hd hcd hD hmg hg args vals as hpre hlay hrd hwl hlo
 obtain rfl:dV = .none:=Dflts.none hD hdf
 obtain rfl:kV = .none:=Dflts.noKw hD
 obtain ⟨a,vs,ns,rfl,rfl,hobj,hints,hlen⟩:=R5 hn hpre hwl
 refine enter_call (codeAny_mono (call w s₀ s₁ mg mb fa o pm cd doc a vs ns G Y ho (fd_plain hd) hcd hmg hobj hints hlen hg) fun r s' hq=>?_)
 obtain ⟨rfl,h2,h3,h4⟩:=hq
 exact ⟨.inl ⟨.bool true,.bool true,[],rfl,fun _=>rfl,.bool true,RP l _,fun _=>⟨List.Pairwise.nil,fun _ hm=>(nomatch hm)⟩⟩,h2,h3,h4⟩
section
variable {prog:Program} {w:World} {A:Around} {E:Value->Shared->Prop} {s:Shared} {K:Frag}
end
end Att
namespace L2
open PySem PySem.Spec PyProof.Rows
theorem zx:∀ {vs:List Value} {ns:List Int},IntsAre vs ns->Vals (ns.map V.int) vs
 | _,_,.nil=>.nil
 | _,_,.cons n t h=>.cons ⟨t,rfl⟩ (zx h)
noncomputable def Only (H:Hp):Prop:=∀ b,H b = none\/∃ o xs,H b = some (.frz o (.lst xs))
theorem Vp {P:Program} {w:World} {K:Frag} {mg mb:Str->Option Value} {CX:CXT} {k:Nat} {fa a:Addr} {fd:FuncData} {x:Str} {sp:Sp} {s₁:Shared} {vs:List Value} {ns:List Int}
  (KX:K.In s₁.heap) (hns:s₁.heap.Ns mainGlobals mg) (hb:s₁.heap.Ns builtinsNs mb) (hbb:∀ x:Str,x ≠ "__name__" -> mb x = bootBuiltins x) (hlim:s₁.heap.NoLimit) (hg:s₁.gens = #[])
  (ha:s₁.heap.get? a = some { cls:=.type "list",data:=.seq vs.toArray }) (hi:IntsAre vs ns) (hl:ns.length <= sizeLine) (hr:gG k callerA)
  (F:∀ base:Heap,K.In base->base.Ns mainGlobals mg->cD P w K mg base CX k fa fd [x] sp) (hbind:∀ (s:Shared) (u:Value),BindsTo s fd ⟨[u],[]⟩ [(x,u)])
  (hsp:∀ H:Hp,Only H->SqL K H a (ns.map V.int)->sp [.ref a] H (fun v _=>v = .bl true) fun _ _ _=>False)
  (hCX:∀ H e s',CX [] H s₁ (fun _ _ _=>False) e s'->False) :
  codeAny (model P w) callerA (.call (.ref fa) ⟨[.ref a],[]⟩) (fun r s'=>r = .ok (.ret (.bool true))/\OldK s₁.heap s'.heap/\s'.os = s₁.os/\AllBare s'.gens) s₁:=by
 have rv:=zx hi
 have lenV:=hi.length
 -- from an abstract heap in which nothing but the script may be tracked
 have core:∀ H:Hp,Only H->SqL K H a (ns.map V.int)->HOk P w H s₁.heap->(∀ b,H b ≠ none->b = a)->(H a ≠ none->K.lookup a = none) ->
   codeAny (model P w) callerA (.call (.ref fa) ⟨[.ref a],[]⟩) (fun r s'=>r = .ok (.ret (.bool true))/\OldK s₁.heap s'.heap/\s'.os = s₁.os/\AllBare s'.gens) s₁:=by
  intro H hO hS hok hA hK
  have base_of:∀ {b:Addr} {o:Obj},s₁.heap.get? b = some o->H b = none->(Jc s₁.heap H).get? b = some o:=fun e n=>Uv e n
  have noA:∀ {b:Addr} {o:Obj} {es:Array DictEntry} {ep:Nat},s₁.heap.get? b = some o->o.data = .dict es ep->H b = none:=fun {b o es ep} e d=>by
   cases q:H b with
   | none=>rfl
   | some u =>
    have e':b = a:=hA b (by rw [q]; simp)
    subst e'
    rw [ha] at e; cases e
    have d':Data.seq vs.toArray _ = Data.dict es ep:=d
    cases d'
  have nsK:∀ {b:Addr} {m:Str->Option Value},s₁.heap.Ns b m->(Jc s₁.heap H).Ns b m:=fun {b m} ⟨o,es,ep,e,d,r⟩=>⟨o,es,ep,base_of e (noA e d),d,r⟩
  have hKb:K.In (Jc s₁.heap H):=fun b o e=>base_of (KX b o e) (by
   cases q:H b with
   | none=>rfl
   | some u =>
    have e':b = a:=hA b (by rw [q]; simp)
    subst e'
    rw [hK (by rw [q]; simp)] at e; cases e)
  have hM:Mod K mg (Jc s₁.heap H):=⟨hKb,nsK hns,⟨mb,nsK hb,hbb⟩,let ⟨mc,h1,h2⟩:=hlim; ⟨mc,nsK h1,h2⟩⟩
  have e0:MK P w K mg (Jc s₁.heap H) callerA [] s₁ H:=⟨rfl,hM,fun b o e=>ZP e,Nat.le_of_eq (RG _ _),trivial,fun b hb=>absurd (show b ∈ ([] : List Addr) from hb) (by simp),hok,.of_eq hg⟩
  refine codeAny_mono ((F _ hKb (nsK hns)).run callerA [] s₁ H ⟨[.ref a],[]⟩ [.ref a] [.ref a] _ _ hr e0 (hbind s₁ (.ref a)) (.cons rfl .nil) (hsp H hO hS)) fun r s' h=>?_
  cases r with
  | error e=>exact (hCX H e s' h).elim
  | ok fl =>
   cases fl with
   | next=>exact False.elim h
   | brk=>exact False.elim h
   | cont=>exact False.elim h
   | ret u =>
    obtain ⟨v,H',os,bare,un,hok',r',q⟩:=h
    have q':v = .bl true:=q
    subst q'
    obtain rfl:u = Value.bool true:=r'
    refine ⟨rfl,OldK.of_keep fun b o e=>?_,os,bare⟩
    cases q:H b with
    | none=>exact un.keep b o e q (by intro z; exact absurd (show b ∈ ([] : List Addr) from z) (by simp)) (by simp)
    | some u =>
     rcases hO b with z | ⟨ob,xs,z⟩
     .rw [q] at z; cases z
     .have z2:=un.frzs b ob _ z
      obtain ⟨e1,_⟩:=hok b _ z
      obtain ⟨e2,_⟩:=hok' b _ z2
      rw [e] at e1; cases e1
      exact e2
 cases hk:K.lookup a with
 | some o =>
  -- the script is one of the module's own objects
  have e:=KX a o hk
  rw [ha] at e
  cases e
  refine core (fun _=>none) (fun _=>.inl rfl) (.inr ⟨_,vs.toArray,_,hk,rfl,rfl,rfl,by rw [aZ,lenV]; exact hl,by simpa using rv⟩) (fun b u z=>by have z':(none:Option HO) = some u:=z; cases z') (fun b z=>absurd rfl z) fun z=>absurd rfl z
 | none =>
  refine core (fun b=>if b = a then some (.frz { cls:=.type "list",data:=.seq vs.toArray } (.lst (ns.map V.int))) else none) (fun b=>?_) (.inl (.inr ⟨{ cls:=.type "list",data:=.seq vs.toArray },if_pos rfl⟩)) (fun b u z=>?_) (fun b z=>?_) fun _=>hk
  .by_cases hb:b = a
   .exact .inr ⟨_,_,if_pos hb⟩
   .exact .inl (if_neg hb)
  .by_cases hb:b = a
   .have z':=(if_pos hb).symm.trans z
    cases z'
    subst hb
    exact ⟨ha,by rw [ak]; exact hl,vs,_,rv,ha⟩
   .have z':=(if_neg hb).symm.trans z
    cases z'
  .by_cases hb:b = a
   .exact hb
   .exact absurd (if_neg hb) z
end L2
namespace L2
open PySem PySem.Spec PyProof.Rows
noncomputable abbrev KOf {K:Frag} {h:Heap} (_:K.In h):Frag:=K
theorem QB {l:PySem.W.OpenLaw} {n k:Nat} {q:Program} {loose:List Str} {XP:(Str->Option Value)->Heap->Prop} {YP:World->Heap->Prop} {d:DefRec} {K:Params->Frag} {CX:World->CXT} {sp:World->Sp} {x:Str}
  (hn:l.most = some n) (hn2:n <= sizeLine) (hdf:d.params.defaults = []) (hr:gG k callerA)
  (hY:∀ (w:World) (h:Heap),YP w h->(K w.params).In h)
  (F:∀ (w:World) (mg:Str->Option Value) (fa:Addr) (h:Heap),(K w.params).In h->h.Ns mainGlobals mg->mg d.name = some (.ref fa) ->
   ∃ fd:FuncData,(∀ (s:Shared) (u:Value),BindsTo s fd ⟨[u],[]⟩ [(x,u)]) /\
    ∀ base:Heap,(K w.params).In base->base.Ns mainGlobals mg->cD l.prog w (K w.params) mg base (CX w) k fa fd [x] (sp w))
  (hsp:∀ (w:World) (H:Hp) (a:Addr) (ns:List Int),ns.length <= n->Only H->SqL (K w.params) H a (ns.map V.int)->sp w [.ref a] H (fun v _=>v = .bl true) fun _ _ _=>False)
  (hCX:∀ (w:World) (H:Hp) (s:Shared) (e:Value) (s':Shared),CX w [] H s (fun _ _ _=>False) e s'->False) :
  PySem.W.WalkO q loose XP YP l.row.toRowW d [] (fun f vs=>PySem.call f vs):=by
 refine Att.KD hn hdf fun w s₀ s₁ mg mb fa o pm cd doc a vs ns G Y ho hd hcd hmg hobj hints hlen hg=>?_
 have KX:=hY w _ Y
 obtain ⟨fd,hb,hF⟩:=F w mg fa _ KX G.T.g hmg
 exact Vp KX G.T.g G.T.b G.T.builtins G.T.nolimit hg hobj hints (aM hlen hn2) hr hF hb (fun H hO hS=>hsp w H a ns hlen hO hS) fun H e s'=>hCX w H s₁ e s'
end L2
/- THE LAST THEOREM (shape; LID,My.* are yours):
   My.Adr: a structure of the addresses that your layer names (classes,functions); My.Txt K t: a structure (Prop) of the equations over K;
   My.txt_mk : {K} {implicit addresses ..} (e1:nsIn K mainGlobals "law" = some (some (.ref f))) (e2:K.lookup f = some ⟨oc,od,.func (fnOf "law" "law" params body scope dV kV doc pm an cdv ct),sl⟩) (e3:codeIn K cdv "law" = true) .. : ∃ t,My.Txt K t
set_option maxRecDepth 100000 in
set_option maxHeartbeats 0 in
theorem PySem.Challenge.cw_LID_holds : PySem.Challenge.rw_LID.Holds := by
 w_on; o_law; k_head; (case hw=>w_witness2)
 k_fill
 refine L2.QB (l:=PySem.Challenge.rw_LID) (n:=63) (k:=40) (x := "script") (CX:=fun w=>..) (sp:=fun _=>My.afH) rfl (by decide) rfl ⟨rfl,by decide,by decide⟩ (fun w h Y=>PySem.W.kIn_of Y) ?F ?S ?C
 case F =>
  intro w mg fa h KX G hmg
  have T:∃ t,My.Txt (L2.KOf KX) t:=by
   dsimp only [L2.KOf]                          -- K must stand as «<heap const> w.params» for k_is
   refine' My.txt_mk ?e1 ?e2 ?e3 ..
   (case e1=>PySem.W.k_is)                    -- in the order: a name -> its address -> its object -> its parts
   (case e2=>PySem.W.k_is)
   ..
  obtain ⟨t,T⟩:=T
  have e0:=hmg.symm.trans (PySem.W.mg_of KX G T.law)
  cases e0                                       -- fa is the law's own address
  exact ⟨_,fun s u=>.of_eq rfl,fun base kb nb=>My.law_fn T kb nb⟩     -- if «.of_eq rfl» comes too early: refine' ⟨_,?b,fun base kb nb=>My.law_fn T kb nb⟩; exact fun s u=>.of_eq rfl
 case S=>exact fun w H a ns hl hO hS=>..
 case C=>exact ..
(the tactic k_is has no namespace: write k_is) -/
namespace L2
open PySem PySem.Spec PyProof.Rows
noncomputable abbrev CX0:CXT:=fun _ _ _ _ _ _=>False
noncomputable abbrev E0:XK:=fun _ _ _=>False
theorem Qc {X:Cx} : Passes CX0 X E0:=fun _ _ _ _ _ _ _ h=>h.elim
structure Fun (K:Frag) (x qual:Str) (st:Stmt) (f:Addr) (fd:FuncData):Prop where
 ex:∃ (oc:Value) (od:Option Addr) (kV doc pm:Value) (an:Option Addr) (cdv ct:Value) (osl:Array (Option Value)),
  fd = PySem.W.fnOf x qual (i_ st) (fM st) (bM st) .none kV doc pm an cdv ct/\K.lookup f = some ⟨oc,od,.func fd,osl⟩/\PySem.W.codeIn K cdv qual = true
 kp:PySem.W.keepIn K (.ref f) = true
section
variable {P:Program} {w:World} {K:Frag} {mg:Str->Option Value} {base:Heap}
theorem Fun.ok {x qual:Str} {st:Stmt} {f:Addr} {fd:FuncData} {N ps:List Str} {k:Nat} {sp:Sp} (F:Fun K x qual st f fd) (S:bY N ps (bM st)) (len:∀ vs H Q E,sp vs H Q E->vs.length = ps.length)
  (hbody:∀ (cdv:Value) (A:Around) (outer:List Env) (s:Shared) (H:Hp) (vs:List V) (Q:VK) (E:XK),gG k (A.deeper (envOfC qual (bM st) s.heap.objs.size f cdv))->sp vs H Q E ->
   ∃ t,PSs (Ca CX0 P w K mg base N qual (bM st) f cdv A outer s H E).nox (fM st) t/\t { nx:=fun _ H'=>Q .non H',rt:=Q } (start N vs) H):cD P w K mg base CX0 (k + 1) f fd ps sp:=by
 obtain ⟨oc,od,kV,doc,pm,an,cdv,ct,osl,rfl,lk,hcd⟩:=F.ex
 refine aax lk hcd S len fun A outer s H vs Q E hr hsp=>?_
 obtain ⟨t,h,q⟩:=hbody cdv A outer s H vs Q E hr hsp
 exact ⟨t,h.nox,q⟩
theorem Uu {x qual:Str} {st:Stmt} {f:Addr} {oc:Value} {od an:Option Addr} {osl:Array (Option Value)} {kV doc pm cdv ct:Value} (l:K.lookup f = some ⟨oc,od,.func (PySem.W.fnOf x qual (i_ st) (fM st) (bM st) .none kV doc pm an cdv ct),osl⟩)
  (c:PySem.W.codeIn K cdv qual = true) (k:PySem.W.keepIn K (.ref f) = true):Fun K x qual st f (PySem.W.fnOf x qual (i_ st) (fM st) (bM st) .none kV doc pm an cdv ct):=⟨⟨oc,od,kV,doc,pm,an,cdv,ct,osl,rfl,l,c⟩,k⟩
end
theorem vo {A:Around} {k:Nat} (hr:gG k A):A.units + 1 < cLine:=Nat.lt_of_le_of_lt (Nat.add_le_add_left (by decide:1 <= 64) _) hr.units
section
variable {X:Cx}
noncomputable def abK (sc:Scope) (x:Str):Bool:=(sc.names.lookup x).any fun k=>k == .local || k == .cell || k == .free
theorem abb {sc:Scope} {x:Str} (h:abK sc x = true):Vis sc x:=by
 unfold abK at h
 unfold Vis
 cases e:sc.names.lookup x with
 | none=>rw [e] at h; cases h
 | some k=>rw [e] at h; cases k <;> first | exact .inl rfl | exact .inr (.inl rfl) | exact .inr (.inr rfl) | cases h
theorem pv (i:Nat) {x:Str} {pos:Pos} (hN:X.N[i]? = some x:=by rfl) (hv:abK X.env.scope x = true:=by rfl) (hd:(x == ("__debug__" : Str)) = false:=by decide)
  (hcd:(x == ("__classdict__" : Str)) = false:=by decide):PE X (.Name x pos) (Df i):=ab0 hN (abb hv) hd hcd
end
theorem Yv {c A B:Prop} [Decidable c] (h1:c->A) (h2:¬ c->B):if c then A else B:=by
 by_cases h:c
 .rw [if_pos h]
  exact h1 h
 .rw [if_neg h]
  exact h2 h
noncomputable def Same (H H':Hp):Prop:=∀ b o,H b = some o->H' b = some o
theorem Same.refl (H:Hp):Same H H:=fun _ _ h=>h
theorem Same.trans {H H1 H2:Hp} (a:Same H H1) (b:Same H1 H2):Same H H2:=fun c o h=>b c o (a c o h)
theorem Same.free {H H':Hp} (e:Same H H') {l:Addr} (h:H' l = Option.none):H l = Option.none:=by
 cases q:H l with
 | none=>rfl
 | some o =>
  rw [e l o q] at h
  cases h
end L2
namespace L2
open PySem PySem.Spec PyProof.Rows
noncomputable def Bd (i:Int):Prop:=i.natAbs < 2 ^ 8000
theorem Bd.log2 {i:Int} (h:Bd i):i.natAbs.log2 < 8000:=by
 by_cases h0:i.natAbs = 0
 .rw [h0,Nat.log2_zero]; omega
 .exact (Nat.log2_lt h0).mpr h
theorem Bd.bits {i:Int} (h:Bd i):Builtin.Int.intBits i <= 2 ^ 20:=by
 have e:(2:Nat) ^ 20 = 1048576:=by decide
 have:=h.log2
 unfold Builtin.Int.intBits
 split
 .exact bw _
 .omega
section
variable {X:Cx}
theorem cM:OpR X (binaryOp .Mult) (rI (fun i j=>Bd i/\Bd j) fun i j=>.int (i * j)):=opI fun _ _ _ _ _ _ _ hc q=>mul_int q (.of_bits hc.1.bits hc.2.bits)
theorem j6:OpR X (binaryOp .FloorDiv) (rI (fun _ j=>j ≠ 0/\Bd j) fun i j=>.int (i.fdiv j)):=opI fun _ _ _ _ _ _ _ hc q=>floordiv_int hc.1 q (.inl (PyProof.noPylong_of_log2 (by have:=hc.2.log2; omega)))
theorem Lq:eZ X (.builtin "isinstance") (fun xs H Q=>∃ x c cv t b,xs = [x,c]/\((∃ T,c = .ty T/\cv = Value.type T)\/∃ C,c = .ref C/\cv = Value.ref C)/\zq X.K H x t/\PySem.W.kitOne X.K t cv = some b/\Q (.bl b) H):=by
 intro pins s σ H xs us Q I r h
 obtain ⟨x,c,cv,t,b,rfl,rc,ty,e,q⟩:=h
 obtain ⟨u,v,rfl,ru,rv⟩:=r.two
 have e2:v = cv:=by
  rcases rc with ⟨T,rfl,rfl⟩ | ⟨T,rfl,rfl⟩
  .exact rv
  .exact rv
 subst e2
 exact Te I ru ty e fun tk=>⟨.bl b,H,I.tok _,rfl,q⟩
theorem Lp:eZ X (.builtin "sorted") (fun xs H Q=>∃ l ns,xs = [.ref l]/\SqL X.K H l (ns.map V.int)/\ns.length < 64/\∀ (ms:List Int) p,H p = none->ms.Perm ns->ms.Pairwise (· <= ·)->Q (.ref p) (upd H p (.lst (ms.map V.int)))):=by
 intro pins s σ H xs us Q I r h
 obtain ⟨l,ns,rfl,hl,h64,q⟩:=h
 obtain ⟨u,rfl,ru⟩:=r.one
 cases ru
 obtain ⟨its,rv,p,hz⟩:=I.list hl
 have hI:=intsAre_of rv
 have hlen:its.length = ns.length:=by have:=rv.length; simpa using this.symm
 refine sorted_ints (vs:=its) p.isList hI (by omega) fun out ns' a1 a2 a3=>?_
 obtain ⟨e,he⟩:=sortedAll_at s.heap its out
 have hfr:H (s.heap.objs.size + 1) = none:=I.hok.fresh (Nat.le_succ _)
 refine ⟨.ref _,_,I.laid (a:=s.heap.objs.size + 1) (o:=.lst (ns'.map V.int)) (t':=s.toks) (fun b u e=>sortedAll_old e) (Nat.le_succ _) ?_,rfl,q ns' _ hfr a2 a3⟩
 refine ⟨?_,out.toList,e,zx a1,he⟩
 rw [ak,a2.length_eq]
 rw [ak] at hz
 exact hz
end
section
variable {prog:Program} {w:World} {A:Around} {E:Value->Shared->Prop} {s:Shared}
theorem Ft {it t:Addr} {items:Array Value} (hne:t ≠ it):∀ (n i:Nat) (s:Shared) (Q:List Value->Shared->Prop),s.heap.IsListIter it t i->PlainL s.heap t items->i + n <= items.size ->
  (∀ h',h'.IsListIter it t (i + n)->Heap.SameBut it s.heap h'->Q ((items.toList.drop i).take n) { s with heap:=h' })->wpAny (model prog w) A (draw (.ref it) n) Q E s
 | 0,i,s,Q,hit,_,_,hQ=>by
  show wpAny _ _ (pure []) Q E s
  exact wpAny_pure (by simpa using hQ s.heap hit (Heap.SameBut.refl ..))
 | n + 1,i,s,Q,hit,ht,hle,hQ=>by
  have hlt:i < items.size:=by omega
  show wpAny _ _ (pyNext (.ref it) >>= _) Q E s
  refine wpAny_bind (wpAny_pyNext_list_item hit ht.isList (x:=items[i]) (by simp [hlt]) fun h₁ hit₁ hs₁=>?_)
  have ht₁:PlainL h₁ t items:=by
   obtain ⟨o,k,e,r⟩:=ht
   exact ⟨o,k,(hs₁.2 t hne).trans e,r⟩
  refine wpAny_bind (wpAny_holding (Ft hne n (i + 1) _ _ hit₁ ht₁ (by omega) fun h₂ hit₂ hs₂=>wpAny_pure ?_))
  have hd:items.toList.drop i = items[i] :: items.toList.drop (i + 1):=by simp [List.drop_eq_getElem_cons,hlt]
  have:=hQ h₂ (by rw [show i + (n + 1) = i + 1 + n by omega]; exact hit₂) (hs₁.trans hs₂)
  rw [hd,List.take_succ_cons] at this
  exact this
theorem yV {t:Addr} {items:Array Value} {Q:List Value->Shared->Prop} (hh:A.handled = none) (ht:PlainL s.heap t items)
  (hQ:∀ h',Heap.ExtBut s.heap.objs.size s.heap h'->Q items.toList { s with heap:=h' }):wpAny (model prog w) A (unpackItems (.ref t) items.size none) Q E s:=by
 have hlt:t ≠ s.heap.objs.size:=by obtain ⟨o,_,ho,_⟩:=ht; exact aR (aK ho)
 unfold unpackItems
 refine wpAny_bind ?_
 .unfold notIterableAtAll
  refine wpAny_bind (wpAny_specialOf ht.isList.typeIs slot_list_iter.lookup ?_)
  refine wpAny_pure ?_
  simp only [Bool.false_eq_true,if_false]
  refine wpAny_bind (wpAny_holding (wpAny_pyIter_list ht.isList ?_))
  have ht0:PlainL (s.heap.push { cls:=.type "list_iterator",data:=.fields #[.ref t,.int 0 0] }) t items:=by
   obtain ⟨o,k,e,r⟩:=ht
   exact ⟨o,k,aH _ e,r⟩
  refine wpAny_bind (wpAny_holding (Ft hlt items.size 0 _ _ ⟨_,aY _ rfl,rfl,rfl⟩ ht0 (by omega) fun h₁ hit₁ hs₁=>?_))
  have hall:List.take items.size (List.drop 0 items.toList) = items.toList:=by
   rw [List.drop_zero]; exact aL (by simp)
  rw [hall]
  rw [if_neg (by simp)]
  have ht₁:PlainL h₁ t items:=by
   obtain ⟨o,k,e,r⟩:=ht0
   exact ⟨o,k,(hs₁.2 t hlt).trans e,r⟩
  refine wpAny_bind (wpAny_holding (wpAny_pyNext_list_end hh hit₁ ht₁.isList (by simp) fun h₂ he₂=>?_))
  simp only [Option.isSome_none,Bool.false_eq_true,if_false]
  refine wpAny_pure (hQ h₂ fun b o hb e=>he₂ b o hb (hs₁.extBut b o hb (aH _ e)))
theorem wZ {env:Env} {elts:List Expr} {x1} {pos:Pos} {t:Addr} {items:Array Value} {Q:Unit->Shared->Prop} (hh:A.handled = none) (ht:PlainL s.heap t items)
  (hn:(assignEach elts env).length = items.size) (hstar:(assignEach elts env).findIdx? (·.1) = none)
  (h:∀ h',Heap.ExtBut s.heap.objs.size s.heap h'->wpAny (model prog w) A (assignInOrder ((assignEach elts env).map (·.2)) items.toList) Q E { s with heap:=h' }) :
  wpAny (model prog w) A (assign (.Tuple elts x1 pos) env (.ref t)) Q E s:=by
 rw [assign_Tuple]
 refine wpAny_bind (wpAny_standAt ?_)
 unfold unpack
 rw [hn,hstar]
 exact wpAny_bind (wpAny_holding (yV hh ht h))
end
section
variable {X:Cx} {pos:Pos}
noncomputable def aeP (K:Frag) (n:Nat) (t:TGs):TG:=fun v σ H Q=>∃ a xs,v = .ref a/\SqL K H a xs/\xs.length = n/\t xs σ H Q
theorem ZL {es:List Expr} {k:Nat} {t:TGs} {n:Nat} (hc:X.calm = true) (h:PGs X es t)
  (hn:(assignEach es X.env).length = n:=by rfl) (hst:(assignEach es X.env).findIdx? (·.1) = none:=by rfl):PG X (.Tuple es k pos) (aeP X.K n t):=by
 intro pins s σ H v u Q I r hw
 obtain ⟨a,xs,e1,hq,hl,hw⟩:=hw
 subst e1
 cases r
 obtain ⟨its,rv,ht,hz⟩:=I.list hq
 refine wZ (I.ok.hd hc) ht (by simp [hn,<- hl,rv.length]) hst fun h' hx=>?_
 have I1:Inv X pins σ H { s with heap:=h' }:=I.kept (t':=s.toks) fun b o e=>hx b o (aR (aK e)) e
 exact h pins _ σ H xs _ Q I1 (by simpa using rv) hw
end
theorem dz.btw {P:Program} {w:World} {H H2 H':Hp} {h h':Heap} {a:Addr} {o:HO} (x:dz P w H h a o) (y:dz P w H' h' a o) (s1:Same H H2):dz P w H2 h' a o:=by
 induction o with
 | ins C dx fs=>exact ⟨s1 dx _ x.1,y.2⟩
 | frz ob u ih=>exact ⟨y.1,ih x.2 y.2⟩
 | _=>exact y
noncomputable def Plus (H H2:Hp):Prop:=Same H H2/\∀ a o,H2 a = some o->H a = some o\/(∃ xs,o = .tup xs)\/∃ xs,o = .lst xs
theorem Plus.refl (H:Hp):Plus H H:=⟨Same.refl H,fun _ _ e=>.inl e⟩
theorem Plus.tup {H H1:Hp} {p:Addr} {xs:List V} (h:Plus H H1) (hp:H1 p = none):Plus H (upd H1 p (.tup xs)):=by
 refine ⟨fun b o e=>?_,fun a o e=>?_⟩
 .rw [bI (bD (h.1 b o e) hp)]; exact h.1 b o e
 .by_cases z:a = p
  .subst z; rw [bH] at e; cases e; exact .inr (.inl ⟨xs,rfl⟩)
  .rw [bI z] at e; exact h.2 a o e
theorem cD.forget {P:Program} {w:World} {K:Frag} {mg:Str->Option Value} {base:Heap} {CX:CXT} {k:Nat} {f:Addr} {fd:FuncData} {ps:List Str} {sp sp':Sp} (F:cD P w K mg base CX k f fd ps sp)
  (hs:∀ vs H Q E,sp' vs H Q E->∃ Q',sp vs H Q' E/\∀ v H',Q' v H'->∃ H2,Plus H H2/\Same H2 H'/\Q v H2):cD P w K mg base CX k f fd ps sp':=by
 refine ⟨fun vs H Q E h=>?_,fun A outer s H args us vs Q E hr e0 hb r h=>?_⟩
 .obtain ⟨Q',h',_⟩:=hs vs H Q E h
  exact F.len vs H Q' E h'
 obtain ⟨Q',h',hq⟩:=hs vs H Q E h
 refine codeAny_mono (F.run A outer s H args us vs _ E hr e0 hb r h') fun res s' hs=>?_
 cases res with
 | error e=>exact hs
 | ok fl =>
  cases fl with
  | ret u =>
   obtain ⟨v,H',ho,hbr,un,hok,rv,q'⟩:=hs
   obtain ⟨H2,⟨s1,cl⟩,s2,q⟩:=hq v H' q'
   have fr:∀ b,H' b = none->H2 b = none:=fun b e=>s2.free e
   refine ⟨v,H2,ho,hbr,⟨un.keep,un.slot,fun b o e n hx=>fr b (un.free b o e n hx),un.there,fun b xs e=>s1 b _ e,fun b o u e=>s1 b _ e,fun b ps e=>⟨#[],by rw [s1 b _ e]; simp⟩⟩,fun a o e=>?_,rv,q⟩
   have z:=hok a o (s2 a o e)
   rcases cl a o e with c | ⟨xs,rfl⟩ | ⟨xs,rfl⟩
   .exact (e0.hok a o c).btw z s1
   .exact z
   .exact z
  | next=>exact hs
  | brk=>exact hs
  | cont=>exact hs
theorem cD.clean {P:Program} {w:World} {K:Frag} {mg:Str->Option Value} {base:Heap} {CX:CXT} {k:Nat} {f:Addr} {fd:FuncData} {ps:List Str} {sp sp':Sp} (F:cD P w K mg base CX k f fd ps sp)
  (h:∀ vs H Q E,sp' vs H Q E->sp vs H (fun v H'=>Same H H'/\Q v H) E):cD P w K mg base CX k f fd ps sp' :=
 F.forget fun vs H Q E hs=>⟨_,h vs H Q E hs,fun v H' ⟨s,q⟩=>⟨H,Plus.refl H,s,q⟩⟩
theorem Same.upd {H:Hp} {p:Addr} {o:HO} (hp:H p = none):Same H (upd H p o):=fun b u e=>by
 rw [bI (bD e hp)]; exact e
theorem cD.cleanP {P:Program} {w:World} {K:Frag} {mg:Str->Option Value} {base:Heap} {CX:CXT} {k:Nat} {f:Addr} {fd:FuncData} {ps:List Str} {sp sp':Sp} (F:cD P w K mg base CX k f fd ps sp)
  (h:∀ vs H Q E,sp' vs H Q E->sp vs H (fun v H'=>Same H H'/\∃ p xs,H' p = some (.tup xs)/\H p = none/\Q v (upd H p (.tup xs))) E):cD P w K mg base CX k f fd ps sp' :=
 F.forget fun vs H Q E hs=>⟨_,h vs H Q E hs,fun v H' ⟨s,p,xs,e,z,q⟩=>by
  refine ⟨_,(Plus.refl H).tup (xs:=xs) z,fun b o y=>?_,q⟩
  by_cases c:b = p
  .subst c; rw [bH] at y; cases y; exact e
  .rw [bI c] at y; exact s b o y⟩
section
variable {X:Cx}
theorem IxR.imp {r r':R2} (h:IxR X r) (i:∀ x y H Q,r' x y H Q->r x y H Q):IxR X r':=by
 intro b pos pins s σ H x y v u Q I rx ry q hs
 exact h _ _ _ _ _ _ _ _ _ _ _ I rx ry (i _ _ _ _ q) hs
noncomputable def QV:R2:=fun x y H Q=>∃ p xs i v,x = .ref p/\y = .int i/\H p = some (.tup xs)/\atI xs i = some v/\Q v H
noncomputable def J2:R2:=fun x y H Q=>∃ p xs i v,x = .ref p/\y = .int i/\H p = some (.lst xs)/\atI xs i = some v/\Q v H
theorem cG:IxR X QV:=eE.imp fun x y H Q ⟨p,xs,i,v,a,b,c,d⟩=>⟨p,xs,i,v,a,b,.of c,d⟩
theorem bO:IxR X J2:=ZD.imp fun x y H Q ⟨p,xs,i,v,a,b,c,d⟩=>⟨p,xs,i,v,a,b,.of c,d⟩
theorem dG {α:Type} {x:α} {xs:List α} : atI (x :: xs) 0 = some x:=bU (j:=0) rfl
theorem cX {α:Type} {x y:α} {xs:List α} : atI (x :: y :: xs) 1 = some y:=bU (j:=1) rfl
theorem eZ.imp {f:Value} {r r':List V->Hp->VK->Prop} (h:eZ X f r) (i:∀ xs H Q,r' xs H Q->r xs H Q):eZ X f r':=fun pins s σ H xs us Q I rx q=>h pins s σ H xs us Q I rx (i _ _ _ q)
noncomputable def Vo:List V->Hp->VK->Prop:=fun xs H Q=>∃ p ys,xs = [.ref p]/\H p = some (.tup ys)/\Q (.int ys.length) H
noncomputable def Q9:List V->Hp->VK->Prop:=fun xs H Q=>∃ p ys,xs = [.ref p]/\H p = some (.lst ys)/\Q (.int ys.length) H
theorem cJ:eZ X (.builtin "len") Q9:=yd.imp fun xs H Q ⟨p,ys,a,b,c⟩=>⟨p,ys,a,.inl (.of b),c⟩
noncomputable def tyS (H:Hp):V->Option String
 | .non=>some "NoneType"
 | .bl _=>some "bool"
 | .int _=>some "int"
 | .str _=>some "str"
 | .ref a=>match H a with
  | some (.lst _)=>some "list"
  | some (.tup _)=>some "tuple"
  | some (.dK _)=>some "dict"
  | _=>none
 | _=>none
theorem aaV {K:Frag} {H:Hp} {x:V} {t:String} (h:tyS H x = some t):zq K H x (.type t):=by
 cases x with
 | non=>cases h; exact .non
 | bl=>cases h; exact .bl _
 | int=>cases h; exact .int _
 | str=>cases h; exact .str _
 | byt=>cases h
 | flt=>cases h
 | ty=>cases h
 | ref a =>
  have h:(match H a with
   | some (.lst _)=>some "list"
   | some (.tup _)=>some "tuple"
   | some (.dK _)=>some "dict"
   | _=>none) = some t:=h
  split at h
  .cases h; exact .lst (by assumption)
  .cases h; exact .tup (by assumption)
  .cases h; exact .dK (by assumption)
  .cases h
noncomputable def Ke (t T:String):Bool:=(t == T) || (t == "bool" && T == "int")
theorem Qm {K:Frag} {t T:String} (ht:t ∈ ["NoneType", "bool", "int", "str", "list", "tuple", "dict"]) (hT:T ∈ ["bool", "int", "str", "list", "tuple", "dict"]):PySem.W.kitOne K (.type t) (.type T) = some (Ke t T):=by
 simp only [List.mem_cons,List.not_mem_nil,or_false] at ht hT
 rcases ht with rfl | rfl | rfl | rfl | rfl | rfl | rfl <;> rcases hT with rfl | rfl | rfl | rfl | rfl | rfl <;> with_unfolding_all rfl
theorem Ul {H:Hp} {x:V} {t:String} (h:tyS H x = some t):t ∈ ["NoneType", "bool", "int", "str", "list", "tuple", "dict"]:=by
 cases x with
 | non=>cases h; decide
 | bl=>cases h; decide
 | int=>cases h; decide
 | str=>cases h; decide
 | byt=>cases h
 | flt=>cases h
 | ty=>cases h
 | ref a =>
  have h:(match H a with
   | some (.lst _)=>some "list"
   | some (.tup _)=>some "tuple"
   | some (.dK _)=>some "dict"
   | _=>none) = some t:=h
  split at h <;> cases h <;> decide
noncomputable def Yw:List V->Hp->VK->Prop:=fun xs H Q=>∃ x T t,xs = [x,.ty T]/\T ∈ ["bool", "int", "str", "list", "tuple", "dict"]/\tyS H x = some t/\Q (.bl (Ke t T)) H
theorem lM:eZ X (.builtin "isinstance") Yw:=Lq.imp fun xs H Q ⟨x,T,t,a,b,c,d⟩=>⟨x,.ty T,.type T,.type t,_,a,.inl ⟨T,rfl,rfl⟩,aaV c,Qm (Ul c) b,d⟩
theorem PG.imp {e:Expr} {t t':TG} (h:PG X e t) (i:∀ v σ H Q,t' v σ H Q->t v σ H Q):PG X e t':=fun pins s σ H v u Q I r q=>h pins s σ H v u Q I r (i _ _ _ _ q)
noncomputable def QF (n:Nat) (t:TGs):TG:=fun v σ H Q=>∃ a xs,v = .ref a/\H a = some (.tup xs)/\xs.length = n/\t xs σ H Q
noncomputable def Qi (n:Nat) (t:TGs):TG:=fun v σ H Q=>∃ a xs,v = .ref a/\H a = some (.lst xs)/\xs.length = n/\t xs σ H Q
theorem eY {es:List Expr} {k:Nat} {t:TGs} {n:Nat} {pos:Pos} (hc:X.calm = true) (h:PGs X es t) (hn:(assignEach es X.env).length = n:=by rfl) (hst:(assignEach es X.env).findIdx? (·.1) = none:=by rfl):PG X (.Tuple es k pos) (QF n t) :=
 (ab4 hc h hn hst).imp fun v σ H Q ⟨a,xs,e1,e2,e3⟩=>⟨a,xs,e1,.of e2,e3⟩
theorem Yc {es:List Expr} {k:Nat} {t:TGs} {n:Nat} {pos:Pos} (hc:X.calm = true) (h:PGs X es t) (hn:(assignEach es X.env).length = n:=by rfl) (hst:(assignEach es X.env).findIdx? (·.1) = none:=by rfl):PG X (.Tuple es k pos) (Qi n t) :=
 (ZL hc h hn hst).imp fun v σ H Q ⟨a,xs,e1,e2,e3⟩=>⟨a,xs,e1,.of e2,e3⟩
noncomputable def Qx:List V->Hp->VK->Prop:=fun xs H Q=>∃ l ns,xs = [.ref l]/\H l = some (.lst (ns.map V.int))/\ns.length < 64/\∀ (ms:List Int) p,H p = none->ms.Perm ns->ms.Pairwise (· <= ·)->Q (.ref p) (upd H p (.lst (ms.map V.int)))
theorem Rh:eZ X (.builtin "sorted") Qx:=Lp.imp fun xs H Q ⟨l,ns,a,b,c⟩=>⟨l,ns,a,.of b,c⟩
theorem JC {H:Hp} : tyS H .non = some "NoneType" := rfl
theorem Nu {H:Hp} {b:Bool} : tyS H (.bl b) = some "bool" := rfl
theorem wW {H:Hp} {i:Int} : tyS H (.int i) = some "int" := rfl
theorem Io {H:Hp} {x:Str} : tyS H (.str x) = some "str" := rfl
theorem nq {H:Hp} {p:Addr} {xs:List V} (h:H p = some (.lst xs)):tyS H (.ref p) = some "list" := by
 show (match H p with
   | some (.lst _)=>some "list"
   | some (.tup _)=>some "tuple"
   | some (.dK _)=>some "dict"
   | _=>none) = _
 rw [h]
noncomputable def Nq:V->Option Bool
 | .bl b=>some b
 | .int i=>some (i != 0)
 | .non=>some false
 | _=>none
theorem Z1 {K:Frag} {x:V} {H:Hp} {k:Bool} (h:Nq x = some k):ado K x H k:=by
 cases x <;> cases h <;> rfl
noncomputable def Rn (ta:TE):TT:=fun σ H Q=>ta σ H fun x H'=>∃ k,Nq x = some k/\Q k H'
theorem dD {a:Expr} {ta:TE} (ha:PE X a ta) (he:∀ whole,isTrue a X.env whole = (do let v <- whole; standAt a.pos; holding [v] (truthy v))):PT X a (Rn ta):=by
 intro pins s σ H Q I h
 exact isTrue_plain (thn (ha pins s σ H _ I h) fun v s1 ⟨x,H1,I1,r1,k,e,q1⟩=>aa7 pins s1 σ H1 x v Q I1 r1 ⟨k,Z1 e,q1⟩) (he _)
end
section
variable {X:Cx} {st:Stmt} {rest:List Stmt} {t u:TS}
end
noncomputable def OkF (P:Program) (w:World) (K:Frag) (mg:Str->Option Value) (base:Heap) (k:Nat) (x:Str) (ps:List Str) (sp:Sp):Prop :=
 ∃ f fd,cD P w K mg base CX0 k f fd ps sp/\Binds K fd ps []/\mg x = some (.ref f)/\PySem.W.keepIn K (.ref f) = true
noncomputable def dB (K:Frag) (mg:Str->Option Value) (x:Str) (st:Stmt) (ps:List Str):Prop :=
 ∃ f fd,Fun K x x st f fd/\(∀ us:List Value,us.length = ps.length->bindArgs fd ⟨us,[]⟩ = pure (ps.zip us))/\mg x = some (.ref f)
theorem dB.ok {P:Program} {w:World} {K:Frag} {mg:Str->Option Value} {base:Heap} {k:Nat} {x:Str} {st:Stmt} {ps:List Str} {sp:Sp} (h:dB K mg x st ps)
  (hf:∀ f fd,Fun K x x st f fd->cD P w K mg base CX0 k f fd ps sp):OkF P w K mg base k x ps sp:=by
 obtain ⟨f,fd,a,b,c⟩:=h
 exact ⟨f,fd,hf f fd a,.all b,c,a.kp⟩
theorem Zb {K:Frag} {h:Heap} {mg:Str->Option Value} {x:Str} {st:Stmt} {ps:List Str} {f:Addr} {oc:Value} {od an:Option Addr} {osl:Array (Option Value)} {kV doc pm cdv ct:Value} (X:K.In h) (G:h.Ns mainGlobals mg)
  (a:PySem.W.nsIn K mainGlobals x = some (some (.ref f))) (l:K.lookup f = some ⟨oc,od,.func (PySem.W.fnOf x x (i_ st) (fM st) (bM st) .none kV doc pm an cdv ct),osl⟩)
  (c:PySem.W.codeIn K cdv x = true) (k:PySem.W.keepIn K (.ref f) = true)
  (hb:∀ (kV doc pm:Value) (an:Option Addr) (cdv ct:Value) (us:List Value),us.length = ps.length->bindArgs (PySem.W.fnOf x x (i_ st) (fM st) (bM st) .none kV doc pm an cdv ct) ⟨us,[]⟩ = pure (ps.zip us)):dB K mg x st ps :=
 ⟨f,_,Uu l c k,hb kV doc pm an cdv ct,PySem.W.mg_of X G a⟩
noncomputable def Pk (K:Frag):Sp:=fun vs H Q _=>∃ (a:Addr) (ns:List Int),vs = [.ref a]/\SqL K H a (ns.map V.int)/\ns.length <= 63/\Only H/\∀ H',Q (.bl true) H'
theorem acr {l:PySem.W.OpenLaw} {k:Nat} {x:Str} {q:Program} {loose:List Str} {XP:(Str->Option Value)->Heap->Prop} {YP:World->Heap->Prop} {d:DefRec} {K:Params->Frag} (hn:l.most = some 63) (hdf:d.params.defaults = [])
  (hr:gG k callerA) (hY:∀ (w:World) (h:Heap),YP w h->(K w.params).In h)
  (F:∀ (w:World) (mg:Str->Option Value) (fa:Addr) (h:Heap),(K w.params).In h->h.Ns mainGlobals mg->mg d.name = some (.ref fa) ->
   ∃ st,dB (K w.params) mg d.name st [x]/\∀ (base:Heap) (f:Addr) (fd:FuncData),Fun (K w.params) d.name d.name st f fd->cD l.prog w (K w.params) mg base CX0 k f fd [x] (Pk (K w.params))) :
  PySem.W.WalkO q loose XP YP l.row.toRowW d [] (fun f vs=>PySem.call f vs):=by
 refine L2.QB (n:=63) (k:=k) (x:=x) (CX:=fun _=>CX0) (sp:=fun w=>Pk (K w.params)) hn (by decide) hdf hr hY (fun w mg fa h KX G hmg=>?_) (fun _ _ a ns hl hO hS=>⟨a,ns,rfl,hS,hl,hO,fun _=>rfl⟩) fun _ _ _ _ _ z=>z
 obtain ⟨st,⟨f,fd,hf,hb,hm⟩,ok⟩:=F w mg fa h KX G hmg
 rw [hm] at hmg
 have e:f = fa:=by injection hmg with z; injection z
 subst e
 exact ⟨fd,fun s u=>.of_eq (hb [u] rfl),fun base _ _=>ok base f fd hf⟩
section
variable {X:Cx} {p pos:Pos} {e:Expr} {es:List Expr} {t:TA} {x:Str} {k:Nat} {ps:List Str} {sp:Sp}
noncomputable def yM (sp:Sp) (t:TA):TE:=fun σ H Q=>t σ H fun vs H1=>sp vs H1 Q E0
theorem bN (G:OkF X.prog X.w X.K X.mg X.base k x ps sp) (hr:gG k X.A) (hg:Gl X x) (ha:PA X (e :: es) t) (hdb:(x == ("__debug__" : Str)) = false:=by decide)
  (he:starEach (e :: es) X.env = (false,eval e X.env) :: starEach es X.env:=by rfl) (hpl:(backTo pos (starEach es X.env)).any (·.1) = false:=by rfl):PE X (.Call (.Name x p) (e :: es) [] pos) (yM sp t):=by
 obtain ⟨f,fd,F,b,hm,kp⟩:=G
 intro pins s σ H Q I h
 refine YQ F hr hg hm kp b .nil Qc ha hdb he hpl pins s σ H Q I ?_
 show t σ H fun vs H1=>sp (vs ++ []) H1 Q E0
 simp only [List.append_nil]
 exact h
end
theorem G7 (a:Int):(if a < 0 then -a else a) = ((a.natAbs:Nat):Int):=by split <;> omega
theorem V3 {ms:List Int} {x y:Int} (h:ms.Perm [x,y]):ms = [x,y]\/ms = [y,x]:=by
 match ms,h.length_eq with
 | [l,k],_ =>
  have h1:l ∈ [x,y]:=h.mem_iff.mp (by simp)
  simp only [List.mem_cons,List.not_mem_nil,or_false] at h1
  rcases h1 with rfl | rfl
  .have h2:=(List.perm_cons l).mp h
   have h3:=h2.mem_iff.mp (aO)
   simp only [List.mem_cons,List.not_mem_nil,or_false] at h3
   exact .inl (by rw [h3])
  .have h2:=(List.perm_cons l).mp (h.trans (List.Perm.swap ..))
   have h3:=h2.mem_iff.mp (aO)
   simp only [List.mem_cons,List.not_mem_nil,or_false] at h3
   exact .inr (by rw [h3])
theorem wB (a b:Nat):Int.fmod (a:Int) (b:Int) = ((a % b:Nat):Int):=by
 rw [aX _ (Int.natCast_nonneg b)]; rfl
theorem oO (a:Int) {b:Int} (h:0 < b):Int.fdiv a b = a / b:=Int.fdiv_eq_ediv_of_nonneg a (Int.le_of_lt h)
theorem Bd.div {a b:Int} (h:Bd a) (hb:0 < b):Bd (a / b):=by
 unfold Bd at *
 refine Nat.lt_of_le_of_lt ?_ h
 have e:=Int.mul_ediv_add_emod a b
 have r0:=Int.emod_nonneg a (show b ≠ 0 by omega)
 have r1:=Int.emod_lt_of_pos a hb
 generalize a / b = q at *
 generalize a % b = r at *
 rcases (by omega:q = 0\/1 <= q\/q <= -1) with z | z | z
 .subst z; simp
 .have:=Int.mul_le_mul_of_nonneg_right (show 1 <= b by omega) (show 0 <= q by omega)
  omega
 .have h1:b * (q + 1) <= 1 * (q + 1):=Int.mul_le_mul_of_nonpos_right (show 1 <= b by omega) (show q + 1 <= 0 by omega)
  rw [Int.mul_add] at h1
  omega
end L2
namespace L2
open PySem PySem.Spec PyProof.Rows
noncomputable def TrD (h base:Heap) (e:Addr) (cls:Value) (d:Option Addr) (fl:Value):Prop :=
 ∃ oe vs T oT ts,h.get? e = some oe/\(oe.cls = cls/\oe.dict = d)/\oe.data = .fields vs/\vs[1]? = some (.ref T)/\base.get? T = none/\T ≠ e/\h.get? T = some oT/\oT.data = .fields ts/\ts[3]? = some fl
noncomputable def qy (base:Heap) (l:List Env) (e:Addr) (cls:Value) (d:Option Addr) (fl:Value) (h:Heap):Prop :=
 base.StaysIn h/\base.get? e = none/\h.FunFrames base l/\TrD h base e cls d fl
theorem qy.first {base h:Heap} {l:List Env} {e:Addr} {cls fl:Value} {d:Option Addr} (x:qy base l e cls d fl h):∃ oe vs,h.get? e = some oe/\oe.cls = cls/\oe.dict = d/\oe.data = .fields vs :=
 let ⟨_,_,_,oe,vs,_,_,_,he,hc,hd,_⟩:=x; ⟨oe,vs,he,hc.1,hc.2,hd⟩
section
variable {M:Model} {A:Around} {E:Value->Shared->Prop} {s:Shared} {base:Heap} {env:Env} {outer l:List Env} {L e:Addr} {cls:Value} {d:Option Addr} {Q:Unit->Shared->Prop}
theorem Di (o:Obj) (f:Array Value->Array Value):(Obj.mapFields f o).dict = o.dict:=by
 unfold Obj.mapFields
 split <;> rfl
theorem UL {oe:Obj} {vs:Array Value} {head:Value} {hadNext:Bool} (hfr:A.frames = some (env :: outer)) (hl:s.heap.FunFrames base (env :: outer)) (hf:env.frame = some L) (he:s.heap.get? e = some oe)
  (hkb:base.StaysIn s.heap) (hen:base.get? e = none) (hd:oe.data = .fields vs) (hsz:1 < vs.size) (h:∀ h',qy base (env :: outer) e oe.cls oe.dict (rawInt L) h'->s.heap.UpToSlots h'->Q () { s with heap:=h' }) :
  wpAny M A (do let a <- frameOf env; let pl <- entryPlaceOf L hadNext; let b <- EntryCells.newEntry head a .none (rawInt L) .none pl; setField (.ref e) 1 b) Q E s:=by
 have nofr:e ∉ (env :: outer).filterMap (·.frame):=fun z=>by
  obtain ⟨_,o,ho,hnf⟩:=hl.mem z
  rw [he] at ho; cases ho; exact hnf vs hd
 refine wpAny_bind (wpAny_frameOf_fun hfr hl hf fun g hg=>wpAny_bind (wpAny_entryPlaceOf fun pl hpl=>?_))
 unfold EntryCells.newEntry newFields
 refine wpAny_bind (wpAny_newObj_type ?_ (hpl.sizeOk5 _ _ _ _ _))
 have eg:g.get? e = some oe:=(hg.2.1 e nofr).trans he
 have kg:base.StaysIn g:=fun b o q=>(hg.2.1 b fun z=>by rw [(hl.mem z).1] at q; cases q).trans (hkb b o q)
 generalize ho':({ cls:=.type "traceback",dict:=none,data:=.fields ([head,.ref L,.none,rawInt L,.none] ++ (if pl.isEmpty then List.replicate 6 Value.none else pl)).toArray } : Obj) = ot
 have nTe:g.objs.size ≠ e:=Nat.ne_of_gt (aK eg)
 have e2:(g.push ot).get? e = some oe:=aH _ eg
 refine wpAny_setField e2 hd hsz (h _ ?_ ?_)
 all_goals
  have d3:=Obj.data_mapFields hd (·.setIfInBounds 1 (Value.ref g.objs.size))
  have e3:=Heap.get?_update_self (Obj.mapFields (·.setIfInBounds 1 (Value.ref g.objs.size))) e2 (Obj.isFreed_of_fields d3)
  have keep:∀ b o,b ≠ e->g.get? b = some o->((g.push ot).update e (Obj.mapFields (·.setIfInBounds 1 (Value.ref g.objs.size)))).get? b = some o:=fun b o nb q=>by
   rw [Heap.get?_update_other _ _ (Ne.symm nb)]; exact aH _ q
  have nr:∀ b o,s.heap.get? b = some o->(∀ ws,o.data ≠ .fields ws)->b ≠ e:=fun b o q nf z=>by
   rw [z,he] at q; cases q; exact nf vs hd
 .refine ⟨fun b o q=>keep b o (fun z=>by rw [z,hen] at q; cases q) (kg b o q),hen,hl.of_keeps fun b o q nf=>?_,?_⟩
  .obtain ⟨sl,z⟩:=hg.2.2 b o q
   exact ⟨_,keep b _ (nr b o q nf) z,rfl⟩
  .refine ⟨_,_,g.objs.size,ot,_,e3,⟨Obj.cls_mapFields _ _,Di _ _⟩,d3,by simp [hsz],kg.fresh,nTe,?_,by rw [<- ho'],?_⟩
   .rw [Heap.get?_update_other _ _ (Ne.symm nTe)]; exact aY g (by rw [<- ho']; rfl)
   .first | (simp; done) | (rcases hpl with rfl | ⟨_,_,_,_,_,_,_,rfl⟩ <;> simp)
 .intro b o q nf
  obtain ⟨sl,z⟩:=hg.2.2 b o q
  exact ⟨sl,keep b _ (nr b o q nf) z⟩
theorem Mz {oe:Obj} {vs:Array Value} (hfr:A.frames = some (env :: outer)) (hl:s.heap.FunFrames base (env :: outer)) (hf:env.frame = some L) (he:s.heap.get? e = some oe)
  (hkb:base.StaysIn s.heap) (hen:base.get? e = none) (hd:oe.data = .fields vs) (h1:vs[1]? = some .none) (h:∀ h',qy base (env :: outer) e oe.cls oe.dict (rawInt L) h'->s.heap.UpToSlots h'->Q () { s with heap:=h' }) :
  wpAny M A (noteFrame (.ref e) env) Q E s:=by
 unfold noteFrame
 simp only [hf]
 refine wpAny_bind (wpAny_field he hd h1 ?_)
 rw [if_neg (by decide)]
 exact UL hfr hl hf he hkb hen hd (Array.getElem?_eq_some_iff.mp h1).1 h
theorem FN (hfr:A.frames = some (env :: outer)) (hf:env.frame = some L) (x:qy base (env :: outer) e cls d .none s.heap)
  (h:∀ h',qy base (env :: outer) e cls d (rawInt L) h'->s.heap.UpToSlots h'->Q () { s with heap:=h' }):wpAny M A (noteFrame (.ref e) env) Q E s:=by
 obtain ⟨hkb,hen,hl,oe,vs,T,oT,ts,he,⟨hc,hdd⟩,hd,h1,nT,nTe,hT,hdT,h3⟩:=x
 subst hc hdd
 unfold noteFrame
 simp only [hf]
 refine wpAny_bind (wpAny_field he hd h1 ?_)
 rw [if_pos (show (Value.ref T != Value.none) = true from by simp)]
 refine wpAny_bind (wpAny_field hT hdT h3 ?_)
 rw [if_neg (show ¬ ((Value.none == rawInt L) = true) from by simp [rawInt])]
 refine wpAny_bind (wpAny_setField hT hdT (Array.getElem?_eq_some_iff.mp h3).1 ?_)
 have other:∀ b,b ≠ T->(s.heap.update T (Obj.mapFields (·.setIfInBounds 3 Value.none))).get? b = s.heap.get? b:=fun b hb=>Heap.get?_update_other _ _ (Ne.symm hb)
 have nr:∀ b o,s.heap.get? b = some o->(∀ ws,o.data ≠ .fields ws)->b ≠ T:=fun b o q nf z=>by
  rw [z,hT] at q; cases q; exact nf ts hdT
 refine UL (s:={ s with heap:=_ }) hfr (hl.of_keeps fun b o q nf=>⟨o,(other b (nr b o q nf)).trans q,rfl⟩) hf ((other e (Ne.symm nTe)).trans he)
  (fun b o q=>(other b fun z=>by rw [z,nT] at q; cases q).trans (hkb b o q)) hen hd (Array.getElem?_eq_some_iff.mp h1).1 fun h' y up=>h h' y fun b o q nf=>up b o ((other b (nr b o q nf)).trans q) nf
theorem Qw {fl:Value} (x:qy base l e cls d fl s.heap) (h:∀ h',qy base l e cls d .none h'->s.heap.UpToSlots h'->Q () { s with heap:=h' }):wpAny M A (setFlight (.ref e) none) Q E s:=by
 obtain ⟨hkb,hen,hl,oe,vs,T,oT,ts,he,hc,hd,h1,nT,nTe,hT,hdT,h3⟩:=x
 have z3:3 < ts.size:=(Array.getElem?_eq_some_iff.mp h3).1
 have other:∀ b,b ≠ T->(s.heap.update T (Obj.mapFields (·.setIfInBounds 3 ((none:Option Addr).elim Value.none fun f=>rawInt f)))).get? b = s.heap.get? b:=fun b hb=>Heap.get?_update_other _ _ (Ne.symm hb)
 have nr:∀ b o,s.heap.get? b = some o->(∀ ws,o.data ≠ .fields ws)->b ≠ T:=fun b o q nf z=>by
  rw [z,hT] at q; cases q; exact nf ts hdT
 unfold setFlight
 refine wpAny_bind (wpAny_field he hd h1 ?_)
 rw [if_pos (show (Value.ref T != Value.none) = true from by simp)]
 refine wpAny_setField hT hdT z3 (h _ ⟨fun b o q=>(other b fun z=>by rw [z,nT] at q; cases q).trans (hkb b o q),hen,hl.of_keeps fun b o q nf=>⟨o,(other b (nr b o q nf)).trans q,rfl⟩,?_⟩ fun b o q nf=>⟨o.slots,(other b (nr b o q nf)).trans q⟩)
 exact ⟨oe,vs,T,_,_,(other e (Ne.symm nTe)).trans he,hc,hd,h1,nT,nTe,Heap.get?_update_self _ hT (Obj.isFreed_of_fields (Obj.data_mapFields hdT _)),Obj.data_mapFields hdT _,by simp [z3]⟩
theorem qy.pop {fl:Value} {h:Heap} (x:qy base (env :: outer) e cls d fl h):qy base outer e cls d fl h:=⟨x.1,x.2.1,x.2.2.1.2.2,x.2.2.2⟩
theorem V_ (hfr:A.frames = some (env :: outer)) (hf:env.frame = some L) (x:qy base (env :: outer) e cls d .none s.heap)
  (h:∀ h',qy base outer e cls d .none h'->s.heap.UpToSlots h'->Q () { s with heap:=h' }):wpAny M A (leaving env (.ref e)) Q E s:=by
 unfold leaving
 exact wpAny_bind (FN hfr hf x fun h1 y up=>Qw y fun h2 z up2=>h h2 z.pop (up.trans up2))
theorem Gg {h0:Heap} {oe:Obj} {vs:Array Value} (hfr:A.frames = some (env :: outer)) (hf:env.frame = some L) (hkb:base.StaysIn h0) (hl:h0.FunFrames base (env :: outer)) (keeps:∀ b o,h0.get? b = some o->s.heap.get? b = some o)
  (new:h0.get? e = none) (he:s.heap.get? e = some oe) (hd:oe.data = .fields vs) (h1:vs[1]? = some .none)
  (h:∀ h',qy base outer e oe.cls oe.dict .none h'->s.heap.UpToSlots h'->Q () { s with heap:=h' }):wpAny M A (leaving env (.ref e)) Q E s:=by
 have hen:base.get? e = none:=by
  cases q:base.get? e with
  | none=>rfl
  | some o=>have:=hkb e o q; rw [new] at this; cases this
 unfold leaving
 exact wpAny_bind (Mz hfr (hl.of_keeps fun b o q _=>⟨o,keeps b o q,rfl⟩) hf he (fun b o q=>keeps b o (hkb b o q)) hen hd h1 fun h1 y up=>Qw y fun h2 z up2=>h h2 z.pop (up.trans up2))
end
theorem dz.there {P:Program} {w:World} {H:Hp} {h:Heap} {a:Addr} {o:HO} (x:dz P w H h a o):∃ ob,h.get? a = some ob:=by
 cases o with
 | lst xs=>obtain ⟨_,_,_,_,e⟩:=x; exact ⟨_,e⟩
 | tup xs=>obtain ⟨_,_,_,o,e,_⟩:=x; exact ⟨_,e⟩
 | dK kvs=>obtain ⟨_,_,_,_,o,_,_,e,_⟩:=x; exact ⟨_,e⟩
 | set S n=>obtain ⟨o,_,_,_,e,_⟩:=x; exact ⟨_,e⟩
 | ins C dx fs=>obtain ⟨_,_,_,e,_⟩:=x; exact ⟨_,e⟩
 | own y=>exact x
 | xd fs=>obtain ⟨_,⟨_,_,_,e,_⟩,_⟩:=x; exact ⟨_,e⟩
 | rng lo hi=>obtain ⟨_,_,_,e⟩:=x; exact ⟨_,e⟩
 | frz ob u=>obtain ⟨e,_⟩:=x; exact ⟨_,e⟩
 | tbl ps=>exact ⟨_,(show h.get? a = some _ from x)⟩
 | met f y=>exact ⟨_,(show h.get? a = some _ from x)⟩
 | ext φ=>obtain ⟨_,e,_⟩:=x; exact e
structure Fly (P:Program) (w:World) (l:List Env) (H:Hp) (s:Shared) (a:Addr) (C:Value) (H':Hp) (s':Shared) (B:Heap) (d:Option Addr):Prop where
 os:s'.os = s.os
 bare:AllBare s'.gens
 new:s.heap.get? a = none
 un:Un (frs l) [] H H' s.heap s'.heap
 hok:HOk P w H' s'.heap
 frf:∀ b ∈ frs l,H' b = none
 fl:qy B l a C d .none s'.heap
 cov:∀ b o,s'.heap.get? b = some o->b ∉ frs l->((∃ u,s.heap.get? b = some u)\/∃ u,H' b = some u)->B.get? b = some o
section
variable {P:Program} {w:World} {l:List Env} {H H':Hp} {s s':Shared} {a:Addr} {C:Value} {B:Heap} {d:Option Addr} {h':Heap}
theorem Fly.trk (F:Fly P w l H s a C H' s' B d) {b:Addr} {u:HO} {o:Obj} (e:H' b = some u) (q:s'.heap.get? b = some o):B.get? b = some o :=
 F.cov b o q (fun z=>by rw [F.frf b z] at e; cases e) (.inr ⟨u,e⟩)
theorem Fly.hok' (F:Fly P w l H s a C H' s' B d) (k:∀ b o,B.get? b = some o->h'.get? b = some o):HOk P w H' h':=fun b u e =>
 (F.hok b u e).stay (fun c v hc q=>k c v (by
  rcases hc with z | z
  .subst z; exact F.trk e q
  .exact F.trk z q)) (fun _ q=>q) fun _ _ q=>q
theorem Fly.un' (F:Fly P w l H s a C H' s' B d) (k:∀ b o,B.get? b = some o->h'.get? b = some o) (up:s'.heap.UpToSlots h'):Un (frs l) [] H H' s.heap h':=by
 have nf:∀ b ∈ frs l,∀ o,s'.heap.get? b = some o->∀ vs,o.data ≠ .fields vs:=fun b hb o e=>by
  obtain ⟨_,o',e',d⟩:=F.fl.2.2.1.mem hb
  rw [e] at e'
  cases e'
  exact d
 refine ⟨fun b o q n hb hx=>k b o (F.cov b o (F.un.keep b o q n hb hx) hb (.inl ⟨o,q⟩)),fun b o q n hb hx=>?_,F.un.free,fun b o q hx=>?_,F.un.tups,F.un.frzs,F.un.tbls⟩
 .obtain ⟨sl,e⟩:=F.un.slot b o q n hb hx
  obtain ⟨sl',e'⟩:=up b _ e (nf b hb _ e)
  exact ⟨sl',e'⟩
 .obtain ⟨o',e⟩:=F.un.there b o q hx
  by_cases hb:b ∈ frs l
  .obtain ⟨sl',e'⟩:=up b _ e (nf b hb _ e)
   exact ⟨_,e'⟩
  .exact ⟨o',k b o' (F.cov b o' e hb (.inl ⟨o,q⟩))⟩
end
section
variable {X:Cx} {pins:List (Addr × Obj)} {σ:List (Option V)} {H H':Hp} {s s':Shared} {a:Addr} {C:Value} {B:Heap} {d:Option Addr} {h':Heap}
theorem Inv.flown (I:Inv X pins σ H s) (F:Fly X.prog X.w X.stack H s a C H' s' B d) (k:∀ b o,B.get? b = some o->h'.get? b = some o) (up:s'.heap.UpToSlots h'):Inv X pins σ H' { s' with heap:=h' } :=
 I.call' (s':={ s' with heap:=h' }) (ch:=[]) F.os (F.un' k up) (F.hok' k) F.bare fun _ z=>nomatch z
theorem Inv.old (I:Inv X pins σ H s) (hx:X.ex = []) {b:Addr} {o:Obj} (e:X.s₀.heap.get? b = some o):(∃ u,s.heap.get? b = some u)/\b ≠ X.env.locals:=by
 obtain ⟨u,q⟩:=I.base.there b o e (by rw [hx]; simp)
 exact ⟨⟨u,q⟩,aR (aU (aK e) I.ok.above)⟩
theorem Inv.nostk (I:Inv X pins σ H s) {b:Addr} (h1:b ≠ X.env.locals) (h2:b ∉ X.fs):b ∉ frs X.stack:=fun z=>by
 rcases List.mem_cons.mp (I.stkSub b z) with e | e
 .exact h1 e
 .exact h2 e
theorem Inv.flyOut (I:Inv X pins σ H s) (hx:X.ex = []) (F:Fly X.prog X.w X.stack H s a C H' s' B d) (fl:qy B X.outer a C d .none h') (up:s'.heap.UpToSlots h') :
  Fly X.prog X.w X.outer X.H₀ X.s₀ a C H' { s' with heap:=h' } B d:=by
 have J:=I.flown F fl.1 up
 refine ⟨J.os,J.bare,?_,by have:=J.base; rw [hx] at this; exact this,J.hok,fun b hb=>?_,fl,fun b o e hb hc=>?_⟩
 .cases q:X.s₀.heap.get? a with
  | none=>rfl
  | some o =>
   obtain ⟨⟨u,z⟩,_⟩:=I.old hx q
   rw [F.new] at z; cases z
 .obtain ⟨_,o,ho,_⟩:=I.ok.funs.mem hb
  exact J.base.free b o ho (I.ok.frf b hb) fun z=>I.ok.exfs b z hb
 .rcases hc with ⟨u,q⟩ | ⟨u,q⟩
  .obtain ⟨⟨v,z⟩,n⟩:=I.old hx q
   obtain ⟨o',e'⟩:=F.un.there b v z (by simp)
   have y:=F.cov b o' e' (I.nostk n hb) (.inl ⟨v,z⟩)
   have e2:=fl.1 b o' y
   rw [show ({ s' with heap:=h' } : Shared).heap.get? b = h'.get? b from rfl,e2] at e
   cases e
   exact y
  .obtain ⟨o',e'⟩:=(F.hok b u q).there
   have y:=F.trk q e'
   have e2:=fl.1 b o' y
   rw [show ({ s' with heap:=h' } : Shared).heap.get? b = h'.get? b from rfl,e2] at e
   cases e
   exact y
theorem Inv.flyNew (I:Inv X pins σ H s) (hx:X.ex = []) {h1:Heap} {t:Nat} (keeps:∀ b o,s.heap.get? b = some o->h1.get? b = some o) (new:s.heap.get? a = none) (hB:B = PySem.W.hideAll s.heap (frs X.stack)) (fl:qy B X.outer a C d .none h') (up:h1.UpToSlots h') :
  Fly X.prog X.w X.outer X.H₀ X.s₀ a C H { s with heap:=h',toks:=t } B d:=by
 have inB:∀ b o,s.heap.get? b = some o->b ∉ frs X.stack->B.get? b = some o:=fun b o e n=>by rw [hB]; exact PySem.W.hideAll_get _ e n
 have trk:∀ b u o,H b = some u->s.heap.get? b = some o->B.get? b = some o:=fun b u o e q=>inB b o q fun z=>by
  rw [I.stkFree b z] at e; cases e
 have up2:s.heap.UpToSlots h':=(Heap.UpToSlots.of_keeps keeps).trans up
 have nf:∀ b ∈ frs X.stack,∀ o,s.heap.get? b = some o->∀ vs,o.data ≠ .fields vs:=fun b hb o e=>by
  obtain ⟨_,o',e',d⟩:=I.stack.mem hb
  rw [e] at e'
  cases e'
  exact d
 have hok:HOk X.prog X.w H h':=fun b u e=>(I.hok b u e).stay (fun c v hc q=>fl.1 c v (by
  rcases hc with z | z
  .subst z; exact trk c u v e q
  .exact trk c _ v z q)) (fun _ q=>q) fun _ _ q=>q
 have un:Un (frs X.stack) [] H H s.heap h':=by
  refine ⟨fun b o q n hb _=>fl.1 b o (inB b o q hb),fun b o q n hb _=>up2 b o q (nf b hb o q),fun _ _ _ n _=>n,fun b o q _=>?_,fun _ _ q=>q,fun _ _ _ q=>q,fun _ ps q=>⟨#[],by rw [q]; simp⟩⟩
  by_cases hb:b ∈ frs X.stack
  .obtain ⟨sl,e⟩:=up2 b o q (nf b hb o q)
   exact ⟨_,e⟩
  .exact ⟨o,fl.1 b o (inB b o q hb)⟩
 have J:Inv X pins σ H { s with heap:=h',toks:=t }:=I.call' (s':={ s with heap:=h',toks:=t }) (ch:=[]) rfl un hok I.bare fun _ z=>nomatch z
 refine ⟨J.os,J.bare,?_,by have:=J.base; rw [hx] at this; exact this,J.hok,fun b hb=>?_,fl,fun b o e hb hc=>?_⟩
 .cases q:X.s₀.heap.get? a with
  | none=>rfl
  | some o =>
   obtain ⟨⟨u,z⟩,_⟩:=I.old hx q
   rw [new] at z; cases z
 .obtain ⟨_,o,ho,_⟩:=I.ok.funs.mem hb
  exact J.base.free b o ho (I.ok.frf b hb) fun z=>I.ok.exfs b z hb
 .rcases hc with ⟨u,q⟩ | ⟨u,q⟩
  .obtain ⟨⟨v,z⟩,n⟩:=I.old hx q
   have y:=inB b v z (I.nostk n hb)
   have e2:=fl.1 b v y
   rw [show ({ s with heap:=h',toks:=t } : Shared).heap.get? b = h'.get? b from rfl,e2] at e
   cases e
   exact y
  .obtain ⟨o',e'⟩:=(I.hok b u q).there
   have y:=trk b u o' q e'
   have e2:=fl.1 b o' y
   rw [show ({ s with heap:=h',toks:=t } : Shared).heap.get? b = h'.get? b from rfl,e2] at e
   cases e
   exact y
end
noncomputable def CXO (P:Program) (w:World):CXT:=fun l H s E e s'=>∃ a C d H' B,e = .ref a/\Fly P w l H s a C H' s' B d/\E C d H'
noncomputable def Ej (X:Cx) (Ex:Value->Option Addr->L2.St->Hp->Prop):Prop :=
 ∀ pins σ H s a C H' s' B d,Inv X pins σ H s->Fly X.prog X.w X.stack H s a C H' s' B d->Ex C d σ H'->X.xe (.ref a) s'
noncomputable def aaB (X:Cx) (Ex:Value->Option Addr->L2.St->Hp->Prop):Prop :=
 ∀ pins σ H s a C vs h1,Inv X pins σ H s->Heap.MadeExcOf s.heap h1 a C vs->Ex C none σ H->X.xe (.ref a) { s with heap:=h1 }
section
variable {P:Program} {w:World} {K:Frag} {mg:Str->Option Value} {base:Heap} {N:List Str} {qual:Str} {scope:Scope} {f:Addr} {cd:Value} {A:Around} {outer:List Env} {s:Shared} {H:Hp} {E:XK}
theorem fP:Ej (Ca (CXO P w) P w K mg base N qual scope f cd A outer s H E) (fun C d _ H'=>E C d H'):=by
 intro pins σ H1 s1 a C H' s' B d I F q
 show wpAny _ _ (leaving _ (.ref a)) _ _ _
 refine V_ (outer:=outer) I.ok.frames rfl F.fl fun h' fl up=>?_
 exact ⟨a,C,d,H',B,rfl,I.flyOut rfl F fl up,q⟩
theorem t_:aaB (Ca (CXO P w) P w K mg base N qual scope f cd A outer s H E) (fun C d _ H'=>E C d H'):=by
 intro pins σ H1 s1 a C vs h1 I M q
 show wpAny _ _ (leaving _ (.ref a)) _ _ _
 have hin:∀ env ∈ (envOfC qual scope s.heap.objs.size f cd :: outer),∀ b,env.frame = some b->b ∈ frs (envOfC qual scope s.heap.objs.size f cd :: outer):=fun env he b hb=>List.mem_filterMap.mpr ⟨env,he,hb⟩
 obtain ⟨t,he,_,_⟩:=M.there
 refine Gg (base:=PySem.W.hideAll s1.heap (frs (envOfC qual scope s.heap.objs.size f cd :: outer))) (h0:=s1.heap) (outer:=outer) I.ok.frames rfl (fun b o q=>PySem.W.of_hideAll _ q) (PySem.W.funFrames_hide I.stack hin) M.keeps M.new he rfl rfl fun h' fl up=>?_
 exact ⟨a,C,none,H1,_,rfl,I.flyNew rfl M.keeps M.new rfl fl up,q⟩
end
section
variable {P:Program} {w:World} {K:Frag} {mg:Str->Option Value} {base:Heap}
theorem Fun.okX {x qual:Str} {st:Stmt} {f:Addr} {fd:FuncData} {N ps:List Str} {k:Nat} {sp:Sp} (F:Fun K x qual st f fd) (S:bY N ps (bM st)) (len:∀ vs H Q E,sp vs H Q E->vs.length = ps.length)
  (hbody:∀ (cdv:Value) (A:Around) (outer:List Env) (s:Shared) (H:Hp) (vs:List V) (Q:VK) (E:XK),gG k (A.deeper (envOfC qual (bM st) s.heap.objs.size f cdv))->sp vs H Q E ->
   ∃ t,PSs (Ca (CXO P w) P w K mg base N qual (bM st) f cdv A outer s H E) (fM st) t/\t { nx:=fun _ H'=>Q .non H',rt:=Q } (L2.start N vs) H):cD P w K mg base (CXO P w) (k + 1) f fd ps sp:=by
 obtain ⟨oc,od,kV,doc,pm,an,cdv,ct,osl,rfl,lk,hcd⟩:=F.ex
 exact aax lk hcd S len fun A outer s H vs Q E hr hsp=>hbody cdv A outer s H vs Q E hr hsp
noncomputable def OkX (P:Program) (w:World) (K:Frag) (mg:Str->Option Value) (base:Heap) (k:Nat) (x:Str) (ps:List Str) (sp:Sp):Prop :=
 ∃ f fd,cD P w K mg base (CXO P w) k f fd ps sp/\Binds K fd ps []/\mg x = some (.ref f)/\PySem.W.keepIn K (.ref f) = true
theorem dB.okX {k:Nat} {x:Str} {st:Stmt} {ps:List Str} {sp:Sp} (h:dB K mg x st ps)
  (hf:∀ f fd,Fun K x x st f fd->cD P w K mg base (CXO P w) k f fd ps sp):OkX P w K mg base k x ps sp:=by
 obtain ⟨f,fd,a,b,c⟩:=h
 exact ⟨f,fd,hf f fd a,.all b,c,a.kp⟩
end
section
variable {X:Cx} {p pos:Pos} {e:Expr} {es:List Expr} {t:TA} {x:Str} {k:Nat} {ps:List Str} {sp:Sp} {Ex:Value->Option Addr->L2.St->Hp->Prop}
noncomputable def zJ (sp:Sp) (Ex:Value->Option Addr->L2.St->Hp->Prop) (t:TA):TE:=fun σ H Q=>t σ H fun vs H1=>sp vs H1 Q fun C d H'=>Ex C d σ H'
theorem fQ (G:OkX X.prog X.w X.K X.mg X.base k x ps sp) (hr:gG k X.A) (hg:Gl X x) (hx:Ej X Ex) (ha:PA X (e :: es) t) (hdb:(x == ("__debug__" : Str)) = false:=by decide)
  (he:starEach (e :: es) X.env = (false,eval e X.env) :: starEach es X.env:=by rfl) (hpl:(backTo pos (starEach es X.env)).any (·.1) = false:=by rfl):PE X (.Call (.Name x p) (e :: es) [] pos) (zJ sp Ex t):=by
 obtain ⟨f,fd,F,hb,hm,kp⟩:=G
 intro pins s σ H Q I h
 refine wpAny_Call_Name_kw (nA I hg hm ?_ hdb)
 refine PySem.W.callWith_K (h₀:=X.base) I.ok.mod.kin kp (thn (ha pos pins s σ H _ I h) fun us s1 ⟨vs,H1,I1,r,q⟩=>⟨I1.kIn,?_⟩) he hpl
 have hl:us.length = ps.length:=by rw [<- r.length]; exact F.len _ _ _ _ q
 have hb':=hb s1 us I1.kIn (by simpa using hl)
 simp only [List.append_nil] at hb'
 refine wpAny_call (codeAny_mono (F.run X.A X.stack s1 H1 ⟨us,[]⟩ us vs Q _ hr I1.env0 hb' r q) fun r s' hq=>?_)
 cases r with
 | error e =>
  obtain ⟨a,C,d,H',B,rfl,Fl,q'⟩:=hq
  exact hx pins σ H1 s1 a C H' s' B d I1 Fl q'
 | ok fl =>
  cases fl with
  | ret u=>exact I1.after hq
  | next=>exact False.elim hq
  | brk=>exact False.elim hq
  | cont=>exact False.elim hq
end
abbrev bmV:List Value:=[.type "ValueError",.type "Exception",.type "BaseException",.type "object"]
noncomputable def GR (K:Frag) (C:Addr):Prop:=PySem.W.excIn K C bmV "ValueError.__new__" = true
theorem Qg {K:Frag} {h:Heap} {C:Addr} (X:K.In h) (q:GR K C):∃ bm N nm qn bs hdct sn sub ab col dd k0 k1 k2 k3 k5 mN,h.get? C = some (excClassObj nm qn C N bs bm hdct sn sub ab col dd k0 k1 k2 k3 k5 "ValueError.__new__") /\
  h.Ns N mN/\mN "__init__" = none/\OwnTail h bmV bm:=by
 unfold GR PySem.W.excIn at q
 split at q
 .rename_i dd cd sl ho
  split at q
  .rename_i C' bm k0 k1 k2 k3 n k5 hm hs
   simp only [Bool.and_eq_true,beq_iff_eq,Bool.not_eq_true'] at q
   obtain ⟨⟨⟨⟨⟨rfl,rfl⟩,hdel⟩,ht⟩,hok⟩,hni⟩:=q
   obtain ⟨nm,bs,mro,ns,qn,hd,sn,sub,ab,col,del⟩:=cd
   dsimp only at hm hdel hok hni
   subst hm hdel
   have hsl:sl = #[k0,k1,k2,k3,some (.builtin "ValueError.__new__"),k5]:=by
    obtain ⟨l⟩:=sl
    simp only at hs
    rw [hs]
   subst hsl
   exact ⟨bm,ns,nm,qn,bs,hd,sn,sub,ab,col,dd,k0,k1,k2,k3,k5,_,X _ _ ho,.of_isNs (PySem.W.isNs_of_in X hok),PySem.W.nsMap_none_of_in X hok hni,PySem.W.tail_of_in X ht⟩
  .cases q
 .cases q
section
variable {X:Cx} {x:Str} {np cpos pos:Pos} {e₀:Expr} {rest:List Expr} {ta:TA} {C:Addr} {Ex:Value->Option Addr->L2.St->Hp->Prop}
noncomputable def Jo (C:Addr) (Ex:Value->Option Addr->L2.St->Hp->Prop) (ta:TA):TS:=fun _ σ H=>ta σ H fun vs H1=>vs.length <= sizeLine/\Ex (.ref C) none σ H1
theorem sE (hc:X.calm = true) (hg:Gl X x) (hm:X.mg x = some (.ref C)) (q:GR X.K C) (hx:aaB X Ex) (ha:PA X (e₀ :: rest) ta) (hd:(x == ("__debug__" : Str)) = false:=by decide)
  (he:starEach (e₀ :: rest) X.env = (false,eval e₀ X.env) :: starEach rest X.env:=by rfl) (hplain:(backTo cpos (starEach rest X.env)).any (·.1) = false:=by rfl) :
  PS X (.Raise (some (.Call (.Name x np) (e₀ :: rest) [] cpos)) none pos) (Jo C Ex ta):=by
 intro pins s σ H D I h
 obtain ⟨tl,N,nm,qn,bs,hdct,sn,sub,ab,col,dd,k0,k1,k2,k3,k5,mN,hC,hN,hni,T⟩:=Qg I.ok.mod.kin q
 have FB:=PySem.F.excBase_ValueError
 refine wpAny_Raise_call_subT (C:=C) (nm:=nm) (q:=qn) (N:=N) (bs:=bs) (bm:=tl) (hdct:=hdct) (sn:=sn) (sub:=sub) (ab:=ab) (col:=col) (dd:=dd) (k0:=k0) (k1:=k1) (k2:=k2) (k3:=k3) (k5:=k5)
  FB (mN:=mN) (T.hasType FB.hasBase) (I.ok.hd hc) (by rw [he]; show (false || (backTo cpos (starEach rest X.env)).any (·.1)) = false; rw [hplain]; rfl) hni (nA I hg hm ⟨rfl,?_⟩ hd)
 have h2:=ha cpos pins s σ H _ I h
 rw [he] at h2 ⊢
 exact Calls.evalArgs_plain (wpAny_mono h2 (fun us s₂ ⟨vs,H1,I1,r,hl,ex⟩=>⟨rfl,by rw [<- r.length]; exact hl,I1.bk _ _ hC,hN.keeps I1.bk,T.keeps I1.bk,fun h' e M=>hx pins σ H1 s₂ e _ us h' I1 M ex⟩) fun _ _ y=>y)
end
noncomputable abbrev Cx.tryc (X:Cx) (pn:List (Addr × Obj)) (E:Value->Shared->Prop):Cx:={ X with pn:=pn,xe:=E }
noncomputable abbrev Cx.marked (X:Cx) (a:Addr) (E:Value->Shared->Prop):Cx:={ X with A:=X.A.mark (some (.ref a)),calm:=false,xe:=E }
section
variable {X:Cx} {pins pins' pn:List (Addr × Obj)} {σ:L2.St} {H H':Hp} {s:Shared} {E:Value->Shared->Prop} {a:Addr}
theorem Cx.Ok.tryc (ok:X.Ok):(X.tryc pn E).Ok:=⟨ok.mod,ok.kind,ok.glob,ok.blt,ok.above,ok.inj,ok.has,ok.cab,ok.hd,ok.frames,ok.stk,ok.exf,ok.bs,ok.bsz,ok.noex,ok.exfs,ok.funs,ok.frf⟩
theorem Cx.Ok.untry (ok:(X.tryc pn E).Ok):X.Ok:=⟨ok.mod,ok.kind,ok.glob,ok.blt,ok.above,ok.inj,ok.has,ok.cab,ok.hd,ok.frames,ok.stk,ok.exf,ok.bs,ok.bsz,ok.noex,ok.exfs,ok.funs,ok.frf⟩
theorem Inv.tryc (I:Inv X pins σ H s):Inv (X.tryc (X.pn ++ pins) E) [] σ H s:=⟨I.ok.tryc,I.os,I.bare,I.base,I.loc,I.cell,I.free,I.freeC,fun p hp=>I.pin p (by simpa using hp),I.hok,I.len⟩
theorem Inv.untry (I:Inv (X.tryc (X.pn ++ pins) E) pins' σ H s):Inv X pins σ H s:=⟨I.ok.untry,I.os,I.bare,I.base,I.loc,I.cell,I.free,I.freeC,fun p hp=>I.pin p (List.mem_append_left _ hp),I.hok,I.len⟩
theorem Cx.Ok.marked (ok:X.Ok):(X.marked a E).Ok:=⟨ok.mod,ok.kind,ok.glob,ok.blt,ok.above,ok.inj,ok.has,ok.cab,fun z=>(nomatch z),ok.frames,ok.stk,ok.exf,ok.bs,ok.bsz,ok.noex,ok.exfs,ok.funs,ok.frf⟩
theorem Inv.marked (I:Inv X pins σ H s):Inv (X.marked a E) pins σ H s:=⟨I.ok.marked,I.os,I.bare,I.base,I.loc,I.cell,I.free,I.freeC,I.pin,I.hok,I.len⟩
theorem Inv.unmarked (ok:X.Ok) (I:Inv (X.marked a E) pins σ H s):Inv X pins σ H s:=⟨ok,I.os,I.bare,I.base,I.loc,I.cell,I.free,I.freeC,I.pin,I.hok,I.len⟩
theorem Inv.track {o:HO} (I:Inv X pins σ H s) (hn:H a = none) (ha:X.s₀.heap.get? a = none) (hL:a ≠ X.env.locals) (hC:∀ x c,X.env.cells.lookup x = some c->c ≠ a) (hp:∀ p ∈ X.pn ++ pins,p.1 ≠ a)
  (ok:dz X.prog X.w (upd H a o) s.heap a o):Inv X pins σ (upd H a o) s:=by
 have ne:∀ b u,H b = some u->b ≠ a:=fun b u e=>bD e hn
 have ne0:∀ b u,X.s₀.heap.get? b = some u->b ≠ a:=fun b u e z=>by rw [z,ha] at e; cases e
 refine ⟨I.ok,I.os,I.bare,⟨I.base.keep,I.base.slot,fun b ob e n hx=>by rw [bI (ne0 b ob e)]; exact I.base.free b ob e n hx,I.base.there,fun b xs e=>?_,fun b ob u e=>?_,fun b ps e=>?_⟩,I.loc,I.cell,by rw [bI hL.symm]; exact I.free,fun x c e=>by rw [bI (hC x c e)]; exact I.freeC x c e,fun p q=>?_,fun b u e=>?_,I.len⟩
 .have z:=I.base.tups b xs e
  rw [bI (ne b _ z)]; exact z
 .have z:=I.base.frzs b ob u e
  rw [bI (ne b _ z)]; exact z
 .obtain ⟨m,z⟩:=I.base.tbls b ps e
  exact ⟨m,by rw [bI (ne b _ z)]; exact z⟩
 .obtain ⟨h1,h2,h3⟩:=I.pin p q
  exact ⟨h1,by rw [bI (hp p q)]; exact h2,h3⟩
 .by_cases z:b = a
  .subst z; rw [bH] at e; cases e; exact ok
  .rw [bI z] at e
   exact (I.hok b u e).stay (fun _ _ _ q=>q) (fun c q=>by rw [bI (ne c _ q)]; exact q) fun c xs q=>by rw [bI (ne c _ q)]; exact q
theorem Inv.unname {M:Model} {A:Around} {E:Value->Shared->Prop} {i:Nat} {n:Str} {pos:Pos} {Q:Unit->Shared->Prop} (I:Inv X pins σ H s) (hN:X.N.Nodup) (hi:X.N[i]? = some n) (hk:X.env.scope.names.lookup n = some .local)
  (h:∀ s',Inv X pins (σ.set i none) H s'->Q () s'):wpAny M A (do bindName X.env n .none; unbindBehindTheSuite X.env n pos) Q E s:=by
 obtain ⟨m,hn,hl⟩:=id I.loc
 have hcls:(X.env.scope.kind == .class || (X.env.scope.kind == .module && X.env.locals != X.env.globals)) = false:=by rw [I.ok.kind]; rfl
 have cne:=I.cne
 have hiσ:i < σ.length:=by rw [I.len]; exact (ao.mp hi).1
 refine wpAny_nameGoes_keeps hk hn hcls fun h' v hn' hs=>?_
 have hok:HOk X.prog X.w H h':=fun b ob e=>(I.hok b ob e).stay (fun c w' hc q=>(hs.2 c (by
  rintro rfl
  rcases hc with rfl | hc
  .rw [I.free] at e; cases e
  .rw [I.free] at hc; cases hc)).trans q) (fun _ q=>q) fun _ _ q=>q
 refine h _ ⟨I.ok,I.os,I.bare,⟨fun b o e n' hb hx=>?_,fun b o e n' hb hx=>?_,I.base.free,fun b o e hx=>?_,I.base.tups,I.base.frzs,I.base.tbls⟩,⟨_,hn',fun j y v' e1 e2 e3=>?_⟩,fun y c e=>?_,I.free,I.freeC,fun p hp=>?_,hok,by simpa using I.len⟩
 .exact (hs.2 b (aR (aU (aK e) I.ok.above))).trans (I.base.keep b o e n' hb hx)
 .obtain ⟨sl,e1⟩:=I.base.slot b o e n' hb hx
  exact ⟨sl,(hs.2 b (aR (aU (aK e) I.ok.above))).trans e1⟩
 .obtain ⟨o',e1⟩:=I.base.there b o e hx
  exact ⟨o',(hs.2 b (aR (aU (aK e) I.ok.above))).trans e1⟩
 .by_cases hj:j = i
  .subst hj
   rw [List.getElem?_set_self hiσ] at e2
   cases e2
  .rw [List.getElem?_set_ne (Ne.symm hj)] at e2
   obtain ⟨u',r',q⟩:=hl j y v' e1 e2 e3
   refine ⟨u',r',?_⟩
   rcases q with ⟨k,e⟩ | ⟨k,c,e,z⟩
   .refine .inl ⟨k,?_⟩
    have:y ≠ n:=fun e=>hj (qg hN e1 (e ▸ hi))
    simp [this,e]
   .exact .inr ⟨k,c,e,z.sameBut hs (cne y c e)⟩
 .obtain ⟨w',z⟩:=I.cell y c e
  exact ⟨w',z.sameBut hs (cne y c e)⟩
 .obtain ⟨e,n',ne,nf,d⟩:=I.pin p hp
  exact ⟨(hs.2 p.1 ne).trans e,n',ne,nf,d⟩
end
noncomputable def XO (a C:Addr) (d:Option Addr):HO:=.ext fun h=>∃ o,h.get? a = some o/\o.cls = .ref C/\o.dict = d/\∃ vs,o.data = .fields vs
theorem Kr {M:Model} {A:Around} {E:Value->Shared->Prop} {K:Frag} {h:Heap} {g:Array GenState} {d:Drawn} {t:Nat} {os:OsState} {a C D:Addr} {oe:Obj} {Q:Bool->Shared->Prop} {b:Bool} (X:K.In h)
  (qD:PySem.W.mroIn K D (.type "BaseException") = some true) (tyD:PySem.W.typeIn K (.ref D) = some (.type "type")) (he:h.get? a = some oe) (hc:oe.cls = .ref C) (qS:PySem.W.mroIn K C (.ref D) = some b)
  (hq:Q b ⟨h,g,d,t,os⟩):wpAny M A (excMatches (.ref a) (.ref D)) Q E ⟨h,g,d,t,os⟩:=by
 have l1:PySem.W.Looks M h (isInstance (.ref D) (.type "tuple")) false:=(PySem.W.looks_typeIn X tyD).andThen (PySem.W.Looks.of_pure tc_notTuple)
 have l2:PySem.W.Looks M h (isType (.ref D)) true:=by
  obtain ⟨cdD,hcD,_⟩:=Option.bind_eq_some_iff.mp qD
  unfold PySem.W.clsIn at hcD
  split at hcD
  .rename_i c' d' cd' sl' ho
   intro A' Q' E' s' k q
   unfold isType loadHead
   exact wpAny_bind (wpAny_loadPart (k _ _ (X _ _ ho)) (wpAny_pure q))
  .cases hcD
 have l3:PySem.W.Looks M h (isSubtype (.ref D) (.type "BaseException")) true:=PySem.W.looks_mroIn X qD
 have l4:PySem.W.Looks M h (isSubtype (.ref C) (.ref D)) b:=PySem.W.looks_mroIn X qS
 have l5:PySem.W.Looks M h (typeOf (.ref a)) (.ref C):=by
  intro A' Q' E' s' k q
  rw [<- hc] at q
  unfold typeOf
  exact wpAny_bind (wpAny_loadPart (k _ _ he) (wpAny_pure q))
 unfold excMatches
 refine wpAny_bind (l1.at ?_)
 simp only [Bool.false_eq_true,if_false]
 refine wpAny_bind (wpAny_pure ?_)
 simp only [List.forIn_cons,List.forIn_nil]
 unfold isExcClass
 refine wpAny_bind (wpAny_bind (wpAny_bind (wpAny_bind (l2.at ?_))))
 simp only [if_true]
 refine l3.at ?_
 simp only [Bool.not_true,Bool.false_eq_true,if_false]
 refine wpAny_pure (wpAny_pure (wpAny_bind (l5.at ?_)))
 refine wpAny_bind (wpAny_bind (wpAny_bind (l4.at ?_)))
 cases b with
 | true =>
  simp only [if_true]
  exact wpAny_pure (wpAny_pure (wpAny_pure hq))
 | false =>
  simp only [Bool.false_eq_true,if_false]
  exact wpAny_pure (wpAny_pure (wpAny_pure hq))
section
variable {X:Cx} {pos hpos np:Pos} {body suite:List Stmt} {b₀:Stmt} {n Dn:Str} {D:Addr} {i:Nat} {tb:(Value->Option Addr->L2.St->Hp->Prop)->TS} {th:TS}
noncomputable def Ends.unset (R:Ends) (i:Nat):Ends:={ nx:=fun σ H=>R.nx (σ.set i none) H,rt:=R.rt,bk:=fun σ H=>R.bk (σ.set i none) H,ct:=fun σ H=>R.ct (σ.set i none) H }
noncomputable def Iu (K:Frag) (D:Addr) (i:Nat) (tb:(Value->Option Addr->L2.St->Hp->Prop)->TS) (th:TS):TS:=fun R σ H =>
 ∃ Ex:Value->Option Addr->L2.St->Hp->Prop,tb Ex R σ H/\∀ C' d σ' H',Ex C' d σ' H'->∃ C,C' = .ref C/\PySem.W.mroIn K C (.ref D) = some true /\
  ∀ a,H' a = none->th (R.unset i) (σ'.set i (some (.ref a))) (upd H' a (XO a C d))
theorem Vn (hN:X.N.Nodup) (hi:X.N[i]? = some n) (hln:X.env.scope.names.lookup n = some .local) (hgD:Gl X Dn) (hmD:X.mg Dn = some (.ref D)) (qD:PySem.W.mroIn X.K D (.type "BaseException") = some true)
  (tyD:PySem.W.typeIn X.K (.ref D) = some (.type "type")) (hst:X.stack = X.env :: X.outer) (hfr:X.env.frame = some X.env.locals) (hex:X.ex = [])
  (hb:∀ pn' E' Ex,Ej (X.tryc pn' E') Ex->PSs (X.tryc pn' E') body (tb Ex)) (hh:∀ a E',PSs (X.marked a E') (b₀ :: suite) th) (hdb:(Dn == ("__debug__" : Str)) = false:=by decide) :
  PS X (.Try body [.ExceptHandler (some (.Name Dn np)) (some n) (b₀ :: suite) hpos] [] [] pos) (Iu X.K D i tb th):=by
 intro pins s σ H R I h
 obtain ⟨Ex,h1,h2⟩:=h
 refine wpAny_Try_except ?_
 have ends:∀ {Y:Cx} {pn:List (Addr × Obj)} {f:Flow} {s':Shared},(∀ {σ':L2.St} {H':Hp},Inv Y pn σ' H' s'->Inv X pins σ' H' s')->SP Y pn R f s'->SP X pins R f s':=fun {Y pn f s'} k q=>by
  cases f with
  | next=>obtain ⟨σ',H',J,z⟩:=q; exact ⟨σ',H',k J,z⟩
  | brk=>obtain ⟨σ',H',J,z⟩:=q; exact ⟨σ',H',k J,z⟩
  | cont=>obtain ⟨σ',H',J,z⟩:=q; exact ⟨σ',H',k J,z⟩
  | ret u=>obtain ⟨v,σ',H',J,z⟩:=q; exact ⟨v,σ',H',k J,z⟩
 refine wpAny_mono (hb (X.pn ++ pins) _ Ex ?_ [] s σ H R I.tryc h1) (fun f s1 q=>?_) fun _ _ z=>z
 rotate_left
 .have q':=ends (fun J=>J.untry) q
  cases f with
  | next=>exact wpAny_execs_nil q'
  | brk=>exact q'
  | cont=>exact q'
  | ret u=>exact q'
 intro pins' σ1 H1 s1 a C' H' s' B d J F ex
 have J0:Inv X pins σ1 H1 s1:=J.untry
 obtain ⟨C,rfl,qS,k⟩:=h2 C' d σ1 H' ex
 have F0:Fly X.prog X.w X.stack H1 s1 a (.ref C) H' s' B d:=F
 have fl0:qy B (X.env :: X.outer) a (.ref C) d .none s'.heap:=by rw [<- hst]; exact F0.fl
 show wpAny _ _ (noteFrame (.ref a) X.env) _ _ _
 refine FN (outer:=X.outer) (L:=X.env.locals) (I.ok.frames.trans (by rw [hst])) hfr fl0 fun h₄ hheld₄ sm₄=>?_
 refine Qw hheld₄ fun h₅ fl₅ sm₅=>?_
 have J5:Inv X pins σ1 H' { s' with heap:=h₅ }:=J0.flown F0 fl₅.1 (sm₄.trans sm₅)
 obtain ⟨oe,vs,he,hcls,_,hd⟩:=fl₅.first
 refine wpAny_handleBy_cons (codeAny_handlers_test ?_) (by intro q; cases q)
 refine nA (X:=X.marked a (fun _ _=>False)) J5.marked hgD hmD ?_ hdb
 refine Kr (K:=X.K) J5.kIn qD tyD he hcls qS ?_
 show codeAny _ _ _ _ _
 refine codeAny_handlers_suite_as ?_
 refine Qw fl₅ fun h₆ fl₆ sm₆=>?_
 have J6:Inv X pins σ1 H' { s' with heap:=h₆ }:=J0.flown F0 fl₆.1 ((sm₄.trans sm₅).trans sm₆)
 obtain ⟨oe6,vs6,he6,hcls6,hda,hd6⟩:=fl₆.first
 have na:H' a = none:=by
  cases q:H' a with
  | none=>rfl
  | some u =>
   obtain ⟨o',e'⟩:=(F0.hok a u q).there
   have y:=F0.trk q e'
   rw [F0.fl.2.1] at y; cases y
 have ns:X.s₀.heap.get? a = none:=by
  cases q:X.s₀.heap.get? a with
  | none=>rfl
  | some o =>
   obtain ⟨⟨u,z⟩,_⟩:=J0.old hex q
   rw [F0.new] at z; cases z
 have nL:a ≠ X.env.locals:=fun z=>by
  obtain ⟨m,⟨o,es,ep,e,dd,_⟩,_⟩:=J6.loc
  rw [<- z] at e
  have e':h₆.get? a = some o:=e
  rw [he6] at e'; cases e'; rw [hd6] at dd; cases dd
 have nC:∀ x c,X.env.cells.lookup x = some c->c ≠ a:=fun x c e z=>by
  obtain ⟨v,o,e',dd⟩:=J6.cell x c e
  rw [z] at e'
  have e2:h₆.get? a = some o:=e'
  rw [he6] at e2; cases e2; rw [hd6] at dd; cases dd
 have nP:∀ p ∈ X.pn ++ pins,p.1 ≠ a:=fun p hp z=>by
  have:=(J0.pin p hp).1
  rw [z,F0.new] at this; cases this
 have okx:dz X.prog X.w (upd H' a (XO a C d)) h₆ a (XO a C d):=⟨⟨oe6,he6,hcls6,hda,vs6,hd6⟩,⟨oe6,he6⟩,fun g1 g2 ⟨o,e1,e2⟩ kk=>⟨o,kk o e1,e2⟩⟩
 have J7:Inv X pins σ1 (upd H' a (XO a C d)) { s' with heap:=h₆ }:=J6.track na ns nL nC nP okx
 refine um (X:=X.marked a (fun _ _=>False)) J7.marked hN hi (.inl hln) (v:=.ref a) rfl (fun s8 J8=>?_) (.inr hln)
 have J8':Inv X pins (σ1.set i (some (.ref a))) (upd H' a (XO a C d)) s8:=J8.unmarked I.ok
 refine wpAny_mono (hh a _ pins s8 _ _ _ J8'.marked (k a na)) (fun f s9 q=>?_) fun _ _ z=>z
 cases f with
 | next =>
  obtain ⟨σ',H2,J9,z⟩:=q
  exact (J9.unmarked I.ok).unname hN hi hln fun s10 J10=>⟨_,_,J10,z⟩
 | brk =>
  obtain ⟨σ',H2,J9,z⟩:=q
  exact (J9.unmarked I.ok).unname hN hi hln fun s10 J10=>⟨_,_,J10,z⟩
 | cont =>
  obtain ⟨σ',H2,J9,z⟩:=q
  exact (J9.unmarked I.ok).unname hN hi hln fun s10 J10=>⟨_,_,J10,z⟩
 | ret u =>
  obtain ⟨v,σ',H2,J9,rv,z⟩:=q
  exact (J9.unmarked I.ok).unname hN hi hln fun s10 J10=>⟨v,_,_,J10,rv,z⟩
end
end L2
namespace L2
open PySem PySem.Spec PyProof.Rows
structure R8 (K:Frag) (C:Addr):Prop where
 ga:PySem.W.findIn K (.ref C) "__getattribute__" = some (some (.builtin "BaseException.__getattribute__"))
 gn:PySem.W.findIn K (.ref C) "__getattr__" = some none
 cl:PySem.W.findIn K (.ref C) "__class__" = some (some (.builtin "object.__class__"))
 mo:PySem.W.mroIn K C (.type "object") = some true
 mb:PySem.W.mroIn K C (.type "BaseException") = some true
section
variable {prog:Program} {w:World} {A:Around} {E:Value->Shared->Prop} {h:Heap} {g:Array GenState} {d:Drawn} {t:Nat} {os:OsState} {a C:Addr} {o:Obj} {K:Frag}
theorem yh {M:Model} (hx:h.get? a = some o) (hc:o.cls = .ref C):PySem.W.Looks M h (typeOf (.ref a)) (.ref C):=by
 intro A' Q' E' s' k q
 rw [<- hc] at q
 unfold typeOf
 exact wpAny_bind (wpAny_loadPart (k _ _ hx) (wpAny_pure q))
theorem Jw {M:Model} {nameV:Value} {Q:Unit->Shared->Prop} (X:K.In h) (T:R8 K C) (hx:h.get? a = some o) (hc:o.cls = .ref C) (hq:Q () ⟨h,g,d,t,os⟩) :
  wpAny M A (checkBuiltinCall "BaseException.__getattribute__" ⟨[.ref a,nameV],[]⟩) Q E ⟨h,g,d,t,os⟩:=by
 have hk:builtinKind "BaseException.__getattribute__" = some .slot:=by decide +kernel
 have hsplit:splitId "BaseException.__getattribute__" = some ("BaseException", "__getattribute__"):=by decide +kernel
 have ha:=F.args_bexc_ga (.ref a) nameV
 have LT:=yh (M:=M) hx hc
 have LB:=PySem.W.looks_mroIn (M:=M) X T.mb
 simp only [checkBuiltinCall,hk,hsplit]
 refine wpAny_bind ?_
 unfold isInstance
 repeat (first | with_reducible refine LT.at ?_ | with_reducible refine LB.at ?_ | (with_reducible refine wpAny_loadPart_at hx ?_; rw [hc]) | wp_step)
 exact hq
end
end L2
namespace L2
open PySem PySem.Spec PyProof.Rows
noncomputable def yW (cells:List (Str × Addr)):List (Str × NameKind)->List (Str × Addr)->List (Str × Addr)
 | [],acc=>acc
 | (n,k) :: r,acc=>yW cells r (if k == .free then (n,(cells.lookup n).getD 0) :: acc else acc)
theorem Oh {scope:Scope} {env:Env} (h:∀ y ∈ scope.names,y.2 = .free->∃ c,env.cells.lookup y.1 = some c):closureFor scope env = pure (yW env.cells scope.names []):=by
 unfold closureFor
 have go:∀ (l:List (Str × NameKind)) (acc:List (Str × Addr)),(∀ y ∈ l,y.2 = .free->∃ c,env.cells.lookup y.1 = some c) ->
   (forIn l acc (fun (x:Str × NameKind) (r:List (Str × Addr))=>if (x.2 == NameKind.free) = true then (do let a <- cellOf env x.1; pure (ForInStep.yield ((x.1,a) :: r))) else pure (ForInStep.yield r)):Sem (List (Str × Addr))) = pure (yW env.cells l acc):=by
  intro l
  induction l with
  | nil=>intro acc _; rfl
  | cons y r ih =>
   intro acc hy
   obtain ⟨n,k⟩:=y
   rw [List.forIn_cons]
   by_cases hk:k = .free
   .subst hk
    obtain ⟨c,hc⟩:=hy (n,.free) aO rfl
    have e1:cellOf env n = pure c:=by unfold cellOf; rw [show env.cells.lookup n = some c from hc]
    simp only [beq_self_eq_true,if_true,e1,pure_bind]
    rw [ih _ fun z hz=>hy z (aJ _ hz)]
    show pure _ = pure (yW env.cells r (if (NameKind.free == NameKind.free) = true then (n,(env.cells.lookup n).getD 0) :: acc else acc))
    rw [show env.cells.lookup n = some c from hc]
    rfl
   .have hb:(k == NameKind.free) = false:=by simpa using hk
    simp only [hb,Bool.false_eq_true,if_false,pure_bind]
    rw [ih _ fun z hz=>hy z (aJ _ hz)]
    show pure _ = pure (yW env.cells r (if (k == NameKind.free) = true then (n,(env.cells.lookup n).getD 0) :: acc else acc))
    rw [hb]
    rfl
 have e:=go scope.names [] h
 show (forIn scope.names [] (fun (x:Str × NameKind) (r:List (Str × Addr))=>if (x.2 == NameKind.free) = true then (do let a <- cellOf env x.1; pure (ForInStep.yield ((x.1,a) :: r))) else pure (ForInStep.yield r)):Sem (List (Str × Addr))) >>= (fun cs=>pure cs) = _
 rw [e]
 rfl
theorem LC {cells:List (Str × Addr)} : ∀ {names:List (Str × NameKind)} {acc:List (Str × Addr)} {x:Str} {c:Addr},(∀ y ∈ names,y.2 = .free->∃ c,cells.lookup y.1 = some c)->(x,c) ∈ yW cells names acc->(x,c) ∈ acc\/cells.lookup x = some c
 | [],_,_,_,_,h=>.inl h
 | (n,k) :: r,acc,x,c,hf,h=>by
  unfold yW at h
  rcases LC (fun y hy=>hf y (aJ _ hy)) h with z | z
  .by_cases hk:k = .free
   .subst hk
    simp only [beq_self_eq_true,if_true] at z
    rcases List.mem_cons.mp z with e | e
    .obtain ⟨c',hc'⟩:=hf (n,.free) aO rfl
     cases e
     rw [show cells.lookup n = some c' from hc']
     exact .inr rfl
    .exact .inl e
   .have hb:(k == NameKind.free) = false:=by simpa using hk
    simp only [hb,Bool.false_eq_true,if_false] at z
    exact .inl z
  .exact .inr z
theorem K6 {cells:List (Str × Addr)} : ∀ {names:List (Str × NameKind)} {acc:List (Str × Addr)} {x:Str},((x,NameKind.free) ∈ names\/∃ c,(x,c) ∈ acc)->∃ c,(x,c) ∈ yW cells names acc
 | [],_,_,h=>by
  rcases h with h | h
  .cases h
  .exact h
 | (n,k) :: r,acc,x,h=>by
  unfold yW
  refine K6 ?_
  rcases h with h | ⟨c,h⟩
  .rcases List.mem_cons.mp h with e | e
   .cases e
    exact .inr ⟨_,by simp only [beq_self_eq_true,if_true]; exact aO⟩
   .exact .inl e
  .refine .inr ⟨c,?_⟩
   split
   .exact aJ _ h
   .exact h
theorem oK {α:Type} {x:Str} {c:α} : ∀ {l:List (Str × α)},(x,c) ∈ l->∃ c',l.lookup x = some c'
 | (y,d) :: r,h=>by
  rw [List.lookup_cons]
  cases hb:x == y with
  | true=>exact ⟨d,rfl⟩
  | false =>
   rcases List.mem_cons.mp h with e | e
   .cases e; simp at hb
   .exact oK e
section
variable {X:Cx} {elt iter:Expr} {x:Str} {px pos:Pos} {scope:Scope} {wi:TI} {te:TE}
theorem Inv.nostk' {pins:List (Addr × Obj)} {σ:L2.St} {H:Hp} {s:Shared} (I:Inv X pins σ H s) {b:Addr} (h1:b ≠ X.env.locals) (h2:b ∉ X.fs):b ∉ frs X.stack:=fun z=>by
 rcases List.mem_cons.mp (I.stkSub b z) with e | e
 .exact h1 e
 .exact h2 e
theorem wU {env:Env} : ∀ {names:List (Str × NameKind)} {y:Str},(names.map fun (n,k)=>if (k == NameKind.free && env.scope.kind == .function && env.kindOf n == some .cell) then (n,NameKind.cell) else (n,k)).lookup y = some .cell \/
  (names.map fun (n,k)=>if (k == NameKind.free && env.scope.kind == .function && env.kindOf n == some .cell) then (n,NameKind.cell) else (n,k)).lookup y = some .free->(∀ z ∈ names,z.2 ≠ .cell)->(y,NameKind.free) ∈ names
 | [],y,h,_=>by rcases h with h | h <;> cases h
 | (n,k) :: r,y,h,hc=>by
  have ih:=@wU env r y
  simp only [List.map_cons] at h
  by_cases hcond:(k == NameKind.free && env.scope.kind == .function && env.kindOf n == some .cell) = true
  .rw [if_pos hcond] at h
   simp only [List.lookup_cons] at h
   cases hb:y == n with
   | true =>
    have hk:k = .free:=by
     simp only [Bool.and_eq_true,beq_iff_eq] at hcond
     exact hcond.1.1
    have:y = n:=by simpa using hb
    subst this hk
    exact aO
   | false =>
    rw [hb] at h
    exact aJ _ (ih h fun z hz=>hc z (aJ _ hz))
  .rw [if_neg hcond] at h
   simp only [List.lookup_cons] at h
   cases hb:y == n with
   | true =>
    rw [hb] at h
    have:y = n:=by simpa using hb
    subst this
    rcases h with h | h
    .exact absurd (Option.some.inj h) (hc (y,k) aO)
    .have:k = .free:=Option.some.inj h
     subst this
     exact aO
   | false =>
    rw [hb] at h
    exact aJ _ (ih h fun z hz=>hc z (aJ _ hz))
end
end L2
namespace L2
open PySem PySem.Spec PyProof.Rows
section
variable {X:Cx}
noncomputable def aaU (neg:Bool):R2:=fun x y H Q=>∃ b,y = .bl b/\Q (.bl (if neg then !decide (x = .bl b) else decide (x = .bl b))) H
noncomputable def eqF:List V->List V->Bool
 | [],[]=>true
 | x :: xs,y :: ys=>eqV x y && eqF xs ys
 | _,_=>false
theorem Gp:∀ (xs ys:List V),(((List.range (min xs.length ys.length)).all fun j=>eqV (xs.getD j .non) (ys.getD j .non)) && (xs.length == ys.length)) = eqF xs ys
 | [],[]=>rfl
 | [],y :: ys=>by simp [eqF]
 | x :: xs,[]=>by simp [eqF]
 | x :: xs,y :: ys=>by
  have ih:=Gp xs ys
  unfold eqF
  rw [<- ih]
  have e:min (x :: xs).length (y :: ys).length = min xs.length ys.length + 1:=by simp only [List.length_cons]; omega
  rw [e,List.range_succ_eq_map,List.all_cons,List.all_map]
  have e2:((x :: xs).length == (y :: ys).length) = (xs.length == ys.length):=by simp
  rw [e2]
  simp only [List.getD_cons_zero,Function.comp_def,List.getD_cons_succ,Bool.and_assoc]
theorem Ko {xs:List V} (f:xs.all o8 = true) {j:Nat} {x:V} (e:xs[j]? = some x):o8 x = true:=List.all_eq_true.mp f x (aC e)
theorem Vd {A:Around} {s:Shared} {xs ys:List V} {us ws:List Value} (ru:Vals xs us) (rw':Vals ys ws) (fx:xs.all o8 = true) (fy:ys.all o8 = true) (j:Nat) (h1:j < us.toArray.size) (h2:j < ws.toArray.size) :
  SeqAt.EqAt A s us.toArray[j] ws.toArray[j] (eqV (xs.getD j .non) (ys.getD j .non)):=by
 have l1:=ru.length
 have l2:=rw'.length
 simp only [aZ] at h1 h2
 have g1:xs[j]? = some (xs.getD j .non):=by rw [aA,aj (by omega)]; rfl
 have g2:ys[j]? = some (ys.getD j .non):=by rw [aA,aj (by omega)]; rfl
 obtain ⟨u,e1,r1⟩:=ru.get g1
 obtain ⟨v,e2,r2⟩:=rw'.get g2
 have e1':us.toArray[j] = u:=by simp only [List.getElem_toArray]; exact (ao.mp e1).2
 have e2':ws.toArray[j] = v:=by simp only [List.getElem_toArray]; exact (ao.mp e2).2
 rw [e1',e2']
 exact abr r1 r2 (Ko fx g1) (Ko fy g2)
noncomputable def eqH (H:Hp) (x y:V):Option Bool :=
 match x,y with
 | .ref a,.ref b=>match H a,H b with
  | some (.tup xs),some (.tup ys)=>if xs.all o8 && ys.all o8 then some (eqF xs ys) else none
  | some (.lst xs),some (.lst ys)=>if xs.all o8 && ys.all o8 then some (eqF xs ys) else none
  | some (.lst _),some (.tup _)=>some false
  | some (.tup _),some (.lst _)=>some false
  | _,_=>none
 | .ref a,y=>if o8 y then (match H a with
  | some (.tup _)=>some false
  | some (.lst _)=>some false
  | _=>none) else none
 | x,.ref b=>if o8 x then (match H b with
  | some (.tup _)=>some false
  | some (.lst _)=>some false
  | _=>none) else none
 | x,y=>if Mt x y then some (decide (x = y)) else none
noncomputable def aaQ:R2:=fun x y H Q=>∃ k,eqH H x y = some k/\Q (.bl k) H
theorem Inv.tupIs {pins:List (Addr × Obj)} {σ:L2.St} {H:Hp} {s:Shared} {a:Addr} {xs:List V} (I:Inv X pins σ H s) (h:H a = some (.tup xs)):∃ its,Vals xs its/\IsTup s.heap a its.toArray/\s.heap.IsTuple a its.toArray:=by
 obtain ⟨its,rv,ht,_⟩:=I.tuple (SqT.of h)
 exact ⟨its,rv,ht,ht⟩
theorem Inv.lstIs {pins:List (Addr × Obj)} {σ:L2.St} {H:Hp} {s:Shared} {a:Addr} {xs:List V} (I:Inv X pins σ H s) (h:H a = some (.lst xs)):∃ its,Vals xs its/\s.heap.IsList a its.toArray:=by
 obtain ⟨its,rv,ht,_⟩:=I.list (SqL.of h)
 exact ⟨its,rv,ht.isList⟩
theorem K5 {A:Around} {s:Shared} {xs ys:List V} {us ws:List Value} (ru:Vals xs us) (rw':Vals ys ws) (f:(xs.all o8 && ys.all o8) = true) (j:Nat) (h1:j < us.toArray.size) (h2:j < ws.toArray.size) :
  SeqAt.EqAt A s us.toArray[j] ws.toArray[j] (eqV (xs.getD j .non) (ys.getD j .non)):=by
 rw [Bool.and_eq_true] at f
 exact Vd ru rw' f.1 f.2 j h1 h2
theorem wG:Ej X (fun _ _ _ _=>False):=fun _ _ _ _ _ _ _ _ _ _ _ _ z=>z.elim
noncomputable def IsX (H:Hp) (a C:Addr):Prop:=∃ d,H a = some (XO a C d)
noncomputable def Vx (C D:Addr) (b:Bool):List V->Hp->VK->Prop:=fun xs H Q=>∃ a,xs = [.ref a,.ref D]/\IsX H a C/\Q (.bl b) H
noncomputable def Vz (C:Addr) (T:String) (b:Bool):List V->Hp->VK->Prop:=fun xs H Q=>∃ a,xs = [.ref a,.ty T]/\IsX H a C/\Q (.bl b) H
end
end L2
namespace L2
open PySem PySem.Spec PyProof.Rows
noncomputable def N7 (tk tv:TE):TE:=fun σ H Q=>∀ p,H p = none->tk σ (upd H p (.dK [])) fun x H1=>∃ i,x = .int i/\tv σ H1 fun y H2=>H2 p = some (.dK [])/\Q (.ref p) (upd H2 p (.dK [(.inl i,y)]))
open PySem.SeqAt in
section
variable {X:Cx}
structure PEB (X:Cx) (e:Expr) (t:TE):Prop where
 out:PE X e t
structure PAB (X:Cx) (es:List Expr) (t:TA):Prop where
 out:PA X es t
structure PSB (X:Cx) (st:Stmt) (t:TS):Prop where
 out:PS X st t
structure Y_ (X:Cx) (b:List Stmt) (t:TS):Prop where
 out:PSs X b t
theorem uP {i j pos} : PEB X (.Constant (.int i) j pos) (tC (.int i)):=⟨bF⟩
theorem aae {es:List Expr} {t:TA} {pos:Pos} (h:PAB X es t):PEB X (.List es pos) (Uw t):=⟨ji h.out⟩
theorem Yg:PAB X [] sV:=⟨bG⟩
theorem Gf {c:Const} {k:Nat} {p:Pos} {es:List Expr} {te:TE} {t:TA} (ha:PEB X (.Constant c k p) te) (hr:PAB X es t):PAB X (.Constant c k p :: es) (pY te t):=⟨bC ha.out hr.out rfl⟩
theorem aap {i:Nat} {x:Str} {e:Expr} {te:TE} {pos pos':Pos} (hN:X.N.Nodup) (hi:X.N[i]? = some x) (hx:Loc X.env.scope x) (he:PEB X e te) (hs:swapsWith e (some (.Name x pos')) pos.line X.env = pure false:=by rfl) (hf:X.fn x = true\/X.env.scope.names.lookup x = some .local:=by first | exact .inl rfl | exact .inr rfl | assumption) :
  PSB X (.Assign [.Name x pos'] e pos) (El te (cN i)):=⟨bZ hN hi hx he.out hs hf⟩
theorem cB {st:Stmt} {rest:List Stmt} {t u:TS} (h1:PSB X st t) (h2:Y_ X rest u):Y_ X (st :: rest) (qd t u):=⟨bK h1.out h2.out⟩
end
section
variable {P:Program} {w:World} {K:Frag} {mg:Str->Option Value} {base:Heap}
theorem Fun.okB {x qual:Str} {st:Stmt} {f:Addr} {fd:FuncData} {N ps:List Str} {k:Nat} {sp:Sp} (F:Fun K x qual st f fd) (S:bY N ps (bM st)) (len:∀ vs H Q E,sp vs H Q E->vs.length = ps.length)
  (hbody:∀ (cdv:Value) (A:Around) (outer:List Env) (s:Shared) (H:Hp) (vs:List V) (Q:VK) (E:XK),gG k (A.deeper (envOfC qual (bM st) s.heap.objs.size f cdv))->sp vs H Q E ->
   ∃ t,Y_ (Ca CX0 P w K mg base N qual (bM st) f cdv A outer s H E).nox (fM st) t/\t { nx:=fun _ H'=>Q .non H',rt:=Q } (L2.start N vs) H):cD P w K mg base CX0 (k + 1) f fd ps sp :=
 F.ok S len fun cdv A outer s H vs Q E hr hsp=>let ⟨t,h1,h2⟩:=hbody cdv A outer s H vs Q E hr hsp; ⟨t,h1.out,h2⟩
end
end L2
namespace L2
open PySem PySem.Spec PyProof.Rows
mutual
inductive Shows (H:Hp):V->PyData->Prop
 | non:Shows H .non .none
 | bl (b:Bool):Shows H (.bl b) (.bool b)
 | int (i:Int):Shows H (.int i) (.int i)
 | str (x:Str):Shows H (.str x) (.str x)
 | lst {a:Addr} {xs:List V} {ds:List PyData} : H a = some (.lst xs)->dW H xs ds->Shows H (.ref a) (.list ds)
 | tup {a:Addr} {xs:List V} {ds:List PyData} : H a = some (.tup xs)->dW H xs ds->Shows H (.ref a) (.tuple ds)
inductive dW (H:Hp):List V->List PyData->Prop
 | nil:dW H [] []
 | cons {x:V} {xs:List V} {d:PyData} {ds:List PyData} : Shows H x d->dW H xs ds->dW H (x :: xs) (d :: ds)
end
mutual
theorem Shows.same {H H':Hp} (S:Same H H'):∀ {x:V} {d:PyData},Shows H x d->Shows H' x d
 | _,_,.non=>.non
 | _,_,.bl b=>.bl b
 | _,_,.int i=>.int i
 | _,_,.str x=>.str x
 | _,_,.lst e h=>.lst (S _ _ e) (dW.same S h)
 | _,_,.tup e h=>.tup (S _ _ e) (dW.same S h)
theorem dW.same {H H':Hp} (S:Same H H'):∀ {xs:List V} {ds:List PyData},dW H xs ds->dW H' xs ds
 | _,_,.nil=>.nil
 | _,_,.cons h t=>.cons (Shows.same S h) (dW.same S t)
end
theorem dW.ints (H:Hp):∀ ns:List Int,dW H (ns.map V.int) (ns.map PyData.int)
 | []=>.nil
 | n :: ns=>.cons (.int n) (dW.ints H ns)
section
variable {X:Cx} {pins:List (Addr × Obj)} {σ:L2.St} {H:Hp} {s:Shared}
mutual
theorem Inv.reads (I:Inv X pins σ H s):∀ {x:V} {d:PyData} {v:Value},Shows H x d->RelV x v->∃ as,Reads s.heap v d as
 | _,_,_,.non,r=>by cases r; exact ⟨_,.none⟩
 | _,_,_,.bl b,r=>by cases r; exact ⟨_,.bool b⟩
 | _,_,_,.int i,r=>by obtain ⟨t,rfl⟩:=r; exact ⟨_,.int i t⟩
 | _,_,_,.str x,r=>by obtain ⟨t,rfl⟩:=r; exact ⟨_,.str x t⟩
 | _,_,_,.lst e h,r=>by
  cases r
  obtain ⟨its,rv,⟨o,ho,hc,n,hd⟩⟩:=I.lstIs e
  obtain ⟨as,q⟩:=Inv.readsAll I h rv
  exact ⟨_,.list ho hc hd q⟩
 | _,_,_,.tup e h,r=>by
  cases r
  obtain ⟨its,rv,_,⟨o,ho,hc,n,hd⟩⟩:=I.tupIs e
  obtain ⟨as,q⟩:=Inv.readsAll I h rv
  exact ⟨_,.tuple ho hc hd q⟩
theorem Inv.readsAll (I:Inv X pins σ H s):∀ {xs:List V} {ds:List PyData} {vs:List Value},dW H xs ds->Vals xs vs->∃ as,ReadsAll s.heap vs ds as
 | _,_,_,.nil,r=>by cases r; exact ⟨_,.nil⟩
 | _,_,_,.cons h t,r=>by
  cases r with
  | cons r1 r2 =>
   obtain ⟨a,q1⟩:=Inv.reads I h r1
   obtain ⟨b,q2⟩:=Inv.readsAll I t r2
   exact ⟨_,.cons q1 q2⟩
end
noncomputable def ZV (neg:Bool):R2:=fun x y H Q=>∃ d e,Shows H x d/\Shows H y e/\SeqAt.shaped d = true/\SeqAt.shaped e = true/\Q (.bl (if neg then !PyData.eqv d e else PyData.eqv d e)) H
theorem VH (hu:X.A.units + 64 < cLine):OpR X (compareOp .NotEq) (ZV true):=by
 intro pins s σ H x y v u Q I rx ry h
 obtain ⟨d,e,hd,he,sd,se,q⟩:=h
 obtain ⟨as,ra⟩:=I.reads hd rx
 obtain ⟨bs,rb⟩:=I.reads he ry
 exact SeqAt.compareNe_shaped ra rb sd se hu ⟨.bl _,H,I,rfl,q⟩
noncomputable def Px:List V->Hp->VK->Prop:=fun xs H Q=>∃ (l:Addr) (ns:List Int),xs = [.ref l]/\H l = some (.lst (ns.map V.int))/\Q (.int ns.sum) H
theorem yN (hc:X.calm = true):eZ X (.builtin "sum") Px:=by
 intro pins s σ H xs us Q I r h
 obtain ⟨l,ns,rfl,hl,q⟩:=h
 obtain ⟨u,rfl,ru⟩:=r.one
 cases ru
 obtain ⟨its,rv,p⟩:=I.lstIs hl
 have hI:=intsAre_of rv
 obtain ⟨xs,e⟩:=hI.allInts.items
 have hn:=hI.numsOf
 rw [show its = its.toArray.toList from rfl,e,nums_intItems] at hn
 rw [e] at p
 refine sum_intListG (I.ok.hd hc) p fun h' tk t' k=>⟨.int ns.sum,H,I.kept k,?_,q⟩
 rw [preSum_eq,aL (by simp),hn]
 exact ⟨_,rfl⟩
noncomputable def UJ:List V->Hp->VK->Prop:=fun xs H Q=>∃ (l:Addr) (ns:List Int),xs = [.ref l]/\H l = some (.lst (ns.map V.int))/\0 < ns.length/\∀ M,M ∈ ns->(∀ a,a ∈ ns->a <= M)->Q (.int M) H
noncomputable def Ve:List V->Hp->VK->Prop:=fun xs H Q=>∃ (l:Addr) (ns:List Int),xs = [.ref l]/\H l = some (.lst (ns.map V.int))/\0 < ns.length/\∀ M,M ∈ ns->(∀ a,a ∈ ns->M <= a)->Q (.int M) H
noncomputable def aa4 (te ts:TE):TE:=fun σ H Q=>te σ H fun x H1=>ts σ H1 fun y H2=>y = .int (-1)/\∃ a xs,x = .ref a/\H2 a = some (.lst xs)/\∀ p,H2 p = none->Q (.ref p) (upd H2 p (.lst xs.reverse))
end
end L2
namespace L2
open PySem PySem.Spec PyProof.Rows
section
variable {K:Frag} {tl:TE} {ta:TA} {g:TG} {tb:TS} {D:Ends} {σ:L2.St} {H:Hp}
theorem Ry (h:tl σ H fun x H1=>∃ a xs,x = .ref a/\H1 a = some (.lst xs)/\∃ J:Nat->L2.St->Hp->Prop,J 0 σ H1 /\
   (∀ k x σ' H',xs[k]? = some x->J k σ' H'->H' a = some (.lst xs)->g x σ' H' fun σ2 H2=>tb { D with nx:=fun σ3 H3=>H3 a = some (.lst xs)/\J (k + 1) σ3 H3,ct:=fun σ3 H3=>H3 a = some (.lst xs)/\J (k + 1) σ3 H3,bk:=D.nx } σ2 H2) /\
   ∀ σ' H',J xs.length σ' H'->H' a = some (.lst xs)->D.nx σ' H') (hm:∀ (P Q:V->Hp->Prop),(∀ x H',P x H'->Q x H')->tl σ H P->tl σ H Q):NQ (Dt K tl) g tb D σ H:=by
 refine hm _ _ ?_ h
 rintro x H1 ⟨a,xs,rfl,hx,J,j0,step,fin⟩
 refine ⟨a,rfl,⟨xs,.of hx⟩,fun k m σ' H'=>k <= xs.length/\m = xs.length - k/\H' a = some (.lst xs)/\J k σ' H',⟨_,bw _,rfl,hx,j0⟩,?_⟩
 rintro k m σ' H' ⟨hk,rfl,hx',j⟩
 by_cases e:k = xs.length
 .subst e
  exact .inl ⟨⟨xs,.of hx',aG _⟩,fin σ' H' j hx'⟩
 .have hlt:k < xs.length:=by omega
  have e1:xs[k]? = some xs[k]:=aj hlt
  refine .inr ⟨⟨xs,_,.of hx',e1⟩,fun σ3 H3=>H3 a = some (.lst xs)/\J (k + 1) σ3 H3,fun σ3 H3 ⟨z1,z2⟩=>⟨xs.length - (k + 1),by omega,by omega,rfl,z1,z2⟩,?_⟩
  rintro x H'' ⟨rfl,y⟩
  exact step k x σ' H'' (y xs (.of hx')) j hx'
theorem RW (h:ta σ H fun vs H1=>∃ n:Nat,vs = [.int n]/\n < 2 ^ 61/\∃ J:Nat->L2.St->Hp->Prop,J 0 σ H1 /\
   (∀ (k:Nat) σ' H',k < n->J k σ' H'->g (.int k) σ' H' fun σ2 H2=>tb { D with nx:=J (k + 1),ct:=J (k + 1),bk:=D.nx } σ2 H2)/\∀ σ' H',J n σ' H'->D.nx σ' H')
  (hm:∀ (P Q:List V->Hp->Prop),(∀ x H',P x H'->Q x H')->ta σ H P->ta σ H Q):NQ (KY ta) g tb D σ H:=by
 refine hm _ _ ?_ h
 rintro x H1 ⟨n,rfl,hn,J,j0,step,fin⟩
 refine ⟨n,rfl,by omega,by omega,?_⟩
 rw [Int.toNat_natCast]
 refine ⟨fun k m σ' H'=>k <= n/\m = n - k/\J k σ' H',⟨_,bw _,rfl,j0⟩,?_⟩
 rintro k m σ' H' ⟨hk,rfl,j⟩
 by_cases e:k = n
 .subst e
  exact .inl ⟨aG _,fin σ' H' j⟩
 .have hlt:k < n:=by omega
  refine .inr ⟨hlt,J (k + 1),fun σ3 H3 z=>⟨n - (k + 1),by omega,by omega,rfl,z⟩,?_⟩
  rintro x H'' ⟨rfl,rfl⟩
  rw [Int.zero_add]
  exact step k σ' H'' hlt j
end
end L2
namespace L2
open PySem PySem.Spec PyProof.Rows
section
variable {X:Cx}
noncomputable def tM (t:TE):TE:=fun σ H Q=>∃ R:VK,t σ H R/\∀ x H',R x H'->Q x H'
noncomputable def tMA (t:TA):TA:=fun σ H Q=>∃ R:List V->Hp->Prop,t σ H R/\∀ x H',R x H'->Q x H'
theorem PE.mono {a:Expr} {t:TE} (h:PE X a t):PE X a (tM t):=fun pins s σ H Q I ⟨R,h1,h2⟩ =>
 thn (h pins s σ H R I h1) fun v s' ⟨x,H',I',r,q⟩=>⟨x,H',I',r,h2 x H' q⟩
theorem PA.mono {es:List Expr} {t:TA} (h:PA X es t):PA X es (tMA t):=fun pos pins s σ H Q I ⟨R,h1,h2⟩ =>
 thn (h pos pins s σ H R I h1) fun v s' ⟨x,H',I',r,q⟩=>⟨x,H',I',r,h2 x H' q⟩
theorem PE.imp {a:Expr} {t t':TE} (h:PE X a t) (i:∀ σ H Q,t' σ H Q->t σ H Q):PE X a t':=fun pins s σ H Q I q=>h pins s σ H Q I (i σ H Q q)
theorem aaz {t:TE} {σ:L2.St} {H:Hp} {Q:VK} (h:t σ H Q):tM t σ H Q:=⟨Q,h,fun _ _ q=>q⟩
theorem iD {K:Frag} {tl:TE} {g:TG} {tb:TS} {D:Ends} {σ:L2.St} {H:Hp} (h:tl σ H fun x H1=>∃ a xs,x = .ref a/\H1 a = some (.lst xs)/\∃ J:Nat->L2.St->Hp->Prop,J 0 σ H1 /\
   (∀ k x σ' H',xs[k]? = some x->J k σ' H'->H' a = some (.lst xs)->g x σ' H' fun σ2 H2=>tb { D with nx:=fun σ3 H3=>H3 a = some (.lst xs)/\J (k + 1) σ3 H3,ct:=fun σ3 H3=>H3 a = some (.lst xs)/\J (k + 1) σ3 H3,bk:=D.nx } σ2 H2) /\
   ∀ σ' H',J xs.length σ' H'->H' a = some (.lst xs)->D.nx σ' H'):NQ (Dt K (tM tl)) g tb D σ H :=
 Ry (aaz h) fun _ _ i ⟨R,a,b⟩=>⟨R,a,fun x H' q=>i x H' (b x H' q)⟩
theorem qj {ta:TA} {g:TG} {tb:TS} {D:Ends} {σ:L2.St} {H:Hp} (h:ta σ H fun vs H1=>∃ n:Nat,vs = [.int n]/\n < 2 ^ 61/\∃ J:Nat->L2.St->Hp->Prop,J 0 σ H1 /\
   (∀ (k:Nat) σ' H',k < n->J k σ' H'->g (.int k) σ' H' fun σ2 H2=>tb { D with nx:=J (k + 1),ct:=J (k + 1),bk:=D.nx } σ2 H2)/\∀ σ' H',J n σ' H'->D.nx σ' H'):NQ (KY (tMA ta)) g tb D σ H :=
 RW (ta:=tMA ta) ⟨_,h,fun _ _ q=>q⟩ fun _ _ i ⟨R,a,b⟩=>⟨R,a,fun x H' q=>i x H' (b x H' q)⟩
noncomputable def Yq (to:TE) (t:TA):TE:=fun σ H Q=>to σ H fun x H1=>∃ l xs,x = .ref l/\H1 l = some (.lst xs)/\t σ H1 fun vs H2=>∃ y ys,vs = [y]/\H2 l = some (.lst ys)/\ys.length < sizeLine/\Q .non (upd H2 l (.lst (ys ++ [y])))
theorem pq {o e:Expr} {to:TE} {t:TA} {apos cpos:Pos} (ho:PE X o to) (ha:PA X [e] t) (hb:attributeBase o "append" X.env (eval o X.env) = eval o X.env:=by rfl)
  (hf:((backTo cpos (starEach [e] X.env)).all (fun x=>!x.1) && (backToKw cpos (keywordEach [] X.env)).all (fun x=>x.1.isSome) && decide ([e].length + ([] : List Keyword).length + (if ([] : List Keyword).isEmpty then 0 else 1) < 30)) = true:=by rfl)
  (hl:(apos.endLine == cpos.line) = true:=by rfl) (hs:starEach [e] X.env = (false,eval e X.env) :: starEach [] X.env:=by rfl) (hp:(backTo cpos (starEach [] X.env)).any (·.1) = false:=by rfl) :
  PE X (.Call (.Attribute o "append" apos) [e] [] cpos) (Yq to t):=by
 refine (Ug PySem.F.plainAttrs_list PySem.F.slot_list_append PySem.F.type_list_append FP ho.mono ha.mono hb hf hl hs hp).imp fun σ H Q h=>?_
 refine ⟨_,h,?_⟩
 rintro x H1 ⟨l,xs,rfl,hx,h2⟩
 refine ⟨.inl ⟨rfl,_,SqL.of hx⟩,_,h2,?_⟩
 rintro vs H2 ⟨y,ys,rfl,hy,hz,q⟩
 exact ⟨l,ys,y,rfl,rfl,hy,hz,q⟩
noncomputable def aaP (to:TE):TE:=fun σ H Q=>to σ H fun x H1=>∃ l xs,x = .ref l/\H1 l = some (.lst xs)/\Q .non (upd H1 l (.lst []))
noncomputable def JN:List V->Hp->VK->Prop:=fun xs H Q=>∃ p ys,xs = [.ref p]/\H p = some (.lst ys)/\∀ l,H l = none->Q (.ref l) (upd H l (.lst ys))
theorem vM:eZ X (.type "list") JN:=GK.imp fun xs H Q ⟨p,ys,a,b,c⟩=>⟨p,ys,a,.inl (.of b),c⟩
end
mutual
theorem Nf:∀ ns:List Int,PyData.canLayAll0 (ns.map PyData.int) = true
 | []=>rfl
 | n :: ns=>by
  rw [List.map_cons]; unfold PyData.canLayAll0
  rw [Nf ns]; rfl
end
noncomputable def frD (f:Int × Int):PyData:=.tuple [.int f.1,.int f.2]
theorem Gs:∀ fs:List (Int × Int),PyData.canLayAll0 (fs.map frD) = true
 | []=>rfl
 | n :: ns=>by
  rw [List.map_cons]; unfold PyData.canLayAll0
  rw [Gs ns]; rfl
theorem Kc:∀ fs:List (Int × Int),PyData.depthAll (fs.map frD) <= 1
 | []=>bw _
 | n :: ns=>by
  rw [List.map_cons]; unfold PyData.depthAll
  have:=Kc ns
  have e:PyData.depth (frD n) = 1:=rfl
  rw [e]; omega
inductive FL (H:Hp):List V->List (Int × Int)->Prop
 | nil:FL H [] []
 | cons {p:Addr} {f:Int × Int} {xs:List V} {fs:List (Int × Int)} : H p = some (.tup [.int f.1,.int f.2])->FL H xs fs->FL H (.ref p :: xs) (f :: fs)
theorem FL.imp {H H':Hp} (h:∀ p a b,H p = some (.tup [.int a,.int b])->H' p = some (.tup [.int a,.int b])):∀ {xs:List V} {fs:List (Int × Int)},FL H xs fs->FL H' xs fs
 | _,_,.nil=>.nil
 | _,_,.cons e t=>.cons (h _ _ _ e) (FL.imp h t)
theorem FL.same {H H':Hp} (S:Same H H') {xs:List V} {fs:List (Int × Int)} (h:FL H xs fs):FL H' xs fs:=h.imp fun p _ _ e=>S p _ e
theorem FL.length {H:Hp} : ∀ {xs:List V} {fs:List (Int × Int)},FL H xs fs->xs.length = fs.length
 | _,_,.nil=>rfl
 | _,_,.cons _ t=>by rw [List.length_cons,List.length_cons,FL.length t]
theorem FL.get {H:Hp} {xs:List V} {fs:List (Int × Int)} {k:Nat} {x:V} (g:FL H xs fs) (h:xs[k]? = some x):∃ p f,x = .ref p/\fs[k]? = some f/\H p = some (.tup [.int f.1,.int f.2]):=by
 induction g generalizing k with
 | nil=>cases h
 | cons e t ih =>
  cases k with
  | zero=>cases h; exact ⟨_,_,rfl,rfl,e⟩
  | succ k=>exact ih h
theorem FL.append {H:Hp} : ∀ {xs ys:List V} {fs gs:List (Int × Int)},FL H xs fs->FL H ys gs->FL H (xs ++ ys) (fs ++ gs)
 | _,_,_,_,.nil,h=>h
 | _,_,_,_,.cons e t,h=>.cons e (FL.append t h)
theorem FL.one {H:Hp} {p:Addr} {a b:Int} (h:H p = some (.tup [.int a,.int b])):FL H [.ref p] [(a,b)]:=.cons (f:=(a,b)) h .nil
theorem FL.shows {H:Hp} : ∀ {xs:List V} {fs:List (Int × Int)},FL H xs fs->dW H xs (fs.map frD)
 | _,_,.nil=>.nil
 | _,_,.cons e t=>.cons (.tup e (.cons (.int _) (.cons (.int _) .nil))) (FL.shows t)
end L2
namespace L2
open PySem PySem.Spec PyProof.Rows
noncomputable def Its (x:Str):It:=⟨fun i _=>i < x.cps.size,fun i H v H'=>H' = H/\∃ c,x.cps[i]? = some c/\v = .str ⟨#[c]⟩,fun i _=>i = x.cps.size⟩
theorem KR {P:Program} {w:World} {K:Frag} {tg:Expr} (it:Addr) (x:Str) (t:Tok) (ty:String) (hty : ["enumerate", "zip", "dict_itemiterator", "dict_reverseitemiterator", "odict_iterator", "itertools.zip_longest", "itertools.pairwise"].contains ty = false)
  (W:∀ A:Around,A.handled = none->Walks P w A it [it] [it] x.cps.size (SignAt x) (fun i h=>h.IsStrIter it ty x t i))
  (hself:∀ (A:Around) (i:Nat) (s:Shared) (Q:Value->Shared->Prop) (E:Value->Shared->Prop),s.heap.IsStrIter it ty x t i->Q (.ref it) s->wpAny (model P w) A (pyIter (.ref it)) Q E s):Turn P w K tg (Its x) [it] it (fun i h=>h.IsStrIter it ty x t i) where
 mem:=by simp
 obj:=fun i h st b hb=>by
  have e:b = it:=by simpa using hb
  subst e
  obtain ⟨o,ho,_,hd⟩:=st
  exact ⟨o,ho,fun v z=>by rw [hd] at z; cases z⟩
 keep:=fun i h h' st k=>let ⟨o,ho,r⟩:=st; ⟨o,k it (by simp) o ho,r⟩
 item:=by
  intro X hP hw hK hc i pins s σ H E I hf st hg
  subst hP hw hK
  obtain ⟨f0,f1,f2,f3,f4,f5⟩:=hf it (by simp)
  refine (W X.A (I.ok.hd hc)).item i s _ _ hg st fun v h' tk hv st' kk=>?_
  obtain ⟨c,u,hx,rfl⟩:=hv
  have I1:Inv X pins σ H { s with heap:=h',toks:=tk }:=I.turned (fun b o hb e=>kk b o (by simpa using hb) e) f0 f1 f3 f4 f5
  obtain ⟨o,ho,hcl,hd⟩:=id st'
  exact ⟨_,rfl,Qq (s:={ s with heap:=h',toks:=tk }) ho hcl hd hty ⟨.str ⟨#[c]⟩,H,I1,⟨u,rfl⟩,⟨rfl,c,hx,rfl⟩,st',fun b hb=>(hf b hb).1⟩⟩
 done:=by
  intro X hP hw hK hc i pins s σ H E I hf st hg
  subst hP hw hK
  obtain ⟨f0,f1,f2,f3,f4,f5⟩:=hf it (by simp)
  have hg':i = x.cps.size:=hg
  subst hg'
  exact (W X.A (I.ok.hd hc)).done s _ _ st fun h' tk kk=>⟨rfl,I.turned (fun b o hb e=>kk b o (by simpa using hb) e) f0 f1 f3 f4 f5⟩
 self:=hself
section
variable {X:Cx} {tg:Expr}
noncomputable def acj (te:TE):TI:=fun σ H R=>te σ H fun v H1=>∃ x,v = .str x/\R (Its x) H1
theorem aaN {l:Expr} {tl:TE} (hl:PE X l tl):PI X tg l (acj tl):=by
 intro pins s σ H R I h
 refine thn (hl pins s σ H _ I h) fun v s1 ⟨x,H1,I1,r1,y,ey,q⟩=>?_
 subst ey
 obtain ⟨t,rfl⟩:=r1
 have fp:∀ b ∈ [s1.heap.objs.size],Ae X pins H1 b:=fun b hb=>by
  have e:b = s1.heap.objs.size:=by simpa using hb
  subst e
  exact I1.fpOk (aG _) (I1.hok.fresh (aG _))
 have k:∀ o:Obj,Inv X pins σ H1 { s1 with heap:=s1.heap.push o }:=fun o=>I1.kept (t':=s1.toks) fun b ob z=>aH _ z
 cases ha:y.cps.all (· < 128)
 .exact wpAny_pyIter_wide ha ⟨s1.heap.objs.size,[s1.heap.objs.size],_,Its y,H1,rfl,k _,KR _ y t "str_iterator" (by decide) (fun A hA=>Walks.strWide hA _ y t) (fun A i s Q E st h=>wpAny_pyIter_striter_wide st h),⟨_,aY _ rfl,rfl,rfl⟩,fp,q⟩
 .exact wpAny_pyIter_ascii ha ⟨s1.heap.objs.size,[s1.heap.objs.size],_,Its y,H1,rfl,k _,KR _ y t "str_ascii_iterator" (by decide) (fun A hA=>Walks.strAscii hA _ y t) (fun A i s Q E st h=>wpAny_pyIter_striter_ascii st h),⟨_,aY _ rfl,rfl,rfl⟩,fp,q⟩
end
noncomputable def Bs (x:Str) (lo hi:Option Int):Str:=⟨((x.cps.toList.drop (HT.sIx x.length 0 lo)).take (HT.sIx x.length x.length hi - HT.sIx x.length 0 lo)).toArray⟩
theorem strIdx (lo hi:Option Int) (n:Nat):Builtin.Str.strSliceIndices lo hi 1 n = (List.range (HT.sIx n n hi - HT.sIx n 0 lo)).map (HT.sIx n 0 lo + ·):=by
 rw [<- sliceRange_one]
 unfold Builtin.Str.strSliceIndices
 have h1:∀ (o:Option Int) (d:Nat),d <= n->(match o with
   | none=>(d:Int)
   | some i=>(let i:=if i < 0 then i + (n:Int) else i; if (1:Int) > 0 then max 0 (min i n) else max (-1) (min i (n - 1)))) = ((HT.sIx n d o:Nat):Int):=by
  intro o d hd
  cases o with
  | none=>rfl
  | some i =>
   simp only [HT.sIx,show (1:Int) > 0 by decide,if_true]
   by_cases h:i < 0
   .simp only [h,if_true] <;> omega
   .simp only [h,if_false] <;> omega
 have e1:=h1 lo 0 (bw _)
 have e2:=h1 hi n (aG _)
 simp only [show (1:Int) > 0 by decide,if_true] at e1 e2 ⊢
 rw [<- e1,<- e2]
 rfl
theorem Yj (x:Str) (lo hi:Option Int):(⟨((Builtin.Str.strSliceIndices lo hi 1 x.length).filterMap (x.cps[·]?)).toArray⟩ : Str) = Bs x lo hi:=by
 rw [strIdx,pick_run]; rfl
theorem O8 (x:Str) (lo hi:Option Int) (h:(Builtin.Str.strSliceIndices lo hi 1 x.length).length = x.length):Bs x lo hi = x:=by
 rw [strIdx,ak,List.length_range] at h
 have h2:=HT.aaW x.length x.length (aG _) hi
 unfold Bs
 have hx:x.length = x.cps.size:=rfl
 have e:x.cps.toList.length = x.length:=by simp [hx]
 by_cases z:x.length = 0
 .have:x.cps.toList = []:=List.length_eq_zero_iff.mp (by omega)
  rw [this]
  obtain ⟨⟨l⟩⟩:=x
  simp at this
  subst this
  simp
 .have e0:HT.sIx x.length 0 lo = 0:=by omega
  rw [e0,List.drop_zero,aL (by omega)]
noncomputable def Yr:V->Option Int->Option Int->Hp->VK->Prop:=fun x lo hi H Q=>∃ y,x = .str y/\y.length <= sizeLine/\Q (.str (Bs y lo hi)) H
theorem part_of {v:Value} {o:Option Int} (h:IsPart v o):∃ l:Option (Int × Tok),v = partValue l/\l.map (·.1) = o:=by
 cases h with
 | none=>exact ⟨none,rfl,rfl⟩
 | int i t=>exact ⟨some (i,t),rfl,rfl⟩
theorem V4 {X:Cx} : SlR X Yr:=by
 intro pins s σ H x v vl vu lo hi sl Q I rx hs pl pu h
 obtain ⟨y,rfl,hz,q⟩:=h
 obtain ⟨t,rfl⟩:=rx
 obtain ⟨l,rfl,el⟩:=part_of pl
 obtain ⟨u,rfl,eu⟩:=part_of pu
 refine ⟨"str",_,F.slot_str_getitem.lookup,typeIs_str s y t,wpAny_getItem_str_slice (l:=l) (u:=u) (st:=none) hs rfl ?_⟩
 unfold sliceMade slicePicked
 rw [el,eu]
 split
 .rename_i hw
  have hw':=(Bool.and_eq_true_iff.mp hw).2
  rw [beq_iff_eq] at hw'
  have e:=O8 y lo hi hw'
  rw [e] at q
  exact ⟨.str y,H,I,⟨t,rfl⟩,q⟩
 .have e:=Yj y lo hi
  refine ⟨?_,.str (Bs y lo hi),H,I.tok _,⟨s.toks,?_⟩,q⟩
  .refine aM ?_ hz
   refine aM (Nat.le_of_eq (congrArg Str.length e)) ?_
   show ((y.cps.toList.drop _).take _).toArray.size <= y.cps.size
   rw [aZ,bh,List.length_drop,Array.length_toList]
   omega
  .rw [<- e]; rfl
end L2
namespace L2
open PySem PySem.Spec PyProof.Rows
noncomputable def O1 (tk tv:TE):TE:=fun σ H Q=>∀ p,H p = none->tk σ (upd H p (.dK [])) fun x H1=>∃ i,x = .str i/\tv σ H1 fun y H2=>H2 p = some (.dK [])/\Q (.ref p) (upd H2 p (.dK [(.inr i,y)]))
section
variable {X:Cx}
noncomputable def Qs:R2:=fun x y H Q=>∃ i j,x = .str i/\y = .str j/\i.length + j.length <= sizeLine/\Q (.str (i ++ j)) H
theorem Qo:OpR X (binaryOp .Add) Qs:=Ot
noncomputable def YJ:R2:=fun x y H Q=>∃ i j,x = .str i/\y = .str j/\Q (.bl (!decide (j.cps.toList < i.cps.toList))) H
theorem U8:OpR X (compareOp .LtE) YJ:=by
 intro pins s σ H x y v u Q I rx ry h
 obtain ⟨i,j,rfl,rfl,q⟩:=h
 obtain ⟨t,rfl⟩:=rx
 obtain ⟨t',rfl⟩:=ry
 exact PySem.P.le_str (cY I q rfl)
noncomputable def aaS (neg:Bool):R2:=fun x y H Q=>∃ i j,x = .str i/\y = .str j/\∃ c,i = ⟨#[c]⟩/\Q (.bl (if neg then !decide (c ∈ j.cps.toList) else decide (c ∈ j.cps.toList))) H
theorem OpR.imp {f:Value->Value->Sem Value} {r r':R2} (h:OpR X f r) (i:∀ x y H Q,r' x y H Q->r x y H Q):OpR X f r':=fun pins s σ H x y v u Q I rx ry q=>h pins s σ H x y v u Q I rx ry (i _ _ _ _ q)
noncomputable def Xk:List V->Hp->VK->Prop:=fun xs H Q=>∃ x n,xs = [.str x]/\x.length <= 640/\PySem.intText? x = some n/\Q (.int n) H
theorem yO:∀ {bs:List Bool} {us:List Value},Vals (bs.map V.bl) us->∀ (i:Nat) (v:Value),us[i]? = some v->∃ b,bs[i]? = some b/\v = .bool b
 | [],_,.nil,i,v,h=>by cases i <;> cases h
 | b :: bs,_,.cons r t,0,v,h=>by
  rw [List.getElem?_cons_zero] at h
  cases h
  exact ⟨b,rfl,r⟩
 | b :: bs,_,.cons r t,i + 1,v,h=>by
  rw [List.getElem?_cons_succ] at h
  exact yO t i v h
noncomputable def QG:List V->Hp->VK->Prop:=fun xs H Q=>∃ (l:Addr) (bs:List Bool),xs = [.ref l]/\H l = some (.lst (bs.map V.bl))/\Q (.bl (bs.all id)) H
theorem rm:∀ bs:List Bool,((List.range bs.length).all fun i=>(bs[i]?).getD true) = bs.all id
 | []=>rfl
 | b :: bs=>by
  rw [List.length_cons,List.range_succ_eq_map,List.all_cons,List.all_map,List.all_cons]
  have:=rm bs
  simp only [Function.comp_def,List.getElem?_cons_succ,List.getElem?_cons_zero,Option.getD_some,id] at this ⊢
  rw [this]
theorem Fz (hc:X.calm = true):eZ X (.builtin "all") QG:=by
 intro pins s σ H xs us Q I r h
 obtain ⟨l,bs,rfl,hl,q⟩:=h
 obtain ⟨u,rfl,ru⟩:=r.one
 cases ru
 obtain ⟨its,rv,p⟩:=I.lstIs hl
 have hlt:l < s.heap.objs.size:=by obtain ⟨_,e,_⟩:=p; exact aK e
 refine call_all_walk (wpAny_pyIter_list p ?_)
 refine ⟨s.heap.objs.size,[s.heap.objs.size,l],[s.heap.objs.size],its.toArray.size,_,_,fun i=>(bs[i]?).getD true,rfl,Walks.list (A:=X.A.in1) (I.ok.hd hc) _ l (aR hlt) its.toArray,
  ⟨⟨_,aY _ rfl,rfl,rfl⟩,p.push _⟩,fun i v s' Q' E' hP hQ=>?_,fun h' tk hk=>?_⟩
 .obtain ⟨b,e,rfl⟩:=yO rv i v (by simpa using hP)
  simp only [e,Option.getD_some] at hQ
  exact wpAny_truthy_bool hQ
 .have e:((List.range its.toArray.size).all fun i=>(bs[i]?).getD true) = bs.all id:=by
   rw [aZ,<- rv.length,ak]; exact rm bs
  refine ⟨.bl (bs.all id),H,I.kept (t':=tk) fun b o q=>hk b o (fun hm=>?_) (aH _ q),?_,q⟩
  .rw [List.mem_singleton.mp hm] at q
   exact Nat.lt_irrefl _ (aK q)
  .rw [e]; rfl
noncomputable def HN:V->List V->Hp->VK->Prop:=fun x vs H Q=>∃ a b,x = .str a/\vs = [.str b]/\Q (.bl (decide (0 + b.length <= a.length) && Builtin.Str.subAt a b 0)) H
noncomputable def ad3:List Nat->Int
 | i :: _=>(i:Int)
 | []=>-1
noncomputable def UG:V->List V->Hp->VK->Prop:=fun x vs H Q=>∃ a b,x = .str a/\vs = [.str b]/\Q (.int (ad3 (Builtin.Str.occurrences a b 0 a.length 1))) H
noncomputable def O7:V->List V->Hp->VK->Prop:=fun x vs H Q=>∃ a b,x = .str a/\vs = [.str b]/\1 <= b.length/\a.length < sizeLine/\∀ p,H p = none->Q (.ref p) (upd H p (.lst ((Txt.split a b).map V.str)))
noncomputable def tSM (r:V->List V->Hp->VK->Prop) (to:TE) (t:TA):TE:=fun σ H Q=>to σ H fun x H1=>(∃ y,x = .str y)/\t σ H1 fun vs H2=>r x vs H2 Q
theorem aeJ {o e:Expr} {to:TE} {t:TA} {name:Str} {id:String} {r:V->List V->Hp->VK->Prop} {apos cpos:Pos} (slot:Slot "str" name id) (hty:typeOf (.builtin id) = pure (.type "method_descriptor")) (hm:MtM X id r) (ho:PE X o to) (ha:PA X [e] t)
  (hb:attributeBase o name X.env (eval o X.env) = eval o X.env:=by rfl)
  (hf:((backTo cpos (starEach [e] X.env)).all (fun x=>!x.1) && (backToKw cpos (keywordEach [] X.env)).all (fun x=>x.1.isSome) && decide ([e].length + ([] : List Keyword).length + (if ([] : List Keyword).isEmpty then 0 else 1) < 30)) = true:=by rfl)
  (hl:(apos.endLine == cpos.line) = true:=by rfl) (hs:starEach [e] X.env = (false,eval e X.env) :: starEach [] X.env:=by rfl) (hp:(backTo cpos (starEach [] X.env)).any (·.1) = false:=by rfl) :
  PE X (.Call (.Attribute o name apos) [e] [] cpos) (tSM r to t):=by
 refine (Ug PySem.F.plainAttrs_str slot hty hm ho.mono ha hb hf hl hs hp).imp fun σ H Q h=>?_
 refine ⟨_,h,?_⟩
 rintro x H1 ⟨⟨y,rfl⟩,h2⟩
 exact ⟨rfl,h2⟩
theorem Vm {x:Str} {v:V} {pos:Pos} (hg:Gl X x) (hm:∃ u,X.mg x = some u/\RelV v u) (hd:(x == ("__debug__" : Str)) = false:=by decide):PE X (.Name x pos) (tC v):=by
 obtain ⟨u,h1,h2⟩:=hm
 exact Pn hg h1 h2 hd
noncomputable def U7:R2:=fun x y H Q=>∃ i n,x = .str i/\y = .int n/\i.length = 1/\0 <= n/\n <= 1000/\∀ z:Str,z.length <= n.toNat + 1->Q (.str z) H
theorem Zw {a b:Expr} {ta tb:TE} {pos:Pos} (ha:PEB X a ta) (hb:PE X b tb) (hs:PJ b):PEB X (.Subscript a b pos) (tOp J2 ta tb):=⟨bR bO ha.out hb hs⟩
theorem xJ {st:Stmt} {t:TS} (h1:PSB X st t):Y_ X [st] t:=⟨bL h1.out⟩
end
theorem cD.calm {P:Program} {w:World} {K:Frag} {mg:Str->Option Value} {base:Heap} {k:Nat} {f:Addr} {fd:FuncData} {ps:List Str} {sp:Sp} (F:cD P w K mg base (CXO P w) k f fd ps sp) :
  cD P w K mg base CX0 k f fd ps (fun vs H Q _=>sp vs H Q fun _ _ _=>False):=by
 refine ⟨fun vs H Q E h=>F.len _ _ _ _ h,fun A outer s H args us vs Q E hr e0 hb r h=>?_⟩
 refine codeAny_mono (F.run A outer s H args us vs Q _ hr e0 hb r h) fun res s' hs=>?_
 cases res with
 | error e =>
  obtain ⟨_,_,_,_,_,_,_,z⟩:=hs
  exact z.elim
 | ok fl =>
  cases fl with
  | ret u=>exact hs
  | next=>exact hs
  | brk=>exact hs
  | cont=>exact hs
theorem OkX.calm {P:Program} {w:World} {K:Frag} {mg:Str->Option Value} {base:Heap} {k:Nat} {x:Str} {ps:List Str} {sp:Sp} (F:OkX P w K mg base k x ps sp) :
  OkF P w K mg base k x ps (fun vs H Q _=>sp vs H Q fun _ _ _=>False):=let ⟨f,fd,a,b⟩:=F; ⟨f,fd,a.calm,b⟩
end L2
namespace L2
open PySem PySem.Spec PyProof.Rows
noncomputable def hid (y:Str):Str:=Str.ofString "?" ++ y
noncomputable def Fy (xs:List Str) (N:List Str):List Str:=N.map fun y=>if y ∈ xs then hid y else y
noncomputable def Cx.compG (X:Cx) (N':List Str) (scope:Scope) (xs:List Str) (C:Addr) (s₀:Shared) (H₀:Hp) (ex:List Addr) (pn:List (Addr × Obj)):Cx :=
 { X with env:=compEnvC scope (yW X.env.cells scope.names []) C X.env,N:=xs ++ N',s₀:=s₀,H₀:=H₀,outer:=X.stack,ex:=ex,fn:=fun _=>false,pn:=pn,xe:=fun _ _=>False }
noncomputable def PTs (X:Cx) (ifs:List Expr) (tc:TT):Prop:=∀ (pins:List (Addr × Obj)) (s:Shared) (σ:L2.St) (H:Hp) (Q:Bool->Hp->Prop),Inv X pins σ H s->tc σ H Q ->
 wpAny (model X.prog X.w) X.A (forIn ifs true fun c r=>if r = true then do let ok <- isTrue c X.env (eval c X.env); pure (ForInStep.yield ok) else pure (ForInStep.yield r)) (fun b s'=>∃ H',Inv X pins σ H' s'/\Q b H') X.xe s
noncomputable def Jt:TT:=fun _ H Q=>Q true H
theorem dh {X:Cx} : PTs X [] Jt:=fun _ _ _ H _ I q=>wpAny_tests_nil ⟨H,I,q⟩
theorem Y9 {X:Cx} {c:Expr} {tc:TT} (h:PT X c tc):PTs X [c] tc:=fun pins s σ H Q I q=>wpAny_tests_one (h pins s σ H Q I q)
noncomputable def jK (wi:TI) (n:Nat) (gt:TG) (tc:TT) (te:TE):TE:=fun σ H Q=>wi σ H fun J H1=>∀ D,H1 D = none->∃ W:Nat->Nat->List V->Hp->Prop,(∃ m,W 0 m [] (upd H1 D (.lst [])))/\∀ i m ys Hc,W i m ys Hc ->
 (J.stop i Hc/\Q (.ref D) Hc)\/(J.go i Hc/\∀ x H',J.yld i Hc x H'->∀ pre:L2.St,pre.length = n->gt x (pre ++ σ) H' fun σ2 H2=>∃ pre':L2.St,pre'.length = n/\σ2 = pre' ++ σ/\tc σ2 H2 fun b H3 =>
  match b with
  | true=>te σ2 H3 fun y H4=>ys.length < sizeLine/\H4 D = some (.lst ys)/\∃ m',m' < m/\W (i + 1) m' (ys ++ [y]) (upd H4 D (.lst (ys ++ [y])))
  | false=>∃ m',m' < m/\W (i + 1) m' ys H3)
section
variable {X:Cx} {elt iter:Expr} {pos:Pos} {scope:Scope} {wi:TI} {te:TE}
theorem B_ {use:Option (Value->Sem Unit)} {post:Value->Shared->Prop} {Qv:VK} {pins:List (Addr × Obj)} {s:Shared} {σ:L2.St} {H:Hp} {pp:Pos} {xs N':List Str} {tg:Expr} {ifs:List Expr} {gt:TG} {tc:TT} (hc:X.calm = true) (hsh:Fy xs X.N = N') (hN:(xs ++ N').Nodup) (hkind:scope.kind = .function) (hcell:∀ y ∈ scope.names,y.2 ≠ .cell) (hnames:∀ y ∈ scope.names,y.2 = .local->scope.names.lookup y.1 = some .local)
  (hfree:∀ y ∈ scope.names,y.2 = .free->X.env.kindOf y.1 = some .cell\/X.env.kindOf y.1 = some .free) (hloc:∀ y ∈ X.N,y ∉ xs->(relabel scope X.env).names.lookup y ≠ some .local) (hq:∀ y ∈ X.N,y ∈ xs->(relabel scope X.env).names.lookup (hid y) = none) (hi:PI X tg iter wi)
  (hg:∀ C s₀ H₀ ex pn,PG (X.compG N' scope xs C s₀ H₀ ex pn) tg gt) (ht:∀ C s₀ H₀ ex pn,PTs (X.compG N' scope xs C s₀ H₀ ex pn) ifs tc) (he:∀ C s₀ H₀ ex pn,PE (X.compG N' scope xs C s₀ H₀ ex pn) elt te) (hs:∀ z,foldedSetIterable iter X.env z = pure z) (I:Inv X pins σ H s) (h:jK wi xs.length gt tc te σ H Qv)
  (endC:∀ (C D:Addr) (Hc:Hp) (s6:Shared) (m:Str->Option Value) (fl:Flow),s6.heap.Ns C m->Inv X pins σ Hc s6->Ae X pins Hc C->Qv (.ref D) Hc->compPost (model X.prog X.w) X.A X.xe use post (.ref D) C (.ok fl) s6) :
  wpAny (model X.prog X.w) X.A (comprehension (.ListComp elt [⟨tg,iter,ifs,0⟩] scope pos) scope X.env pp (newList []) false (eval iter X.env) use) post X.xe s:=by
 have hfr:∀ y ∈ scope.names,y.2 = .free->∃ c,X.env.cells.lookup y.1 = some c:=fun y hy e=>I.ok.has y.1 (hfree y hy e)
 refine wpAny_comprehension_free (use:=use) (Q:=post) rfl hs (Oh hfr) hkind hnames (thn (hi pins s σ H _ I h) fun v s1 h1=>thn h1 fun itv s2 h2=>?_)
 obtain ⟨it,fp,tn,J,H2,e,I2,T,st2,f2,R⟩:=h2
 subst e
 have nD:H2 s2.heap.objs.size = none:=I2.hok.fresh (aG _)
 obtain ⟨W,⟨m0,w0⟩,turn⟩:=R s2.heap.objs.size nD
 refine wpAny_newObj_type ?_ (by show 0 <= sizeLine; exact bw _)
 have I3:Inv X pins σ (upd H2 s2.heap.objs.size (.lst [])) { s2 with heap:=s2.heap.push { cls:=.type "list",dict:=none,data:=.seq ([] : List Value).toArray } }:=I2.lnew (t':=s2.toks) (ys:=[]) (its:=[]) .nil (bw _)
 have oldT:∀ b o,s2.heap.get? b = some o->(s2.heap.push { cls:=.type "list",dict:=none,data:=.seq ([] : List Value).toArray }).get? b = some o:=fun b o e=>aH _ e
 generalize hs3:({ s2 with heap:=s2.heap.push { cls:=.type "list",dict:=none,data:=.seq ([] : List Value).toArray } } : Shared) = s3 at I3 ⊢
 have st3:tn 0 s3.heap:=T.keep _ _ _ st2 fun b _ o e=>by rw [<- hs3]; exact oldT b o e
 generalize hH3:upd H2 s2.heap.objs.size (.lst []) = H3 at I3 w0
 have f3:∀ b ∈ fp,Ae X pins H3 b:=fun b hb=>by
  obtain ⟨a1,a2⟩:=f2 b hb
  refine ⟨?_,a2⟩
  obtain ⟨o,e,_⟩:=T.obj _ _ st2 b hb
  rw [<- hH3,bI (aR (aK e))]
  exact a1
 refine wpAny_newFunctionEnv hcell (by intro y hy; simp at hy) (fun g hns hsb=>?_) hkind
 have kg:∀ b o,s3.heap.get? b = some o->g.get? b = some o:=fun b o e=>(hsb.2 b (aR (aK e))).trans (aH _ e)
 have clm:∀ {y:Str} {c:Addr},(yW X.env.cells scope.names []).lookup y = some c->X.env.cells.lookup y = some c:=fun {y c} e=>by
  rcases LC hfr (PySem.mem_of_lookup e) with z | z
  .cases z
  .exact z
 have kinds:∀ {y:Str},((relabel scope X.env).names.lookup y = some .cell\/(relabel scope X.env).names.lookup y = some .free)->(X.env.kindOf y = some .cell\/X.env.kindOf y = some .free)/\∃ c,(yW X.env.cells scope.names []).lookup y = some c:=fun {y} e=>by
  have z:=wU e hcell
  obtain ⟨c,hc'⟩:=K6 (cells:=X.env.cells) (acc:=[]) (.inl z)
  exact ⟨hfree _ z rfl,oK hc'⟩
 have lt3:∀ b ∈ fp,b < s3.heap.objs.size:=fun b hb=>by
  obtain ⟨o,e,_⟩:=T.obj _ _ st3 b hb
  exact aK e
 have nst:∀ b ∈ fp,b ∉ frs X.stack:=fun b hb=>I3.nostk' (f3 b hb).2.1 (f3 b hb).2.2.1
 generalize hX:X.compG N' scope xs s3.heap.objs.size s3 H3 fp (X.pn ++ pins) = Y
 have ok':Y.Ok:=by
  subst hX
  exact ⟨I3.ok.mod,hkind,I3.ok.glob,I3.ok.blt,aG _,fun y z c h1 h2=>I3.ok.inj y z c (clm h1) (clm h2),fun y hy=>(kinds hy).2,fun _ _ z=>(nomatch z),I3.ok.hd,I3.ok.frames,.inl rfl,
   fun b hb=>⟨aR (lt3 b hb),fun y c e=>(f3 b hb).2.2.2.2.1 y c (clm e)⟩,I3.bs,aM I3.ok.bsz I3.sz,fun b o e hb=>by
    rcases (f3 b hb).2.2.2.1 with z | z
    .exact I3.ok.noex b o e z
    .exact absurd (aU (aU (aK e) I3.ok.bsz) z) (Nat.lt_irrefl _),nst,I3.stack,I3.stkFree⟩
 have J4:∀ tk,Inv Y [] (List.replicate xs.length none ++ σ) H3 { s3 with heap:=g,toks:=tk }:=fun tk=>by
  subst hX
  refine ⟨ok',rfl,I3.bare,Un.kept kg,⟨_,hns,fun i y v e1 e2 e3=>?_⟩,fun y c e=>?_,I3.hok.fresh (aG _),fun y c e=>I3.freeC y c (clm e),fun p hp=>?_,I3.hok.kept kg,?_⟩
  .by_cases hin:i < xs.length
   .rw [aF (by rw [aN]; exact hin),List.getElem?_replicate,if_pos hin] at e2
    cases e2
   .obtain ⟨j,rfl⟩ : ∃ j,i = xs.length + j:=⟨i - xs.length,by omega⟩
    have e0:N'[j]? = some y:=by
     have e1:(xs ++ N')[xs.length + j]? = some y:=e1
     rw [aD (by omega)] at e1
     rw [show xs.length + j - xs.length = j by omega] at e1
     exact e1
    have e2':σ[j]? = some (some v):=by
     rw [aD (by rw [aN]; omega),aN] at e2
     rw [show xs.length + j - xs.length = j by omega] at e2
     exact e2
    rw [<- hsh] at e0
    obtain ⟨y0,e1',ey⟩ : ∃ y0,X.N[j]? = some y0/\(if y0 ∈ xs then hid y0 else y0) = y:=by
     unfold Fy at e0
     rw [au] at e0
     cases hz:X.N[j]? with
     | none=>rw [hz] at e0; cases e0
     | some y0=>rw [hz] at e0; exact ⟨y0,rfl,Option.some.inj e0⟩
    have e3:(relabel scope X.env).names.lookup y = some .local\/(relabel scope X.env).names.lookup y = some .cell\/(relabel scope X.env).names.lookup y = some .free:=e3
    have ne:¬ y0 ∈ xs:=fun z=>by
     rw [if_pos z] at ey
     subst ey
     rw [hq y0 (aC e1') z] at e3
     rcases e3 with z | z | z <;> cases z
    rw [if_neg ne] at ey
    subst ey
    have e3':(relabel scope X.env).names.lookup y0 = some .cell\/(relabel scope X.env).names.lookup y0 = some .free:=by
     rcases e3 with z | z
     .exact absurd z (hloc y0 (aC e1') ne)
     .exact z
    obtain ⟨kd,c,hcl⟩:=kinds e3'
    obtain ⟨m,_,hl⟩:=I3.loc
    obtain ⟨u,r,lk⟩:=hl j y0 v e1' e2' (.inr kd)
    refine ⟨u,r,.inr ⟨e3',c,hcl,?_⟩⟩
    rcases lk with ⟨k1,_⟩ | ⟨_,c',q1,o,q2,q3⟩
    .exfalso
     have k1':X.env.kindOf y0 = some .local:=k1
     rcases kd with k2 | k2 <;> rw [k1'] at k2 <;> cases k2
    .rw [clm hcl] at q1
     cases q1
     exact ⟨o,kg _ _ q2,q3⟩
  .obtain ⟨v,o,q2,q3⟩:=I3.cell y c (clm e)
   exact ⟨v,o,kg _ _ q2,q3⟩
  .have hp':p ∈ X.pn ++ pins:=by simpa [Cx.compG] using hp
   obtain ⟨a1,a2,a3,a4,a5⟩:=I3.pin p hp'
   exact ⟨kg _ _ a1,a2,aR (aK a1),I3.nostk' a3 a4,a5⟩
  .show (List.replicate xs.length none ++ σ).length = (xs ++ N').length
   have hln:N'.length = X.N.length:=by rw [<- hsh]; unfold Fy; rw [ak]
   rw [aB,aN,aB,I3.len,hln]
 have fpY:∀ {Hc:Hp},(∀ b ∈ fp,Hc b = none)->∀ b ∈ fp,Ae Y [] Hc b:=fun {Hc} hn b hb=>by
  subst hX
  exact ⟨hn b hb,aR (lt3 b hb),nst b hb,.inl hb,fun y c e=>(f3 b hb).2.2.2.2.1 y c (clm e),fun p hp=>(f3 b hb).2.2.2.2.2 p (by simpa [Cx.compG] using hp)⟩
 have loop:∀ s4:Shared,s4 = { s3 with heap:=g,toks:=s3.toks + ([] : List (Str × Value)).length } ->
   codeAny (model X.prog X.w) X.A (.compLoop (.ListComp elt [⟨tg,iter,ifs,0⟩] scope pos) 0 (.ref it) (.ref s2.heap.objs.size) Y.env) (compPost (model X.prog X.w) X.A X.xe use post (.ref s2.heap.objs.size) s3.heap.objs.size) s4:=by
  rintro s4 rfl
  have YP:Y.prog = X.prog/\Y.w = X.w/\Y.K = X.K/\Y.calm = X.calm/\Y.A = X.A/\Y.env.locals = s3.heap.objs.size:=by subst hX; exact ⟨rfl,rfl,rfl,rfl,rfl,rfl⟩
  obtain ⟨y1,y2,y3,y4,y5,y6⟩:=YP
  have he':PE Y elt te:=by subst hX; exact he _ _ _ _ _
  have hg':PG Y tg gt:=by subst hX; exact hg _ _ _ _ _
  have ht':PTs Y ifs tc:=by subst hX; exact ht _ _ _ _ _
  have xeY:Y.xe = fun _ _=>False:=by subst hX; rfl
  have yb:∀ {Hc:Hp} {w':L2.St} {pn:List (Addr × Obj)} {s':Shared},Inv Y pn w' Hc s'->Un (frs X.stack) fp H3 Hc s3.heap s'.heap:=fun {Hc w' pn s'} Z=>by
   have:=Z.base
   subst hX
   exact this
  have yos:∀ {Hc:Hp} {w':L2.St} {pn:List (Addr × Obj)} {s':Shared},Inv Y pn w' Hc s'->s'.os = s3.os:=fun {Hc w' pn s'} Z=>by
   have:=Z.os
   subst hX
   exact this
  refine codeAny_loop rfl (fun n s'=>∃ i ys Hc,∃ w':L2.St,w'.length = xs.length/\Inv Y [] (w' ++ σ) Hc s'/\tn i s'.heap/\(∀ b ∈ fp,Hc b = none)/\W i n ys Hc) (fun n s5 hI=>?_) m0 ⟨0,[],H3,List.replicate xs.length none,aN,J4 _,T.keep _ _ _ st3 fun b _ o e=>kg b o e,fun b hb=>(f3 b hb).1,w0⟩
  obtain ⟨i,ys,Hc,w',hw',Z,stc,frc,wc⟩:=hI
  show wpAny _ _ ((compTurn (.ListComp elt [⟨tg,iter,ifs,0⟩] scope pos) 0 (.ref it) (.ref s2.heap.objs.size) Y.env).onRaise (fun z=>do noteFrame z Y.env; theTreesLotGoes z)) _ _ s5
  refine wpAny_noted (wpAny_noRaise ?_)
  rw [compTurn_list]
  show wpAny (model X.prog X.w) X.A _ _ _ _
  rcases turn i n ys Hc wc with ⟨stop,qn⟩ | ⟨go,step⟩
  .have hd:=T.done Y y1 y2 y3 (y4.trans hc) i [] s5 (w' ++ σ) Hc (fun _ _=>False) Z (fpY frc) stc stop
   rw [y5] at hd
   refine wpAny_bind (wpAny_standAt (wpAny_bind (thn hd fun r s6 ⟨hr,Z6⟩=>?_)))
   subst hr
   refine wpAny_pure ?_
   obtain ⟨m,hn6,_⟩:=Z6.loc
   rw [y6] at hn6
   have u6:=yb Z6
   have hok:HOk X.prog X.w Hc s6.heap:=by
    have z:=Z6.hok
    rw [y1,y2] at z
    exact z
   have cn:Hc s3.heap.objs.size = none:=by
    have z:=Z6.free
    rw [y6] at z
    exact z
   have I6:Inv X pins σ Hc s6:=I3.call' (s':=s6) (ch:=fp) (yos Z6) u6 hok Z6.bare fun b hb=>⟨(f3 b hb).2.2.2.1,(f3 b hb).2.1,(f3 b hb).2.2.2.2.1,(f3 b hb).2.2.2.2.2⟩
   have fC:Ae X pins Hc s3.heap.objs.size:=I3.fpOk (aG _) cn
   exact endC _ _ Hc s6 m _ hn6 I6 fC qn
  .have hd:=T.item Y y1 y2 y3 (y4.trans hc) i [] s5 (w' ++ σ) Hc (fun _ _=>False) Z (fpY frc) stc go
   rw [y5] at hd
   refine wpAny_bind (wpAny_standAt (wpAny_bind (thn hd fun r s6 ⟨u,hr,h6⟩=>?_)))
   subst hr
   refine wpAny_bind (thn h6 fun _ s7 ⟨xv,H7,Z7,r7,yl,st7,fr7⟩=>?_)
   have Z7':=Z7.pinned (fpY fr7) (T.obj _ _ st7)
   have hst:=hg' _ s7 _ H7 xv u _ Z7' r7 (step xv H7 yl w' hw')
   rw [y1,y2,y5,xeY] at hst
   refine wpAny_bind (thn hst fun _ s8 ⟨σ8,H8,Z8,pre,hpre,e8,q8⟩=>?_)
   subst e8
   have hte:=ht' _ s8 _ H8 _ Z8 q8
   rw [y1,y2,y5,xeY] at hte
   have fin:∀ {m':Nat} {ys':List V} {H9:Hp} {s9:Shared},Inv Y ([] ++ Dh fp s7.heap) (pre ++ σ) H9 s9->m' < n->W (i + 1) m' ys' H9->∃ m,m < n/\∃ i ys Hc,∃ w':L2.St,w'.length = xs.length/\Inv Y [] (w' ++ σ) Hc s9/\tn i s9.heap/\(∀ b ∈ fp,Hc b = none)/\W i m ys Hc:=fun {m' ys' H9 s9} Z9 hm' w9 =>
    ⟨m',hm',i + 1,ys',H9,pre,hpre,Z9.unpinned,T.keep _ _ _ st7 fun b hb o e=>(Z9.pin (b,o) (aQ _ (aQ _ (oU hb e)))).1,fun b hb=>by
     obtain ⟨o,e,_⟩:=T.obj _ _ st7 b hb
     exact (Z9.pin (b,o) (aQ _ (aQ _ (oU hb e)))).2.1,w9⟩
   refine wpAny_bind (thn hte fun ok s9 ⟨H9,Z9,q9⟩=>?_)
   cases ok with
   | false =>
    obtain ⟨m',hm',w9⟩:=q9
    exact wpAny_pure ⟨rfl,fin Z9 hm' w9⟩
   | true =>
    have hel:=he' _ s9 _ H9 _ Z9 q9
    rw [y1,y2,y5,xeY] at hel
    refine wpAny_bind (wpAny_bind (thn hel fun ev s10 ⟨yv,H10,Z10,r10,hz,hD10,m',hm',w10⟩=>?_))
    have hap:=FP (X:=Y) _ s10 _ H10 (.ref s2.heap.objs.size) [yv] (.ref s2.heap.objs.size) [ev] (fun _ Hf=>Hf = upd H10 s2.heap.objs.size (.lst (ys ++ [yv]))) Z10 rfl (.cons r10 .nil) ⟨_,ys,yv,rfl,rfl,hD10,hz,rfl⟩
    rw [y1,y2,y5,xeY] at hap
    refine wpAny_bind (thn hap fun av s11 ⟨_,H11,Z11,_,e11⟩=>?_)
    subst e11
    exact wpAny_pure (wpAny_pure ⟨rfl,fin Z11 hm' w10⟩)
 have henv:Y.env = compEnvC scope (yW X.env.cells scope.names []) s3.heap.objs.size X.env:=by subst hX; rfl
 rw [henv] at loop
 exact codeAny_compStart_list (loop _ rfl) (T.self _ 0 _ _ _ (T.keep _ _ _ st3 fun b _ o e=>kg b o e) (loop _ rfl))
theorem Xo {xs N':List Str} {tg:Expr} {ifs:List Expr} {gt:TG} {tc:TT} (hc:X.calm = true) (hsh:Fy xs X.N = N') (hN:(xs ++ N').Nodup) (hkind:scope.kind = .function) (hcell:∀ y ∈ scope.names,y.2 ≠ .cell) (hnames:∀ y ∈ scope.names,y.2 = .local->scope.names.lookup y.1 = some .local)
  (hfree:∀ y ∈ scope.names,y.2 = .free->X.env.kindOf y.1 = some .cell\/X.env.kindOf y.1 = some .free) (hloc:∀ y ∈ X.N,y ∉ xs->(relabel scope X.env).names.lookup y ≠ some .local) (hq:∀ y ∈ X.N,y ∈ xs->(relabel scope X.env).names.lookup (hid y) = none) (hi:PI X tg iter wi)
  (hg:∀ C s₀ H₀ ex pn,PG (X.compG N' scope xs C s₀ H₀ ex pn) tg gt) (ht:∀ C s₀ H₀ ex pn,PTs (X.compG N' scope xs C s₀ H₀ ex pn) ifs tc) (he:∀ C s₀ H₀ ex pn,PE (X.compG N' scope xs C s₀ H₀ ex pn) elt te) (hs:∀ z,foldedSetIterable iter X.env z = pure z:=by intro _; rfl) :
  PE X (.ListComp elt [⟨tg,iter,ifs,0⟩] scope pos) (jK wi xs.length gt tc te):=by
 intro pins s σ H Q I h
 rw [eval_ListComp]
 exact B_ hc hsh hN hkind hcell hnames hfree hloc hq hi hg ht he hs I h fun C D Hc s6 m fl hn I6 fC q=>⟨m,hn,fun h' hs'=>⟨.ref D,Hc,I6.turned (it:=C) (h':=h') (t':=s6.toks) (fun b o hb e=>(hs'.2 b hb).trans e) fC.1 fC.2.1 fC.2.2.2.1 fC.2.2.2.2.1 fC.2.2.2.2.2,rfl,q⟩⟩
end
end L2
namespace L2
open PySem PySem.Spec PyProof.Rows
section
variable {X:Cx} {k:Nat} {f C:Addr} {fd:FuncData} {ps:List Str} {sp:Sp} {dvs:List V} {ds:List Value} {x m:Str} {p pos apos:Pos} {e o:Expr} {es:List Expr} {ta:TE} {t:TA} {Ex:Value->Option Addr->L2.St->Hp->Prop}
noncomputable def aaZ (C:Addr) (sp:Sp) (dvs:List V) (Ex:Value->Option Addr->L2.St->Hp->Prop) (t:TA):TE:=fun σ H Q=>t σ H fun vs H1=>∀ x dx,H1 x = none->H1 dx = none->dx ≠ x->sp (.ref x :: (vs ++ dvs)) (upd (upd H1 dx (.own x)) x (.ins C dx [])) (fun v H2=>v = .non/\Q (.ref x) H2) fun C d H'=>Ex C d σ H'
theorem aat {pins:List (Addr × Obj)} {σ:St} {H:Hp} {s:Shared} {Q:VK} {us:List Value} {vs:List V} (F:cD X.prog X.w X.K X.mg X.base (CXO X.prog X.w) k f fd ps sp) (hr:gG k X.A) (hb:Binds X.K fd ps ds) (hd:Vals dvs ds) (hx:Ej X Ex)
  (I:Inv X pins σ H s) (r:Vals vs us) (h:sp (vs ++ dvs) H Q fun C d H'=>Ex C d σ H'):wpAny (model X.prog X.w) X.A (call (.ref f) us) (EP X pins σ Q) X.xe s:=by
 have r2:Vals (vs ++ dvs) (us ++ ds):=r.append hd
 have hl:(us ++ ds).length = ps.length:=by rw [<- r2.length]; exact F.len _ _ _ _ h
 refine wpAny_call (codeAny_mono (F.run X.A X.stack s H ⟨us,[]⟩ (us ++ ds) (vs ++ dvs) Q _ hr I.env0 (hb s us I.kIn hl) r2 h) fun r s' hq=>?_)
 cases r with
 | error e =>
  obtain ⟨a,C,d,H',B,rfl,Fl,q'⟩:=hq
  exact hx pins σ H s a C H' s' B d I Fl q'
 | ok fl =>
  cases fl with
  | ret u=>exact I.after hq
  | next=>exact False.elim hq
  | brk=>exact False.elim hq
  | cont=>exact False.elim hq
theorem RX {pins:List (Addr × Obj)} {σ:St} {H:Hp} {s:Shared} {Q:VK} {us:List Value} {vs:List V} (M:Mk X.K C f) (F:cD X.prog X.w X.K X.mg X.base (CXO X.prog X.w) k f fd ps sp) (hr:gG (k + 1) X.A) (hb:Binds X.K fd ps ds) (hd:Vals dvs ds)
  (hx:Ej X Ex) (I:Inv X pins σ H s) (r:Vals vs us)
  (h:∀ x dx,H x = none->H dx = none->dx ≠ x->sp (.ref x :: (vs ++ dvs)) (upd (upd H dx (.own x)) x (.ins C dx [])) (fun v H2=>v = .non/\Q (.ref x) H2) fun C d H'=>Ex C d σ H') :
  wpAny (model X.prog X.w) X.A (call (.ref C) us) (EP X pins σ Q) X.xe s:=by
 have hq:=h (s.heap.objs.size + 1) s.heap.objs.size (I.hok.fresh (Nat.le_succ _)) (I.hok.fresh (aG _)) (aR (Nat.lt_succ_self _))
 have I2:=Inv.made (C:=C) I
 have r2:Vals (V.ref (s.heap.objs.size + 1) :: (vs ++ dvs)) (Value.ref (s.heap.objs.size + 1) :: (us ++ ds)):=.cons rfl (r.append hd)
 have hl:(Value.ref (s.heap.objs.size + 1) :: us ++ ds).length = ps.length:=by
  have e:=r2.length
  rw [F.len _ _ _ _ hq] at e
  exact e.symm
 refine wpAny_call (Xr (f:=f) I.kIn M.makes M.init (beq_iff_eq.mp M.fn) (codeAny_mono (F.run _ X.stack _ _ ⟨Value.ref (s.heap.objs.size + 1) :: us,[]⟩ (Value.ref (s.heap.objs.size + 1) :: (us ++ ds)) _ _ _ (hr.make C us [])
  (I2.env0.make C us []) (hb _ (Value.ref (s.heap.objs.size + 1) :: us) I2.kIn hl) r2 hq) fun r s' hq'=>?_))
 cases r with
 | error e =>
  obtain ⟨a,C,d,H',B,rfl,Fl,q'⟩:=hq'
  exact hx pins σ _ _ a C H' s' B d I2 Fl q'
 | ok fl =>
  cases fl with
  | ret u =>
   obtain ⟨v,H',I3,rv,ev,q3⟩:=I2.after hq'
   subst ev
   exact ⟨rv,⟨V.ref (s.heap.objs.size + 1),H',I3,rfl,q3⟩⟩
  | next=>exact False.elim hq'
  | brk=>exact False.elim hq'
  | cont=>exact False.elim hq'
theorem Wj (M:Mk X.K C f) (F:cD X.prog X.w X.K X.mg X.base (CXO X.prog X.w) k f fd ps sp) (hr:gG (k + 1) X.A) (hg:Gl X x) (hm:X.mg x = some (.ref C)) (hb:Binds X.K fd ps ds) (hd:Vals dvs ds) (hx:Ej X Ex)
  (ha:PA X (e :: es) t) (hdb:(x == ("__debug__" : Str)) = false:=by decide) (he:starEach (e :: es) X.env = (false,eval e X.env) :: starEach es X.env:=by rfl) (hpl:(backTo pos (starEach es X.env)).any (·.1) = false:=by rfl) :
  PE X (.Call (.Name x p) (e :: es) [] pos) (aaZ C sp dvs Ex t):=by
 intro pins s σ H Q I h
 refine wpAny_Call_Name_kw (nA I hg hm ?_ hdb)
 refine PySem.W.callWith_K (h₀:=X.base) I.ok.mod.kin M.kp (thn (ha pos pins s σ H _ I h) fun us s1 ⟨vs,H1,I1,r,q⟩=>⟨I1.kIn,?_⟩) he hpl
 exact RX M F hr hb hd hx I1 r q
end
end L2
namespace L2
open PySem PySem.Spec PyProof.Rows
structure kj (K:Frag) (B:Addr) (m:Str) (f:Addr):Prop where
 ga:PySem.W.specialIn K (.ref B) "__getattribute__" = some (some (.builtin "type.__getattribute__"))
 rd:PySem.W.readsIn K B (.type "type") = true
 at_:PySem.W.findCls K (.ref B) (.type "type") m = some (.val (.ref f))
 hd:PySem.W.handedIn (.ref f) = true
 kp:PySem.W.keepIn K (.ref f) = true
section
variable {X:Cx} {k:Nat} {f B:Addr} {fd:FuncData} {ps:List Str} {sp:Sp} {dvs:List V} {ds:List Value} {x m:Str} {p pos apos:Pos} {e:Expr} {es:List Expr} {t:TA} {Ex:Value->Option Addr->L2.St->Hp->Prop}
theorem kj.get {pins:List (Addr × Obj)} {σ:L2.St} {H:Hp} {s:Shared} {pl:Sem Bool} {A:Around} {E:Value->Shared->Prop} {Q:Value × List Value->Shared->Prop} (c:kj X.K B m f) (I:Inv X pins σ H s) (h:∀ t,Q (.ref f,[]) { s with toks:=t }) :
  wpAny (model X.prog X.w) A (getMethod (.ref B) m pl) Q E s :=
 PySem.W.method_cls I.kIn c.ga (PySem.W.cls_value I.kIn c.rd c.at_ c.hd (h _))
theorem U_ {pl:Sem Bool} (c:kj X.K B m f) (F:cD X.prog X.w X.K X.mg X.base (CXO X.prog X.w) k f fd ps sp) (hr:gG k X.A) (hg:Gl X x) (hm:X.mg x = some (.ref B)) (hb:Binds X.K fd ps []) (hx:Ej X Ex) (ha:PA X (e :: es) t) (hdb:(x == ("__debug__" : Str)) = false:=by decide)
  (hst:starEach (e :: es) X.env = (false,eval e X.env) :: starEach es X.env:=by rfl) (hpl:(backTo pos (starEach es X.env)).any (·.1) = false:=by rfl)
  (ht:eval (.Call (.Attribute (.Name x p) m apos) (e :: es) [] pos) X.env = (do
   let ov <- eval (.Name x p) X.env
   standAt apos.atName
   let (f,first) <- holding [ov] (getMethod ov m pl)
   callWith pos f first (backTo pos (starEach (e :: es) X.env)) (backToKw pos (keywordEach [] X.env))):=by rfl) :
  PE X (.Call (.Attribute (.Name x p) m apos) (e :: es) [] pos) (zJ sp Ex t):=by
 intro pins s σ H Q I h
 refine PySem.W.methodCall_KW (pl:=pl) (nA I hg hm (c.get I fun tk=>?_) hdb) ht
 refine PySem.W.callWith_K (first:=[]) (h₀:=X.base) I.ok.mod.kin c.kp (thn (ha pos pins _ σ H _ (I.tok tk) h) fun us s2 ⟨vs,H2,I2,r,q2⟩=>⟨I2.kIn,?_⟩) hst hpl
 exact aat (us:=us) (vs:=vs) F hr hb .nil hx I2 r (by rw [List.append_nil]; exact q2)
end
end L2
namespace L2
open PySem PySem.Spec PyProof.Rows
section
variable {κ:Type} [DecidableEq κ]
noncomputable def oV (kvs:List (κ × V)) (k:κ):Option V:=(kvs.find? fun kv=>decide (kv.1 = k)).map (·.2)
noncomputable def putK (kvs:List (κ × V)) (k:κ) (v:V):List (κ × V) :=
 if (kvs.any fun kv=>decide (kv.1 = k)) = true then kvs.map (fun kv=>if kv.1 = k then (kv.1,v) else kv) else kvs ++ [(k,v)]
theorem CG {p:κ × V} {r:List (κ × V)} {k:κ} (e:p.1 = k):oV (p :: r) k = some p.2:=by simp [oV,List.find?_cons,e]
theorem Az {p:κ × V} {r:List (κ × V)} {k:κ} (e:¬ p.1 = k):oV (p :: r) k = oV r k:=by simp [oV,List.find?_cons,e]
theorem K7 (kvs:List (κ × V)) (k:κ) (v:V):(putK kvs k v).length <= kvs.length + 1:=by
 unfold putK
 split
 .rw [ak]; omega
 .rw [aB,List.length_cons,List.length_nil]; omega
theorem tW.isSome_eq {o:Option V} {u:Option Value} (r:tW o u):o.isSome = u.isSome:=by
 cases o with
 | none=>cases u with
  | none=>rfl
  | some _=>exact (show False from r).elim
 | some _=>cases u with
  | none=>exact (show False from r).elim
  | some _=>rfl
theorem tW.getD {o:Option V} {u:Option Value} {d:V} {d':Value} (r:tW o u) (rd:RelV d d'):RelV (o.getD d) (u.getD d'):=by
 cases o with
 | none=>cases u with
  | none=>exact rd
  | some _=>exact (show False from r).elim
 | some _=>cases u with
  | none=>exact (show False from r).elim
  | some _=>exact r
theorem KV.val {kvs:List (κ × V)} {vs:List (κ × Value)} (r:KV kvs vs) (k:κ):tW (oV kvs k) (valueAt vs k):=by
 unfold KV at r
 induction r with
 | nil=>exact True.intro
 | @cons p q ps qs h t ih =>
  obtain ⟨h1,h2⟩:=h
  by_cases e:p.1 = k
  .have e':q.1 = k:=h1.symm.trans e
   have b:valueAt (q :: qs) k = some q.2:=by simp [valueAt,List.find?_cons,e']
   rw [CG e,b]; exact h2
  .have e':¬ q.1 = k:=fun z=>e (h1.trans z)
   have b:valueAt (q :: qs) k = valueAt qs k:=by simp [valueAt,List.find?_cons,e']
   rw [Az e,b]; exact ih
theorem KV.any {kvs:List (κ × V)} {vs:List (κ × Value)} (r:KV kvs vs) (k:κ):(kvs.any fun kv=>decide (kv.1 = k)) = vs.any fun kv=>decide (kv.1 = k):=by
 unfold KV at r
 induction r with
 | nil=>rfl
 | cons h t ih=>rw [List.any_cons,List.any_cons,ih,h.1]
theorem KV.repl {kvs:List (κ × V)} {vs:List (κ × Value)} (r:KV kvs vs) (k:κ) {y:V} {u:Value} (ry:RelV y u) :
  KV (kvs.map fun kv=>if kv.1 = k then (kv.1,y) else kv) (vs.map fun kv=>if kv.1 = k then (kv.1,u) else kv):=by
 unfold KV at r ⊢
 induction r with
 | nil=>exact .nil
 | @cons p q ps qs h t ih =>
  rw [List.map_cons,List.map_cons]
  refine .cons ?_ ih
  obtain ⟨h1,h2⟩:=h
  by_cases e:p.1 = k
  .rw [if_pos e,if_pos (h1.symm.trans e)]; exact ⟨h1,ry⟩
  .rw [if_neg e,if_neg (fun z=>e (h1.trans z))]; exact ⟨h1,h2⟩
theorem KV.put {kvs:List (κ × V)} {vs:List (κ × Value)} (r:KV kvs vs) (k:κ) {y:V} {u:Value} (ry:RelV y u):KV (putK kvs k y) (stored vs k u):=by
 unfold putK stored
 rw [r.any k]
 by_cases e:(vs.any fun kv=>decide (kv.1 = k)) = true
 .rw [if_pos e,if_pos e]; exact r.repl k ry
 .rw [if_neg e,if_neg e]; exact Paired.snoc r ⟨rfl,ry⟩
theorem KV.length {kvs:List (κ × V)} {vs:List (κ × Value)} (r:KV kvs vs):kvs.length = vs.length:=Paired.length r
end
theorem Lw {P:Program} {w:World} {k:Key} {u:Value} (r:RelV (kV k) u):(jF P w).is k u = true:=by
 cases k with
 | inl i=>obtain ⟨t,e⟩:=(show ∃ t,u = Value.int i t from r); subst e; exact Lj P w i t
 | inr x=>obtain ⟨t,e⟩:=(show ∃ t,u = Value.str x t from r); subst e; exact J1 P w x t
section
variable {P:Program} {w:World} {H:Hp} {h:Heap} {a:Addr}
theorem ac9 {u:HO} (ok:HOk P w H h) (e:Rd H a u):dz P w H h a u:=e.ok ok
theorem Dq {kvs:List (Key × V)} (ok:HOk P w H h) (e:Rd H a (.dK kvs)):kvs.length <= sizeLine/\(a == sysModules) = false/\∃ vs,KV kvs vs/\h.DictOf (jF P w) a vs :=
 show dz P w H h a (.dK kvs) from ac9 ok e
theorem acW {kvs:List (Key × V)} (ok:HOk P w H h) (e:H a = some (.dK kvs)):kvs.length <= sizeLine/\(a == sysModules) = false/\∃ vs,KV kvs vs/\h.DictOf (jF P w) a vs:=Dq ok (.inl e)
end
noncomputable def ur (H:Hp) (a:Addr) (y:V) (r:Option V):Prop :=
 (∃ kvs k,Rd H a (.dK kvs)/\y = kV k/\r = oV kvs k)\/False
noncomputable def Oq (H:Hp) (a:Addr) (y v:V) (H':Hp):Prop :=
 (∃ kvs k,H a = some (.dK kvs)/\y = kV k/\kvs.length < sizeLine/\H' = upd H a (.dK (putK kvs k v)))\/False
theorem ur.k {H:Hp} {a:Addr} {kvs:List (Key × V)} {k:Key} (e:H a = some (.dK kvs)):ur H a (kV k) (oV kvs k):=.inl ⟨kvs,k,.inl e,rfl,rfl⟩
theorem Oq.k {H:Hp} {a:Addr} {kvs:List (Key × V)} {k:Key} {v:V} (e:H a = some (.dK kvs)) (hl:kvs.length < sizeLine):Oq H a (kV k) v (upd H a (.dK (putK kvs k v))):=.inl ⟨kvs,k,e,rfl,hl,rfl⟩
section
variable {X:Cx} {pins:List (Addr × Obj)} {σ:St} {H:Hp} {s:Shared} {a:Addr} {y v:V} {u r:Value} {o:Option V} {A:Around} {E:Value->Shared->Prop}
theorem Inv.big (I:Inv X pins σ H s):sysModules < s.heap.objs.size:=by
 have h:mainGlobals < s.heap.objs.size:=(I.mod.glob.keeps I.bk).lt
 exact Nat.lt_trans (by decide) h
theorem RT {Q:Value->Shared->Prop} (hu:A.units + 1 < cLine) (I:Inv X pins σ H s) (g:ur H a y (some v)) (ry:RelV y u) (h:∀ w' s',Inv X pins σ H s'->RelV v w'->Q w' s') :
  wpAny (model X.prog X.w) A (getItem (.ref a) u) Q E s:=by
 rcases g with ⟨kvs,k,e,ey,l⟩ | hF
 .subst ey
  obtain ⟨z,hd,vs,rel,dd⟩:=Dq I.hok e
  obtain ⟨w',hw,rw'⟩:=tW.some_of (v:=v) (o:=valueAt vs k) (by rw [l]; exact rel.val k)
  exact wpAny_getItem_of (Lw ry) dd.mapOf hw (h w' _ (I.tok _) rw')
 .exact hF.elim
theorem agf {Q:Value->Shared->Prop} (hu:A.units + 1 < cLine) (I:Inv X pins σ H s) (g:ur H a y o) (ry:RelV y u) (h:∀ s',Inv X pins σ H s'->Q (.bool o.isSome) s') :
  wpAny (model X.prog X.w) A (compareOp .In u (.ref a)) Q E s:=by
 rcases g with ⟨kvs,k,e,ey,l⟩ | hF
 .subst ey
  obtain ⟨z,hd,vs,rel,dd⟩:=Dq I.hok e
  refine wpAny_in_of (Lw ry) hd dd.mapOf ?_
  rw [<- (rel.val k).isSome_eq,<- l]
  exact h _ (I.tok _)
 .exact hF.elim
theorem ZG {Q:Value->Shared->Prop} (hu:A.units + 1 < cLine) (I:Inv X pins σ H s) (g:ur H a y o) (ry:RelV y u) (h:∀ s',Inv X pins σ H s'->Q (.bool (!o.isSome)) s') :
  wpAny (model X.prog X.w) A (compareOp .NotIn u (.ref a)) Q E s:=by
 rcases g with ⟨kvs,k,e,ey,l⟩ | hF
 .subst ey
  obtain ⟨z,hd,vs,rel,dd⟩:=Dq I.hok e
  refine wpAny_notIn_of (Lw ry) hd dd.mapOf ?_
  rw [<- (rel.val k).isSome_eq,<- l]
  exact h _ (I.tok _)
 .exact hF.elim
theorem aal {h':Heap} {t':Nat} {ob:HO} (I:Inv X pins σ H s) (mu:Mut (H a)) (hs:Heap.SameBut a s.heap h') (he:∃ q,h'.get? a = some q) (new:dz X.prog X.w (upd H a ob) h' a ob) :
  Inv X pins σ (upd H a ob) { s with heap:=h',toks:=t' } :=
 I.write (x:=a) (e:=a) mu (.inl rfl) (fun b q hb z=>(hs.2 b hb).trans z) he new
theorem aa3 {P:Program} {w:World} {H':Hp} {h':Heap} {kvs:List (Key × V)} {vs:List (Key × Value)} (z:kvs.length <= sizeLine) (hd:(a == sysModules) = false) (rel:KV kvs vs) (dd:h'.DictOf (jF P w) a vs) :
  dz P w H' h' a (.dK kvs):=⟨z,hd,vs,rel,dd⟩
theorem Rj {H':Hp} {Q:Unit->Shared->Prop} (hu:A.units + 1 < cLine) (I:Inv X pins σ H s) (g:Oq H a y v H') (ry:RelV y u) (rv:RelV v r) (h:∀ s',Inv X pins σ H' s'->Q () s') :
  wpAny (model X.prog X.w) A (setItem (.ref a) u r) Q E s:=by
 rcases g with ⟨kvs,k,e,ey,l,eH⟩ | hF
 .subst ey eH
  obtain ⟨z,hd,vs,rel,dd⟩:=acW I.hok e
  have hz:vs.length <= sizeLine:=by rw [<- rel.length]; exact z
  have hl:(putK kvs k v).length <= sizeLine:=by have:=K7 kvs k v; omega
  refine wpAny_setItem_pairs (hsz:=hz) (Lw ry) dd fun h' dd' hs=>h _ ?_
  have he:∃ q,h'.get? a = some q:=let ⟨q,_,_,hq,_⟩:=dd'; ⟨q,hq⟩
  exact aal I (by rw [e]; exact True.intro) hs he (aa3 hl hd (rel.put k rv) dd')
 .exact hF.elim
end
section
variable {X:Cx} {pins:List (Addr × Obj)} {σ:St} {H:Hp} {s:Shared} {a:Addr} {kvs:List (Key × V)} {k:Key} {u:Value} {A:Around} {E:Value->Shared->Prop}
end
noncomputable def ac8 (i:Expr):Prop:=∀ ov iv,subscripted i false ov iv = operate [ov,iv] (getItem ov iv)
theorem Zu {prog:Program} {w:World} {A:Around} {E:Value->Shared->Prop} {s:Shared} {env:Env} {value slice:Expr} {pos:Pos} {T id:String} {Q:Value->Shared->Prop}
  (hl:typeLookup (.type T) "__getitem__" = pure (some (.builtin id))) (hs:ac8 slice)
  (h:wpAny (model prog w) A (eval value env) (fun o s₁=>wpAny (model prog w) A (eval slice env) (fun i s₂=>s₂.TypeIs o T/\wpAny (model prog w) A (getItem o i) Q E s₂) E s₁) E s) :
  wpAny (model prog w) A (eval (.Subscript value slice pos) env) Q E s:=by
 refine Subscript_ (wpAny_mono h (fun o s₁ h₁=>wpAny_mono h₁ (fun i s₂ h₂=>?_) fun _ _ x=>x) fun _ _ x=>x)
 obtain ⟨hT,h₂⟩:=h₂
 unfold subscriptTail
 refine wpAny_bind ?_
 rw [getitemInPython_of_ne hT.not_modules]
 refine wpAny_bind (wpAny_specialOf hT hl ?_)
 have fin:wpAny (model prog w) A (subscripted slice false o i) (fun r s₃=>wpAny (model prog w) A (letTemporaryGo value o r >>= fun _=>pure r) Q E s₃) E s₂:=by
  rw [hs o i]
  exact wpAny_operating (wpAny_mono h₂ (fun r s₃ h₃=>wpAny_bind (wpAny_letTemporaryGo (wpAny_pure h₃))) fun _ _ x=>x)
 first
  | exact wpAny_pure (wpAny_bind fin)
  | exact wpAny_bind (wpAny_pure (wpAny_bind fin))
  | exact wpAny_bind fin
theorem Lz {X:Cx} {pins:List (Addr × Obj)} {σ:St} {H:Hp} {s:Shared} {a:Addr} {y:V} {o:Option V} (I:Inv X pins σ H s) (g:ur H a y o):s.TypeIs (.ref a) "dict" := by
 rcases g with ⟨kvs,k,e,_,_⟩ | hF
 .obtain ⟨_,_,vs,_,dd⟩:=Dq I.hok e
  exact dd.typeIs
 .exact hF.elim
noncomputable def P0 (td ty:TE):TE:=fun σ H Q=>td σ H fun x H1=>ty σ H1 fun y H2=>∃ a v,x = .ref a/\ur H2 a y (some v)/\Q v H2
noncomputable def Y7 (ty td:TE):TE:=fun σ H Q=>ty σ H fun y H1=>td σ H1 fun x H2=>∃ a o,x = .ref a/\ur H2 a y o/\Q (.bl o.isSome) H2
noncomputable def Ak (ty td:TE):TE:=fun σ H Q=>ty σ H fun y H1=>td σ H1 fun x H2=>∃ a o,x = .ref a/\ur H2 a y o/\Q (.bl (!o.isSome)) H2
noncomputable def Qt (td ty tv:TE):TS:=fun D σ H=>tv σ H fun v H1=>td σ H1 fun x H2=>ty σ H2 fun y H3=>∃ a H4,x = .ref a/\Oq H3 a y v H4/\D.nx σ H4
section
variable {X:Cx} {o i e value:Expr} {pos pos' tpos:Pos} {td ty tv:TE}
theorem Hz (hu:X.A.units + 1 < cLine) (ho:PE X o td) (hi:PE X i ty) (hs:ac8 i):PE X (.Subscript o i pos) (P0 td ty):=by
 intro pins s σ H Q I h
 refine Zu PySem.F.slot_dict_getitem.lookup hs (thn (ho pins s σ H _ I h) fun u s1 ⟨x,H1,I1,rx,q1⟩=>thn (hi pins s1 σ H1 _ I1 q1) fun iv s2 ⟨y,H2,I2,ry,a,v,ex,g,q2⟩=>?_)
 subst ex
 obtain rfl:u = Value.ref a:=rx
 exact ⟨Lz I2 g,RT hu I2 g ry fun w' s3 I3 rw'=>⟨v,H2,I3,rw',q2⟩⟩
theorem Xu (hu:X.A.units + 1 < cLine) (hi:PE X i ty) (ho:PE X o td):PC X .In i o (Y7 ty td):=by
 intro pins s σ H Q I h
 refine thn (hi pins s σ H _ I h) fun iv s1 ⟨y,H1,I1,ry,q1⟩=>thn (ho pins s1 σ H1 _ I1 q1) fun u s2 ⟨x,H2,I2,rx,a,ov,ex,g,q2⟩=>?_
 subst ex
 obtain rfl:u = Value.ref a:=rx
 exact agf hu I2 g ry fun s3 I3=>⟨.bl ov.isSome,H2,I3,rfl,q2⟩
theorem Rf (hu:X.A.units + 1 < cLine) (hi:PE X i ty) (ho:PE X o td):PC X .NotIn i o (Ak ty td):=by
 intro pins s σ H Q I h
 refine thn (hi pins s σ H _ I h) fun iv s1 ⟨y,H1,I1,ry,q1⟩=>thn (ho pins s1 σ H1 _ I1 q1) fun u s2 ⟨x,H2,I2,rx,a,ov,ex,g,q2⟩=>?_
 subst ex
 obtain rfl:u = Value.ref a:=rx
 exact ZG hu I2 g ry fun s3 I3=>⟨.bl (!ov.isSome),H2,I3,rfl,q2⟩
theorem Jx (hu:X.A.units + 1 < cLine) (ho:PE X o td) (hi:PE X i ty) (hv:PE X value tv) (hs:swapsWith value (some (.Subscript o i pos')) pos.line X.env = pure false) :
  PS X (.Assign [.Subscript o i pos'] value pos) (Qt td ty tv):=by
 intro pins s σ H D I h
 refine wpAny_Assign_Subscript (thn (hv pins s σ H _ I h) fun r s1 ⟨v,H1,I1,rv,q1⟩=>thn (ho pins s1 σ H1 _ I1 q1) fun u s2 ⟨x,H2,I2,rx,q2⟩=>thn (hi pins s2 σ H2 _ I2 q2) fun iv s3 ⟨y,H3,I3,ry,a,H4,ex,g,q3⟩=>?_) hs
 subst ex
 obtain rfl:u = Value.ref a:=rx
 exact Rj hu I3 g ry rv fun s4 I4=>⟨σ,H4,I4,q3⟩
end
theorem W9 {P:Program} {w:World} {H:Hp} (h:Heap) (hb:sysModules < h.objs.size):dz P w H (h.push { cls:=.type "dict",data:=.dict #[] }) h.objs.size (.dK []) :=
 ⟨bw _,beq_eq_false_iff_ne.mpr (Ne.symm (aR hb)),[],.nil,Heap.DictOf.new h⟩
noncomputable def GP:TE:=fun _ H Q=>∀ p,H p = none->Q (.ref p) (upd H p (.dK []))
section
variable {X:Cx} {pos:Pos}
theorem Bo:PE X (.Dict [] [] pos) GP:=fun pins s σ H Q I h =>
 wpAny_Dict_empty ⟨.ref s.heap.objs.size,_,I.laid (a:=s.heap.objs.size) (o:=.dK []) (t':=s.toks) (fun _ _ q=>aH _ q) (aG _) (W9 s.heap I.big),rfl,h _ (I.hok.fresh (aG _))⟩
end
structure M2 (X:Cx) (o:Expr) (m:Str) (apos:Pos) (e f:Expr) (cpos:Pos):Prop where
 base:attributeBase o m X.env (eval o X.env) = eval o X.env
 few:((backTo cpos (starEach [e,f] X.env)).all (fun x=>!x.1) && (backToKw cpos (keywordEach [] X.env)).all (fun x=>x.1.isSome)
  && decide (([e,f] : List Expr).length + ([] : List Keyword).length + (if ([] : List Keyword).isEmpty then 0 else 1) < 30)) = true
 line:(apos.endLine == cpos.line) = true
 trees:backTo cpos (starEach [e,f] X.env) = [(false,eval e X.env),(false,eval f X.env)]
noncomputable def IsD (H:Hp) (a:Addr):Prop:=(∃ kvs,Rd H a (.dK kvs))\/False
theorem abA {X:Cx} {pins:List (Addr × Obj)} {σ:St} {H:Hp} {s:Shared} {a:Addr} (I:Inv X pins σ H s) (d:IsD H a) :
  s.TypeIs (.ref a) "dict" /\ (∀ b,Value.ref a = .ref b->∃ ob,s.heap.get? b = some ob/\ob.dict = none)/\(a == sysModules) = false:=by
 rcases d with ⟨kvs,e⟩ | hF
 .obtain ⟨_,hd,vs,_,dd⟩:=Dq I.hok e
  refine ⟨dd.typeIs,fun b q=>?_,hd⟩
  cases q
  obtain ⟨ob,_,_,h1,h2,_⟩:=dd
  exact ⟨ob,h1,h2.2.1⟩
 .exact hF.elim
section
variable {X:Cx} {pins:List (Addr × Obj)} {σ:St} {H:Hp} {s:Shared} {a:Addr} {y d:V} {u r:Value} {o:Option V} {A:Around} {E:Value->Shared->Prop}
theorem abM {Q:Value->Shared->Prop} (hu:A.units + 1 < cLine) (I:Inv X pins σ H s) (g:ur H a y o) (ry:RelV y u) (rd:RelV d r) (h:∀ w' s',Inv X pins σ H s'->RelV (o.getD d) w'->Q w' s') :
  wpAny (model X.prog X.w) A (call (.builtin "dict.get") [.ref a,u,r]) Q E s:=by
 rcases g with ⟨kvs,k,e,ey,l⟩ | hF
 .subst ey
  obtain ⟨z,hd,vs,rel,dd⟩:=Dq I.hok e
  refine call_meetsIn PySem.F.slot_dict_get dd.typeIs PySem.F.entry_dict_get (PySem.F.args_dict_get_3 _ _ _) (meets_dict_get_default (jF X.prog X.w) a (Lw ry) hd r) ⟨_,dd.mapOf,h _ _ (I.tok _) ?_⟩
  rw [l]
  exact (rel.val k).getD rd
 .exact hF.elim
end
noncomputable def GD (td ty tx:TE):TE:=fun σ H Q=>td σ H fun x H1=>∃ a,x = .ref a/\IsD H1 a/\ty σ H1 fun y H2=>tx σ H2 fun z H3=>∃ o,ur H3 a y o/\Q (o.getD z) H3
section
variable {X:Cx} {o e f:Expr} {apos cpos:Pos} {td ty tx:TE}
theorem Uj (hu:X.A.units + 1 < cLine) (ho:PE X o td) (he:PE X e ty) (hf:PE X f tx) (m:M2 X o "get" apos e f cpos):PE X (.Call (.Attribute o "get" apos) [e,f] [] cpos) (GD td ty tx):=by
 intro pins s σ H Q I h
 refine wpAny_Call_method m.base m.few m.line PySem.F.plainAttrs_dict PySem.F.slot_dict_get PySem.F.type_dict_get (thn (ho pins s σ H _ I h) fun u s1 ⟨x,H1,I1,rx,a,ex,d,q1⟩=>?_)
 subst ex
 obtain rfl:u = Value.ref a:=rx
 obtain ⟨t1,t2,_⟩:=abA I1 d
 refine ⟨t1,t2,?_⟩
 rw [m.trees]
 refine Calls.callWith_builtin rfl (Calls.evalArgs_plain (Calls.spliced_cons (thn (he pins s1 σ H1 _ I1 q1) fun iv s2 ⟨y,H2,I2,ry,q2⟩ =>
  Calls.spliced_cons (thn (hf pins s2 σ H2 _ I2 q2) fun fv s3 ⟨z,H3,I3,rz,ov,g,q3⟩=>Calls.spliced_nil ?_))))
 exact abM hu I3 g ry rz fun w' s4 I4 rw'=>⟨_,H3,I4,rw',q3⟩
end
section
variable {X:Cx} {pins:List (Addr × Obj)} {σ:St} {H:Hp} {s:Shared} {a:Addr} {kvs:List (Key × V)} {A:Around} {E:Value->Shared->Prop}
end
section
variable {X:Cx} {pins:List (Addr × Obj)} {σ:St} {H:Hp} {s:Shared} {a:Addr} {y:V} {u:Value} {A:Around} {E:Value->Shared->Prop}
end
section
variable {κ:Type} [DecidableEq κ]
end
end L2
namespace L2
open PySem PySem.Spec PyProof.Rows
noncomputable def Itk (a:Addr) (o:Obj) (kvs:List (Key × V)):It:=⟨fun i H=>H a = some (.frz o (.dK kvs))/\i < kvs.length,fun i H v H'=>H' = H/\∃ k y,kvs[i]? = some (k,y)/\v = kV k,fun i H=>H a = some (.frz o (.dK kvs))/\i = kvs.length⟩
theorem acw {P:Program} {w:World} {k:Key} {u:Value} (h:(jF P w).is k u = true):RelV (kV k) u:=by
 have h:yt k u = true:=h
 cases k with
 | inl i =>
  cases u <;> simp [yt,Value.isInt] at h
  .subst h; exact ⟨_,rfl⟩
 | inr x =>
  cases u <;> simp [yt,Value.isStrOf] at h
  .subst h; exact ⟨_,rfl⟩
theorem KV.at {κ:Type} {kvs:List (κ × V)} {vs:List (κ × Value)} (r:KV kvs vs):∀ {i:Nat} {k:κ} {y:V},kvs[i]? = some (k,y)->∃ u,vs[i]? = some (k,u)/\RelV y u:=by
 unfold KV at r
 induction r with
 | nil=>intro i k y h; cases h
 | @cons p q ps qs h t ih =>
  intro i k y e
  cases i with
  | zero =>
   rw [List.getElem?_cons_zero] at e
   cases e
   obtain ⟨q1,q2⟩:=q
   obtain ⟨h1,h2⟩:=h
   cases h1
   exact ⟨q2,rfl,h2⟩
  | succ i =>
   rw [List.getElem?_cons_succ] at e ⊢
   exact ih e
theorem Tc {P:Program} {w:World} {K:Frag} {tg:Expr} (it a:Addr) (o:Obj) (kvs:List (Key × V)) (vs:List (Key × Value)) (ep:Nat) (rel:KV kvs vs) (hD:∀ h:Heap,h.get? a = some o->h.DictAt (jF P w) a vs ep) :
  Turn P w K tg (Itk a o kvs) [it] it (fun i h=>h.IsKeyIter it a i vs.length ep) where
 mem:=by simp
 obj:=fun i h st b hb=>by
  have e:b = it:=by simpa using hb
  subst e
  obtain ⟨o,ho,_,hd⟩:=st
  exact ⟨o,ho,fun v z=>by rw [hd] at z; cases z⟩
 keep:=fun i h h' st k=>let ⟨o,ho,r⟩:=st; ⟨o,k it (by simp) o ho,r⟩
 item:=by
  intro X hP hw hK hc i pins s σ H E I hf st hg
  subst hP hw hK
  obtain ⟨hg,hlt⟩:=hg
  obtain ⟨ho,_⟩:=(show dz X.prog X.w H s.heap a (.frz o (.dK kvs)) from I.hok a _ hg)
  obtain ⟨f0,f1,f2,f3,f4,f5⟩:=hf it (by simp)
  obtain ⟨⟨k,y⟩,hx⟩ : ∃ p,kvs[i]? = some p:=⟨kvs[i],by simp [hlt]⟩
  obtain ⟨u,hu,ru⟩:=rel.at hx
  refine wpAny_pyNext_dict_item st (hD _ ho) hu fun key h' hkey st' sb=>?_
  have I1:Inv X pins σ H { s with heap:=h' }:=I.turned (t':=s.toks) (fun b ob hb e=>(sb.2 b hb).trans e) f0 f1 f3 f4 f5
  obtain ⟨oi,e,c,d⟩:=id st'
  exact ⟨key,rfl,Qq (s:={ s with heap:=h' }) e c d (by decide) ⟨kV k,H,I1,acw hkey,⟨rfl,k,y,hx,rfl⟩,st',fun b hb=>(hf b hb).1⟩⟩
 done:=by
  intro X hP hw hK hc i pins s σ H E I hf st hg
  subst hP hw hK
  obtain ⟨hg,rfl⟩:=hg
  obtain ⟨ho,_⟩:=(show dz X.prog X.w H s.heap a (.frz o (.dK kvs)) from I.hok a _ hg)
  obtain ⟨f0,f1,f2,f3,f4,f5⟩:=hf it (by simp)
  have hl:=rel.length
  exact wpAny_pyNext_dict_end (I.ok.hd hc) st (hD _ ho) (by simp; omega) fun h' eb=>⟨rfl,I.turned (t':=s.toks) (fun b ob hb e=>eb b ob hb e) f0 f1 f3 f4 f5⟩
 self:=fun _ _ _ _ _ st h=>wpAny_pyIter_keyiter st h
section
variable {X:Cx} {tg:Expr}
noncomputable def aaK (te:TE):TI:=fun σ H R=>te σ H fun x H1=>∃ a kvs,x = .ref a/\H1 a = some (.dK kvs)/\∀ o,R (Itk a o kvs) (upd H1 a (.frz o (.dK kvs)))
theorem aaf {l:Expr} {tl:TE} (hl:PE X l tl):PI X tg l (aaK tl):=by
 intro pins s σ H R I h
 refine thn (hl pins s σ H _ I h) fun v s1 ⟨x,H1,I1,r1,a,kvs,ex,ha,q⟩=>?_
 subst ex
 cases r1
 have ok:=(show dz X.prog X.w H1 s1.heap a (.dK kvs) from I1.hok a _ ha)
 obtain ⟨z,hd,vs,rel,o,es,ep,e,ex,ed,ek,epr,en⟩:=ok
 have hD:∀ h:Heap,h.get? a = some o->h.DictAt (jF X.prog X.w) a vs ep:=fun h e=>⟨o,es,e,ex,ed,ek,epr,en⟩
 have I2:Inv X pins σ (upd H1 a (.frz o (.dK kvs))) s1:=by
  have:=I1.write (x:=a) (e:=a) (o:=.frz o (.dK kvs)) (h':=s1.heap) (t':=s1.toks) (by rw [ha]; exact True.intro) (.inl rfl) (fun b u hb z=>z) ⟨o,e⟩ ⟨e,z,hd,vs,rel,o,es,ep,e,ex,ed,ek,epr,en⟩
  exact this
 refine wpAny_pyIter_dict hd (hD _ e) ?_
 refine ⟨s1.heap.objs.size,[s1.heap.objs.size],_,Itk a o kvs,_,rfl,I2.kept (t':=s1.toks) fun b ob z=>aH _ z,Tc _ a o kvs vs ep rel hD,⟨_,aY _ rfl,rfl,rfl⟩,fun b hb=>?_,q o⟩
 have e:b = s1.heap.objs.size:=by simpa using hb
 subst e
 exact I2.fpOk (aG _) (I2.hok.fresh (aG _))
noncomputable def tMG (g:TG):TG:=fun v σ H Q=>∃ R:L2.St->Hp->Prop,g v σ H R/\∀ σ' H',R σ' H'->Q σ' H'
noncomputable def tMT (t:TT):TT:=fun σ H Q=>∃ R:Bool->Hp->Prop,t σ H R/\∀ b H',R b H'->Q b H'
theorem PG.mono {e:Expr} {g:TG} (h:PG X e g):PG X e (tMG g):=fun pins s σ H v u Q I r ⟨R,h1,h2⟩=>thn (h pins s σ H v u R I r h1) fun _ s' ⟨σ',H',I',q⟩=>⟨σ',H',I',h2 σ' H' q⟩
theorem PTs.mono {ifs:List Expr} {t:TT} (h:PTs X ifs t):PTs X ifs (tMT t):=fun pins s σ H Q I ⟨R,h1,h2⟩=>thn (h pins s σ H R I h1) fun b s' ⟨H',I',q⟩=>⟨H',I',h2 b H' q⟩
noncomputable def zW (n:Nat) (gt:TG) (tc:TT) (te:TE) (x:V) (σ:L2.St) (H:Hp) (Y:VK) (No:Hp->Prop):Prop:=∀ pre:L2.St,pre.length = n->gt x (pre ++ σ) H fun σ2 H2=>∃ pre':L2.St,pre'.length = n/\σ2 = pre' ++ σ/\tc σ2 H2 fun b H3 =>
 match b with
 | true=>te σ2 H3 Y
 | false=>No H3
theorem zW.weak {n:Nat} {gt:TG} {tc:TT} {te:TE} {x:V} {σ:L2.St} {H:Hp} {Y Y':VK} {No No':Hp->Prop} (h:zW n gt tc te x σ H Y No) (h1:∀ y H',Y y H'->Y' y H') (h2:∀ H',No H'->No' H'):zW n (tMG gt) (tMT tc) (tM te) x σ H Y' No':=fun pre hp =>
 ⟨_,h pre hp,fun σ2 H2 ⟨pre',e1,e2,q⟩=>⟨pre',e1,e2,_,q,fun b H3 z=>match b,z with
  | true,z=>⟨_,z,h1⟩
  | false,z=>h2 H3 z⟩⟩
theorem oY {K:Frag} {tl te:TE} {gt:TG} {tc:TT} {n:Nat} {σ:L2.St} {H:Hp} {Q:VK} (h:tl σ H fun x H1=>∃ a xs,x = .ref a/\H1 a = some (.lst xs)/\xs.length <= sizeLine/\∀ D,H1 D = none->∃ J:Nat->List V->Hp->Prop,J 0 [] (upd H1 D (.lst [])) /\
   (∀ k x ys Hc,xs[k]? = some x->J k ys Hc->ys.length <= k->Hc a = some (.lst xs)->zW n gt tc te x σ Hc (fun y H2=>H2 D = some (.lst ys)/\H2 a = some (.lst xs)/\J (k + 1) (ys ++ [y]) (upd H2 D (.lst (ys ++ [y])))) fun H2=>H2 a = some (.lst xs)/\J (k + 1) ys H2) /\
   ∀ ys Hc,J xs.length ys Hc->ys.length <= xs.length->Q (.ref D) Hc):jK (Dt K (tM tl)) n (tMG gt) (tMT tc) (tM te) σ H Q:=by
 refine ⟨_,h,?_⟩
 rintro x H1 ⟨a,xs,rfl,hx,hz,rest⟩
 refine ⟨a,rfl,⟨xs,.of hx⟩,fun D hD=>?_⟩
 obtain ⟨J,j0,step,fin⟩:=rest D hD
 have ne:a ≠ D:=bD hx hD
 refine ⟨fun k m ys Hc=>k <= xs.length/\m = xs.length - k/\ys.length <= k/\Hc a = some (.lst xs)/\J k ys Hc,⟨_,bw _,rfl,bw _,(bI ne).trans hx,j0⟩,?_⟩
 rintro k m ys Hc ⟨hk,rfl,hy,hx',j⟩
 by_cases e:k = xs.length
 .subst e
  exact .inl ⟨⟨xs,.of hx',aG _⟩,fin ys Hc j hy⟩
 .have hlt:k < xs.length:=by omega
  refine .inr ⟨⟨xs,_,.of hx',aj hlt⟩,?_⟩
  rintro x H'' ⟨rfl,y⟩
  refine (step k x ys H'' (y xs (.of hx')) j hy hx').weak ?_ ?_
  .rintro yv H2 ⟨z1,z2,z3⟩
   refine ⟨by omega,z1,xs.length - (k + 1),by omega,by omega,rfl,?_,?_,z3⟩
   .rw [aB]; simp; omega
   .rw [bI ne]; exact z2
  .rintro H2 ⟨z2,z3⟩
   exact ⟨xs.length - (k + 1),by omega,by omega,rfl,by omega,z2,z3⟩
theorem Kd {tl te:TE} {gt:TG} {tc:TT} {n:Nat} {σ:L2.St} {H:Hp} {Q:VK} (h:tl σ H fun x H1=>∃ a kvs,x = .ref a/\H1 a = some (.dK kvs)/\kvs.length <= sizeLine/\∀ o D,upd H1 a (.frz o (.dK kvs)) D = none->∃ J:Nat->List V->Hp->Prop,J 0 [] (upd (upd H1 a (.frz o (.dK kvs))) D (.lst [])) /\
   (∀ i k y ys Hc,kvs[i]? = some (k,y)->J i ys Hc->ys.length <= i->Hc a = some (.frz o (.dK kvs))->zW n gt tc te (kV k) σ Hc (fun y H2=>H2 D = some (.lst ys)/\H2 a = some (.frz o (.dK kvs))/\J (i + 1) (ys ++ [y]) (upd H2 D (.lst (ys ++ [y])))) fun H2=>H2 a = some (.frz o (.dK kvs))/\J (i + 1) ys H2) /\
   ∀ ys Hc,J kvs.length ys Hc->ys.length <= kvs.length->Q (.ref D) Hc):jK (aaK (tM tl)) n (tMG gt) (tMT tc) (tM te) σ H Q:=by
 refine ⟨_,h,?_⟩
 rintro x H1 ⟨a,kvs,rfl,hx,hz,rest⟩
 refine ⟨a,kvs,rfl,hx,fun o D hD=>?_⟩
 obtain ⟨J,j0,step,fin⟩:=rest o D hD
 have ne:a ≠ D:=bD bH hD
 refine ⟨fun k m ys Hc=>k <= kvs.length/\m = kvs.length - k/\ys.length <= k/\Hc a = some (.frz o (.dK kvs))/\J k ys Hc,⟨_,bw _,rfl,bw _,(bI ne).trans bH,j0⟩,?_⟩
 rintro k m ys Hc ⟨hk,rfl,hy,hx',j⟩
 by_cases e:k = kvs.length
 .subst e
  exact .inl ⟨⟨hx',rfl⟩,fin ys Hc j hy⟩
 .have hlt:k < kvs.length:=by omega
  refine .inr ⟨⟨hx',hlt⟩,?_⟩
  rintro x H'' ⟨rfl,kk,yy,hkk,rfl⟩
  refine (step k kk yy ys H'' hkk j hy hx').weak ?_ ?_
  .rintro yv H2 ⟨z1,z2,z3⟩
   refine ⟨by omega,z1,kvs.length - (k + 1),by omega,by omega,rfl,?_,?_,z3⟩
   .rw [aB]; simp; omega
   .rw [bI ne]; exact z2
  .rintro H2 ⟨z2,z3⟩
   exact ⟨kvs.length - (k + 1),by omega,by omega,rfl,by omega,z2,z3⟩
end
end L2
namespace L2
open PySem PySem.Spec PyProof.Rows
theorem Same.tup {K:Frag} {H H':Hp} {a:Addr} {xs:List V} (e:Same H H') (h:SqT K H a xs):SqT K H' a xs:=by
 rcases h with (h | ⟨o,h⟩) | h
 .exact .inl (.inl (e _ _ h))
 .exact .inl (.inr ⟨o,e _ _ h⟩)
 .exact .inr h
theorem SqT.updO {K:Frag} {H:Hp} {a l:Addr} {xs:List V} {o u:HO} (h:SqT K H a xs) (hl:H l = some o) (h1:∀ ys,o ≠ .tup ys) (h2:∀ ob ys,o ≠ .frz ob (.tup ys)):SqT K (upd H l u) a xs:=by
 rcases h with (h | ⟨ob,h⟩) | h
 .exact .inl (.inl ((bI (fB h hl (fun z=>h1 xs z.symm))).trans h))
 .exact .inl (.inr ⟨ob,(bI (fB h hl (fun z=>h2 ob xs z.symm))).trans h⟩)
 .exact .inr h
mutual
inductive kh (K:Frag) (H:Hp):V->PyData->Prop
 | non:kh K H .non .none
 | bl (b:Bool):kh K H (.bl b) (.bool b)
 | int (i:Int):kh K H (.int i) (.int i)
 | str (x:Str):kh K H (.str x) (.str x)
 | lst {a:Addr} {xs:List V} {ds:List PyData} : H a = some (.lst xs)->cW K H xs ds->kh K H (.ref a) (.list ds)
 | tup {a:Addr} {xs:List V} {ds:List PyData} : SqT K H a xs->cW K H xs ds->kh K H (.ref a) (.tuple ds)
inductive cW (K:Frag) (H:Hp):List V->List PyData->Prop
 | nil:cW K H [] []
 | cons {x:V} {xs:List V} {d:PyData} {ds:List PyData} : kh K H x d->cW K H xs ds->cW K H (x :: xs) (d :: ds)
end
mutual
theorem kh.same {K:Frag} {H H':Hp} (S:Same H H'):∀ {x:V} {d:PyData},kh K H x d->kh K H' x d
 | _,_,.non=>.non
 | _,_,.bl b=>.bl b
 | _,_,.int i=>.int i
 | _,_,.str x=>.str x
 | _,_,.lst e h=>.lst (S _ _ e) (cW.same S h)
 | _,_,.tup e h=>.tup (S.tup e) (cW.same S h)
theorem cW.same {K:Frag} {H H':Hp} (S:Same H H'):∀ {xs:List V} {ds:List PyData},cW K H xs ds->cW K H' xs ds
 | _,_,.nil=>.nil
 | _,_,.cons h t=>.cons (kh.same S h) (cW.same S t)
end
theorem cW.ints (K:Frag) (H:Hp):∀ ns:List Int,cW K H (ns.map V.int) (ns.map PyData.int)
 | []=>.nil
 | n :: ns=>.cons (.int n) (cW.ints K H ns)
section
variable {X:Cx} {pins:List (Addr × Obj)} {σ:L2.St} {H:Hp} {s:Shared}
mutual
theorem Inv.readsK (I:Inv X pins σ H s):∀ {x:V} {d:PyData} {v:Value},kh X.K H x d->RelV x v->∃ as,Reads s.heap v d as
 | _,_,_,.non,r=>by cases r; exact ⟨_,.none⟩
 | _,_,_,.bl b,r=>by cases r; exact ⟨_,.bool b⟩
 | _,_,_,.int i,r=>by obtain ⟨t,rfl⟩:=r; exact ⟨_,.int i t⟩
 | _,_,_,.str x,r=>by obtain ⟨t,rfl⟩:=r; exact ⟨_,.str x t⟩
 | _,_,_,.lst e h,r=>by
  cases r
  obtain ⟨its,rv,⟨o,ho,hc,n,hd⟩⟩:=I.lstIs e
  obtain ⟨as,q⟩:=Inv.readsAllK I h rv
  exact ⟨_,.list ho hc hd q⟩
 | _,_,_,.tup e h,r=>by
  cases r
  obtain ⟨its,rv,⟨o,ho,hc,n,hd⟩,_⟩:=I.tuple e
  obtain ⟨as,q⟩:=Inv.readsAllK I h rv
  exact ⟨_,.tuple ho hc hd q⟩
theorem Inv.readsAllK (I:Inv X pins σ H s):∀ {xs:List V} {ds:List PyData} {vs:List Value},cW X.K H xs ds->Vals xs vs->∃ as,ReadsAll s.heap vs ds as
 | _,_,_,.nil,r=>by cases r; exact ⟨_,.nil⟩
 | _,_,_,.cons h t,r=>by
  cases r with
  | cons r1 r2 =>
   obtain ⟨a,q1⟩:=Inv.readsK I h r1
   obtain ⟨b,q2⟩:=Inv.readsAllK I t r2
   exact ⟨_,.cons q1 q2⟩
end
noncomputable def Xd (K:Frag) (neg:Bool):R2:=fun x y H Q=>∃ d e,kh K H x d/\kh K H y e/\SeqAt.shaped d = true/\SeqAt.shaped e = true/\Q (.bl (if neg then !PyData.eqv d e else PyData.eqv d e)) H
theorem abF (hu:X.A.units + 64 < cLine):OpR X (compareOp .NotEq) (Xd X.K true):=by
 intro pins s σ H x y v u Q I rx ry h
 obtain ⟨d,e,hd,he,sd,se,q⟩:=h
 obtain ⟨as,ra⟩:=I.readsK hd rx
 obtain ⟨bs,rb⟩:=I.readsK he ry
 exact SeqAt.compareNe_shaped ra rb sd se hu ⟨.bl _,H,I,rfl,q⟩
end
section
variable {X:Cx}
noncomputable def Qk (K:Frag):List V->Hp->VK->Prop:=fun xs H Q=>∃ p ys,xs = [.ref p]/\SqT K H p ys/\Q (.int ys.length) H
theorem Sx:eZ X (.builtin "len") (Qk X.K):=yd.imp fun xs H Q ⟨p,ys,a,b,c⟩=>⟨p,ys,a,.inr b,c⟩
noncomputable def Am (K:Frag):List V->Hp->VK->Prop:=fun xs H Q=>∃ p T ys,xs = [.ref p,.ty T]/\T ∈ ["bool", "int", "str", "list", "tuple", "dict"]/\SqT K H p ys/\Q (.bl (Ke "tuple" T)) H
theorem Mp:eZ X (.builtin "isinstance") (Am X.K):=by
 intro pins s σ H xs us Q I r h
 obtain ⟨p,T,ys,rfl,hT,hp,q⟩:=h
 obtain ⟨u,v,rfl,ru,rv⟩:=r.two
 cases ru
 cases rv
 obtain ⟨its,rvs,⟨o,ho,hc,n,hd⟩,_⟩:=I.tuple hp
 refine PySem.W.kia_one (PySem.W.kitx_tuple (a:=p)) I.kIn ⟨o,ho,hc⟩ (Qm (K:=X.K) (t := "tuple") (by decide) hT) (fun z=>nomatch z) fun tk=>⟨.bl _,H,I.tok _,rfl,q⟩
end
end L2
namespace L2
open PySem PySem.Spec PyProof.Rows
noncomputable def OkI (P:Program) (w:World) (K:Frag) (mg:Str->Option Value) (base:Heap) (CX:CXT) (k:Nat) (f:Addr) (ps:List Str) (sp:Sp):Prop:=∃ fd,cD P w K mg base CX k f fd ps sp/\Binds K fd ps []
noncomputable def qK (K:Frag) (x qual:Str) (st:Stmt) (ps:List Str) (f:Addr):Prop:=∃ fd,Fun K x qual st f fd/\∀ us:List Value,us.length = ps.length->bindArgs fd ⟨us,[]⟩ = pure (ps.zip us)
theorem qK.ok {P:Program} {w:World} {K:Frag} {mg:Str->Option Value} {base:Heap} {CX:CXT} {k:Nat} {x qual:Str} {st:Stmt} {ps:List Str} {f:Addr} {sp:Sp} (h:qK K x qual st ps f) (hf:∀ fd,Fun K x qual st f fd->cD P w K mg base CX k f fd ps sp):OkI P w K mg base CX k f ps sp :=
 let ⟨fd,a,b⟩:=h; ⟨fd,hf fd a,.all b⟩
theorem Zq {K:Frag} {x qual:Str} {st:Stmt} {ps:List Str} {f:Addr} {oc:Value} {od an:Option Addr} {osl:Array (Option Value)} {kV doc pm cdv ct:Value}
  (l:K.lookup f = some ⟨oc,od,.func (PySem.W.fnOf x qual (i_ st) (fM st) (bM st) .none kV doc pm an cdv ct),osl⟩) (c:PySem.W.codeIn K cdv qual = true) (k:PySem.W.keepIn K (.ref f) = true)
  (hb:∀ (kV doc pm:Value) (an:Option Addr) (cdv ct:Value) (us:List Value),us.length = ps.length->bindArgs (PySem.W.fnOf x qual (i_ st) (fM st) (bM st) .none kV doc pm an cdv ct) ⟨us,[]⟩ = pure (ps.zip us)):qK K x qual st ps f :=
 ⟨_,Uu l c k,hb kV doc pm an cdv ct⟩
section
variable {X:Cx} {k:Nat} {f C B:Addr} {ps:List Str} {sp:Sp} {x m:Str} {p pos apos:Pos} {e o:Expr} {es:List Expr} {ta:TE} {t:TA} {Ex:Value->Option Addr->L2.St->Hp->Prop}
theorem PE.any {ι:Sort _} {R:ι->Prop} {a:Expr} {ts:ι->TE} (h:∀ i,R i->PE X a (ts i)):PE X a (fun σ H Q=>∃ i,R i/\ts i σ H Q):=fun pins s σ H Q I ⟨i,r,q⟩=>h i r pins s σ H Q I q
noncomputable def Hu (C:Addr) (sp:Sp) (Ex:Value->Option Addr->L2.St->Hp->Prop) (t:TA):TE:=fun σ H Q=>t σ H fun vs H1=>∀ x dx,H1 x = none->H1 dx = none->dx ≠ x->sp (.ref x :: vs) (upd (upd H1 dx (.own x)) x (.ins C dx [])) (fun v H2=>v = .non/\Q (.ref x) H2) fun E d H'=>Ex E d σ H'
theorem sH (M:Mk X.K C f) (G:OkI X.prog X.w X.K X.mg X.base (CXO X.prog X.w) k f ps sp) (hr:gG (k + 1) X.A) (hg:Gl X x) (hm:X.mg x = some (.ref C)) (hx:Ej X Ex) (ha:PA X (e :: es) t) (hdb:(x == ("__debug__" : Str)) = false:=by decide)
  (he:starEach (e :: es) X.env = (false,eval e X.env) :: starEach es X.env:=by rfl) (hpl:(backTo pos (starEach es X.env)).any (·.1) = false:=by rfl):PE X (.Call (.Name x p) (e :: es) [] pos) (Hu C sp Ex t):=by
 obtain ⟨fd,F,hb⟩:=G
 refine (Wj M F hr hg hm hb .nil hx ha.mono hdb he hpl).imp fun σ H Q h=>⟨_,h,fun vs H1 q x dx h1 h2 h3=>?_⟩
 rw [List.append_nil]
 exact q x dx h1 h2 h3
noncomputable def Dp (C:Addr) (m:Str) (sp:Sp) (ta:TE) (t:TA):TE:=fun σ H Q=>ta σ H fun x H1=>∃ a dx fs,x = .ref a/\H1 a = some (.ins C dx fs)/\fs.lookup m = none/\t σ H1 fun vs H2=>sp (x :: vs) H2 Q E0
theorem Bj {pl:Sem Bool} (he:PE X o ta) (c:Cls X.K C) (hm:Meth X.K C m f) (G:OkI X.prog X.w X.K X.mg X.base CX0 k f ps sp) (hr:gG k X.A) (ha:PA X (e :: es) t)
  (hst:starEach (e :: es) X.env = (false,eval e X.env) :: starEach es X.env:=by rfl) (hpl:(backTo pos (starEach es X.env)).any (·.1) = false:=by rfl)
  (ht:eval (.Call (.Attribute o m apos) (e :: es) [] pos) X.env = (do
   let ov <- eval o X.env
   standAt apos.atName
   let (f,first) <- holding [ov] (getMethod ov m pl)
   callWith pos f first (backTo pos (starEach (e :: es) X.env)) (backToKw pos (keywordEach [] X.env))):=by rfl) :
  PE X (.Call (.Attribute o m apos) (e :: es) [] pos) (Dp C m sp ta t):=by
 obtain ⟨fd,F,hb⟩:=G
 refine (YM (pl:=pl) he.mono c hm F hr hb .nil Qc ha.mono hst hpl ht).imp fun σ H Q h=>⟨_,h,?_⟩
 rintro x H1 ⟨a,dx,fs,h1,h2,h3,h4⟩
 refine ⟨a,dx,fs,h1,h2,h3,_,h4,fun vs H2 q=>?_⟩
 show sp (x :: (vs ++ [])) H2 Q E0
 rw [List.append_nil]
 exact q
theorem zp {pl:Sem Bool} (he:PE X o ta) (c:Cls X.K C) (hm:Meth X.K C m f) (G:OkI X.prog X.w X.K X.mg X.base CX0 k f ps sp) (hr:gG k X.A)
  (ht:eval (.Call (.Attribute o m apos) [] [] pos) X.env = (do
   let ov <- eval o X.env
   standAt apos.atName
   let (f,first) <- holding [ov] (getMethod ov m pl)
   callWith pos f first (backTo pos (starEach [] X.env)) (backToKw pos (keywordEach [] X.env))):=by rfl) :
  PE X (.Call (.Attribute o m apos) [] [] pos) (Dp C m sp ta sV):=by
 obtain ⟨fd,F,hb⟩:=G
 refine (T9 (pl:=pl) he.mono c hm F hr hb .nil Qc ht).imp fun σ H Q h=>⟨_,h,?_⟩
 rintro x H1 ⟨a,dx,fs,h1,h2,h3,h4⟩
 exact ⟨a,dx,fs,h1,h2,h3,h4⟩
theorem xG {pl:Sem Bool} (c:kj X.K B m f) (G:OkI X.prog X.w X.K X.mg X.base (CXO X.prog X.w) k f ps sp) (hr:gG k X.A) (hg:Gl X x) (hm:X.mg x = some (.ref B)) (hx:Ej X Ex) (ha:PA X (e :: es) t) (hdb:(x == ("__debug__" : Str)) = false:=by decide)
  (hst:starEach (e :: es) X.env = (false,eval e X.env) :: starEach es X.env:=by rfl) (hpl:(backTo pos (starEach es X.env)).any (·.1) = false:=by rfl)
  (ht:eval (.Call (.Attribute (.Name x p) m apos) (e :: es) [] pos) X.env = (do
   let ov <- eval (.Name x p) X.env
   standAt apos.atName
   let (f,first) <- holding [ov] (getMethod ov m pl)
   callWith pos f first (backTo pos (starEach (e :: es) X.env)) (backToKw pos (keywordEach [] X.env))):=by rfl) :
  PE X (.Call (.Attribute (.Name x p) m apos) (e :: es) [] pos) (zJ sp Ex t):=by
 obtain ⟨fd,F,hb⟩:=G
 exact U_ (pl:=pl) c F hr hg hm hb hx ha hdb hst hpl ht
theorem jV {D:Addr} {pos:Pos} (hg:Gl X x) (hm:X.mg x = some (.ref D)) (hd:(x == ("__debug__" : Str)) = false:=by decide):PE X (.Name x pos) (tC (.ref D)):=Pn hg hm rfl hd
end
theorem QZ {X:Cx} {K:Frag} (e:X.K = K) (hu:X.A.units + 64 < cLine):OpR X (compareOp .NotEq) (Xd K true):=e ▸ abF hu
end L2
namespace L2
open PySem PySem.Spec PyProof.Rows
theorem Fw {h:Heap} {o ob:Obj} {b:Addr} (e:(h.push o).get? b = some ob) (hs:b ≠ h.objs.size):h.get? b = some ob:=by
 obtain ⟨e1,e2⟩:=Heap.get?_some_iff.mp e
 refine Heap.get?_some_iff.mpr ⟨?_,e2⟩
 cases h
 simpa [Heap.push,Array.getElem?_push,hs] using e1
section
variable {X:Cx}
end
section
variable {ta:TA} {te:TE} {σ:L2.St} {H:Hp} {Q:VK}
end
section
variable {X:Cx}
theorem Lx:∀ {ys:List Str} {vs:List Value},Vals (ys.map V.str) vs->StrsAre vs ys
 | [],_,h=>by cases h; exact .nil
 | y :: ys,_,h=>by
  rw [List.map_cons] at h
  cases h with
  | cons a b =>
   obtain ⟨t,rfl⟩:=a
   exact .cons y t (Lx b)
noncomputable def rJoin:V->List V->Hp->VK->Prop:=fun x vs H Q=>∃ a l ys,x = .str a/\vs = [.ref l]/\H l = some (.lst (ys.map V.str))/\(ys.map (·.length)).sum + ys.length * a.length <= 16777216/\Q (.str (Txt.join a ys)) H
theorem Zj:MtM X "str.join" rJoin:=by
 intro pins s σ H x vs v us Q I rx rv h
 obtain ⟨a,l,ys,rfl,rfl,hl,hz,q⟩:=h
 obtain ⟨t,rfl⟩:=rx
 obtain ⟨u,rfl,ru⟩:=rv.one
 cases ru
 obtain ⟨_,its,n,r,_,e⟩:=I.lstM hl
 exact join_list ⟨_,e,rfl,n,rfl⟩ (by simpa using Lx r) hz fun t' k=>⟨.str _,H,I.tok _,⟨_,rfl⟩,q⟩
structure K8 (K:Frag) (C:Addr):Prop where
 ha:PySem.W.findIn K (.ref C) "__class__" = some (some (.builtin "object.__class__"))
 hn:PySem.W.specialIn K (.builtin "object.__class__") "__get__" = some (some (.builtin "getset_descriptor.__get__"))
 tk:PySem.W.takesIn K (.builtin "object.__class__") = some true
 hm:PySem.W.mroIn K C (.type "object") = some true
noncomputable def V9 (K:Frag):List V->Hp->VK->Prop:=fun xs H Q=>∃ a D C dx fs b,xs = [.ref a,.ref D]/\H a = some (.ins C dx fs)/\Cls K C/\K8 K C/\PySem.W.kitOne K (.ref C) (.ref D) = some b/\Q (.bl b) H
noncomputable def Xj:List V->Hp->VK->Prop:=fun xs H Q=>∃ i j,xs = [.int i,.int j]/\Q (.int (if j < i then j else i)) H
noncomputable def Xq:List V->Hp->VK->Prop:=fun xs H Q=>∃ i j,xs = [.int i,.int j]/\Q (.int (if j > i then j else i)) H
end
end L2
namespace L2
open PySem PySem.Spec PyProof.Rows
section
variable {X:Cx} {elt iter:Expr} {pos:Pos} {scope:Scope} {wi:TI} {te:TE}
theorem WY {i0:Nat} {y0:Str} {py spos:Pos} {xs N':List Str} {tg:Expr} {ifs:List Expr} {gt:TG} {tc:TT} (hc:X.calm = true) (hsh:Fy xs X.N = N') (hN:(xs ++ N').Nodup) (hkind:scope.kind = .function) (hcell:∀ y ∈ scope.names,y.2 ≠ .cell) (hnames:∀ y ∈ scope.names,y.2 = .local->scope.names.lookup y.1 = some .local)
  (hfree:∀ y ∈ scope.names,y.2 = .free->X.env.kindOf y.1 = some .cell\/X.env.kindOf y.1 = some .free) (hloc:∀ y ∈ X.N,y ∉ xs->(relabel scope X.env).names.lookup y ≠ some .local) (hq:∀ y ∈ X.N,y ∈ xs->(relabel scope X.env).names.lookup (hid y) = none) (hi:PI X tg iter wi)
  (hg:∀ C s₀ H₀ ex pn,PG (X.compG N' scope xs C s₀ H₀ ex pn) tg gt) (ht:∀ C s₀ H₀ ex pn,PTs (X.compG N' scope xs C s₀ H₀ ex pn) ifs tc) (he:∀ C s₀ H₀ ex pn,PE (X.compG N' scope xs C s₀ H₀ ex pn) elt te) (hgy:PG X (.Name y0 py) (cN i0)) (hsw:swapsWith (.ListComp elt [⟨tg,iter,ifs,0⟩] scope pos) (some (.Name y0 py)) spos.line X.env = pure true) (hs:∀ z,foldedSetIterable iter X.env z = pure z:=by intro _; rfl) :
  PS X (.Assign [.Name y0 py] (.ListComp elt [⟨tg,iter,ifs,0⟩] scope pos) spos) (El (jK wi xs.length gt tc te) (cN i0)):=by
 intro pins s σ H D0 I h
 have h:jK wi xs.length gt tc te σ H (fun x H1=>cN i0 x σ H1 D0.nx):=h
 rw [exec_Assign_Name_used _ _ _ _ hsw]
 refine wpAny_bind (wpAny_standAt (wpAny_bind ?_))
 show wpAny _ X.A (comprehension (.ListComp elt [⟨tg,iter,ifs,0⟩] scope pos) scope X.env _ (newList []) false (eval iter X.env) (some (assign (.Name y0 py) X.env)) >>= fun _=>_) _ _ s
 refine wpAny_bind (wpAny_mono (B_ (use:=some (assign (.Name y0 py) X.env)) (post:=fun _ s'=>SP X pins D0 .next s') hc hsh hN hkind hcell hnames hfree hloc hq hi hg ht he hs I h fun C D Hc s6 m fl hn6 I6 fC qn=>?_) (fun _ s' hq=>wpAny_pure (wpAny_pure hq)) fun _ _ e=>e)
 obtain ⟨oc,es,ep,ho,hdat,_⟩:=id hn6
 have I7:=I6.pinned (fp:=[C]) (fun b hb=>by rw [List.mem_singleton.mp hb]; exact fC) fun b hb=>by
  rw [List.mem_singleton.mp hb]
  exact ⟨oc,ho,fun v z=>by rw [hdat] at z; cases z⟩
 show wpAny _ X.A (assign (.Name y0 py) X.env _) _ _ s6
 refine thn (hgy _ s6 σ Hc (.ref D) _ D0.nx I7 rfl qn) fun _ s7 ⟨σ7,H7,Z7,q7⟩=>?_
 have pn7:=Z7.pin (C,oc) (aQ _ (aQ _ (oU (by simp) ho)))
 refine ⟨m,hn6.at' fun o e=>?_,fun h' hs'=>⟨σ7,H7,Z7.unpinned.turned (it:=C) (h':=h') (t':=s7.toks) (fun b o hb e=>(hs'.2 b hb).trans e) pn7.2.1 fC.2.1 fC.2.2.2.1 fC.2.2.2.2.1 fC.2.2.2.2.2,q7⟩⟩
 rw [ho] at e
 cases e
 exact pn7.1
theorem Vw {te:TE} {x:V} {σ:L2.St} {H:Hp} {Y:VK} {No:Hp->Prop} (h:te (some x :: σ) H Y):zW 1 (cN 0) Jt te x σ H Y No:=fun pre hp=>by
 obtain ⟨u,rfl⟩:=List.length_eq_one_iff.mp hp
 exact ⟨[some x],rfl,rfl,h⟩
theorem c7 {K:Frag} {tl te:TE} {σ:L2.St} {H:Hp} {Q:VK} (h:tl σ H fun x H1=>∃ a xs,x = .ref a/\H1 a = some (.lst xs)/\xs.length <= sizeLine/\∀ D,H1 D = none->∃ J:Nat->List V->Hp->Prop,J 0 [] (upd H1 D (.lst [])) /\
   (∀ k x ys Hc,xs[k]? = some x->J k ys Hc->ys.length = k->Hc a = some (.lst xs)->te (some x :: σ) Hc fun y H2=>H2 D = some (.lst ys)/\H2 a = some (.lst xs)/\J (k + 1) (ys ++ [y]) (upd H2 D (.lst (ys ++ [y])))) /\
   ∀ ys Hc,J xs.length ys Hc->ys.length = xs.length->Q (.ref D) Hc):jK (Dt K (tM tl)) 1 (tMG (cN 0)) (tMT Jt) (tM te) σ H Q:=by
 refine ⟨_,h,?_⟩
 rintro x H1 ⟨a,xs,rfl,hx,hz,rest⟩
 refine ⟨a,rfl,⟨xs,.of hx⟩,fun D hD=>?_⟩
 obtain ⟨J,j0,step,fin⟩:=rest D hD
 have ne:a ≠ D:=bD hx hD
 refine ⟨fun k m ys Hc=>k <= xs.length/\m = xs.length - k/\ys.length = k/\Hc a = some (.lst xs)/\J k ys Hc,⟨_,bw _,rfl,rfl,(bI ne).trans hx,j0⟩,?_⟩
 rintro k m ys Hc ⟨hk,rfl,hy,hx',j⟩
 by_cases e:k = xs.length
 .subst e
  exact .inl ⟨⟨xs,.of hx',aG _⟩,fin ys Hc j hy⟩
 .have hlt:k < xs.length:=by omega
  refine .inr ⟨⟨xs,_,.of hx',aj hlt⟩,?_⟩
  rintro x H'' ⟨rfl,y⟩
  refine (Vw (No:=fun _=>False) (step k x ys H'' (y xs (.of hx')) j hy hx')).weak ?_ (fun _ z=>z.elim)
  rintro yv H2 ⟨z1,z2,z3⟩
  refine ⟨by omega,z1,xs.length - (k + 1),by omega,by omega,rfl,?_,?_,z3⟩
  .rw [aB,hy]; rfl
  .rw [bI ne]; exact z2
theorem M7 {te:TE} {σ:L2.St} {H:Hp} {Q:VK} {lo:Int} {n:Nat} (hn:n <= 64) (rest:∀ D,H D = none->∃ J:Nat->List V->Hp->Prop,J 0 [] (upd H D (.lst []))/\(∀ k ys Hc,k < n->J k ys Hc->ys.length = k->te (some (.int (lo + k)) :: σ) Hc fun y H2=>H2 D = some (.lst ys)/\J (k + 1) (ys ++ [y]) (upd H2 D (.lst (ys ++ [y]))))/\∀ ys Hc,J n ys Hc->ys.length = n->Q (.ref D) Hc) :
  ∀ D,H D = none->∃ W:Nat->Nat->List V->Hp->Prop,(∃ m,W 0 m [] (upd H D (.lst [])))/\∀ i m ys Hc,W i m ys Hc->((Itr lo n).stop i Hc/\Q (.ref D) Hc)\/((Itr lo n).go i Hc/\∀ x H',(Itr lo n).yld i Hc x H'->zW 1 (tMG (cN 0)) (tMT Jt) (tM te) x σ H' (fun y H2=>ys.length < sizeLine/\H2 D = some (.lst ys)/\∃ m',m' < m/\W (i + 1) m' (ys ++ [y]) (upd H2 D (.lst (ys ++ [y])))) fun H3=>∃ m',m' < m/\W (i + 1) m' ys H3):=by
 intro D hD
 obtain ⟨J,j0,step,fin⟩:=rest D hD
 have hz:64 <= sizeLine:=by decide
 refine ⟨fun k m ys Hc=>k <= n/\m = n - k/\ys.length = k/\J k ys Hc,⟨_,bw _,rfl,rfl,j0⟩,?_⟩
 rintro k m ys Hc ⟨hk,rfl,hy,j⟩
 by_cases e:k = n
 .subst e
  exact .inl ⟨aG _,fin ys Hc j hy⟩
 .have hlt:k < n:=by omega
  refine .inr ⟨hlt,?_⟩
  rintro x H'' ⟨rfl,rfl⟩
  refine (Vw (No:=fun _=>False) (step k ys H'' hlt j hy)).weak ?_ (fun _ z=>z.elim)
  rintro yv H2 ⟨z1,z2⟩
  exact ⟨by omega,z1,n - (k + 1),by omega,by omega,rfl,by rw [aB,hy]; rfl,z2⟩
theorem mV {ta:TA} {te:TE} {σ:L2.St} {H:Hp} {Q:VK} (h:ta σ H fun vs H1=>∃ n:Nat,vs = [.int n]/\n <= 64/\∀ D,H1 D = none->∃ J:Nat->List V->Hp->Prop,J 0 [] (upd H1 D (.lst []))/\(∀ (k:Nat) ys Hc,k < n->J k ys Hc->ys.length = k->te (some (.int k) :: σ) Hc fun y H2=>H2 D = some (.lst ys)/\J (k + 1) (ys ++ [y]) (upd H2 D (.lst (ys ++ [y]))))/\∀ ys Hc,J n ys Hc->ys.length = n->Q (.ref D) Hc) :
  jK (KY (tMA ta)) 1 (tMG (cN 0)) (tMT Jt) (tM te) σ H Q:=by
 refine ⟨_,h,?_⟩
 rintro vs H1 ⟨n,rfl,hn,rest⟩
 refine ⟨n,rfl,by omega,by omega,?_⟩
 rw [Int.toNat_natCast]
 refine M7 hn fun D hD=>?_
 obtain ⟨J,j0,step,fin⟩:=rest D hD
 exact ⟨J,j0,fun k ys Hc h1 h2 h3=>by rw [Int.zero_add]; exact step k ys Hc h1 h2 h3,fin⟩
end
theorem cD.wild {P:Program} {w:World} {K:Frag} {mg:Str->Option Value} {base:Heap} {k:Nat} {f:Addr} {fd:FuncData} {ps:List Str} {sp:Sp} (F:cD P w K mg base CX0 k f fd ps sp):cD P w K mg base (CXO P w) k f fd ps sp:=by
 refine ⟨F.len,fun A outer s H args us vs Q E hr e0 hb r h=>?_⟩
 refine codeAny_mono (F.run A outer s H args us vs Q E hr e0 hb r h) fun res s' hs=>?_
 cases res with
 | error e=>exact False.elim hs
 | ok fl =>
  cases fl with
  | ret u=>exact hs
  | next=>exact hs
  | brk=>exact hs
  | cont=>exact hs
theorem OkF.wild {P:Program} {w:World} {K:Frag} {mg:Str->Option Value} {base:Heap} {k:Nat} {x:Str} {ps:List Str} {sp:Sp} (F:OkF P w K mg base k x ps sp):OkX P w K mg base k x ps sp:=let ⟨f,fd,a,b⟩:=F; ⟨f,fd,a.wild,b⟩
end L2
namespace L2
open PySem PySem.Spec PyProof.Rows
section
variable {X:Cx} {pins:List (Addr × Obj)} {σ:L2.St} {H:Hp} {s:Shared} {h':Heap}
theorem Inv.turnedL {t':Nat} {ch:List Addr} (I:Inv X pins σ H s) (k:∀ b o,b ∉ ch->s.heap.get? b = some o->h'.get? b = some o) (hf:∀ b ∈ ch,Ae X pins H b):Inv X pins σ H { s with heap:=h',toks:=t' }:=by
 have nit:∀ b u,H b = some u->b ∉ ch:=fun b u e z=>by rw [(hf b z).1] at e; cases e
 refine I.step (g':=s.gens) (d':=s.drawn) (ch:=ch) (fun b hb=>⟨(hf b hb).2.2.2.1,(hf b hb).2.1,(hf b hb).2.2.2.2.1,(hf b hb).2.2.2.2.2⟩) (fun b o _ _ hc e _=>k b o hc e) (fun b o _ _ hc e _=>⟨o.slots,k b o hc e⟩) (fun _ _ _ _ n=>n) (fun b o hc e=>⟨o,k b o hc e⟩) (fun _ _ e=>e) (fun _ _ _ e=>e) (fun b ps e=>⟨#[],by rw [e]; simp⟩) (fun m hm=>?_) (fun b u e=>?_) I.bare
 .obtain ⟨o,es,ep,ho,r⟩:=hm
  exact ⟨o,es,ep,k _ o (fun z=>(hf _ z).2.1 rfl) ho,r⟩
 .refine (I.hok b u e).stay (fun c v hc q=>k c v ?_ q) (fun _ q=>q) fun _ _ q=>q
  rcases hc with z | z
  .rw [z]; exact nit b u e
  .exact nit c _ z
end
noncomputable def Itz (a b:Addr):It:=⟨fun i H=>∃ xs ys,H a = some (.lst xs)/\H b = some (.lst ys)/\i < xs.length/\i < ys.length,fun i H v H'=>∃ xs ys x y t,H a = some (.lst xs)/\H b = some (.lst ys)/\xs[i]? = some x/\ys[i]? = some y/\H t = none/\v = .ref t/\H' = upd H t (.tup [x,y]),fun i H=>∃ xs ys,H a = some (.lst xs)/\H b = some (.lst ys)/\(xs.length <= i\/ys.length <= i)⟩
theorem n_ {h g:Heap} {a l:Addr} {i:Nat} (x:h.IsListIter a l i) (k:∀ o,h.get? a = some o->g.get? a = some o):g.IsListIter a l i:=let ⟨o,e,r⟩:=x; ⟨o,k o e,r⟩
theorem G_ {xs:List V} {vs:List Value} : Vals xs vs->∀ {i:Nat} {x:V},xs[i]? = some x->∃ u,vs[i]? = some u/\RelV x u:=by
 intro h
 induction h with
 | nil=>intro i x e; cases e
 | cons a b ih =>
  intro i x e
  cases i with
  | zero=>rw [List.getElem?_cons_zero] at e; cases e; exact ⟨_,rfl,a⟩
  | succ i=>rw [List.getElem?_cons_succ] at e ⊢; exact ih e
theorem Vk {P:Program} {w:World} {K:Frag} {elts:List Expr} {x1} {pos:Pos} (z TI TO i1 i2 l1 l2:Addr) (D:ZipApart z TI TO i1 i2 l1 l2) :
  Turn P w K (.Tuple elts x1 pos) (Itz l1 l2) [z,TI,TO,i1,i2] z (fun i h=>IsZip h z TI TO .none/\IsPair h TI (.ref i1) (.ref i2)/\(∃ p q,IsPair h TO p q)/\h.IsListIter i1 l1 i/\h.IsListIter i2 l2 i) where
 mem:=by simp
 obj:=by
  rintro i h ⟨s1,s2,⟨p,q,s3⟩,⟨o4,s4,_,d4⟩,⟨o5,s5,_,d5⟩⟩ b hb
  simp only [List.mem_cons,List.not_mem_nil,or_false] at hb
  rcases hb with rfl | rfl | rfl | rfl | rfl
  .exact ⟨_,s1,fun v e=>by cases e⟩
  .exact ⟨_,s2,fun v e=>by cases e⟩
  .exact ⟨_,s3,fun v e=>by cases e⟩
  .exact ⟨_,s4,fun v e=>by rw [d4] at e; cases e⟩
  .exact ⟨_,s5,fun v e=>by rw [d5] at e; cases e⟩
 keep:=fun i h h' ⟨s1,s2,⟨p,q,s3⟩,s4,s5⟩ k=>⟨k z (by simp) _ s1,k TI (by simp) _ s2,⟨p,q,k TO (by simp) _ s3⟩,n_ s4 (k i1 (by simp)),n_ s5 (k i2 (by simp))⟩
 item:=by
  intro X hP hw hK hc i pins s σ H E I hf st hg
  subst hP hw hK
  obtain ⟨s1,s2,⟨p,q,s3⟩,s4,s5⟩:=st
  obtain ⟨xs,ys,ha,hb,lt1,lt2⟩:=hg
  obtain ⟨_,it1,n1,rv1,le1,g1⟩:=I.lstM ha
  obtain ⟨_,it2,n2,rv2,le2,g2⟩:=I.lstM hb
  have ex:xs[i]? = some xs[i]:=aj lt1
  have ey:ys[i]? = some ys[i]:=aj lt2
  obtain ⟨u,hu,ru⟩:=G_ rv1 ex
  obtain ⟨v,hv,rv⟩:=G_ rv2 ey
  refine wpAny_pyNext_zip_item D s1 s2 s3 s4 s5 (xs:=it1.toArray) (ys:=it2.toArray) ⟨_,g1,rfl,n1,rfl⟩ ⟨_,g2,rfl,n2,rfl⟩ (x:=u) (y:=v) (by simpa using hu) (by simpa using hv) fun h' a1 a2 a3 a4 a5 a6 a7=>⟨_,rfl,?_⟩
  refine wpAny_letOwnedTupleGo_zip a1 fun h2 st2 sb=>?_
  have nt:H s.heap.objs.size = none:=I.fresh
  have I1:=I.laid (a:=s.heap.objs.size) (o:=.tup [xs[i],ys[i]]) (h':=s.heap.push { cls:=.type "tuple",data:=.seq #[u,v] }) (t':=s.toks) (fun b q z=>aH _ z) (aG _)
   ⟨(by show 2 <= sizeLine; decide),[u,v],.cons ru (.cons rv .nil),_,aY _ rfl,rfl,_,rfl⟩
  have nz:z ≠ s.heap.objs.size:=aR (aK s1)
  have nO:TO ≠ s.heap.objs.size:=aR (aK s3)
  have nI:TI ≠ s.heap.objs.size:=aR (aK s2)
  have n1':i1 ≠ s.heap.objs.size:=by obtain ⟨o,e,_⟩:=s4; exact aR (aK e)
  have n2':i2 ≠ s.heap.objs.size:=by obtain ⟨o,e,_⟩:=s5; exact aR (aK e)
  have fpn:∀ b ∈ [z,TI,TO,i1,i2],upd H s.heap.objs.size (.tup [xs[i],ys[i]]) b = none:=by
   intro b hb
   have f0:=(hf b hb).1
   simp only [List.mem_cons,List.not_mem_nil,or_false] at hb
   rcases hb with rfl | rfl | rfl | rfl | rfl
   .exact (bI nz).trans f0
   .exact (bI nI).trans f0
   .exact (bI nO).trans f0
   .exact (bI n1').trans f0
   .exact (bI n2').trans f0
  have I2:=I1.turnedL (ch:=[z,TO,i1,i2]) (h':=h2) (t':=s.toks) (fun b ob hb e=>by
   simp only [List.mem_cons,List.not_mem_nil,or_false,not_or] at hb
   obtain ⟨b1,b2,b3,b4⟩:=hb
   refine (sb.2 b b1).trans ?_
   by_cases hs:b = s.heap.objs.size
   .subst hs
    have e2:=aY s.heap (o:={ cls:=.type "tuple",data:=.seq #[u,v] }) rfl
    have e:(s.heap.push { cls:=.type "tuple",data:=.seq #[u,v] }).get? s.heap.objs.size = some ob:=e
    rw [e2] at e
    cases e
    exact a5
   .exact a7 b _ b1 b2 b3 b4 (Fw e hs)) fun b hb=>by
    have hb':b ∈ [z,TI,TO,i1,i2]:=by
     simp only [List.mem_cons,List.not_mem_nil,or_false] at hb ⊢
     rcases hb with h | h | h | h <;> simp [h]
    exact ⟨fpn b hb',(hf b hb').2⟩
  have mv:∀ c o,c ≠ z->h'.get? c = some o->h2.get? c = some o:=fun c o n e=>(sb.2 c n).trans e
  exact ⟨.ref _,_,I2,rfl,⟨xs,ys,_,_,_,ha,hb,ex,ey,nt,rfl,rfl⟩,⟨st2,mv _ _ D.TIz (a7 _ _ D.TIz D.TITO D.TIi1 D.TIi2 s2),⟨_,_,mv _ _ D.TOz a2⟩,n_ a3 fun o e=>mv _ _ D.i1z e,n_ a4 fun o e=>mv _ _ D.i2z e⟩,fpn⟩
 done:=by
  intro X hP hw hK hc i pins s σ H E I hf st hg
  subst hP hw hK
  obtain ⟨s1,s2,⟨p,q,s3⟩,s4,s5⟩:=st
  obtain ⟨xs,ys,ha,hb,lt⟩:=hg
  obtain ⟨_,it1,n1,rv1,le1,g1⟩:=I.lstM ha
  obtain ⟨_,it2,n2,rv2,le2,g2⟩:=I.lstM hb
  refine wpAny_pyNext_zip_end (I.ok.hd hc) D s1 s2 s3 s4 s5 (xs:=it1.toArray) (ys:=it2.toArray) ⟨_,g1,rfl,n1,rfl⟩ ⟨_,g2,rfl,n2,rfl⟩ (by simp; omega) fun h' k=>⟨rfl,I.turnedL (ch:=[z,TO,i1,i2]) (t':=s.toks) (fun b ob hb e=>?_) fun b hb=>?_⟩
  .simp only [List.mem_cons,List.not_mem_nil,or_false,not_or] at hb
   exact k b ob hb.1 hb.2.1 hb.2.2.1 hb.2.2.2 e
  .exact hf b (by
    simp only [List.mem_cons,List.not_mem_nil,or_false] at hb ⊢
    rcases hb with h | h | h | h <;> simp [h])
 self:=fun _ _ _ _ _ ⟨s1,_⟩ h=>wpAny_pyIter_zip s1 h
section
variable {X:Cx}
theorem Rt (n l1 l2:Nat) (h1:l1 < n) (h2:l2 < n):ZipApart (n + 4) (n + 2) (n + 3) n (n + 1) l1 l2:=by
 constructor <;> first | exact aR (by omega) | exact Nat.ne_of_gt (by omega)
theorem Zv (n b:Nat) (h:b = n + 4\/b = n + 2\/b = n + 3\/b = n\/b = n + 1):n <= b:=by omega
theorem boot_zip:bootBuiltins "zip" = some (.type "zip"):=by decide +kernel
noncomputable def ab5 (ta:TA):TI:=fun σ H R=>ta σ H fun vs H1=>∃ a b xs ys,vs = [.ref a,.ref b]/\H1 a = some (.lst xs)/\H1 b = some (.lst ys)/\R (Itz a b) H1
theorem Nk {a b:Expr} {ta:TA} {elts:List Expr} {x1} {p pos tpos:Pos} (hg:Gl X "zip") (hm:X.mg "zip" = none) (ha:PA X [a,b] ta) (hs:starEach [a,b] X.env = [(false,eval a X.env),(false,eval b X.env)]:=by rfl) (hs2:starEach [b] X.env = [(false,eval b X.env)]:=by rfl) :
  PI X (.Tuple elts x1 tpos) (.Call (.Name "zip" p) [a,b] [] pos) (ab5 ta):=by
 intro pins s σ H R I h
 refine Call_ (zj I hg hm boot_zip (PyProof.Rows.callWith_type1 (thn (ha pos pins s σ H _ I h) fun us s1 ⟨vs,H1,I1,r1,q1⟩=>?_) (by rw [hs,hs2]) (by rw [hs2]; rfl)))
 obtain ⟨l1,l2,xs,ys,e,h1,h2,q⟩:=q1
 subst e
 obtain ⟨u,v,rfl,ru,rv⟩:=r1.two
 cases ru
 cases rv
 obtain ⟨_,it1,n1,rv1,le1,g1⟩:=I1.lstM h1
 obtain ⟨_,it2,n2,rv2,le2,g2⟩:=I1.lstM h2
 have z1:=aK g1
 have z2:=aK g2
 refine call_zip_2 (xs:=it1.toArray) (ys:=it2.toArray) ⟨_,g1,rfl,n1,rfl⟩ ⟨_,g2,rfl,n2,rfl⟩ fun h' a1 a2 a3 a4 a5 a6 a7=>?_
 refine wpAny_pyIter_zip a1 ?_
 refine ⟨_,[s1.heap.objs.size + 4,s1.heap.objs.size + 2,s1.heap.objs.size + 3,s1.heap.objs.size,s1.heap.objs.size + 1],_,Itz l1 l2,H1,rfl,I1.kept (t':=s1.toks) fun b ob e=>a7 b ob e,Vk _ _ _ _ _ l1 l2 (Rt _ _ _ z1 z2),⟨a1,a2,⟨_,_,a3⟩,a4,a5⟩,fun b hb=>?_,q⟩
 have hb':s1.heap.objs.size <= b:=by
  simp only [List.mem_cons,List.not_mem_nil,or_false] at hb
  exact Zv _ _ hb
 exact I1.fpOk hb' (I1.hok.fresh hb')
end
theorem Dz {ta:TA} {te:TE} {gt:TG} {tc:TT} {n:Nat} {σ:L2.St} {H:Hp} {Q:VK} (h:ta σ H fun vs H1=>∃ a b xs ys,vs = [.ref a,.ref b]/\H1 a = some (.lst xs)/\H1 b = some (.lst ys)/\xs.length = ys.length/\xs.length <= 64/\∀ D,H1 D = none->∃ J:Nat->List V->Hp->Prop,J 0 [] (upd H1 D (.lst [])) /\
   (∀ k x y zs Hc t,xs[k]? = some x->ys[k]? = some y->J k zs Hc->zs.length <= k->Hc t = none->Hc a = some (.lst xs)->Hc b = some (.lst ys)->zW n gt tc te (.ref t) σ (upd Hc t (.tup [x,y])) (fun v H2=>H2 D = some (.lst zs)/\H2 a = some (.lst xs)/\H2 b = some (.lst ys)/\J (k + 1) (zs ++ [v]) (upd H2 D (.lst (zs ++ [v])))) fun H2=>H2 a = some (.lst xs)/\H2 b = some (.lst ys)/\J (k + 1) zs H2) /\
   ∀ zs Hc,J xs.length zs Hc->zs.length <= xs.length->Q (.ref D) Hc):jK (ab5 (tMA ta)) n (tMG gt) (tMT tc) (tM te) σ H Q:=by
 refine ⟨_,h,?_⟩
 rintro vs H1 ⟨a,b,xs,ys,rfl,hx,hy,hl,h64,rest⟩
 refine ⟨a,b,xs,ys,rfl,hx,hy,fun D hD=>?_⟩
 obtain ⟨J,j0,step,fin⟩:=rest D hD
 have na:a ≠ D:=bD hx hD
 have nb:b ≠ D:=bD hy hD
 have z64:64 <= sizeLine:=by decide
 refine ⟨fun k m zs Hc=>k <= xs.length/\m = xs.length - k/\zs.length <= k/\Hc a = some (.lst xs)/\Hc b = some (.lst ys)/\J k zs Hc,⟨_,bw _,rfl,bw _,(bI na).trans hx,(bI nb).trans hy,j0⟩,?_⟩
 rintro k m zs Hc ⟨hk,rfl,hz,ha',hb',j⟩
 by_cases e:k = xs.length
 .subst e
  exact .inl ⟨⟨xs,ys,ha',hb',.inl (aG _)⟩,fin zs Hc j hz⟩
 .have hlt:k < xs.length:=by omega
  refine .inr ⟨⟨xs,ys,ha',hb',hlt,by omega⟩,?_⟩
  rintro v H'' ⟨xs',ys',x,y,t,e1,e2,e3,e4,e5,rfl,rfl⟩
  rw [ha'] at e1
  rw [hb'] at e2
  cases e1
  cases e2
  refine (step k x y zs Hc t e3 e4 j hz e5 ha' hb').weak ?_ ?_
  .rintro yv H2 ⟨z1,z2,z3,z4⟩
   refine ⟨by omega,z1,xs.length - (k + 1),by omega,by omega,rfl,?_,(bI na).trans z2,(bI nb).trans z3,z4⟩
   rw [aB]; simp; omega
  .rintro H2 ⟨z2,z3,z4⟩
   exact ⟨xs.length - (k + 1),by omega,by omega,rfl,by omega,z2,z3,z4⟩
theorem Rq {ta:TA} {g:TG} {tb:TS} {D:Ends} {σ:L2.St} {H:Hp} (h:ta σ H fun vs H1=>∃ a b xs ys,vs = [.ref a,.ref b]/\H1 a = some (.lst xs)/\H1 b = some (.lst ys)/\xs.length = ys.length/\∃ J:Nat->L2.St->Hp->Prop,J 0 σ H1 /\
   (∀ k x y σ' H' t,xs[k]? = some x->ys[k]? = some y->J k σ' H'->H' a = some (.lst xs)->H' b = some (.lst ys)->H' t = none->g (.ref t) σ' (upd H' t (.tup [x,y])) fun σ2 H2=>tb { D with nx:=fun σ3 H3=>H3 a = some (.lst xs)/\H3 b = some (.lst ys)/\J (k + 1) σ3 H3,ct:=fun σ3 H3=>H3 a = some (.lst xs)/\H3 b = some (.lst ys)/\J (k + 1) σ3 H3,bk:=D.nx } σ2 H2) /\
   ∀ σ' H',J xs.length σ' H'->H' a = some (.lst xs)->H' b = some (.lst ys)->D.nx σ' H'):NQ (ab5 (tMA ta)) g tb D σ H:=by
 refine ⟨_,h,?_⟩
 rintro vs H1 ⟨a,b,xs,ys,rfl,hx,hy,hl,J,j0,step,fin⟩
 refine ⟨a,b,xs,ys,rfl,hx,hy,fun k m σ' H'=>k <= xs.length/\m = xs.length - k/\H' a = some (.lst xs)/\H' b = some (.lst ys)/\J k σ' H',⟨_,bw _,rfl,hx,hy,j0⟩,?_⟩
 rintro k m σ' H' ⟨hk,rfl,ha',hb',j⟩
 by_cases e:k = xs.length
 .subst e
  exact .inl ⟨⟨xs,ys,ha',hb',.inl (aG _)⟩,fin σ' H' j ha' hb'⟩
 .have hlt:k < xs.length:=by omega
  refine .inr ⟨⟨xs,ys,ha',hb',hlt,by omega⟩,fun σ3 H3=>H3 a = some (.lst xs)/\H3 b = some (.lst ys)/\J (k + 1) σ3 H3,fun σ3 H3 ⟨z1,z2,z3⟩=>⟨xs.length - (k + 1),by omega,by omega,rfl,z1,z2,z3⟩,?_⟩
  rintro v H'' ⟨xs',ys',x,y,t,e1,e2,e3,e4,e5,rfl,rfl⟩
  rw [ha'] at e1
  rw [hb'] at e2
  cases e1
  cases e2
  exact step k x y σ' H' t e3 e4 j ha' hb' e5
end L2
namespace L2
open PySem PySem.Spec PyProof.Rows
section
variable {X:Cx} {elt iter:Expr} {pos:Pos} {scope:Scope} {wi:TI} {te:TE}
end
end L2
namespace L2
open PySem PySem.Spec PyProof.Rows
end L2
namespace L2
open PySem PySem.Spec PyProof.Rows
section
variable {X:Cx}
noncomputable def aeD:List V->Hp->VK->Prop:=fun xs H Q=>∃ (l:Addr) (bs:List Bool),xs = [.ref l]/\H l = some (.lst (bs.map V.bl))/\Q (.bl (bs.any id)) H
theorem q_:∀ bs:List Bool,((List.range bs.length).any fun i=>(bs[i]?).getD true) = bs.any id
 | []=>rfl
 | b :: bs=>by
  rw [List.length_cons,List.range_succ_eq_map,List.any_cons,List.any_map,List.any_cons]
  have:=q_ bs
  simp only [Function.comp_def,List.getElem?_cons_succ,List.getElem?_cons_zero,Option.getD_some,id] at this ⊢
  rw [this]
theorem Rk (hc:X.calm = true):eZ X (.builtin "any") aeD:=by
 intro pins s σ H xs us Q I r h
 obtain ⟨l,bs,rfl,hl,q⟩:=h
 obtain ⟨u,rfl,ru⟩:=r.one
 cases ru
 obtain ⟨its,rv,p⟩:=I.lstIs hl
 have hlt:l < s.heap.objs.size:=by obtain ⟨_,e,_⟩:=p; exact aK e
 refine call_any_walk (wpAny_pyIter_list p ?_)
 refine ⟨s.heap.objs.size,[s.heap.objs.size,l],[s.heap.objs.size],its.toArray.size,_,_,fun i=>(bs[i]?).getD true,rfl,Walks.list (A:=X.A.in1) (I.ok.hd hc) _ l (aR hlt) its.toArray,
  ⟨⟨_,aY _ rfl,rfl,rfl⟩,p.push _⟩,fun i v s' Q' E' hP hQ=>?_,fun h' tk hk=>?_⟩
 .obtain ⟨b,e,rfl⟩:=yO rv i v (by simpa using hP)
  simp only [e,Option.getD_some] at hQ
  exact wpAny_truthy_bool hQ
 .have e:((List.range its.toArray.size).any fun i=>(bs[i]?).getD true) = bs.any id:=by
   rw [aZ,<- rv.length,ak]; exact q_ bs
  refine ⟨.bl (bs.any id),H,I.kept (t':=tk) fun b o q=>hk b o (fun hm=>?_) (aH _ q),?_,q⟩
  .rw [List.mem_singleton.mp hm] at q
   exact Nat.lt_irrefl _ (aK q)
  .rw [e]; rfl
end
end L2
namespace L2
open PySem PySem.Spec PyProof.Rows
noncomputable def Ite (l:Addr):It:=⟨fun i H=>∃ xs,H l = some (.lst xs)/\i < xs.length,fun i H v H'=>∃ xs x t,H l = some (.lst xs)/\xs[i]? = some x/\H t = none/\v = .ref t/\H' = upd H t (.tup [.int i,x]),fun i H=>∃ xs,H l = some (.lst xs)/\xs.length <= i⟩
theorem Rw {P:Program} {w:World} {K:Frag} {elts:List Expr} {x1} {pos:Pos} (e it l:Addr) (hne:e ≠ it) :
  Turn P w K (.Tuple elts x1 pos) (Ite l) [e,it] e (fun i h=>(∃ old,IsEnum h e it ((i:Nat):Int) old)/\h.IsListIter it l i) where
 mem:=by simp
 obj:=by
  rintro i h ⟨⟨old,s1⟩,⟨o4,s4,_,d4⟩⟩ b hb
  simp only [List.mem_cons,List.not_mem_nil,or_false] at hb
  rcases hb with rfl | rfl
  .exact ⟨_,s1,fun v e=>by cases e⟩
  .exact ⟨_,s4,fun v e=>by rw [d4] at e; cases e⟩
 keep:=fun i h h' ⟨⟨old,s1⟩,s4⟩ k=>⟨⟨old,k e (by simp) _ s1⟩,n_ s4 (k it (by simp))⟩
 item:=by
  intro X hP hw hK hc i pins s σ H E I hf st hg
  subst hP hw hK
  obtain ⟨⟨old,s1⟩,s4⟩:=st
  obtain ⟨xs,ha,lt1⟩:=hg
  obtain ⟨_,it1,n1,rv1,le1,g1⟩:=I.lstM ha
  have ex:xs[i]? = some xs[i]:=aj lt1
  obtain ⟨u,hu,ru⟩:=G_ rv1 ex
  refine wpAny_pyNext_enum_item s1 s4 (items:=it1.toArray) ⟨_,g1,rfl,n1,rfl⟩ (x:=u) (by simpa using hu) hne fun h' a1 a3 a5 a6 a7=>⟨_,rfl,?_⟩
  refine wpAny_letOwnedTupleGo_enum a1 fun h2 st2 sb=>?_
  have nt:H s.heap.objs.size = none:=I.fresh
  have I1:=I.laid (a:=s.heap.objs.size) (o:=.tup [.int i,xs[i]]) (h':=s.heap.push { cls:=.type "tuple",data:=.seq #[.int i s.toks,u] }) (t':=s.toks + 1) (fun b q z=>aH _ z) (aG _)
   ⟨(by show 2 <= sizeLine; decide),[.int i s.toks,u],.cons ⟨_,rfl⟩ (.cons ru .nil),_,aY _ rfl,rfl,_,rfl⟩
  have nz:e ≠ s.heap.objs.size:=aR (aK s1)
  have n1':it ≠ s.heap.objs.size:=by obtain ⟨o,e,_⟩:=s4; exact aR (aK e)
  have fpn:∀ b ∈ [e,it],upd H s.heap.objs.size (.tup [.int i,xs[i]]) b = none:=by
   intro b hb
   have f0:=(hf b hb).1
   simp only [List.mem_cons,List.not_mem_nil,or_false] at hb
   rcases hb with rfl | rfl
   .exact (bI nz).trans f0
   .exact (bI n1').trans f0
  have I2:=I1.turnedL (ch:=[e,it]) (h':=h2) (t':=s.toks + 1) (fun b ob hb z=>by
   simp only [List.mem_cons,List.not_mem_nil,or_false,not_or] at hb
   obtain ⟨b1,b3⟩:=hb
   refine (sb.2 b b1).trans ?_
   by_cases hs:b = s.heap.objs.size
   .subst hs
    have e2:=aY s.heap (o:={ cls:=.type "tuple",data:=.seq #[.int i s.toks,u] }) rfl
    have z:(s.heap.push { cls:=.type "tuple",data:=.seq #[.int i s.toks,u] }).get? s.heap.objs.size = some ob:=z
    rw [e2] at z
    cases z
    exact a5
   .exact a7 b _ b1 b3 (Fw z hs)) fun b hb=>⟨fpn b hb,(hf b hb).2⟩
  have mv:∀ c o,c ≠ e->h'.get? c = some o->h2.get? c = some o:=fun c o n z=>(sb.2 c n).trans z
  exact ⟨.ref _,_,I2,rfl,⟨xs,_,_,ha,ex,nt,rfl,rfl⟩,⟨⟨_,by rw [Int.natCast_add]; exact st2⟩,n_ a3 fun o z=>mv _ _ (fun y=>hne y.symm) z⟩,fpn⟩
 done:=by
  intro X hP hw hK hc i pins s σ H E I hf st hg
  subst hP hw hK
  obtain ⟨⟨old,s1⟩,s4⟩:=st
  obtain ⟨xs,ha,lt⟩:=hg
  obtain ⟨_,it1,n1,rv1,le1,g1⟩:=I.lstM ha
  have hl:=rv1.length
  refine wpAny_pyNext_enum_end (I.ok.hd hc) s1 s4 (items:=it1.toArray) ⟨_,g1,rfl,n1,rfl⟩ (by simp; omega) fun h' k=>⟨rfl,I.turnedL (ch:=[e,it]) (t':=s.toks) (fun b ob hb z=>?_) hf⟩
  simp only [List.mem_cons,List.not_mem_nil,or_false,not_or] at hb
  exact k b ob hb.2 z
 self:=fun _ _ _ _ _ ⟨⟨_,s1⟩,_⟩ h=>wpAny_pyIter_enum s1 h
section
variable {X:Cx}
noncomputable def aay (ta:TA):TI:=fun σ H R=>ta σ H fun vs H1=>∃ a xs,vs = [.ref a]/\H1 a = some (.lst xs)/\R (Ite a) H1
theorem PX {a:Expr} {ta:TA} {elts:List Expr} {x1} {p pos tpos:Pos} (hg:Gl X "enumerate") (hm:X.mg "enumerate" = none) (ha:PA X [a] ta) (hs:starEach [a] X.env = [(false,eval a X.env)]:=by rfl) :
  PI X (.Tuple elts x1 tpos) (.Call (.Name "enumerate" p) [a] [] pos) (aay ta):=by
 intro pins s σ H R I h
 refine Call_ (zj I hg hm boot_enumerate (PyProof.Rows.callWith_type1 (thn (ha pos pins s σ H _ I h) fun us s1 ⟨vs,H1,I1,r1,q1⟩=>?_) (by rw [hs]; rfl) (by rfl)))
 obtain ⟨l1,xs,e,h1,q⟩:=q1
 subst e
 obtain ⟨u,rfl,ru⟩:=r1.one
 cases ru
 obtain ⟨_,it1,n1,rv1,le1,g1⟩:=I1.lstM h1
 refine call_enumerate_list (items:=it1.toArray) ⟨_,g1,rfl,n1,rfl⟩ fun h' a1 a2 a3 a7=>?_
 refine wpAny_pyIter_enum a1 ?_
 refine ⟨_,[s1.heap.objs.size + 1,s1.heap.objs.size],_,Ite l1,H1,rfl,I1.kept (t':=s1.toks) fun b ob e=>a7 b ob e,Rw _ _ l1 (Nat.succ_ne_self _),⟨⟨_,a1⟩,a2⟩,fun b hb=>?_,q⟩
 have hb':s1.heap.objs.size <= b:=by
  simp only [List.mem_cons,List.not_mem_nil,or_false] at hb
  rcases hb with z | z
  .rw [z]; exact Nat.le_succ _
  .rw [z]; exact aG _
 exact I1.fpOk hb' (I1.hok.fresh hb')
end
theorem Bt {ta:TA} {g:TG} {tb:TS} {D:Ends} {σ:L2.St} {H:Hp} (h:ta σ H fun vs H1=>∃ a xs,vs = [.ref a]/\H1 a = some (.lst xs)/\∃ J:Nat->L2.St->Hp->Prop,J 0 σ H1 /\
   (∀ (k:Nat) x σ' H' t,xs[k]? = some x->J k σ' H'->H' a = some (.lst xs)->H' t = none->g (.ref t) σ' (upd H' t (.tup [.int k,x])) fun σ2 H2=>tb { D with nx:=fun σ3 H3=>H3 a = some (.lst xs)/\J (k + 1) σ3 H3,ct:=fun σ3 H3=>H3 a = some (.lst xs)/\J (k + 1) σ3 H3,bk:=D.nx } σ2 H2) /\
   ∀ σ' H',J xs.length σ' H'->H' a = some (.lst xs)->D.nx σ' H'):NQ (aay (tMA ta)) g tb D σ H:=by
 refine ⟨_,h,?_⟩
 rintro vs H1 ⟨a,xs,rfl,hx,J,j0,step,fin⟩
 refine ⟨a,xs,rfl,hx,fun k m σ' H'=>k <= xs.length/\m = xs.length - k/\H' a = some (.lst xs)/\J k σ' H',⟨_,bw _,rfl,hx,j0⟩,?_⟩
 rintro k m σ' H' ⟨hk,rfl,ha',j⟩
 by_cases e:k = xs.length
 .subst e
  exact .inl ⟨⟨xs,ha',aG _⟩,fin σ' H' j ha'⟩
 .have hlt:k < xs.length:=by omega
  refine .inr ⟨⟨xs,ha',hlt⟩,fun σ3 H3=>H3 a = some (.lst xs)/\J (k + 1) σ3 H3,fun σ3 H3 ⟨z1,z3⟩=>⟨xs.length - (k + 1),by omega,by omega,rfl,z1,z3⟩,?_⟩
  rintro v H'' ⟨xs',x,t,e1,e3,e5,rfl,rfl⟩
  rw [ha'] at e1
  cases e1
  exact step k x σ' H' t e3 j ha' e5
end L2
namespace L2
open PySem PySem.Spec PyProof.Rows
end L2
namespace L2
open PySem PySem.Spec PyProof.Rows
section
variable {X:Cx}
noncomputable def aeQ:List V->Hp->VK->Prop:=fun xs H Q=>∃ p kvs,xs = [.ref p]/\H p = some (.dK kvs)/\Q (.int kvs.length) H
theorem Gi:eZ X (.builtin "len") aeQ:=by
 intro pins s σ H xs us Q I r h
 obtain ⟨p,kvs,rfl,hq,q⟩:=h
 obtain ⟨u,rfl,rx⟩:=vals1 r
 cases rx
 obtain ⟨z,y,vs,kv,d⟩:=(show dz X.prog X.w H s.heap p (.dK kvs) from I.hok p _ hq)
 have hl:=uf
 have hlen:kvs.length = vs.length:=kv.length
 exact call_len_dict y d (by omega) ⟨.int kvs.length,H,I.tok _,⟨_,by rw [hlen]⟩,q⟩
theorem Yk {e:Expr} {ta:TE} {f:Str} {pos:Pos} {K':Frag} (hK:X.K = K') (he:PE X e ta) (hb:attributeBase e f X.env (eval e X.env) = eval e X.env):PE X (.Attribute e f pos) (Vr K' ta f):=hK ▸ qu he hb
theorem Qp (c:Nat):∀ (n:Nat) (acc:Array Nat),((List.replicate n #[c]).foldl (· ++ ·) acc).toList = acc.toList ++ List.replicate n c
 | 0,acc=>by simp
 | n + 1,acc=>by
  rw [List.replicate_succ,List.foldl_cons,Qp c n,Array.toList_append,List.append_assoc]
  rfl
noncomputable def aaH:R2:=fun x y H Q=>∃ c n,x = .str ⟨#[c]⟩/\y = .int n/\1 <= n/\n <= 1000/\∀ z:Str,z.cps.toList = List.replicate n.toNat c->Q (.str z) H
theorem Zk:OpR X (binaryOp .Mult) aaH:=by
 intro pins s σ H x y v u Q I rx ry h
 obtain ⟨c,n,rfl,rfl,h0,h1,q⟩:=h
 obtain ⟨t,rfl⟩:=rx
 obtain ⟨t',rfl⟩:=ry
 have hi:(⟨#[c]⟩ : Str).length = 1:=rfl
 have made:∀ z:Str,z.cps.toList = List.replicate n.toNat c->(Made.str z).post (EP X pins σ Q) s:=fun z hz=>⟨by
  have:z.length = n.toNat:=by
   show z.cps.size = _
   rw [<- Array.length_toList,hz,aN]
  exact aM (show z.length <= 1001 by omega) (by decide),.str z,H,I.tok _,⟨_,rfl⟩,q z hz⟩
 refine PySem.P.mul_str ?_ (fun _ _=>?_) (fun _ _=>?_) ?_
 .rw [decide_eq_false (by omega),decide_eq_false (by omega)]; rfl
 .rw [hi]
  have:1 <= (2 ^ 63 - 1:Int) / n:=Int.le_ediv_of_mul_le (by omega) (by omega)
  omega
 .rw [hi]
  unfold Builtin.Str.tooLong
  exact decide_eq_false (by
   have:n.toNat <= 1000:=by omega
   have e:1000 <= sizeLine:=by decide
   omega)
 .split
  .omega
  .split
   .rename_i hc
    rw [hi] at hc
    have e:n.toNat = 1:=by
     simp at hc
     omega
    refine ⟨.str ⟨#[c]⟩,H,I,⟨t,rfl⟩,q _ ?_⟩
    rw [e]; rfl
   .refine made _ ?_
    show ((List.replicate n.toNat #[c]).foldl (· ++ ·) #[]).toList = _
    rw [Qp]; rfl
theorem OkI.wild {P:Program} {w:World} {K:Frag} {mg:Str->Option Value} {base:Heap} {k:Nat} {f:Addr} {ps:List Str} {sp:Sp} (h:OkI P w K mg base CX0 k f ps sp):OkI P w K mg base (CXO P w) k f ps sp:=let ⟨fd,a,b⟩:=h; ⟨fd,a.wild,b⟩
end
end L2
namespace L2
open PySem PySem.Spec PyProof.Rows
section
variable {X:Cx} {p pos:Pos} {e:Expr} {es:List Expr} {t:TA} {tv:TE} {x:Str} {k:Nat} {ps:List Str} {sp:Sp} {f:Addr}
end
end L2
namespace L2
open PySem PySem.Spec PyProof.Rows
section
variable {prog:Program} {w:World} {A:Around} {E:Value->Shared->Prop} {h:Heap} {g:Array GenState} {d:Drawn} {t:Nat} {os:OsState} {nm q:Str} {C N:Addr} {bs bm bmB:List Value} {hdct:Bool} {sn:List Str} {sub:List Value} {ab:Bool} {col:Option Bool} {dd:Option Addr} {k0 k1 k2 k3 k5:Option Value} {B newId initId:String}
noncomputable abbrev Fv (h:Heap) (C:Addr) (us:List Value):Heap:=(h.push { cls:=.type "tuple",data:=.seq us.toArray }).push { cls:=.ref C,data:=.fields #[.ref h.objs.size,.none,.none,.none,.bool false,.none] }
theorem zP {us:List Value} (b:Addr) (o:Obj) (e:h.get? b = some o):(Fv h C us).get? b = some o:=aH _ (aH _ e)
theorem Ef (F:ExcBaseFacts B newId initId bmB) (T:OwnTail h bmB bm) {mN:Str->Option Value} {us:List Value} {fI:Addr} {oI:Obj} {Q:Fin->Shared->Prop} (hC:h.get? C = some (excClassObj nm q C N bs bm hdct sn sub ab col dd k0 k1 k2 k3 k5 newId)) (hn:h.Ns N mN) (hi:mN "__init__" = some (.ref fI)) (hf:h.get? fI = some oI) (hc:oI.cls = .type "function") (hl:us.length <= sizeLine)
  (hq:wpAny (model prog w) A (call (.ref fI) (.ref (h.objs.size + 1) :: us)) (fun r s'=>r = .none/\Q (.done (.ret (.ref (h.objs.size + 1)))) s') E ⟨Fv h C us,g,d,t,os⟩):wpAny (model prog w) A (Builtin.«type.__call__» ⟨.ref C :: us,[]⟩) Q E ⟨h,g,d,t,os⟩:=by
 have K:=zP (h:=h) (C:=C) (us:=us)
 have C1:=K _ _ hC
 have T1:=T.keeps K
 have at_:(Fv h C us).get? (h.objs.size + 1) = some { cls:=.ref C,data:=.fields #[.ref h.objs.size,.none,.none,.none,.bool false,.none] }:=by heap_get
 have isC:(Value.ref C :: bm).contains (.ref C) = true:=by simp
 repeat (first | with_reducible refine wpAny_loadPart_at hC ?_ | with_reducible refine wpAny_madeBy_exc hC ?_ | wp_step)
 refine codeAny_call_builtin_code (Code.quiet_builtin _ F.quiet) (wpAny_check_new_subT F T hC (codeAny_exc_new_subT F T hC ?_ hl))
 show wpAny _ _ _ _ _ _
 unfold isInstance
 repeat (first | with_reducible refine wpAny_loadPart_at at_ ?_ | (with_reducible refine wpAny_isSubtype_exc C1 ?_; rw [isC]) | wp_step)
 show wpAny _ _ (typeLookup (.ref C) _) _ _ _
 refine wpAny_typeLookup_tail C1 (hn.keeps K) T1 F.mroIs F.init.lookup ?_
 rw [hi]
 refine wpAny_holding (wpAny_bind ?_)
 unfold bindSpecial
 refine wpAny_bind (wpAny_typeOf (T := "function") ⟨_,K _ _ hf,hc⟩ ?_)
 rw [if_pos (by decide)]
 refine wpAny_pure (wpAny_bind (wpAny_mono hq (fun r s' ⟨e,z⟩=>?_) fun _ _ x=>x))
 subst e
 wp_walk
 exact z
theorem VJ (F:ExcBaseFacts B newId initId bmB) (T:OwnTail h bmB bm) {mN:Str->Option Value} {us:List Value} {fI:Addr} {oI:Obj} {Q:Value->Shared->Prop} (hC:h.get? C = some (excClassObj nm q C N bs bm hdct sn sub ab col dd k0 k1 k2 k3 k5 newId)) (hn:h.Ns N mN) (hi:mN "__init__" = some (.ref fI)) (hf:h.get? fI = some oI) (hc:oI.cls = .type "function") (hl:us.length <= sizeLine)
  (hq:wpAny (model prog w) (A.under (.builtin "type.__call__" ⟨.ref C :: us,[]⟩)) (call (.ref fI) (.ref (h.objs.size + 1) :: us)) (fun r s'=>r = .none/\Q (.ref (h.objs.size + 1)) s') E ⟨Fv h C us,g,d,t,os⟩):wpAny (model prog w) A (call (.ref C) us) Q E ⟨h,g,d,t,os⟩:=by
 have a1:=tc_lookup
 have a2:=tc_bind (.ref C)
 have a3:(⟨h,g,d,t,os⟩ : Shared).TypeIs (.ref C) "type" := ⟨_,hC,rfl⟩
 refine wpAny_call (codeAny_of_tree ?_)
 show wpAny _ _ (callAny (.ref C) _) _ _ _
 repeat (any_goals (first | assumption | with_reducible refine wpAny_loadPart_at hC ?_ | wp_step))
 exact ⟨rfl,codeAny_call_builtin_at (Code.quiet_builtin _ (by decide +kernel)) entry_typeCall (wpAny_check_type_call_sub hC (Ef F T hC hn hi hf hc hl hq))⟩
end
end L2
namespace L2
open PySem PySem.Spec PyProof.Rows
noncomputable def Hv:List Value->Bool
 | .ref _ :: l=>Hv l
 | l=>l == bmV
theorem Oo {self:Value} {l:List Value} (h:Hv l = true):refuseLoop self "__setattr__" l = pure ():=by
 induction l with
 | nil=>cases h
 | cons x l ih =>
  cases x with
  | ref C=>rw [refuseLoop_ref]; exact ih h
  | type n =>
   have e:Value.type n :: l = bmV:=beq_iff_eq.mp h
   rw [e]
   exact PySem.F.store_ValueError.passes self
  | _=>exact absurd (beq_iff_eq.mp h) (by intro z; cases z)
structure Wf (K:Frag) (C:Addr):Prop where
 cd:∃ cd,PySem.W.clsIn K C = some cd/\cd.hasDict = true/\Hv cd.mro = true
 sa:PySem.W.findIn K (.ref C) "__setattr__" = some (some (.builtin "object.__setattr__"))
 mo:PySem.W.mroIn K C (.type "object") = some true
section
variable {prog:Program} {w:World} {A:Around} {E:Value->Shared->Prop} {K:Frag} {s:Shared} {x C:Addr} {ox:Obj} {f:Str} {v:Value} {vs:Array Value}
theorem Y4 {Q:Unit->Shared->Prop} (X:K.In s.heap) (S:Wf K C) (n:cF K C f) (hx:s.heap.get? x = some ox) (hc:ox.cls = .ref C) (hd:ox.dict = none) (hv:ox.data = .fields vs)
  (hq:∀ h' t',h'.Ns1 s.heap.objs.size (fun y=>if y = f then some v else none)->h'.get? x = some { ox with dict:=some s.heap.objs.size }->(∀ b,b ≠ x->b ≠ s.heap.objs.size->h'.get? b = s.heap.get? b)->Q () ⟨h',s.gens,s.drawn,t',s.os⟩):wpAny (model prog w) A (setAttr (.ref x) f v) Q E s:=by
 obtain ⟨cd,hcd,hdi,hm⟩:=S.cd
 have J:PySem.W.InstAt s.heap x ox C none:=⟨hx,hc,by unfold PySem.W.notCls; rw [hv],by rw [hd]; trivial⟩
 have SF:=PySem.F.store_object
 refine PySem.W.set_plain X J S.sa ?_
 have sub:PySem.W.Looks (model prog w) s.heap (isInstance (.ref x) (.type "object")) true:=J.type.andThen (PySem.W.looks_mroIn X S.mo)
 have lm:PySem.W.Looks (model prog w) s.heap (mroOf (.ref C)) cd.mro:=(PySem.W.looks_clsIn X hcd).andThen .now
 generalize hs1:({ s with toks:=s.toks + 1 } : Shared) = s1
 have e1:s1.heap = s.heap:=by rw [<- hs1]
 rw [<- e1] at sub lm X J
 refine codeAny_call_builtin SF.slot.plain SF.entry (@PySem.W.check_slot (model prog w) _ _ s1 "object.__setattr__" "object" "__setattr__" (.ref x) [.str f s.toks,v] [] _ SF.kind SF.split sub (SF.args (.ref x) (.str f s.toks) v) ?_)
 rw [PySem.W.osa_eq,refuse_eq]
 refine wpAny_bind (wpAny_bind (J.type.here (wpAny_bind (lm.here ?_))))
 rw [Oo hm]
 refine wpAny_pure (wpAny_bind (J.type.here (wpAny_bind ((PySem.W.looks_findIn X n).here (wpAny_bind (wpAny_pure ?_))))))
 have hx1:s1.heap.get? x = some ox:=by rw [e1]; exact hx
 obtain ⟨oc,odi,oda,osl⟩:=ox
 dsimp only at hc hd hv
 subst hc hd hv
 refine wpAny_bind (wpAny_pure (wpAny_bind (wpAny_bind (wpAny_loadPart hx1 (wpAny_bind ((PySem.W.looks_clsIn X hcd).here ?_))))))
 rw [hdi,if_neg (by simp),if_neg (by simp [typeHasDict])]
 have e0:=hs1
 obtain ⟨hp,gg,dr,tk,os⟩:=s1
 dsimp only at hx1 e1 ⊢
 cases e0
 have hxs:x ≠ s.heap.objs.size:=aR (aK hx)
 refine wpAny_bind (wpAny_alloc' (wpAny_bind (wpAny_update' (aH _ hx) (wpAny_pure ?_))))
 generalize hu:(s.heap.push { cls:=.type "dict",data:=.dict #[] }).update x _ = hU
 have q1:hU.get? s.heap.objs.size = some { cls:=.type "dict",data:=.dict #[] }:=by
  rw [<- hu]; exact (Heap.get?_update_ne _ _ _ _ hxs.symm).trans (Heap.get?_push_at rfl rfl)
 have q2:hU.get? x = some { cls:=.ref C,dict:=some s.heap.objs.size,data:=.fields vs,slots:=osl }:=by
  rw [<- hu]; exact Heap.get?_update_self _ (aH _ hx) rfl
 have q3:∀ b,b ≠ x->b ≠ s.heap.objs.size->hU.get? b = s.heap.get? b:=fun b n1 n2=>by
  rw [<- hu]; exact (Heap.get?_update_ne _ _ _ _ n1).trans (Heap.get?_push_ne _ _ _ n2)
 dsimp only
 unfold Builtin.ObjectAttr.storeInDict Builtin.ObjectAttr.newKeyGuard
 refine wpAny_bind (wpAny_pure (wpAny_bind (wpAny_nsSet1 (Heap.Ns1.of_empty ⟨_,#[],_,q1,rfl,fun _ z=>absurd z (by simp),fun _=>rfl⟩) fun h' hn hs=>?_)))
 obtain ⟨oD,esD,epD,hoD,hdD,hcD⟩:=hn.count (Within.cons f v Within.nil)
 refine wpAny_bind (wpAny_lookBehind hoD (by rw [hdD]; exact pastItsLine_dict (aM hcD (by rw [List.length_cons,List.length_nil,sizeLine_eq]; omega))) ?_)
 wp_walk
 exact hq h' _ hn ((hs.2 x hxs).trans q2) fun b n1 n2=>(hs.2 b n2).trans (q3 b n1 n2)
end
end L2
namespace L2
open PySem PySem.Spec PyProof.Rows
structure K_ (K:Frag) (C HE fI:Addr):Prop where
 ex:∃ nm qn N bs sn sub ab col dd k0 k1 k2 k3 k5,K.lookup C = some (excClassObj nm qn C N bs (.ref HE :: bmV) true sn sub ab col dd k0 k1 k2 k3 k5 "ValueError.__new__")/\PySem.W.nsOkIn K N = true/\PySem.W.nsIn K N "__init__" = some (some (.ref fI))
 he:GR K HE
 fn:∃ o,K.lookup fI = some o/\o.cls = .type "function"
 kp:PySem.W.keepIn K (.ref C) = true
theorem aad {K:Frag} {h:Heap} {N:Addr} {m:Str->Option Value} {n:Str} {v:Value} (X:K.In h) (G:h.Ns N m) (e:PySem.W.nsIn K N n = some (some v)):m n = some v:=by
 obtain ⟨o,es,ep,ho,hd,_,hf⟩:=G
 rw [<- hf]
 unfold PySem.W.nsIn at e
 split at e
 .rename_i q
  cases (X _ _ q).symm.trans ho
  cases hd
  unfold nsFind findBy
  rw [<- Array.find?_toList]
  split at e
  .rename_i en he
   cases e
   rw [he]; rfl
  .split at e <;> cases e
 .cases e
theorem K_.obj {K:Frag} {h:Heap} {C HE fI:Addr} (q:K_ K C HE fI) (X:K.In h):∃ nm qn N bs sn sub ab col dd k0 k1 k2 k3 k5 mN o,h.get? C = some (excClassObj nm qn C N bs (.ref HE :: bmV) true sn sub ab col dd k0 k1 k2 k3 k5 "ValueError.__new__") /\
  h.Ns N mN/\mN "__init__" = some (.ref fI)/\h.get? fI = some o/\o.cls = .type "function" /\ OwnTail h bmV (.ref HE :: bmV):=by
 obtain ⟨nm,qn,N,bs,sn,sub,ab,col,dd,k0,k1,k2,k3,k5,l,a,b⟩:=q.ex
 obtain ⟨o,lo,ho⟩:=q.fn
 obtain ⟨bm,N',nm',qn',bs',hd',sn',sub',ab',col',dd',k0',k1',k2',k3',k5',mN',hC,hN,hi,T⟩:=Qg X q.he
 exact ⟨nm,qn,N,bs,sn,sub,ab,col,dd,k0,k1,k2,k3,k5,_,o,X _ _ l,.of_isNs (PySem.W.isNs_of_in X a),aad X (.of_isNs (PySem.W.isNs_of_in X a)) b,X _ _ lo,ho,.own hC hN hi .base⟩
noncomputable abbrev Ml (C t:Addr) (d:Option Addr):Obj:={ cls:=.ref C,dict:=d,data:=.fields #[.ref t,.none,.none,.none,.bool false,.none] }
noncomputable def XN (a C:Addr) (d:Option Addr):HO:=.ext fun h=>∃ t,h.get? a = some (Ml C t d)
theorem Us {P:Program} {w:World} {H:Hp} {h:Heap} {a C t:Addr} {d:Option Addr} (e:h.get? a = some (Ml C t d)):dz P w H h a (XN a C d):=⟨⟨t,e⟩,⟨_,e⟩,fun _ _ ⟨u,z⟩ k=>⟨u,k _ z⟩⟩
theorem Qe {P:Program} {w:World} {H:Hp} {h:Heap} {a C:Addr} {d:Option Addr} (e:dz P w H h a (XN a C d)):∃ t,h.get? a = some (Ml C t d):=e.1
theorem abv {H:Hp} {a:Addr} {o:HO} (e:H a = some o):upd H a o = H:=by
 funext b; unfold upd; split
 .rename_i z; rw [z,e]
 .rfl
structure VR (K:Frag) (B:Addr):Prop where
 ga:PySem.W.specialIn K (.ref B) "__getattribute__" = some (some (.builtin "type.__getattribute__"))
 rd:PySem.W.readsIn K B (.type "type") = true
 at_:PySem.W.findCls K (.ref B) (.type "type") "__init__" = some (.val (.builtin "ValueError.__init__"))
section
variable {X:Cx} {B C HE fI:Addr} {x:Str} {p pos apos:Pos} {e:Expr} {es:List Expr} {t:TA} {pins:List (Addr × Obj)} {σ:L2.St} {H:Hp} {s:Shared}
theorem init_exc {A:Around} {E:Value->Shared->Prop} {Q:Value->Shared->Prop} {a:Addr} {us:List Value} (I:Inv X pins σ H s) (q:K_ X.K C HE fI) (ha:H a = some (XN a C none)) (hl:us.length <= sizeLine)
  (h:∀ s',Inv X pins σ H s'->Q .none s'):wpAny (model X.prog X.w) A (call (.builtin "ValueError.__init__") (.ref a :: us)) Q E s:=by
 obtain ⟨nm,qn,N,bs,sn,sub,ab,col,dd,k0,k1,k2,k3,k5,mN,o,hC,hN,hi,hf,hfc,T⟩:=q.obj I.kIn
 obtain ⟨u,hx⟩:=Qe (I.hok a _ ha)
 have F:=PySem.F.excBase_ValueError
 obtain ⟨hp,gs,dr,tk,os⟩:=s
 refine wpAny_call (codeAny_call_builtin F.init.plain F.initEntry (wpAny_check_init_subT F T hC hx rfl ?_))
 wp_walk
 refine h _ ?_
 have e1:(hp.push { cls:=.type "tuple",data:=.seq us.toArray }).get? a = some (Ml C u none):=aH _ hx
 have J:=I.write (x:=a) (e:=a) (o:=XN a C none) (t':=tk) (h':=(hp.push { cls:=.type "tuple",data:=.seq us.toArray }).update a (Obj.mapFields fun x=>x.setIfInBounds 0 (Value.ref hp.objs.size))) (by rw [ha]; trivial) (.inl rfl)
  (fun b v n z=>(Heap.get?_update_other _ _ (Ne.symm n)).trans (aH _ z)) ⟨_,Heap.get?_update_self _ e1 rfl⟩ (Us (t:=hp.objs.size) (Heap.get?_update_self _ e1 rfl))
 rwa [abv ha] at J
noncomputable def abm (C:Addr) (t:TA):TE:=fun σ H Q=>t σ H fun vs H1=>∃ a ws,vs = .ref a :: ws/\H1 a = some (XN a C none)/\ws.length <= sizeLine/\Q .non H1
theorem V2 {pl:Sem Bool} (c:VR X.K B) (q:K_ X.K C HE fI) (hg:Gl X x) (hm:X.mg x = some (.ref B)) (ha:PA X (e :: es) t) (hdb:(x == ("__debug__" : Str)) = false:=by decide)
  (hst:starEach (e :: es) X.env = (false,eval e X.env) :: starEach es X.env:=by rfl) (hpl:(backTo pos (starEach es X.env)).any (·.1) = false:=by rfl)
  (ht:eval (.Call (.Attribute (.Name x p) "__init__" apos) (e :: es) [] pos) X.env = (do
   let ov <- eval (.Name x p) X.env
   standAt apos.atName
   let (f,first) <- holding [ov] (getMethod ov "__init__" pl)
   callWith pos f first (backTo pos (starEach (e :: es) X.env)) (backToKw pos (keywordEach [] X.env))):=by rfl) :
  PE X (.Call (.Attribute (.Name x p) "__init__" apos) (e :: es) [] pos) (abm C t):=by
 intro pins s σ H Q I h
 refine PySem.W.methodCall_KW (pl:=pl) (nA I hg hm (PySem.W.method_cls I.kIn c.ga (PySem.W.cls_value I.kIn c.rd c.at_ (by decide) ?_)) hdb) ht
 show wpAny _ _ (callWith pos (.builtin "ValueError.__init__") [] (backTo pos (starEach (e :: es) X.env)) []) _ _ _
 have h2:=ha pos pins _ σ H _ (I.tok (s.toks + 1)) h
 rw [hst] at h2 ⊢
 refine PySem.W.callWith_of (P:=fun _=>True) (by show ((false || (backTo pos (starEach es X.env)).any (·.1)) || false) = false; rw [hpl]; rfl) (fun _ _=>⟨.machine,.inr (.inl rfl),.now⟩) (Calls.evalArgs_plain (thn h2 fun us s2 ⟨vs,H2,I2,r,a,ws,e1,e2,e3,e4⟩=>⟨trivial,?_⟩))
 subst e1
 cases r with
 | cons r1 r2 =>
  cases r1
  exact init_exc I2 q e2 (by rw [<- r2.length]; exact e3) fun s' J=>⟨.non,H2,J,rfl,e4⟩
end
end L2
namespace L2
open PySem PySem.Spec PyProof.Rows
section
variable {X:Cx} {pins:List (Addr × Obj)} {σ:L2.St} {H:Hp} {s:Shared} {a C HE fI:Addr} {f:Str} {v:V} {A:Around} {E:Value->Shared->Prop}
theorem Sy {u:Value} {Q:Unit->Shared->Prop} (I:Inv X pins σ H s) (e:H a = some (XN a C none)) (c:Wf X.K C) (n:cF X.K C f) (r:RelV v u)
  (h:∀ d s',H d = none->d ≠ a->Inv X pins σ (upd (upd H a (XN a C (some d))) d (.xd [(f,v)])) s'->Q () s'):wpAny (model X.prog X.w) A (setAttr (.ref a) f u) Q E s:=by
 obtain ⟨t,ha⟩:=Qe (I.hok a _ e)
 have nd:H s.heap.objs.size = none:=I.hok.fresh (aG _)
 have na:s.heap.objs.size ≠ a:=(aR (aK ha)).symm
 refine Y4 I.kIn c n ha rfl rfl rfl fun h' t' hn hx ho=>h s.heap.objs.size _ nd na ?_
 have J:=I.write (x:=a) (e:=a) (o:=XN a C (some s.heap.objs.size)) (t':=t') (h':=h') (by rw [e]; trivial) (.inl rfl) (fun b w z q=>(ho b z (aR (aK q))).trans q) ⟨_,hx⟩ (Us hx)
 refine J.track ((bI na).trans nd) (Heap.get?_none_of_le I.sz) (Nat.ne_of_gt I.lt) (fun x c q z=>?_) (fun p q z=>?_) ⟨_,hn,fun g=>?_⟩
 .obtain ⟨w,o,q',_⟩:=I.cell x c q
  rw [z] at q'
  exact Nat.lt_irrefl _ (aK q')
 .have q':=(I.pin p q).1
  rw [z] at q'
  exact Nat.lt_irrefl _ (aK q')
 .by_cases z:g = f
  .subst z
   simp [List.lookup]
   exact r
  .have:(g == f) = false:=by simp [z]
   simp [List.lookup,this,z]
   trivial
noncomputable def acF (K:Frag) (ta tv:TE) (f:Str):TS:=fun D σ H=>tv σ H fun y H1=>ta σ H1 fun x H2=>∃ a C,x = .ref a/\H2 a = some (XN a C none)/\Wf K C/\cF K C f/\∀ d,H2 d = none->d ≠ a->D.nx σ (upd (upd H2 a (XN a C (some d))) d (.xd [(f,y)]))
theorem ZR {o value:Expr} {ta tv:TE} {pos pos':Pos} (ha:PE X o ta) (hv:PE X value tv) (hs:swapsWith value (some (.Attribute o f pos')) pos.line X.env = pure false):PS X (.Assign [.Attribute o f pos'] value pos) (acF X.K ta tv f):=by
 intro pins s σ H D I h
 refine plainObj_wpAny_Assign_Attribute (thn (hv pins s σ H _ I h) fun u s1 ⟨y,H1,I1,ry,q⟩=>thn (ha pins s1 σ H1 _ I1 q) fun ov s2 ⟨x,H2,I2,rx,a,C,ex,ea,c,n,q2⟩=>?_) hs
 subst ex
 obtain rfl:ov = Value.ref a:=rx
 exact Sy I2 ea c n ry fun d s3 h1 h2 I3=>⟨σ,_,I3,q2 d h1 h2⟩
theorem Inv.madeE {us:List Value} (I:Inv X pins σ H s):Inv X pins σ (upd H (s.heap.objs.size + 1) (XN (s.heap.objs.size + 1) C none)) { s with heap:=Fv s.heap C us } :=
 I.laid (a:=s.heap.objs.size + 1) (o:=XN (s.heap.objs.size + 1) C none) (h':=Fv s.heap C us) (t':=s.toks) zP (Nat.le_succ _) (Us (t:=s.heap.objs.size) (by heap_get))
theorem Rm {k:Nat} {fd:FuncData} {ps:List Str} {sp:Sp} {us:List Value} {vs:List V} {Q:Addr->Hp->Prop} (q:K_ X.K C HE fI) (F:cD X.prog X.w X.K X.mg X.base CX0 k fI fd ps sp) (hr:gG (k + 1) X.A) (hb:Binds X.K fd ps [])
  (I:Inv X pins σ H s) (r:Vals vs us) (hl:us.length <= sizeLine) (h:∀ x,H x = none->sp (.ref x :: vs) (upd H x (XN x C none)) (fun v H2=>v = .non/\Q x H2) E0) :
  wpAny (model X.prog X.w) X.A (call (.ref C) us) (fun u s'=>∃ a H',u = .ref a/\X.s₀.heap.objs.size <= a/\Inv X pins σ H' s'/\Q a H') X.xe s:=by
 obtain ⟨nm,qn,N,bs,sn,sub,ab,col,dd,k0,k1,k2,k3,k5,mN,o,hC,hN,hi,hf,hfc,T⟩:=q.obj I.kIn
 have hq:=h (s.heap.objs.size + 1) (I.hok.fresh (Nat.le_succ _))
 have I2:=I.madeE (C:=C) (us:=us)
 have r2:Vals (V.ref (s.heap.objs.size + 1) :: vs) (Value.ref (s.heap.objs.size + 1) :: us):=.cons rfl r
 have hl2:(Value.ref (s.heap.objs.size + 1) :: us ++ []).length = ps.length:=by
  rw [List.append_nil,<- r2.length]
  exact F.len _ _ _ _ hq
 have hb':=hb _ (Value.ref (s.heap.objs.size + 1) :: us) I2.kIn hl2
 rw [List.append_nil] at hb'
 have sz:=I.sz
 obtain ⟨hp,g,d,t,os⟩:=s
 refine VJ PySem.F.excBase_ValueError T hC hN hi hf hfc hl (wpAny_call (codeAny_mono (F.run _ X.stack _ _ ⟨Value.ref (hp.objs.size + 1) :: us,[]⟩ _ _ _ E0 (hr.make C us []) (I2.env0.make C us []) hb' r2 hq) fun r s' hq'=>?_))
 cases r with
 | error e=>exact Qc pins σ _ _ e s' I2 hq'
 | ok fl =>
  cases fl with
  | ret u =>
   obtain ⟨v,H',I3,rv,ev,q3⟩:=I2.after hq'
   subst ev
   exact ⟨rv,hp.objs.size + 1,H',rfl,Nat.le_succ_of_le sz,I3,q3⟩
  | next=>exact False.elim hq'
  | brk=>exact False.elim hq'
  | cont=>exact False.elim hq'
end
end L2
namespace L2
open PySem PySem.Spec PyProof.Rows
noncomputable def out (H:Hp) (a:Addr):Hp:=fun b=>if b = a then none else H b
theorem LR {H:Hp} {a:Addr} : out H a a = none:=by unfold out; rw [if_pos rfl]
theorem uE {H:Hp} {a b:Addr} (n:b ≠ a):out H a b = H b:=by unfold out; rw [if_neg n]
theorem Mh {H:Hp} {a b:Addr} {o:HO} (e:out H a b = some o):b ≠ a/\H b = some o:=by
 by_cases z:b = a
 .subst z; rw [LR] at e; cases e
 .exact ⟨z,by rw [uE z] at e; exact e⟩
section
variable {X:Cx} {pins:List (Addr × Obj)} {σ:L2.St} {H:Hp} {s:Shared} {a C:Addr} {B h':Heap} {d:Option Addr}
theorem Inv.flyMade (I:Inv X pins σ H s) (hx:X.ex = []) (e:H a = some (XN a C d)) (sz:X.s₀.heap.objs.size <= a) (hB:B = PySem.W.hideAll (s.heap.hide a) (frs X.stack)) (fl:qy B X.outer a (.ref C) d .none h') (up:s.heap.UpToSlots h') :
  Fly X.prog X.w X.outer X.H₀ X.s₀ a (.ref C) (out H a) { s with heap:=h' } B d:=by
 have inB:∀ b o,b ≠ a->s.heap.get? b = some o->b ∉ frs X.stack->B.get? b = some o:=fun b o n q m=>by rw [hB]; exact PySem.W.hideAll_get _ ((Heap.hide_ne _ n).trans q) m
 have ni:∀ b u,H b = some u->b ∉ frs X.stack:=fun b u q z=>by rw [I.stkFree b z] at q; cases q
 have trk:∀ b u o,b ≠ a->H b = some u->s.heap.get? b = some o->B.get? b = some o:=fun b u o n q r=>inB b o n r (ni b u q)
 have na:∀ b,H b = none->b ≠ a:=fun b q z=>by rw [z,e] at q; cases q
 have nf:∀ b ∈ frs X.stack,∀ o,s.heap.get? b = some o->∀ vs,o.data ≠ .fields vs:=fun b hb o q=>by
  obtain ⟨_,o',e',z⟩:=I.stack.mem hb
  rw [q] at e'
  cases e'
  exact z
 have hok:HOk X.prog X.w (out H a) h':=fun b u q=>by
  obtain ⟨n,q⟩:=Mh q
  refine (I.hok b u q).stay (fun c v hc r=>?_) (fun c r=>?_) fun c xs r=>?_
  .rcases hc with z | z
   .subst z; exact fl.1 c v (trk c u v n q r)
   .exact fl.1 c v (trk c _ v (fB z e (by intro z; cases z)) z r)
  .rw [uE (fB r e (by intro z; cases z))]; exact r
  .rw [uE (fB r e (by intro z; cases z))]; exact r
 have un:Un (frs X.stack) [a] H (out H a) s.heap h':=by
  refine ⟨fun b o q n hb _=>fl.1 b o (inB b o (na b n) q hb),fun b o q n hb _=>up b o q (nf b hb o q),fun b o _ n _=>by rw [uE (na b n)]; exact n,fun b o q hb=>?_,fun b xs q=>?_,fun b o u q=>?_,fun b ps q=>⟨#[],?_⟩⟩
  .by_cases m:b ∈ frs X.stack
   .obtain ⟨sl,r⟩:=up b o q (nf b m o q)
    exact ⟨_,r⟩
   .exact ⟨o,fl.1 b o (inB b o (by simpa using hb) q m)⟩
  .rw [uE (fB q e (by intro z; cases z))]; exact q
  .rw [uE (fB q e (by intro z; cases z))]; exact q
  .rw [uE (fB q e (by intro z; cases z)),q]; simp
 have J:Inv X pins σ (out H a) { s with heap:=h' }:=I.call' (s':={ s with heap:=h' }) (ch:=[a]) rfl un hok I.bare fun b hb=>by
  obtain rfl:b = a:=by simpa using hb
  exact ⟨.inr sz,(fun z=>by have:=I.free; rw [<- z,e] at this; cases this),(fun x c q z=>by have:=I.freeC x c q; rw [z,e] at this; cases this),(fun p hp z=>by have:=(I.pin p hp).2.1; rw [z,e] at this; cases this)⟩
 have lta:∀ b o,X.s₀.heap.get? b = some o->b ≠ a:=fun b o q z=>Nat.lt_irrefl a (aU (z ▸ aK q) sz)
 refine ⟨J.os,J.bare,Heap.get?_none_of_le sz,by have:=J.base; rw [hx] at this; exact this,J.hok,fun b hb=>?_,fl,fun b o q hb hc=>?_⟩
 .obtain ⟨_,o,ho,_⟩:=I.ok.funs.mem hb
  exact J.base.free b o ho (I.ok.frf b hb) fun z=>I.ok.exfs b z hb
 .have fin:∀ v,B.get? b = some v->B.get? b = some o:=fun v y=>by
   have e2:=fl.1 b v y
   rw [show ({ s with heap:=h' } : Shared).heap.get? b = h'.get? b from rfl,e2] at q
   cases q
   exact y
  rcases hc with ⟨u,r⟩ | ⟨u,r⟩
  .obtain ⟨⟨v,z⟩,n⟩:=I.old hx r
   exact fin v (inB b v (lta b u r) z (I.nostk n hb))
  .obtain ⟨n,r⟩:=Mh r
   obtain ⟨o',e'⟩:=(I.hok b u r).there
   exact fin o' (trk b u o' n r e')
end
noncomputable def Vv (X:Cx) (Ex:Value->Option Addr->L2.St->Hp->Prop):Prop :=
 ∀ pins σ H s a C d,Inv X pins σ H s->H a = some (XN a C d)->X.s₀.heap.objs.size <= a->Ex (.ref C) d σ (out H a)->X.xe (.ref a) s
section
variable {P:Program} {w:World} {K:Frag} {mg:Str->Option Value} {base:Heap} {N:List Str} {qual:Str} {scope:Scope} {f:Addr} {cd:Value} {A:Around} {outer:List Env} {s:Shared} {H:Hp} {E:XK}
theorem Gj:Vv (Ca (CXO P w) P w K mg base N qual scope f cd A outer s H E) (fun C d _ H'=>E C d H'):=by
 intro pins σ H1 s1 a C d I e sz q
 show wpAny _ _ (leaving _ (.ref a)) _ _ _
 have hin:∀ env ∈ (envOfC qual scope s.heap.objs.size f cd :: outer),∀ b,env.frame = some b->b ∈ frs (envOfC qual scope s.heap.objs.size f cd :: outer):=fun env he b hb=>List.mem_filterMap.mpr ⟨env,he,hb⟩
 obtain ⟨t,ha⟩:=Qe (I.hok a _ e)
 have fr:(s1.heap.hide a).FunFrames base (envOfC qual scope s.heap.objs.size f cd :: outer):=PySem.W.funFrames_hideAll (as:=[a]) I.stack fun env he b hb z=>by
  obtain rfl:b = a:=by simpa using hb
  have:=I.stkFree b (hin env he b z)
  rw [e] at this; cases this
 refine Gg (base:=PySem.W.hideAll (s1.heap.hide a) (frs (envOfC qual scope s.heap.objs.size f cd :: outer))) (h0:=s1.heap.hide a) (outer:=outer) I.ok.frames rfl (fun b o q=>PySem.W.of_hideAll _ q) (PySem.W.funFrames_hide fr hin) (fun b o q=>Heap.of_hide q) (Heap.hide_self _ _) ha rfl rfl fun h' fl up=>?_
 exact ⟨a,.ref C,d,out H1 a,_,rfl,I.flyMade rfl e sz rfl fl up,q⟩
end
section
variable {prog:Program} {w:World} {A:Around} {E:Value->Shared->Prop} {s:Shared} {env:Env} {nm qn:Str} {C N:Addr} {bs bm:List Value} {hd:Bool} {sn:List Str} {sub:List Value} {ab:Bool} {col:Option Bool} {dd:Option Addr} {k0 k1 k2 k3 k5:Option Value}
theorem SX {x:Sem Value} {Q:Flow->Shared->Prop} (hb:bm.contains (.type "BaseException") = true) (hh:A.handled = none)
  (h:wpAny (model prog w) A x (fun v s1=>∃ a t d,v = .ref a/\s1.heap.get? C = some (excClassObj nm qn C N bs bm hd sn sub ab col dd k0 k1 k2 k3 k5 "ValueError.__new__")/\s1.heap.get? a = some (Ml C t d)/\E (.ref a) s1) E s):wpAny (model prog w) A (raiseStmt env (some x) none) Q E s:=by
 have hB:(Value.ref C :: bm).contains (.type "BaseException") = true:=by rw [List.contains_cons,hb,Bool.or_true]
 unfold raiseStmt
 refine wpAny_bind (wpAny_mono h (fun v s1 z=>?_) fun _ _ z=>z)
 obtain ⟨a,t,d,rfl,hC,ha,hE⟩:=z
 obtain ⟨hp,gs,dr,tk,os⟩:=s1
 repeat (first | with_reducible refine wpAny_loadPart_at ha ?_ | with_reducible refine wpAny_loadPart_at hC ?_ | (with_reducible refine wpAny_isSubtype_exc hC ?_; rw [hB]) | wp_step)
 exact wpAny_raiseNew_none hh hE
end
section
variable {X:Cx} {x:Str} {np cpos pos:Pos} {e₀:Expr} {rest:List Expr} {ta:TA} {C HE fI:Addr} {Ex:Value->Option Addr->L2.St->Hp->Prop} {k:Nat} {ps:List Str} {sp:Sp}
noncomputable def IK (C:Addr) (sp:Sp) (Ex:Value->Option Addr->L2.St->Hp->Prop) (ta:TA):TS:=fun _ σ H=>ta σ H fun vs H1=>vs.length <= sizeLine/\∀ a,H1 a = none->sp (.ref a :: vs) (upd H1 a (XN a C none)) (fun v H2=>v = .non/\∃ d,H2 a = some (XN a C d)/\Ex (.ref C) d σ (out H2 a)) E0
theorem Gr (hc:X.calm = true) (hg:Gl X x) (hm:X.mg x = some (.ref C)) (q:K_ X.K C HE fI) (G:OkI X.prog X.w X.K X.mg X.base CX0 k fI ps sp) (hr:gG (k + 1) X.A) (hx:Vv X Ex) (ha:PA X (e₀ :: rest) ta) (hdb:(x == ("__debug__" : Str)) = false:=by decide)
  (he:starEach (e₀ :: rest) X.env = (false,eval e₀ X.env) :: starEach rest X.env:=by rfl) (hpl:(backTo cpos (starEach rest X.env)).any (·.1) = false:=by rfl) :
  PS X (.Raise (some (.Call (.Name x np) (e₀ :: rest) [] cpos)) none pos) (IK C sp Ex ta):=by
 obtain ⟨fd,F,hb⟩:=G
 intro pins s σ H D I h
 obtain ⟨nm,qn,N,bs,sn,sub,ab,col,dd,k0,k1,k2,k3,k5,mN,o,hC,hN,hi,hf,hfc,T⟩:=q.obj I.ok.mod.kin
 rw [arm_exec_Raise]
 refine wpAny_bind (wpAny_standAt (SX (C:=C) (nm:=nm) (qn:=qn) (N:=N) (bs:=bs) (bm:=.ref HE :: bmV) (hd:=true) (sn:=sn) (sub:=sub) (ab:=ab) (col:=col) (dd:=dd) (k0:=k0) (k1:=k1) (k2:=k2) (k3:=k3) (k5:=k5) (T.hasType (by decide)) (I.ok.hd hc) ?_))
 refine wpAny_bind (thn (Q:=fun u s1=>∃ a H' d,u = .ref a/\X.s₀.heap.objs.size <= a/\Inv X pins σ H' s1/\H' a = some (XN a C d)/\Ex (.ref C) d σ (out H' a)) ?_ fun u s1 ⟨a,H',d,e1,e2,I1,e3,e4⟩=>wpAny_bind (wpAny_standAt (wpAny_pure ?_)))
 .refine wpAny_Call_Name_kw (nA I hg hm ?_ hdb)
  refine PySem.W.callWith_K (h₀:=X.base) I.ok.mod.kin q.kp (thn (ha cpos pins s σ H _ I h) fun us s1 ⟨vs,H1,I1,r,hl,q1⟩=>⟨I1.kIn,?_⟩) he hpl
  exact thn (Rm (Q:=fun a H2=>∃ d,H2 a = some (XN a C d)/\Ex (.ref C) d σ (out H2 a)) q F hr hb I1 r (by show us.length <= _; rw [<- r.length]; exact hl) q1) fun u s2 ⟨a,H2,e1,e2,I2,d,e3,e4⟩=>⟨a,H2,d,e1,e2,I2,e3,e4⟩
 .obtain ⟨t,ht⟩:=Qe (I1.hok a _ e3)
  exact ⟨a,t,d,e1,I1.bk _ _ hC,ht,hx pins σ H' s1 a C d I1 e3 e2 e4⟩
end
end L2
namespace L2
open PySem PySem.Spec PyProof.Rows
section
variable {prog:Program} {w:World} {A:Around} {E:Value->Shared->Prop} {h:Heap} {g:Array GenState} {d:Drawn} {t:Nat} {os:OsState} {a C:Addr} {o:Obj} {od:Option Obj} {K:Frag} {f:Str} {u:Value}
theorem M9 {tk:Tok} {fl b:Bool} {Q:Value->Shared->Prop} (X:K.In h) (T:R8 K C) (J:PySem.W.InstAt h a o C od) (hx:h.get? a = some o) (hc:o.cls = .ref C) (hf:PySem.W.findObj K C od f = some (.value u)) (hh:PySem.W.handedIn u = true) (hq:Q u ⟨h,g,d,t,os⟩) :
  wpAny (model prog w) A (getAttrBy (.ref a) (.str f tk) fl b) Q E ⟨h,g,d,t,os⟩:=by
 have f3:=F.excAttr_ValueError.ga.bind (.ref a)
 have n2:(Value.builtin "BaseException.__getattribute__" == Value.builtin "object.__getattribute__") = false:=by decide +kernel
 have n1:(onTheHeap (Value.ref C) && Value.builtin "BaseException.__getattribute__" == Value.builtin "object.__getattribute__") = false:=by rw [n2]; exact Bool.and_false _
 have LT:=yh (M:=model prog w) hx hc
 have LG:=PySem.W.looks_findIn (M:=model prog w) X T.ga
 have LN:=PySem.W.looks_findIn (M:=model prog w) X T.gn
 have LF:=PySem.W.looks_find (M:=model prog w) X J hf
 repeat (any_goals (first | assumption | with_reducible refine LT.at ?_ | with_reducible refine LG.at ?_ | with_reducible refine LN.at ?_ | (with_reducible refine wpAny_loadPart_at hx ?_; rw [hc]) | wp_step))
 rw [if_neg (show ¬ (b && onTheHeap (Value.builtin "BaseException.__getattribute__")) = true from by rw [show onTheHeap (Value.builtin "BaseException.__getattribute__") = false from rfl,Bool.and_false]; exact bB)]
 repeat (any_goals (first | assumption | wp_step))
 refine codeAny_call_builtin F.excAttr_ValueError.ga.plain F.entry_bexc_ga (Jw X T hx hc ?_)
 repeat (any_goals (first | assumption | with_reducible refine LT.at ?_ | with_reducible refine LF.at ?_ | wp_step))
 show wpAny _ _ (handedOut u) _ _ _
 rw [PySem.W.handedOut_of hh]
 exact wpAny_pure hq
end
section
variable {X:Cx} {pins:List (Addr × Obj)} {σ:L2.St} {H:Hp} {s:Shared} {a d C:Addr} {fs:List (Str × V)} {f:Str} {v:V} {A:Around} {E:Value->Shared->Prop}
theorem Sv {b:Bool} {Q:Value->Shared->Prop} (I:Inv X pins σ H s) (e:H a = some (XO a C (some d))) (ed:H d = some (.xd fs)) (c:R8 X.K C) (hh:PySem.W.hasDictIn X.K C = true) (n:cF X.K C f) (l:fs.lookup f = some v)
  (h:∀ u s',Inv X pins σ H s'->RelV v u->Q u s'):wpAny (model X.prog X.w) A (getAttr (.ref a) f b) Q E s:=by
 obtain ⟨ox,hx,hc,hd,vs,hv⟩:=(I.hok a _ e).1
 obtain ⟨mA,hn,r⟩:=I.hok d _ ed
 obtain ⟨od,ho,hl⟩:=Gh hn
 obtain ⟨u,hu,ru⟩:=tW.some_of (v:=v) (o:=mA f) (by rw [<- l]; exact r f)
 have J:PySem.W.InstAt s.heap a ox C (some od):=⟨hx,hc,by unfold PySem.W.notCls; rw [hv],by rw [hd]; exact ho⟩
 have I2:=I.tok (s.toks + 1)
 have kI:=I.kIn
 obtain ⟨hp,g,dr,t,os⟩:=s
 unfold getAttr
 repeat (first | exact M9 kI c J hx hc (PySem.W.findObj_own hh n rfl (by rw [hl,hu])) (Gq ru) (h u _ I2 ru) | wp_step)
noncomputable def aaE (K:Frag) (ta:TE) (f:Str):TE:=fun σ H Q=>ta σ H fun x H1=>∃ a C d fs v,x = .ref a/\H1 a = some (XO a C (some d))/\H1 d = some (.xd fs)/\R8 K C/\PySem.W.hasDictIn K C = true/\cF K C f/\fs.lookup f = some v/\Q v H1
theorem Yp {e:Expr} {ta:TE} {pos:Pos} (he:PE X e ta) (hb:attributeBase e f X.env (eval e X.env) = eval e X.env):PE X (.Attribute e f pos) (aaE X.K ta f):=by
 intro pins s σ H Q I h
 refine Qn hb (thn (he pins s σ H _ I h) fun u s1 ⟨x,H1,I1,rx,a,C,d,fs,v,ex,ea,ed,c,hd,n,l,q⟩=>?_)
 subst ex
 obtain rfl:u = Value.ref a:=rx
 exact Sv I1 ea ed c hd n l fun u' s2 I2 ru=>⟨v,H1,I2,ru,q⟩
end
end L2
namespace L2
open PySem PySem.Spec PyProof.Rows
theorem fsc {N P:List Str} {sc:Scope} (h1:sc.kind = .function:=by rfl) (h2:sc.isCoroutine = false:=by rfl) (h3:sc.isGenerator = false:=by rfl) (h4:N.Nodup/\(∀ x ∈ P,sc.names.lookup x = some .local\/sc.names.lookup x = some .cell)/\∀ y ∈ sc.names,y.2 ≠ .free:=by decide +kernel) (h5:N.take P.length = P:=by rfl):bY N P sc:=⟨h1,h2,h3,h4.1,h5,h4.2.1,h4.2.2⟩
noncomputable abbrev CK (sc scope:Scope) (N N' xs:List Str):Prop:=Fy xs N = N'/\(xs ++ N').Nodup/\(∀ y ∈ scope.names,y.2 ≠ .cell)/\(∀ y ∈ scope.names,y.2 = .local->scope.names.lookup y.1 = some .local)/\(∀ y ∈ scope.names,y.2 = .free->sc.names.lookup y.1 = some .cell\/sc.names.lookup y.1 = some .free) /\
 (∀ y ∈ N,y ∉ xs->(scope.names.map fun (n,k)=>if (k == NameKind.free && sc.kind == .function && sc.names.lookup n == some .cell) then (n,NameKind.cell) else (n,k)).lookup y ≠ some .local)/\∀ y ∈ N,y ∈ xs->(scope.names.map fun (n,k)=>if (k == NameKind.free && sc.kind == .function && sc.names.lookup n == some .cell) then (n,NameKind.cell) else (n,k)).lookup (hid y) = none
section
variable {X:Cx} {elt iter tg:Expr} {pos:Pos} {scope:Scope} {wi:TI} {te:TE} {ifs:List Expr} {gt:TG} {tc:TT}
theorem jr (sc:Scope) (N N' xs:List Str) (hi:PI X tg iter wi) (hg:∀ {C s₀ H₀ ex pn},PG (X.compG N' scope xs C s₀ H₀ ex pn) tg gt) (ht:∀ {C s₀ H₀ ex pn},PTs (X.compG N' scope xs C s₀ H₀ ex pn) ifs tc) (he:∀ {C s₀ H₀ ex pn},PE (X.compG N' scope xs C s₀ H₀ ex pn) elt te)
  (hsc:X.env.scope = sc:=by rfl) (hNN:X.N = N:=by rfl) (hc:X.calm = true:=by rfl) (hk:scope.kind = .function:=by rfl) (h:CK sc scope N N' xs:=by decide +kernel) (hs:∀ z,foldedSetIterable iter X.env z = pure z:=by intro _; rfl):PE X (.ListComp elt [⟨tg,iter,ifs,0⟩] scope pos) (jK wi xs.length (tMG gt) (tMT tc) (tM te)) :=
 by
 subst hsc hNN
 exact Xo hc h.1 h.2.1 hk h.2.2.1 h.2.2.2.1 h.2.2.2.2.1 h.2.2.2.2.2.1 h.2.2.2.2.2.2 hi (fun _ _ _ _ _=>hg.mono) (fun _ _ _ _ _=>ht.mono) (fun _ _ _ _ _=>he.mono) hs
theorem Kp {i0:Nat} {y0:Str} {py spos:Pos} (sc:Scope) (N N' xs:List Str) (hi:PI X tg iter wi) (hg:∀ {C s₀ H₀ ex pn},PG (X.compG N' scope xs C s₀ H₀ ex pn) tg gt) (ht:∀ {C s₀ H₀ ex pn},PTs (X.compG N' scope xs C s₀ H₀ ex pn) ifs tc) (he:∀ {C s₀ H₀ ex pn},PE (X.compG N' scope xs C s₀ H₀ ex pn) elt te) (hgy:PG X (.Name y0 py) (cN i0))
  (hsc:X.env.scope = sc:=by rfl) (hNN:X.N = N:=by rfl) (hc:X.calm = true:=by rfl) (hk:scope.kind = .function:=by rfl) (h:CK sc scope N N' xs:=by decide +kernel) (hsw:swapsWith (.ListComp elt [⟨tg,iter,ifs,0⟩] scope pos) (some (.Name y0 py)) spos.line X.env = pure true:=by rfl) (hs:∀ z,foldedSetIterable iter X.env z = pure z:=by intro _; rfl) :
  PS X (.Assign [.Name y0 py] (.ListComp elt [⟨tg,iter,ifs,0⟩] scope pos) spos) (El (jK wi xs.length (tMG gt) (tMT tc) (tM te)) (cN i0)) :=
 by
 subst hsc hNN
 exact WY hc h.1 h.2.1 hk h.2.2.1 h.2.2.2.1 h.2.2.2.2.1 h.2.2.2.2.2.1 h.2.2.2.2.2.2 hi (fun _ _ _ _ _=>hg.mono) (fun _ _ _ _ _=>ht.mono) (fun _ _ _ _ _=>he.mono) hgy hsw hs
theorem dZ {N' xs:List Str} {C s₀ H₀ ex pn} {i:Nat} {x:Str} {p:Pos} (hN:(xs ++ N').Nodup:=by decide +kernel) (hi:(xs ++ N')[i]? = some x:=by rfl) (hx:Loc (X.compG N' scope xs C s₀ H₀ ex pn).env.scope x:=by exact Or.inl rfl) (hf:(X.compG N' scope xs C s₀ H₀ ex pn).fn x = true\/(X.compG N' scope xs C s₀ H₀ ex pn).env.scope.names.lookup x = some .local:=by exact Or.inr rfl):PG (X.compG N' scope xs C s₀ H₀ ex pn) (.Name x p) (cN i):=cI hN hi hx hf
end
theorem JW {tl te:TE} {σ:L2.St} {H:Hp} {Q:VK} (p:Nat->Bool) (y:Str) (hl:∀ R:VK,R (.str y) H->tl σ H R) (hz:y.length <= sizeLine) (he:∀ (c:Nat) (Hc:Hp) (R:VK),R (.bl (p c)) Hc->te (some (.str ⟨#[c]⟩) :: σ) Hc R)
  (q:∀ D,H D = none->Q (.ref D) (upd H D (.lst ((y.cps.toList.map p).map V.bl)))):jK (acj (tM tl)) 1 (tMG (cN 0)) (tMT Jt) (tM te) σ H Q:=by
 refine aaz (hl _ ⟨y,rfl,fun D hD=>?_⟩)
 have hy:y.cps.size <= sizeLine:=hz
 refine ⟨fun k m ys Hc=>k <= y.cps.size/\m = y.cps.size - k/\ys = ((y.cps.toList.take k).map p).map V.bl/\Hc = upd H D (.lst ys),⟨_,bw _,rfl,rfl,rfl⟩,?_⟩
 rintro k m ys Hc ⟨hk,rfl,rfl,rfl⟩
 by_cases e:k = y.cps.size
 .subst e
  refine .inl ⟨rfl,?_⟩
  rw [aL (by simp)]
  exact q D hD
 .have hlt:k < y.cps.size:=by omega
  refine .inr ⟨hlt,?_⟩
  rintro x H'' ⟨rfl,c,hc,rfl⟩
  refine (Vw (No:=fun _=>False) (he c _ (fun v H2=>v = .bl (p c)/\H2 = upd H D (.lst (((y.cps.toList.take k).map p).map V.bl))) ⟨rfl,rfl⟩)).weak ?_ fun _ z=>z.elim
  rintro v H2 ⟨rfl,rfl⟩
  refine ⟨?_,bH,y.cps.size - (k + 1),by omega,by omega,rfl,?_,?_⟩
  .rw [ak,ak,bh]
   simp only [Array.length_toList]
   omega
  .have e1:y.cps.toList.take (k + 1) = y.cps.toList.take k ++ [c]:=by
    rw [List.take_succ]
    have:y.cps.toList[k]? = some c:=by simpa using hc
    rw [this]; rfl
   rw [e1,bA,bA]; rfl
  .exact nH
theorem ada {K:Frag} {a:Addr} {i j:Int} {d:Option Addr} {n:Nat} {sl:Array (Option Value)} {t u:Tok} (l:K.lookup a = some ⟨.type "tuple",d,.seq #[.int i t,.int j u] n,sl⟩):∀ H,SqT K H a [.int i,.int j]:=fun H=>.inr ⟨_,_,_,l,rfl,rfl,(by show 2 <= sizeLine; decide),.cons ⟨_,rfl⟩ (.cons ⟨_,rfl⟩ .nil)⟩
theorem afD {K:Frag} {h:Heap} {mg:Str->Option Value} {x:Str} {i:Int} {t:Tok} (X:K.In h) (G:h.Ns mainGlobals mg) (l:PySem.W.nsIn K mainGlobals x = some (some (.int i t))):∃ u,mg x = some u/\RelV (.int i) u:=⟨_,PySem.W.mg_of X G l,_,rfl⟩
noncomputable def Lst:Nat->(List Value->Prop)->Prop
 | 0,P=>P []
 | n + 1,P=>∀ a,Lst n fun l=>P (a :: l)
theorem IW:∀ (n:Nat) {P:List Value->Prop},Lst n P->∀ us:List Value,us.length = n->P us
 | 0,_,h,[],_=>h
 | n + 1,_,h,a :: l,e=>IW n (h a) l (Nat.succ.inj e)
section
variable {K:Frag} {h:Heap} {mg:Str->Option Value} {x m qual:Str} {v:Value} {C f:Addr} {st:Stmt} {ps:List Str} {oc:Value} {od an:Option Addr} {osl:Array (Option Value)} {kV doc pm cdv ct:Value} {i j:Int} {d:Option Addr} {n:Nat} {sl:Array (Option Value)} {t u:Tok}
theorem q_c (X:K.In h:=by assumption) (G:h.Ns mainGlobals mg:=by assumption) (e:PySem.W.nsIn K mainGlobals x = some (some v):=by k_is):mg x = some v:=PySem.W.mg_of X G e
theorem q_z (X:K.In h:=by assumption) (G:h.Ns mainGlobals mg:=by assumption) (e:PySem.W.nsIn K mainGlobals x = some none:=by k_is):mg x = none:=PySem.W.mg_none_of X G e
theorem q_n (e:PySem.W.findIn K (.ref C) x = some none:=by k_is):cF K C x:=e
theorem q_m (a:PySem.W.findIn K (.ref C) m = some (some (.ref f)):=by k_is) (b:PySem.W.isFn K (.ref f) = true:=by k_is) (c:PySem.W.keepIn K (.ref f) = true:=by k_is):Meth K C m f:=⟨a,b,c⟩
theorem q_M (a:PySem.W.makesIn K C = true:=by k_is) (b:PySem.W.findIn K (.ref C) "__init__" = some (some (.ref f)):=by k_is) (c:PySem.W.isFn K (.ref f) = true:=by k_is) (e:PySem.W.keepIn K (.ref C) = true:=by k_is):Mk K C f:=⟨a,b,c,e⟩
theorem q_4 (a:PySem.W.plainGet K C Str.empty = true:=by k_is) (b:PySem.W.hasDictIn K C = true:=by k_is) (c:PySem.W.plainOver K C = true:=by k_is) (e:PySem.W.findIn K (.ref C) "__setattr__" = some (some (.builtin "object.__setattr__")):=by k_is):Cls K C:=⟨a,b,c,e⟩
theorem q_I (a:PySem.W.findIn K (.ref C) "__class__" = some (some (.builtin "object.__class__")):=by k_is) (b:PySem.W.specialIn K (.builtin "object.__class__") "__get__" = some (some (.builtin "getset_descriptor.__get__")):=by k_is) (c:PySem.W.takesIn K (.builtin "object.__class__") = some true:=by k_is) (e:PySem.W.mroIn K C (.type "object") = some true:=by k_is):K8 K C:=⟨a,b,c,e⟩
theorem q_B (a:PySem.W.specialIn K (.ref C) "__getattribute__" = some (some (.builtin "type.__getattribute__")):=by k_is) (b:PySem.W.readsIn K C (.type "type") = true:=by k_is) (c:PySem.W.findCls K (.ref C) (.type "type") m = some (.val (.ref f)):=by k_is) (e:PySem.W.keepIn K (.ref f) = true:=by k_is):kj K C m f:=⟨a,b,c,rfl,e⟩
theorem q_x (e:PySem.W.excIn K C bmV "ValueError.__new__" = true:=by k_exc):GR K C:=e
theorem q_g (X:K.In h:=by assumption) (G:h.Ns mainGlobals mg:=by assumption) (l:PySem.W.nsIn K mainGlobals x = some (some (.int i t)):=by k_is):∃ u,mg x = some u/\RelV (.int i) u:=afD X G l
theorem q_t (l:K.lookup C = some ⟨.type "tuple",d,.seq #[.int i t,.int j u] n,sl⟩:=by k_is):∀ H,SqT K H C [.int i,.int j]:=ada l
theorem q_f (N:Nat) (hb:∀ (kV doc pm:Value) (an:Option Addr) (cdv ct:Value),Lst N fun us=>bindArgs (PySem.W.fnOf x x (i_ st) (fM st) (bM st) .none kV doc pm an cdv ct) ⟨us,[]⟩ = pure (ps.zip us)) (hN:ps.length = N:=by rfl) (X:K.In h:=by assumption) (G:h.Ns mainGlobals mg:=by assumption)
  (a:PySem.W.nsIn K mainGlobals x = some (some (.ref f)):=by k_is) (l:K.lookup f = some ⟨oc,od,.func (PySem.W.fnOf x x (i_ st) (fM st) (bM st) .none kV doc pm an cdv ct),osl⟩:=by k_is)
  (c:PySem.W.codeIn K cdv x = true:=by k_is) (k:PySem.W.keepIn K (.ref f) = true:=by k_is):dB K mg x st ps:=Zb X G a l c k fun kV doc pm an cdv ct us e=>IW N (hb kV doc pm an cdv ct) us (e.trans hN)
theorem q_h (N:Nat) (hb:∀ (kV doc pm:Value) (an:Option Addr) (cdv ct:Value),Lst N fun us=>bindArgs (PySem.W.fnOf x qual (i_ st) (fM st) (bM st) .none kV doc pm an cdv ct) ⟨us,[]⟩ = pure (ps.zip us)) (hN:ps.length = N:=by rfl)
  (l:K.lookup f = some ⟨oc,od,.func (PySem.W.fnOf x qual (i_ st) (fM st) (bM st) .none kV doc pm an cdv ct),osl⟩:=by k_is) (c:PySem.W.codeIn K cdv qual = true:=by k_is) (k:PySem.W.keepIn K (.ref f) = true:=by k_is):qK K x qual st ps f:=Zq l c k fun kV doc pm an cdv ct us e=>IW N (hb kV doc pm an cdv ct) us (e.trans hN)
end
end L2
namespace L2
open PySem PySem.Spec PyProof.Rows
section
variable {K:Frag} {C HE fI:Addr} {nm qn:Str} {N:Addr} {bs sub:List Value} {sn:List Str} {ab:Bool} {col:Option Bool} {dd:Option Addr} {k0 k1 k2 k3 k5:Option Value} {o:Obj} {cd:ClassData}
theorem q_E (he:PySem.W.excIn K HE bmV "ValueError.__new__" = true:=by k_exc) (l:K.lookup C = some (excClassObj nm qn C N bs (.ref HE :: bmV) true sn sub ab col dd k0 k1 k2 k3 k5 "ValueError.__new__"):=by k_is) (n1:PySem.W.nsOkIn K N = true:=by kernel_rfl) (n2:PySem.W.nsIn K N "__init__" = some (some (.ref fI)):=by k_is)
  (lf:K.lookup fI = some o:=by k_is) (hf:o.cls = .type "function" := by rfl) (kp:PySem.W.keepIn K (.ref C) = true:=by k_is):K_ K C HE fI:=⟨⟨nm,qn,N,bs,sn,sub,ab,col,dd,k0,k1,k2,k3,k5,l,n1,n2⟩,he,⟨o,lf,hf⟩,kp⟩
theorem q_S (a:PySem.W.clsIn K C = some cd:=by k_is) (b:cd.hasDict = true:=by rfl) (c:Hv cd.mro = true:=by rfl) (e:PySem.W.findIn K (.ref C) "__setattr__" = some (some (.builtin "object.__setattr__")):=by k_is) (m:PySem.W.mroIn K C (.type "object") = some true:=by k_is):Wf K C:=⟨⟨cd,a,b,c⟩,e,m⟩
theorem q_b (a:PySem.W.specialIn K (.ref C) "__getattribute__" = some (some (.builtin "type.__getattribute__")):=by k_is) (b:PySem.W.readsIn K C (.type "type") = true:=by k_is) (c:PySem.W.findCls K (.ref C) (.type "type") "__init__" = some (.val (.builtin "ValueError.__init__")):=by k_is):VR K C:=⟨a,b,c⟩
theorem q_5 (a:PySem.W.findIn K (.ref C) "__getattribute__" = some (some (.builtin "BaseException.__getattribute__")):=by k_is) (b:PySem.W.findIn K (.ref C) "__getattr__" = some none:=by k_is) (c:PySem.W.findIn K (.ref C) "__class__" = some (some (.builtin "object.__class__")):=by k_is) (e:PySem.W.mroIn K C (.type "object") = some true:=by k_is) (m:PySem.W.mroIn K C (.type "BaseException") = some true:=by k_is):R8 K C:=⟨a,b,c,e,m⟩
end
end L2
namespace L2
open PySem PySem.Spec PyProof.Rows
section
variable {X:Cx} {k:Nat} {f C:Addr} {ps:List Str} {sp:Sp} {m:Str} {pos apos:Pos} {e o:Expr} {es:List Expr} {ta:TE} {t:TA} {Ex:Value->Option Addr->L2.St->Hp->Prop}
theorem Vj {K':Frag} {f:Str} (hK:X.K = K') (he:PE X e ta) (hb:attributeBase e f X.env (eval e X.env) = eval e X.env):PE X (.Attribute e f pos) (aaE K' ta f):=by
 subst hK
 exact Yp he hb
end
end L2
namespace L2
open PySem PySem.Spec PyProof.Rows
section
variable {X:Cx} {es:List Expr} {t:TA} {pos:Pos}
noncomputable def afu (t:TA):TE:=fun σ H Q=>t σ H fun xs H1=>xs.length <= sizeLine/\∀ p H',Same H1 H'->H1 p = none->H' p = some (.lst xs)->Q (.ref p) H'
noncomputable def afB (t:TA):TE:=fun σ H Q=>t σ H fun xs H1=>xs.length <= sizeLine/\∀ p H',Same H1 H'->H1 p = none->H' p = some (.tup xs)->Q (.ref p) H'
theorem fK (h:PA X es t):PE X (.List es pos) (afu t):=(ji h.mono).imp fun σ H Q h=>⟨_,h,fun xs H1 z=>⟨z.1,fun p hp=>z.2 p _ (Same.upd hp) hp bH⟩⟩
theorem qU {k:Nat} (h:PA X es t):PE X (.Tuple es k pos) (afB t):=(dO h.mono).imp fun σ H Q h=>⟨_,h,fun xs H1 z=>⟨z.1,fun p hp=>z.2 p _ (Same.upd hp) hp bH⟩⟩
noncomputable def aek:R2:=fun x y H Q=>∃ l b xs zs,x = .ref l/\y = .ref b/\H l = some (.lst xs)/\H b = some (.lst zs)/\xs.length + zs.length <= sizeLine/\∀ p H',Same H H'->H p = none->H' p = some (.lst (xs ++ zs))->Q (.ref p) H'
theorem Jf:OpR X (binaryOp .Add) aek:=Nv.imp fun x y H Q ⟨l,b,xs,zs,e1,e2,h1,h2,z,q⟩=>⟨l,b,xs,zs,e1,e2,h1,h2,z,fun p hp=>q p _ (Same.upd hp) hp bH⟩
noncomputable def abl:List V->Hp->VK->Prop:=fun xs H Q=>∃ p ys,xs = [.ref p]/\H p = some (.lst ys)/\∀ l H',Same H H'->H l = none->H' l = some (.lst ys)->Q (.ref l) H'
theorem lY:eZ X (.type "list") abl:=vM.imp fun xs H Q ⟨p,ys,a,b,c⟩=>⟨p,ys,a,b,fun l hl=>c l _ (Same.upd hl) hl bH⟩
noncomputable def afl:List V->Hp->VK->Prop:=fun xs H Q=>∃ p ys,xs = [.ref p]/\H p = some (.lst ys)/\∀ l H',Same H H'->H l = none->H' l = some (.tup ys)->Q (.ref l) H'
theorem SN:eZ X (.type "tuple") afl:=Eh.imp fun xs H Q ⟨p,ys,a,b,c⟩=>⟨p,ys,a,.inl ⟨.of b,fun l hl=>c l _ (Same.upd hl) hl bH⟩⟩
noncomputable def agn:V->Option Int->Option Int->Hp->VK->Prop:=fun x lo hi H Q=>∃ a xs,x = .ref a/\H a = some (.lst xs)/\∀ p H',Same H H'->H p = none->H' p = some (.lst (gU xs lo hi))->Q (.ref p) H'
theorem Du:SlR X agn:=fun pins s σ H x v vl vu lo hi sl Q I rx hs pl pu ⟨a,xs,e,h,q⟩=>qp pins s σ H x v vl vu lo hi sl Q I rx hs pl pu ⟨a,xs,e,.of h,fun p hp=>q p _ (Same.upd hp) hp bH⟩
noncomputable def aft (to:TE):TE:=fun σ H Q=>to σ H fun x H1=>∃ l xs,x = .ref l/\H1 l = some (.lst xs)/\Q .non (upd H1 l (.lst xs.reverse))
theorem Oa {o:Expr} {to:TE} {apos cpos:Pos} (ho:PE X o to) (hb:attributeBase o "reverse" X.env (eval o X.env) = eval o X.env:=by rfl) (hl:(apos.endLine == cpos.line) = true:=by rfl) :
  PE X (.Call (.Attribute o "reverse" apos) [] [] cpos) (aft to):=by
 refine (aa9 PySem.F.plainAttrs_list PySem.F.slot_list_reverse PySem.F.type_list_reverse M8 ho.mono hb hl).imp fun σ H Q h=>?_
 refine ⟨_,h,?_⟩
 rintro x H1 ⟨l,xs,rfl,hx,q⟩
 exact ⟨.inl ⟨rfl,_,SqL.of hx⟩,l,xs,rfl,rfl,hx,q⟩
end
end L2
namespace L2
open PySem PySem.Spec PyProof.Rows
section
variable {X:Cx}
noncomputable def abB (H:Hp) (f:Int × Int):Value->Bool
 | .ref a=>match H a with
  | some (.tup [.int x,.int y])=>decide (x = f.1) && decide (y = f.2)
  | _=>false
 | _=>false
noncomputable def QH:V->List V->Hp->VK->Prop:=fun x vs H Q=>∃ (l b:Addr) (xs:List V) (fs:List (Int × Int)) (f:Int × Int) (j:Nat),x = .ref l/\vs = [.ref b]/\H l = some (.lst xs)/\FL H xs fs/\H b = some (.tup [.int f.1,.int f.2])/\xs.length <= sizeLine/\fs[j]? = some f/\(∀ i g,i < j->fs[i]? = some g->g ≠ f)/\Q (.int (j:Nat)) H
theorem adO {A:Around} {pins:List (Addr × Obj)} {σ:L2.St} {H:Hp} {s:Shared} (I:Inv X pins σ H s) (hu:A.units < cLine) {a b:Addr} {g f:Int × Int} (ha:H a = some (.tup [.int g.1,.int g.2])) (hb:H b = some (.tup [.int f.1,.int f.2])):SeqAt.EqAt A s (.ref a) (.ref b) (decide (g.1 = f.1) && decide (g.2 = f.2)):=by
 by_cases e:a = b
 .subst e
  have h:=Option.some.inj (ha.symm.trans hb)
  injection h with h
  injection h with h1 h2
  injection h1 with h1
  injection h2 with h2 _
  injection h2 with h2
  rw [h1,h2,decide_eq_true rfl,decide_eq_true rfl]
  exact SeqAt.EqAt.same _
 .obtain ⟨us,ru,iu⟩:=I.tupIs ha
  obtain ⟨ws,rw',iw⟩:=I.tupIs hb
  refine SeqAt.EqAt.of_refs e fun prog w E Q q=>SeqAt.RcAt.tuples iu.2 iw.2 hu (fun j h1 h2=>K5 ru rw' rfl j h1 h2) prog w E Q ?_
  have:=Gp [V.int g.1,V.int g.2] [V.int f.1,V.int f.2]
  rw [ru.length,rw'.length] at this
  simp only [aZ]
  rw [this]
  have e:eqF [V.int g.1,V.int g.2] [V.int f.1,V.int f.2] = (decide (g.1 = f.1) && decide (g.2 = f.2)):=by simp [eqF,eqV]; rfl
  rw [e]
  exact q
theorem Dd {H:Hp} {a:Addr} {g f:Int × Int} (h:H a = some (.tup [.int g.1,.int g.2])):abB H f (.ref a) = (decide (g.1 = f.1) && decide (g.2 = f.2)):=by
 unfold abB
 dsimp only
 rw [h]
theorem Wb (hu:X.A.units + 1 < cLine):MtM X "list.index" QH:=by
 intro pins s σ H x vs v us Q I rx rv h
 obtain ⟨l,b,xs,fs,f,j,rfl,rfl,hl,fl,hb,hz,ej,nj,q⟩:=h
 cases rx
 obtain ⟨u,rfl,ru⟩:=rv.one
 cases ru
 obtain ⟨z,its,n,r,hl',e⟩:=I.lstM hl
 have vat:∀ (i:Nat) (hi:i < its.toArray.size),∃ p g,its.toArray[i] = .ref p/\fs[i]? = some g/\H p = some (.tup [.int g.1,.int g.2]):=fun i hi=>by
  rw [aZ] at hi
  have ex:xs[i]? = some (xs[i]'(by omega)):=aj _
  obtain ⟨p,g,e1,e2,e3⟩:=fl.get ex
  rw [e1] at ex
  obtain ⟨u,eu,ru⟩:=r.get ex
  cases ru
  exact ⟨p,g,by rw [List.getElem_toArray]; exact (ao.mp eu).2,e2,e3⟩
 have lf:=fl.length
 have lj:=(ao.mp ej).1
 have hj:j < its.toArray.size:=by rw [aZ]; omega
 rw [sizeLine_eq] at hz
 refine call_meets F.slot_list_index ⟨_,e,rfl⟩ F.entry_list_index (F.args_list_index_2 _ _) (SeqAt.list_indexAt l its.toArray n _ _ (.ref b) (abB H f) j hj (by omega) ?_ fun m hm lm=>?_) ⟨e,fun y hy=>?_,⟨.int _,H,I.tok _,⟨_,rfl⟩,q⟩⟩
 .obtain ⟨p,g,e1,e2,e3⟩:=vat j hj
  rw [ej] at e2
  cases e2
  rw [e1,Dd e3,decide_eq_true rfl,decide_eq_true rfl]; rfl
 .obtain ⟨p,g,e1,e2,e3⟩:=vat m hm
  have ne:=nj m g lm e2
  rw [e1,Dd e3]
  by_cases h1:g.1 = f.1
  .by_cases h2:g.2 = f.2
   .exact absurd (Prod.ext h1 h2) ne
   .rw [decide_eq_false h2,Bool.and_false]
  .rw [decide_eq_false h1,Bool.false_and]
 .obtain ⟨i,hi,ei⟩:=Array.getElem_of_mem hy
  obtain ⟨p,g,e1,e2,e3⟩:=vat i hi
  rw [<- ei,e1,Dd e3]
  exact adO I hu e3 hb
noncomputable def afy (to:TE) (t:TA):TE:=fun σ H Q=>to σ H fun x H1=>∃ l xs,x = .ref l/\H1 l = some (.lst xs)/\t σ H1 fun vs H2=>QH (.ref l) vs H2 Q
theorem abn {o e:Expr} {to:TE} {t:TA} {apos cpos:Pos} (hu:X.A.units + 64 < cLine) (ho:PE X o to) (ha:PA X [e] t) (hb:attributeBase o "index" X.env (eval o X.env) = eval o X.env:=by rfl)
  (hf:((backTo cpos (starEach [e] X.env)).all (fun x=>!x.1) && (backToKw cpos (keywordEach [] X.env)).all (fun x=>x.1.isSome) && decide ([e].length + ([] : List Keyword).length + (if ([] : List Keyword).isEmpty then 0 else 1) < 30)) = true:=by rfl)
  (hl:(apos.endLine == cpos.line) = true:=by rfl) (hs:starEach [e] X.env = (false,eval e X.env) :: starEach [] X.env:=by rfl) (hp:(backTo cpos (starEach [] X.env)).any (·.1) = false:=by rfl) :
  PE X (.Call (.Attribute o "index" apos) [e] [] cpos) (afy to t):=by
 refine (Ug PySem.F.plainAttrs_list PySem.F.slot_list_index PySem.F.type_list_index (Wb (by omega)) ho.mono ha.mono hb hf hl hs hp).imp fun σ H Q h=>?_
 refine ⟨_,h,?_⟩
 rintro x H1 ⟨l,xs,rfl,hx,h2⟩
 exact ⟨.inl ⟨rfl,_,SqL.of hx⟩,_,h2,fun vs H2 q=>q⟩
end
end L2
namespace L2
open PySem PySem.Spec PyProof.Rows
end L2
namespace Lv
noncomputable def Ti (bs:List Nat):Nat:=bs.foldl Nat.lcm 1
theorem vq:∀ (bs:List Nat) (a m:Nat),bs.foldl Nat.lcm a ∣ m ↔ a ∣ m/\∀ b ∈ bs,b ∣ m
 | [],a,m=>by simp
 | b :: bs,a,m=>by
  rw [List.foldl_cons,vq bs,Nat.lcm_dvd_iff]
  simp only [List.mem_cons,forall_eq_or_imp,and_assoc]
theorem K3 {bs:List Nat} {m:Nat} : Ti bs ∣ m ↔ ∀ b ∈ bs,b ∣ m:=by
 unfold Ti
 rw [vq]
 simp
theorem W_ {bs:List Nat} {b:Nat} (h:b ∈ bs):b ∣ Ti bs:=K3.mp (Nat.dvd_refl _) b h
theorem vp:∀ (bs:List Nat) (a:Nat),0 < a->(∀ b ∈ bs,0 < b)->0 < bs.foldl Nat.lcm a
 | [],a,h,_=>h
 | b :: bs,a,h,hb=>vp bs _ (Nat.lcm_pos h (hb b aO)) fun c hc=>hb c (aJ _ hc)
theorem Wu {bs:List Nat} (h:∀ b ∈ bs,0 < b):0 < Ti bs:=vp bs 1 (by decide) h
end Lv
namespace Ac
noncomputable def lw (t b:Int):Int × Int:=(t / (Int.gcd t b:Nat),b / (Int.gcd t b:Nat))
theorem Ue {t b:Int} (hb:0 < b):(0:Int) < (Int.gcd t b:Nat):=by
 have:=Int.gcd_pos_of_ne_zero_right t (show b ≠ 0 by omega)
 omega
theorem jO {t b:Int} (hb:0 < b):0 < (lw t b).2:=Int.ediv_pos_of_pos_of_dvd hb (Int.le_of_lt (Ue hb)) (Int.gcd_dvd_right t b)
theorem vH {t b:Int} (hb:0 < b):Int.gcd (lw t b).1 (lw t b).2 = 1:=Int.gcd_ediv_gcd_ediv_gcd (by have:=Ue (t:=t) hb; omega)
theorem zR {t b:Int} (hb:0 < b):(lw t b).1 * b = t * (lw t b).2:=by
 have d1:=Int.gcd_dvd_left t b
 have d2:=Int.gcd_dvd_right t b
 have g0:=Ue (t:=t) hb
 unfold lw
 generalize hg:((Int.gcd t b:Nat):Int) = g at *
 obtain ⟨x,rfl⟩:=d1
 obtain ⟨y,rfl⟩:=d2
 show g * x / g * (g * y) = g * x * (g * y / g)
 rw [Int.mul_ediv_cancel_left _ (by omega),Int.mul_ediv_cancel_left _ (by omega),Int.mul_left_comm,Int.mul_assoc]
theorem Bl (t b:Int):(lw t b).1.natAbs <= t.natAbs:=Int.natAbs_ediv_le_natAbs _ _
theorem zX (t b:Int):(lw t b).2.natAbs <= b.natAbs:=Int.natAbs_ediv_le_natAbs _ _
theorem Qu {a b c:Int} (h:a ∣ b * c) (g:Int.gcd a b = 1):a ∣ c:=by
 refine Int.natAbs_dvd_natAbs.mp ((show Nat.Coprime a.natAbs b.natAbs from g).dvd_of_dvd_mul_left ?_)
 rw [<- Int.natAbs_mul]
 exact Int.natAbs_dvd_natAbs.mpr h
theorem uniq {x y u v:Int} (hy:0 < y) (hv:0 < v) (g1:Int.gcd x y = 1) (g2:Int.gcd u v = 1) (e:x * v = u * y):x = u/\y = v:=by
 have d1:y ∣ v:=by
  have h:y ∣ x * v:=⟨u,by rw [e,Int.mul_comm]⟩
  exact Qu h (by rw [Int.gcd_comm]; exact g1)
 have d2:v ∣ y:=by
  have h:v ∣ u * y:=⟨x,by rw [<- e,Int.mul_comm]⟩
  exact Qu h (by rw [Int.gcd_comm]; exact g2)
 have e2:y = v:=Int.dvd_antisymm (by omega) (by omega) d1 d2
 subst e2
 exact ⟨Int.eq_of_mul_eq_mul_right (by omega) e,rfl⟩
theorem VG {t b x y:Int} (hb:0 < b) (hy:0 < y) (g:Int.gcd x y = 1) (e:x * b = t * y):x = (lw t b).1/\y = (lw t b).2:=by
 refine uniq hy (jO hb) g (vH hb) ?_
 have h:=zR (t:=t) hb
 have h1:x * (lw t b).2 * b = (lw t b).1 * y * b:=by
  rw [Int.mul_right_comm,e,Int.mul_right_comm _ y b,h,Int.mul_right_comm]
 exact Int.eq_of_mul_eq_mul_right (by omega) h1
theorem aa2 {W x S z o:Int} (hS:0 < S) (ho:0 < o) (g:Int.gcd z o = 1) (e:z * ((lw W S).2 * (lw x S).2) = ((lw W S).1 * (lw x S).2 + (lw x S).1 * (lw W S).2) * o):z = (lw (W + x) S).1/\o = (lw (W + x) S).2:=by
  refine VG hS ho g ?_
  have h1:=zR (t:=W) hS
  have h2:=zR (t:=x) hS
  have p1:=jO (t:=W) hS
  have p2:=jO (t:=x) hS
  generalize (lw W S).1 = a at *
  generalize (lw W S).2 = b at *
  generalize (lw x S).1 = c at *
  generalize (lw x S).2 = d at *
  have key:z * S * (b * d) = (W + x) * o * (b * d):=by
    calc z * S * (b * d) = z * (b * d) * S:=by rw [Int.mul_right_comm]
      _ = (a * d + c * b) * o * S:=by rw [e]
      _ = (a * S * d + c * S * b) * o:=by
        rw [Int.mul_right_comm,Int.add_mul,Int.mul_right_comm a d S,Int.mul_right_comm c b S]
      _ = (W * b * d + x * d * b) * o:=by rw [h1,h2]
      _ = (W + x) * o * (b * d):=by
        rw [Int.mul_assoc W,Int.mul_assoc x,Int.mul_comm d b,<- Int.add_mul,Int.mul_right_comm]
  exact Int.eq_of_mul_eq_mul_right (Int.ne_of_gt (Int.mul_pos p1 p2)) key
theorem JH {x S z o:Int} (hS:0 < S) (ho:0 < o) (g:Int.gcd z o = 1) (e:z * (1 * (lw x S).2) = (1 * (lw x S).2 - (lw x S).1 * 1) * o):z = (lw (S - x) S).1/\o = (lw (S - x) S).2:=by
  refine VG hS ho g ?_
  have h2:=zR (t:=x) hS
  have p2:=jO (t:=x) hS
  generalize (lw x S).1 = c at *
  generalize (lw x S).2 = d at *
  rw [Int.one_mul,Int.mul_one] at e
  have key:z * S * d = (S - x) * o * d:=by
    calc z * S * d = z * d * S:=by rw [Int.mul_right_comm]
      _ = (d - c) * o * S:=by rw [e]
      _ = (d * S - c * S) * o:=by rw [Int.mul_right_comm,Int.sub_mul]
      _ = (d * S - x * d) * o:=by rw [h2]
      _ = (S - x) * o * d:=by rw [Int.mul_comm d S,<- Int.sub_mul,Int.mul_right_comm]
  exact Int.eq_of_mul_eq_mul_right (Int.ne_of_gt p2) key
theorem uL {t b:Int} (hb:0 < b):((lw t b).1 = 0/\(lw t b).2 = 1) ↔ t = 0:=by
 have h:=zR (t:=t) hb
 have p:=jO (t:=t) hb
 constructor
 .rintro ⟨h1,h2⟩
  rw [h1,h2] at h
  omega
 .rintro rfl
  have g:=vH (t:=0) hb
  rw [Int.zero_mul] at h
  have h0:(lw 0 b).1 = 0:=by
   rcases Int.mul_eq_zero.mp h with z | z
   .exact z
   .omega
  rw [h0,Int.gcd_zero_left] at g
  exact ⟨h0,by omega⟩
theorem aaC {t b:Int} (hb:0 < b) (ht:0 <= t):0 <= (lw t b).1:=Int.ediv_nonneg ht (Int.le_of_lt (Ue hb))
theorem aaI {t b:Int} (hb:0 < b) (ht:t <= b):(lw t b).1 <= (lw t b).2:=Int.ediv_le_ediv (Ue hb) ht
theorem abp {b:Int} (hb:0 < b):(lw 1 b).1 = 1/\(lw 1 b).2 = b:=by
 have:=VG (t:=1) (b:=b) (x:=1) (y:=b) hb hb (by rw [Int.gcd_comm]; simp) (by rw [Int.mul_comm])
 exact ⟨this.1.symm,this.2.symm⟩
section
variable {κ:Type} [DecidableEq κ]
noncomputable def look (acc:List (κ × Int)) (r:κ):Int:=((acc.find? fun g=>decide (g.1 = r)).map (·.2)).getD 0
noncomputable def put (acc:List (κ × Int)) (r:κ) (y:Int):List (κ × Int):=if (acc.any fun g=>decide (g.1 = r)) = true then acc.map (fun g=>if g.1 = r then (g.1,y) else g) else acc ++ [(r,y)]
noncomputable def iG (gs:List (κ × Int)):List (κ × Int):=gs.foldl (fun a g=>put a g.1 (look a g.1 + g.2)) []
theorem yU (gs:List (κ × Int)) (g:κ × Int):iG (gs ++ [g]) = put (iG gs) g.1 (look (iG gs) g.1 + g.2):=by
 unfold iG
 rw [List.foldl_append]; rfl
theorem aau (acc:List (κ × Int)) (r:κ) (y:Int):(put acc r y).length <= acc.length + 1:=by
 unfold put
 split
 .rw [ak]; omega
 .rw [aB]; simp
theorem W6 {acc:List (κ × Int)} (h:(acc.map (·.1)).Nodup) (r:κ) (y:Int):((put acc r y).map (·.1)).Nodup:=by
 unfold put
 split
 .have e:(acc.map (fun g=>if g.1 = r then (g.1,y) else g)).map (·.1) = acc.map (·.1):=by
   rw [List.map_map]
   refine List.map_congr_left fun g _=>?_
   show (if g.1 = r then (g.1,y) else g).1 = g.1
   split <;> rfl
  rw [e]; exact h
 .rename_i hn
  rw [bA]
  refine List.nodup_append.mpr ⟨h,by simp,?_⟩
  intro a ha b hb e
  subst e
  simp only [List.map_cons,List.map_nil,List.mem_singleton] at hb
  subst hb
  obtain ⟨g,hg,e⟩:=List.mem_map.mp ha
  exact hn (List.any_eq_true.mpr ⟨g,hg,decide_eq_true e⟩)
theorem K9 (acc:List (κ × Int)) (r:κ):look acc r = 0\/∃ g ∈ acc,look acc r = g.2:=by
 unfold look
 cases h:acc.find? fun g=>decide (g.1 = r) with
 | none=>exact .inl rfl
 | some g=>exact .inr ⟨g,List.mem_of_find?_eq_some h,rfl⟩
theorem Zy {acc:List (κ × Int)} {r:κ} {y:Int} {g:κ × Int} (h:g ∈ put acc r y):g.2 = y\/g ∈ acc:=by
 unfold put at h
 split at h
 .obtain ⟨g',hg,e⟩:=List.mem_map.mp h
  split at e
  .subst e; exact .inl rfl
  .subst e; exact .inr hg
 .rcases List.mem_append.mp h with h | h
  .exact .inr h
  .rw [List.mem_singleton.mp h]; exact .inl rfl
theorem ud (gs:List (κ × Int)):(∀ g ∈ gs,0 <= g.2)->((iG gs).map (·.1)).Nodup/\(iG gs).length <= gs.length/\∀ g ∈ iG gs,0 <= g.2/\g.2 <= (gs.map (·.2)).sum:=by
 suffices H:∀ (n:Nat) (gs:List (κ × Int)),gs.length = n->(∀ g ∈ gs,0 <= g.2)->((iG gs).map (·.1)).Nodup/\(iG gs).length <= gs.length/\(0 <= (gs.map (·.2)).sum)/\∀ g ∈ iG gs,0 <= g.2/\g.2 <= (gs.map (·.2)).sum from fun h=>let ⟨a,b,_,c⟩:=H _ gs rfl h; ⟨a,b,c⟩
 intro n
 induction n with
 | zero =>
  intro gs h _
  rw [List.eq_nil_of_length_eq_zero h]
  exact ⟨by simp [iG],by simp [iG],by simp,by simp [iG]⟩
 | succ n ih =>
  intro gs h hp
  obtain ⟨gs',g,rfl⟩ : ∃ gs' g,gs = gs' ++ [g]:=⟨gs.dropLast,gs.getLast (by intro e; rw [e] at h; cases h),(List.dropLast_concat_getLast _).symm⟩
  have hl:gs'.length = n:=by rw [aB] at h; simpa using h
  obtain ⟨h1,h2,h3,h4⟩:=ih gs' hl fun g hg=>hp g (List.mem_append_left _ hg)
  have hg:=hp g (aQ _ (by simp))
  rw [yU]
  have hs:((gs' ++ [g]).map (·.2)).sum = (gs'.map (·.2)).sum + g.2:=by simp
  rw [hs]
  have lk:0 <= look (iG gs') g.1/\look (iG gs') g.1 <= (gs'.map (·.2)).sum:=by
   rcases K9 (iG gs') g.1 with e | ⟨u,hu,e⟩
   .rw [e]; exact ⟨Int.le_refl _,h3⟩
   .rw [e]; exact h4 u hu
  refine ⟨W6 h1 _ _,?_,by omega,fun u hu=>?_⟩
  .have:=aau (iG gs') g.1 (look (iG gs') g.1 + g.2)
   rw [aB]
   simp only [List.length_cons,List.length_nil]
   omega
  .rcases Zy hu with e | hu
   .rw [e]; omega
   .have:=h4 u hu
    omega
theorem Yl {acc:List (κ × Int)} {r:κ} {y:Int} {g:κ × Int} (h:g ∈ put acc r y):g.1 = r\/g.1 ∈ acc.map (·.1):=by
 unfold put at h
 split at h
 .obtain ⟨g',hg,e⟩:=List.mem_map.mp h
  split at e
  .subst e; exact .inr (List.mem_map.mpr ⟨g',hg,rfl⟩)
  .subst e; exact .inr (List.mem_map.mpr ⟨_,hg,rfl⟩)
 .rcases List.mem_append.mp h with h | h
  .exact .inr (List.mem_map.mpr ⟨_,h,rfl⟩)
  .rw [List.mem_singleton.mp h]; exact .inl rfl
theorem Xv (gs:List (κ × Int)):∀ g ∈ iG gs,g.1 ∈ gs.map (·.1):=by
 suffices H:∀ (n:Nat) (gs:List (κ × Int)),gs.length = n->∀ g ∈ iG gs,g.1 ∈ gs.map (·.1) from H _ gs rfl
 intro n
 induction n with
 | zero =>
  intro gs h g hg
  rw [List.eq_nil_of_length_eq_zero h] at hg
  simp [iG] at hg
 | succ n ih =>
  intro gs h u hu
  obtain ⟨gs',g,rfl⟩ : ∃ gs' g,gs = gs' ++ [g]:=⟨gs.dropLast,gs.getLast (by intro e; rw [e] at h; cases h),(List.dropLast_concat_getLast _).symm⟩
  have hl:gs'.length = n:=by rw [aB] at h; simpa using h
  rw [yU] at hu
  rw [bA]
  rcases Yl hu with e | e
  .rw [e]; exact aQ _ (by simp)
  .obtain ⟨v,hv,e⟩:=List.mem_map.mp e
   rw [<- e]
   exact List.mem_append_left _ (ih gs' hl v hv)
noncomputable def ways (gs:List (κ × Int)) (S:Int):List (κ × Int × Int):=((iG gs).filter fun g=>decide (0 < g.2)).map fun g=>(g.1,lw g.2 S)
theorem Xm {gs:List (κ × Int)} (h:∀ g ∈ gs,0 <= g.2) (S:Int):(ways gs S).length <= gs.length:=by
 unfold ways
 rw [ak]
 exact aM (List.length_filter_le _ _) (ud gs h).2.1
theorem Vs {gs:List (κ × Int)} {S:Int} {g:κ × Int × Int} (h:g ∈ ways gs S):g.1 ∈ gs.map (·.1):=by
 unfold ways at h
 obtain ⟨u,hu,rfl⟩:=List.mem_map.mp h
 exact Xv gs u (List.mem_filter.mp hu).1
theorem Wn {r:κ} : ways [(r,(1:Int))] 1 = [(r,(1,1))]:=by
 simp [ways,iG,put,look,lw]
end
end Ac
namespace K25
open PySem PyProof.Rows L2
local macro_rules | `(tactic| walk_at "rd")=>`(tactic| simp only [qd,z8,R6,WQ,tOp,tUn,rU,QV,J2,YT,tSl,Df,tC,Qd,rI0,rI,ZW,Uw,Yu,pY,sV,tCB,yM,xM,Wh,tOr,W5,Ql,QW,abX,Rn,El,Zh,cN,ZJ,QT,QF,Qi,Vo,Q9,Yw,Qx,JC,Nu,wW,Io,Ke,Nq,rEq,rNe,Mt,wu,Pg,zJ,N7,Jo,Iu,Vx,Vz,aaU,aaQ,Ends.unset,Yq,aaP,JN,YS,QM,ZX,ZV,Px,UJ,Ve,aa4,tSM,O1,Hu,Dp,Vr,YH,P0,GD,Y7,Ak,GP,Qt,V9,rJoin,Xj,Xq,tB,Li,aah,Xd,Am,Qk,Qs,YJ,aaS,Xk,QG,HN,UG,O7,U7,A_,Yr,Zx,Ao,V.str.injEq,
 L2.start,List.replicate_succ,List.replicate_zero,Nat.reduceSub,Nat.reduceAdd,List.map_cons,List.map_nil,List.length_cons,List.length_nil,List.cons_append,List.nil_append,List.append_nil,List.getElem?_cons_zero,List.getElem?_cons_succ,List.set_cons_zero,List.set_cons_succ,List.set_nil,Option.some.injEq,exists_eq_left',exists_eq_left,exists_and_left,exists_and_right,exists_eq_right,exists_eq,exists_eq',and_assoc,V.int.injEq,V.ref.injEq,V.bl.injEq,V.ty.injEq,List.cons.injEq,HO.tup.injEq,HO.lst.injEq,and_true,true_and,reduceCtorEq,dG,cX,bH,decide_true,decide_false,Bool.not_true,Bool.not_false,if_true,if_false,ite_true,ite_false,Bool.false_eq_true,List.mem_cons,String.reduceEq,or_true,true_or,or_false,false_or,beq_self_eq_true,Bool.or_true,Bool.true_or,Bool.or_false,Bool.false_or,Bool.and_true,Bool.and_false,Bool.true_and,Bool.false_and,String.reduceBEq,Int.reduceToNat,Int.reducePow,Int.reduceMul,Int.reduceSub,Int.reduceAdd,Int.reduceNeg,Int.reduceLE,Int.reduceLT,Int.reduceEq,ne_eq,not_false_eq_true,not_true_eq_false,Int.cast_ofNat_Int])
open PySem.NumText
noncomputable abbrev Yx:Stmt:=top 0
noncomputable abbrev Xn:List Str:=["k"]
noncomputable abbrev Wx:Str := "_wall"
noncomputable abbrev vV:Stmt:=top 10
noncomputable abbrev gA:List Str:=["thing"]
noncomputable abbrev fY:Str := "is_whole"
noncomputable abbrev Mx:List Str:=["thing"]
theorem Mi:bY Mx gA (bM vV):=fsc
noncomputable abbrev yS:Stmt:=top 11
noncomputable abbrev jG:List Str:=["one", "other"]
noncomputable abbrev jH:Str := "divisor"
noncomputable abbrev RM:List Str:=["one", "other", "left", "right", "rest"]
theorem lV:bY RM jG (bM yS):=fsc
noncomputable abbrev JT:Stmt:=top 15
noncomputable abbrev lE:List Str:=["top", "bottom"]
noncomputable abbrev jZ:Str := "ratio"
noncomputable abbrev Ye:List Str:=["top", "bottom", "common"]
theorem Ay:bY Ye lE (bM JT):=fsc
noncomputable abbrev vK:Stmt:=top 16
noncomputable abbrev iQ:List Str:=["thing"]
noncomputable abbrev iy:Str := "is_ratio"
noncomputable abbrev Ny:List Str:=["thing", "top", "bottom"]
theorem uh:bY Ny iQ (bM vK):=fsc
noncomputable abbrev MJ:Stmt:=top 17
noncomputable abbrev uY:List Str:=["one", "other"]
noncomputable abbrev uO:Str := "plus"
noncomputable abbrev aaY:List Str:=["one", "other"]
theorem ZM:bY aaY uY (bM MJ):=fsc
noncomputable abbrev GX:Stmt:=top 18
noncomputable abbrev rT:List Str:=["one", "other"]
noncomputable abbrev rM:Str := "minus"
noncomputable abbrev Yb:List Str:=["one", "other"]
theorem Wr:bY Yb rT (bM GX):=fsc
noncomputable abbrev HS:Stmt:=top 19
noncomputable abbrev uw:List Str:=["one", "other"]
noncomputable abbrev rY:Str := "times"
noncomputable abbrev Zn:List Str:=["one", "other"]
theorem Wk:bY Zn uw (bM HS):=fsc
noncomputable abbrev Jl:Stmt:=top 20
noncomputable abbrev mO:List Str:=["one", "other"]
noncomputable abbrev mX:Str := "under"
noncomputable abbrev Z4:List Str:=["one", "other"]
theorem Vc:bY Z4 mO (bM Jl):=fsc
noncomputable abbrev Aq:Stmt:=top 22
noncomputable abbrev mR:List Str:=["fractions"]
noncomputable abbrev mL:Str := "level"
noncomputable abbrev Pq:List Str:=["fractions", "bottom", "one"]
theorem yI:bY Pq mR (bM Aq):=fsc
noncomputable abbrev Ih:Stmt:=top 23
noncomputable abbrev tH:List Str:=["fractions"]
noncomputable abbrev rZ:Str := "total"
noncomputable abbrev YW:List Str:=["fractions", "leveled"]
theorem Ka:bY YW tH (bM Ih):=fsc
noncomputable abbrev vL:Stmt:=top 24
noncomputable abbrev mQ:List Str:=["fractions"]
noncomputable abbrev mW:Str := "greatest"
noncomputable abbrev M_:List Str:=["fractions", "found", "one"]
theorem o9:bY M_ mQ (bM vL):=fsc
noncomputable abbrev O4:Stmt:=top 26
noncomputable abbrev wK:List Str:=["thing", "many"]
noncomputable abbrev wI:Str := "fits"
noncomputable abbrev aa6:List Str:=["thing", "many"]
theorem Yy:bY aa6 wK (bM O4):=fsc
noncomputable abbrev qJ:Stmt:=top 27
noncomputable abbrev jB:List Str:=["hall", "plan"]
noncomputable abbrev jx:Str := "check_plan"
noncomputable abbrev JB:List Str:=["hall", "plan", "room", "thing"]
theorem pA:bY JB jB (bM qJ):=fsc
noncomputable abbrev jt:Stmt:=top 28
noncomputable abbrev iU:List Str:=["offer", "tops"]
noncomputable abbrev iR:Str := "behind_door"
noncomputable abbrev jz:List Str:=["offer", "tops", "leveled"]
theorem sG:bY jz iU (bM jt):=fsc
noncomputable abbrev pN:Stmt:=top 29
noncomputable abbrev h_:List Str:=["hall", "offer", "leveled"]
noncomputable abbrev iC:Str := "raised_look"
noncomputable abbrev En:List Str:=["hall", "offer", "leveled", "behind"]
theorem uc:bY En h_ (bM pN):=fsc
noncomputable abbrev pP:Stmt:=top 31
noncomputable abbrev gY:List Str:=["seen", "door"]
noncomputable abbrev ig:Str := "better_door"
noncomputable abbrev E_:List Str:=["seen", "door", "most"]
theorem rR:bY E_ gY (bM pP):=fsc
noncomputable abbrev yp:Stmt:=top 32
noncomputable abbrev n8:List Str:=["hall", "plan", "worths"]
noncomputable abbrev oh:Str := "mended"
noncomputable abbrev Cv:List Str:=["hall", "plan", "worths", "leveled", "told", "room", "door", "seen"]
theorem nZ:bY Cv n8 (bM yp):=fsc
noncomputable abbrev uR:Stmt:=top 35
noncomputable abbrev jL:List Str:=["thing"]
noncomputable abbrev jM:Str := "is_word"
noncomputable abbrev zG:List Str:=["thing"]
theorem NK:bY zG jL (bM uR):=fsc
noncomputable abbrev qz:Stmt:=top 37
noncomputable abbrev gK:List Str:=["name", "pay"]
noncomputable abbrev gO:Str := "check_head"
noncomputable abbrev Jm:List Str:=["name", "pay"]
theorem DX:bY Jm gK (bM qz):=fsc
noncomputable abbrev j4:Stmt:=top 38
noncomputable abbrev dI:List Str:=["room"]
noncomputable abbrev dM:Str := "check_room_name"
noncomputable abbrev wA:List Str:=["room"]
theorem vN:bY wA dI (bM j4):=fsc
noncomputable abbrev oE:Stmt:=top 39
noncomputable abbrev eU:List Str:=["chance"]
noncomputable abbrev eO:Str := "check_chance"
noncomputable abbrev Bx:List Str:=["chance"]
theorem z_:bY Bx eU (bM oE):=fsc
noncomputable abbrev mG:Stmt:=top 40
noncomputable abbrev iH:List Str:=["pairs"]
noncomputable abbrev iK:Str := "check_pairs"
noncomputable abbrev pJ:List Str:=["pairs", "room", "chance"]
theorem oG:bY pJ iH (bM mG):=fsc
noncomputable abbrev mz:Stmt:=top 41
noncomputable abbrev gZ:List Str:=["pairs"]
noncomputable abbrev iJ:Str := "joined_ways"
noncomputable abbrev vA:List Str:=["pairs", "chances", "room", "chance"]
theorem lO:bY vA gZ (bM mz):=fsc
noncomputable abbrev pG:Stmt:=top 48
noncomputable abbrev iB:List Str:=["share"]
noncomputable abbrev iT:Str := "check_share"
noncomputable abbrev Fe:List Str:=["share"]
theorem DQ:bY Fe iB (bM pG):=fsc
noncomputable abbrev qt:Stmt:=top 49
noncomputable abbrev ju:List Str:=["rooms"]
noncomputable abbrev jy:Str := "numbers_of"
noncomputable abbrev Jj:List Str:=["rooms", "numbers", "room", "name"]
theorem mD:bY Jj ju (bM qt):=fsc
noncomputable abbrev m7:Stmt:=top 50
noncomputable abbrev fX:List Str:=["door", "numbers"]
noncomputable abbrev fW:Str := "numbered_ways"
noncomputable abbrev Ad:List Str:=["door", "numbers", "numbered", "name", "chance"]
theorem jc:bY Ad fX (bM m7):=fsc
noncomputable abbrev sW:Stmt:=top 51
noncomputable abbrev kJ:List Str:=["doors", "numbers"]
noncomputable abbrev lN:Str := "offers_of"
noncomputable abbrev Ky:List Str:=["doors", "numbers", "taken", "told", "door"]
theorem nF:bY Ky kJ (bM sW):=fsc
noncomputable abbrev Mw:Stmt:=top 54
noncomputable abbrev uU:List Str:=["_law_script", "_law_k"]
noncomputable abbrev uV:Str := "_law_cell"
noncomputable abbrev aa5:List Str:=["_law_script", "_law_k"]
theorem X_:bY aa5 uU (bM Mw):=fsc
noncomputable abbrev BW:Stmt:=top 55
noncomputable abbrev eV:List Str:=["_law_cell_here", "_law_many"]
noncomputable abbrev eX:Str := "_law_stream"
noncomputable abbrev Xh:List Str:=["_law_cell_here", "_law_many", "_law_found", "_law_number", "_law_digits", "_law_k"]
theorem jU:bY Xh eV (bM BW):=fsc
noncomputable abbrev T_:Stmt:=top 56
noncomputable abbrev Dy:List Str:=["_law_one", "_law_other"]
noncomputable abbrev Bk:Str := "_law_gcd"
noncomputable abbrev acE:List Str:=["_law_one", "_law_other", "_law_low", "_law_high"]
theorem Gz:bY acE Dy (bM T_):=fsc
noncomputable abbrev Dk:Stmt:=top 57
noncomputable abbrev lX:List Str:=["_law_top", "_law_bottom"]
noncomputable abbrev lW:Str := "_law_ratio"
noncomputable abbrev W7:List Str:=["_law_top", "_law_bottom", "_law_common"]
theorem FJ:bY W7 lX (bM Dk):=fsc
noncomputable abbrev uX:Stmt:=top 58
noncomputable abbrev tD:List Str:=["_law_cell_here", "_law_many"]
noncomputable abbrev uG:Str := "_law_names"
noncomputable abbrev qO:List Str:=["_law_cell_here", "_law_many", "_law_letters", "_law_xs", "_law_base", "_law_at", "_law_step_here"]
theorem qm:bY qO tD (bM uX):=fsc
noncomputable abbrev Ir:Stmt:=top 59
noncomputable abbrev tY:List Str:=["_law_cell_here"]
noncomputable abbrev rH:Str := "_law_share"
noncomputable abbrev Z5:List Str:=["_law_cell_here", "_law_xs", "_law_bottom"]
theorem Ba:bY Z5 tY (bM Ir):=fsc
noncomputable abbrev WX:Stmt:=top 60
noncomputable abbrev yZ:List Str:=["_law_cell_here", "_law_x", "_law_y"]
noncomputable abbrev zH:Str := "_law_pay"
noncomputable abbrev aeV:List Str:=["_law_cell_here", "_law_x", "_law_y"]
theorem abg:bY aeV yZ (bM WX):=fsc
noncomputable abbrev vO:Stmt:=top 61
noncomputable abbrev xU:List Str:=["_law_cell_here", "_law_many"]
noncomputable abbrev wF:Str := "_law_door"
noncomputable abbrev qM:List Str:=["_law_cell_here", "_law_many", "_law_xs", "_law_rooms", "_law_sort", "_law_pairs", "_law_bottom", "_law_part", "_law_weights"]
theorem jD:bY qM xU (bM vO):=fsc
noncomputable abbrev Al:Stmt:=top 62
noncomputable abbrev rK:List Str:=["_law_script", "_law_at", "_law_many", "_law_most"]
noncomputable abbrev tR:Str := "_law_doors"
noncomputable abbrev PN:List Str:=["_law_script", "_law_at", "_law_many", "_law_most", "_law_rooms", "_law_first", "_law_cells", "_law_k", "_law_cell_here", "_law_room", "_law_door_here"]
theorem jw:bY PN rK (bM Al):=fsc
noncomputable abbrev xZ:Stmt:=top 63
noncomputable abbrev sS:List Str:=["_law_title", "_law_door_here", "_law_names_here"]
noncomputable abbrev tV:Str := "_law_built"
noncomputable abbrev yD:List Str:=["_law_title", "_law_door_here", "_law_names_here", "_law_told", "_law_sort", "_law_pay_here", "_law_pairs"]
theorem tU:bY yD sS (bM xZ):=fsc
noncomputable abbrev HJ:Stmt:=top 64
noncomputable abbrev wC:List Str:=["_law_cell_here", "_law_share_here", "_law_rooms"]
noncomputable abbrev vY:Str := "_law_hall"
noncomputable abbrev N8:List Str:=["_law_cell_here", "_law_share_here", "_law_rooms", "_law_names_here", "_law_found", "_law_k", "_law_titles"]
theorem wM:bY N8 wC (bM HJ):=fsc
noncomputable abbrev Cz:Stmt:=top 65
noncomputable abbrev pR:List Str:=["_law_cell_here", "_law_rooms"]
noncomputable abbrev pZ:Str := "_law_chosen"
noncomputable abbrev WT:List Str:=["_law_cell_here", "_law_rooms", "_law_xs", "_law_found", "_law_k"]
theorem uT:bY WT pR (bM Cz):=fsc
noncomputable abbrev Og:Stmt:=top 66
noncomputable abbrev yx:List Str:=["_law_share_here", "_law_door_here", "_law_worths_here"]
noncomputable abbrev xg:Str := "_law_look"
noncomputable abbrev abH:List Str:=["_law_share_here", "_law_door_here", "_law_worths_here", "_law_top", "_law_bottom", "_law_room", "_law_chance", "_law_part"]
theorem mC:bY abH yx (bM Og):=fsc
noncomputable abbrev G3:Stmt:=top 67
noncomputable abbrev tK:List Str:=["_law_one", "_law_other"]
noncomputable abbrev tL:Str := "_law_below"
noncomputable abbrev aan:List Str:=["_law_one", "_law_other"]
theorem Xg:bY aan tK (bM G3):=fsc
noncomputable abbrev wO:Stmt:=top 68
noncomputable abbrev tQ:List Str:=["_law_some", "_law_own", "_law_door_here"]
noncomputable abbrev uo:Str := "_law_taken"
noncomputable abbrev wD:List Str:=["_law_some", "_law_own", "_law_door_here"]
theorem Vt:bY wD tQ (bM wO):=fsc
noncomputable abbrev Je:Stmt:=top 69
noncomputable abbrev xY:List Str:=["_law_share_here", "_law_rooms", "_law_plan", "_law_worths_here", "_law_found"]
noncomputable abbrev wg:Str := "_law_step"
noncomputable abbrev OJ:List Str:=["_law_share_here", "_law_rooms", "_law_plan", "_law_worths_here", "_law_found", "_law_k"]
theorem Q5:bY OJ xY (bM Je):=fsc
noncomputable abbrev Mu:Stmt:=top 70
noncomputable abbrev yu:List Str:=["_law_cell_here"]
noncomputable abbrev xu:Str := "_law_size"
noncomputable abbrev abR:List Str:=["_law_cell_here", "_law_xs"]
theorem Qa:bY abR yu (bM Mu):=fsc
noncomputable abbrev ug:Stmt:=top 71
noncomputable abbrev pU:List Str:=["_law_cell_here", "_law_many"]
noncomputable abbrev qb:Str := "_law_worths"
noncomputable abbrev sX:List Str:=["_law_cell_here", "_law_many", "_law_xs"]
theorem FW:bY sX pU (bM ug):=fsc
noncomputable abbrev Vh:Stmt:=top 72
noncomputable abbrev BX:List Str:=["_law_cell_here", "_law_many"]
noncomputable abbrev CT:Str := "_law_odd"
noncomputable abbrev acJ:List Str:=["_law_cell_here", "_law_many"]
theorem ab3:bY acJ BX (bM Vh):=fsc
noncomputable abbrev BJ:Stmt:=top 73
noncomputable abbrev pX:List Str:=["_law_cell_here", "_law_plan", "_law_rooms"]
noncomputable abbrev pW:Str := "_law_spoilt"
noncomputable abbrev Xx:List Str:=["_law_cell_here", "_law_plan", "_law_rooms", "_law_xs", "_law_at", "_law_later", "_law_found", "_law_some"]
theorem lQ:bY Xx pX (bM BJ):=fsc
noncomputable abbrev zc:Stmt:=top 74
noncomputable abbrev oH:List Str:=["_law_hall_here", "_law_plan", "_law_worths_here"]
noncomputable abbrev oR:Str := "_law_refused"
noncomputable abbrev RZ:List Str:=["_law_hall_here", "_law_plan", "_law_worths_here", "e"]
theorem Bc:bY RZ oH (bM zc):=fsc
noncomputable abbrev uD:Stmt:=top 75
noncomputable abbrev j_:List Str:=["_law_hall_here", "_law_cell_here", "_law_plan", "_law_rooms", "_law_worths_here"]
noncomputable abbrev j5:Str := "_law_plan_told"
noncomputable abbrev Mj:List Str:=["_law_hall_here", "_law_cell_here", "_law_plan", "_law_rooms", "_law_worths_here", "_law_at", "_law_spoilt_here", "_law_word", "_law_room"]
theorem lC:bY Mj j_ (bM uD):=fsc
noncomputable abbrev QX:Stmt:=top 76
noncomputable abbrev N5:List Str:=["_law_script"]
noncomputable abbrev Il:Str := "law"
noncomputable abbrev ad5:List Str:=["_law_script", "_law_share_here", "_law_many", "_law_rooms", "_law_hall_here", "_law_plan", "_law_handed", "_law_one", "_law_other", "_law_lists", "_law_held", "_law_cell_here", "_law_found", "_law_worths_here"]
theorem j8:bY ad5 N5 (bM QX):=fsc
noncomputable abbrev rC:Stmt:=d9 42 0
noncomputable abbrev jf:List Str:=["self", "name", "pay"]
noncomputable abbrev yq:Str := "__init__"
noncomputable abbrev wQ:Str := "Door.__init__"
noncomputable abbrev Km:List Str:=["self", "name", "pay"]
theorem JD:bY Km jf (bM rC):=fsc
noncomputable abbrev rB:Stmt:=d9 42 1
noncomputable abbrev lu:List Str:=["self"]
noncomputable abbrev wN:Str := "ways"
noncomputable abbrev yF:Str := "Door.ways"
noncomputable abbrev J_:List Str:=["self"]
theorem JQ:bY J_ lu (bM rB):=fsc
noncomputable abbrev zf:Stmt:=d9 42 2
noncomputable abbrev wH:List Str:=["self", "room"]
noncomputable abbrev w6:Str := "chance_to"
noncomputable abbrev wR:Str := "Door.chance_to"
noncomputable abbrev rA:Stmt:=d9 43 0
noncomputable abbrev kW:List Str:=["self", "name", "pay", "room"]
noncomputable abbrev v9:Str := "__init__"
noncomputable abbrev yG:Str := "Sure.__init__"
noncomputable abbrev L_:List Str:=["self", "name", "pay", "room"]
theorem JK:bY L_ kW (bM rA):=fsc
noncomputable abbrev qT:Stmt:=d9 44 0
noncomputable abbrev fH:List Str:=["self", "name", "pay", "pairs"]
noncomputable abbrev u_:Str := "__init__"
noncomputable abbrev vh:Str := "Mixed.__init__"
noncomputable abbrev G6:List Str:=["self", "name", "pay", "pairs"]
theorem Ew:bY G6 fH (bM qT):=fsc
noncomputable abbrev rD:Stmt:=d9 45 0
noncomputable abbrev kY:List Str:=["self", "name", "pay", "chance", "room", "other"]
noncomputable abbrev xK:Str := "__init__"
noncomputable abbrev xP:Str := "Toss.__init__"
noncomputable abbrev Kq:List Str:=["self", "name", "pay", "chance", "room", "other"]
theorem Ja:bY Kq kY (bM rD):=fsc
noncomputable abbrev o_:Stmt:=d9 46 0
noncomputable abbrev j9:List Str:=["self", "name", "pay", "rooms"]
noncomputable abbrev xR:Str := "__init__"
noncomputable abbrev yc:Str := "Even.__init__"
noncomputable abbrev uz:List Str:=["self", "name", "pay", "rooms"]
theorem Ia:bY uz j9 (bM o_):=fsc
noncomputable abbrev oZ:Stmt:=d9 52 0
noncomputable abbrev lH:List Str:=["self", "share", "rooms"]
noncomputable abbrev xO:Str := "__init__"
noncomputable abbrev xX:Str := "Hall.__init__"
noncomputable abbrev uI:List Str:=["self", "share", "rooms"]
theorem Ju:bY uI lH (bM oZ):=fsc
noncomputable abbrev uF:Stmt:=d9 52 1
noncomputable abbrev iV:List Str:=["self"]
noncomputable abbrev wX:Str := "size"
noncomputable abbrev wV:Str := "Hall.size"
noncomputable abbrev J3:List Str:=["self"]
theorem Hs:bY J3 iV (bM uF):=fsc
noncomputable abbrev HW:Stmt:=d9 52 2
noncomputable abbrev Fi:List Str:=["self"]
noncomputable abbrev Fo:Str := "names"
noncomputable abbrev Ed:Str := "Hall.names"
noncomputable abbrev Gx:Stmt:=d9 52 3
noncomputable abbrev DY:List Str:=["self", "name"]
noncomputable abbrev Ez:Str := "place"
noncomputable abbrev Fg:Str := "Hall.place"
noncomputable abbrev j7:Stmt:=d9 52 4
noncomputable abbrev eF:List Str:=["self", "room"]
noncomputable abbrev oM:Str := "check_room"
noncomputable abbrev ou:Str := "Hall.check_room"
noncomputable abbrev yC:List Str:=["self", "room"]
theorem vR:bY yC eF (bM j7):=fsc
noncomputable abbrev Bg:Stmt:=d9 52 5
noncomputable abbrev Ag:List Str:=["self", "room", "name"]
noncomputable abbrev Af:Str := "door_at"
noncomputable abbrev zZ:Str := "Hall.door_at"
noncomputable abbrev mF:Stmt:=d9 52 6
noncomputable abbrev fU:List Str:=["self", "room"]
noncomputable abbrev rW:Str := "offers"
noncomputable abbrev tO:Str := "Hall.offers"
noncomputable abbrev pF:List Str:=["self", "room"]
theorem Dc:bY pF fU (bM mF):=fsc
noncomputable abbrev pL:Stmt:=d9 8 0
noncomputable abbrev gW:List Str:=["self", "room"]
noncomputable abbrev sJ:Str := "__init__"
noncomputable abbrev rF:Str := "NoPlan.__init__"
noncomputable abbrev Ek:List Str:=["self", "room"]
theorem Cm:bY Ek gW (bM pL):=fsc
structure Adr where
 HallError:Addr
 NoNumber:Addr
 NoName:Addr
 NoChance:Addr
 NoShare:Addr
 NoRoom:Addr
 NoPlan:Addr
 Door:Addr
 Sure:Addr
 Mixed:Addr
 Toss:Addr
 Even:Addr
 Hall:Addr
 NOUGHT:Addr
 ONE:Addr
 Door_init:Addr
 Door_ways:Addr
 Door_chance_to:Addr
 Sure_init:Addr
 Mixed_init:Addr
 Toss_init:Addr
 Even_init:Addr
 Hall_init:Addr
 Hall_size:Addr
 Hall_names:Addr
 Hall_place:Addr
 Hall_check_room:Addr
 Hall_door_at:Addr
 Hall_offers:Addr
 NoPlan_init:Addr
structure Txt (K:Frag) (mg:Str->Option Value) (D:Adr):Prop where
 VN:mg "Door" = some (.ref D.Door)
 abY:mg "Even" = some (.ref D.Even)
 abT:mg "Hall" = some (.ref D.Hall)
 Mg:mg "HallError" = some (.ref D.HallError)
 Gw:mg "Mixed" = some (.ref D.Mixed)
 wj:mg "NOUGHT" = some (.ref D.NOUGHT)
 CJ:mg "NoChance" = some (.ref D.NoChance)
 Ku:mg "NoName" = some (.ref D.NoName)
 O2:mg "NoNumber" = some (.ref D.NoNumber)
 Bq:mg "NoPlan" = some (.ref D.NoPlan)
 adt:mg "NoRoom" = some (.ref D.NoRoom)
 ab8:mg "NoShare" = some (.ref D.NoShare)
 Mr:mg "ONE" = some (.ref D.ONE)
 aaX:mg "Sure" = some (.ref D.Sure)
 ab6:mg "Toss" = some (.ref D.Toss)
 DP:GR K D.NoChance
 Mf:GR K D.NoName
 Nm:GR K D.NoNumber
 ab7:GR K D.NoShare
 VP:PySem.W.mroIn K D.NoPlan (.type "BaseException") = some true
 Xe:PySem.W.typeIn K (.ref D.NoPlan) = some (.type "type")
 ab2:PySem.W.mroIn K D.NoNumber (.ref D.HallError) = some true
 DN:∃ u,mg "LONGEST_WORD" = some u/\RelV (.int 8) u
 uW:∀ H,SqT K H D.NOUGHT [.int 0,.int 1]
 Dg:∀ H,SqT K H D.ONE [.int 1,.int 1]
 afs:Mk K D.Door D.Door_init
 W8:Cls K D.Door
 afr:K8 K D.Door
 Qz:Meth K D.Door "chance_to" D.Door_chance_to
 JV:Meth K D.Door "ways" D.Door_ways
 EY:cF K D.Door "leads"
 GC:cF K D.Door "name"
 Tv:cF K D.Door "numbers"
 Tz:cF K D.Door "offered"
 Kv:cF K D.Door "pay"
 XR:cF K D.Door "share"
 X7:Mk K D.Sure D.Sure_init
 KQ:Cls K D.Sure
 afq:K8 K D.Sure
 Py:Meth K D.Sure "chance_to" D.Door_chance_to
 Ip:Meth K D.Sure "ways" D.Door_ways
 uZ:cF K D.Sure "leads"
 Jp:cF K D.Sure "name"
 TF:cF K D.Sure "numbers"
 Tt:cF K D.Sure "offered"
 Ln:cF K D.Sure "pay"
 XM:cF K D.Sure "share"
 Xy:Mk K D.Mixed D.Mixed_init
 Ss:Cls K D.Mixed
 aeG:K8 K D.Mixed
 Oj:Meth K D.Mixed "chance_to" D.Door_chance_to
 Fj:Meth K D.Mixed "ways" D.Door_ways
 Cp:cF K D.Mixed "leads"
 Ea:cF K D.Mixed "name"
 R7:cF K D.Mixed "numbers"
 Rz:cF K D.Mixed "offered"
 I9:cF K D.Mixed "pay"
 U5:cF K D.Mixed "share"
 YZ:Mk K D.Toss D.Toss_init
 WK:Cls K D.Toss
 afp:K8 K D.Toss
 Qj:Meth K D.Toss "chance_to" D.Door_chance_to
 G8:Meth K D.Toss "ways" D.Door_ways
 Eo:cF K D.Toss "leads"
 GQ:cF K D.Toss "name"
 Tp:cF K D.Toss "numbers"
 TJ:cF K D.Toss "offered"
 Le:cF K D.Toss "pay"
 XQ:cF K D.Toss "share"
 Yt:Mk K D.Even D.Even_init
 WM:Cls K D.Even
 afn:K8 K D.Even
 O_:Meth K D.Even "chance_to" D.Door_chance_to
 Ik:Meth K D.Even "ways" D.Door_ways
 Et:cF K D.Even "leads"
 I_:cF K D.Even "name"
 Tn:cF K D.Even "numbers"
 Tr:cF K D.Even "offered"
 LK:cF K D.Even "pay"
 XH:cF K D.Even "share"
 X4:Mk K D.Hall D.Hall_init
 sI:Cls K D.Hall
 afm:K8 K D.Hall
 vX:Meth K D.Hall "check_room" D.Hall_check_room
 Tw:Meth K D.Hall "door_at" D.Hall_door_at
 XD:Meth K D.Hall "names" D.Hall_names
 DR:Meth K D.Hall "offers" D.Hall_offers
 X3:Meth K D.Hall "place" D.Hall_place
 IV:Meth K D.Hall "size" D.Hall_size
 Er:cF K D.Hall "leads"
 JF:cF K D.Hall "name"
 m_:cF K D.Hall "numbers"
 qZ:cF K D.Hall "offered"
 Ma:cF K D.Hall "pay"
 vg:cF K D.Hall "share"
 xi_NoPlan:K_ K D.NoPlan D.HallError D.NoPlan_init
 xs_NoPlan:Wf K D.NoPlan
 xk_NoPlan:R8 K D.NoPlan
 hd_NoPlan:PySem.W.hasDictIn K D.NoPlan = true
 sm_NoPlan:PySem.W.mroIn K D.NoPlan (.ref D.NoPlan) = some true
 uq:cF K D.NoPlan "room"
 ib_HallError:VR K D.HallError
 v8:kj K D.Door "__init__" D.Door_init
 JL:qK K yq wQ rC jf D.Door_init
 YB:kj K D.Door "ways" D.Door_ways
 Jh:qK K wN yF rB lu D.Door_ways
 Qf:kj K D.Door "chance_to" D.Door_chance_to
 Q0:qK K w6 wR zf wH D.Door_chance_to
 aam:kj K D.Sure "__init__" D.Sure_init
 Ho:qK K v9 yG rA kW D.Sure_init
 vf:kj K D.Mixed "__init__" D.Mixed_init
 Fd:qK K u_ vh qT fH D.Mixed_init
 Yi:kj K D.Toss "__init__" D.Toss_init
 Gv:qK K xK xP rD kY D.Toss_init
 YX:kj K D.Even "__init__" D.Even_init
 Jb:qK K xR yc o_ j9 D.Even_init
 Zg:kj K D.Hall "__init__" D.Hall_init
 Jq:qK K xO xX oZ lH D.Hall_init
 Za:kj K D.Hall "size" D.Hall_size
 HX:qK K wX wV uF iV D.Hall_size
 XC:kj K D.Hall "names" D.Hall_names
 XS:qK K Fo Ed HW Fi D.Hall_names
 XF:kj K D.Hall "place" D.Hall_place
 XJ:qK K Ez Fg Gx DY D.Hall_place
 Ni:kj K D.Hall "check_room" D.Hall_check_room
 vU:qK K oM ou j7 eF D.Hall_check_room
 Tq:kj K D.Hall "door_at" D.Hall_door_at
 TQ:qK K Af zZ Bg Ag D.Hall_door_at
 U3:kj K D.Hall "offers" D.Hall_offers
 Bp:qK K rW tO mF fU D.Hall_offers
 Cw:qK K sJ rF pL gW D.NoPlan_init
 Kh:mg "abs" = none
 aaL:mg "all" = none
 ae5:mg "any" = none
 Om:mg "bool" = none
 zQ:mg "enumerate" = none
 Ut:mg "int" = none
 d8:mg "isinstance" = none
 eN:mg "len" = none
 pQ:mg "list" = none
 kE:mg "range" = none
 TY:mg "sorted" = none
 acZ:mg "str" = none
 Ur:mg "sum" = none
 QJ:mg "tuple" = none
 Xa:mg "zip" = none
 afo:dB K mg Wx Yx Xn
 O6:dB K mg fY vV gA
 S_:dB K mg jH yS jG
 Y8:dB K mg jZ JT lE
 Nh:dB K mg iy vK iQ
 abh:dB K mg uO MJ uY
 aag:dB K mg rM GX rT
 aaj:dB K mg rY HS uw
 Yz:dB K mg mX Jl mO
 Q_:dB K mg mL Aq mR
 f_total:dB K mg rZ Ih tH
 O5:dB K mg mW vL mQ
 aaR:dB K mg wI O4 wK
 GJ:dB K mg jx qJ jB
 D_:dB K mg iR jt iU
 Em:dB K mg iC pN h_
 Ec:dB K mg ig pP gY
 Vl:dB K mg oh yp n8
 Tf:dB K mg jM uR jL
 GZ:dB K mg gO qz gK
 wY:dB K mg dM j4 dI
 Br:dB K mg eO oE eU
 Ep:dB K mg iK mG iH
 Ei:dB K mg iJ mz gZ
 Es:dB K mg iT pG iB
 Hq:dB K mg jy qt ju
 z6:dB K mg fW m7 fX
 Ld:dB K mg lN sW kJ
 abf:dB K mg uV Mw uU
 Xc:dB K mg eX BW eV
 adK:dB K mg Bk T_ Dy
 VD:dB K mg lW Dk lX
 X8:dB K mg uG uX tD
 Y5:dB K mg rH Ir tY
 adA:dB K mg zH WX yZ
 abN:dB K mg wF vO xU
 Zo:dB K mg tR Al rK
 YF:dB K mg tV xZ sS
 abU:dB K mg vY HJ wC
 VF:dB K mg pZ Cz pR
 f_look:dB K mg xg Og yx
 aao:dB K mg tL G3 tK
 ZQ:dB K mg uo wO tQ
 abZ:dB K mg wg Je xY
 abC:dB K mg xu Mu yu
 W2:dB K mg qb ug pU
 adB:dB K mg CT Vh BX
 U0:dB K mg pW BJ pX
 R9:dB K mg oR zc oH
 KJ:dB K mg j5 uD j_
noncomputable def Fam (D:Adr) (C:Addr):Prop:=C = D.Door\/C = D.Sure\/C = D.Mixed\/C = D.Toss\/C = D.Even\/C = D.Hall
theorem Txt.cl {K:Frag} {mg:Str->Option Value} {D:Adr} (T:Txt K mg D):∀ C,Fam D C->Cls K C:=by
 rintro C (rfl | rfl | rfl | rfl | rfl | rfl)
 .exact T.W8
 .exact T.KQ
 .exact T.Ss
 .exact T.WK
 .exact T.WM
 .exact T.sI
theorem Txt.BZ {K:Frag} {mg:Str->Option Value} {D:Adr} (T:Txt K mg D):∀ C,Fam D C->cF K C "leads" := by
 rintro C (rfl | rfl | rfl | rfl | rfl | rfl)
 .exact T.EY
 .exact T.uZ
 .exact T.Cp
 .exact T.Eo
 .exact T.Et
 .exact T.Er
theorem Txt.Ai {K:Frag} {mg:Str->Option Value} {D:Adr} (T:Txt K mg D):∀ C,Fam D C->cF K C "name" := by
 rintro C (rfl | rfl | rfl | rfl | rfl | rfl)
 .exact T.GC
 .exact T.Jp
 .exact T.Ea
 .exact T.GQ
 .exact T.I_
 .exact T.JF
theorem Txt.Uk {K:Frag} {mg:Str->Option Value} {D:Adr} (T:Txt K mg D):∀ C,Fam D C->cF K C "pay" := by
 rintro C (rfl | rfl | rfl | rfl | rfl | rfl)
 .exact T.Kv
 .exact T.Ln
 .exact T.I9
 .exact T.Le
 .exact T.LK
 .exact T.Ma
noncomputable def dH (D:Adr) (C:Addr):Prop:=C = D.Hall
theorem dH.fam {D:Adr} {C:Addr} (h:dH D C):Fam D C:=by
 unfold dH at h
 unfold Fam
 simp [h]
theorem Txt.vQ {K:Frag} {mg:Str->Option Value} {D:Adr} (T:Txt K mg D):∀ C,dH D C->Meth K C "check_room" D.Hall_check_room:=by
 rintro C (rfl)
 .exact T.vX
noncomputable def dX (D:Adr) (C:Addr):Prop:=C = D.Hall
theorem dX.fam {D:Adr} {C:Addr} (h:dX D C):Fam D C:=by
 unfold dX at h
 unfold Fam
 simp [h]
theorem Txt.uy {K:Frag} {mg:Str->Option Value} {D:Adr} (T:Txt K mg D):∀ C,dX D C->Meth K C "offers" D.Hall_offers:=by
 rintro C (rfl)
 .exact T.DR
noncomputable def fj (D:Adr) (C:Addr):Prop:=C = D.Hall
theorem fj.fam {D:Adr} {C:Addr} (h:fj D C):Fam D C:=by
 unfold fj at h
 unfold Fam
 simp [h]
theorem Txt.yE {K:Frag} {mg:Str->Option Value} {D:Adr} (T:Txt K mg D):∀ C,fj D C->Meth K C "size" D.Hall_size:=by
 rintro C (rfl)
 .exact T.IV
noncomputable def d7 (D:Adr) (C:Addr):Prop:=C = D.Door\/C = D.Sure\/C = D.Mixed\/C = D.Toss\/C = D.Even
theorem d7.fam {D:Adr} {C:Addr} (h:d7 D C):Fam D C:=by
 unfold d7 at h
 unfold Fam
 rcases h with h | h | h | h | h <;> simp [h]
theorem Txt.G5 {K:Frag} {mg:Str->Option Value} {D:Adr} (T:Txt K mg D):∀ C,d7 D C->Meth K C "ways" D.Door_ways:=by
 rintro C (rfl | rfl | rfl | rfl | rfl)
 .exact T.JV
 .exact T.Ip
 .exact T.Fj
 .exact T.G8
 .exact T.Ik
section
variable {P:Program} {w:World} {K:Frag} {mg:Str->Option Value} {base:Heap} {D:Adr}
theorem boot_abs:bootBuiltins "abs" = some (.builtin "abs"):=by decide +kernel
theorem PK:1 <= sizeLine:=by decide
theorem dR:2 <= sizeLine:=by decide
theorem YK {n:Int} (h0:0 <= n) (h1:n <= 1000000):aeL 10 n:=⟨h0,h1,by decide⟩
theorem abS {n:Nat} (h:n <= 64):n <= sizeLine:=aM h (by decide)
theorem ZS (ns:List Int) (k:Nat):atI (gU (ns.map V.int) (some (k:Int)) (some ((k:Int) + 1)) ++ [V.int 0]) 0 = some (V.int (ns.getD k 0)):=by
 unfold gU
 rw [show ((k:Int) + 1) = ((k + 1:Nat):Int) by omega,HT.nQ,HT.nQ,ak]
 refine bU (j:=0) ?_
 by_cases h:k < ns.length
 .rw [Nat.min_eq_left (Nat.le_of_lt h),Nat.min_eq_left (Nat.succ_le_of_lt h)]
  rw [show k + 1 - k = 1 by omega]
  rw [List.drop_eq_getElem_cons (by rw [ak]; exact h)]
  simp [List.getD,h]
 .have e1:min k ns.length = ns.length:=by omega
  have e2:min (k + 1) ns.length = ns.length:=by omega
  rw [e1,e2]
  simp [List.getD,List.getElem?_eq_none (Nat.le_of_not_lt h)]
theorem bV {t u:TS} {D:Ends} {σ:L2.St} {H:Hp} (h:∀ u',u' = u->qd t u' D σ H):qd t u D σ H:=h u rfl
theorem Fx {a b c d:TS} {D:Ends} {σ:L2.St} {H:Hp} (h:∀ d',d' = d->qd a (qd b (qd c d')) D σ H):qd a (qd b (qd c d)) D σ H:=h d rfl
theorem vG {α:Type} : ∀ {l:List α},l.length = 2->∃ a b,l = [a,b]
 | [a,b],_=>⟨a,b,rfl⟩
theorem mq {t0:TE} {t v:TS} {D:Ends} {σ:L2.St} {H:Hp} {i k:Int} (ht:∀ R:VK,R (.int i) H->t0 σ H R) (ne:i ≠ k) (h:v D σ H):qd (z8 (xM (tOp rEq t0 (tC (.int k)))) t wu) v D σ H:=by
 refine ht _ ⟨rfl,_,rfl,?_⟩
 dsimp only
 rw [if_neg (by simp [ne])]
 exact h
theorem rN {t0:TE} {t v:TS} {D:Ends} {σ:L2.St} {H:Hp} {i k:Int} (ht:∀ R:VK,R (.int i) H->t0 σ H R) (e:i = k) (h:∀ Kn:L2.St->Hp->Prop,(∀ σ' H',v D σ' H'->Kn σ' H')->t { D with nx:=Kn } σ H):qd (z8 (xM (tOp rEq t0 (tC (.int k)))) t wu) v D σ H:=by
 refine ht _ ⟨rfl,_,rfl,?_⟩
 dsimp only
 rw [if_pos (by simp [e])]
 exact h _ fun _ _ z=>z
theorem gB {te:TE} {D:Ends} {σ:L2.St} {H:Hp} (h:te σ H D.rt):R6 te D σ H:=h
theorem TV {te:TE} {σ:L2.St} {H:Hp} {Q:List V->Hp->Prop} (h:te σ H fun x H1=>Q [x] H1):pY te sV σ H Q:=h
theorem cZ {t u:TS} {D:Ends} {σ:L2.St} {H:Hp} (h:t { D with nx:=u D } σ H):qd t u D σ H:=h
theorem cL {te:TE} {g:TG} {u:TS} {D:Ends} {σ:L2.St} {H:Hp} (h:te σ H fun x H1=>g x σ H1 (u D)):qd (El te g) u D σ H:=h
theorem M4 {c:TT} {t u:TS} {D:Ends} {σ:L2.St} {H:Hp} (h:c σ H fun b H1=>if b = true then t D σ H1 else u D σ H1):z8 c t u D σ H:=h
theorem Xw {r:List V->Hp->VK->Prop} {te:TE} {σ:L2.St} {H:Hp} {Q:VK} (h:te σ H fun x H1=>r [x] H1 Q):tCB r (pY te sV) σ H Q:=h
theorem Zz {r:List V->Hp->VK->Prop} {te:TE} {σ:L2.St} {H:Hp} {Q:Bool->Hp->Prop} (h:te σ H fun x H1=>r [x] H1 fun y H2=>∃ k,Nq y = some k/\Q k H2):Rn (tCB r (pY te sV)) σ H Q:=h
noncomputable def kO:Sp:=fun vs H Q _=>∃ x t,vs = [x]/\tyS H x = some t/\Q (.bl (t == "int")) H
theorem LQ (F:Fun K fY fY vV f fd) (T:Txt K mg D):cD P w K mg base CX0 1 f fd gA kO:=by
 refine F.ok Mi (fun vs H Q E h=>?_) (fun cdv A outer s H vs Q E hr h=>?_)
 .obtain ⟨x,t,rfl,_⟩:=h
  rfl
 .obtain ⟨x,t,rfl,ht,q⟩:=h
  refine ⟨_,(bL (cg (yR (b_ lM (by rfl) T.d8 boot_isinstance (bC (pv 0) (bC (nR (v:=.ty "int") (by rfl) T.Ut boot_int rfl) bG))) (Bu (Xp (b_ lM (by rfl) T.d8 boot_isinstance (bC (pv 0) (bC (nR (v:=.ty "bool") (by rfl) T.Om boot_bool rfl) bG)))))))),?_⟩
  walk_at "rd"
  rw [ht]
  walk_at "rd"
  have hm:=Ul ht
  simp only [List.mem_cons,List.not_mem_nil,or_false] at hm
  rcases hm with rfl | rfl | rfl | rfl | rfl | rfl | rfl <;> simpa using q
noncomputable def JG:Sp:=fun vs H Q _=>∃ (a b:Int),vs = [.int a,.int b]/\Q (.int (Int.gcd a b:Nat)) H
theorem abG (F:Fun K Bk Bk T_ f fd) (T:Txt K mg D):cD P w K mg base CX0 1 f fd Dy JG:=by
 refine cD.clean (sp:=fun vs H Q _=>∃ (a b:Int),vs = [.int a,.int b]/\∀ H',Same H H'->Q (.int (Int.gcd a b:Nat)) H')
  (F.ok Gz (fun vs H Q E h=>?_) (fun cdv A outer s H vs Q E hr h=>?_)) fun vs H Q E ⟨a,b,h1,h4⟩=>⟨a,b,h1,fun H' S=>⟨S,h4⟩⟩
 .obtain ⟨a,b,rfl,_⟩:=h
  rfl
 .obtain ⟨a,b,rfl,q⟩:=h
  refine ⟨_,(bK (rP (b_ Rh (by rfl) T.TY boot_sorted (bC (ji (bC (b_ rE (by rfl) T.Kh boot_abs (bC (pv 0) bG)) (bC (b_ rE (by rfl) T.Kh boot_abs (bC (pv 1) bG)) bG))) bG)) (Yc (n:=2) rfl (cu (cI (i:=2) Gz.nd rfl (Or.inl rfl)) (cu (cI (i:=3) Gz.nd rfl (Or.inl rfl)) eG))))
   (bK (Lk PassesOwn.never (cA Q6 (pv 2) bF (cC _))
    (bL (abk (i:=2) (j:=3) rfl Gz.nd rfl rfl (by decide) rfl rfl (bC (bQ iW (pv 3) (pv 2)) (bC (pv 2) bG)) rfl)))
   (bL (cg (pv 3))))),?_⟩
  walk_at "rd"
  refine ⟨dR,fun p hp=>⟨[(a.natAbs:Int),(b.natAbs:Int)],?_,(by simp),fun ms p1 hp1 hm hs=>?_⟩⟩
  .rw [G7,G7]; rfl
  have S:Same H (upd (upd H p (HO.lst [V.int (if a < 0 then -a else a),V.int (if b < 0 then -b else b)])) p1 (HO.lst (ms.map V.int))):=(Same.upd hp).trans (Same.upd hp1)
  generalize upd (upd H p (HO.lst [V.int (if a < 0 then -a else a),V.int (if b < 0 then -b else b)])) p1 (HO.lst (ms.map V.int)) = H1 at S
  have hk:∃ l k:Nat,ms = [(l:Int),(k:Int)]/\Nat.gcd l k = Int.gcd a b:=by
   rcases V3 hm with rfl | rfl
   .exact ⟨_,_,rfl,rfl⟩
   .exact ⟨_,_,rfl,Nat.gcd_comm _ _⟩
  obtain ⟨l,k,rfl,hg⟩:=hk
  walk_at "rd"
  refine Lf (fun σ H2=>∃ l k:Nat,σ = [some (.int a),some (.int b),some (.int l),some (.int k)]/\H2 = H1/\Nat.gcd l k = Int.gcd a b)
   (fun σ _=>match σ with | [_,_,some (.int l),_]=>l.natAbs | _=>0) ⟨l,k,rfl,rfl,hg⟩ ?_ ?_
  .rintro σ H2 ⟨l,k,rfl,rfl,hg⟩
   walk_at "rd"
   by_cases hl:l = 0
   .subst hl
    simp only [Int.natCast_zero,Int.lt_irrefl,decide_false,Bool.false_eq_true,if_false]
    rw [show k = Int.gcd a b by rw [<- hg,Nat.gcd_zero_left]]
    exact q _ S
   .have hl':(0:Int) < l:=by omega
    rw [if_pos (decide_eq_true hl')]
    refine ⟨by omega,⟨k % l,wB _ _,l,rfl,?_⟩,?_⟩
    .rw [<- Nat.gcd_rec]; exact hg
    .rw [wB]
     show (k % l) < l
     exact Nat.mod_lt _ (by omega)
  .intro σ H2 Q1 Q2 hq
   walk_at "rd"
   rintro ⟨v,h1,i,h2,h3⟩
   exact ⟨v,h1,i,h2,hq _ _ h3⟩
theorem HY {a b:Int} (h:b ≠ 0):(0:Int) < (Int.gcd a b:Nat):=by
 have:=Int.gcd_pos_of_ne_zero_right a h
 omega
theorem Mv {a b:Int} (h:b ≠ 0) (hb:Bd b):Bd (Int.gcd a b:Nat):=by
 unfold Bd at *
 refine Nat.lt_of_le_of_lt ?_ hb
 rw [Int.natAbs_natCast]
 exact Nat.le_of_dvd (by omega) (Int.gcd_dvd_natAbs_right a b)
noncomputable def iz:Sp:=fun vs H Q _=>∃ (a b:Int),vs = [.int a,.int b]/\Q (.int (Int.gcd a b:Nat)) H
noncomputable def afM (a b:Int) (H1:Hp) (σ:L2.St) (H:Hp):Prop:=∃ (l k:Nat) (z:Option V),σ = [some (.int a),some (.int b),some (.int l),some (.int k),z]/\H = H1/\Nat.gcd l k = Int.gcd a b
theorem M5 (F:Fun K jH jH yS f fd) (T:Txt K mg D):cD P w K mg base CX0 1 f fd jG iz:=by
 refine F.ok lV (fun vs H Q E h=>?_) (fun cdv A outer s H vs Q E hr h=>?_)
 .obtain ⟨a,b,rfl,_⟩:=h
  rfl
 .obtain ⟨a,b,rfl,q⟩:=h
  refine ⟨_,(bK (bZ (i:=2) lV.nd rfl (Or.inl rfl) (b_ rE (by rfl) T.Kh boot_abs (bC (pv 0) bG)))
   (bK (bZ (i:=3) lV.nd rfl (Or.inl rfl) (b_ rE (by rfl) T.Kh boot_abs (bC (pv 1) bG)))
   (bK (Lk PassesOwn.never (cA Ra (pv 3) bF (cC _))
    (bK (bZ (i:=4) lV.nd rfl (Or.inl rfl) (bQ iW (pv 2) (pv 3)))
    (bK (bZ (i:=2) lV.nd rfl (Or.inl rfl) (pv 3))
    (bL (bZ (i:=3) lV.nd rfl (Or.inl rfl) (pv 4))))))
   (bL (cg (pv 2)))))),?_⟩
  walk_at "rd"
  rw [G7,G7]
  refine Lf (afM a b H) (fun σ _=>match σ with | [_,_,_,some (.int k),_]=>k.natAbs | _=>0) ⟨a.natAbs,b.natAbs,none,rfl,rfl,rfl⟩ ?_ ?_
  .rintro σ H2 ⟨l,k,z,rfl,rfl,hg⟩
   walk_at "rd"
   by_cases hl:k = 0
   .subst hl
    rw [if_neg (by simp)]
    rw [show l = Int.gcd a b by rw [<- hg,Nat.gcd_zero_right]]
    exact q
   .have hl':¬ ((k:Int) = 0):=by omega
    rw [if_pos (by simpa using hl)]
    refine ⟨by omega,⟨k,l % k,some (.int ((l % k:Nat):Int)),?_,rfl,?_⟩,?_⟩
    .rw [wB]
    .rw [Nat.gcd_comm,<- Nat.gcd_rec,Nat.gcd_comm]; exact hg
    .rw [wB]
     show (l % k) < k
     exact Nat.mod_lt _ (by omega)
  .intro σ H2 Q1 Q2 hq
   walk_at "rd"
   rintro ⟨v,h1,h2,h3⟩
   exact ⟨v,h1,h2,hq _ _ h3⟩
structure Low (t b x y:Int):Prop where
 pos:0 < y
 gcd:Int.gcd x y = 1
 eq:x * b = t * y
 lx:x.natAbs <= t.natAbs
 ly:y.natAbs <= b.natAbs
theorem CW {c q:Int} (h:c ≠ 0):Int.fdiv (c * q) c = q:=by
 rw [Int.fdiv_eq_ediv_of_dvd (Int.dvd_mul_right c q),Int.mul_ediv_cancel_left _ h]
theorem BK {c q:Int} (h:c ≠ 0):q.natAbs <= (c * q).natAbs:=by
 rw [Int.natAbs_mul]
 exact Nat.le_mul_of_pos_left _ (by omega)
theorem Xz {t b c:Int} (hb:b ≠ 0) (hc:c ≠ 0) (hg:c.natAbs = Int.gcd t b) (hs:0 < c * b):Low t b (Int.fdiv t c) (Int.fdiv b c):=by
 have d1:c ∣ t:=Int.natAbs_dvd.mp (by rw [hg]; exact Int.gcd_dvd_left t b)
 have d2:c ∣ b:=Int.natAbs_dvd.mp (by rw [hg]; exact Int.gcd_dvd_right t b)
 obtain ⟨x,rfl⟩:=d1
 obtain ⟨y,rfl⟩:=d2
 rw [CW hc,CW hc]
 refine ⟨?_,?_,?_,BK hc,BK hc⟩
 .rw [<- Int.mul_assoc] at hs
  have hp:0 < c * c:=by
   rcases Int.lt_or_lt_of_ne hc with z | z
   .exact Int.mul_pos_of_neg_of_neg z z
   .exact Int.mul_pos z z
  exact Int.pos_of_mul_pos_right hs hp
 .rw [Int.gcd_mul_left] at hg
  have hp:0 < c.natAbs:=by omega
  exact Nat.eq_of_mul_eq_mul_left hp (by rw [Nat.mul_one]; exact hg.symm)
 .rw [Int.mul_left_comm,Int.mul_assoc]
noncomputable def jA:Sp:=fun vs H Q _=>∃ (t b:Int),vs = [.int t,.int b]/\b ≠ 0/\Bd b/\∀ p x y,Low t b x y->H p = none->Q (.ref p) (upd H p (.tup [.int x,.int y]))
theorem U6 {i:Int} (h:Bd i):Bd (-i):=by unfold Bd at *; rw [Int.natAbs_neg]; exact h
theorem W3 (F:Fun K jZ jZ JT f fd) (T:Txt K mg D) (dw:OkF P w K mg base 1 fY gA kO) (gJ:OkF P w K mg base 1 jH jG iz):cD P w K mg base CX0 2 f fd lE jA:=by
 refine F.ok Ay (fun vs H Q E h=>?_) (fun cdv A outer s H vs Q E hr h=>?_)
 .obtain ⟨t,b,rfl,_⟩:=h
  rfl
 .obtain ⟨t,b,rfl,hb,hbd,q⟩:=h
  refine ⟨_,(bK (cQ (PW.pt (pw_or (d_ (dD (bN dw (hr.mono (by decide)) (by rfl) (bC (pv 0) bG)) (fun _=>rfl))) (pw_or1 (d_ (dD (bN dw (hr.mono (by decide)) (by rfl) (bC (pv 1) bG)) (fun _=>rfl))))))
    (bL oF)
    cj)
   (bK (cQ (cA iI (pv 1) bF (cC _))
    (bL oF)
    cj)
   (bK (bZ (i:=2) Ay.nd rfl (Or.inl rfl) (bN gJ (hr.mono (by decide)) (by rfl) (bC (pv 0) (bC (pv 1) bG))))
   (bK (cQ (cA tG (pv 1) bF (cC _))
    (bL (bZ (i:=2) Ay.nd rfl (Or.inl rfl) (Gb yX (pv 2))))
    cj)
   (bL (cg (dO (bC (bQ j6 (pv 0) (pv 2)) (bC (bQ j6 (pv 1) (pv 2)) bG))))))))),?_⟩
  unfold kO iz
  walk_at "rd"
  have g0:=HY (a:=t) hb
  have g1:=Mv (a:=t) hb hbd
  rw [if_neg (by simpa using hb)]
  refine Yv (fun hn=>?_) fun hn=>?_
  .rw [decide_eq_true_eq] at hn
   refine ⟨by omega,U6 g1,by omega,U6 g1,dR,fun p hp=>q p _ _ (Xz hb (by omega) (by omega) ?_) hp⟩
   exact Int.mul_pos_of_neg_of_neg (by omega) hn
  .rw [decide_eq_true_eq] at hn
   refine ⟨by omega,g1,by omega,g1,dR,fun p hp=>q p _ _ (Xz hb (by omega) (by omega) ?_) hp⟩
   exact Int.mul_pos g0 (by omega)
noncomputable def mU:Sp:=fun vs H Q _=>∃ (p q:Addr) (x y u v:Int),vs = [.ref p,.ref q]/\SqT K H p [.int x,.int y]/\SqT K H q [.int u,.int v]/\Bd x/\Bd y/\Bd u/\Bd v/\Q (.bl (decide (x * v < u * y))) H
theorem Uz (F:Fun K mX mX Jl f fd):cD P w K mg base CX0 1 f fd mO (mU (K:=K)):=by
 refine F.ok Vc (fun vs H Q E h=>?_) (fun cdv A outer s H vs Q E hr h=>?_)
 .obtain ⟨p,q,x,y,u,v,rfl,_⟩:=h
  rfl
 .obtain ⟨p,q,x,y,u,v,rfl,hp,hq,bx,b_y,bu,bv,k⟩:=h
  refine ⟨_,(bL (cg (oX tG (bQ cM (bR eE (pv 0) bF (fun _ _=>rfl)) (bR eE (pv 1) bF (fun _ _=>rfl))) (bQ cM (bR eE (pv 1) bF (fun _ _=>rfl)) (bR eE (pv 0) bF (fun _ _=>rfl))) (cC _)))),?_⟩
  walk_at "rd"
  exact ⟨_,hp,_,dG,_,hq,_,cX,_,rfl,_,rfl,bx,bv,_,hq,_,dG,_,hp,_,cX,_,rfl,_,rfl,bu,b_y,k⟩
noncomputable def qx (g:Int->Int->Int):Sp:=fun vs H Q _=>∃ (p q:Addr) (x y u v:Int),vs = [.ref p,.ref q]/\SqT K H p [.int x,.int y]/\SqT K H q [.int u,.int v]/\Bd x/\Bd y/\Bd u/\Bd v/\0 < y/\0 < v/\Bd (y * v) /\
 ∀ r z o,Low (g (x * v) (u * y)) (y * v) z o->H r = none->Q (.ref r) (upd H r (.tup [.int z,.int o]))
theorem Z_ (F:Fun K uO uO MJ f fd) (gF:OkF P w K mg base 2 jZ lE jA):cD P w K mg base CX0 3 f fd uY (qx (K:=K) fun a b=>a + b):=by
 refine F.ok ZM (fun vs H Q E h=>?_) (fun cdv A outer s H vs Q E hr h=>?_)
 .obtain ⟨p,q,x,y,u,v,rfl,_⟩:=h
  rfl
 .obtain ⟨p,q,x,y,u,v,rfl,hp,hq,bx,b_y,bu,bv,y0,v0,byv,k⟩:=h
  refine ⟨_,(bL (cg (bN gF (hr.mono (by decide)) (by rfl) (bC (bQ cV (bQ cM (bR eE (pv 0) bF (fun _ _=>rfl)) (bR eE (pv 1) bF (fun _ _=>rfl))) (bQ cM (bR eE (pv 1) bF (fun _ _=>rfl)) (bR eE (pv 0) bF (fun _ _=>rfl)))) (bC (bQ cM (bR eE (pv 0) bF (fun _ _=>rfl)) (bR eE (pv 1) bF (fun _ _=>rfl))) bG))))),?_⟩
  unfold jA
  walk_at "rd"
  exact ⟨_,hp,_,dG,_,hq,_,cX,_,rfl,_,rfl,bx,bv,_,hq,_,dG,_,hp,_,cX,_,rfl,_,rfl,bu,b_y,_,hp,_,cX,_,hq,_,cX,_,rfl,_,rfl,b_y,bv,Int.ne_of_gt (Int.mul_pos y0 v0),byv,fun r z o l hr=>k r z o l hr⟩
theorem Xf (F:Fun K rM rM GX f fd) (gF:OkF P w K mg base 2 jZ lE jA):cD P w K mg base CX0 3 f fd rT (qx (K:=K) fun a b=>a - b):=by
 refine F.ok Wr (fun vs H Q E h=>?_) (fun cdv A outer s H vs Q E hr h=>?_)
 .obtain ⟨p,q,x,y,u,v,rfl,_⟩:=h
  rfl
 .obtain ⟨p,q,x,y,u,v,rfl,hp,hq,bx,b_y,bu,bv,y0,v0,byv,k⟩:=h
  refine ⟨_,(bL (cg (bN gF (hr.mono (by decide)) (by rfl) (bC (bQ zM (bQ cM (bR eE (pv 0) bF (fun _ _=>rfl)) (bR eE (pv 1) bF (fun _ _=>rfl))) (bQ cM (bR eE (pv 1) bF (fun _ _=>rfl)) (bR eE (pv 0) bF (fun _ _=>rfl)))) (bC (bQ cM (bR eE (pv 0) bF (fun _ _=>rfl)) (bR eE (pv 1) bF (fun _ _=>rfl))) bG))))),?_⟩
  unfold jA
  walk_at "rd"
  exact ⟨_,hp,_,dG,_,hq,_,cX,_,rfl,_,rfl,bx,bv,_,hq,_,dG,_,hp,_,cX,_,rfl,_,rfl,bu,b_y,_,hp,_,cX,_,hq,_,cX,_,rfl,_,rfl,b_y,bv,Int.ne_of_gt (Int.mul_pos y0 v0),byv,fun r z o l hr=>k r z o l hr⟩
noncomputable def vD (c:Nat):Bool:=decide (c ∈ (Str.ofString "abcdefghijklmnopqrstuvwxyz").cps.toList)
noncomputable def jR (l:List Nat):Bool:=decide (1 <= l.length) && decide (l.length <= 8) && l.all vD
theorem Zd (c:Nat):((!decide ([c] < [97])) && !decide ([122] < [c])) = vD c:=by
 have e:(Str.ofString "abcdefghijklmnopqrstuvwxyz").cps.toList = (List.range 26).map (97 + ·):=by decide +kernel
 have m:c ∈ (List.range 26).map (97 + ·) ↔ 97 <= c/\c <= 122:=by
  rw [List.mem_map]
  constructor
  .rintro ⟨i,h,rfl⟩
   have:=List.mem_range.mp h
   exact ⟨Nat.le_add_right ..,by omega⟩
  .exact fun h=>⟨c - 97,List.mem_range.mpr (by omega),by omega⟩
 have h1:([c] < [97]) ↔ c < 97:=by rw [List.cons_lt_cons_iff]; simp
 have h2:([122] < [c]) ↔ 122 < c:=by rw [List.cons_lt_cons_iff]; simp
 unfold vD
 rw [e,decide_eq_decide.mpr m,decide_eq_decide.mpr h1,decide_eq_decide.mpr h2]
 by_cases a:c < 97
 .rw [decide_eq_true a,decide_eq_false (p:=97 <= c/\c <= 122) (by omega)]; rfl
 .by_cases b:122 < c
  .rw [decide_eq_true b,decide_eq_false (p:=97 <= c/\c <= 122) (by omega)]; exact Bool.and_false _
  .rw [decide_eq_false a,decide_eq_false b,decide_eq_true ⟨by omega,by omega⟩]; rfl
noncomputable def rG:Sp:=fun vs H Q _=>∃ v,vs = [v]/\((∃ x:Str,v = .str x/\x.length <= 1000/\Q (.bl (jR x.cps.toList)) H)\/∃ t,tyS H v = some t/\t ≠ "str" /\ Q (.bl false) H)
theorem N_ (F:Fun K jM jM uR f fd) (T:Txt K mg D):cD P w K mg base CX0 1 f fd jL rG:=by
 refine cD.clean (sp:=fun vs H Q _=>∃ v,vs = [v]/\((∃ x:Str,v = .str x/\x.length <= 1000/\∀ H',Same H H'->Q (.bl (jR x.cps.toList)) H')\/∃ t,tyS H v = some t/\t ≠ "str" /\ ∀ H',Same H H'->Q (.bl false) H'))
  (F.ok NK (fun vs H Q E h=>?_) (fun cdv A outer s H vs Q E hr h=>?_)) fun vs H Q E ⟨v,h1,h2⟩=>⟨v,h1,h2.imp (fun ⟨x,a,b,c⟩=>⟨x,a,b,fun H' S=>⟨S,c⟩⟩) fun ⟨t,a,b,c⟩=>⟨t,a,b,fun H' S=>⟨S,c⟩⟩⟩
 .obtain ⟨v,rfl,_⟩:=h
  rfl
 .obtain ⟨v,rfl,h⟩:=h
  refine ⟨_,(bK (cQ (PW.pt (pw_or (d_ (dD (b_ lM (by rfl) T.d8 boot_isinstance (bC (pv 0) (bC (nR (v:=.ty "str") (by rfl) T.acZ boot_str rfl) bG))) (fun _=>rfl))) (pw_or1 (d_ (Lh Ks Ks bF (b_ Iw (by rfl) T.eN PySem.boot_len (bC (pv 0) bG)) (Vm (by rfl) T.DN))))))
    (bL (cg jY))
    cj)
   (bL (cg (b_ (Fz rfl) (by rfl) T.aaL boot_all (bC (jr (bM uR) zG zG ["sign"] (aaN ((pv 0)).mono) (dZ (i:=0)) dh (Mq U8 U8 jq (pv 0) jq)) bG))))),?_⟩
  rcases h with ⟨x,rfl,hx,q⟩ | ⟨t,ht,hne,q⟩
  .have hz:x.length <= sizeLine:=aM hx (by decide)
   have hl:x.cps.toList.length = x.length:=Array.length_toList
   have ea:Str.ofString "a" = ⟨#[97]⟩:=by decide +kernel
   have ez:Str.ofString "z" = ⟨#[122]⟩:=by decide +kernel
   walk_at "rd"
   refine ⟨hz,?_⟩
   by_cases h1:1 <= x.length
   .rw [if_pos (decide_eq_true (by omega))]
    by_cases h2:x.length <= 8
    .rw [if_neg (by rw [decide_eq_true (by omega)]; decide)]
     refine JW vD x (fun R h=>⟨_,rfl,h⟩) hz (fun c Hc R h=>?_) fun L hL=>⟨L,rfl,_,bH,?_⟩
     .simp only [qd,z8,R6,WQ,tOp,tUn,rU,QV,J2,YT,tSl,Df,tC,Qd,rI0,rI,ZW,Uw,Yu,pY,sV,tCB,yM,xM,Wh,tOr,W5,Ql,QW,abX,Rn,El,Zh,cN,ZJ,QT,QF,Qi,Vo,Q9,Yw,Qx,JC,Nu,wW,Io,Ke,Nq,rEq,rNe,Mt,wu,Pg,zJ,N7,Jo,Iu,Vx,Vz,aaU,aaQ,Ends.unset,Yq,aaP,JN,YS,QM,ZX,ZV,Px,UJ,Ve,aa4,tSM,O1,Hu,Dp,Vr,YH,P0,GD,Y7,Ak,GP,Qt,V9,rJoin,Xj,Xq,tB,Li,aah,Xd,Am,Qk,Qs,YJ,aaS,Xk,QG,HN,UG,O7,U7,A_,Yr,Zx,Ao,V.str.injEq,L2.start,List.replicate_succ,List.replicate_zero,Nat.reduceSub,Nat.reduceAdd,List.map_cons,List.map_nil,List.length_cons,List.length_nil,List.cons_append,List.nil_append,List.append_nil,List.getElem?_cons_zero,List.getElem?_cons_succ,List.set_cons_zero,List.set_cons_succ,List.set_nil,Option.some.injEq,exists_eq_left',exists_eq_left,exists_and_left,exists_and_right,exists_eq_right,exists_eq,exists_eq',and_assoc,V.int.injEq,V.ref.injEq,V.bl.injEq,V.ty.injEq,List.cons.injEq,HO.tup.injEq,HO.lst.injEq,and_true,true_and,reduceCtorEq,dG,cX,bH,decide_true,decide_false,Bool.not_true,Bool.not_false,if_true,if_false,ite_true,ite_false,Bool.false_eq_true,List.mem_cons,String.reduceEq,or_true,true_or,or_false,false_or,beq_self_eq_true,Bool.or_true,Bool.true_or,Bool.or_false,Bool.false_or,Bool.and_true,Bool.and_false,Bool.true_and,Bool.false_and,String.reduceBEq,Int.reduceToNat,Int.reducePow,Int.reduceMul,Int.reduceSub,Int.reduceAdd,Int.reduceNeg,Int.reduceLE,Int.reduceLT,Int.reduceEq,ne_eq,not_false_eq_true,not_true_eq_false,Int.cast_ofNat_Int,ea,ez]
      have:=Zd c
      rw [<- this] at h
      cases hd:(!decide ([c] < [97])) with
      | false=>rw [hd] at h; exact h
      | true=>rw [hd] at h; exact h
     .have ew:jR x.cps.toList = (x.cps.toList.map vD).all id:=by
       unfold jR
       rw [hl,decide_eq_true h1,decide_eq_true h2,List.all_map]; rfl
      rw [<- ew]
      exact q _ (Same.upd hL)
    .rw [if_pos (by rw [decide_eq_false (by omega)]; rfl)]
     have ew:jR x.cps.toList = false:=by
      unfold jR
      rw [hl,decide_eq_false h2,Bool.and_false]; rfl
     rw [ew] at q
     exact q _ (Same.refl _)
   .rw [if_neg (by rw [decide_eq_true_eq]; omega)]
    have ew:jR x.cps.toList = false:=by
     unfold jR
     rw [hl,decide_eq_false h1]; rfl
    rw [ew] at q
    exact q _ (Same.refl _)
  .simp only [qd,z8,R6,WQ,tOp,tUn,rU,QV,J2,YT,tSl,Df,tC,Qd,rI0,rI,ZW,Uw,Yu,pY,sV,tCB,yM,xM,Wh,tOr,W5,Ql,QW,abX,Rn,El,Zh,cN,ZJ,QT,QF,Qi,Vo,Q9,Yw,Qx,JC,Nu,wW,Io,Ke,Nq,rEq,rNe,Mt,wu,Pg,zJ,N7,Jo,Iu,Vx,Vz,aaU,aaQ,Ends.unset,Yq,aaP,JN,YS,QM,ZX,ZV,Px,UJ,Ve,aa4,tSM,O1,Hu,Dp,Vr,YH,P0,GD,Y7,Ak,GP,Qt,V9,rJoin,Xj,Xq,tB,Li,aah,Xd,Am,Qk,Qs,YJ,aaS,Xk,QG,HN,UG,O7,U7,A_,Yr,Zx,Ao,V.str.injEq,L2.start,List.replicate_succ,List.replicate_zero,Nat.reduceSub,Nat.reduceAdd,List.map_cons,List.map_nil,List.length_cons,List.length_nil,List.cons_append,List.nil_append,List.append_nil,List.getElem?_cons_zero,List.getElem?_cons_succ,List.set_cons_zero,List.set_cons_succ,List.set_nil,Option.some.injEq,exists_eq_left',exists_eq_left,exists_and_left,exists_and_right,exists_eq_right,exists_eq,exists_eq',and_assoc,V.int.injEq,V.ref.injEq,V.bl.injEq,V.ty.injEq,List.cons.injEq,HO.tup.injEq,HO.lst.injEq,and_true,true_and,reduceCtorEq,dG,cX,bH,decide_true,decide_false,Bool.not_true,Bool.not_false,if_true,if_false,ite_true,ite_false,Bool.false_eq_true,List.mem_cons,String.reduceEq,or_true,true_or,or_false,false_or,beq_self_eq_true,Bool.or_true,Bool.true_or,Bool.or_false,Bool.false_or,Bool.and_true,Bool.and_false,Bool.true_and,Bool.false_and,String.reduceBEq,Int.reduceToNat,Int.reducePow,Int.reduceMul,Int.reduceSub,Int.reduceAdd,Int.reduceNeg,Int.reduceLE,Int.reduceLT,Int.reduceEq,ne_eq,not_false_eq_true,not_true_eq_false,Int.cast_ofNat_Int,ht]
   rw [beq_eq_false_iff_ne.mpr hne]
   exact q _ (Same.refl _)
structure Fk (K:Frag) (H:Hp) (p:Addr) (x y:Int):Prop where
 at_:SqT K H p [.int x,.int y]
 pos:0 < y
 gcd:Int.gcd x y = 1
theorem Fk.same {K:Frag} {H H':Hp} {p:Addr} {x y:Int} (h:Fk K H p x y) (S:Same H H'):Fk K H' p x y:=⟨S.tup h.at_,h.pos,h.gcd⟩
noncomputable def fZ:Sp:=fun vs H Q _=>∃ p x y,vs = [.ref p]/\Fk K H p x y/\Q (.bl true) H
theorem KC (F:Fun K iy iy vK f fd) (T:Txt K mg D) (dw:OkF P w K mg base 1 fY gA kO) (gJ:OkF P w K mg base 1 jH jG iz):cD P w K mg base CX0 2 f fd iQ (fZ (K:=K)):=by
 refine F.ok uh (fun vs H Q E h=>?_) (fun cdv A outer s H vs Q E hr h=>?_)
 .obtain ⟨p,x,y,rfl,_⟩:=h
  rfl
 .obtain ⟨p,x,y,rfl,hf,q⟩:=h
  have hp:=hf.at_
  refine ⟨_,(bK (cQ (PW.pt (pw_or (d_ (dD (b_ (lM.or Mp) (by rfl) T.d8 boot_isinstance (bC (pv 0) (bC (nR (v:=.ty "tuple") (by rfl) T.QJ boot_tuple rfl) bG))) (fun _=>rfl))) (pw_or1 (cA Ra (b_ Sx (by rfl) T.eN PySem.boot_len (bC (pv 0) bG)) bF (cC _)))))
    (bL (cg jY))
    cj)
   (bK (bZ (i:=1) uh.nd rfl (Or.inl rfl) (bR eE (pv 0) bF (fun _ _=>rfl)))
   (bK (bZ (i:=2) uh.nd rfl (Or.inl rfl) (bR eE (pv 0) bF (fun _ _=>rfl)))
   (bK (cQ (PW.pt (pw_or (d_ (dD (bN dw (hr.mono (by decide)) (by rfl) (bC (pv 1) bG)) (fun _=>rfl))) (pw_or1 (d_ (dD (bN dw (hr.mono (by decide)) (by rfl) (bC (pv 2) bG)) (fun _=>rfl))))))
    (bL (cg jY))
    cj)
   (bL (cg (yR (oX Ws (pv 2) bF (cC _)) (Bu (oX iI (bN gJ (hr.mono (by decide)) (by rfl) (bC (pv 1) (bC (pv 2) bG))) bF (cC _)))))))))),?_⟩
  unfold kO iz
  walk_at "rd"
  refine .inr ⟨⟨_,hp⟩,_,hp,?_⟩
  rw [if_neg (by simp)]
  refine ⟨_,hp,_,dG,_,hp,_,cX,_,wW,?_⟩
  rw [if_neg (by decide)]
  refine ⟨_,wW,?_⟩
  rw [if_neg (by decide)]
  have hy:=hf.pos
  refine ⟨y,rfl,?_⟩
  rw [if_pos (decide_eq_true (by omega))]
  refine ⟨x,rfl,y,rfl,?_⟩
  rw [hf.gcd]
  exact q
noncomputable def gH:Sp:=fun vs H Q _=>∃ (n:Str) (p:Addr) (x y:Int),vs = [.str n,.ref p]/\n.length <= 1000/\jR n.cps.toList = true/\Fk K H p x y/\Q .non H
theorem Ey (F:Fun K gO gO qz f fd) (T:Txt K mg D) (je:OkF P w K mg base 1 jM jL rG) (gC:OkF P w K mg base 2 iy iQ (fZ (K:=K))):cD P w K mg base (CXO P w) 3 f fd gK (gH (K:=K)):=by
 refine F.okX DX (fun vs H Q E h=>?_) (fun cdv A outer s H vs Q E hr h=>?_)
 .obtain ⟨n,p,x,y,rfl,_⟩:=h
  rfl
 .obtain ⟨n,p,x,y,rfl,hn,hw,hf,q⟩:=h
  refine ⟨_,(bK (cQ (d_ (dD (bN je (hr.mono (by decide)) (by rfl) (bC (pv 0) bG)) (fun _=>rfl)))
    (bL (sE rfl (by rfl) T.Ku T.Mf t_ (bC jq bG)))
    cj)
   (bL (cQ (d_ (dD (bN gC (hr.mono (by decide)) (by rfl) (bC (pv 1) bG)) (fun _=>rfl)))
    (bL (sE rfl (by rfl) T.O2 T.Nm t_ (bC jq bG)))
    cj))),?_⟩
  unfold rG fZ
  walk_at "rd"
  rw [hw]
  exact .inl ⟨hn,⟨x,y,hf⟩,q⟩
noncomputable def jh (D:Adr):Sp:=fun vs H Q _=>∃ (s dx C:Addr) (n:Str) (p:Addr) (x y:Int),vs = [.ref s,.str n,.ref p]/\H s = some (.ins C dx [])/\Fam D C/\n.length <= 1000/\jR n.cps.toList = true/\Fk K H p x y /\
 ∀ l,upd H s (.ins C dx [("name",.str n),("pay",.ref p)]) l = none->Q .non (upd (upd H l (.lst [])) s (.ins C dx [("name",.str n),("pay",.ref p),("leads",.ref l)]))
theorem JM (F:Fun K yq wQ rC f fd) (T:Txt K mg D) (gM:OkX P w K mg base 3 gO gK (gH (K:=K))):cD P w K mg base (CXO P w) 4 f fd jf (jh (K:=K) D):=by
 refine F.okX JD (fun vs H Q E h=>?_) (fun cdv A outer s H vs Q E hr h=>?_)
 .obtain ⟨s,dx,C,n,p,x,y,rfl,_⟩:=h
  rfl
 .obtain ⟨o,dx,C,n,p,x,y,rfl,ho,hC,hn,hw,hf,q⟩:=h
  refine ⟨_,(bK (cU (fQ gM (hr.mono (by decide)) (by rfl) fP (bC (pv 1) (bC (pv 2) bG))))
   (bK (su (pv 0) (pv 1) rfl)
   (bK (su (pv 0) (pv 2) rfl)
   (bL (su (pv 0) (ji bG) rfl))))),?_⟩
  unfold gH
  walk_at "rd"
  have cl:=T.cl C hC
  refine ⟨hn,hw,⟨x,y,hf⟩,C,dx,[],ho,cl,T.Ai C hC,(by decide),C,dx,_,rfl,cl,T.Uk C hC,(by show 1 < 1000; decide),bw _,fun l hl=>?_⟩
  rw [nH] at hl ⊢
  have ne:o ≠ l:=bD bH hl
  refine ⟨C,dx,_,(bI ne).trans bH,cl,T.BZ C hC,(by show 2 < 1000; decide),?_⟩
  have e:upd (upd (upd H o (.ins C dx (lB "pay" (.ref p) (lB "name" (.str n) [])))) l (.lst [])) o (.ins C dx (lB "leads" (.ref l) (lB "pay" (.ref p) (lB "name" (.str n) [])))) = upd (upd H l (.lst [])) o (.ins C dx [("name",.str n),("pay",.ref p),("leads",.ref l)]):=by
   funext b
   by_cases h1:b = o
   .subst h1; rw [bH,bH]; rfl
   .rw [bI h1,bI h1]
    by_cases h2:b = l
    .subst h2; rw [bH,bH]
    .rw [bI h2,bI h2,bI h1]
  rw [e]
  exact q l hl
noncomputable def iZ:Sp:=fun vs H Q _=>∃ n:Str,vs = [.str n]/\n.length <= 1000/\jR n.cps.toList = true/\Q .non H
theorem vI (F:Fun K dM dM j4 f fd) (T:Txt K mg D) (je:OkF P w K mg base 1 jM jL rG):cD P w K mg base (CXO P w) 2 f fd dI iZ:=by
 refine F.okX vN (fun vs H Q E h=>?_) (fun cdv A outer s H vs Q E hr h=>?_)
 .obtain ⟨n,rfl,_⟩:=h
  rfl
 .obtain ⟨n,rfl,hn,hw,q⟩:=h
  refine ⟨_,(bL (cQ (d_ (dD (bN je (hr.mono (by decide)) (by rfl) (bC (pv 0) bG)) (fun _=>rfl)))
    (bL (sE rfl (by rfl) T.Ku T.Mf t_ (bC jq bG)))
    cj)),?_⟩
  unfold rG
  walk_at "rd"
  rw [hw]
  exact .inl ⟨hn,q⟩
structure Ck (K:Frag) (H:Hp) (p:Addr) (x y:Int):Prop where
 fk:Fk K H p x y
 lo:0 <= x
 hi:x <= y
 by_:Bd y
noncomputable def nY:Sp:=fun vs H Q _=>∃ p x y,vs = [.ref p]/\Ck K H p x y/\Q .non H
theorem Ab (F:Fun K eO eO oE f fd) (T:Txt K mg D) (gC:OkF P w K mg base 2 iy iQ (fZ (K:=K))) (gR:OkF P w K mg base 1 mX mO (mU (K:=K))):cD P w K mg base (CXO P w) 3 f fd eU (nY (K:=K)):=by
 refine F.okX z_ (fun vs H Q E h=>?_) (fun cdv A outer s H vs Q E hr h=>?_)
 .obtain ⟨p,x,y,rfl,_⟩:=h
  rfl
 .obtain ⟨p,x,y,rfl,hc,q⟩:=h
  refine ⟨_,(bL (cQ (PW.pt (pw_or (d_ (dD (bN gC (hr.mono (by decide)) (by rfl) (bC (pv 0) bG)) (fun _=>rfl))) (pw_or (dD (bN gR (hr.mono (by decide)) (by rfl) (bC (pv 0) (bC (jV (by rfl) T.wj) bG))) (fun _=>rfl)) (pw_or1 (dD (bN gR (hr.mono (by decide)) (by rfl) (bC (jV (by rfl) T.Mr) (bC (pv 0) bG))) (fun _=>rfl))))))
    (bL (sE rfl (by rfl) T.CJ T.DP t_ (bC jq bG)))
    cj)),?_⟩
  unfold fZ mU
  walk_at "rd"
  have hy:=hc.fk.pos
  have lo:=hc.lo
  have hi:=hc.hi
  have by_:=hc.by_
  have bx:Bd x:=Nat.lt_of_le_of_lt (by omega:x.natAbs <= y.natAbs) by_
  have b0:Bd 0:=Nat.two_pow_pos 8000
  have b1:Bd 1:=Nat.one_lt_two_pow (by decide)
  refine ⟨⟨x,y,hc.fk⟩,x,y,hc.fk.at_,0,1,T.uW H,bx,by_,b0,b1,?_⟩
  rw [if_neg (by simp; omega)]
  refine ⟨1,1,T.Dg H,x,y,hc.fk.at_,b1,b1,bx,by_,?_⟩
  rw [if_neg (by simp; omega)]
  exact q
noncomputable def qw (D:Adr):Sp:=fun vs H Q _=>∃ (s dx:Addr) (n m:Str) (p:Addr) (x y:Int),vs = [.ref s,.str n,.ref p,.str m]/\H s = some (.ins D.Sure dx [])/\n.length <= 1000/\jR n.cps.toList = true/\m.length <= 1000/\jR m.cps.toList = true/\Fk K H p x y /\
 ∀ t l H',H l = none->(∀ b o,b ≠ s->H b = some o->H' b = some o)->H' t = some (.tup [.str m,.ref D.ONE])->H' l = some (.lst [.ref t])->H' s = some (.ins D.Sure dx [("name",.str n),("pay",.ref p),("leads",.ref l)])->Q .non H'
theorem Jd (F:Fun K v9 yG rA f fd) (T:Txt K mg D) (jd:OkI P w K mg base (CXO P w) 4 D.Door_init jf (jh (K:=K) D)) (jN:OkX P w K mg base 2 dM dI iZ):cD P w K mg base (CXO P w) 5 f fd kW (qw (K:=K) D):=by
 refine F.okX JK (fun vs H Q E h=>?_) (fun cdv A outer s H vs Q E hr h=>?_)
 .obtain ⟨s,dx,n,m,p,x,y,rfl,_⟩:=h
  rfl
 .obtain ⟨o,dx,n,m,p,x,y,rfl,ho,hn,hw,hm,hv,hf,q⟩:=h
  refine ⟨_,(bK (cU (xG T.v8 jd (hr.mono (by decide)) (by rfl) T.VN fP (bC (pv 0) (bC (pv 1) (bC (pv 2) bG)))))
   (bK (cU (fQ jN (hr.mono (by decide)) (by rfl) fP (bC (pv 3) bG)))
   (bL (su (pv 0) (ji (bC (dO (bC (pv 3) (bC (jV (by rfl) T.Mr) bG))) bG)) rfl)))),?_⟩
  unfold jh iZ
  walk_at "rd"
  refine ⟨dx,D.Sure,ho,(by simp [Fam]),hn,hw,⟨x,y,hf⟩,fun l hl=>⟨hm,hv,(by decide),fun t ht=>⟨(by decide),fun r hq=>?_⟩⟩⟩
  have ol:o ≠ l:=bD bH hl
  have ot:o ≠ t:=bD bH ht
  have lt:l ≠ t:=bD ((bI ol.symm).trans bH) ht
  have tr:t ≠ r:=bD bH hq
  have or_:o ≠ r:=bD ((bI ot).trans bH) hq
  refine ⟨D.Sure,dx,_,(bI or_).trans ((bI ot).trans bH),T.KQ,T.uZ,(by show 3 < 1000; decide),?_⟩
  rw [bI ol.symm] at hl
  rw [bI ot.symm,bI lt.symm] at ht
  rw [bI tr.symm,bI or_.symm] at hq
  refine q t r _ ?_ (fun b u hb hu=>?_) ?_ ?_ bH
  .cases z:H r with
   | none=>rfl
   | some o' =>
    have bl:r ≠ l:=bD z hl
    rw [bI bl,z] at hq
    cases hq
  .have bl:b ≠ l:=bD hu hl
   have bt:b ≠ t:=bD hu ht
   have br:b ≠ r:=by
    intro e; subst e; rw [bI bl,hu] at hq; cases hq
   rw [bI hb,bI br,bI bt,bI hb,bI bl]; exact hu
  .rw [bI ot.symm,bI tr]; exact bH
  .rw [bI or_.symm]; exact bH
theorem Bd.sm {i:Int} (h:i.natAbs < 18446744073709551616):Bd i:=aU h (aM (by decide:18446744073709551616 <= 2 ^ 64) (Nat.pow_le_pow_right (by decide) (by decide)))
noncomputable def dY:Sp:=fun vs H Q _=>∃ (c:Int) (n:Nat),vs = [.int c,.int n]/\n <= 100/\∀ (l:Addr) (xs:List Int) H',Same H H'->H l = none->H' l = some (.lst (xs.map V.int))->xs.length = n->(∀ x ∈ xs,0 <= x/\x < 2000000000)->Q (.ref l) H'
noncomputable def jS (c:Int) (n:Nat) (p:Addr) (H:Hp) (k:Nat) (σ:L2.St) (H':Hp):Prop:=∃ (xs:List Int) (m d:Int) (v:Option V),σ = [some (.int c),some (.int n),some (.ref p),some (.int m),some (.int d),v]/\(0 <= m/\m < 1999999973)/\0 <= d/\xs.length = k/\(∀ x ∈ xs,0 <= x/\x < 2000000000)/\Same H H'/\H' p = some (.lst (xs.map V.int))
theorem Ro (F:Fun K eX eX BW f fd) (T:Txt K mg D):cD P w K mg base CX0 1 f fd eV dY:=by
 refine F.ok jU (fun vs H Q E h=>?_) (fun cdv A outer s H vs Q E hr h=>?_)
 .obtain ⟨c,n,rfl,_⟩:=h
  rfl
 .obtain ⟨c,n,rfl,hn,q⟩:=h
  refine ⟨_,(bK (bZ (i:=2) jU.nd rfl (Or.inl rfl) (ji bG))
   (bK (bZ (i:=3) jU.nd rfl (Or.inl rfl) (bQ cR (bQ Cq (bQ cV (bQ cR (pv 0) bF) bF) bF) bF))
   (bK (bZ (i:=4) jU.nd rfl (Or.inl rfl) bF)
   (bK (cQ (PW.pt (pw_or (cA tG (pv 0) bF (cC _)) (pw_or1 (cA Ws (pv 0) (bQ JR bF bF) (cC _)))))
    (bL (bZ (i:=4) jU.nd rfl (Or.inl rfl) (b_ rE (by rfl) T.Kh boot_abs (bC (pv 0) bG))))
    cj)
   (bK (jo PassesOwn.never rfl (fV (by rfl) T.kE (bC (pv 1) bG).mono) (cI (i:=5) jU.nd rfl (Or.inl rfl))
    (bK (bZ (i:=3) jU.nd rfl (Or.inl rfl) (bQ cR (bQ cV (bQ cV (bQ cM (pv 3) (bQ cV (bQ cR (pv 3) bF) bF)) (bQ cM bF (pv 5))) bF) bF))
    (bK (cU (pq (pv 2) (bC (bR bO (ji (bC (pv 3) (bC (bQ cR (pv 4) bF) bG))) (gP RJ (by rfl) T.Ut boot_int (bC (oX Q6 (pv 4) bF (cC _)) bG)) (fun _ _=>rfl)) bG)))
    (bL (bZ (i:=4) jU.nd rfl (Or.inl rfl) (bQ j6 (pv 4) bF))))))
   (bL (cg (pv 2)))))))),?_⟩
  refine Fx fun R0 hR0=>?_
  walk_at "rd"
  refine ⟨bw _,fun p hp=>⟨.inr (by constructor <;> decide),?_⟩⟩
  have m0:0 <= (c % 1999999973 + 31) * 765432101 % 1999999973/\(c % 1999999973 + 31) * 765432101 % 1999999973 < 1999999973:=⟨Int.emod_nonneg _ (by decide),Int.emod_lt_of_pos _ (by decide)⟩
  generalize (c % 1999999973 + 31) * 765432101 % 1999999973 = m at m0 ⊢
  have a0:0 <= (if c < 0 then -c else c):=by split <;> omega
  subst hR0
  refine bV fun R hR=>?_
  have loop:∀ d0:Int,0 <= d0->R { nx:=fun _ H'=>Q .non H',rt:=Q } [some (.int c),some (.int n),some (.ref p),some (.int m),some (.int d0),none] (upd H p (.lst [])):=by
   intro d0 a0
   subst hR
   have go:∀ d:Int,0 <= d->jS c n p H 0 [some (.int c),some (.int n),some (.ref p),some (.int m),some (.int d),none] (upd H p (.lst [])):=fun d hd=>⟨[],m,d,none,rfl,m0,hd,rfl,(by simp),Same.upd hp,bH⟩
   have fin:∀ (σ':L2.St) (H':Hp),jS c n p H n σ' H'->∃ v,σ'[2]? = some (some v)/\Q v H':=by
    rintro σ' H' ⟨xs,m,d,v,rfl,_,_,h1,h2,h3,h4⟩
    exact ⟨_,rfl,q p xs H' h3 hp h4 h1 h2⟩
   refine qj ?_
   walk_at "rd"
   refine ⟨n,rfl,Nat.lt_of_le_of_lt hn (by decide),jS c n p H,go _ a0,?_,fin⟩
   rintro k σ' H' hk ⟨xs,m,d,v,rfl,hm,hd,h1,h2,h3,h4⟩
   walk_at "rd"
   have b1:Bd m:=Bd.sm (by omega)
   have b2:Bd (m % 65521 + 40487):=Bd.sm (by omega)
   have b3:Bd (k:Int):=Bd.sm (by omega)
   have nx:0 <= (m * (m % 65521 + 40487) + 7 * k + 5) % 1999999973/\(m * (m % 65521 + 40487) + 7 * k + 5) % 1999999973 < 1999999973:=⟨Int.emod_nonneg _ (by decide),Int.emod_lt_of_pos _ (by decide)⟩
   generalize (m * (m % 65521 + 40487) + 7 * (k:Int) + 5) % 1999999973 = z at nx ⊢
   refine ⟨b1,b2,Bd.sm (by decide),b3,⟨_,h4⟩,(by decide),fun r hq=>.inr ?_⟩
   have pr:p ≠ r:=bD h4 hq
   have dd:0 <= d.fdiv 1000000:=by rw [Int.fdiv_eq_ediv_of_nonneg _ (by decide)]; omega
   have fin:∀ x:Int,0 <= x/\x < 2000000000->jS c n p H (k + 1) [some (.int c),some (.int n),some (.ref p),some (.int z),some (.int (d.fdiv 1000000)),some (.int k)] (upd (upd H' r (.lst [.int z,.int (d % 1000000)])) p (.lst (xs.map V.int ++ [.int x]))):=by
    intro x hx
    refine ⟨xs ++ [x],z,_,_,rfl,nx,dd,by simp [h1],?_,?_,?_⟩
    .intro y hy
     rcases List.mem_append.mp hy with hy | hy
     .exact h2 y hy
     .rw [List.mem_singleton.mp hy]; exact hx
    .intro b o hb
     have bp:b ≠ p:=bD hb hp
     have br:b ≠ r:=bD (h3 b o hb) hq
     rw [bI bp,bI br]; exact h3 b o hb
    .rw [bA]; exact bH
   by_cases h0:0 < d
   .rw [if_pos (decide_eq_true h0)]
    exact ⟨_,cX,_,(bI pr).trans h4,by rw [ak,h1]; exact aU hk (aM hn (by decide)),Bd.sm (by decide),fin _ (by omega)⟩
   .rw [if_neg (by simp; omega)]
    exact ⟨_,dG,_,(bI pr).trans h4,by rw [ak,h1]; exact aU hk (aM hn (by decide)),Bd.sm (by decide),fin _ (by omega)⟩
  clear hR
  walk_at "rd"
  refine Yv (fun _=>loop _ a0) fun _=>⟨YK (by decide) (by decide),Yv (fun _=>loop _ a0) fun _=>loop 0 (by decide)⟩
noncomputable def abj (H:Hp) (D:Adr) (s:Addr) (n:Str) (p l:Addr):Prop:=∃ C dx,Fam D C/\H s = some (.ins C dx [("name",.str n),("pay",.ref p),("leads",.ref l)])
noncomputable def nM (D:Adr):Sp:=fun vs H Q _=>∃ (s:Addr) (n:Str) (p l:Addr) (xs:List V),vs = [.ref s]/\abj H D s n p l/\H l = some (.lst xs)/\xs.length <= 100/\∀ r,H r = none->Q (.ref r) (upd H r (.lst xs))
theorem Hy (F:Fun K wN yF rB f fd) (T:Txt K mg D):cD P w K mg base CX0 1 f fd lu (nM D):=by
 refine F.ok JQ (fun vs H Q E h=>?_) (fun cdv A outer s H vs Q E hr h=>?_)
 .obtain ⟨s,n,p,l,xs,rfl,_⟩:=h
  rfl
 .obtain ⟨o,n,p,l,xs,rfl,⟨C,dx,hC,ho⟩,hl,hz,q⟩:=h
  refine ⟨_,(bL (cg (gP vM (by rfl) T.pQ boot_list (bC (qu (pv 0) rfl) bG)))),?_⟩
  walk_at "rd"
  exact ⟨C,dx,_,ho,T.cl C hC,T.BZ C hC,_,rfl,l,rfl,xs,hl,q⟩
structure Rr (H:Hp) (xs:List V) (ws:List (Str × Addr)):Prop where
 len:xs.length = ws.length
 at_:∀ (k:Nat) (g:Str × Addr),ws[k]? = some g->∃ t,xs[k]? = some (.ref t)/\H t = some (.tup [.str g.1,.ref g.2])
theorem Rr.same {H H':Hp} {xs:List V} {ws:List (Str × Addr)} (h:Rr H xs ws) (S:Same H H'):Rr H' xs ws:=⟨h.len,fun k g e=>let ⟨t,a,b⟩:=h.at_ k g e; ⟨t,a,S _ _ b⟩⟩
noncomputable def cell (ns:List Int) (k:Int):Int:=ns.getD k.toNat 0
noncomputable def vZ (K:Frag) (a:Addr) (ns:List Int):Sp:=fun vs H Q _=>∃ (k:Int),vs = [.ref a,.int k]/\SqL K H a (ns.map V.int)/\ns.length <= 63/\0 <= k/\Q (.int (cell ns k)) H
theorem Y6 (F:Fun K uV uV Mw f fd) (a:Addr) (ns:List Int):cD P w K mg base CX0 1 f fd uU (vZ K a ns):=by
 refine cD.clean (sp:=fun vs H Q _=>∃ (k:Int),vs = [.ref a,.int k]/\SqL K H a (ns.map V.int)/\ns.length <= 63/\0 <= k/\∀ H',Same H H'->Q (.int (cell ns k)) H')
  (F.ok X_ (fun vs H Q E h=>?_) (fun cdv A outer s H vs Q E hr h=>?_)) fun vs H Q E ⟨k,h1,h2,h3,h4,h5⟩=>⟨k,h1,h2,h3,h4,fun H' S=>⟨S,h5⟩⟩
 .obtain ⟨k,rfl,_⟩:=h
  rfl
 .obtain ⟨k,rfl,hs,hl,hk,q⟩:=h
  refine ⟨_,(bL (cg (bR bO (bQ Nv (iM qp (pv 0) (fL (pv 1)) (fL (bQ cV (pv 1) bF))) (ji (bC bF bG))) bF (fun _ _=>rfl)))),?_⟩
  walk_at "rd"
  refine ⟨_,hs,fun p hp=>⟨PK,fun p1 hp1=>?_⟩⟩
  have n1:p ≠ p1:=bD bH hp1
  refine ⟨_,(bI n1).trans bH,?_,fun p2 hp2=>⟨_,?_,q _ ?_⟩⟩
  .refine abS ?_
   have:=zT (ns.map V.int) (some k) (some (k + 1))
   rw [ak] at this
   omega
  .have:=ZS ns k.toNat
   rw [Int.toNat_of_nonneg hk] at this
   exact this
  .exact ((Same.upd hp).trans (Same.upd hp1)).trans (Same.upd hp2)
structure Fq (f:Int × Int):Prop where
 pos:0 < f.2
 gcd:Int.gcd f.1 f.2 = 1
 sa:f.1.natAbs <= 10 ^ 40
 sb:f.2.natAbs <= 10 ^ 40
theorem Fq.ba {f:Int × Int} (h:Fq f):Bd f.1:=Nat.lt_of_le_of_lt h.sa (by decide +kernel)
theorem Fq.bb {f:Int × Int} (h:Fq f):Bd f.2:=Nat.lt_of_le_of_lt h.sb (by decide +kernel)
noncomputable def Ls (fs:List (Int × Int)):List Nat:=fs.map fun f=>f.2.natAbs
noncomputable def lvB (fs:List (Int × Int)):Nat:=Lv.Ti (Ls fs)
noncomputable def lvT (fs:List (Int × Int)):List Int:=fs.map fun f=>f.1 * ((lvB fs:Nat) / f.2)
theorem qR {B:Nat} : ∀ (bs:List Nat) (a:Nat),0 < a->(∀ b ∈ bs,0 < b/\b <= B)->bs.foldl Nat.lcm a <= a * B ^ bs.length
  | [],a,_,_=>by simp
  | b :: bs,a,ha,hb=>by
    have h1:=hb b aO
    have h2:=qR bs (Nat.lcm a b) (Nat.lcm_pos ha h1.1) fun c hc=>hb c (aJ _ hc)
    rw [List.foldl_cons,List.length_cons,Nat.pow_succ]
    refine aM h2 ?_
    have h3:Nat.lcm a b <= a * B:=aM (Nat.le_of_dvd (Nat.mul_pos ha h1.1) (Nat.lcm_dvd_mul a b)) (Nat.mul_le_mul_left a h1.2)
    calc Nat.lcm a b * B ^ bs.length <= a * B * B ^ bs.length:=Nat.mul_le_mul_right _ h3
      _ = a * (B ^ bs.length * B):=by rw [Nat.mul_assoc,Nat.mul_comm B]
theorem VB {fs:List (Int × Int)} (h:∀ f ∈ fs,Fq f):∀ b ∈ Ls fs,0 < b:=fun b hb=>by
 obtain ⟨f,hf,rfl⟩:=List.mem_map.mp hb
 have:=(h f hf).pos
 omega
theorem uN {fs:List (Int × Int)} (h:∀ f ∈ fs,Fq f):0 < lvB fs:=Lv.Wu (VB h)
theorem UW {fs:List (Int × Int)} (h:∀ f ∈ fs,Fq f) (hz:fs.length <= 41):lvB fs <= (10 ^ 40) ^ 41:=by
 have h1:=qR (B:=10 ^ 40) (Ls fs) 1 (by decide) fun b hb=>by
  obtain ⟨f,hf,rfl⟩:=List.mem_map.mp hb
  have:=(h f hf).pos
  exact ⟨by omega,(h f hf).sb⟩
 rw [Nat.one_mul] at h1
 refine aM h1 (Nat.pow_le_pow_right (by decide) ?_)
 unfold Ls
 rw [ak]
 exact hz
theorem N6 {fs:List (Int × Int)} (h:∀ f ∈ fs,Fq f) (hz:fs.length <= 41):Bd (lvB fs:Nat):=by
 unfold Bd
 rw [Int.natAbs_natCast]
 exact Nat.lt_of_le_of_lt (UW h hz) (by decide +kernel)
theorem Kf {fs:List (Int × Int)} (h:∀ f ∈ fs,Fq f) (k:Nat):∀ f ∈ fs.take k,Fq f:=fun f hf=>h f (List.mem_of_mem_take hf)
theorem cH {α:Type} {l:List α} {k:Nat} {x:α} (h:l[k]? = some x):l.take (k + 1) = l.take k ++ [x]:=by
 rw [List.take_succ,h]; rfl
theorem Vf {fs:List (Int × Int)} {k:Nat} {f:Int × Int} (h:fs[k]? = some f):lvB (fs.take (k + 1)) = Nat.lcm (lvB (fs.take k)) f.2.natAbs:=by
 unfold lvB Lv.Ti Ls
 rw [cH h,bA,List.foldl_append]; rfl
theorem aaq {n:Nat} {b:Int} (hb:0 < b) (hn:0 < n):Int.fdiv (n:Int) (Int.gcd (n:Int) b:Nat) * b = (Nat.lcm n b.natAbs:Nat):=by
 obtain ⟨m,rfl⟩ : ∃ m:Nat,b = m:=⟨b.toNat,by omega⟩
 have hg:0 < Nat.gcd n m:=Nat.gcd_pos_of_pos_left m hn
 rw [show Int.gcd (n:Int) (m:Int) = Nat.gcd n m from rfl,Int.natAbs_natCast,oO _ (by omega),<- Int.natCast_ediv,<- Int.natCast_mul]
 congr 1
 unfold Nat.lcm
 exact Nat.div_mul_right_comm (Nat.gcd_dvd_left n m) m
theorem Ie {fs:List (Int × Int)} {f:Int × Int} (hf:f ∈ fs) (hq:Fq f):f.2 ∣ (lvB fs:Nat):=by
 have h1:f.2.natAbs ∣ lvB fs:=Lv.W_ (List.mem_map.mpr ⟨f,hf,rfl⟩)
 have:=Int.natCast_dvd_natCast.mpr h1
 rwa [Int.natAbs_of_nonneg (Int.le_of_lt hq.pos)] at this
inductive FLK (K:Frag) (H:Hp):List V->List (Int × Int)->Prop
 | nil:FLK K H [] []
 | cons {p:Addr} {f:Int × Int} {xs:List V} {fs:List (Int × Int)} : SqT K H p [.int f.1,.int f.2]->FLK K H xs fs->FLK K H (.ref p :: xs) (f :: fs)
theorem Oc {H:Hp} : ∀ {xs:List V} {fs:List (Int × Int)},FL H xs fs->FLK K H xs fs
 | _,_,.nil=>.nil
 | _,_,.cons e t=>.cons (.of e) (Oc t)
theorem FLK.imp {H H':Hp} (h:∀ p a b,SqT K H p [.int a,.int b]->SqT K H' p [.int a,.int b]):∀ {xs:List V} {fs:List (Int × Int)},FLK K H xs fs->FLK K H' xs fs
 | _,_,.nil=>.nil
 | _,_,.cons e t=>.cons (h _ _ _ e) (FLK.imp h t)
theorem FLK.same {H H':Hp} (S:Same H H') {xs:List V} {fs:List (Int × Int)} (h:FLK K H xs fs):FLK K H' xs fs:=h.imp fun _ _ _ e=>S.tup e
theorem FLK.length {H:Hp} : ∀ {xs:List V} {fs:List (Int × Int)},FLK K H xs fs->xs.length = fs.length
 | _,_,.nil=>rfl
 | _,_,.cons _ t=>by rw [List.length_cons,List.length_cons,FLK.length t]
theorem FLK.get {H:Hp} : ∀ {xs:List V} {fs:List (Int × Int)} {k:Nat} {x:V},FLK K H xs fs->xs[k]? = some x->∃ p f,x = .ref p/\fs[k]? = some f/\SqT K H p [.int f.1,.int f.2]
 | _,_,_,_,.nil,h=>by simp at h
 | _,_,0,_,.cons (p:=p) (f:=f) e t,h=>by
  simp at h
  exact ⟨p,f,h.symm,rfl,e⟩
 | _,_,k + 1,_,.cons e t,h=>by
  obtain ⟨p,f,h1,h2,h3⟩:=FLK.get (k:=k) t (by simpa using h)
  exact ⟨p,f,h1,by simpa using h2,h3⟩
theorem FLK.append {H:Hp} : ∀ {xs ys:List V} {fs gs:List (Int × Int)},FLK K H xs fs->FLK K H ys gs->FLK K H (xs ++ ys) (fs ++ gs)
 | _,_,_,_,.nil,h=>h
 | _,_,_,_,.cons e t,h=>.cons e (FLK.append t h)
noncomputable def qe (K:Frag):Sp:=fun vs H Q _=>∃ (l:Addr) (xs:List V) (fs:List (Int × Int)),vs = [.ref l]/\H l = some (.lst xs)/\FLK K H xs fs/\(∀ f ∈ fs,Fq f)/\fs.length <= 41 /\
 ∀ D p,H D = none->upd H D (.lst ((lvT fs).map V.int)) p = none->Q (.ref p) (upd (upd H D (.lst ((lvT fs).map V.int))) p (.tup [.ref D,.int (lvB fs:Nat)]))
noncomputable def lJ (l:Addr) (fs:List (Int × Int)) (H1:Hp) (k:Nat) (σ:L2.St) (H:Hp):Prop:=∃ z,σ = [some (.ref l),some (.int (lvB (fs.take k):Nat)),z]/\H = H1
noncomputable def lK (fs:List (Int × Int)) (D:Addr) (H1:Hp) (k:Nat) (ys:List V) (H:Hp):Prop:=ys = ((lvT fs).take k).map V.int/\H = upd H1 D (.lst ys)
theorem Ga (F:Fun K mL mL Aq f fd) (gJ:OkF P w K mg base 1 jH jG iz):cD P w K mg base CX0 2 f fd mR (qe K):=by
 refine F.ok yI (fun vs H Q E h=>?_) (fun cdv A outer s H vs Q E hr h=>?_)
 .obtain ⟨l,xs,fs,rfl,_⟩:=h
  rfl
 .obtain ⟨l,xs,fs,rfl,hl,hf,hq,hz,q⟩:=h
  refine ⟨_,(bK (bZ (i:=1) yI.nd rfl (Or.inr rfl) bF)
   (bK (jo PassesOwn.never rfl (dj ((pv 0)).mono) (cI (i:=2) yI.nd rfl (Or.inl rfl))
    (bL (bZ (i:=1) yI.nd rfl (Or.inr rfl) (bQ cM (bQ j6 (pv 1) (bN gJ (hr.mono (by decide)) (by rfl) (bC (pv 1) (bC (bR (show IxR _ (Li K) from eE) (pv 2) bF (fun _ _=>rfl)) bG)))) (bR (show IxR _ (Li K) from eE) (pv 2) bF (fun _ _=>rfl))))))
   (bL (cg (dO (bC (jr (bM Aq) Pq ["fractions", "bottom", "?one"] ["one"] (dj ((pv 0)).mono) (dZ (i:=0)) dh (bQ cM (bR (show IxR _ (Li K) from eE) (pv 0) bF (fun _ _=>rfl)) (bQ j6 (pv 2) (bR (show IxR _ (Li K) from eE) (pv 0) bF (fun _ _=>rfl))))) (bC (pv 1) bG))))))),?_⟩
  unfold iz
  walk_at "rd"
  have hx:xs.length <= 41:=by rw [hf.length]; exact hz
  refine iD ⟨_,rfl,l,xs,rfl,hl,lJ l fs H,⟨none,rfl,rfl⟩,?_,?_⟩
  .rintro k x σ' H' hk ⟨z,rfl,rfl⟩ _
   obtain ⟨p,g,rfl,hg,hp⟩:=hf.get hk
   have hm:=aC hg
   have b0:=uN (Kf hq k)
   have b1:=N6 (Kf hq k) (by rw [bh]; omega)
   have g0:=HY (a:=((lvB (fs.take k):Nat):Int)) (b:=g.2) (Int.ne_of_gt (hq g hm).pos)
   have g1:=Mv (a:=((lvB (fs.take k):Nat):Int)) (b:=g.2) (Int.ne_of_gt (hq g hm).pos) (hq g hm).bb
   walk_at "rd"
   refine ⟨_,hp,_,cX,_,rfl,by omega,g1,_,hp,_,cX,_,rfl,?_,(hq g hm).bb,hl,some (.ref p),?_,rfl⟩
   .rw [oO _ g0]
    exact b1.div g0
   .rw [aaq (hq g hm).pos b0,<- Vf hg]
  .rintro σ' H' ⟨z,rfl,rfl⟩ _
   walk_at "rd"
   have e0:fs.take xs.length = fs:=by rw [hf.length]; exact aP
   rw [e0]
   refine c7 ⟨_,rfl,l,xs,rfl,hl,aM hx (by decide),fun D hD=>⟨lK fs D H',⟨rfl,rfl⟩,?_,?_⟩⟩
   .rintro k x ys Hc hk ⟨rfl,rfl⟩ _ ha
    obtain ⟨p,g,rfl,hg,hp⟩:=hf.get hk
    have hm:=aC hg
    have hpD:SqT K (upd H' D (.lst (((lvT fs).take k).map V.int))) p [.int g.1,.int g.2]:=(Same.upd hD).tup hp
    walk_at "rd"
    refine ⟨_,hpD,_,dG,_,hpD,_,cX,_,rfl,Int.ne_of_gt (hq g hm).pos,(hq g hm).bb,_,rfl,(hq g hm).ba,?_,ha,?_,nH⟩
    .rw [oO _ (hq g hm).pos]
     exact (N6 hq hz).div (hq g hm).pos
    .rw [oO _ (hq g hm).pos]
     have e1:(lvT fs)[k]? = some (g.1 * ((lvB fs:Nat) / g.2)):=by
      unfold lvT
      rw [au,hg]; rfl
     rw [cH e1,bA]; rfl
   .rintro ys Hc ⟨rfl,rfl⟩ _
    have e2:(lvT fs).take xs.length = lvT fs:=by
     refine aL ?_
     unfold lvT
     rw [ak,hf.length]
     exact aG _
    rw [e2]
    exact ⟨dR,fun p hp=>q D p hD hp⟩
noncomputable def yH:Sp:=fun vs H Q _=>∃ (l:Addr) (xs:List V) (fs:List (Int × Int)),vs = [.ref l]/\H l = some (.lst xs)/\FL H xs fs/\(∀ f ∈ fs,Fq f)/\fs.length <= 41 /\
 ∀ D p,H D = none->upd H D (.lst ((lvT fs).map V.int)) p = none->Q (.ref p) (upd (upd H D (.lst ((lvT fs).map V.int))) p (.tup [.ref D,.int (lvB fs:Nat)]))
theorem Um {vs:List V} {H:Hp} {Q:VK} {E:XK} (h:yH vs H Q E):qe K vs H Q E:=let ⟨l,xs,fs,a,b,c,d⟩:=h; ⟨l,xs,fs,a,b,Oc c,d⟩
noncomputable def yr:Sp:=fun vs H Q _=>∃ (l:Addr) (xs:List V) (fs:List (Int × Int)),vs = [.ref l]/\H l = some (.lst xs)/\FL H xs fs/\(∀ f ∈ fs,Fq f)/\fs.length <= 41 /\
 ∀ p x y,Low (lvT fs).sum (lvB fs:Nat) x y->H p = none->Q (.ref p) (upd H p (.tup [.int x,.int y]))
theorem Wc (F:Fun K rZ rZ Ih f fd) (T:Txt K mg D) (qF:OkF P w K mg base 2 mL mR yH) (gF:OkF P w K mg base 2 jZ lE jA):cD P w K mg base CX0 3 f fd tH yr:=by
 refine cD.cleanP (sp:=fun vs H Q _=>∃ (l:Addr) (xs:List V) (fs:List (Int × Int)),vs = [.ref l]/\H l = some (.lst xs)/\FL H xs fs/\(∀ f ∈ fs,Fq f)/\fs.length <= 41 /\
   ∀ p x y H',Low (lvT fs).sum (lvB fs:Nat) x y->Same H H'->H p = none->H' p = some (.tup [.int x,.int y])->Q (.ref p) H')
  (F.ok Ka (fun vs H Q E h=>?_) (fun cdv A outer s H vs Q E hr h=>?_)) fun vs H Q E ⟨l,xs,fs,h1,h2,h3,h4,h5,h6⟩=>⟨l,xs,fs,h1,h2,h3,h4,h5,fun p x y H' l S e1 e2=>⟨S,p,_,e2,e1,h6 p x y l e1⟩⟩
 .obtain ⟨l,xs,fs,rfl,_⟩:=h
  rfl
 .obtain ⟨l,xs,fs,rfl,hl,hf,hq,hz,q⟩:=h
  refine ⟨_,(bK (bZ (i:=1) Ka.nd rfl (Or.inl rfl) (bN qF (hr.mono (by decide)) (by rfl) (bC (pv 0) bG)))
   (bL (cg (bN gF (hr.mono (by decide)) (by rfl) (bC (b_ (yN rfl) (by rfl) T.Ur boot_sum (bC (bR cG (pv 1) bF (fun _ _=>rfl)) bG)) (bC (bR cG (pv 1) bF (fun _ _=>rfl)) bG)))))),?_⟩
  unfold yH jA
  walk_at "rd"
  refine ⟨xs,hl,fs,hf,hq,hz,fun D p hD hp=>⟨lvT fs,(bI (bD bH hp)).trans bH,?_,N6 hq hz,fun p1 x y lw hp1=>?_⟩⟩
  .have:=uN hq
   omega
  .have S:=(Same.upd hD (o:=.lst ((lvT fs).map V.int))).trans (Same.upd hp (o:=.tup [.ref D,.int (lvB fs:Nat)]))
   exact q p1 x y _ lw (S.trans (Same.upd hp1)) (S.free hp1) bH
structure Pairs (H:Hp) (xs:List V) (ps:List (Str × Int × Int)):Prop where
 len:xs.length = ps.length
 at_:∀ (k:Nat) (g:Str × Int × Int),ps[k]? = some g->∃ t c:Addr,xs[k]? = some (.ref t)/\H t = some (.tup [.str g.1,.ref c])/\H c = some (.tup [.int g.2.1,.int g.2.2])
structure V6 (g:Str × Int × Int):Prop where
 len:g.1.length <= 1000
 wd:jR g.1.cps.toList = true
 pos:0 < g.2.2
 gcd:Int.gcd g.2.1 g.2.2 = 1
 lo:0 <= g.2.1
 hi:g.2.1 <= g.2.2
 fq:Fq g.2
noncomputable def k_:Sp:=fun vs H Q _=>∃ (l:Addr) (xs:List V) (ps:List (Str × Int × Int)),vs = [.ref l]/\H l = some (.lst xs)/\Pairs H xs ps/\(∀ g ∈ ps,V6 g)/\ps.length <= 41/\(∀ x y,Low (lvT (ps.map (·.2))).sum (lvB (ps.map (·.2)):Nat) x y->x = 1/\y = 1)/\∀ H',Same H H'->Q .non H'
noncomputable def jP (l:Addr) (H:Hp) (_:Nat) (σ:L2.St) (H':Hp):Prop:=∃ u v,σ = [some (.ref l),u,v]/\H' = H
noncomputable def jQ (D1:Addr) (ps:List (Str × Int × Int)) (H:Hp) (k:Nat) (ys:List V) (Hc:Hp):Prop:=FL H ys ((ps.map (·.2)).take k)/\Hc = upd H D1 (.lst ys)
theorem BR (F:Fun K iK iK mG f fd) (T:Txt K mg D) (jN:OkX P w K mg base 2 dM dI iZ) (mZ:OkX P w K mg base 3 eO eU (nY (K:=K))) (Vq:OkX P w K mg base 3 rZ tH yr):cD P w K mg base (CXO P w) 4 f fd iH k_:=by
 refine F.okX oG (fun vs H Q E h=>?_) (fun cdv A outer s H vs Q E hr h=>?_)
 .obtain ⟨l,xs,ps,rfl,_⟩:=h
  rfl
 .obtain ⟨l,xs,ps,rfl,hl,hp,hg,hz,h1,q⟩:=h
  refine ⟨_,(bK (jo PassesOwn.leaving rfl (dj ((pv 0)).mono) (eY (n:=2) rfl (cu (cI (i:=1) oG.nd rfl (Or.inl rfl)) (cu (cI (i:=2) oG.nd rfl (Or.inl rfl)) eG)))
    (bK (cU (fQ jN (hr.mono (by decide)) (by rfl) fP (bC (pv 1) bG)))
    (bL (cU (fQ mZ (hr.mono (by decide)) (by rfl) fP (bC (pv 2) bG))))))
   (bL (cQ (cA (QZ (K:=K) rfl hr.units) (fQ Vq (hr.mono (by decide)) (by rfl) fP (bC (jr (bM mG) pJ pJ ["pair"] (dj ((pv 0)).mono) (dZ (i:=0)) dh (bR cG (pv 0) bF (fun _ _=>rfl))) bG)) (jV (by rfl) T.Mr) (cC _))
    (bL (sE rfl (by rfl) T.CJ T.DP t_ (bC jq bG)))
    cj))),?_⟩
  unfold iZ nY yr
  walk_at "rd"
  refine iD ?_
  walk_at "rd"
  refine ⟨xs,hl,jP l H,⟨none,none,rfl,rfl⟩,?_,?_⟩
  .rintro k x σ' H' hk ⟨u,v,rfl,rfl⟩ _
   have lk:k < ps.length:=by rw [<- hp.len]; exact (ao.mp hk).1
   have e:ps[k]? = some ps[k]:=aj lk
   have ok:=hg _ (aV lk)
   obtain ⟨t,c,a,b,d⟩:=hp.at_ k _ e
   rw [hk] at a
   cases a
   exact ⟨t,rfl,_,b,rfl,_,_,rfl,_,_,rfl,rfl,_,rfl,_,rfl,ok.len,ok.wd,_,rfl,c,rfl,⟨_,_,⟨.of d,ok.pos,ok.gcd⟩,ok.lo,ok.hi,ok.fq.bb⟩,hl,_,_,rfl,rfl⟩
  .rintro σ' H' ⟨u,v,rfl,rfl⟩ _
   refine c7 ?_
   walk_at "rd"
   refine ⟨xs,hl,by rw [hp.len]; exact aM hz (by decide),fun D1 hD=>⟨jQ D1 ps H',⟨.nil,rfl⟩,?_,?_⟩⟩
   .rintro k x ys Hc hk ⟨hf,rfl⟩ hy _
    have lk:k < ps.length:=by rw [<- hp.len]; exact (ao.mp hk).1
    have e:ps[k]? = some ps[k]:=aj lk
    obtain ⟨t,c,a,b,d⟩:=hp.at_ k _ e
    rw [hk] at a
    cases a
    walk_at "rd"
    refine ⟨_,(bI (bD b hD)).trans b,_,cX,(bI (bD hl hD)).trans hl,?_,nH⟩
    rw [List.take_succ,au,e]
    exact hf.append (.one d)
   .rintro ys Hc ⟨hf,rfl⟩ hy
    have hk:(ps.map (·.2)).take xs.length = ps.map (·.2):=by rw [hp.len,<- ak (f:=fun g:Str × Int × Int=>g.2),aP]
    rw [hk] at hf
    refine ⟨ys,bH,_,hf.same (Same.upd hD),?_,by rw [ak]; exact hz,fun p x y lo hn=>?_⟩
    .intro g hm
     obtain ⟨g',hm',rfl⟩:=List.mem_map.mp hm
     exact (hg g' hm').fq
    .obtain ⟨rfl,rfl⟩:=h1 x y lo
     refine ⟨_,.tup (.of bH) (cW.ints K _ [1,1]),_,.tup (T.Dg _) (cW.ints K _ [1,1]),rfl,rfl,?_⟩
     rw [if_neg (by decide)]
     exact q _ ((Same.upd hD).trans (Same.upd hn))
inductive DA (H:Hp) (S:Int):List (Key × V)->List (Str × Int)->Prop
 | nil:DA H S [] []
 | cons {n:Str} {W:Int} {c:Addr} {kvs:List (Key × V)} {acc:List (Str × Int)} (h:H c = some (.tup [.int (Ac.lw W S).1,.int (Ac.lw W S).2])) (t:DA H S kvs acc):DA H S ((.inr n,.ref c) :: kvs) ((n,W) :: acc)
theorem DA.imp {H H':Hp} {S:Int} (h:∀ c x y,H c = some (.tup [.int x,.int y])->H' c = some (.tup [.int x,.int y])):∀ {kvs:List (Key × V)} {acc:List (Str × Int)},DA H S kvs acc->DA H' S kvs acc
 | _,_,.nil=>.nil
 | _,_,.cons a t=>.cons (h _ _ _ a) (t.imp h)
theorem DA.len {H:Hp} {S:Int} : ∀ {kvs:List (Key × V)} {acc:List (Str × Int)},DA H S kvs acc->kvs.length = acc.length
 | _,_,.nil=>rfl
 | _,_,.cons _ t=>congrArg (· + 1) t.len
theorem DA.keys {H:Hp} {S:Int} : ∀ {kvs:List (Key × V)} {acc:List (Str × Int)},DA H S kvs acc->kvs.map (·.1) = (acc.map (·.1)).map Sum.inr
 | _,_,.nil=>rfl
 | _,_,.cons _ t=>by rw [List.map_cons,List.map_cons,List.map_cons,t.keys]
theorem DA.val {H:Hp} {S:Int} (r:Str):∀ {kvs:List (Key × V)} {acc:List (Str × Int)},DA H S kvs acc->(oV kvs (.inr r) = none/\Ac.look acc r = 0)\/∃ c,oV kvs (.inr r) = some (.ref c)/\H c = some (.tup [.int (Ac.lw (Ac.look acc r) S).1,.int (Ac.lw (Ac.look acc r) S).2])
 | _,_,.nil=>.inl ⟨rfl,rfl⟩
 | _,_,.cons (n:=n) (W:=W) (c:=c) (kvs:=kvs) (acc:=acc) h t=>by
  by_cases e:n = r
  .subst e
   refine .inr ⟨c,CG rfl,?_⟩
   have:Ac.look ((n,W) :: acc) n = W:=by simp [Ac.look]
   rw [this]; exact h
  .have e1:oV ((Sum.inr n,V.ref c) :: kvs) (Sum.inr r:Key) = oV kvs (.inr r):=Az fun z=>e (Sum.inr.inj z)
   have e2:Ac.look ((n,W) :: acc) r = Ac.look acc r:=by simp [Ac.look,List.find?_cons,e]
   rw [e1,e2]
   exact t.val r
theorem DA.any {H:Hp} {S:Int} (r:Str):∀ {kvs:List (Key × V)} {acc:List (Str × Int)},DA H S kvs acc->(kvs.any fun kv=>decide (kv.1 = (.inr r:Key))) = acc.any fun g=>decide (g.1 = r)
 | _,_,.nil=>rfl
 | _,_,.cons (n:=n) _ t=>by
  rw [List.any_cons,List.any_cons,t.any r]
  congr 1
  by_cases e:n = r
  .subst e; rw [decide_eq_true rfl,decide_eq_true rfl]
  .rw [decide_eq_false e,decide_eq_false fun z=>e (Sum.inr.inj z)]
theorem DA.sets {H:Hp} {S y:Int} {c:Addr} {r:Str} (hc:H c = some (.tup [.int (Ac.lw y S).1,.int (Ac.lw y S).2])):∀ {kvs:List (Key × V)} {acc:List (Str × Int)},DA H S kvs acc->DA H S (kvs.map fun kv=>if kv.1 = (.inr r:Key) then (kv.1,.ref c) else kv) (acc.map fun g=>if g.1 = r then (g.1,y) else g)
 | _,_,.nil=>.nil
 | _,_,.cons (n:=n) (W:=W) (c:=c') h t=>by
  rw [List.map_cons,List.map_cons]
  by_cases e:n = r
  .subst e
   rw [if_pos rfl,if_pos rfl]
   exact .cons hc (t.sets hc)
  .rw [if_neg e,if_neg fun z=>e (Sum.inr.inj z)]
   exact .cons h (t.sets hc)
theorem DA.snoc {H:Hp} {S y:Int} {c:Addr} {r:Str} (hc:H c = some (.tup [.int (Ac.lw y S).1,.int (Ac.lw y S).2])):∀ {kvs:List (Key × V)} {acc:List (Str × Int)},DA H S kvs acc->DA H S (kvs ++ [(.inr r,.ref c)]) (acc ++ [(r,y)])
 | _,_,.nil=>.cons hc .nil
 | _,_,.cons h t=>.cons h (t.snoc hc)
theorem DA.put {H:Hp} {S y:Int} {c:Addr} {r:Str} {kvs:List (Key × V)} {acc:List (Str × Int)} (hc:H c = some (.tup [.int (Ac.lw y S).1,.int (Ac.lw y S).2])) (h:DA H S kvs acc):DA H S (putK kvs (.inr r) (.ref c)) (Ac.put acc r y):=by
 unfold putK Ac.put
 rw [h.any r]
 split
 .exact h.sets hc
 .exact h.snoc hc
theorem DA.get {H:Hp} {S:Int} : ∀ {kvs:List (Key × V)} {acc:List (Str × Int)} {i:Nat} {k:Key} {v:V},DA H S kvs acc->kvs[i]? = some (k,v)->∃ n W c,acc[i]? = some (n,W)/\k = .inr n/\v = .ref c/\H c = some (.tup [.int (Ac.lw W S).1,.int (Ac.lw W S).2])
 | _,_,_,_,_,.nil,e=>by simp at e
 | _,_,0,_,_,.cons h _,e=>by
  rw [List.getElem?_cons_zero] at e
  cases e
  exact ⟨_,_,_,rfl,rfl,rfl,h⟩
 | _,_,i + 1,_,_,.cons _ t,e=>t.get (by rw [List.getElem?_cons_succ] at e; exact e)
theorem P_:∀ {kvs:List (Key × V)} {i:Nat} {k:Key} {v:V},(kvs.map (·.1)).Nodup->kvs[i]? = some (k,v)->oV kvs k = some v
 | [],_,_,_,_,e=>by simp at e
 | p :: kvs,0,k,v,_,e=>by
  rw [List.getElem?_cons_zero] at e
  cases e
  exact CG rfl
 | p :: kvs,i + 1,k,v,hn,e=>by
  rw [List.getElem?_cons_succ] at e
  rw [List.map_cons,List.nodup_cons] at hn
  rw [Az fun z=>hn.1 (by rw [z]; exact List.mem_map.mpr ⟨(k,v),aC e,rfl⟩)]
  exact P_ hn.2 e
inductive WF (K:Frag) (H:Hp):List V->List (Str × Int × Int)->List (Str × Addr)->Prop
 | nil:WF K H [] [] []
 | cons {t c:Addr} {n:Str} {x y:Int} {xs:List V} {gs:List (Str × Int × Int)} {ws:List (Str × Addr)} (h1:H t = some (.tup [.str n,.ref c])) (h2:SqT K H c [.int x,.int y]) (r:WF K H xs gs ws):WF K H (.ref t :: xs) ((n,x,y) :: gs) ((n,c) :: ws)
theorem WF.imp {H H':Hp} (h:∀ t ys,H t = some (.tup ys)->H' t = some (.tup ys)) (h':∀ c xs,SqT K H c xs->SqT K H' c xs):∀ {xs:List V} {gs:List (Str × Int × Int)} {ws:List (Str × Addr)},WF K H xs gs ws->WF K H' xs gs ws
 | _,_,_,.nil=>.nil
 | _,_,_,.cons a b r=>.cons (h _ _ a) (h' _ _ b) (r.imp h h')
theorem WF.same {H H':Hp} (S:Same H H') {xs:List V} {gs:List (Str × Int × Int)} {ws:List (Str × Addr)} (h:WF K H xs gs ws):WF K H' xs gs ws:=h.imp (fun t ys e=>S _ _ e) fun c xs e=>S.tup e
theorem WF.updL {H:Hp} {l:Addr} {ys zs:List V} (hl:H l = some (.lst ys)) {xs:List V} {gs:List (Str × Int × Int)} {ws:List (Str × Addr)} (h:WF K H xs gs ws):WF K (upd H l (.lst zs)) xs gs ws :=
 h.imp (fun t us e=>(bI (fB e hl (by intro z; cases z))).trans e) fun c xs e=>e.updO hl (by intro ys z; cases z) (by intro ob ys z; cases z)
theorem WF.len {H:Hp} : ∀ {xs:List V} {gs:List (Str × Int × Int)} {ws:List (Str × Addr)},WF K H xs gs ws->xs.length = gs.length
 | _,_,_,.nil=>rfl
 | _,_,_,.cons _ _ r=>congrArg (· + 1) r.len
theorem WF.snoc {H:Hp} {t c:Addr} {n:Str} {x y:Int} (h1:H t = some (.tup [.str n,.ref c])) (h2:SqT K H c [.int x,.int y]):∀ {xs:List V} {gs:List (Str × Int × Int)} {ws:List (Str × Addr)},WF K H xs gs ws->WF K H (xs ++ [.ref t]) (gs ++ [(n,x,y)]) (ws ++ [(n,c)])
 | _,_,_,.nil=>.cons h1 h2 .nil
 | _,_,_,.cons a b r=>.cons a b (r.snoc h1 h2)
theorem WF.ways {H:Hp} : ∀ {xs:List V} {gs:List (Str × Int × Int)} {ws:List (Str × Addr)},WF K H xs gs ws->Rr H xs ws
 | _,_,_,.nil=>⟨rfl,fun k g e=>by simp at e⟩
 | _,_,_,.cons a b r=>⟨congrArg (· + 1) r.ways.len,fun k g e=>by
  cases k with
  | zero =>
   rw [List.getElem?_cons_zero] at e
   cases e
   exact ⟨_,rfl,a⟩
  | succ k =>
   rw [List.getElem?_cons_succ] at e ⊢
   exact r.ways.at_ k g e⟩
noncomputable def Qy (S:Int) (acc:List (Str × Int)):List (Str × Int × Int):=(acc.filter fun g=>decide (0 < g.2)).map fun g=>(g.1,Ac.lw g.2 S)
theorem CZ {S:Int} {acc:List (Str × Int)} {i:Nat} {n:Str} {W:Int} (h:acc[i]? = some (n,W)):Qy S (acc.take (i + 1)) = Qy S (acc.take i) ++ if 0 < W then [(n,Ac.lw W S)] else []:=by
 unfold Qy
 rw [List.take_succ,h,List.filter_append,bA]
 congr 1
 show List.map _ (List.filter _ [(n,W)]) = _
 by_cases e:0 < W
 .rw [if_pos e,List.filter_cons,if_pos (decide_eq_true e)]; rfl
 .rw [if_neg e,List.filter_cons,if_neg (by simpa using e)]; rfl
structure PW (H:Hp) (xs:List V) (gs:List (Str × Int)) (S:Int):Prop where
 len:xs.length = gs.length
 at_:∀ (k:Nat) (g:Str × Int),gs[k]? = some g->∃ t c:Addr,xs[k]? = some (.ref t)/\H t = some (.tup [.str g.1,.ref c])/\H c = some (.tup [.int (Ac.lw g.2 S).1,.int (Ac.lw g.2 S).2])
theorem PW.imp {H H':Hp} (h':∀ t ys,H t = some (.tup ys)->H' t = some (.tup ys)) {xs:List V} {gs:List (Str × Int)} {S:Int} (h:PW H xs gs S):PW H' xs gs S:=⟨h.len,fun k g e=>let ⟨t,c,a,b,d⟩:=h.at_ k g e; ⟨t,c,a,h' _ _ b,h' _ _ d⟩⟩
theorem PW.same {H H':Hp} {xs:List V} {gs:List (Str × Int)} {S:Int} (h:PW H xs gs S) (T:Same H H'):PW H' xs gs S:=h.imp fun _ _ e=>T _ _ e
theorem PW.pairs {H:Hp} {xs:List V} {gs:List (Str × Int)} {S:Int} (h:PW H xs gs S):Pairs H xs (gs.map fun g=>(g.1,Ac.lw g.2 S)):=⟨by rw [h.len,ak],fun k g e=>by
 rw [au] at e
 cases e0:gs[k]? with
 | none=>rw [e0] at e; cases e
 | some g0 =>
  rw [e0] at e
  cases e
  exact h.at_ k g0 e0⟩
structure Wt (gs:List (Str × Int)) (S:Int):Prop where
 pos:0 < S
 le:S <= 10 ^ 20
 len:gs.length <= 8
 wd:∀ g ∈ gs,g.1.length <= 1000/\jR g.1.cps.toList = true
 lo:∀ g ∈ gs,0 <= g.2
 sum:(gs.map (·.2)).sum = S
theorem RV {i:Int} (h:i.natAbs <= 10 ^ 20):Bd i:=Nat.lt_of_le_of_lt h (by decide +kernel)
theorem Pr {gs:List (Str × Int)} : (∀ g ∈ gs,0 <= g.2)->0 <= (gs.map (·.2)).sum/\∀ g ∈ gs,g.2 <= (gs.map (·.2)).sum:=by
 induction gs with
 | nil=>intro _; exact ⟨by simp,by simp⟩
 | cons a gs ih =>
  intro h
  obtain ⟨h1,h2⟩:=ih fun g hg=>h g (aJ _ hg)
  have h0:=h a aO
  rw [List.map_cons,List.sum_cons]
  refine ⟨by omega,fun g hg=>?_⟩
  rcases List.mem_cons.mp hg with rfl | hg
  .omega
  .have:=h2 g hg
   omega
theorem Wt.hi {gs:List (Str × Int)} {S:Int} (h:Wt gs S) {g:Str × Int} (hg:g ∈ gs):g.2 <= S:=by
 rw [<- h.sum]; exact (Pr h.lo).2 g hg
theorem Wt.pair {gs:List (Str × Int)} {S:Int} (h:Wt gs S) {g:Str × Int} (hg:g ∈ gs):V6 (g.1,Ac.lw g.2 S):=by
 have p:=h.pos
 have l:=h.le
 have lo:=h.lo g hg
 have hi:=h.hi hg
 have p2:=Ac.jO (t:=g.2) p
 have g1:=Ac.vH (t:=g.2) p
 exact ⟨(h.wd g hg).1,(h.wd g hg).2,p2,g1,Ac.aaC p lo,Ac.aaI p hi,p2,g1,aM (Ac.Bl _ _) (aM (by omega:g.2.natAbs <= 10 ^ 20) (by decide)),aM (Ac.zX _ _) (aM (by omega:S.natAbs <= 10 ^ 20) (by decide))⟩
theorem Yn (a b c d:Int):PyData.eqv (.tuple (List.map PyData.int [a,b])) (.tuple (List.map PyData.int [c,d])) = (decide (a = c) && decide (b = d)):=by
 simp [PyData.eqv,PyData.eqvAll]
 rfl
noncomputable def uK (K:Frag):Sp:=fun vs H Q _=>∃ (l:Addr) (xs:List V) (gs:List (Str × Int)) (S:Int),vs = [.ref l]/\H l = some (.lst xs)/\PW H xs gs S/\Wt gs S /\
 ∀ H' r ys ws,Same H H'->H r = none->H' r = some (.lst ys)->WF K H' ys (Ac.ways gs S) ws->Q (.ref r) H'
noncomputable def jJ (l d:Addr) (gs:List (Str × Int)) (S:Int) (H:Hp) (k:Nat) (σ:L2.St) (H':Hp):Prop:=∃ u v kvs,σ = [some (.ref l),some (.ref d),u,v]/\Same H H'/\H' d = some (.dK kvs)/\DA H' S kvs (Ac.iG (gs.take k))
noncomputable def jC (K:Frag) (acc:List (Str × Int)) (S:Int) (d D1:Addr) (u:HO) (H:Hp) (i:Nat) (ys:List V) (Hc:Hp):Prop:=Same (upd H d u) Hc/\Hc D1 = some (.lst ys)/\∃ ws,WF K Hc ys (Qy S (acc.take i)) ws
theorem Ci (F:Fun K iJ iJ mz f fd) (T:Txt K mg D) (X5:OkX P w K mg base 3 uO uY (qx (K:=K) (· + ·))):cD P w K mg base (CXO P w) 4 f fd gZ (uK K):=by
 refine F.okX lO (fun vs H Q E h=>?_) (fun cdv A outer s H vs Q E hr h=>?_)
 .obtain ⟨l,xs,gs,S,rfl,_⟩:=h
  rfl
 .obtain ⟨l,xs,gs,S,rfl,hl,hp,W,q⟩:=h
  have p0:=W.pos
  have sle:=W.le
  refine ⟨_,(bK (bZ (i:=1) lO.nd rfl (Or.inr rfl) Bo)
   (bK (jo PassesOwn.leaving rfl (dj ((pv 0)).mono) (eY (n:=2) rfl (cu (cI (i:=2) lO.nd rfl (Or.inl rfl)) (cu (cI (i:=3) lO.nd rfl (Or.inl rfl)) eG)))
    (bL (Jx (vo hr) (pv 1) (pv 2) (fQ X5 (hr.mono (by decide)) (by rfl) fP (bC (Uj (vo hr) (pv 1) (pv 2) (jV (by rfl) T.wj) (by first | exact ⟨rfl,rfl,rfl,rfl,rfl⟩ | constructor <;> rfl)) (bC (pv 3) bG))) rfl)))
   (bL (cg (jr (bM mz) vA ["pairs", "chances", "?room", "chance"] ["room"] (aaf ((pv 1)).mono) (dZ (i:=0)) (Y9 (cA (QZ (K:=K) rfl hr.units) (Hz (vo hr) (pv 2) (pv 0) (fun _ _=>rfl)) (jV (by rfl) T.wj) (cC _))) (dO (bC (pv 0) (bC (Hz (vo hr) (pv 2) (pv 0) (fun _ _=>rfl)) bG)))))))),?_⟩
  unfold qx
  walk_at "rd"
  refine fun d hd=>iD ?_
  walk_at "rd"
  have ld:l ≠ d:=bD hl hd
  refine ⟨xs,(bI ld).trans hl,jJ l d gs S H,⟨none,none,[],rfl,Same.upd hd,bH,.nil⟩,?_,?_⟩
  .rintro k x σ' H' hk ⟨u,v,kvs,rfl,S1,h1,da⟩ _
   have lk:k < gs.length:=by rw [<- hp.len]; exact (ao.mp hk).1
   have e:gs[k]? = some gs[k]:=aj lk
   have hm:=aV lk
   obtain ⟨t,c,a,b,cc⟩:=hp.at_ k _ e
   rw [hk] at a
   cases a
   generalize gs[k] = g at *
   obtain ⟨n,x⟩:=g
   have wx:=W.hi hm
   have wl:=W.lo _ hm
   have al:=Ac.ud (gs.take k) fun g hg=>W.lo g (List.mem_of_mem_take hg)
   have st:((gs.take k).map (·.2)).sum <= S:=by
    have e1:gs.map (·.2) = (gs.take k).map (·.2) ++ (gs.drop k).map (·.2):=by rw [<- bA,List.take_append_drop]
    have e2:=(Pr (gs:=gs.drop k) fun g hg=>W.lo g (List.mem_of_mem_drop hg)).1
    have e3:=W.sum
    rw [e1,List.sum_append] at e3
    omega
   have look:0 <= Ac.look (Ac.iG (gs.take k)) n/\(Ac.look (Ac.iG (gs.take k)) n).natAbs <= 10 ^ 20:=by
    rcases Ac.K9 (Ac.iG (gs.take k)) n with e0 | ⟨g,hg,e0⟩
    .rw [e0]; exact ⟨Int.le_refl _,by decide⟩
    .rw [e0]
     have:=al.2.2 g hg
     omega
   obtain ⟨cq,hq,sq⟩ : ∃ cq,(oV kvs (.inr n)).getD (.ref D.NOUGHT) = .ref cq/\SqT K H' cq [.int (Ac.lw (Ac.look (Ac.iG (gs.take k)) n) S).1,.int (Ac.lw (Ac.look (Ac.iG (gs.take k)) n) S).2]:=by
    rcases da.val n with ⟨e1,e2⟩ | ⟨c',e1,e2⟩
    .rw [e1,e2,((Ac.uL p0).mpr rfl).1,((Ac.uL p0).mpr rfl).2]
     exact ⟨_,rfl,T.uW H'⟩
    .rw [e1]
     exact ⟨c',rfl,.of e2⟩
   walk_at "rd"
   have q1:=Ac.jO (t:=Ac.look (Ac.iG (gs.take k)) n) p0
   have q2:=Ac.jO (t:=x) p0
   have d1:=aM (Ac.Bl (Ac.look (Ac.iG (gs.take k)) n) S) look.2
   have d2:=aM (Ac.zX (Ac.look (Ac.iG (gs.take k)) n) S) (by omega:S.natAbs <= 10 ^ 20)
   have d3:=aM (Ac.Bl x S) (by have:x <= S:=wx; have:0 <= x:=wl; omega:x.natAbs <= 10 ^ 20)
   have d4:=aM (Ac.zX x S) (by omega:S.natAbs <= 10 ^ 20)
   have d5:Bd ((Ac.lw (Ac.look (Ac.iG (gs.take k)) n) S).2 * (Ac.lw x S).2):=by
    refine Nat.lt_of_le_of_lt (m:=10 ^ 20 * 10 ^ 20) ?_ (by decide +kernel)
    rw [Int.natAbs_mul]
    exact Nat.mul_le_mul d2 d4
   have hlen:kvs.length < sizeLine:=by
    have h9:9 < sizeLine:=by decide
    have:=al.2.1
    have:=W.len
    rw [da.len]
    rw [bh] at *
    omega
   refine ⟨_,S1 _ _ b,rfl,_,_,rfl,_,_,rfl,rfl,.inl ⟨kvs,.inl h1⟩,_,ur.k (k:=.inr n) h1,cq,hq,c,rfl,_,_,sq,_,_,.of (S1 _ _ cc),RV d1,RV d2,RV d3,RV d4,q1,q2,d5,fun r z o lo hr=>?_⟩
   have rd:d ≠ r:=bD h1 hr
   refine ⟨_,Oq.k (k:=.inr n) ((bI rd).trans h1) hlen,(bI ld).trans ((bI (bD ‹H' l = some (HO.lst xs)› hr)).trans ‹H' l = some (HO.lst xs)›),_,_,_,rfl,?_,bH,?_⟩
   .intro b' o' e'
    rw [bI (bD e' hd),bI (bD (S1 _ _ e') hr)]
    exact S1 _ _ e'
   .obtain ⟨ez,eo⟩:=Ac.aa2 p0 lo.pos lo.gcd lo.eq
    rw [cH e,Ac.yU]
    refine DA.put ?_ (da.imp fun c' x' y' e'=>?_)
    .rw [bI rd.symm,<- ez,<- eo]; exact bH
    .rw [bI (fB e' h1 (by intro z; cases z)),bI (bD e' hr)]; exact e'
  .rintro σ' H' ⟨u,v,kvs,rfl,S1,h1,da⟩ _
   refine Kd ?_
   have e8:gs.take xs.length = gs:=by rw [hp.len,aP]
   rw [e8] at da
   have al:=Ac.ud gs W.lo
   have nd:(kvs.map (·.1)).Nodup:=by
    rw [da.keys]
    exact al.1.map (f:=Sum.inr) (S:=(· ≠ ·)) fun a b h z=>h (Sum.inr.inj z)
   have hlen:kvs.length <= sizeLine:=by
    have h9:9 < sizeLine:=by decide
    have:=al.2.1
    have:=W.len
    rw [da.len]
    omega
   walk_at "rd"
   refine ⟨kvs,h1,hlen,fun o D1 hD1=>⟨jC K (Ac.iG gs) S d D1 (.frz o (.dK kvs)) H',⟨Same.upd hD1,bH,[],.nil⟩,?_,?_⟩⟩
   .rintro i k y ys Hc hi ⟨S2,hD,ws,wf⟩ hy hfr pre hpre
    obtain ⟨u0,rfl⟩:=List.length_eq_one_iff.mp hpre
    obtain ⟨nm,X,c,ea,rfl,rfl,hc⟩:=da.get hi
    have vv:=P_ nd hi
    have hcd:c ≠ d:=fB hc h1 (by intro z; cases z)
    have hcc:Hc c = some (.tup [.int (Ac.lw X S).1,.int (Ac.lw X S).2]):=S2 _ _ ((bI hcd).trans hc)
    walk_at "rd"
    have dg:ur Hc d (kV (.inr nm)) (some (.ref c)):=.inl ⟨kvs,.inr nm,.inr ⟨o,hfr⟩,rfl,vv.symm⟩
    refine ⟨[some (.str nm)],rfl,rfl,_,dg,_,.tup (.of hcc) (cW.ints K _ [_,_]),_,.tup (T.uW _) (cW.ints K _ [0,1]),rfl,rfl,?_⟩
    have X0:=(al.2.2 _ (aC ea)).1
    by_cases hX:X = 0
    .subst hX
     obtain ⟨e1,e2⟩:=(Ac.uL (b:=S) p0).mpr rfl
     rw [show PyData.eqv (.tuple (List.map PyData.int [(Ac.lw 0 S).1,(Ac.lw 0 S).2])) (.tuple (List.map PyData.int [0,1])) = true by rw [e1,e2]; rfl]
     refine ⟨hfr,S2,hD,ws,?_⟩
     rw [CZ ea,if_neg (by decide),List.append_nil]
     exact wf
    .have e0:PyData.eqv (.tuple (List.map PyData.int [(Ac.lw X S).1,(Ac.lw X S).2])) (.tuple (List.map PyData.int [0,1])) = false:=by
      rw [Yn]
      simp only [Bool.and_eq_false_iff,decide_eq_false_iff_not]
      by_cases h1:(Ac.lw X S).1 = 0
      .exact .inr fun h2=>hX ((Ac.uL p0).mp ⟨h1,h2⟩)
      .exact .inl h1
     rw [e0]
     refine ⟨_,dg,dR,fun p hp=>?_⟩
     have pD:D1 ≠ p:=bD hD hp
     have pd:d ≠ p:=bD hfr hp
     refine ⟨(bI pD).trans hD,(bI pd).trans hfr,?_,bH,ws ++ [(nm,c)],?_⟩
     .intro b' o' e'
      rw [bI (bD e' hD1),bI (bD (S2 _ _ e') hp)]
      exact S2 _ _ e'
     .rw [CZ ea,if_pos (by omega)]
      exact WF.updL ((bI pD).trans hD) ((wf.same (Same.upd hp)).snoc bH (.of ((bI (bD hcc hp)).trans hcc)))
   .rintro ys Hc ⟨S2,hD,ws,wf⟩ _
    rw [da.len,aP] at wf
    refine q _ D1 ys ws ?_ ?_ hD wf
    .intro b o' e'
     exact S2 _ _ ((bI (bD e' hd)).trans (S1 _ _ e'))
    .cases z:H D1 with
     | none=>rfl
     | some o' =>
      have:=(bI (H:=H') (o:=.frz o (.dK kvs)) (bD z hd)).trans (S1 _ _ z)
      rw [this] at hD1
      cases hD1
theorem V1 {gs:List (Str × Int)} {S:Int} (W:Wt gs S):∀ (hs:List (Str × Int)) (L:Int),(∀ g ∈ hs,g ∈ gs/\(Ac.lw g.2 S).2 ∣ L)->((hs.map fun g=>(Ac.lw g.2 S).1 * (L / (Ac.lw g.2 S).2)).sum) * S = (hs.map (·.2)).sum * L
 | [],L,_=>by simp
 | g :: hs,L,h=>by
  have ih:=V1 W hs L fun g hg=>h g (aJ _ hg)
  obtain ⟨hm,q,hq⟩:=h g aO
  have p:=Ac.jO (t:=g.2) W.pos
  have e:=Ac.zR (t:=g.2) W.pos
  rw [List.map_cons,List.sum_cons,List.map_cons,List.sum_cons,Int.add_mul,Int.add_mul,ih]
  congr 1
  generalize (Ac.lw g.2 S).1 = a at *
  generalize (Ac.lw g.2 S).2 = b at *
  rw [hq,Int.mul_ediv_cancel_left _ (Int.ne_of_gt p),Int.mul_right_comm,e,Int.mul_assoc]
theorem VL {gs:List (Str × Int)} {S:Int} (W:Wt gs S):∀ x y,Low (lvT ((gs.map fun g=>(g.1,Ac.lw g.2 S)).map (·.2))).sum (lvB ((gs.map fun g=>(g.1,Ac.lw g.2 S)).map (·.2)):Nat) x y->x = 1/\y = 1:=by
 intro x y lo
 have hq:∀ f ∈ ((gs.map fun g=>(g.1,Ac.lw g.2 S)).map (·.2)),Fq f:=by
  intro f hf
  obtain ⟨u,hu,rfl⟩:=List.mem_map.mp hf
  obtain ⟨g,hg,rfl⟩:=List.mem_map.mp hu
  exact (W.pair hg).fq
 have e0:(gs.map fun g=>(g.1,Ac.lw g.2 S)).map (·.2) = gs.map fun g=>Ac.lw g.2 S:=by rw [List.map_map]; rfl
 have bp:=uN hq
 have top:=V1 W gs (lvB ((gs.map fun g=>(g.1,Ac.lw g.2 S)).map (·.2)):Nat) fun g hg=>⟨hg,Ie (f:=Ac.lw g.2 S) (List.mem_map.mpr ⟨(g.1,Ac.lw g.2 S),List.mem_map.mpr ⟨g,hg,rfl⟩,rfl⟩) (W.pair hg).fq⟩
 have e1:(lvT ((gs.map fun g=>(g.1,Ac.lw g.2 S)).map (·.2))).sum = (gs.map fun g=>(Ac.lw g.2 S).1 * ((lvB ((gs.map fun g=>(g.1,Ac.lw g.2 S)).map (·.2)):Nat) / (Ac.lw g.2 S).2)).sum:=by
  unfold lvT
  rw [List.map_map,List.map_map]; rfl
 rw [<- e1,W.sum,Int.mul_comm S] at top
 have e2:=Int.eq_of_mul_eq_mul_right (Int.ne_of_gt W.pos) top
 rw [e2] at lo
 have h:=lo.eq
 rw [Int.mul_comm _ y] at h
 have e3:x = y:=Int.eq_of_mul_eq_mul_right (by omega) h
 subst e3
 have g:=lo.gcd
 have p:=lo.pos
 rw [Int.gcd_self] at g
 omega
noncomputable def Keep (s:Addr) (H H':Hp):Prop:=∀ b o,b ≠ s->H b = some o->H' b = some o
theorem Keep.tup {s C dx:Addr} {fs:List (Str × V)} {H H':Hp} (h:Keep s H H') (hs:H s = some (.ins C dx fs)):∀ t ys,H t = some (.tup ys)->H' t = some (.tup ys):=fun t ys e=>h t _ (fB e hs (by intro z; cases z)) e
theorem Keep.lst {s C dx:Addr} {fs:List (Str × V)} {H H':Hp} (h:Keep s H H') (hs:H s = some (.ins C dx fs)) {t:Addr} {ys:List V} (e:H t = some (.lst ys)):H' t = some (.lst ys):=h t _ (fB e hs (by intro z; cases z)) e
theorem Keep.free {s r:Addr} {o:HO} {H H':Hp} (h:Keep s H H') (hr:H' r = none) (hs:H' s = some o):H r = none:=by
 cases z:H r with
 | none=>rfl
 | some u =>
  have:=h r u (bD hs hr).symm z
  rw [hr] at this
  cases this
theorem WF.updI {H:Hp} {o C dx:Addr} {fs:List (Str × V)} {u:HO} (ho:H o = some (.ins C dx fs)) {xs:List V} {gs:List (Str × Int × Int)} {ws:List (Str × Addr)} (h:WF K H xs gs ws):WF K (upd H o u) xs gs ws :=
 h.imp (fun t us e=>(bI (fB e ho (by intro z; cases z))).trans e) fun c xs e=>e.updO ho (by intro ys z; cases z) (by intro ob ys z; cases z)
theorem PW.snoc {H:Hp} {xs:List V} {gs:List (Str × Int)} {S:Int} (h:PW H xs gs S) {t c:Addr} {g:Str × Int} (h1:H t = some (.tup [.str g.1,.ref c])) (h2:H c = some (.tup [.int (Ac.lw g.2 S).1,.int (Ac.lw g.2 S).2])):PW H (xs ++ [.ref t]) (gs ++ [g]) S:=by
 refine ⟨by rw [aB,aB,h.len]; rfl,fun k u e=>?_⟩
 by_cases hk:k < gs.length
 .rw [aF hk] at e
  rw [aF (by rw [h.len]; exact hk)]
  exact h.at_ k u e
 .rw [aD (by omega)] at e
  rw [aD (by rw [h.len]; omega),h.len]
  have e0:k - gs.length = 0:=by
   cases e1:k - gs.length with
   | zero=>rfl
   | succ m=>rw [e1] at e; simp at e
  rw [e0,List.getElem?_cons_zero] at e
  cases e
  rw [e0]
  exact ⟨t,c,rfl,h1,h2⟩
structure Rb (K:Frag) (H:Hp) (s C:Addr) (n:Str) (p:Addr) (ds:List (Str × Int × Int)) (ld:Addr) (ys:List V) (ws:List (Str × Addr)):Prop where
 at_:∃ dx,H s = some (.ins C dx [("name",.str n),("pay",.ref p),("leads",.ref ld)])
 hl:H ld = some (.lst ys)
 wf:WF K H ys ds ws
noncomputable def fD (K:Frag) (D:Adr):Sp:=fun vs H Q _=>∃ (s dx C:Addr) (n:Str) (p l:Addr) (x y:Int) (xs:List V) (gs:List (Str × Int)) (S:Int),vs = [.ref s,.str n,.ref p,.ref l]/\H s = some (.ins C dx [])/\Fam D C/\n.length <= 1000/\jR n.cps.toList = true/\Fk K H p x y /\
 H l = some (.lst xs)/\PW H xs gs S/\Wt gs S/\∀ H' ld ys ws,H ld = none->Keep s H H'->Rb K H' s C n p (Ac.ways gs S) ld ys ws->Q .non H'
theorem DW (F:Fun K u_ vh qT f fd) (T:Txt K mg D) (jd:OkI P w K mg base (CXO P w) 4 D.Door_init jf (jh (K:=K) D)) (Cy:OkX P w K mg base 4 iK iH k_)
  (Bw:OkX P w K mg base 4 iJ gZ (uK K)):cD P w K mg base (CXO P w) 5 f fd fH (fD K D):=by
 refine F.okX Ew (fun vs H Q E h=>?_) (fun cdv A outer s H vs Q E hr h=>?_)
 .obtain ⟨s,dx,C,n,p,l,x,y,xs,gs,S,rfl,_⟩:=h
  rfl
 .obtain ⟨o,dx,C,n,p,l,x,y,xs,gs,S,rfl,ho,hC,hn,hw,hf,hl,hp,W,q⟩:=h
  refine ⟨_,(bK (cU (xG T.v8 jd (hr.mono (by decide)) (by rfl) T.VN fP (bC (pv 0) (bC (pv 1) (bC (pv 2) bG)))))
   (bK (cU (fQ Cy (hr.mono (by decide)) (by rfl) fP (bC (pv 3) bG)))
   (bL (su (pv 0) (fQ Bw (hr.mono (by decide)) (by rfl) fP (bC (pv 3) bG)) rfl)))),?_⟩
  unfold jh k_ uK
  walk_at "rd"
  refine ⟨dx,C,ho,hC,hn,hw,⟨x,y,hf⟩,fun l0 h0=>?_⟩
  have ol:o ≠ l0:=bD bH h0
  rw [bI ol.symm] at h0
  have k1:Keep o H (upd (upd H l0 (.lst [])) o (.ins C dx [("name",.str n),("pay",.ref p),("leads",.ref l0)])):=fun b u hb e=>(bI hb).trans ((bI (bD e h0)).trans e)
  have o1:upd (upd H l0 (.lst [])) o (.ins C dx [("name",.str n),("pay",.ref p),("leads",.ref l0)]) o = some (.ins C dx [("name",.str n),("pay",.ref p),("leads",.ref l0)]):=bH
  generalize upd (upd H l0 (.lst [])) o (.ins C dx [("name",.str n),("pay",.ref p),("leads",.ref l0)]) = H1 at k1 o1 ⊢
  refine ⟨xs,k1.lst ho hl,_,(hp.imp (k1.tup ho)).pairs,?_,?_,VL W,fun H2 S2=>?_⟩
  .intro g hg
   obtain ⟨u,hu,rfl⟩:=List.mem_map.mp hg
   exact W.pair hu
  .rw [ak]
   exact aM W.len (by decide)
  .refine ⟨xs,S2 _ _ (k1.lst ho hl),gs,S,(hp.imp (k1.tup ho)).same S2,W,fun H3 r ys ws S3 hr3 hr hwf=>?_⟩
   have o3:=S3 _ _ (S2 _ _ o1)
   refine ⟨C,dx,_,o3,T.cl C hC,T.BZ C hC,(by show 3 < 1000; decide),?_⟩
   refine q _ r ys ws (k1.free (S2.free hr3) o1) (fun b u hb e=>(bI hb).trans (S3 _ _ (S2 _ _ (k1 b u hb e)))) ⟨⟨dx,bH⟩,(bI (fB hr o3 (by intro z; cases z))).trans hr,hwf.updI o3⟩
noncomputable def qN (K:Frag) (D:Adr):Sp:=fun vs H Q _=>∃ (s dx:Addr) (n r1 r2:Str) (p c:Addr) (x y w S:Int),vs = [.ref s,.str n,.ref p,.ref c,.str r1,.str r2]/\H s = some (.ins D.Toss dx [])/\n.length <= 1000/\jR n.cps.toList = true/\Fk K H p x y /\
 H c = some (.tup [.int (Ac.lw w S).1,.int (Ac.lw w S).2])/\Wt [(r1,w),(r2,S - w)] S/\∀ H' ld ys ws,H ld = none->Keep s H H'->Rb K H' s D.Toss n p (Ac.ways [(r1,w),(r2,S - w)] S) ld ys ws->Q .non H'
theorem HB (F:Fun K xK xP rD f fd) (T:Txt K mg D) (gM:OkX P w K mg base 3 gO gK (gH (K:=K))) (mZ:OkX P w K mg base 3 eO eU (nY (K:=K))) (Wv:OkX P w K mg base 3 rM rT (qx (K:=K) (· - ·)))
  (dU:OkI P w K mg base (CXO P w) 5 D.Mixed_init fH (fD K D)):cD P w K mg base (CXO P w) 6 f fd kY (qN K D):=by
 refine F.okX Ja (fun vs H Q E h=>?_) (fun cdv A outer s H vs Q E hr h=>?_)
 .obtain ⟨s,dx,n,r1,r2,p,c,x,y,w,S,rfl,_⟩:=h
  rfl
 .obtain ⟨o,dx,n,r1,r2,p,c,x,y,w,S,rfl,ho,hn,hw,hf,hc,W,q⟩:=h
  refine ⟨_,(bK (cU (fQ gM (hr.mono (by decide)) (by rfl) fP (bC (pv 1) (bC (pv 2) bG))))
   (bK (cU (fQ mZ (hr.mono (by decide)) (by rfl) fP (bC (pv 3) bG)))
   (bL (cU (xG T.vf dU (hr.mono (by decide)) (by rfl) T.Gw fP (bC (pv 0) (bC (pv 1) (bC (pv 2) (bC (ji (bC (dO (bC (pv 4) (bC (pv 3) bG))) (bC (dO (bC (pv 5) (bC (fQ Wv (hr.mono (by decide)) (by rfl) fP (bC (jV (by rfl) T.Mr) (bC (pv 3) bG))) bG))) bG))) bG))))))))),?_⟩
  unfold gH nY qx fD
  walk_at "rd"
  have p0:=W.pos
  have sle:=W.le
  have w0:0 <= w:=W.lo (r1,w) (by simp)
  have w1:w <= S:=W.hi (g:=(r1,w)) (by simp)
  have q2:=Ac.jO (t:=w) p0
  have b3:=RV (aM (Ac.Bl w S) (by omega:w.natAbs <= 10 ^ 20))
  have b4:=RV (aM (Ac.zX w S) (by omega:S.natAbs <= 10 ^ 20))
  have b1:Bd 1:=Bd.sm (by decide)
  refine ⟨hn,hw,⟨x,y,hf⟩,⟨_,_,⟨.of hc,q2,Ac.vH p0⟩,Ac.aaC p0 w0,Ac.aaI p0 w1,b4⟩,dR,fun p1 h1=>⟨1,1,T.Dg _,_,_,.of (Same.upd h1 _ _ hc),b1,b1,b3,b4,by decide,q2,by rw [Int.one_mul]; exact b4,fun r z o1 lo hr=>⟨dR,fun p2 h2=>⟨dR,fun p3 h3=>?_⟩⟩⟩⟩
  have T2:Same (upd H p1 (.tup [.str r1,.ref c])) (upd (upd H p1 (.tup [.str r1,.ref c])) r (.tup [.int z,.int o1])):=Same.upd hr
  have T3:Same (upd (upd H p1 (.tup [.str r1,.ref c])) r (.tup [.int z,.int o1])) (upd (upd (upd H p1 (.tup [.str r1,.ref c])) r (.tup [.int z,.int o1])) p2 (.tup [.str r2,.ref r])):=Same.upd h2
  have T4:Same (upd (upd (upd H p1 (.tup [.str r1,.ref c])) r (.tup [.int z,.int o1])) p2 (.tup [.str r2,.ref r])) (upd (upd (upd (upd H p1 (.tup [.str r1,.ref c])) r (.tup [.int z,.int o1])) p2 (.tup [.str r2,.ref r])) p3 (.lst [.ref p1,.ref p2])):=Same.upd h3
  have TS:Same H (upd (upd (upd (upd H p1 (.tup [.str r1,.ref c])) r (.tup [.int z,.int o1])) p2 (.tup [.str r2,.ref r])) p3 (.lst [.ref p1,.ref p2])):=(Same.upd h1).trans (T2.trans (T3.trans T4))
  have e1:=T4 _ _ (T3 _ _ (T2 p1 _ bH))
  have e2:=T4 _ _ (T3 r _ bH)
  have e3:=T4 p2 _ bH
  obtain ⟨ez,eo⟩:=Ac.JH p0 lo.pos lo.gcd lo.eq
  generalize upd (upd (upd (upd H p1 (.tup [.str r1,.ref c])) r (.tup [.int z,.int o1])) p2 (.tup [.str r2,.ref r])) p3 (.lst [.ref p1,.ref p2]) = Hn at TS e1 e2 e3 ⊢
  refine ⟨dx,D.Toss,TS _ _ ho,(by simp [Fam]),hn,hw,⟨x,y,hf.same TS⟩,[(r1,w),(r2,S - w)],S,⟨rfl,fun k g e=>?_⟩,W,fun H' ld ys ws f k d=>q H' ld ys ws (TS.free f) (fun b u hb e=>k b u hb (TS b u e)) d⟩
  match k,e with
  | 0,e =>
   cases e
   exact ⟨p1,c,rfl,e1,TS _ _ hc⟩
  | 1,e =>
   cases e
   exact ⟨p2,r,rfl,e3,by rw [<- ez,<- eo]; exact e2⟩
  | k + 2,e=>cases e
noncomputable def jE (D1:Addr) (rs:List Str) (H:Hp) (k:Nat) (ys:List V) (Hc:Hp):Prop:=PW Hc ys ((rs.map fun r=>(r,(1:Int))).take k) rs.length/\Same H Hc/\Hc D1 = some (.lst ys)
noncomputable def qH (K:Frag) (D:Adr):Sp:=fun vs H Q _=>∃ (s dx:Addr) (n:Str) (p l:Addr) (x y:Int) (rs:List Str),vs = [.ref s,.str n,.ref p,.ref l]/\H s = some (.ins D.Even dx [])/\n.length <= 1000/\jR n.cps.toList = true/\Fk K H p x y /\
 H l = some (.lst (rs.map V.str))/\Wt (rs.map fun r=>(r,(1:Int))) rs.length/\∀ H' ld ys ws,H ld = none->Keep s H H'->Rb K H' s D.Even n p (Ac.ways (rs.map fun r=>(r,(1:Int))) rs.length) ld ys ws->Q .non H'
theorem Ij (F:Fun K xR yc o_ f fd) (T:Txt K mg D) (dU:OkI P w K mg base (CXO P w) 5 D.Mixed_init fH (fD K D)):cD P w K mg base (CXO P w) 6 f fd j9 (qH K D):=by
 refine F.okX Ia (fun vs H Q E h=>?_) (fun cdv A outer s H vs Q E hr h=>?_)
 .obtain ⟨s,dx,n,p,l,x,y,rs,rfl,_⟩:=h
  rfl
 .obtain ⟨o,dx,n,p,l,x,y,rs,rfl,ho,hn,hw,hf,hl,W,q⟩:=h
  refine ⟨_,(bL (cU (xG T.vf dU (hr.mono (by decide)) (by rfl) T.Gw fP (bC (pv 0) (bC (pv 1) (bC (pv 2) (bC (jr (bM o_) uz uz ["room"] (dj ((pv 3)).mono) (dZ (i:=0)) dh (dO (bC (pv 0) (bC (dO (bC bF (bC (b_ cJ (by rfl) T.eN PySem.boot_len (bC (pv 4) bG)) bG))) bG)))) bG))))))),?_⟩
  unfold fD
  walk_at "rd"
  refine c7 ?_
  walk_at "rd"
  have l8:=W.len
  rw [ak] at l8
  have p0:=W.pos
  have z9:9 < sizeLine:=by decide
  refine ⟨_,hl,by rw [ak]; omega,fun D1 hD=>⟨jE D1 rs H,⟨⟨rfl,fun k g e=>by simp at e⟩,Same.upd hD,bH⟩,?_,?_⟩⟩
  .rintro k x1 ys Hc hk ⟨pw,S1,hD1⟩ hy hlc
   rw [au] at hk
   cases er:rs[k]? with
   | none=>rw [er] at hk; cases hk
   | some r =>
    rw [er] at hk
    cases hk
    refine ⟨_,hlc,dR,fun p1 hp1=>⟨dR,fun p2 hp2=>?_⟩⟩
    have T1:Same Hc (upd (upd Hc p1 (.tup [.int 1,.int (rs.map V.str).length])) p2 (.tup [.str r,.ref p1])):=(Same.upd hp1).trans (Same.upd hp2)
    have e1:upd (upd Hc p1 (.tup [.int 1,.int (rs.map V.str).length])) p2 (.tup [.str r,.ref p1]) p1 = some (.tup [.int 1,.int (rs.map V.str).length]):=Same.upd hp2 p1 _ bH
    have e2:upd (upd Hc p1 (.tup [.int 1,.int (rs.map V.str).length])) p2 (.tup [.str r,.ref p1]) p2 = some (.tup [.str r,.ref p1]):=bH
    generalize upd (upd Hc p1 (.tup [.int 1,.int (rs.map V.str).length])) p2 (.tup [.str r,.ref p1]) = Hn at T1 e1 e2 ⊢
    have nD:∀ t us,Hn t = some (.tup us)->upd Hn D1 (.lst (ys ++ [.ref p2])) t = some (.tup us):=fun t us e=>(bI (fB e (T1 _ _ hD1) (by intro z; cases z))).trans e
    refine ⟨T1 _ _ hD1,T1 _ _ hlc,?_,?_,bH⟩
    .rw [List.take_succ,au,er]
     refine ((pw.same T1).imp nD).snoc (c:=p1) (nD _ _ e2) ?_
     obtain ⟨h1,h2⟩:=Ac.abp p0
     show _ = some (HO.tup [.int (Ac.lw 1 (rs.length:Int)).1,.int (Ac.lw 1 (rs.length:Int)).2])
     rw [h1,h2,nD _ _ e1,ak]
    .intro b u e
     rw [bI (bD e hD)]
     exact T1 _ _ (S1 _ _ e)
  .rintro ys Hc ⟨pw,S1,hD1⟩ hy
   have ek:(rs.map fun r=>(r,(1:Int))).take (rs.map V.str).length = rs.map fun r=>(r,(1:Int)):=aL (by rw [ak,ak]; exact aG _)
   rw [ek] at pw
   exact ⟨dx,D.Even,S1 _ _ ho,(by simp [Fam]),hn,hw,⟨x,y,hf.same S1⟩,ys,hD1,_,_,pw,W,fun H' ld ys ws f k d=>q H' ld ys ws (S1.free f) (fun b u hb e=>k b u hb (S1 b u e)) d⟩
noncomputable def Lt (x:Str):Prop:=x.cps.toList.all vD = true
theorem Q8 (x y:Str):(x ++ y).cps.toList = x.cps.toList ++ y.cps.toList:=by
 show (x.cps ++ y.cps).toList = _
 rw [Array.toList_append]
theorem Zr (x y:Str):(x ++ y).length = x.length + y.length:=by
 show (x.cps ++ y.cps).size = _
 rw [Array.size_append]; rfl
theorem Vb {α:Type} {xs:List α} {i:Int} (h0:0 <= i) (h1:i < xs.length):∃ v,atI xs i = some v/\v ∈ xs:=by
 obtain ⟨n,rfl⟩:=Int.eq_ofNat_of_zero_le h0
 have hn:n < xs.length:=by omega
 exact ⟨xs[n],bU (aj hn),aV hn⟩
theorem Lt.one {i:Int} (h0:0 <= i) (h1:i < 26):∃ c,atI (Str.ofString "abcdefghijklmnopqrstuvwxyz").cps.toList i = some c/\Lt ⟨#[c]⟩:=by
 have l1:(Str.ofString "abcdefghijklmnopqrstuvwxyz").cps.toList.length = 26:=by decide +kernel
 obtain ⟨v,e,e2⟩:=Vb (xs:=(Str.ofString "abcdefghijklmnopqrstuvwxyz").cps.toList) h0 (by rw [l1]; exact h1)
 refine ⟨v,e,?_⟩
 unfold Lt vD
 simp only [List.all_cons,List.all_nil,Bool.and_true,decide_eq_true_eq]
 exact e2
structure Wd (x:Str):Prop where
 lt:Lt x
 lo:1 <= x.length
 hi:x.length <= 8
theorem Wd.word {x:Str} (h:Wd x):jR x.cps.toList = true:=by
 have l:=h.lt
 have lo:=h.lo
 have hi:=h.hi
 have hl:x.cps.toList.length = x.length:=Array.length_toList
 unfold Lt at l
 unfold jR
 rw [l,hl,decide_eq_true lo,decide_eq_true hi]; rfl
theorem Lt.fold:∀ (ys:List Str) (acc:Array Nat),acc.toList.all vD = true->(∀ y ∈ ys,Lt y)->(ys.foldl (fun acc p=>acc ++ (Str.ofString "").cps ++ p.cps) acc).toList.all vD = true
 | [],acc,h,_=>h
 | y :: ys,acc,h,hy=>by
  rw [List.foldl_cons]
  refine Lt.fold ys _ ?_ fun z hz=>hy z (aJ _ hz)
  have e0:(Str.ofString "").cps = #[]:=by decide +kernel
  have hy0:y.cps.toList.all vD = true:=hy y aO
  rw [e0,Array.append_empty,Array.toList_append,List.all_append,h,hy0]; rfl
theorem Lt.glued {ys:List Str} (h:∀ y ∈ ys,Lt y):Lt (Txt.join (Str.ofString "") ys):=by
 show ((ys.drop 1).foldl (fun acc p=>acc ++ (Str.ofString "").cps ++ p.cps) (ys.headD Str.empty).cps).toList.all vD = true
 refine Lt.fold _ _ ?_ fun y hy=>h y (List.mem_of_mem_drop hy)
 cases ys with
 | nil=>rfl
 | cons y ys=>exact h y aO
noncomputable def vm (ns:List Str) (o:Nat):List (Key × V):=(ns.zipIdx o).map fun g=>(.inr g.1,.int (g.2:Nat))
noncomputable abbrev zB (ns:List Str):List (Key × V):=vm ns 0
theorem Cj {ns:List Str} {o:Nat} : (vm ns o).length = ns.length:=by unfold vm; rw [ak,List.length_zipIdx]
theorem zy {n:Str} {ns:List Str} {o:Nat} : vm (n :: ns) o = (.inr n,.int (o:Nat)) :: vm ns (o + 1):=by unfold vm; rw [List.zipIdx_cons]; rfl
theorem O9 {n:Str} : ∀ {ns:List Str} {o:Nat},n ∉ ns->oV (vm ns o) (.inr n) = none
 | [],_,_=>rfl
 | a :: ns,o,h=>by
  rw [zy]
  have ne:¬ (Sum.inr a:Key) = .inr n:=fun z=>h (by injection z with z; rw [z]; exact aO)
  unfold oV
  rw [List.find?_cons,decide_eq_false ne]
  exact O9 fun m=>h (aJ _ m)
theorem Kw {n:Str} : ∀ {ns:List Str} {o k:Nat},ns.Nodup->ns[k]? = some n->oV (vm ns o) (.inr n) = some (.int ((o + k:Nat):Int))
 | [],_,_,_,h=>by simp at h
 | a :: ns,o,0,_,h=>by
  rw [List.getElem?_cons_zero] at h
  cases h
  rw [zy]
  unfold oV
  rw [List.find?_cons,decide_eq_true rfl]; rfl
 | a :: ns,o,k + 1,nd,h=>by
  rw [List.getElem?_cons_succ] at h
  obtain ⟨na,nd'⟩:=List.nodup_cons.mp nd
  have ne:¬ (Sum.inr a:Key) = .inr n:=fun z=>na (by injection z with z; rw [z]; exact aC h)
  have ih:=Kw (o:=o + 1) nd' h
  rw [zy]
  unfold oV at ih ⊢
  rw [List.find?_cons,decide_eq_false ne]
  rw [show o + (k + 1) = o + 1 + k by omega]
  exact ih
theorem Vi {n:Str} {ns:List Str} (h:n ∉ ns):putK (zB ns) (.inr n) (.int (ns.length:Nat)) = zB (ns ++ [n]):=by
 have a:((zB ns).any fun kv=>decide (kv.1 = .inr n)) = false:=by
  rw [List.any_eq_false]
  intro kv hk
  unfold zB vm at hk
  obtain ⟨g,hg,rfl⟩:=List.mem_map.mp hk
  have:g.1 ∈ ns:=by
   have:=List.mem_map_of_mem (f:=Prod.fst) hg
   rwa [List.zipIdx_map_fst] at this  
  intro z
  have z:(Sum.inr g.1:Key) = .inr n:=of_decide_eq_true z
  injection z with z
  exact h (z ▸ this)
 unfold putK
 rw [a,if_neg (by decide)]
 unfold zB vm
 rw [List.zipIdx_append,bA,Nat.zero_add]; rfl
structure Pu (H:Hp) (xs:List V) (ns:List Str):Prop where
 len:xs.length = ns.length
 at_:∀ (k:Nat) (n:Str),ns[k]? = some n->∃ t v,xs[k]? = some (.ref t)/\H t = some (.tup [.str n,v])
theorem Bf {α:Type} {l:List α} {k:Nat} {a:α} (nd:l.Nodup) (e:l[k]? = some a):a ∉ l.take k:=by
 obtain ⟨lk,rfl⟩:=ao.mp e
 rw [<- List.take_append_drop k l,List.nodup_append] at nd
 intro z
 refine nd.2.2 _ z _ ?_ rfl
 rw [List.drop_eq_getElem_cons lk]
 exact aO
noncomputable def lA:Sp:=fun vs H Q _=>∃ (p:Addr) (x y:Int),vs = [.ref p]/\Fk K H p x y/\0 <= x/\x < y/\Bd x/\Bd y/\Q .non H
theorem Dl (F:Fun K iT iT pG f fd) (T:Txt K mg D) (gC:OkF P w K mg base 2 iy iQ (fZ (K:=K))) (gR:OkF P w K mg base 1 mX mO (mU (K:=K))):cD P w K mg base CX0 3 f fd iB (lA (K:=K)):=by
 refine F.ok DQ (fun vs H Q E h=>?_) (fun cdv A outer s H vs Q E hr h=>?_)
 .obtain ⟨p,x,y,rfl,_⟩:=h
  rfl
 .obtain ⟨p,x,y,rfl,fk,x0,xy,bx,b_y,q⟩:=h
  refine ⟨_,(bL (cQ (PW.pt (pw_or (d_ (dD (bN gC (hr.mono (by decide)) (by rfl) (bC (pv 0) bG)) (fun _=>rfl))) (pw_or (dD (bN gR (hr.mono (by decide)) (by rfl) (bC (pv 0) (bC (jV (by rfl) T.wj) bG))) (fun _=>rfl)) (pw_or1 (d_ (dD (bN gR (hr.mono (by decide)) (by rfl) (bC (pv 0) (bC (jV (by rfl) T.Mr) bG))) (fun _=>rfl)))))))
    (bL oF)
    cj)),?_⟩
  unfold fZ mU
  walk_at "rd"
  have hy:=fk.pos
  have b0:Bd 0:=Nat.two_pow_pos 8000
  have b1:Bd 1:=Nat.one_lt_two_pow (by decide)
  refine ⟨⟨x,y,fk⟩,x,y,fk.at_,0,1,T.uW H,bx,b_y,b0,b1,?_⟩
  rw [if_neg (by simp; omega)]
  refine ⟨x,y,fk.at_,1,1,T.Dg H,bx,b_y,b1,b1,?_⟩
  rw [if_neg (by simp; omega)]
  exact q
noncomputable def mH:Sp:=fun vs H Q _=>∃ (l:Addr) (xs:List V) (rs:List Str),vs = [.ref l]/\H l = some (.lst xs)/\Pu H xs rs/\rs.Nodup/\(∀ g ∈ rs,Wd g)/\rs.length <= 20 /\
 ∀ d H',Same H H'->H d = none->H' d = some (.dK (zB rs))->Q (.ref d) H'
noncomputable def nJ (l d:Addr) (rs:List Str) (H:Hp) (k:Nat) (σ:L2.St) (H':Hp):Prop:=∃ u v,σ = [some (.ref l),some (.ref d),u,v]/\Same H H'/\H' d = some (.dK (zB (rs.take k)))
theorem Eb (F:Fun K jy jy qt f fd) (T:Txt K mg D) (je:OkF P w K mg base 1 jM jL rG):cD P w K mg base CX0 2 f fd ju mH:=by
 refine F.ok mD (fun vs H Q E h=>?_) (fun cdv A outer s H vs Q E hr h=>?_)
 .obtain ⟨l,xs,rs,rfl,_⟩:=h
  rfl
 .obtain ⟨l,xs,rs,rfl,hl,ra,nd,wd,n20,q⟩:=h
  refine ⟨_,(bK (bZ (i:=1) mD.nd rfl (Or.inl rfl) Bo)
   (bK (jo PassesOwn.never rfl (dj ((pv 0)).mono) (cI (i:=2) mD.nd rfl (Or.inl rfl))
    (bK (bZ (i:=3) mD.nd rfl (Or.inl rfl) (bR cG (pv 2) bF (fun _ _=>rfl)))
    (bK (cQ (PW.pt (pw_or (d_ (dD (bN je (hr.mono (by decide)) (by rfl) (bC (pv 3) bG)) (fun _=>rfl))) (pw_or1 (Ov (Xu (vo hr) (pv 3) (pv 1))))))
     (bL oF)
     cj)
    (bL (Jx (vo hr) (pv 1) (pv 3) (b_ Gi (by rfl) T.eN PySem.boot_len (bC (pv 1) bG)) rfl)))))
   (bL (cg (pv 1))))),?_⟩
  unfold rG
  walk_at "rd"
  refine fun d hd=>iD ?_
  walk_at "rd"
  have ld:l ≠ d:=bD hl hd
  refine ⟨xs,(bI ld).trans hl,nJ l d rs H,⟨none,none,rfl,Same.upd hd,bH⟩,?_,?_⟩
  .rintro k x σ' H' hk ⟨u,v,rfl,S1,h1⟩ hl'
   have lk:k < rs.length:=by rw [<- ra.len]; exact (ao.mp hk).1
   have e:rs[k]? = some rs[k]:=aj lk
   have hm:=aV lk
   obtain ⟨t,dv,a,b⟩:=ra.at_ k _ e
   rw [hk] at a
   cases a
   have hw:=wd _ hm
   have no:rs[k] ∉ rs.take k:=by exact Bf nd e
   generalize rs[k] = n at *
   walk_at "rd"
   have l9:=hw.hi
   refine ⟨_,S1 _ _ b,_,dG,.inl ⟨n,rfl,aM l9 (by decide),?_⟩⟩
   rw [if_neg (by rw [hw.word]; decide)]
   refine ⟨_,ur.k (k:=.inr n) h1,?_⟩
   rw [O9 no,if_neg (by decide)]
   have hlen:(zB (rs.take k)).length < sizeLine:=by
    have h9:21 < sizeLine:=by decide
    rw [Cj,bh]
    omega
   refine ⟨d,_,rfl,h1,_,Oq.k (k:=.inr n) h1 hlen,(bI ld).trans hl',_,_,rfl,fun b' o' e'=>(bI (bD e' hd)).trans (S1 _ _ e'),?_⟩
   rw [bH,Cj,Vi no,cH e]
  .rintro σ' H' ⟨u,v,rfl,S1,h1⟩ _
   rw [ra.len,aP] at h1
   walk_at "rd"
   exact q d H' S1 hd h1
structure NWs (ns:List Str) (H:Hp) (zs:List V) (ws:List (Str × Addr)):Prop where
 len:zs.length = ws.length
 at_:∀ (k:Nat) (g:Str × Addr),ws[k]? = some g->∃ t i,zs[k]? = some (.ref t)/\ns[i]? = some g.1/\H t = some (.tup [.int (i:Nat),.ref g.2])
theorem NWs.imp {ns:List Str} {H H':Hp} {zs:List V} {ws:List (Str × Addr)} (h':∀ t ys,H t = some (.tup ys)->H' t = some (.tup ys)) (h:NWs ns H zs ws):NWs ns H' zs ws:=⟨h.len,fun k g e=>let ⟨t,i,a,b,c⟩:=h.at_ k g e; ⟨t,i,a,b,h' _ _ c⟩⟩
theorem NWs.snoc {ns:List Str} {H:Hp} {zs:List V} {ws:List (Str × Addr)} {t:Addr} {i:Nat} {g:Str × Addr} (h:NWs ns H zs ws) (hi:ns[i]? = some g.1) (ht:H t = some (.tup [.int (i:Nat),.ref g.2])):NWs ns H (zs ++ [.ref t]) (ws ++ [g]):=by
 refine ⟨by rw [aB,aB,h.len]; rfl,fun k g' e=>?_⟩
 by_cases hk:k < ws.length
 .rw [aF hk] at e
  obtain ⟨t',i',a,b,c⟩:=h.at_ k g' e
  exact ⟨t',i',by rw [aF (by rw [h.len]; exact hk)]; exact a,b,c⟩
 .rw [aD (by omega)] at e
  have e0:k - ws.length = 0:=by
   have:=(ao.mp e).1
   simp at this; omega
  rw [e0] at e
  cases e
  refine ⟨t,i,?_,hi,ht⟩
  rw [aD (by rw [h.len]; omega),h.len,e0]; rfl
noncomputable def iY (D:Adr):Sp:=fun vs H Q _=>∃ (s n C dx p l:Addr) (nm:Str) (xs:List V) (ws:List (Str × Addr)) (ns:List Str),vs = [.ref s,.ref n]/\d7 D C/\H s = some (.ins C dx [("name",.str nm),("pay",.ref p),("leads",.ref l)])/\H l = some (.lst xs)/\Rr H xs ws/\ws.length <= 100/\H n = some (.dK (zB ns))/\ns.Nodup/\(∀ g ∈ ws,g.1 ∈ ns) /\
 ∀ r H' zs,Same H H'->H r = none->H' r = some (.lst zs)->NWs ns H' zs ws->Q (.ref r) H'
noncomputable def nwJ (s n r:Addr) (ns:List Str) (ws:List (Str × Addr)) (H:Hp) (k:Nat) (σ:L2.St) (H':Hp):Prop:=∃ u v zs,σ = [some (.ref s),some (.ref n),some (.ref r),u,v]/\Same H H'/\H' r = some (.lst zs)/\NWs ns H' zs (ws.take k)
theorem zK (F:Fun K fW fW m7 f fd) (T:Txt K mg D) (rO:OkI P w K mg base CX0 1 D.Door_ways lu (nM D)):cD P w K mg base CX0 2 f fd fX (iY D):=by
 refine F.ok jc (fun vs H Q E h=>?_) (fun cdv A outer s H vs Q E hr h=>?_)
 .obtain ⟨d,n,C,dx,p,l,nm,xs,ws,ns,rfl,_⟩:=h
  rfl
 .obtain ⟨d,n,C,dx,p,l,nm,xs,ws,ns,rfl,hC,hs,hl,hw,n100,hn,nd,hin,q⟩:=h
  refine ⟨_,(bK (bZ (i:=2) jc.nd rfl (Or.inl rfl) (ji bG))
   (bK (jo PassesOwn.never rfl (dj ((PE.any fun C (hC:d7 D C)=>(zp (pv 0) (T.cl C hC.fam) (T.G5 C hC) rO (hr.mono (by decide))))).mono) (eY (n:=2) rfl (cu (cI (i:=3) jc.nd rfl (Or.inl rfl)) (cu (cI (i:=4) jc.nd rfl (Or.inl rfl)) eG)))
    (bK (cQ (Ov (Rf (vo hr) (pv 3) (pv 1)))
     (bL oF)
     cj)
    (bL (cU (pq (pv 2) (bC (dO (bC (Hz (vo hr) (pv 1) (pv 3) (fun _ _=>rfl)) (bC (pv 4) bG))) bG))))))
   (bL (cg (pv 2))))),?_⟩
  unfold nM
  walk_at "rd"
  refine ⟨by decide,fun r hrn=>iD ?_⟩
  walk_at "rd"
  have sr:∀ {b o},H b = some o->(upd H r (.lst [])) b = some o:=fun {b o} e=>(bI (bD e hrn)).trans e
  refine ⟨C,hC,dx,_,sr hs,rfl,nm,p,l,⟨C,dx,hC.fam,sr hs⟩,xs,sr hl,by rw [hw.len]; exact n100,fun r2 hr2=>⟨nwJ d n r ns ws H,?_,?_,?_⟩⟩
  .have rr:r ≠ r2:=bD bH hr2
   refine ⟨none,none,[],rfl,fun b o e=>(bI (bD (sr e) hr2)).trans (sr e),(bI rr).trans bH,rfl,fun k g e=>by simp at e⟩
  .rintro k x σ' H' hk ⟨u,v,zs,rfl,S1,h1,nw⟩ hx
   have lk:k < ws.length:=by rw [<- hw.len]; exact (ao.mp hk).1
   have e:ws[k]? = some ws[k]:=aj lk
   have hm:=hin _ (aV lk)
   obtain ⟨t,a,b⟩:=hw.at_ k _ e
   rw [hk] at a
   cases a
   generalize ws[k] = g at *
   obtain ⟨m,c⟩:=g
   obtain ⟨i,hi⟩:=aW hm
   walk_at "rd"
   have rr:r ≠ r2:=bD bH hr2
   have vl:oV (zB ns) (.inr m) = some (.int ((0 + i:Nat):Int)):=Kw nd hi
   have dg:ur H' n (kV (.inr m)) (some (.int ((0 + i:Nat):Int))):=vl ▸ ur.k (k:=.inr m) (S1 _ _ hn)
   refine ⟨_,S1 _ _ b,rfl,_,_,rfl,_,_,rfl,rfl,_,dg,?_⟩
   rw [if_neg (by simp)]
   refine ⟨⟨_,h1⟩,_,dg,dR,fun p hp=>?_⟩
   have rp:r ≠ p:=bD h1 hp
   have zl:zs.length < sizeLine:=by
    have h9:101 < sizeLine:=by decide
    rw [nw.len,bh]
    omega
   refine ⟨zs,(bI rp).trans h1,zl,(bI rr.symm).trans ((bI (bD hx hp)).trans hx),_,_,_,rfl,fun b' o' e'=>(bI (bD e' hrn)).trans ((bI (bD (S1 _ _ e') hp)).trans (S1 _ _ e')),bH,?_⟩
   rw [cH e]
   refine (nw.imp fun t ys e'=>?_).snoc hi ?_
   .rw [bI (fB e' h1 (by intro z; cases z)),bI (bD e' hp)]; exact e'
   .rw [bI rp.symm,bH,Nat.zero_add]
  .rintro σ' H' ⟨u,v,zs,rfl,S1,h1,nw⟩ hx
   rw [hw.len,aP] at nw
   walk_at "rd"
   exact q r H' zs S1 hrn h1 nw
noncomputable def del (as:List Addr) (H:Hp):Hp:=fun b=>if b ∈ as then none else H b
theorem fG {as:List Addr} {H:Hp} {b:Addr} {o:HO} (h:b ∉ as) (e:H b = some o):del as H b = some o:=by unfold del; rw [if_neg h]; exact e
theorem pK {as:List Addr} {H:Hp} {b:Addr} {o:HO} (e:del as H b = some o):b ∉ as/\H b = some o:=by
 unfold del at e
 split at e
 .cases e
 .exact ⟨by assumption,e⟩
theorem mY {as:List Addr} {H:Hp} : Same (del as H) H:=fun b o e=>(pK e).2
theorem oA {as:List Addr} {H H':Hp} (h:∀ b o,b ∉ as->H b = some o->H' b = some o):Same (del as H) (del as H'):=fun b o e=>let ⟨a,c⟩:=pK e; fG a (h b o a c)
structure Dr where
 nm:Str
 p:Addr
 ws:List (Str × Addr)
noncomputable def Uo (D:Adr) (H:Hp) (s:Addr) (g:Dr):Prop:=∃ C dx l xs,d7 D C/\H s = some (.ins C dx [("name",.str g.nm),("pay",.ref g.p),("leads",.ref l)])/\H l = some (.lst xs)/\Rr H xs g.ws/\g.ws.length <= 100
theorem Uo.same {H H':Hp} {s:Addr} {g:Dr} (S:Same H H') (h:Uo D H s g):Uo D H' s g:=let ⟨C,dx,l,xs,a,b,c,d,e⟩:=h; ⟨C,dx,l,xs,a,S _ _ b,S _ _ c,d.same S,e⟩
structure vd (D:Adr) (H:Hp) (xs:List V) (gs:List Dr):Prop where
 len:xs.length = gs.length
 at_:∀ (k:Nat) (g:Dr),gs[k]? = some g->∃ s,xs[k]? = some (.ref s)/\Uo D H s g
theorem vd.same {H H':Hp} {xs:List V} {gs:List Dr} (S:Same H H') (h:vd D H xs gs):vd D H' xs gs:=⟨h.len,fun k g e=>let ⟨s,a,b⟩:=h.at_ k g e; ⟨s,a,b.same S⟩⟩
structure oW (ns:List Str) (H:Hp) (zs:List V) (gs:List Dr):Prop where
 len:zs.length = gs.length
 at_:∀ (k:Nat) (g:Dr),gs[k]? = some g->∃ t r ys,zs[k]? = some (.ref t)/\H t = some (.tup [.str g.nm,.ref g.p,.ref r])/\H r = some (.lst ys)/\NWs ns H ys g.ws
theorem oW.same {ns:List Str} {H H':Hp} {zs:List V} {gs:List Dr} (S:Same H H') (h:oW ns H zs gs):oW ns H' zs gs:=⟨h.len,fun k g e=>let ⟨t,r,ys,a,b,c,d⟩:=h.at_ k g e; ⟨t,r,ys,a,S _ _ b,S _ _ c,d.imp fun _ _ z=>S _ _ z⟩⟩
theorem oW.snoc {ns:List Str} {H:Hp} {zs ys:List V} {gs:List Dr} {t r:Addr} {g:Dr} (h:oW ns H zs gs) (ht:H t = some (.tup [.str g.nm,.ref g.p,.ref r])) (hr:H r = some (.lst ys)) (hn:NWs ns H ys g.ws):oW ns H (zs ++ [.ref t]) (gs ++ [g]):=by
 refine ⟨by rw [aB,aB,h.len]; rfl,fun k g' e=>?_⟩
 by_cases hk:k < gs.length
 .rw [aF hk] at e
  obtain ⟨t',r',ys',a,b⟩:=h.at_ k g' e
  exact ⟨t',r',ys',by rw [aF (by rw [h.len]; exact hk)]; exact a,b⟩
 .rw [aD (by omega)] at e
  have e0:k - gs.length = 0:=by
   have:=(ao.mp e).1
   simp at this; omega
  rw [e0] at e
  cases e
  refine ⟨t,r,ys,?_,ht,hr,hn⟩
  rw [aD (by rw [h.len]; omega),h.len,e0]; rfl
noncomputable def BL (ns:List Str):List (Key × V):=ns.map fun n=>(.inr n,.bl true)
theorem YC {n:Str} {ns:List Str} (h:n ∉ ns):oV (BL ns) (.inr n) = none:=by
 unfold oV
 rw [List.find?_eq_none.mpr]
 .rfl
 .intro kv hk z
  unfold BL at hk
  obtain ⟨m,hm,rfl⟩:=List.mem_map.mp hk
  have z:(Sum.inr m:Key) = .inr n:=of_decide_eq_true z
  injection z with z
  exact h (z ▸ hm)
theorem Ux {n:Str} {ns:List Str} (h:n ∉ ns):putK (BL ns) (.inr n) (.bl true) = BL (ns ++ [n]):=by
 have a:((BL ns).any fun kv=>decide (kv.1 = .inr n)) = false:=by
  rw [List.any_eq_false]
  intro kv hk z
  unfold BL at hk
  obtain ⟨m,hm,rfl⟩:=List.mem_map.mp hk
  have z:(Sum.inr m:Key) = .inr n:=of_decide_eq_true z
  injection z with z
  exact h (z ▸ hm)
 unfold putK
 rw [a,if_neg (by decide)]
 unfold BL
 rw [bA]; rfl
noncomputable def Pb (H:Hp) (as:List Addr):Prop:=∀ a ∈ as,∃ u,H a = some u/\∀ ys,u ≠ .tup ys
noncomputable def nW (D:Adr):Sp:=fun vs H Q _=>∃ (l n:Addr) (xs:List V) (gs:List Dr) (ns:List Str),vs = [.ref l,.ref n]/\H l = some (.lst xs)/\vd D H xs gs/\gs.length <= 100/\(gs.map (·.nm)).Nodup/\H n = some (.dK (zB ns))/\ns.Nodup/\(∀ g ∈ gs,∀ z ∈ g.ws,z.1 ∈ ns) /\
 ∀ r H' zs,Same H H'->H r = none->H' r = some (.lst zs)->(∀ as,Pb H as->oW ns (del as H') zs gs)->Q (.ref r) H'
noncomputable def oJ (l n d r:Addr) (ns:List Str) (gs:List Dr) (H:Hp) (k:Nat) (σ:L2.St) (H':Hp):Prop:=∃ u zs,σ = [some (.ref l),some (.ref n),some (.ref d),some (.ref r),u]/\Same H H'/\H' d = some (.dK (BL ((gs.take k).map (·.nm))))/\H' r = some (.lst zs)/\∀ as,Pb H as->oW ns (del (d :: r :: as) H') zs (gs.take k)
theorem Js (F:Fun K lN lN sW f fd) (T:Txt K mg D) (m6:OkF P w K mg base 2 fW fX (iY D)):cD P w K mg base CX0 3 f fd kJ (nW D):=by
 refine F.ok nF (fun vs H Q E h=>?_) (fun cdv A outer s H vs Q E hr h=>?_)
 .obtain ⟨l,n,xs,gs,ns,rfl,_⟩:=h
  rfl
 .obtain ⟨l,n,xs,gs,ns,rfl,hl,dr,n100,ndg,hn,nd,hin,q⟩:=h
  refine ⟨_,(bK (bZ (i:=2) nF.nd rfl (Or.inl rfl) Bo)
   (bK (bZ (i:=3) nF.nd rfl (Or.inl rfl) (ji bG))
   (bK (jo PassesOwn.never rfl (dj ((pv 0)).mono) (cI (i:=4) nF.nd rfl (Or.inl rfl))
    (bK (cQ (Ov (Xu (vo hr) (qu (pv 4) rfl) (pv 2)))
     (bL oF)
     cj)
    (bK (Jx (vo hr) (pv 2) (qu (pv 4) rfl) jY rfl)
    (bL (cU (pq (pv 3) (bC (dO (bC (qu (pv 4) rfl) (bC (qu (pv 4) rfl) (bC (bN m6 (hr.mono (by decide)) (by rfl) (bC (pv 4) (bC (pv 1) bG))) bG)))) bG)))))))
   (bL (cg (pv 3)))))),?_⟩
  unfold iY
  walk_at "rd"
  refine fun d hd=>⟨by decide,fun r hrn=>iD ?_⟩
  walk_at "rd"
  have dr0:d ≠ r:=bD bH hrn
  have hrn':H r = none:=(bI dr0.symm).symm.trans hrn
  have st:Same H (upd (upd H d (.dK [])) r (.lst [])):=fun b o e=>(bI (bD e hrn')).trans ((bI (bD e hd)).trans e)
  refine ⟨xs,st _ _ hl,oJ l n d r ns gs H,⟨none,[],rfl,st,(bI dr0).trans bH,bH,fun as _=>⟨rfl,fun k g e=>by simp at e⟩⟩,?_,?_⟩
  .rintro k x σ' H' hk ⟨u,zs,rfl,S1,h1,h2,of_⟩ hx
   have lk:k < gs.length:=by rw [<- dr.len]; exact (ao.mp hk).1
   have e:gs[k]? = some gs[k]:=aj lk
   have hm:=hin _ (aV lk)
   obtain ⟨t,a,b⟩:=dr.at_ k _ e
   rw [hk] at a
   cases a
   have no:gs[k].nm ∉ (gs.take k).map (·.nm):=by
    rw [List.map_take]
    exact Bf ndg (by rw [au,e]; rfl)
   generalize gs[k] = g at *
   obtain ⟨C,dx,ll,ys,hC,hs,hll,hw,w100⟩:=b.same S1
   walk_at "rd"
   refine ⟨C,dx,_,hs,T.cl C hC.fam,T.Ai C hC.fam,_,rfl,_,ur.k (k:=.inr g.nm) h1,?_⟩
   rw [YC no,if_neg (by decide)]
   have hlen:(BL ((gs.take k).map (·.nm))).length < sizeLine:=by
    have h9:101 < sizeLine:=by decide
    unfold BL
    rw [ak,ak,bh]
    omega
   have up:∀ {b o},b ≠ d->H' b = some o->upd H' d (.dK (putK (BL ((gs.take k).map (·.nm))) (.inr g.nm) (.bl true))) b = some o:=fun {b o} h e=>(bI h).trans e
   have td:t ≠ d:=fB hs h1 (by intro z; cases z)
   have ld:ll ≠ d:=fB hll h1 (by intro z; cases z)
   have nd_:n ≠ d:=bD hn hd
   refine ⟨C,dx,_,hs,T.cl C hC.fam,T.Ai C hC.fam,_,rfl,_,Oq.k (k:=.inr g.nm) h1 hlen,⟨zs,up dr0.symm h2⟩,C,dx,_,up td hs,T.cl C hC.fam,T.Ai C hC.fam,_,rfl,C,dx,_,up td hs,T.cl C hC.fam,T.Uk C hC.fam,_,rfl,C,hC,dx,g.p,ll,⟨g.nm,up td hs⟩,ys,up ld hll,g.ws,⟨hw.len,fun k g e=>let ⟨t,a,b⟩:=hw.at_ k g e; ⟨t,a,up (fB b h1 (by intro z; cases z)) b⟩⟩,w100,ns,up nd_ (S1 _ _ hn),nd,hm,?_⟩
   intro r3 H3 z3 S3 f3 e3 w3
   refine ⟨by decide,fun p hp=>?_⟩
   have lr:l ≠ r:=bD hl hrn'
   have ld0:l ≠ d:=bD hl hd
   have a1:=S3 _ _ (up dr0.symm h2)
   have a2:=S3 d _ bH
   have rp:r ≠ p:=bD a1 hp
   have dp:d ≠ p:=bD a2 hp
   have a3:=S3 _ _ (up ld0 hx)
   have zl:zs.length < sizeLine:=by
    have h9:101 < sizeLine:=by decide
    rw [(of_ [] (by intro a ha; cases ha)).len,bh]
    omega
   have r3p:r3 ≠ p:=bD e3 hp
   refine ⟨zs,(bI rp).trans a1,zl,(bI lr).trans ((bI (bD a3 hp)).trans a3),_,_,rfl,fun b o e'=>?_,?_,bH,?_⟩
   .have c:=S3 _ _ (up (bD e' hd) (S1 _ _ e'))
    rw [bI (bD e' hrn'),bI (bD c hp)]
    exact c
   .rw [bI dr0,bI dp,a2,Ux no,cH e,bA]; rfl
   .intro as has
    have r3n:r3 ∉ d :: r :: as:=by
     simp only [List.mem_cons,not_or]
     refine ⟨fun z=>(by rw [z,bH] at f3; cases f3),fun z=>(by rw [z,up dr0.symm h2] at f3; cases f3),fun z=>?_⟩
     obtain ⟨u,hu,_⟩:=has _ z
     rw [up (bD hu hd) (S1 _ _ hu)] at f3
     cases f3
    have asp:∀ a ∈ as,∃ u,H3 a = some u/\∀ ys,u ≠ .tup ys:=fun a ha=>let ⟨u,hu,n⟩:=has a ha; ⟨u,S3 _ _ (up (bD hu hd) (S1 _ _ hu)),n⟩
    have pn:p ∉ d :: r :: as:=by
     simp only [List.mem_cons,not_or]
     exact ⟨dp.symm,rp.symm,fun z=>let ⟨u,hu,_⟩:=asp _ z; bD hu hp rfl⟩
    have u2:∀ {b o},b ∉ d :: r :: as->(upd H3 p (.tup [.str g.nm,.ref g.p,.ref r3])) b = some o->del (d :: r :: as) (upd (upd H3 p (.tup [.str g.nm,.ref g.p,.ref r3])) r (.lst (zs ++ [.ref p]))) b = some o:=fun {b o} h e=>fG h ((bI (by simp only [List.mem_cons,not_or] at h; exact h.2.1)).trans e)
    rw [cH e]
    refine ((of_ as has).same fun b o e'=>?_).snoc (u2 pn bH) (u2 r3n ((bI r3p).trans e3)) (w3.imp fun t ys e'=>?_)
    .obtain ⟨b1,b2⟩:=pK e'
     have c:=S3 _ _ (up (by simp only [List.mem_cons,not_or] at b1; exact b1.1) b2)
     exact u2 b1 ((bI (bD c hp)).trans c)
    .refine u2 ?_ ((bI (bD e' hp)).trans e')
     simp only [List.mem_cons,not_or]
     exact ⟨fB e' a2 (by intro z; cases z),fB e' a1 (by intro z; cases z),fun z=>let ⟨u,hu,n⟩:=asp _ z; n _ (Option.some.inj (hu.symm.trans e'))⟩
  .rintro σ' H' ⟨u,zs,rfl,S1,h1,h2,of_⟩ hx
   rw [dr.len,aP] at of_
   walk_at "rd"
   exact q r H' zs S1 hrn' h2 fun as has=>(of_ as has).same fun b o e=>let ⟨a,c⟩:=pK e; fG (fun z=>a (aJ _ (aJ _ z))) c
structure lU (D:Adr) (H:Hp) (xs:List V) (rms:List (Str × List Dr)):Prop where
 len:xs.length = rms.length
 at_:∀ (k:Nat) (g:Str × List Dr),rms[k]? = some g->∃ t l ys,xs[k]? = some (.ref t)/\H t = some (.tup [.str g.1,.ref l])/\H l = some (.lst ys)/\vd D H ys g.2
theorem lU.rooms {H:Hp} {xs:List V} {rms:List (Str × List Dr)} (h:lU D H xs rms):Pu H xs (rms.map (·.1)):=⟨by rw [h.len,ak],fun k n e=>by
 rw [au] at e
 cases e0:rms[k]? with
 | none=>rw [e0] at e; cases e
 | some g =>
  rw [e0] at e
  cases e
  obtain ⟨t,l,ys,a,b,_⟩:=h.at_ k g e0
  exact ⟨t,_,a,b⟩⟩
theorem lU.same {H H':Hp} {xs:List V} {rms:List (Str × List Dr)} (S:Same H H') (h:lU D H xs rms):lU D H' xs rms:=⟨h.len,fun k g e=>let ⟨t,l,ys,a,b,c,d⟩:=h.at_ k g e; ⟨t,l,ys,a,S _ _ b,S _ _ c,d.same S⟩⟩
structure sZ (ns:List Str) (H:Hp) (zs:List V) (gss:List (List Dr)):Prop where
 len:zs.length = gss.length
 at_:∀ (k:Nat) (gs:List Dr),gss[k]? = some gs->∃ l ys,zs[k]? = some (.ref l)/\H l = some (.lst ys)/\oW ns H ys gs
theorem sZ.same {ns:List Str} {H H':Hp} {zs:List V} {gss:List (List Dr)} (S:Same H H') (h:sZ ns H zs gss):sZ ns H' zs gss:=⟨h.len,fun k g e=>let ⟨l,ys,a,b,c⟩:=h.at_ k g e; ⟨l,ys,a,S _ _ b,c.same S⟩⟩
theorem sZ.snoc {ns:List Str} {H:Hp} {zs ys:List V} {gss:List (List Dr)} {l:Addr} {gs:List Dr} (h:sZ ns H zs gss) (hl:H l = some (.lst ys)) (ho:oW ns H ys gs):sZ ns H (zs ++ [.ref l]) (gss ++ [gs]):=by
 refine ⟨by rw [aB,aB,h.len]; rfl,fun k g' e=>?_⟩
 by_cases hk:k < gss.length
 .rw [aF hk] at e
  obtain ⟨l',ys',a,b⟩:=h.at_ k g' e
  exact ⟨l',ys',by rw [aF (by rw [h.len]; exact hk)]; exact a,b⟩
 .rw [aD (by omega)] at e
  have e0:k - gss.length = 0:=by
   have:=(ao.mp e).1
   simp at this; omega
  rw [e0] at e
  cases e
  refine ⟨l,ys,?_,hl,ho⟩
  rw [aD (by rw [h.len]; omega),h.len,e0]; rfl
theorem yK {H:Hp} {o b C0 dx0:Addr} {u:HO} (ho:H o = some (.ins C0 dx0 [])) (e:H b = some u) (n:u ≠ .ins C0 dx0 []):del [o] H b = some u:=fG (by simp only [List.mem_singleton]; exact fB e ho n) e
theorem lU.off {H:Hp} {o C0 dx0:Addr} {xs:List V} {rms:List (Str × List Dr)} (ho:H o = some (.ins C0 dx0 [])) (h:lU D H xs rms):lU D (del [o] H) xs rms:=⟨h.len,fun k g e=>by
 obtain ⟨t,l,ys,a,b,c,d⟩:=h.at_ k g e
 refine ⟨t,l,ys,a,yK ho b (by intro z; cases z),yK ho c (by intro z; cases z),d.len,fun k g e=>?_⟩
 obtain ⟨s,a,C,dx,l,xs,h1,h2,h3,h4,h5⟩:=d.at_ k g e
 exact ⟨s,a,C,dx,l,xs,h1,yK ho h2 (by intro z; injection z with _ _ z; cases z),yK ho h3 (by intro z; cases z),⟨h4.len,fun k g e=>let ⟨t,a,b⟩:=h4.at_ k g e; ⟨t,a,yK ho b (by intro z; cases z)⟩⟩,h5⟩⟩
structure Qh (rms:List (Str × List Dr)):Prop where
 len:rms.length <= 20
 nd:(rms.map (·.1)).Nodup
 wd:∀ g ∈ rms,Wd g.1
 few:∀ g ∈ rms,g.2.length <= 100
 dn:∀ g ∈ rms,(g.2.map (·.nm)).Nodup
 to_:∀ g ∈ rms,∀ d ∈ g.2,∀ z ∈ d.ws,z.1 ∈ rms.map (·.1)
noncomputable def jm (D:Adr) (H:Hp) (a p:Addr) (rms:List (Str × List Dr)):Prop:=∃ dx n l zs,H a = some (.ins D.Hall dx [("share",.ref p),("numbers",.ref n),("offered",.ref l)])/\H n = some (.dK (zB (rms.map (·.1))))/\H l = some (.lst zs)/\sZ (rms.map (·.1)) H zs (rms.map (·.2))
theorem jm.same {H H':Hp} {a p:Addr} {rms:List (Str × List Dr)} (S:Same H H') (h:jm D H a p rms):jm D H' a p rms:=let ⟨dx,n,l,zs,b,c,d,e⟩:=h; ⟨dx,n,l,zs,S _ _ b,S _ _ c,S _ _ d,e.same S⟩
noncomputable def nU (K:Frag) (D:Adr):Sp:=fun vs H Q _=>∃ (o dx p l:Addr) (x y:Int) (xs:List V) (rms:List (Str × List Dr)),vs = [.ref o,.ref p,.ref l]/\H o = some (.ins D.Hall dx [])/\Fk K H p x y/\0 <= x/\x < y/\Bd x/\Bd y/\H l = some (.lst xs)/\lU D H xs rms/\Qh rms /\
 ∀ H',Keep o H H'->jm D H' o p rms->Q .non H'
noncomputable def hJ (o D1:Addr) (rms:List (Str × List Dr)) (H:Hp) (k:Nat) (zs:List V) (H':Hp):Prop:=Same H H'/\H' D1 = some (.lst zs)/\sZ (rms.map (·.1)) (del [o,D1] H') zs ((rms.take k).map (·.2))
theorem G4 (F:Fun K xO xX oZ f fd) (T:Txt K mg D) (pO:OkF P w K mg base 3 iT iB (lA (K:=K))) (qI:OkF P w K mg base 2 jy ju mH) (sU:OkF P w K mg base 3 lN kJ (nW D)):cD P w K mg base CX0 4 f fd lH (nU K D):=by
 refine F.ok Ju (fun vs H Q E h=>?_) (fun cdv A outer s H vs Q E hr h=>?_)
 .obtain ⟨o,dx,p,l,x,y,xs,rms,rfl,_⟩:=h
  rfl
 .obtain ⟨o,dx,p,l,x,y,xs,rms,rfl,ho,fk,x0,xy,bx,b_y,hl,hR,ok,q⟩:=h
  refine ⟨_,(bK (cU (bN pO (hr.mono (by decide)) (by rfl) (bC (pv 1) bG)))
   (bK (su (pv 0) (pv 1) rfl)
   (bK (su (pv 0) (bN qI (hr.mono (by decide)) (by rfl) (bC (pv 2) bG)) rfl)
   (bL (su (pv 0) (jr (bM oZ) uI uI ["room"] (dj ((pv 2)).mono) (dZ (i:=0)) dh (bN sU (hr.mono (by decide)) (by rfl) (bC (bR cG (pv 0) bF (fun _ _=>rfl)) (bC (Yk (K':=K) rfl (pv 1) rfl) bG)))) rfl))))),?_⟩
  unfold lA mH nW
  walk_at "rd"
  have hR0:=hR.off ho
  have hl0:del [o] H l = some (.lst xs):=yK ho hl (by intro z; cases z)
  have S1:∀ u,Same (del [o] H) (upd H o u):=fun u b v e=>by
   obtain ⟨b1,b2⟩:=pK e
   exact (bI (by simpa using b1)).trans b2
  have cl:=T.sI
  refine ⟨x,y,fk,x0,xy,bx,b_y,D.Hall,dx,[],ho,cl,T.vg,(by show 0 < 1000; decide),xs,S1 _ _ _ hl0,_,(hR0.same (S1 _)).rooms,ok.nd,fun g hg=>?_,by rw [ak]; exact ok.len,fun d H2 S2 f2 e2=>?_⟩
  .obtain ⟨g',hg',rfl⟩:=List.mem_map.mp hg
   exact ok.wd g' hg'
  have od:d ≠ o:=fun z=>by rw [z,bH] at f2; cases f2
  refine ⟨D.Hall,dx,_,S2 _ _ bH,cl,T.m_,(by show 1 < 1000; decide),c7 ?_⟩
  have S3:∀ u,Same (del [o] H) (upd H2 o u):=fun u b v e=>(bI (by have:=(pK e).1; simpa using this)).trans (S2 _ _ (S1 _ _ _ e))
  walk_at "rd"
  have hz9:21 < sizeLine:=by decide
  have n20:=ok.len
  refine ⟨xs,S3 _ _ _ hl0,by rw [hR.len]; omega,fun D1 hD1=>?_⟩
  have eo:upd H2 o (.ins D.Hall dx (lB "numbers" (.ref d) (lB "share" (.ref p) []))) o = some (.ins D.Hall dx [("share",.ref p),("numbers",.ref d)]):=bH
  have ed:upd H2 o (.ins D.Hall dx (lB "numbers" (.ref d) (lB "share" (.ref p) []))) d = some (.dK (zB (rms.map (·.1)))):=(bI od).trans e2
  have S4:=S3 (.ins D.Hall dx (lB "numbers" (.ref d) (lB "share" (.ref p) [])))
  generalize upd H2 o (.ins D.Hall dx (lB "numbers" (.ref d) (lB "share" (.ref p) []))) = H3 at eo ed S4 hD1 ⊢
  have oD:o ≠ D1:=bD eo hD1
  refine ⟨hJ o D1 rms H3,⟨Same.upd hD1,bH,rfl,fun k g e=>by simp at e⟩,?_,?_⟩
  .rintro k x1 ys Hc hk ⟨S5,h5,of_⟩ hy hlc
   have lk:k < rms.length:=by rw [<- hR.len]; exact (ao.mp hk).1
   have e:rms[k]? = some rms[k]:=aj lk
   have hm:=aV lk
   obtain ⟨t,ll,ds,a,b,c,dd⟩:=(hR0.same (S4.trans S5)).at_ k _ e
   rw [hk] at a
   cases a
   generalize rms[k] = g at *
   refine ⟨t,rfl,_,b,_,cX,D.Hall,dx,_,S5 _ _ eo,cl,T.m_,_,rfl,ll,rfl,d,rfl,ds,c,g.2,dd,ok.few g hm,ok.dn g hm,_,S5 _ _ ed,ok.nd,ok.to_ g hm,?_⟩
   intro r H4 zs S6 f6 e6 o6
   have h4:=S6 _ _ h5
   have ho4:=S6 _ _ (S5 _ _ eo)
   refine ⟨h4,S6 _ _ hlc,fun b v e'=>?_,bH,?_⟩
   .exact (bI (bD e' hD1)).trans (S6 _ _ (S5 _ _ e'))
   .have ee:del [o,D1] (upd H4 D1 (.lst (ys ++ [.ref r]))) = del [o,D1] H4:=by
     funext b
     unfold del
     split
     .rfl
     .rename_i hb
      exact bI (by simp at hb; exact hb.2)
    rw [ee,cH e,bA]
    refine (of_.same (oA fun b v _ e'=>S6 _ _ e')).snoc (fG ?_ e6) (o6 [o,D1] ?_)
    .simp only [List.mem_cons,List.not_mem_nil,or_false,not_or]
     exact ⟨fun z=>(by rw [z,S5 _ _ eo] at f6; cases f6),fun z=>(by rw [z,h5] at f6; cases f6)⟩
    .intro a ha
     simp only [List.mem_cons,List.not_mem_nil,or_false] at ha
     rcases ha with rfl | rfl
     .exact ⟨_,S5 _ _ eo,by intro ys z; cases z⟩
     .exact ⟨_,h5,by intro ys z; cases z⟩
  .rintro ys Hc ⟨S5,h5,of_⟩ hy
   rw [hR.len,aP] at of_
   refine ⟨D.Hall,dx,_,S5 _ _ eo,cl,T.qZ,(by show 2 < 1000; decide),q _ (fun b v nb e=>?_) ⟨dx,d,D1,ys,bH,(bI (fun z=>od (by rw [z]))).trans (S5 _ _ ed),(bI oD.symm).trans h5,of_.same fun b v e=>?_⟩⟩
   .exact (bI nb).trans (S5 _ _ (S4 _ _ (fG (by simpa using nb) e)))
   .obtain ⟨b1,b2⟩:=pK e
    exact (bI (by simp at b1; exact b1.1)).trans b2
noncomputable def lF (D:Adr):Sp:=fun vs H Q _=>∃ (o p:Addr) (rms:List (Str × List Dr)),vs = [.ref o]/\jm D H o p rms/\Q (.int rms.length) H
theorem Jv (F:Fun K wX wV uF f fd) (T:Txt K mg D):cD P w K mg base CX0 1 f fd iV (lF D):=by
 refine F.ok Hs (fun vs H Q E h=>?_) (fun cdv A outer s H vs Q E hr h=>?_)
 .obtain ⟨o,p,rms,rfl,_⟩:=h
  rfl
 .obtain ⟨o,p,rms,rfl,⟨dx,n,l,zs,ho,hn,hl,of_⟩,q⟩:=h
  refine ⟨_,(bL (cg (b_ Gi (by rfl) T.eN PySem.boot_len (bC (qu (pv 0) rfl) bG)))),?_⟩
  walk_at "rd"
  refine ⟨D.Hall,dx,_,ho,T.sI,T.m_,_,rfl,n,_,rfl,hn,?_⟩
  rw [Cj,ak]
  exact q
noncomputable def mK (D:Adr):Sp:=fun vs H Q _=>∃ (o p:Addr) (k:Nat) (rms:List (Str × List Dr)),vs = [.ref o,.int k]/\jm D H o p rms/\k < rms.length/\Q .non H
theorem vW (F:Fun K oM ou j7 f fd) (T:Txt K mg D) (dw:OkF P w K mg base 1 fY gA kO) (jT:OkI P w K mg base CX0 1 D.Hall_size iV (lF D)): cD P w K mg base CX0 2 f fd eF (mK D):=by
 refine F.ok vR (fun vs H Q E h=>?_) (fun cdv A outer s H vs Q E hr h=>?_)
 .obtain ⟨o,p,k,rms,rfl,_⟩:=h
  rfl
 .obtain ⟨o,p,k,rms,rfl,hh,lk,q⟩:=h
  refine ⟨_,(bL (cQ (PW.pt (pw_or (d_ (dD (bN dw (hr.mono (by decide)) (by rfl) (bC (pv 1) bG)) (fun _=>rfl))) (pw_or1 (d_ (Lh Ks tG bF (pv 1) (PE.any fun C (hC:fj D C)=>(zp (pv 0) (T.cl C hC.fam) (T.yE C hC) jT (hr.mono (by decide)))))))))
    (bL oF)
    cj)),?_⟩
  unfold kO lF
  walk_at "rd"
  obtain ⟨dx,n,l,zs,ho,hn,hl,of_⟩:=hh
  rw [if_pos (by simp)]
  refine ⟨D.Hall,(by unfold fj; simp),dx,_,ho,rfl,p,rms,⟨dx,n,l,zs,ho,hn,hl,of_⟩,?_⟩
  rw [if_neg (by simp; omega)]
  exact q
noncomputable def fJ (D1:Addr) (ns:List Str) (gs:List Dr) (H:Hp) (k:Nat) (zs:List V) (H':Hp):Prop:=Same H H'/\H' D1 = some (.lst zs)/\∀ as,Pb H as->oW ns (del (D1 :: as) H') zs (gs.take k)
noncomputable def jW (D:Adr):Sp:=fun vs H Q _=>∃ (o p:Addr) (k:Nat) (rms:List (Str × List Dr)) (g:Str × List Dr),vs = [.ref o,.int k]/\jm D H o p rms/\rms[k]? = some g/\g.2.length <= 100/\(∀ d ∈ g.2,d.ws.length <= 100) /\
 ∀ r H' zs,Same H H'->H r = none->H' r = some (.lst zs)->(∀ as,Pb H as->oW (rms.map (·.1)) (del as H') zs g.2)->Q (.ref r) H'
theorem Dv (F:Fun K rW tO mF f fd) (T:Txt K mg D) (lG:OkI P w K mg base CX0 2 D.Hall_check_room eF (mK D)): cD P w K mg base CX0 3 f fd fU (jW D):=by
 refine F.ok Dc (fun vs H Q E h=>?_) (fun cdv A outer s H vs Q E hr h=>?_)
 .obtain ⟨o,p,k,rms,g,rfl,_⟩:=h
  rfl
 .obtain ⟨o,p,k,rms,g,rfl,hh,hg,g100,w100,q⟩:=h
  refine ⟨_,(bK (cU (PE.any fun C (hC:dH D C)=>(Bj (pv 0) (T.cl C hC.fam) (T.vQ C hC) lG (hr.mono (by decide)) (bC (pv 1) bG))))
   (bL (cg (jr (bM mF) pF pF ["name", "pay", "numbered"] (dj ((bR bO (qu (pv 0) rfl) (pv 1) (fun _ _=>rfl))).mono) (eY (n:=3) rfl (cu (dZ (i:=0)) (cu (dZ (i:=1)) (cu (dZ (i:=2)) eG)))) dh (dO (bC (pv 0) (bC (pv 1) (bC (gP vM (by rfl) T.pQ boot_list (bC (pv 2) bG)) bG)))))))),?_⟩
  unfold mK
  walk_at "rd"
  obtain ⟨dx,n,l,zs,ho,hn,hl,of_⟩:=hh
  have lk:=(ao.mp hg).1
  refine ⟨D.Hall,(by unfold dH; simp),dx,_,ho,rfl,p,k,rfl,rms,⟨dx,n,l,zs,ho,hn,hl,of_⟩,lk,oY ?_⟩
  obtain ⟨ll,ys,a,b,c⟩:=of_.at_ k g.2 (by rw [au,hg]; rfl)
  have z9:101 < sizeLine:=by decide
  walk_at "rd"
  refine ⟨D.Hall,dx,_,ho,T.sI,T.qZ,_,rfl,l,rfl,zs,hl,_,bU a,ll,rfl,ys,b,by rw [c.len]; omega,fun D1 hD=>?_⟩
  refine ⟨fJ D1 (rms.map (·.1)) g.2 H,⟨Same.upd hD,bH,fun as _=>⟨rfl,fun k g e=>by simp at e⟩⟩,?_,?_⟩
  .rintro i x1 zs1 Hc hi ⟨S5,h5,o5⟩ hy hlc pre hpre
   have li:i < g.2.length:=by rw [<- c.len]; exact (ao.mp hi).1
   have e:g.2[i]? = some g.2[i]:=aj li
   have hm:=w100 _ (aV li)
   obtain ⟨t,r,ws,ea,eb,ec,ed⟩:=(c.same S5).at_ i _ e
   rw [hi] at ea
   cases ea
   generalize g.2[i] = d at *
   obtain ⟨u1,u2,u3,rfl⟩ : ∃ a b c,pre = [a,b,c]:=by
    match pre,hpre with
    | [a,b,c],_=>exact ⟨a,b,c,rfl⟩
   walk_at "rd"
   refine ⟨_,eb,rfl,_,_,rfl,_,_,rfl,_,_,rfl,rfl,[_,_,_],rfl,rfl,?_⟩
   refine ⟨r,rfl,ws,ec,fun l1 hl1=>⟨by decide,fun p1 hp1=>?_⟩⟩
   have lp:l1 ≠ p1:=bD bH hp1
   have hp1':Hc p1 = none:=(bI lp.symm).symm.trans hp1
   have S6:Same Hc (upd (upd Hc l1 (.lst ws)) p1 (.tup [.str d.nm,.ref d.p,.ref l1])):=(Same.upd hl1).trans (Same.upd hp1)
   have e6:upd (upd Hc l1 (.lst ws)) p1 (.tup [.str d.nm,.ref d.p,.ref l1]) l1 = some (.lst ws):=(bI lp).trans bH
   have e7:upd (upd Hc l1 (.lst ws)) p1 (.tup [.str d.nm,.ref d.p,.ref l1]) p1 = some (.tup [.str d.nm,.ref d.p,.ref l1]):=bH
   generalize upd (upd Hc l1 (.lst ws)) p1 (.tup [.str d.nm,.ref d.p,.ref l1]) = H7 at S6 e6 e7 ⊢
   refine ⟨S6 _ _ h5,S6 _ _ hlc,fun b v e'=>(bI (bD e' hD)).trans (S6 _ _ (S5 _ _ e')),bH,fun as has=>?_⟩
   have nin:∀ {b},Hc b = none->b ∉ D1 :: as:=fun {b} hb=>by
    simp only [List.mem_cons,not_or]
    exact ⟨fun z=>(by rw [z,h5] at hb; cases hb),fun z=>let ⟨u,hu,_⟩:=has _ z; bD (S5 _ _ hu) hb rfl⟩
   have u2:∀ {b o},b ∉ D1 :: as->H7 b = some o->del (D1 :: as) (upd H7 D1 (.lst (zs1 ++ [.ref p1]))) b = some o:=fun {b o} h e=>fG h ((bI (by simp only [List.mem_cons,not_or] at h; exact h.1)).trans e)
   rw [cH e]
   refine ((o5 as has).same fun b v e'=>?_).snoc (u2 (nin hp1') e7) (u2 (nin hl1) e6) (ed.imp fun t us e'=>u2 ?_ (S6 _ _ e'))
   .obtain ⟨b1,b2⟩:=pK e'
    exact u2 b1 (S6 _ _ b2)
   .simp only [List.mem_cons,not_or]
    exact ⟨fB e' h5 (by intro z; cases z),fun z=>let ⟨u,hu,n⟩:=has _ z; n _ (Option.some.inj ((S5 _ _ hu).symm.trans e'))⟩
  .rintro zs1 Hc ⟨S5,h5,o5⟩ _
   rw [c.len,aP] at o5
   exact q D1 Hc zs1 S5 hD h5 fun as has=>(o5 as has).same fun b o e=>let ⟨a,c⟩:=pK e; fG (fun z=>a (aJ _ z)) c
noncomputable def uJ (C:Addr):Sp:=fun vs H Q _=>∃ a v,vs = [.ref a,v]/\H a = some (XN a C none)/\∀ d,H d = none->d ≠ a->Q .non (upd (upd H a (XN a C (some d))) d (.xd [("room",v)]))
theorem DG (F:Fun K sJ rF pL f fd) (T:Txt K mg D):cD P w K mg base CX0 1 f fd gW (uJ D.NoPlan):=by
 refine F.okB Cm (fun vs H Q E h=>?_) (fun cdv A outer s H vs Q E hr h=>?_)
 .obtain ⟨a,v,rfl,_⟩:=h
  rfl
 .obtain ⟨a,v,rfl,ha,q⟩:=h
  refine ⟨_,(cB (PSB.mk (cU (V2 T.ib_HallError T.xi_NoPlan (by rfl) T.Mg (bC (pv 0) (bC jq bG)))))
   (xJ (PSB.mk (ZR (pv 0) (pv 1) rfl)))),?_⟩
  exact ⟨_,rfl,a,[_],rfl,ha,by decide,_,rfl,_,rfl,a,D.NoPlan,rfl,ha,T.xs_NoPlan,T.uq,q⟩
theorem C_ {H H':Hp} (S:Same H H') {v:V} {t:String} (h:tyS H v = some t):tyS H' v = some t:=by
 cases v with
 | ref a =>
  have h:(match H a with
   | some (.lst _)=>some "list"
   | some (.tup _)=>some "tuple"
   | some (.dK _)=>some "dict"
   | _=>none) = some t:=h
  show (match H' a with
   | some (.lst _)=>some "list"
   | some (.tup _)=>some "tuple"
   | some (.dK _)=>some "dict"
   | _=>none) = some t
  split at h
  .rename_i e; rw [S a _ e]; exact h
  .rename_i e; rw [S a _ e]; exact h
  .rename_i e; rw [S a _ e]; exact h
  .cases h
 | _=>exact h
noncomputable def afJ (n:Nat):V->Prop | .int k=>0 <= k/\k < n | _=>False
noncomputable def Odd (H:Hp) (v:V):Prop:=∃ t,tyS H v = some t
theorem Odd.same {H H':Hp} {v:V} (h:Odd H v) (S:Same H H'):Odd H' v:=h.imp fun _ z=>C_ S z
theorem abw {H:Hp} {v:V} {t:String} (h:tyS H v = some t) (n:∀ k,v ≠ .int k):(t == "int") = false:=by
 cases v with
 | int k=>exact absurd rfl (n k)
 | ref a =>
  unfold tyS at h
  dsimp only at h
  split at h <;> cases h <;> rfl
 | _=>cases h <;> rfl
theorem YG {H:Hp} {a d:Addr} {o o' x:HO} (n:H a = none) (e:d ≠ a):out (upd (upd (upd H a o) a o') d x) a = upd H d x:=by
 funext b
 by_cases z:b = a
 .subst z; rw [LR,bI (Ne.symm e),n]
 .rw [uE z]
  by_cases y:b = d
  .subst y; rw [bH,bH]
  .rw [bI y,bI z,bI z,bI y]
theorem Nz {C:Addr} {E:XK} {v:V} {t:TA} {R:Ends} {σ:L2.St} {H:Hp} (ht:∀ Q:List V->Hp->Prop,Q [v] H->t σ H Q) (e:∀ d,H d = none->E (.ref C) (some d) (upd H d (.xd [("room",v)]))):IK C (uJ C) (fun C d _ H'=>E C d H') t R σ H :=
 ht _ ⟨(show 1 <= sizeLine by decide),fun a ha=>⟨a,v,rfl,bH,fun d hd da=>⟨rfl,some d,(bI (Ne.symm da)).trans bH,(by rw [YG ha da]; exact e d (by rw [bI da] at hd; exact hd))⟩⟩⟩
structure zm (rms:List (Str × List Dr)):Prop where
 len:rms.length <= 20
 few:∀ g ∈ rms,g.2.length <= 100
 ways:∀ g ∈ rms,∀ d ∈ g.2,d.ws.length <= 100
noncomputable def nG (v:V) (m:Nat):Bool:=if m = 0 then decide (v = .non) else match v with
 | .int i=>decide (0 <= i) && decide (i < m)
 | _=>false
noncomputable def Hx:Sp:=fun vs H Q _=>∃ (v:V) (m:Nat),vs = [v,.int m]/\Odd H v/\Q (.bl (nG v m)) H
theorem Zc (F:Fun K wI wI O4 f fd) (T:Txt K mg D) (dw:OkF P w K mg base 1 fY gA kO):cD P w K mg base CX0 2 f fd wK Hx:=by
 refine F.ok Yy (fun vs H Q E h=>?_) (fun cdv A outer s H vs Q E hr h=>?_)
 .obtain ⟨v,m,rfl,_⟩:=h
  rfl
 .obtain ⟨v,m,rfl,⟨t,ot⟩,q⟩:=h
  refine ⟨_,(bK (cQ (cA iI (pv 1) bF (cC _))
    (bL (cg (oX Gy (pv 0) lg (cC _))))
    cj)
   (bL (cg (yR (bN dw (hr.mono (by decide)) (by rfl) (bC (pv 0) bG)) (Bu (Mq Ks tG bF (pv 0) (pv 1))))))),?_⟩
  unfold nG at q
  refine bV fun R1 hR1=>?_
  refine cZ ⟨_,rfl,rfl,decide (m = 0),congrArg V.bl (decide_eq_decide.mpr ?_),?_⟩
  .constructor
   .intro z; injection z with z; omega
   .intro z; rw [z]; rfl
  by_cases m0:m = 0
  .rw [if_pos m0] at q
   rw [decide_eq_true m0]
   exact ⟨_,rfl,rfl,q⟩
  .rw [if_neg m0] at q
   rw [decide_eq_false m0]
   show R1 _ _ _
   subst hR1
   refine gB ⟨_,rfl,v,t,rfl,ot,_,rfl,?_⟩
   by_cases iv:∃ k,v = .int k
   .obtain ⟨k,rfl⟩:=iv
    cases ot
    rw [if_pos (by decide)]
    have q:Q (V.bl (decide (0 <= k) && decide (k < m))) H:=q
    refine ⟨_,rfl,0,k,rfl,rfl,decide (0 <= k),rfl,?_⟩
    by_cases k0:0 <= k
    .rw [decide_eq_true k0] at q ⊢
     exact ⟨_,rfl,_,_,rfl,rfl,q⟩
    .rw [decide_eq_false k0] at q ⊢
     exact q
   .rw [abw ot fun k z=>iv ⟨k,z⟩]
    cases v with
    | int k=>exact absurd ⟨k,rfl⟩ iv
    | _=>exact q
theorem nq {H:Hp} {a:Addr} {xs:List V} (h:H a = some (.lst xs)):tyS H (.ref a) = some "list" := by
 unfold tyS
 dsimp only
 rw [h]
noncomputable def dnR (rms:List (Str × List Dr)) (k:Nat):Nat:=((rms[k]?).map (·.2.length)).getD 0
noncomputable def yw (D:Adr):Sp:=fun vs H Q E=>∃ (o p:Addr) (v:V) (rms:List (Str × List Dr)),vs = [.ref o,v]/\jm D H o p rms/\zm rms/\Odd H v /\
 ((∃ (l:Addr) (xs:List V),v = .ref l/\H l = some (.lst xs)/\xs.length = rms.length/\(∀ x ∈ xs,Odd H x) /\
   (((∀ k x,xs[k]? = some x->nG x (dnR rms k) = true)/\∀ H',Same H H'->Q (.bl true) H')
   \/ ∃ (k:Nat) (x:V),xs[k]? = some x/\nG x (dnR rms k) = false/\(∀ j y,j < k->xs[j]? = some y->nG y (dnR rms j) = true)/\∀ d H',Same H H'->H d = none->H' d = some (.xd [("room",.int (k:Nat))])->E (.ref D.NoPlan) (some d) H'))
 \/ ((∀ l xs,v = .ref l->H l = some (.lst xs)->xs.length ≠ rms.length)/\∀ d H',Same H H'->H d = none->H' d = some (.xd [("room",.non)])->E (.ref D.NoPlan) (some d) H'))
theorem Ud {H:Hp} {v:V} (h:tyS H v = some "list"):∃ l xs,v = .ref l/\H l = some (.lst xs):=by
 cases v with
 | ref a =>
  unfold tyS at h
  dsimp only at h
  split at h
  .rename_i e; exact ⟨a,_,rfl,e⟩
  all_goals first | cases h; done | exact absurd (Option.some.inj h) (by decide)
 | _=>first | cases h; done | exact absurd (Option.some.inj h) (by decide)
theorem CV (F:Fun K jx jx qJ f fd) (T:Txt K mg D) (MF:OkF P w K mg base 2 wI wK Hx) (jT:OkI P w K mg base CX0 1 D.Hall_size iV (lF D)) (gQ:OkI P w K mg base CX0 3 D.Hall_offers fU (jW D)) (mJ:OkI P w K mg base CX0 1 D.NoPlan_init gW (uJ D.NoPlan)):cD P w K mg base (CXO P w) 4 f fd jB (yw D):=by
 refine F.okX pA (fun vs H Q E h=>?_) (fun cdv A outer s H vs Q E hr h=>?_)
 .obtain ⟨o,p,v,rms,rfl,_⟩:=h
  rfl
 .obtain ⟨o,p,v,rms,rfl,hh,few,⟨ty,ov⟩,cs⟩:=h
  have hI:=hh
  obtain ⟨dx,nn,ll,zs0,ho,hn,hll,of_⟩:=hI
  refine ⟨_,(bK (cQ (PW.pt (pw_or (d_ (dD (b_ lM (by rfl) T.d8 boot_isinstance (bC (pv 1) (bC (nR (v:=.ty "list") (by rfl) T.pQ boot_list rfl) bG))) (fun _=>rfl))) (pw_or1 (cA Ra (b_ cJ (by rfl) T.eN PySem.boot_len (bC (pv 1) bG)) (PE.any fun C (hC:fj D C)=>(zp (pv 0) (T.cl C hC.fam) (T.yE C hC) jT (hr.mono (by decide)))) (cC _)))))
    (bL (Gr rfl (by rfl) T.Bq T.xi_NoPlan mJ (hr.mono (by decide)) Gj (bC lg bG)))
    cj)
   (bK (jo PassesOwn.leaving rfl (PX (by rfl) T.zQ (bC (pv 1) bG).mono) (eY (n:=2) rfl (cu (cI (i:=2) pA.nd rfl (Or.inl rfl)) (cu (cI (i:=3) pA.nd rfl (Or.inl rfl)) eG)))
    (bL (cQ (d_ (dD (bN MF (hr.mono (by decide)) (by rfl) (bC (pv 3) (bC (b_ cJ (by rfl) T.eN PySem.boot_len (bC (PE.any fun C (hC:dX D C)=>(Bj (pv 0) (T.cl C hC.fam) (T.uy C hC) gQ (hr.mono (by decide)) (bC (pv 2) bG))) bG)) bG))) (fun _=>rfl)))
     (bL (Gr rfl (by rfl) T.Bq T.xi_NoPlan mJ (hr.mono (by decide)) Gj (bC (pv 2) bG)))
     cj)))
   (bL (cg jY)))),?_⟩
  refine bV fun R1 hR1=>?_
  have no:∀ (k:V) (ta:TA) (R:Ends) (σ:L2.St) (H1:Hp),Same H H1->(∀ Q:List V->Hp->Prop,Q [k] H1->ta σ H1 Q)->(∀ d H',Same H H'->H d = none->H' d = some (.xd [("room",k)])->E (.ref D.NoPlan) (some d) H')->IK D.NoPlan (uJ D.NoPlan) (fun C d x H'=>E C d H') ta R σ H1:=fun k ta R σ H1 S ht e=>Nz ht fun d hd=>e d _ (S.trans (Same.upd hd)) (Same.free S hd) bH
  refine cZ ⟨_,rfl,v,_,ty,rfl,by simp,ov,_,rfl,?_⟩
  dsimp only
  have rf:Same H H:=fun _ _ z=>z
  by_cases tl:ty = "list"
  .subst tl
   obtain ⟨l,xs,rfl,hl⟩:=Ud ov
   rw [if_neg (by decide)]
   refine ⟨_,rfl,l,xs,rfl,hl,D.Hall,(by unfold fj; simp),_,rfl,o,dx,_,rfl,ho,rfl,o,p,rms,rfl,hh,rfl,!decide (xs.length = rms.length),?_,?_⟩
   .exact congrArg (fun b=>V.bl (!b)) (decide_eq_decide.mpr ⟨fun z=>by injection z with z; omega,fun z=>by rw [z]⟩)
   rcases cs with ⟨l',xs',e1,hl',ln,ox,cs⟩ | ⟨nl,e⟩
   .cases e1
    rw [hl] at hl'
    cases hl'
    rw [decide_eq_true ln]
    show R1 _ _ _
    subst hR1
    refine bV fun R1 hR1=>?_
    refine cZ (Bt ⟨_,rfl,l,xs,rfl,hl,fun k σ H'=>∃ u1 u2,σ = [some (.ref o),some (.ref l),u1,u2]/\Same H H'/\∀ j x,j < k->xs[j]? = some x->nG x (dnR rms j) = true,⟨none,none,rfl,rf,fun j x z=>absurd z (Nat.not_lt_zero _)⟩,?_,?_⟩)
    .rintro k x σ' H' t hk ⟨u1,u2,rfl,S1,fit⟩ hl' ht
     have S2:Same H' (upd H' t (.tup [.int k,x])):=Same.upd ht
     have e2:upd H' t (.tup [.int k,x]) t = some (.tup [.int k,x]):=bH
     generalize upd H' t (.tup [.int k,x]) = H2 at S2 e2 ⊢
     have SS:=S1.trans S2
     have lk:k < rms.length:=by rw [<- ln]; exact (ao.mp hk).1
     have eg:rms[k]? = some rms[k]:=aj lk
     have gm:=aV lk
     have dk:dnR rms k = rms[k].2.length:=by unfold dnR; rw [eg]; rfl
     have hl2:=S2 _ _ hl'
     refine ⟨t,_,rfl,e2,rfl,_,_,rfl,_,_,rfl,rfl,_,rfl,D.Hall,(by unfold dX; simp),_,rfl,o,dx,_,rfl,SS _ _ ho,rfl,_,rfl,o,p,k,rms,rms[k],rfl,hh.same SS,eg,few.few _ gm,few.ways _ gm,fun r H3 zs S3 f3 h3 of3=>⟨r,zs,rfl,h3,x,rms[k].2.length,by rw [(of3 [] (fun _ z=>by cases z)).len],(ox x (aC hk)).same (SS.trans S3),nG x (dnR rms k),by rw [dk]; rfl,?_⟩⟩
     have S13:=SS.trans S3
     have go:nG x (dnR rms k) = true->H3 l = some (.lst xs)/\∃ v1 v2,[some (V.ref o),some (V.ref l),some (V.int (k:Nat)),some x] = [some (.ref o),some (.ref l),v1,v2]/\Same H H3/\∀ j x,j < k + 1->xs[j]? = some x->nG x (dnR rms j) = true:=fun z=>⟨S3 _ _ hl2,_,_,rfl,S13,fun j y hj ey=>by
      by_cases e:j = k
      .subst e; rw [hk] at ey; cases ey; exact z
      .exact fit j y (by omega) ey⟩
     rcases cs with ⟨al,q⟩ | ⟨k0,x0,ek0,nf,bf,e⟩
     .have z:=al k x hk
      rw [z] at go ⊢
      exact go rfl
     .by_cases kk:k = k0
      .subst kk
       rw [hk] at ek0
       cases ek0
       rw [nf]
       dsimp only
       rw [if_pos (show (!false) = true from rfl)]
       exact no (.int (k:Nat)) (pY (Df 2) sV) _ _ _ S13 (fun Q r=>⟨_,rfl,r⟩) e
      .by_cases kl:k < k0
       .have z:=bf k x kl hk
        rw [z] at go ⊢
        exact go rfl
       .have:=fit k0 x0 (by omega) ek0
        rw [nf] at this
        cases this
    .rintro σ' H' ⟨u1,u2,rfl,S1,fit⟩ _
     subst hR1
     rcases cs with ⟨al,q⟩ | ⟨k0,x0,ek0,nf,bf,e⟩
     .exact q _ S1
     .have:=fit k0 x0 (ao.mp ek0).1 ek0
      rw [nf] at this
      cases this
   .rw [decide_eq_false (nl l xs rfl hl)]
    rw [if_pos (show (!false) = true from rfl)]
    exact no .non (pY (tC .non) sV) _ _ _ rf (fun Q r=>r) e
  .rw [if_pos (by simp [Ke,tl])]
   rw [if_pos rfl]
   rcases cs with ⟨l',xs',rfl,hl',_⟩ | ⟨nl,e⟩
   .rw [nq hl'] at ov
    exact absurd (Option.some.inj ov).symm tl
   .exact no .non (pY (tC .non) sV) _ _ _ rf (fun Q r=>r) e
noncomputable def stV:Option Nat->V
 | some k=>.int (k:Nat)
 | none=>.non
noncomputable def vJ (D1:Addr) (H:Hp) (vs:List V) (k:Nat) (ys:List V) (H':Hp):Prop:=Same H H'/\H' D1 = some (.lst ys)/\ys = vs.take k
theorem vJ.next {D1:Addr} {H H' H2:Hp} {vs ys:List V} {k:Nat} {v:V} (h:vJ D1 H vs k ys H') (hD:H D1 = none) (S:Same H' H2) (e:vs[k]? = some v):vJ D1 H vs (k + 1) (ys ++ [v]) (upd H2 D1 (.lst (ys ++ [v]))):=by
 obtain ⟨S1,h1,rfl⟩:=h
 exact ⟨fun b o z=>(bI (bD z hD)).trans (S _ _ (S1 _ _ z)),bH,(cH e).symm⟩
noncomputable def vl (f:Int × Int):Rat:=(f.1:Rat) / (f.2:Rat)
theorem kZ {x:Int} (h:0 < x):(x:Rat) ≠ 0:=fun z=>by
 have:=Rat.intCast_inj.mp (z.trans Rat.intCast_zero.symm)
 omega
theorem aaA {x y:Int × Int} (hx:0 < x.2) (hy:0 < y.2) (h:x.1 * y.2 = y.1 * x.2):vl x = vl y:=by
 have e:(x.1:Rat) * (y.2:Rat) = (y.1:Rat) * (x.2:Rat):=by rw [<- Rat.intCast_mul,<- Rat.intCast_mul,h]
 have:=kZ hx
 have:=kZ hy
 unfold vl
 grind
theorem Low.vl {t b x y:Int} (h:Low t b x y) (hb:0 < b):vl (x,y) = vl (t,b):=aaA h.pos hb h.eq
theorem Jk {x y u v:Int} (hy:0 < y) (hv:0 < v):vl (x * u,y * v) = vl (x,y) * vl (u,v):=by
 have:=kZ hy
 have:=kZ hv
 show ((x * u:Int):Rat) / ((y * v:Int):Rat) = (x:Rat) / (y:Rat) * ((u:Rat) / (v:Rat))
 rw [Rat.intCast_mul,Rat.intCast_mul]
 grind
theorem Oe {x y u v:Int} (hy:0 < y) (hv:0 < v):vl (x * v + u * y,y * v) = vl (x,y) + vl (u,v):=by
 have:=kZ hy
 have:=kZ hv
 show ((x * v + u * y:Int):Rat) / ((y * v:Int):Rat) = (x:Rat) / (y:Rat) + (u:Rat) / (v:Rat)
 rw [Rat.intCast_add,Rat.intCast_mul,Rat.intCast_mul,Rat.intCast_mul]
 grind
theorem abV (x:Int):vl (x,1) = (x:Rat):=by
 show (x:Rat) / ((1:Int):Rat) = x
 rw [Rat.intCast_one]
 grind
noncomputable def Bn (n:Nat) (x:Int):Prop:=x.natAbs <= 10 ^ n
theorem Bn.up {a b:Nat} {x:Int} (h:Bn a x) (l:a <= b):Bn b x:=aM h (Nat.pow_le_pow_right (by decide) l)
theorem Bn.mul {a b:Nat} {x y:Int} (h:Bn a x) (g:Bn b y):Bn (a + b) (x * y):=by
 unfold Bn
 rw [Int.natAbs_mul,Nat.pow_add]
 exact Nat.mul_le_mul h g
theorem Bn.add {a:Nat} {x y:Int} (h:Bn a x) (g:Bn a y):Bn (a + 1) (x + y):=by
 have h:x.natAbs <= 10 ^ a:=h
 have g:y.natAbs <= 10 ^ a:=g
 unfold Bn
 rw [Nat.pow_succ]
 omega
theorem Bn.bd {n:Nat} {x:Int} (h:Bn n x) (l:n <= 2400):Bd x:=Nat.lt_of_le_of_lt (h.up l) (by decide +kernel)
theorem Bn.lx {n:Nat} {t b x y:Int} (h:Bn n t) (l:Low t b x y):Bn n x:=aM l.lx h
theorem Bn.ly {n:Nat} {t b x y:Int} (h:Bn n b) (l:Low t b x y):Bn n y:=aM l.ly h
noncomputable def Dw:Sp:=fun vs H Q _=>∃ (p q:Addr) (x y u v:Int),vs = [.ref p,.ref q]/\H p = some (.tup [.int x,.int y])/\H q = some (.tup [.int u,.int v])/\Bd x/\Bd y/\Bd u/\Bd v/\0 < y/\0 < v/\Bd (y * v) /\
 ∀ r z o H',Same H H'->H r = none->H' r = some (.tup [.int z,.int o])->Low (x * u) (y * v) z o->Q (.ref r) H'
theorem Wi (F:Fun K rY rY HS f fd) (gF:OkF P w K mg base 2 jZ lE jA):cD P w K mg base CX0 3 f fd uw Dw:=by
 refine F.ok Wk (fun vs H Q E h=>?_) (fun cdv A outer s H vs Q E hr h=>?_)
 .obtain ⟨p,q,x,y,u,v,rfl,_⟩:=h
  rfl
 .obtain ⟨p,q,x,y,u,v,rfl,hp,hq,bx,b_y,bu,bv,y0,v0,byv,k⟩:=h
  refine ⟨_,(bL (cg (bN gF (hr.mono (by decide)) (by rfl) (bC (bQ cM (bR cG (pv 0) bF (fun _ _=>rfl)) (bR cG (pv 1) bF (fun _ _=>rfl))) (bC (bQ cM (bR cG (pv 0) bF (fun _ _=>rfl)) (bR cG (pv 1) bF (fun _ _=>rfl))) bG))))),?_⟩
  exact gB ⟨_,rfl,p,_,0,_,rfl,rfl,hp,dG,_,rfl,q,_,0,_,rfl,rfl,hq,dG,x,u,rfl,rfl,⟨bx,bu⟩,_,rfl,p,_,1,_,rfl,rfl,hp,cX,_,rfl,q,_,1,_,rfl,rfl,hq,cX,y,v,rfl,rfl,⟨b_y,bv⟩,_,_,rfl,Int.ne_of_gt (Int.mul_pos y0 v0),byv,fun r z o l hr=>k r z o _ (Same.upd hr) hr bH l⟩
theorem aaF {sp:Sp} {te:TE} {t:TA} {σ:L2.St} {H:Hp} {Q:VK} (h:te σ H fun x H1=>t σ H1 fun xs H2=>sp (x :: xs) H2 Q E0):yM sp (pY te t) σ H Q:=h
structure Ru (K:Frag) (H:Hp) (t:Addr) (f:Int × Int) (cs:List (Nat × Int × Int)):Prop where
 ex:∃ (nm:Str) (p r:Addr) (ys:List V),H t = some (.tup [.str nm,.ref p,.ref r])/\H p = some (.tup [.int f.1,.int f.2])/\H r = some (.lst ys)/\ys.length = cs.length/\∀ (k:Nat) c,cs[k]? = some c->∃ tt a,ys[k]? = some (.ref tt)/\H tt = some (.tup [.int (c.1:Nat),.ref a])/\SqT K H a [.int c.2.1,.int c.2.2]
theorem Ru.same {H H':Hp} {t:Addr} {f:Int × Int} {cs:List (Nat × Int × Int)} (h:Ru K H t f cs) (S:Same H H'):Ru K H' t f cs:=by
 obtain ⟨nm,p,r,ys,a,b,c,d,e⟩:=h.ex
 refine ⟨nm,p,r,ys,S _ _ a,S _ _ b,S _ _ c,d,fun k z ez=>?_⟩
 obtain ⟨tt,a2,x1,x2,x3⟩:=e k z ez
 exact ⟨tt,a2,x1,S _ _ x2,S.tup x3⟩
noncomputable def chF (cs:List (Nat × Int × Int)):List (Int × Int):=cs.map (·.2)
noncomputable def K1 (cs:List (Nat × Int × Int)) (Ts:List Int):Int:=(List.zipWith (fun p c=>p * Ts.getD c.1 0) (lvT (chF cs)) cs).sum
noncomputable def zA (K:Frag):Sp:=fun vs H Q _=>∃ (t T:Addr) (f:Int × Int) (cs:List (Nat × Int × Int)) (Ts:List Int),vs = [.ref t,.ref T]/\Ru K H t f cs/\H T = some (.lst (Ts.map V.int))/\cs.length <= 41/\(∀ c ∈ cs,c.1 < Ts.length/\Fq c.2)/\(∀ x ∈ Ts,Bd x) /\
 ∀ r z o H',Same H H'->H r = none->H' r = some (.tup [.int z,.int o])->Low (K1 cs Ts) (lvB (chF cs):Nat) z o->Q (.ref r) H'
theorem Xb {α β γ:Type} {g:α->β->γ} {xs:List α} {ys:List β} {k:Nat} {x:α} {y:β} (h1:xs[k]? = some x) (h2:ys[k]? = some y):(List.zipWith g xs ys)[k]? = some (g x y):=by
 rw [List.getElem?_zipWith,h1,h2]
theorem Wg {fs:List (Int × Int)} (h:∀ f ∈ fs,Fq f) (hz:fs.length <= 41):Bn 1640 (lvB fs:Nat):=by
 have:=UW h hz
 rw [<- Nat.pow_mul] at this
 unfold Bn
 rw [Int.natAbs_natCast]
 exact this
theorem abO {fs:List (Int × Int)} (h:∀ f ∈ fs,Fq f) (hz:fs.length <= 41):∀ x ∈ lvT fs,Bn 1680 x:=fun x hx=>by
 obtain ⟨f,hf,rfl⟩:=List.mem_map.mp hx
 have b:Bn 1640 (((lvB fs:Nat):Int) / f.2):=aM (Int.natAbs_ediv_le_natAbs _ _) (Wg h hz)
 exact Bn.mul (a:=40) (b:=1640) (h f hf).sa b
theorem Bb (F:Fun K iR iR jt f fd) (T:Txt K mg D) (qF:OkF P w K mg base 2 mL mR (qe K)) (gF:OkF P w K mg base 2 jZ lE jA):cD P w K mg base CX0 3 f fd iU (zA K):=by
 refine F.ok sG (fun vs H Q E h=>?_) (fun cdv A outer s H vs Q E hr h=>?_)
 .obtain ⟨t,T,f,cs,Ts,rfl,_⟩:=h
  rfl
 .obtain ⟨t,Ta,f,cs,Ts,rfl,of,hT,l41,hc,bT,q⟩:=h
  obtain ⟨nm,p,r,ys,ht,hp,hr',yl,ya⟩:=of.ex
  have z9:100 < sizeLine:=by decide
  have cl:(chF cs).length = cs.length:=ak ..
  have fq:∀ f ∈ chF cs,Fq f:=fun f hf=>by
   obtain ⟨c,hc',rfl⟩:=List.mem_map.mp hf
   exact (hc c hc').2
  refine ⟨_,(bK (bZ (i:=2) sG.nd rfl (Or.inl rfl) (bN qF (hr.mono (by decide)) (by rfl) (bC (jr (bM jt) jz jz ["room", "chance"] (dj ((bR cG (pv 0) bF (fun _ _=>rfl))).mono) (eY (n:=2) rfl (cu (dZ (i:=0)) (cu (dZ (i:=1)) eG))) dh (pv 1)) bG)))
   (bL (cg (bN gF (hr.mono (by decide)) (by rfl) (bC (b_ (yN rfl) (by rfl) T.Ur boot_sum (bC (jr (bM jt) jz jz ["part", "way"] (Nk (by rfl) T.Xa (bC (bR cG (pv 2) bF (fun _ _=>rfl)) (bC (bR cG (pv 0) bF (fun _ _=>rfl)) bG)).mono) (eY (n:=2) rfl (cu (dZ (i:=0)) (cu (dZ (i:=1)) eG))) dh (bQ cM (pv 0) (bR bO (pv 3) (bR cG (pv 1) bF (fun _ _=>rfl)) (fun _ _=>rfl)))) bG)) (bC (bR cG (pv 2) bF (fun _ _=>rfl)) bG)))))),?_⟩
  refine bV fun R1 hR1=>?_
  refine cL (aaF (oY ⟨_,rfl,t,_,2,_,rfl,rfl,ht,bU (j:=2) rfl,r,ys,rfl,hr',by omega,fun D1 gD=>⟨fun k zs Hc=>Same H Hc/\Hc D1 = some (.lst zs)/\FLK K H zs ((chF cs).take k),⟨Same.upd gD,bH,.nil⟩,?_,?_⟩⟩))
  .rintro k v zs Hc hk ⟨S1,h1,fl⟩ hz hc' pre hpre
   obtain ⟨w1,w2,rfl⟩:=vG hpre
   have lk:k < cs.length:=by rw [<- yl]; exact (ao.mp hk).1
   have ec:cs[k]? = some cs[k]:=aj lk
   obtain ⟨tt,a,e1,e2,e3⟩:=ya k _ ec
   rw [hk] at e1
   cases e1
   have en:(chF cs)[k]? = some cs[k].2:=by unfold chF; rw [au,ec]; rfl
   refine ⟨tt,_,rfl,S1 _ _ e2,rfl,_,_,rfl,_,_,rfl,rfl,[_,_],rfl,rfl,_,rfl,h1,hc',fun b o z=>(bI (bD z gD)).trans (S1 _ _ z),bH,?_⟩
   rw [cH en]
   exact fl.append (.cons e3 .nil)
  rintro zs H1 ⟨S1,h1,fl⟩ hz
  rw [yl,<- cl,aP] at fl
  refine ⟨D1,zs,chF cs,rfl,h1,fl.same S1,fq,by omega,fun D2 p2 f2 g2=>?_⟩
  have S2:Same H1 (upd (upd H1 D2 (.lst ((lvT (chF cs)).map V.int))) p2 (.tup [.ref D2,.int (lvB (chF cs):Nat)])):=(Same.upd f2).trans (Same.upd g2)
  have k1:=Same.upd g2 (o:=.tup [.ref D2,.int (lvB (chF cs):Nat)]) _ _ (bH (H:=H1) (a:=D2) (o:=.lst ((lvT (chF cs)).map V.int)))
  have k2:upd (upd H1 D2 (.lst ((lvT (chF cs)).map V.int))) p2 (.tup [.ref D2,.int (lvB (chF cs):Nat)]) p2 = _:=bH
  generalize upd (upd H1 D2 (.lst ((lvT (chF cs)).map V.int))) p2 (.tup [.ref D2,.int (lvB (chF cs):Nat)]) = H2 at S2 k1 k2 ⊢
  have SS:=S1.trans S2
  have tl:(lvT (chF cs)).length = cs.length:=by unfold lvT; rw [ak,cl]
  dsimp only [cN,L2.start]
  subst hR1
  refine gB (aaF (Xw (Dz ⟨_,rfl,p2,_,0,_,rfl,rfl,k2,dG,_,rfl,t,_,2,_,rfl,rfl,SS _ _ ht,bU (j:=2) rfl,D2,r,_,ys,rfl,k1,SS _ _ hr',by rw [ak,tl,yl],by rw [ak,tl]; omega,fun D3 g3=>⟨fun k zs Hc=>Same H2 Hc/\Hc D3 = some (.lst zs)/\zs = (((List.zipWith (fun p c=>p * Ts.getD c.1 0) (lvT (chF cs)) cs).take k).map V.int),⟨Same.upd g3,bH,rfl⟩,?_,?_⟩⟩)))
  .rintro k x y zs Hc t2 hx hy ⟨S3,h3,rfl⟩ hz ht2 ha hb pre hpre
   obtain ⟨w1,w2,rfl⟩:=vG hpre
   have lk:k < cs.length:=by rw [<- yl]; exact (ao.mp hy).1
   have ec:cs[k]? = some cs[k]:=aj lk
   obtain ⟨tt,a,e1,e2,e3⟩:=ya k _ ec
   rw [hy] at e1
   cases e1
   have el:(lvT (chF cs))[k]? = some ((lvT (chF cs))[k]'(by omega)):=aj _
   rw [au,el] at hx
   cases hx
   have S4:Same Hc (upd Hc t2 (.tup [.int ((lvT (chF cs))[k]'(by omega)),.ref tt])):=Same.upd ht2
   have k4:upd Hc t2 (.tup [.int ((lvT (chF cs))[k]'(by omega)),.ref tt]) t2 = _:=bH
   generalize upd Hc t2 (.tup [.int ((lvT (chF cs))[k]'(by omega)),.ref tt]) = H4 at S4 k4 ⊢
   have S24:=SS.trans (S3.trans S4)
   have cm:=hc _ (aV lk)
   have lt:cs[k].1 < Ts.length:=cm.1
   have eT:(Ts.map V.int)[cs[k].1]? = some (.int (Ts.getD cs[k].1 0)):=by rw [au,aj lt,aA,aj lt]; rfl
   have bt:Bd (Ts.getD cs[k].1 0):=bT _ (by rw [aA,aj lt]; exact aV lt)
   have bl:Bd ((lvT (chF cs))[k]'(by omega)):=(abO fq (by omega) _ (aV _)).bd (by decide)
   refine ⟨t2,_,rfl,k4,rfl,_,_,rfl,_,_,rfl,rfl,[_,_],rfl,rfl,_,rfl,_,rfl,_,rfl,tt,_,0,_,rfl,rfl,S24 _ _ e2,dG,Ta,_,_,_,rfl,rfl,S24 _ _ hT,bU (j:=cs[k].1) eT,_,_,rfl,rfl,⟨bl,bt⟩,S4 _ _ h3,S4 _ _ ha,S4 _ _ hb,fun b o z=>(bI (bD z g3)).trans (S4 _ _ (S3 _ _ z)),bH,?_⟩
   rw [cH (Xb (g:=fun p (c:Nat × Int × Int)=>p * Ts.getD c.1 0) el ec),bA]; rfl
  .rintro zs Hc ⟨S3,h3,ez⟩ hz
   rw [ak,tl,aL (by rw [List.length_zipWith]; omega)] at ez
   subst ez
   have b0:=uN fq
   exact ⟨D3,_,rfl,h3,_,rfl,p2,_,1,_,rfl,rfl,S3 _ _ k2,cX,K1 cs Ts,(lvB (chF cs):Nat),rfl,by omega,(Wg fq (by omega)).bd (by decide),fun r z o l hr=>q r z o _ (SS.trans (S3.trans (Same.upd hr))) (Same.free (SS.trans S3) hr) bH l⟩
noncomputable def m5 (cs:List (Nat × Int × Int)) (g:Nat->Rat):Rat:=(cs.map fun c=>vl c.2 * g c.1).sum
theorem Ph {B:Int} (hB:0 < B) {Ts:List Int} : ∀ {cs:List (Nat × Int × Int)},(∀ c ∈ cs,0 < c.2.2/\c.2.2 ∣ B)->(((List.zipWith (fun p (c:Nat × Int × Int)=>p * Ts.getD c.1 0) (cs.map fun c=>c.2.1 * (B / c.2.2)) cs).sum:Int):Rat) = (B:Rat) * m5 cs fun r=>(Ts.getD r 0:Rat)
 | [],_=>by
  show ((0:Int):Rat) = (B:Rat) * 0
  rw [Rat.intCast_zero,Rat.mul_zero]
 | c :: cs,h=>by
  have ih:=Ph hB (Ts:=Ts) (cs:=cs) fun c hc=>h c (aJ _ hc)
  obtain ⟨c0,d,e⟩:=h c aO
  rw [List.map_cons,List.zipWith_cons_cons,List.sum_cons,Rat.intCast_add,ih]
  show _ = (B:Rat) * (vl c.2 * (Ts.getD c.1 0:Rat) + m5 cs fun r=>(Ts.getD r 0:Rat))
  have e2:B / c.2.2 = d:=by rw [e,Int.mul_ediv_cancel_left _ (by omega)]
  rw [e2,e,Rat.intCast_mul,Rat.intCast_mul,Rat.intCast_mul]
  have:=kZ c0
  unfold vl
  grind
theorem Zm {cs:List (Nat × Int × Int)} {Ts:List Int} {z o:Int} (fq:∀ f ∈ chF cs,Fq f) (l:Low (K1 cs Ts) (lvB (chF cs):Nat) z o):vl (z,o) = m5 cs fun r=>(Ts.getD r 0:Rat):=by
 have b0:(0:Int) < (lvB (chF cs):Nat):=by have:=uN fq; omega
 rw [l.vl b0]
 have e:K1 cs Ts = (List.zipWith (fun p (c:Nat × Int × Int)=>p * Ts.getD c.1 0) (cs.map fun c=>c.2.1 * (((lvB (chF cs):Nat):Int) / c.2.2)) cs).sum:=by
  unfold K1 lvT
  congr 2
  show (cs.map (·.2)).map _ = _
  rw [List.map_map]; rfl
 have:=Ph b0 (Ts:=Ts) (cs:=cs) fun c hc=>⟨(fq c.2 (List.mem_map.mpr ⟨c,hc,rfl⟩)).pos,Ie (List.mem_map.mpr ⟨c,hc,rfl⟩) (fq c.2 (List.mem_map.mpr ⟨c,hc,rfl⟩))⟩
 show ((K1 cs Ts:Int):Rat) / (((lvB (chF cs):Nat):Int):Rat) = _
 rw [e,this]
 have:=kZ b0
 grind
theorem Wo {a:Nat} : ∀ {l:List Int},(∀ x ∈ l,Bn a x)->l.sum.natAbs <= l.length * 10 ^ a
 | [],_=>by simp
 | x :: l,h=>by
  have h1:=Wo (l:=l) fun y hy=>h y (aJ _ hy)
  have h2:x.natAbs <= 10 ^ a:=h x aO
  rw [List.sum_cons,List.length_cons,Nat.add_mul,Nat.one_mul]
  omega
theorem Zt {a b:Nat} {cs:List (Nat × Int × Int)} {Ts:List Int} (h1:∀ x ∈ lvT (chF cs),Bn a x) (h2:∀ x ∈ Ts,Bn b x) (l:cs.length <= 100):Bn (a + b + 2) (K1 cs Ts):=by
 have h:∀ x ∈ List.zipWith (fun p (c:Nat × Int × Int)=>p * Ts.getD c.1 0) (lvT (chF cs)) cs,Bn (a + b) x:=fun x hx=>by
  obtain ⟨k,hk⟩:=aW hx
  rw [List.getElem?_zipWith] at hk
  cases e1:(lvT (chF cs))[k]? with
  | none=>rw [e1] at hk; cases hk
  | some p =>
   cases e2:cs[k]? with
   | none=>rw [e1,e2] at hk; cases hk
   | some c =>
    rw [e1,e2] at hk
    cases hk
    refine Bn.mul (h1 p (aC e1)) ?_
    rw [aA]
    cases e3:Ts[c.1]? with
    | none=>exact bw _
    | some x=>exact h2 x (aC e3)
 have hs:=Wo h
 unfold Bn K1
 rw [Nat.pow_add _ (a + b) 2,Nat.mul_comm]
 refine aM hs (Nat.mul_le_mul_right _ ?_)
 rw [List.length_zipWith]
 omega
structure vB (n:Nat) (f:Int × Int) (cs:List (Nat × Int × Int)):Prop where
 pay:0 < f.2/\Bn 40 f.1/\Bn 40 f.2
 few:cs.length <= 41
 ch:∀ c ∈ cs,c.1 < n/\Fq c.2
 lv:Bn 60 (lvB (chF cs):Nat)
theorem vB.fq {n:Nat} {f:Int × Int} {cs:List (Nat × Int × Int)} (h:vB n f cs):∀ f ∈ chF cs,Fq f:=fun f hf=>by
 obtain ⟨c,hc,rfl⟩:=List.mem_map.mp hf
 exact (h.ch c hc).2
theorem vB.tops {n:Nat} {f:Int × Int} {cs:List (Nat × Int × Int)} (h:vB n f cs):∀ x ∈ lvT (chF cs),Bn 100 x:=fun x hx=>by
 obtain ⟨g,hg,rfl⟩:=List.mem_map.mp hx
 have b:Bn 60 (((lvB (chF cs):Nat):Int) / g.2):=aM (Int.natAbs_ediv_le_natAbs _ _) h.lv
 exact Bn.mul (a:=40) (b:=60) (h.fq g hg).sa b
noncomputable def zu (K:Frag) (D:Adr):Sp:=fun vs H Q _=>∃ (o p t lv T:Addr) (rms:List (Str × List Dr)) (s f:Int × Int) (cs:List (Nat × Int × Int)) (Ts:List Int) (W:Int),vs = [.ref o,.ref t,.ref lv]/\jm D H o p rms/\H p = some (.tup [.int s.1,.int s.2])/\0 < s.2/\Bn 40 s.1/\Bn 40 s.2/\Ru K H t f cs/\vB Ts.length f cs/\H lv = some (.tup [.ref T,.int W])/\H T = some (.lst (Ts.map V.int))/\0 < W/\Bn 600 W/\(∀ x ∈ Ts,Bn 640 x) /\
 ∀ r z y H',Same H H'->H r = none->H' r = some (.tup [.int z,.int y])->0 < y->Bn 830 z->Bn 140 y->vl (z,y) = vl f * (W:Rat) + vl s * m5 cs (fun r=>(Ts.getD r 0:Rat))->Q (.ref r) H'
theorem CN (F:Fun K iC iC pN f fd) (T:Txt K mg D) (pI:OkF P w K mg base 3 iR iU (zA K)) (Ah:OkF P w K mg base 3 rY uw Dw) (Ii:OkF P w K mg base 3 uO uY (qx (K:=K) fun a b=>a + b)):cD P w K mg base CX0 4 f fd h_ (zu K D):=by
 refine F.ok uc (fun vs H Q E h=>?_) (fun cdv A outer s H vs Q E hr h=>?_)
 .obtain ⟨o,p,t,lv,T,rms,s,f,cs,Ts,W,rfl,_⟩:=h
  rfl
 .obtain ⟨o,p,t,lv,Ta,rms,sh,f,cs,Ts,W,rfl,hh,hp,s0,b1,b2,of,df,hlv,hT,w0,bW,bT,q⟩:=h
  have hI:=hh
  obtain ⟨dx,nn,ll,zs0,ho,_,_,_⟩:=hI
  have fq:=df.fq
  refine ⟨_,(bK (bZ (i:=3) uc.nd rfl (Or.inl rfl) (bN pI (hr.mono (by decide)) (by rfl) (bC (pv 1) (bC (bR cG (pv 2) bF (fun _ _=>rfl)) bG))))
   (bL (cg (bN Ii (hr.mono (by decide)) (by rfl) (bC (bN Ah (hr.mono (by decide)) (by rfl) (bC (bR cG (pv 1) bF (fun _ _=>rfl)) (bC (qU (bC (bR cG (pv 2) bF (fun _ _=>rfl)) (bC bF bG))) bG))) (bC (bN Ah (hr.mono (by decide)) (by rfl) (bC (qu (pv 0) rfl) (bC (pv 3) bG))) bG)))))),?_⟩
  refine bV fun R1 hR1=>?_
  refine cL ⟨_,rfl,_,rfl,lv,_,0,_,rfl,rfl,hlv,dG,t,Ta,f,cs,Ts,rfl,of,hT,df.few,df.ch,fun x hx=>(bT x hx).bd (by decide),fun r1 z1 o1 H1 S1 f1 h1 l1=>?_⟩
  have v1:=Zm fq l1
  have bz1:Bn 742 z1:=(Zt (a:=100) (b:=640) df.tops bT (by have:=df.few; omega)).lx l1
  have bo1:Bn 60 o1:=df.lv.ly l1
  have p1:=l1.pos
  subst hR1
  dsimp only [cN,L2.start]
  obtain ⟨nm,pp,rr,ys,ht,hpp,_,_,_⟩:=of.ex
  obtain ⟨f0,bf1,bf2⟩:=df.pay
  refine gB ⟨_,rfl,t,_,1,_,rfl,rfl,S1 _ _ ht,cX,_,rfl,lv,_,1,_,rfl,rfl,S1 _ _ hlv,cX,dR,fun u2 H2 S2 f2 h2=>⟨pp,u2,f.1,f.2,W,1,rfl,S2 _ _ (S1 _ _ hpp),h2,bf1.bd (by decide),bf2.bd (by decide),bW.bd (by decide),Bd.sm (by decide),f0,by decide,by rw [Int.mul_one]; exact bf2.bd (by decide),fun r3 z3 o3 H3 S3 f3 h3 l3=>?_⟩⟩
  rw [Int.mul_one] at l3
  have bz3:Bn 640 z3:=(Bn.mul bf1 bW).lx l3
  have bo3:Bn 40 o3:=bf2.ly l3
  have p3:=l3.pos
  have v3:vl (z3,o3) = vl f * (W:Rat):=by
   rw [l3.vl f0]
   have:=Jk (x:=f.1) (y:=f.2) (u:=W) (v:=1) f0 (by decide)
   rw [Int.mul_one] at this
   rw [this,abV]
  have S13:=S1.trans (S2.trans S3)
  refine ⟨_,rfl,o,D.Hall,dx,_,.ref p,rfl,S13 _ _ ho,T.sI,T.vg,rfl,_,rfl,p,r1,sh.1,sh.2,z1,o1,rfl,S13 _ _ hp,S3 _ _ (S2 _ _ h1),b1.bd (by decide),b2.bd (by decide),bz1.bd (by decide),bo1.bd (by decide),s0,p1,(Bn.mul b2 bo1).bd (by decide),fun r4 z4 o4 H4 S4 f4 h4 l4=>?_⟩
  have bz4:Bn 782 z4:=(Bn.mul b1 bz1).lx l4
  have bo4:Bn 100 o4:=(Bn.mul b2 bo1).ly l4
  have p4:=l4.pos
  have v4:vl (z4,o4) = vl sh * m5 cs fun r=>(Ts.getD r 0:Rat):=by
   rw [l4.vl (Int.mul_pos s0 p1),Jk s0 p1,v1]
  have S14:=S13.trans S4
  refine ⟨r3,r4,z3,o3,z4,o4,rfl,.of (S4 _ _ h3),.of h4,bz3.bd (by decide),bo3.bd (by decide),bz4.bd (by decide),bo4.bd (by decide),p3,p4,(Bn.mul bo3 bo4).bd (by decide),fun r5 z5 o5 l5 f5=>?_⟩
  have bt:Bn 823 (z3 * o4 + z4 * o3):=Bn.add (a:=822) ((Bn.mul bz3 bo4).up (by decide)) (Bn.mul bz4 bo3)
  refine q r5 z5 o5 _ (S14.trans (Same.upd f5)) (Same.free S14 f5) bH l5.pos ((bt.lx l5).up (by decide)) ((Bn.mul bo3 bo4).ly l5) ?_
  rw [l5.vl (Int.mul_pos p3 p4),Oe p3 p4,v3,v4]
structure DrN (K:Frag) (H:Hp) (ns:List Str) (d:Dr) (f:Int × Int) (cs:List (Nat × Int × Int)):Prop where
 pay:H d.p = some (.tup [.int f.1,.int f.2])
 len:d.ws.length = cs.length
 at_:∀ (k:Nat) g c,d.ws[k]? = some g->cs[k]? = some c->ns[c.1]? = some g.1/\SqT K H g.2 [.int c.2.1,.int c.2.2]
theorem DrN.same {H H':Hp} {ns:List Str} {d:Dr} {f:Int × Int} {cs:List (Nat × Int × Int)} (h:DrN K H ns d f cs) (S:Same H H'):DrN K H' ns d f cs:=⟨S _ _ h.pay,h.len,fun k g c e1 e2=>⟨(h.at_ k g c e1 e2).1,S.tup (h.at_ k g c e1 e2).2⟩⟩
theorem qg {ns:List Str} (nd:ns.Nodup) {i j:Nat} {n:Str} (h1:ns[i]? = some n) (h2:ns[j]? = some n):i = j:=by
 exact (List.getElem?_inj (ao.mp h1).1 nd).mp (h1.trans h2.symm)
theorem oW.offN {ns:List Str} (nd:ns.Nodup) {H:Hp} {zs:List V} {gs:List Dr} (h:oW ns H zs gs) {k:Nat} {d:Dr} (e:gs[k]? = some d) {f:Int × Int} {cs:List (Nat × Int × Int)} (hd:DrN K H ns d f cs):∃ t,zs[k]? = some (.ref t)/\Ru K H t f cs:=by
 obtain ⟨t,r,ys,a,b,c,w⟩:=h.at_ k d e
 refine ⟨t,a,d.nm,d.p,r,ys,b,hd.pay,c,by rw [w.len,hd.len],fun j g eg=>?_⟩
 have lj:j < d.ws.length:=by rw [hd.len]; exact (ao.mp eg).1
 have ew:d.ws[j]? = some d.ws[j]:=aj lj
 obtain ⟨tt,i,x1,x2,x3⟩:=w.at_ j _ ew
 obtain ⟨y1,y2⟩:=hd.at_ j _ g ew eg
 cases qg nd x2 y1
 exact ⟨tt,_,x1,x3,y2⟩
noncomputable def wq (fs:List (Int × Int)) (r:Nat):Rat:=vl (fs.getD r (0,1))
noncomputable def Cg (s f:Int × Int) (cs:List (Nat × Int × Int)) (fs:List (Int × Int)):Rat:=vl f + vl s * m5 cs (wq fs)
theorem Q7 {W:Rat} {g h:Nat->Rat} : ∀ {cs:List (Nat × Int × Int)},(∀ c ∈ cs,g c.1 = W * h c.1)->m5 cs g = W * m5 cs h
 | [],_=>by
  show (0:Rat) = W * 0
  rw [Rat.mul_zero]
 | c :: cs,e=>by
  have ih:=Q7 (cs:=cs) fun c hc=>e c (aJ _ hc)
  show vl c.2 * g c.1 + m5 cs g = W * (vl c.2 * h c.1 + m5 cs h)
  rw [ih,e c aO]
  grind
theorem abL {fs:List (Int × Int)} (fq:∀ f ∈ fs,Fq f) {r:Nat} (lr:r < fs.length):((lvT fs).getD r 0:Rat) = (((lvB fs:Nat):Int):Rat) * wq fs r:=by
 have e:fs[r]? = some fs[r]:=aj lr
 have q:=fq _ (aV lr)
 unfold wq lvT
 rw [aA,aA,au,e]
 show ((fs[r].1 * (((lvB fs:Nat):Int) / fs[r].2):Int):Rat) = (((lvB fs:Nat):Int):Rat) * vl fs[r]
 obtain ⟨d,ed⟩:=Ie (aV lr) q
 have:=kZ q.pos
 have e2:((lvB fs:Nat):Int) / fs[r].2 = d:=by rw [ed,Int.mul_ediv_cancel_left _ (Int.ne_of_gt q.pos)]
 rw [e2,ed,Rat.intCast_mul,Rat.intCast_mul]
 unfold vl
 grind
theorem Lr {fs:List (Int × Int)} (fq:∀ f ∈ fs,Fq f) (l:fs.length <= 12):Bn 480 (lvB fs:Nat):=by
 have h1:=qR (B:=10 ^ 40) (Ls fs) 1 (by decide) fun b hb=>by
  obtain ⟨f,hf,rfl⟩:=List.mem_map.mp hb
  have:=(fq f hf).pos
  exact ⟨by omega,(fq f hf).sb⟩
 rw [Nat.one_mul,<- Nat.pow_mul] at h1
 unfold Bn
 rw [Int.natAbs_natCast]
 refine aM h1 (Nat.pow_le_pow_right (by decide) ?_)
 unfold Ls
 rw [ak]
 omega
theorem Oz {fs:List (Int × Int)} (fq:∀ f ∈ fs,Fq f) (l:fs.length <= 12):∀ x ∈ lvT fs,Bn 520 x:=fun x hx=>by
 obtain ⟨g,hg,rfl⟩:=List.mem_map.mp hx
 have b:Bn 480 (((lvB fs:Nat):Int) / g.2):=aM (Int.natAbs_ediv_le_natAbs _ _) (Lr fq l)
 exact Bn.mul (a:=40) (b:=480) (fq g hg).sa b
structure Td (K:Frag) (H:Hp) (ns:List Str) (n:Nat) (gs:List Dr) (fcs:List ((Int × Int) × List (Nat × Int × Int))):Prop where
 len:gs.length = fcs.length
 at_:∀ (k:Nat) d fc,gs[k]? = some d->fcs[k]? = some fc->DrN K H ns d fc.1 fc.2/\vB n fc.1 fc.2
theorem W4 {x y:Int × Int} (hx:0 < x.2) (hy:0 < y.2):vl x < vl y ↔ x.1 * y.2 < y.1 * x.2:=by
 have h1:(0:Rat) < (x.2:Rat):=Rat.intCast_pos.mpr hx
 have h2:(0:Rat) < (y.2:Rat):=Rat.intCast_pos.mpr hy
 unfold vl
 have e:(y.1:Rat) / (y.2:Rat) * (x.2:Rat) = ((y.1:Rat) * (x.2:Rat)) / (y.2:Rat):=by grind
 rw [Rat.div_lt_iff h1,e,Rat.lt_div_iff h2,<- Rat.intCast_mul,<- Rat.intCast_mul,Rat.intCast_lt_intCast]
theorem aaw {a b c:Rat} (h1:a <= b) (h2:b < c):a < c:=Rat.not_le.mp fun h=>Rat.not_le.mpr h2 (Rat.le_trans h h1)
structure Fb (f:Int × Int):Prop where
 pos:0 < f.2
 bx:Bd f.1
 b_y:Bd f.2
structure Top (fs:List (Int × Int)) (j:Nat) (f:Int × Int):Prop where
 at_:fs[j]? = some f
 le:∀ g ∈ fs,vl g <= vl f
 lt:∀ i g,i < j->fs[i]? = some g->vl g < vl f
noncomputable def BP:Sp:=fun vs H Q _=>∃ (l:Addr) (xs:List V) (fs:List (Int × Int)),vs = [.ref l]/\H l = some (.lst xs)/\FL H xs fs/\(∀ f ∈ fs,Fb f)/\fs ≠ []/\∀ p f j,H p = some (.tup [.int f.1,.int f.2])->Top fs j f->Q (.ref p) H
theorem La (F:Fun K mW mW vL f fd) (T:Txt K mg D) (gR:OkF P w K mg base 1 mX mO (mU (K:=K))):cD P w K mg base CX0 2 f fd mQ BP:=by
 refine F.ok o9 (fun vs H Q E h=>?_) (fun cdv A outer s H vs Q E hr h=>?_)
 .obtain ⟨l,xs,fs,rfl,_⟩:=h
  rfl
 .obtain ⟨l,xs,fs,rfl,hl,fl,fb,ne,q⟩:=h
  refine ⟨_,(bK (bZ (i:=1) o9.nd rfl (Or.inl rfl) lg)
   (bK (jo PassesOwn.never rfl (dj ((pv 0)).mono) (cI (i:=2) o9.nd rfl (Or.inl rfl))
    (bL (cQ (PW.pt (pw_or (cA Gy (pv 1) lg (cC _)) (pw_or1 (dD (bN gR (hr.mono (by decide)) (by rfl) (bC (pv 1) (bC (pv 2) bG))) (fun _=>rfl)))))
     (bL (bZ (i:=1) o9.nd rfl (Or.inl rfl) (pv 2)))
     cj)))
   (bL (cg (pv 1))))),?_⟩
  refine cL ?_
  refine bV fun R1 hR1=>?_
  refine cZ (iD ⟨_,rfl,l,xs,rfl,hl,fun k σ H'=>∃ v u,σ = [some (.ref l),some v,u]/\H' = H/\((k = 0/\v = .non)\/∃ p f j,v = .ref p/\H p = some (.tup [.int f.1,.int f.2])/\j < k/\Top (fs.take k) j f),⟨_,_,rfl,rfl,.inl ⟨rfl,rfl⟩⟩,?_,?_⟩)
  .rintro k x σ' H' hk ⟨v,u,rfl,rfl,hv⟩ hx
   obtain ⟨p,g,rfl,hg,hp⟩:=fl.get hk
   have gb:=fb g (aC hg)
   have lk:=(ao.mp hg).1
   have gk:(fs.take (k + 1))[k]? = some g:=by rw [List.getElem?_take,if_pos (by omega)]; exact hg
   rcases hv with ⟨rfl,rfl⟩ | ⟨p1,f1,j,rfl,hp1,hj,tp⟩
   .refine ⟨_,rfl,rfl,true,congrArg V.bl (decide_eq_true rfl),_,rfl,hx,_,_,rfl,rfl,.inr ⟨p,g,0,rfl,hp,by decide,gk,fun g' hg'=>?_,fun i g' hi=>absurd hi (Nat.not_lt_zero _)⟩⟩
    rw [cH hg,List.take_zero,List.nil_append,List.mem_singleton] at hg'
    subst hg'
    exact Rat.le_refl
   .refine ⟨_,rfl,rfl,false,congrArg V.bl (decide_eq_false (fun z=>by cases z)),?_⟩
    have f1m:f1 ∈ fs:=List.mem_of_mem_take (aC tp.at_)
    have fb1:=fb f1 f1m
    have iff:=W4 fb1.pos gb.pos
    refine ⟨_,rfl,_,rfl,p1,p,f1.1,f1.2,g.1,g.2,rfl,.of hp1,.of hp,fb1.bx,fb1.b_y,gb.bx,gb.b_y,decide (f1.1 * g.2 < g.1 * f1.2),rfl,?_⟩
    by_cases hlt:f1.1 * g.2 < g.1 * f1.2
    .rw [decide_eq_true hlt]
     have lt:=iff.mpr hlt
     refine ⟨_,rfl,hx,_,_,rfl,rfl,.inr ⟨p,g,k,rfl,hp,by omega,gk,fun g' hg'=>?_,fun i g' hi eg=>?_⟩⟩
     .rw [cH hg] at hg'
      rcases List.mem_append.mp hg' with z | z
      .exact Rat.le_of_lt (aaw (tp.le g' z) lt)
      .rw [List.mem_singleton.mp z]; exact Rat.le_refl
     .rw [List.getElem?_take,if_pos (by omega)] at eg
      exact aaw (tp.le g' (aC (by rw [List.getElem?_take,if_pos hi]; exact eg))) lt
    .rw [decide_eq_false hlt]
     have le:vl g <= vl f1:=Rat.not_lt.mp fun z=>hlt (iff.mp z)
     have cut:∀ i:Nat,i < k->(fs.take (k + 1))[i]? = (fs.take k)[i]?:=fun i hi=>by rw [List.getElem?_take,List.getElem?_take,if_pos (by omega),if_pos hi]
     refine ⟨hx,_,_,rfl,rfl,.inr ⟨p1,f1,j,rfl,hp1,by omega,by rw [cut j hj]; exact tp.at_,fun g' hg'=>?_,fun i g' hi eg=>?_⟩⟩
     .rw [cH hg] at hg'
      rcases List.mem_append.mp hg' with z | z
      .exact tp.le g' z
      .rw [List.mem_singleton.mp z]; exact le
     .rw [cut i (by omega)] at eg
      exact tp.lt i g' hi eg
  .rintro σ' H' ⟨v,u,rfl,rfl,hv⟩ hx
   subst hR1
   rcases hv with ⟨z,_⟩ | ⟨p1,f1,j,rfl,hp1,hj,tp⟩
   .exact absurd (List.eq_nil_of_length_eq_zero (by rw [<- fl.length]; exact z)) ne
   .rw [fl.length,aP] at tp
    exact ⟨_,rfl,q p1 f1 j hp1 tp⟩
structure sO (qs:List Rat) (d j:Nat):Prop where
 lt:j < qs.length
 le:∀ i,i < qs.length->qs.getD i 0 <= qs.getD j 0
 own:j = d\/(qs.getD d 0 < qs.getD j 0/\∀ i,i < j->qs.getD i 0 < qs.getD j 0)
noncomputable def zE:Sp:=fun vs H Q _=>∃ (l:Addr) (d:Nat) (xs:List V) (fs:List (Int × Int)),vs = [.ref l,.int d]/\H l = some (.lst xs)/\FL H xs fs/\(∀ f ∈ fs,Fb f)/\d < fs.length/\fs.length <= 100/\∀ j,sO (fs.map vl) d j->Q (.int (j:Nat)) H
theorem Bm (F:Fun K ig ig pP f fd) (T:Txt K mg D) (gR:OkF P w K mg base 1 mX mO (mU (K:=K))) (vC:OkF P w K mg base 2 mW mQ BP):cD P w K mg base CX0 3 f fd gY zE:=by
 refine F.ok rR (fun vs H Q E h=>?_) (fun cdv A outer s H vs Q E hr h=>?_)
 .obtain ⟨l,d,xs,fs,rfl,_⟩:=h
  rfl
 .obtain ⟨l,d,xs,fs,rfl,hl,fl,fb,ld,l100,q⟩:=h
  have z9:100 < sizeLine:=by decide
  have ed:fs[d]? = some fs[d]:=aj ld
  have mb:=fb _ (aV ld)
  have xd:xs[d]? = some (xs[d]'(by rw [fl.length]; exact ld)):=aj _
  obtain ⟨pd,g,e1,e2,hpd⟩:=fl.get xd
  rw [e1] at xd
  rw [ed] at e2
  cases e2
  generalize fs[d] = fd' at *
  have gd:∀ (i:Nat) g,fs[i]? = some g->(fs.map vl).getD i 0 = vl g:=fun i g e=>by rw [aA,au,e]; rfl
  have al:∀ (j:Nat) f,fs[j]? = some f->(∀ g ∈ fs,vl g <= vl f)->∀ i,i < (fs.map vl).length->(fs.map vl).getD i 0 <= (fs.map vl).getD j 0:=fun j f ej h i hi=>by
   rw [ak] at hi
   rw [gd i _ (aj hi),gd j f ej]
   exact h _ (aV hi)
  refine ⟨_,(bK (bZ (i:=2) rR.nd rfl (Or.inl rfl) (bN vC (hr.mono (by decide)) (by rfl) (bC (pv 0) bG)))
   (bK (cQ (dD (bN gR (hr.mono (by decide)) (by rfl) (bC (bR bO (pv 0) (pv 1) (fun _ _=>rfl)) (bC (pv 2) bG))) (fun _=>rfl))
    (bL (cg (abn hr.units (pv 0) (bC (pv 2) bG))))
    cj)
   (bL (cg (pv 1))))),?_⟩
  refine cL ⟨_,rfl,l,xs,fs,rfl,hl,fl,fb,(fun z=>by rw [z] at ld; cases ld),fun p f j hp tp=>?_⟩
  have fb1:=fb f (aC tp.at_)
  have iff:=W4 mb.pos fb1.pos
  have lj:=(ao.mp tp.at_).1
  dsimp only [cN,L2.start]
  refine bV fun R1 hR1=>?_
  refine cZ ⟨_,rfl,_,rfl,l,xs,_,_,rfl,rfl,hl,bU xd,_,rfl,pd,p,fd'.1,fd'.2,f.1,f.2,rfl,.of hpd,.of hp,mb.bx,mb.b_y,fb1.bx,fb1.b_y,decide (fd'.1 * f.2 < f.1 * fd'.2),rfl,?_⟩
  by_cases hlt:fd'.1 * f.2 < f.1 * fd'.2
  .rw [decide_eq_true hlt]
   exact ⟨_,rfl,l,xs,rfl,hl,_,rfl,l,p,xs,fs,f,j,rfl,rfl,hl,fl,hp,by rw [fl.length]; omega,tp.at_,fun i g hi eg z=>Rat.lt_irrefl (by have:=tp.lt i g hi eg; rw [z] at this; exact this),q j ⟨by rw [ak]; exact lj,al j f tp.at_ tp.le,.inr ⟨by rw [gd d _ ed,gd j f tp.at_]; exact iff.mpr hlt,fun i hi=>by rw [gd i _ (aj (by omega)),gd j f tp.at_]; exact tp.lt i _ hi (aj (by omega))⟩⟩⟩
  .rw [decide_eq_false hlt]
   show R1 _ _ _
   subst hR1
   have le:vl f <= vl fd':=Rat.not_lt.mp fun z=>hlt (iff.mp z)
   exact ⟨_,rfl,q d ⟨by rw [ak]; exact ld,al d fd' ed fun g hg=>Rat.le_trans (tp.le g hg) le,.inl rfl⟩⟩
theorem qW {α:Type} {l:List α} {a b:α} {k:Nat} (h:(l ++ [a])[k]? = some b):(k < l.length/\l[k]? = some b)\/(k = l.length/\b = a):=by
 by_cases hk:k < l.length
 .rw [aF hk] at h
  exact .inl ⟨hk,h⟩
 .have hl:=(ao.mp h).1
  rw [aB,List.length_cons,List.length_nil] at hl
  have e:k = l.length:=by omega
  subst e
  rw [aD (aG _),Nat.sub_self] at h
  cases h
  exact .inr ⟨rfl,rfl⟩
theorem qL {as:List Addr} {H:Hp} {a:Addr} {u:HO} (h:a ∈ as):del as (upd H a u) = del as H:=by
 funext b
 unfold del
 split
 .rfl
 .rename_i hb
  exact bI fun z=>hb (z ▸ h)
noncomputable def Ce (rms:List (Str × List Dr)) (H:Hp) (v:V) (r:Option V):Prop :=
 (∃ (l:Addr) (xs:List V),v = .ref l/\H l = some (.lst xs)/\xs.length = rms.length/\(∀ x ∈ xs,Odd H x) /\
  ((r = none/\∀ k x,xs[k]? = some x->nG x (dnR rms k) = true)
  \/ ∃ (k:Nat) (x:V),r = some (.int (k:Nat))/\xs[k]? = some x/\nG x (dnR rms k) = false/\∀ j y,j < k->xs[j]? = some y->nG y (dnR rms j) = true))
 \/ (r = some .non/\∀ l xs,v = .ref l->H l = some (.lst xs)->xs.length ≠ rms.length)
theorem Tj {o p:Addr} {v:V} {rms:List (Str × List Dr)} {r:Option V} {H:Hp} {Q:VK} {E:XK} (hh:jm D H o p rms) (few:zm rms) (ov:Odd H v) (h:Ce rms H v r) (q:r = none->∀ H',Same H H'->Q (.bl true) H') (e:∀ u,r = some u->∀ d H',Same H H'->H d = none->H' d = some (.xd [("room",u)])->E (.ref D.NoPlan) (some d) H'):yw D [.ref o,v] H Q E:=by
 refine ⟨o,p,v,rms,rfl,hh,few,ov,?_⟩
 rcases h with ⟨l,xs,a1,a2,a3,a4,a5⟩ | ⟨e1,nl⟩
 .refine .inl ⟨l,xs,a1,a2,a3,a4,?_⟩
  rcases a5 with ⟨e1,al⟩ | ⟨k,x,e1,b1,b2,b3⟩
  .exact .inl ⟨al,q e1⟩
  .exact .inr ⟨k,x,b1,b2,b3,e _ e1⟩
 .exact .inr ⟨nl,e _ e1⟩
theorem I8 {a b W:Rat} (hW:0 < W):a * W < b * W ↔ a < b:=Rat.mul_lt_mul_right hW
theorem sO.of_mul {W:Rat} (hW:0 < W) {qs:List Rat} {d j:Nat} (h:sO (qs.map (· * W)) d j):sO qs d j:=by
 have g:∀ i,(qs.map (· * W)).getD i 0 = qs.getD i 0 * W:=fun i=>by
  rw [aA,aA,au]
  cases qs[i]? with
  | none=>exact (Rat.zero_mul _).symm
  | some q=>rfl
 have l:=h.lt
 rw [ak] at l
 refine ⟨l,fun i hi=>?_,?_⟩
 .have:=h.le i (by rw [ak]; exact hi)
  rw [g,g] at this
  exact Rat.not_lt.mp fun z=>Rat.not_lt.mpr this ((I8 hW).mpr z)
 .rcases h.own with e | ⟨a,b⟩
  .exact .inl e
  .rw [g,g,I8 hW] at a
   refine .inr ⟨a,fun i hi=>?_⟩
   have:=b i hi
   rw [g,g,I8 hW] at this
   exact this
noncomputable def lZ (s:Int × Int) (fs:List (Int × Int)) (fcs:List ((Int × Int) × List (Nat × Int × Int))):List Rat:=fcs.map fun fc=>Cg s fc.1 fc.2 fs
structure qP (s:Int × Int) (fs:List (Int × Int)) (fcss:List (List ((Int × Int) × List (Nat × Int × Int)))) (pl ql:List (Option Nat)):Prop where
 len:ql.length = pl.length
 at_:∀ (k:Nat) o q fcs,pl[k]? = some o->ql[k]? = some q->fcss[k]? = some fcs->(o = none->q = none)/\∀ d,o = some d->∃ j,q = some j/\sO (lZ s fs fcs) d j
theorem qP.snoc {s:Int × Int} {fs:List (Int × Int)} {fcss:List (List ((Int × Int) × List (Nat × Int × Int)))} {pl ql:List (Option Nat)} {k:Nat} {o q:Option Nat} {fcs:List ((Int × Int) × List (Nat × Int × Int))} (h:qP s fs fcss (pl.take k) ql) (ep:pl[k]? = some o) (ef:fcss[k]? = some fcs) (hq:(o = none->q = none)/\∀ d,o = some d->∃ j,q = some j/\sO (lZ s fs fcs) d j):qP s fs fcss (pl.take (k + 1)) (ql ++ [q]):=by
 have lk:=(ao.mp ep).1
 have ll:=h.len
 rw [bh] at ll
 rw [cH ep]
 refine ⟨by rw [aB,aB,h.len]; rfl,fun i o' q' fcs' e1 e2 e3=>?_⟩
 rcases qW e1 with ⟨a1,a2⟩ | ⟨a1,a2⟩ <;> rcases qW e2 with ⟨c1,c2⟩ | ⟨c1,c2⟩
 .exact h.at_ i o' q' fcs' a2 c2 e3
 .rw [bh] at a1; omega
 .rw [bh] at a1; omega
 .have ik:i = k:=by omega
  subst a2; subst c2
  rw [ik,ef] at e3
  cases e3
  exact hq
noncomputable def tZ (K:Frag) (D:Adr):Sp:=fun vs H Q E=>∃ (o p lw:Addr) (v:V) (rms:List (Str × List Dr)) (r:Option V),vs = [.ref o,v,.ref lw]/\jm D H o p rms/\zm rms/\Odd H v/\Ce rms H v r /\
 (r = none->∃ (s:Int × Int) (xs:List V) (fs:List (Int × Int)) (fcss:List (List ((Int × Int) × List (Nat × Int × Int)))) (l:Addr) (pl:List (Option Nat)),v = .ref l/\H l = some (.lst (pl.map stV))/\pl.length = rms.length/\(∀ (k:Nat) g d,rms[k]? = some g->pl[k]? = some (some d)->d < g.2.length)/\(rms.map (·.1)).Nodup/\H p = some (.tup [.int s.1,.int s.2])/\0 < s.2/\Bn 40 s.1/\Bn 40 s.2/\H lw = some (.lst xs)/\FL H xs fs/\(∀ f ∈ fs,Fq f)/\fs.length <= 12/\fcss.length = rms.length/\(∀ (k:Nat) g fcs,rms[k]? = some g->fcss[k]? = some fcs->Td K H (rms.map (·.1)) fs.length g.2 fcs) /\
  ∀ r H' ql,Same H H'->H r = none->H' r = some (.lst (ql.map stV))->qP s fs fcss pl ql->Q (.ref r) H') /\
 ∀ u,r = some u->∀ d H',Same H H'->H d = none->H' d = some (.xd [("room",u)])->E (.ref D.NoPlan) (some d) H'
theorem MN (F:Fun K oh oh yp f fd) (T:Txt K mg D) (pH:OkX P w K mg base 4 jx jB (yw D)) (qF:OkF P w K mg base 2 mL mR (qe K)) (pC:OkF P w K mg base 4 iC h_ (zu K D)) (pB:OkF P w K mg base 3 ig gY zE) (gQ:OkI P w K mg base CX0 3 D.Hall_offers fU (jW D)):cD P w K mg base (CXO P w) 5 f fd n8 (tZ K D):=by
 refine F.okX nZ (fun vs H Q E h=>?_) (fun cdv A outer s H vs Q E hr h=>?_)
 .obtain ⟨o,p,lw,v,rms,r,rfl,_⟩:=h
  rfl
 .obtain ⟨o,p,lw,v,rms,r,rfl,hh,few,ov,pi,q0,e0⟩:=h
  have hI:=hh
  obtain ⟨dx,nn,ll,zs0,ho,_,_,_⟩:=hI
  refine ⟨_,(bK (cU (fQ pH (hr.mono (by decide)) (by rfl) fP (bC (pv 0) (bC (pv 1) bG))))
   (bK (bZ (i:=3) nZ.nd rfl (Or.inr rfl) (bN qF (hr.mono (by decide)) (by rfl) (bC (pv 2) bG)))
   (bK (bZ (i:=4) nZ.nd rfl (Or.inl rfl) (fK bG))
   (bK (jo PassesOwn.leaving rfl (PX (by rfl) T.zQ (bC (pv 1) bG).mono) (eY (n:=2) rfl (cu (cI (i:=5) nZ.nd rfl (Or.inl rfl)) (cu (cI (i:=6) nZ.nd rfl (Or.inl rfl)) eG)))
    (bK (Kp (bM yp) Cv Cv ["offer"] (dj ((PE.any fun C (hC:dX D C)=>(Bj (pv 0) (T.cl C hC.fam) (T.uy C hC) gQ (hr.mono (by decide)) (bC (pv 5) bG)))).mono) (dZ (i:=0)) dh (bN pC (hr.mono (by decide)) (by rfl) (bC (pv 1) (bC (pv 0) (bC (pv 4) bG)))) (cI (i:=7) nZ.nd rfl (Or.inl rfl)))
    (bL (cU (pq (pv 4) (bC (Xi (cA Gy (pv 6) lg (cC _)) lg (bN pB (hr.mono (by decide)) (by rfl) (bC (pv 7) (bC (pv 6) bG)))) bG))))))
   (bL (cg (pv 4))))))),?_⟩
  refine bV fun R1 hR1=>?_
  refine cZ ⟨_,rfl,_,rfl,?_⟩
  dsimp only [sV]
  refine Tj hh few ov pi (fun er H1 S1=>?_) fun u e d H' S hd hx=>e0 u e d H' S hd hx
  obtain ⟨sh,xs,fs,fcss,l,pl,rfl,hl,pn,pf,nd,hp,s0,b1,b2,hw,fl,fq,f12,fn,dn,q⟩:=q0 er
  subst hR1
  refine bV fun R1 hR1=>?_
  refine cL ⟨_,rfl,lw,xs,fs,rfl,S1 _ _ hw,Oc (fl.same S1),fq,by omega,fun D2 p2 f2 g2=>?_⟩
  have S2:Same H1 (upd (upd H1 D2 (.lst ((lvT fs).map V.int))) p2 (.tup [.ref D2,.int (lvB fs:Nat)])):=(Same.upd f2).trans (Same.upd g2)
  have k1:=Same.upd g2 (o:=.tup [.ref D2,.int (lvB fs:Nat)]) _ _ (bH (H:=H1) (a:=D2) (o:=.lst ((lvT fs).map V.int)))
  have k2:upd (upd H1 D2 (.lst ((lvT fs).map V.int))) p2 (.tup [.ref D2,.int (lvB fs:Nat)]) p2 = _:=bH
  generalize upd (upd H1 D2 (.lst ((lvT fs).map V.int))) p2 (.tup [.ref D2,.int (lvB fs:Nat)]) = H2 at S2 k1 k2 ⊢
  have SS:=S1.trans S2
  have z9:101 < sizeLine:=by decide
  have W0:(0:Int) < (lvB fs:Nat):=by have:=uN fq; omega
  have bW:=Lr fq f12
  have bT:=Oz fq f12
  have lT:(lvT fs).length = fs.length:=by unfold lvT; rw [ak]
  have vT:∀ r,r < fs.length->((lvT fs).getD r 0:Rat) = (((lvB fs:Nat):Int):Rat) * wq fs r:=fun r lr=>abL fq lr
  generalize hW:((lvB fs:Nat):Int) = W at *
  generalize lvT fs = Ts at *
  have WR:(0:Rat) < (W:Rat):=Rat.intCast_pos.mpr W0
  subst hR1
  dsimp only [cN,L2.start]
  refine bV fun R1 hR1=>?_
  refine cL ⟨bw _,fun tl H3 S3 f3 h3=>?_⟩
  subst hR1
  dsimp only [cN,L2.start]
  refine bV fun R1 hR1=>?_
  refine cZ (Bt ⟨_,rfl,l,pl.map stV,rfl,S3 _ _ (SS _ _ hl),fun k σ H'=>∃ u5 u6 u7 ql,σ = [some (.ref o),some (.ref l),some (.ref lw),some (.ref p2),some (.ref tl),u5,u6,u7]/\Same H2 H'/\H' tl = some (.lst (ql.map stV))/\qP sh fs fcss (pl.take k) ql,⟨none,none,none,[],rfl,S3,h3,⟨rfl,fun k o q fcs e=>by simp at e⟩⟩,?_,?_⟩)
  .rintro k x σ' H' t hk ⟨u5,u6,u7,ql,rfl,S,htl,ma⟩ hl' ht
   have St:Same H' (upd H' t (.tup [.int k,x])):=Same.upd ht
   have e2:upd H' t (.tup [.int k,x]) t = some (.tup [.int k,x]):=bH
   generalize upd H' t (.tup [.int k,x]) = Ht at St e2 ⊢
   have lk:k < pl.length:=by have:=(ao.mp hk).1; rw [ak] at this; exact this
   have ep:pl[k]? = some pl[k]:=aj lk
   rw [au,ep] at hk
   cases hk
   generalize pl[k] = ok at *
   have eg:rms[k]? = some (rms[k]'(by omega)):=aj _
   have gm:=aV (l:=rms) (n:=k) (by omega)
   have ef:fcss[k]? = some (fcss[k]'(by omega)):=aj _
   have dn:=dn k _ _ eg ef
   have gf:=few.few _ gm
   have gw:=few.ways _ gm
   have pf:=fun d=>pf k _ d eg
   generalize rms[k]'(by omega) = g at *
   generalize fcss[k]'(by omega) = fcs at *
   have S2t:=S.trans St
   have SHt:=SS.trans S2t
   have qlen:ql.length = k:=by rw [ma.len,bh]; omega
   refine ⟨t,_,rfl,e2,rfl,_,_,rfl,_,_,rfl,rfl,?_⟩
   dsimp only [cN,List.set_cons_succ,List.set_cons_zero]
   refine bV fun R2 hR2=>?_
   refine cL (c7 ⟨D.Hall,(by unfold dX; simp),_,rfl,o,dx,_,rfl,SHt _ _ ho,rfl,_,rfl,o,p,k,rms,g,rfl,hh.same SHt,eg,gf,gw,fun r H4 zs S4 f4 h4 of4=>⟨r,zs,rfl,h4,?_,fun D3 g3=>⟨fun j ys Hc=>Same H4 Hc/\Hc D3 = some (.lst ys)/\∃ qs,FL (del [D3] Hc) ys qs/\qs.length = j/\(∀ f ∈ qs,Fb f)/\qs.map vl = ((lZ sh fs fcs).take j).map (· * (W:Rat)),⟨Same.upd g3,bH,[],.nil,rfl,by simp,rfl⟩,?_,?_⟩⟩⟩)
   .rw [(of4 [] (by intro a ha; cases ha)).len]; omega
   .rintro j y ys Hc hj ⟨S5,h5,qs,fl5,ql5,fb5,v5⟩ _ ha
    have of5:=(of4 [] (by intro a ha; cases ha)).same mY
    have zl:zs.length = fcs.length:=by rw [of5.len,dn.len]
    have lj:j < fcs.length:=by rw [<- zl]; exact (ao.mp hj).1
    have ef2:fcs[j]? = some fcs[j]:=aj lj
    have ed:g.2[j]? = some (g.2[j]'(by rw [dn.len]; exact lj)):=aj _
    obtain ⟨dN,dF⟩:=dn.at_ j _ _ ed ef2
    generalize fcs[j] = fc at ef2 dN dF
    generalize g.2[j]'(by rw [dn.len]; exact lj) = d at ed dN
    have S04:=SHt.trans S4
    obtain ⟨tt,et,oN⟩:=of5.offN nd ed (dN.same S04)
    rw [hj] at et
    cases et
    have S05:=S04.trans S5
    have S25:=S2t.trans (S4.trans S5)
    have dF':=dF
    rw [<- lT] at dF'
    refine ⟨_,rfl,_,rfl,_,rfl,o,p,tt,p2,D2,rms,sh,fc.1,fc.2,Ts,W,rfl,hh.same S05,S05 _ _ hp,s0,b1,b2,oN.same S5,dF',S25 _ _ k2,S25 _ _ k1,W0,bW.up (by decide),fun x hx=>(bT x hx).up (by decide),fun r7 z7 o7 H7 S7 f7 h7 y0 bz b_y v7=>?_⟩
    have n7:r7 ∉ [D3]:=by
     simp only [List.mem_singleton]
     exact (bD h5 f7).symm
    refine ⟨S7 _ _ h5,S7 _ _ ha,fun b u e=>(bI (bD e g3)).trans (S7 _ _ (S5 _ _ e)),bH,qs ++ [(z7,o7)],?_,by rw [aB,ql5]; rfl,fun f hf=>?_,?_⟩
    .rw [qL (List.mem_singleton.mpr rfl)]
     exact (fl5.same (oA fun b o _ e=>S7 _ _ e)).append (.cons (fG n7 h7) .nil)
    .rcases List.mem_append.mp hf with hf | hf
     .exact fb5 f hf
     .rw [List.mem_singleton.mp hf]
      exact ⟨y0,bz.bd (by decide),b_y.bd (by decide)⟩
    .have eq:(lZ sh fs fcs)[j]? = some (Cg sh fc.1 fc.2 fs):=by unfold lZ; rw [au,ef2]; rfl
     rw [cH eq,bA,bA,v5]
     congr 1
     show [vl (z7,o7)] = [Cg sh fc.1 fc.2 fs * (W:Rat)]
     rw [v7,Q7 (W:=(W:Rat)) (h:=wq fs) fun c hc=>vT c.1 (dF.ch c hc).1]
     unfold Cg
     congr 1
     grind
   .rintro ys Hc ⟨S5,h5,qs,fl5,ql5,fb5,v5⟩ hy
    have zl:zs.length = fcs.length:=by rw [(of4 [] (by intro a ha; cases ha)).len,dn.len]
    have lq:(lZ sh fs fcs).length = fcs.length:=by unfold lZ; rw [ak]
    rw [zl,<- lq,aP] at v5
    rw [zl] at ql5
    have S6:=S4.trans S5
    have htl:=S6 _ _ (St _ _ htl)
    have hl6:=S6 _ _ (St _ _ hl')
    have S26:=S2t.trans S6
    have ntl:l ≠ tl:=bD (SS _ _ hl) f3
    have r20:=few.len
    have fin:∀ q:Option Nat,((ok = none->q = none)/\∀ d,ok = some d->∃ j,q = some j/\sO (lZ sh fs fcs) d j)->upd Hc tl (.lst (ql.map stV ++ [stV q])) l = some (.lst (pl.map stV))/\∃ u5 u6 u7 ql',[some (V.ref o),some (.ref l),some (.ref lw),some (.ref p2),some (.ref tl),some (.int (k:Nat)),some (stV ok),some (.ref D3)] = [some (.ref o),some (.ref l),some (.ref lw),some (.ref p2),some (.ref tl),u5,u6,u7]/\Same H2 (upd Hc tl (.lst (ql.map stV ++ [stV q])))/\upd Hc tl (.lst (ql.map stV ++ [stV q])) tl = some (.lst (ql'.map stV))/\qP sh fs fcss (pl.take (k + 1)) ql':=fun q hq=>⟨(bI ntl).trans hl6,_,_,_,ql ++ [q],rfl,fun b u e=>(bI (bD e f3)).trans (S26 _ _ e),by rw [bH,bA]; rfl,ma.snoc ep ef hq⟩
    subst hR2
    dsimp only [cN,List.set_cons_succ,List.set_cons_zero]
    cases ok with
    | none=>exact ⟨_,rfl,tl,_,rfl,htl,_,rfl,rfl,true,congrArg V.bl (decide_eq_true rfl),_,_,rfl,htl,by rw [ak]; omega,fin none ⟨fun _=>rfl,fun d e=>by cases e⟩⟩
    | some d =>
     have ld:d < qs.length:=by rw [ql5,<- dn.len]; exact pf d ep
     refine ⟨_,rfl,tl,_,rfl,htl,_,rfl,rfl,false,congrArg V.bl (decide_eq_false (fun z=>by cases z)),_,rfl,_,rfl,D3,d,ys,qs,rfl,h5,fl5.same mY,fb5,ld,by rw [ql5,<- dn.len]; exact gf,fun j bj=>⟨_,_,rfl,htl,by rw [ak]; omega,fin (some j) ⟨(fun z=>by cases z),fun d' e=>?_⟩⟩⟩
     cases e
     rw [v5] at bj
     exact ⟨j,rfl,bj.of_mul WR⟩
  .rintro σ' H' ⟨u5,u6,u7,ql,rfl,S,htl,ma⟩ hl'
   rw [ak,aP] at ma
   subst hR1
   exact ⟨_,rfl,q tl H' ql (SS.trans S) (Same.free SS f3) htl ma⟩
noncomputable def mj:Sp:=fun vs H Q _=>∃ (a b:Int),vs = [.int a,.int b]/\0 < b/\Bd b/\∀ p,H p = none->Q (.ref p) (upd H p (.tup [.int (Ac.lw a b).1,.int (Ac.lw a b).2]))
theorem RK (F:Fun K lW lW Dk f fd) (Uh:OkF P w K mg base 1 Bk Dy JG):cD P w K mg base CX0 2 f fd lX mj:=by
 refine F.ok FJ (fun vs H Q E h=>?_) (fun cdv A outer s H vs Q E hr h=>?_)
 .obtain ⟨a,b,rfl,_⟩:=h
  rfl
 .obtain ⟨a,b,rfl,hb,hbd,q⟩:=h
  refine ⟨_,(bK (bZ (i:=2) FJ.nd rfl (Or.inl rfl) (bN Uh (hr.mono (by decide)) (by rfl) (bC (pv 0) (bC (pv 1) bG))))
   (bL (cg (dO (bC (bQ j6 (pv 0) (pv 2)) (bC (bQ j6 (pv 1) (pv 2)) bG)))))),?_⟩
  have g0:=HY (a:=a) (b:=b) (by omega)
  have g1:=Mv (a:=a) (b:=b) (by omega) hbd
  unfold JG
  walk_at "rd"
  rw [oO _ g0,oO _ g0]
  exact ⟨by omega,g1,by omega,g1,dR,q⟩
theorem Same.sql {K:Frag} {H H':Hp} {a:Addr} {xs:List V} (S:Same H H') (h:SqL K H a xs):SqL K H' a xs:=by
 rcases h with (h | ⟨o,h⟩) | h
 .exact .inl (.inl (S _ _ h))
 .exact .inl (.inr ⟨o,S _ _ h⟩)
 .exact .inr h
theorem Zi {α:Type} : ∀ {l:List α},l.length = 2->∃ a b,l = [a,b]
 | [a,b],_=>⟨a,b,rfl⟩
noncomputable def Im:Sp:=fun vs H Q _=>∃ c:Int,vs = [.int c]/\∀ (n:Nat) H',n <= 12->Same H H'->Q (.int n) H'
theorem aar (F:Fun K xu xu Mu f fd) (T:Txt K mg D) (cT:OkF P w K mg base 1 eX eV dY):cD P w K mg base CX0 2 f fd yu Im:=by
 refine F.ok Qa (fun vs H Q E h=>?_) (fun cdv A outer s H vs Q E hr h=>?_)
 .obtain ⟨c,rfl,_⟩:=h
  rfl
 .obtain ⟨c,rfl,q⟩:=h
  refine ⟨_,(bK (bZ (i:=1) Qa.nd rfl (Or.inl rfl) (bN cT (hr.mono (by decide)) (by rfl) (bC (pv 0) (bC bF bG))))
   (bK (cQ (cA iI (bQ cR (bR bO (pv 1) bF (fun _ _=>rfl)) bF) bF (cC _))
    (bL (cg bF))
    cj)
   (bK (cQ (cA iI (bQ cR (bR bO (pv 1) bF (fun _ _=>rfl)) bF) bF (cC _))
    (bL (cg (bQ cV bF (bQ cR (bR bO (pv 1) bF (fun _ _=>rfl)) bF))))
    cj)
   (bL (cg (bQ cV bF (bQ cR (bR bO (pv 1) bF (fun _ _=>rfl)) bF))))))),?_⟩
  unfold dY
  walk_at "rd"
  refine ⟨2,rfl,by decide,fun l xs H' S _ hl ln hx=>?_⟩
  obtain ⟨a,b,rfl⟩:=Zi ln
  refine ⟨_,hl,_,dG,a,rfl,?_⟩
  split
  .exact q 0 H' (by decide) S
  .refine ⟨_,hl,_,dG,a,rfl,?_⟩
   split
   .refine ⟨_,hl,_,cX,b,rfl,?_⟩
    have:6 + b % 7 = ((6 + b % 7).toNat:Int):=by omega
    rw [this]
    exact q _ H' (by omega) S
   .refine ⟨_,hl,_,cX,b,rfl,?_⟩
    have:1 + b % 5 = ((1 + b % 5).toNat:Int):=by omega
    rw [this]
    exact q _ H' (by omega) S
noncomputable def DK:Sp:=fun vs H Q _=>∃ (c a b:Int),vs = [.int c,.int a,.int b]/\∀ (p:Addr) (x y:Int),H p = none->0 < y->Int.gcd x y = 1->x.natAbs <= 10 ^ 30->y <= 1000->Q (.ref p) (upd H p (.tup [.int x,.int y]))
theorem abd (F:Fun K zH zH WX f fd) (T:Txt K mg D) (g_:OkF P w K mg base 2 lW lX mj):cD P w K mg base CX0 3 f fd yZ DK:=by
 refine F.ok abg (fun vs H Q E h=>?_) (fun cdv A outer s H vs Q E hr h=>?_)
 .obtain ⟨p,n,y,rfl,_⟩:=h
  rfl
 .obtain ⟨c,x,y,rfl,q⟩:=h
  have lo:∀ (a b:Int) (p:Addr),0 < b->a.natAbs <= 10 ^ 30->b <= 1000->H p = none->Q (.ref p) (upd H p (.tup [.int (Ac.lw a b).1,.int (Ac.lw a b).2])):=fun a b p b0 ha hb hp=>by
   have h2:=Ac.zX a b
   have h3:=Ac.jO (t:=a) b0
   exact q p _ _ hp h3 (Ac.vH b0) (aM (Ac.Bl a b) ha) (by omega)
  refine ⟨_,(bK (cQ (cA tG (bQ cR (pv 1) bF) bF (cC _))
    (bL (cg (dO (bC (bQ zM (bQ cR (pv 2) bF) bF) (bC bF bG)))))
    cj)
   (bK (cQ (cA tG (bQ cR (pv 1) bF) bF (cC _))
    (bL (cg (bN g_ (hr.mono (by decide)) (by rfl) (bC (bQ zM (bQ cR (pv 2) bF) bF) (bC (bQ cV bF (bQ cR (bQ j6 (pv 1) bF) bF)) bG)))))
    cj)
   (bK (cQ (cA iI (bQ cR (pv 1) bF) bF (cC _))
    (bL (cg (dO (bC (bQ zM (bQ cR (pv 0) bF) bF) (bC bF bG)))))
    cj)
   (bL (cg (bN g_ (hr.mono (by decide)) (by rfl) (bC (bQ zM (bQ cR (bQ cV (bQ Cq (pv 0) bF) (pv 2)) (bQ cV (bQ cM bF (bQ JR bF bF)) bF)) (bQ JR bF bF)) (bC (bQ cV bF (bQ cR (bQ j6 (pv 1) bF) bF)) bG)))))))),?_⟩
  unfold mj
  walk_at "rd"
  have b30:Bd 1000000000000000000000000000000:=Nat.lt_of_le_of_lt (aG _) (by decide +kernel)
  rw [oO _ (by decide)]
  split
  .exact ⟨dR,fun p hp=>q p _ _ hp (by decide) (by simp) (by omega) (by decide)⟩
  split
  .exact ⟨Bd.sm (by decide),by omega,Bd.sm (by omega),fun p hp=>lo _ _ p (by omega) (by omega) (by omega) hp⟩
  split
  .exact ⟨dR,fun p hp=>q p _ _ hp (by decide) (by simp) (by omega) (by decide)⟩
  .exact ⟨.inr (by constructor <;> decide),YK (by decide) (by decide),Bd.sm (by decide),b30,YK (by decide) (by decide),Bd.sm (by decide),by omega,Bd.sm (by omega),fun p hp=>lo _ _ p (by omega) (by omega) (by omega) hp⟩
noncomputable def Ax:Sp:=fun vs H Q _=>∃ c:Int,vs = [.int c]/\∀ (p:Addr) (x y:Int) H',Same H H'->H' p = some (.tup [.int x,.int y])->0 <= x->x < y->y <= 100->Int.gcd x y = 1->Q (.ref p) H'
theorem V0 (F:Fun K rH rH Ir f fd) (T:Txt K mg D) (cT:OkF P w K mg base 1 eX eV dY) (g_:OkF P w K mg base 2 lW lX mj):cD P w K mg base CX0 3 f fd tY Ax:=by
 refine F.ok Ba (fun vs H Q E h=>?_) (fun cdv A outer s H vs Q E hr h=>?_)
 .obtain ⟨c,rfl,_⟩:=h
  rfl
 .obtain ⟨c,rfl,q⟩:=h
  refine ⟨_,(bK (bZ (i:=1) Ba.nd rfl (Or.inl rfl) (bN cT (hr.mono (by decide)) (by rfl) (bC (pv 0) (bC bF bG))))
   (bK (bZ (i:=2) Ba.nd rfl (Or.inl rfl) (bQ cV bF (bQ iW (bR bO (pv 1) bF (fun _ _=>rfl)) (bR bO (fK (bC bF (bC bF (bC bF (bC bF bG))))) (bQ cR (bR bO (pv 1) bF (fun _ _=>rfl)) bF) (fun _ _=>rfl)))))
   (bL (cg (bN g_ (hr.mono (by decide)) (by rfl) (bC (bQ iW (bR bO (pv 1) bF (fun _ _=>rfl)) (pv 2)) (bC (pv 2) bG))))))),?_⟩
  refine cL ⟨_,rfl,c,3,rfl,by decide,fun l xs H1 S1 fl hl ln hx=>?_⟩
  obtain ⟨a,b,e,rfl⟩ : ∃ a b e,xs = [a,b,e]:=by
   match xs,ln with
   | [a,b,e],_=>exact ⟨a,b,e,rfl⟩
  have xa:=hx a (by simp)
  have xe:=hx e (by simp)
  refine cL ⟨_,rfl,l,_,0,_,rfl,rfl,hl,dG,by decide,fun p1 H2 S2 f2 h2=>?_⟩
  obtain ⟨md,ed,m0,m1⟩ : ∃ md:Int,atI [V.int 4,V.int 6,V.int 10,V.int 100] (b % 4) = some (.int md)/\0 < md/\md <= 100:=by
   obtain z | z | z | z:b % 4 = 0\/b % 4 = 1\/b % 4 = 2\/b % 4 = 3:=by omega
   .exact ⟨4,by rw [z]; exact bU (j:=0) rfl,by decide,by decide⟩
   .exact ⟨6,by rw [z]; exact bU (j:=1) rfl,by decide,by decide⟩
   .exact ⟨10,by rw [z]; exact bU (j:=2) rfl,by decide,by decide⟩
   .exact ⟨100,by rw [z]; exact bU (j:=3) rfl,by decide,by decide⟩
  have hl2:=S2 _ _ hl
  refine ⟨_,rfl,l,_,1,_,rfl,rfl,hl2,cX,b,4,rfl,rfl,(show (0:Int) < 4 by decide),p1,_,_,_,rfl,rfl,h2,ed,a,md,rfl,rfl,by omega,1,_,rfl,rfl,?_⟩
  obtain ⟨t,et,t0,t1⟩ : ∃ t:Int,1 + a.fmod md = t/\1 <= t/\t <= 100:=⟨_,rfl,by rw [aX _ (by omega)]; have:=Int.emod_nonneg a (b:=md) (by omega); omega,by rw [aX _ (by omega)]; have:=Int.emod_lt_of_pos a (b:=md) m0; omega⟩
  show R6 _ _ [some (.int c),some (.ref l),some (.int (1 + a.fmod md))] H2
  rw [et]
  have f0:0 <= e.fmod t:=by rw [aX _ (by omega)]; exact Int.emod_nonneg _ (by omega)
  have f1:e.fmod t < t:=by rw [aX _ (by omega)]; exact Int.emod_lt_of_pos _ (by omega)
  refine gB ⟨_,rfl,l,_,2,_,rfl,rfl,hl2,bU (j:=2) rfl,_,rfl,e,t,rfl,rfl,by omega,_,rfl,_,t,rfl,by omega,Bd.sm (by omega),fun p hp=>?_⟩
  have y0:=Ac.jO (t:=e.fmod t) (b:=t) (by omega)
  have yg:=Ac.vH (t:=e.fmod t) (b:=t) (by omega)
  have ye:=Ac.zR (t:=e.fmod t) (b:=t) (by omega)
  have y2:=Ac.zX (e.fmod t) t
  generalize (Ac.lw (e.fmod t) t).1 = x at *
  generalize (Ac.lw (e.fmod t) t).2 = y at *
  refine q p x y _ (S1.trans (S2.trans (Same.upd hp))) bH ?_ ?_ (by omega) yg
  .refine Int.not_lt.mp fun z=>?_
   have h1:x * t < 0:=Int.mul_neg_of_neg_of_pos z (by omega)
   have h2:0 <= e.fmod t * y:=Int.mul_nonneg f0 (by omega)
   omega
  .refine Int.not_le.mp fun z=>?_
   have h1:y * t <= x * t:=Int.mul_le_mul_of_nonneg_right z (by omega)
   have h2:e.fmod t * y < t * y:=Int.mul_lt_mul_of_pos_right f1 y0
   have h3:t * y = y * t:=Int.mul_comm ..
   omega
noncomputable def ltL:List Nat:=(Str.ofString "abcdefghijklmnopqrstuvwxyz").cps.toList
theorem ZC:ltL.length = 26:=by decide +kernel
theorem YL:∀ a b:Fin 26,ltL[a.val]? = ltL[b.val]?->a = b:=by decide +kernel
theorem abE {a b:Int} {c:Nat} (a0:0 <= a) (a1:a < 26) (b0:0 <= b) (b1:b < 26) (ha:ltL[a.toNat]? = some c) (hb:ltL[b.toNat]? = some c):a = b:=by
 have:=YL ⟨a.toNat,by omega⟩ ⟨b.toNat,by omega⟩ (ha.trans hb.symm)
 have:=congrArg Fin.val this
 simp only at this
 omega
theorem V8 {a:Int} (a0:0 <= a) (a1:a < 26):∃ c,atI (Str.ofString "abcdefghijklmnopqrstuvwxyz").cps.toList a = some c/\ltL[a.toNat]? = some c/\vD c = true:=by
 obtain ⟨k,rfl⟩:=Int.eq_ofNat_of_zero_le a0
 have h:k < ltL.length:=by rw [ZC]; omega
 exact ⟨ltL[k],bU (aj h),aj h,decide_eq_true (aV h)⟩
noncomputable def rJ (R:Nat->Str->Prop) (D:Addr) (H:Hp) (k:Nat) (ys:List V) (Hc:Hp):Prop:=∃ ss:List Str,ys = ss.map V.str/\ss.length = k/\(∀ i x,ss[i]? = some x->R i x)/\Hc = upd H D (.lst ys)
theorem rJ.next {R:Nat->Str->Prop} {D:Addr} {H:Hp} {k:Nat} {ys:List V} {Hc:Hp} (h:rJ R D H k ys Hc) {x:Str} (h0:R k x):rJ R D H (k + 1) (ys ++ [.str x]) (upd Hc D (.lst (ys ++ [.str x]))):=by
 obtain ⟨ws,rfl,rfl,ha,rfl⟩:=h
 refine ⟨ws ++ [x],by rw [bA]; rfl,by rw [aB]; rfl,fun i y hy=>?_,nH⟩
 by_cases hi:i < ws.length
 .rw [aF hi] at hy
  exact ha i y hy
 .have hl:=(ao.mp hy).1
  rw [aB] at hl
  have hl:i < ws.length + 1:=hl
  have e:i = ws.length:=by omega
  subst e
  rw [aD (aG _),Nat.sub_self] at hy
  cases hy
  exact h0
theorem rJ.at_ {R:Nat->Str->Prop} {D:Addr} {H:Hp} {k:Nat} {ys:List V} {Hc:Hp} (h:rJ R D H k ys Hc):Hc D = some (.lst ys):=by
 obtain ⟨ws,rfl,hl,ha,rfl⟩:=h
 exact bH
theorem rJ.same {R:Nat->Str->Prop} {D:Addr} {H:Hp} {k:Nat} {ys:List V} {Hc:Hp} (h:rJ R D H k ys Hc) (hD:H D = none):Same H Hc:=by
 obtain ⟨ws,rfl,hl,ha,rfl⟩:=h
 exact Same.upd hD
theorem Pj {R:Nat->Str->Prop} {ss:List Str} (h:∀ i x,ss[i]? = some x->R i x) (u:∀ i j x,i < j->j < ss.length->R i x->R j x->False):ss.Nodup:=by
 unfold List.Nodup
 rw [List.pairwise_iff_getElem]
 intro i j hi hj ij e
 exact u i j ss[i] ij hj (h i _ (aj hi)) (by rw [e]; exact h j _ (aj hj))
theorem aaG {R:Nat->Str->Prop} {P:Str->Prop} {ss:List Str} (h:∀ i x,ss[i]? = some x->R i x) (u:∀ i x,i < ss.length->R i x->P x):∀ x ∈ ss,P x:=fun x hx=>by
 obtain ⟨i,hi⟩:=aW hx
 exact u i x (ao.mp hi).1 (h i x hi)
theorem Uc {x:Str} {n:Nat} : (Bs x none (some (n:Int))).cps.toList = x.cps.toList.take n:=by
 unfold Bs
 have hl:x.cps.toList.length = x.length:=Array.length_toList
 show ((x.cps.toList.drop 0).take (HT.sIx x.length x.length (some (n:Int)) - 0)) = _
 rw [HT.nQ,List.drop_zero,Nat.sub_zero,<- hl]
 rw [List.take_eq_take_iff]
 omega
theorem Kz {x:Str} {n:Nat} : (Bs x (some (n:Int)) none).cps.toList = x.cps.toList.drop n:=by
 unfold Bs
 have hl:x.cps.toList.length = x.length:=Array.length_toList
 show ((x.cps.toList.drop (HT.sIx x.length 0 (some (n:Int)))).take (x.length - HT.sIx x.length 0 (some (n:Int)))) = _
 rw [HT.nQ,<- hl]
 by_cases h:n <= x.cps.toList.length
 .rw [Nat.min_eq_left h]
  exact aL (by rw [List.length_drop]; omega)
 .rw [List.drop_eq_nil_of_le (by omega:x.cps.toList.length <= n),List.drop_eq_nil_of_le (by omega),List.take_nil]
theorem Jy {ys:List V} {a b:Nat} (ab:a <= b) (h:b <= ys.length):gU ys (some (a:Int)) (some (b:Int)) = (ys.drop a).take (b - a):=by
 unfold gU
 rw [HT.nQ,HT.nQ,Nat.min_eq_left h,Nat.min_eq_left (aM ab h)]
theorem FT:∀ {ss:List Str},(∀ y ∈ ss,y.length = 1)->(ss.map (·.length)).sum = ss.length
 | [],_=>rfl
 | y :: ss,h=>by
  rw [List.map_cons,List.sum_cons,FT fun z hz=>h z (aJ _ hz),h y aO,List.length_cons]; omega
noncomputable def nm1 (c:Nat) (i:Nat) (x:Str):Prop:=x.cps.toList = List.replicate (i + 1) c
noncomputable def nm2 (b:List Nat) (at_:Nat) (x0 st:Int) (i:Nat) (x:Str):Prop:=∃ c,ltL[((x0 + st * i) % 26).toNat]? = some c/\vD c = true/\x.cps.toList = b.take at_ ++ c :: b.drop at_
theorem ZF {b:List Nat} {at_:Nat} {x0 st:Int} {i j:Nat} {x:Str} (hs:st = 1\/st = 3\/st = 5\/st = 7\/st = 9\/st = 11) (ij:i < j) (hj:j < 13) (h1:nm2 b at_ x0 st i x) (h2:nm2 b at_ x0 st j x):False:=by
 obtain ⟨c,a1,_,e1⟩:=h1
 obtain ⟨d,a2,_,e2⟩:=h2
 have e:=e1.symm.trans e2
 have e:=List.append_cancel_left e
 injection e with e _
 subst e
 have:=abE (by omega) (by omega) (by omega) (by omega) a1 a2
 rcases hs with rfl | rfl | rfl | rfl | rfl | rfl <;> omega
theorem qX (x:Str):x.cps.toList.length = x.length:=Array.length_toList
theorem aa1 {c i:Nat} {x:Str} (hc:vD c = true) (hi:i < 8) (h:nm1 c i x):Wd x:=by
 have l:=qX x
 rw [h,aN] at l
 refine ⟨?_,by omega,by omega⟩
 unfold Lt
 rw [h,List.all_eq_true]
 intro d hd
 rw [(List.mem_replicate.mp hd).2]; exact hc
theorem abe {b:List Nat} {at_:Nat} {x0 st:Int} {i:Nat} {x:Str} (hb:b.all vD = true) (hl:b.length <= 7) (h:nm2 b at_ x0 st i x):Wd x:=by
 obtain ⟨c,_,hc,e⟩:=h
 have l:=qX x
 rw [e,aB,List.length_cons,bh,List.length_drop] at l
 refine ⟨?_,by omega,by omega⟩
 unfold Lt
 rw [e,List.all_eq_true]
 rw [List.all_eq_true] at hb
 intro d hd
 rcases List.mem_append.mp hd with hd | hd
 .exact hb d (List.mem_of_mem_take hd)
 .rcases List.mem_cons.mp hd with rfl | hd
  .exact hc
  .exact hb d (List.mem_of_mem_drop hd)
noncomputable def sJN (P:Str->Prop) (D:Addr) (H:Hp) (k:Nat) (ys:List V) (Hc:Hp):Prop:=∃ ss:List Str,ys = ss.map V.str/\ss.length = k/\(∀ x ∈ ss,P x)/\Hc = upd H D (.lst ys)
theorem sJN.next {P:Str->Prop} {D:Addr} {H:Hp} {k:Nat} {ys:List V} {Hc:Hp} (h:sJN P D H k ys Hc) {x:Str} (h0:P x):sJN P D H (k + 1) (ys ++ [.str x]) (upd Hc D (.lst (ys ++ [.str x]))):=by
 obtain ⟨ws,rfl,hl,ha,rfl⟩:=h
 refine ⟨ws ++ [x],by rw [bA]; rfl,by rw [aB,hl]; rfl,fun y hy=>?_,nH⟩
 rcases List.mem_append.mp hy with hy | hy
 .exact ha y hy
 .rw [List.mem_singleton.mp hy]; exact h0
theorem sJN.at_ {P:Str->Prop} {D:Addr} {H:Hp} {k:Nat} {ys:List V} {Hc:Hp} (h:sJN P D H k ys Hc):Hc D = some (.lst ys):=by
 obtain ⟨ws,rfl,hl,ha,rfl⟩:=h
 exact bH
noncomputable def xT:Sp:=fun vs H Q _=>∃ (c:Int) (n:Nat),vs = [.int c,.int n]/\n <= 12/\∀ (l:Addr) (xs:List Str) H',Same H H'->H l = none->H' l = some (.lst (xs.map V.str))->xs.length = n->(∀ x ∈ xs,Wd x)->xs.Nodup->Q (.ref l) H'
theorem JZ {a b:TT} {t v:TS} {D:Ends} {σ:L2.St} {H:Hp} (p q:Bool) (ha:∀ Q:Bool->Hp->Prop,Q p H->a σ H Q) (hb:∀ Q:Bool->Hp->Prop,Q q H->b σ H Q) (ht:(p && q) = true->t { D with nx:=v D } σ H) (hu:v D σ H):qd (z8 (W5 a b) t wu) v D σ H:=by
 refine ha _ ?_
 cases p with
 | false=>exact hu
 | true =>
  refine hb _ ?_
  cases q with
  | false=>exact hu
  | true=>exact ht rfl
theorem Wq (F:Fun K uG uG uX f fd) (T:Txt K mg D) (cT:OkF P w K mg base 1 eX eV dY):cD P w K mg base CX0 2 f fd tD xT:=by
 refine F.okB qm (fun vs H Q E h=>?_) (fun cdv A outer s H vs Q E hr h=>?_)
 .obtain ⟨c,n,rfl,_⟩:=h
  rfl
 .obtain ⟨c,n,rfl,hn,q⟩:=h
  have z1000:1000 <= sizeLine:=by decide
  have lL:(Str.ofString "abcdefghijklmnopqrstuvwxyz").length <= sizeLine:=aM (show (Str.ofString "abcdefghijklmnopqrstuvwxyz").length <= 1000 by decide +kernel) z1000
  refine ⟨_,(cB (PSB.mk (bZ (i:=2) qm.nd rfl (Or.inr rfl) jq))
   (cB (PSB.mk (bZ (i:=3) qm.nd rfl (Or.inr rfl) (bN cT (hr.mono (by decide)) (by rfl) (bC (pv 0) (bC bF bG)))))
   (cB (PSB.mk (cQ (PW.pt (pw_and (cA iI (bQ cR (bR bO (pv 3) bF (fun _ _=>rfl)) bF) bF (cC _)) (pw_and1 (cA Ks (pv 1) bF (cC _)))))
    (bL (cg (jr (bM uX) qO qO ["_law_k"] (fV (by rfl) T.kE (bC (pv 1) bG).mono) (dZ (i:=0)) dh (bQ Zk (bR Ou (pv 3) (bQ cR (bR bO (pv 4) bF (fun _ _=>rfl)) bF) (fun _ _=>rfl)) (bQ cV (pv 0) bF)))))
    cj))
   (cB (PSB.mk (bZ (i:=4) qm.nd rfl (Or.inr rfl) (aeJ PySem.F.slot_str_join PySem.F.type_str_join Zj jq (bC (jr (bM uX) qO qO ["_law_x"] (dj ((iM qp (pv 3) (fL bF) (fL (bQ cV bF (bQ cR (bR bO (pv 3) bF (fun _ _=>rfl)) bF))))).mono) (dZ (i:=0)) dh (bR Ou (pv 3) (bQ cR (pv 0) bF) (fun _ _=>rfl))) bG))))
   (cB (PSB.mk (bZ (i:=5) qm.nd rfl (Or.inr rfl) (bQ cR (bR bO (pv 3) bF (fun _ _=>rfl)) bF)))
   (cB (aap (i:=6) qm.nd rfl (Or.inr rfl) (Zw (aae (Gf uP (Gf uP (Gf uP (Gf uP (Gf uP (Gf uP Yg))))))) (bQ cR (bR bO (pv 3) bF (fun _ _=>rfl)) bF) (fun _ _=>rfl)))
   (xJ (PSB.mk (cg (jr (bM uX) qO qO ["_law_k"] (fV (by rfl) T.kE (bC (pv 1) bG).mono) (dZ (i:=0)) dh (bQ Qo (bQ Qo (iM V4 (pv 5) uM (fL (pv 6))) (bR Ou (pv 3) (bQ cR (bQ cV (bR bO (pv 4) bF (fun _ _=>rfl)) (bQ cM (pv 7) (pv 0))) bF) (fun _ _=>rfl))) (iM V4 (pv 5) (fL (pv 6)) uM)))))))))))),?_⟩
  unfold dY
  refine ⟨_,rfl,c,11,rfl,by decide,fun l xs H1 S1 hl hl1 hx hr'=>?_⟩
  have at_:∀ j,j < 11->∃ y,atI (xs.map V.int) (j:Nat) = some (.int y)/\0 <= y:=fun j hj=>by
   have:j < xs.length:=by omega
   exact ⟨xs[j],bU (j:=j) (by rw [au,aj this]; rfl),(hr' _ (aV this)).1⟩
  obtain ⟨x0,a0,p0⟩:=at_ 0 (by decide)
  obtain ⟨x1,a1,p1⟩:=at_ 1 (by decide)
  obtain ⟨x9,a9,p9⟩:=at_ 9 (by decide)
  obtain ⟨x10,a10,p10⟩:=at_ 10 (by decide)
  dsimp only [cN]
  refine JZ (decide (x0 % 3 = 1)) (decide ((n:Int) <= 8)) (fun Q' hq=>?_) (fun Q' hq=>?_) (fun hc=>?_) ?_
  .walk_at "rd"
   exact ⟨_,hl1,_,a0,_,rfl,hq⟩
  .walk_at "rd"
   exact hq
  .simp only [Bool.and_eq_true,decide_eq_true_eq] at hc
   obtain ⟨c1,e1,g1,lc1⟩:=V8 (a:=x1 % 26) (by omega) (by omega)
   refine mV ?_
   walk_at "rd"
   refine ⟨n,rfl,by omega,fun D2 hD2=>⟨rJ (nm1 c1) D2 H1,⟨[],rfl,rfl,by simp,rfl⟩,?_,?_⟩⟩
   .rintro k ys Hc hk j hy
    have hlc:Hc l = some (.lst (xs.map V.int)):=j.same hD2 _ _ hl1
    unfold aaH
    walk_at "rd"
    refine ⟨_,hlc,_,a1,_,rfl,lL,c1,e1,c1,rfl,by omega,by omega,fun z hz=>⟨j.at_,j.next ?_⟩⟩
    rw [show ((k:Int) + 1).toNat = k + 1 by omega] at hz
    exact hz
   .rintro ys Hc ⟨ss,rfl,hsl,hss,rfl⟩ hy
    refine q D2 ss _ (S1.trans (Same.upd hD2)) (Same.free S1 hD2) bH hsl (aaG hss fun i x hi h=>aa1 lc1 (by omega) h) (Pj hss fun i j x ij hj h1 h2=>?_)
    have:=congrArg List.length (h1.symm.trans h2)
    rw [aN,aN] at this
    omega
  .walk_at "rd"
   refine c7 ?_
   walk_at "rd"
   obtain ⟨m,em,hm⟩ : ∃ m:Nat,x1 % 8 = m/\m <= 7:=⟨(x1 % 8).toNat,by omega,by omega⟩
   refine ⟨_,hl1,_,a1,_,rfl,_,.of hl1,fun p hp=>?_⟩
   have ec:gU (xs.map V.int) (some 2) (some (2 + x1 % 8)) = ((xs.drop 2).take m).map V.int:=by
    rw [em,List.map_take,List.map_drop]
    have:=Jy (ys:=xs.map V.int) (a:=2) (b:=2 + m) (by omega) (by rw [ak]; omega)
    rw [show 2 + m - 2 = m by omega] at this
    exact this
   rw [ec]
   have ml:((xs.drop 2).take m).length = m:=by rw [bh,List.length_drop]; omega
   have S2:Same H1 (upd H1 p (.lst (((xs.drop 2).take m).map V.int))):=Same.upd hp
   generalize upd H1 p (.lst (((xs.drop 2).take m).map V.int)) = H2 at S2 ⊢
   generalize (xs.drop 2).take m = us at ml ⊢
   refine ⟨by rw [ak]; omega,fun D1 hD1=>⟨sJN (fun x=>Lt x/\x.length = 1) D1 H2,⟨[],rfl,rfl,by simp,rfl⟩,?_,?_⟩⟩
   .rintro k y1 ys Hc hk j hy hpc
    rw [au] at hk
    cases er:us[k]? with
    | none=>rw [er] at hk; cases hk
    | some i =>
     rw [er] at hk
     cases hk
     obtain ⟨c',e',hc'⟩:=Lt.one (Int.emod_nonneg i (show (26:Int) ≠ 0 by decide)) (Int.emod_lt_of_pos i (by decide))
     exact ⟨i,rfl,lL,c',e',j.at_,hpc,j.next ⟨hc',rfl⟩⟩
   .rintro ys Hc ⟨ss,rfl,hl8,hss,rfl⟩ hy
    rw [ak,ml] at hl8
    have stL:Lt (Txt.join (Str.ofString "") ss):=Lt.glued fun y hy=>(hss y hy).1
    have sum1:(ss.map (·.length)).sum = m:=by rw [FT fun y hy=>(hss y hy).2,hl8]
    have e0:(Str.ofString "").length = 0:=by decide +kernel
    have stN:(Txt.join (Str.ofString "") ss).length = m:=by
     show (Builtin.Str.glued (Str.ofString "") ss).length = m
     rw [size_glued,sum1,e0,Nat.mul_zero]; rfl
    have S3:Same H (upd H2 D1 (.lst (ss.map V.str))):=S1.trans (S2.trans (Same.upd hD1))
    have hl3:upd H2 D1 (.lst (ss.map V.str)) l = some (.lst (xs.map V.int)):=Same.upd hD1 _ _ (S2 _ _ hl1)
    refine ⟨ss,bH,by rw [sum1,e0]; omega,?_⟩
    generalize upd H2 D1 (.lst (ss.map V.str)) = H3 at S3 hl3 ⊢
    generalize Txt.join (Str.ofString "") ss = st at stL stN ⊢
    refine ⟨_,hl3,_,a9,_,rfl,by decide,fun p2 hp2=>?_⟩
    have hl4:upd H3 p2 (.lst [.int 1,.int 3,.int 5,.int 7,.int 9,.int 11]) l = some (.lst (xs.map V.int)):=Same.upd hp2 _ _ hl3
    have S4:Same H (upd H3 p2 (.lst [.int 1,.int 3,.int 5,.int 7,.int 9,.int 11])):=S3.trans (Same.upd hp2)
    have hp4:upd H3 p2 (.lst [.int 1,.int 3,.int 5,.int 7,.int 9,.int 11]) p2 = some (.lst [.int 1,.int 3,.int 5,.int 7,.int 9,.int 11]):=bH
    generalize upd H3 p2 (.lst [.int 1,.int 3,.int 5,.int 7,.int 9,.int 11]) = H4 at S4 hl4 hp4 ⊢
    refine ⟨_,hl4,_,a10,_,rfl,?_⟩
    obtain ⟨sv,es,hs⟩ : ∃ sv:Int,atI [V.int 1,V.int 3,V.int 5,V.int 7,V.int 9,V.int 11] (x10 % 6) = some (.int sv)/\(sv = 1\/sv = 3\/sv = 5\/sv = 7\/sv = 9\/sv = 11):=by
     obtain e | e | e | e | e | e:x10 % 6 = 0\/x10 % 6 = 1\/x10 % 6 = 2\/x10 % 6 = 3\/x10 % 6 = 4\/x10 % 6 = 5:=by omega
     .exact ⟨1,by rw [e]; exact bU (j:=0) rfl,by decide⟩
     .exact ⟨3,by rw [e]; exact bU (j:=1) rfl,by decide⟩
     .exact ⟨5,by rw [e]; exact bU (j:=2) rfl,by decide⟩
     .exact ⟨7,by rw [e]; exact bU (j:=3) rfl,by decide⟩
     .exact ⟨9,by rw [e]; exact bU (j:=4) rfl,by decide⟩
     .exact ⟨11,by rw [e]; exact bU (j:=5) rfl,by decide⟩
    obtain ⟨ap,eap,hap⟩ : ∃ ap:Nat,x9 % 8 = ap/\ap <= 7:=⟨(x9 % 8).toNat,by omega,by omega⟩
    refine ⟨_,es,mV ?_⟩
    rw [eap]
    walk_at "rd"
    refine ⟨n,rfl,by omega,fun D2 hD2=>⟨rJ (nm2 st.cps.toList ap x0 sv) D2 H4,⟨[],rfl,rfl,by simp,rfl⟩,?_,?_⟩⟩
    .rintro k ys Hc hk j hy
     have hlc:Hc l = some (.lst (xs.map V.int)):=j.same hD2 _ _ hl4
     obtain ⟨c2,e2,g2,lc2⟩:=V8 (a:=(x0 + sv * k) % 26) (by omega) (by omega)
     have t1:(Bs st none (some (ap:Int))).length <= 7:=by rw [<- qX,Uc,bh,qX]; omega
     have t2:(Bs st (some (ap:Int)) none).length <= 7:=by rw [<- qX,Kz,List.length_drop,qX]; omega
     have t3:({ cps:=#[c2] } : Str).length = 1:=rfl
     refine ⟨by omega,_,hlc,_,a0,Bd.sm (by omega),Bd.sm (by omega),_,rfl,lL,c2,e2,by omega,by omega,by rw [Zr]; omega,j.at_,j.next ⟨c2,g2,lc2,?_⟩⟩
     rw [Q8,Q8,Uc,Kz,List.append_assoc]; rfl
    .rintro ys Hc ⟨ns,rfl,hsl,hns,rfl⟩ hy
     refine q D2 ns _ (S4.trans (Same.upd hD2)) (Same.free S4 hD2) bH hsl (aaG hns fun i x hi h=>abe stL (by rw [qX]; omega) h) (Pj hns fun i j x ij hj h1 h2=>ZF hs ij (by omega) h1 h2)
noncomputable def clsOf (D:Adr) (so:Int):Addr:=if so = 0 then D.Sure else if so = 1 then D.Toss else if so = 2 then D.Even else D.Mixed
structure Drawn (so:Int) (rs:List Str) (ws:List Int) (S:Int):Prop where
 s0:0 <= so
 s3:so <= 3
 len:rs.length = ws.length
 wt:Wt (rs.zip ws) S
 ne:1 <= rs.length
 a0:so = 0->rs.length = 1/\ws = [1]/\S = 1
 a1:so = 1->rs.length = 2
 a2:so = 2->ws = List.replicate rs.length 1/\S = rs.length
theorem Kg:∀ rs:List Str,rs.zip (List.replicate rs.length (1:Int)) = rs.map fun r=>(r,(1:Int))
 | []=>rfl
 | r :: rs=>by rw [List.length_cons,List.replicate_succ,List.zip_cons_cons,Kg rs]; rfl
structure PI (H:Hp) (ps:List V) (rs:List Nat) (ws:List Int) (S:Int):Prop where
 len:ps.length = rs.length
 at_:∀ (k r:Nat) (x:Int),rs[k]? = some r->ws[k]? = some x->∃ t c:Addr,ps[k]? = some (.ref t)/\H t = some (.tup [.int (r:Nat),.ref c])/\H c = some (.tup [.int (Ac.lw x S).1,.int (Ac.lw x S).2])
theorem PI.same {H H':Hp} {ps:List V} {rs:List Nat} {ws:List Int} {S:Int} (h:PI H ps rs ws S) (T:Same H H'):PI H' ps rs ws S:=⟨h.len,fun k r x e1 e2=>let ⟨t,c,a,b,d⟩:=h.at_ k r x e1 e2; ⟨t,c,a,T _ _ b,T _ _ d⟩⟩
noncomputable def wz (ns:List Str) (rs:List Nat) (nms:List Str):Prop:=nms.length = rs.length/\∀ (k r:Nat) (m:Str),rs[k]? = some r->nms[k]? = some m->ns[r]? = some m
noncomputable def w5 (K:Frag) (D:Adr):Sp:=fun vs H Q _=>∃ (so:Int) (d n lp p:Addr) (t:Str) (x y S:Int) (rs:List Nat) (ws:List Int) (ps:List V) (ns nms:List Str),vs = [.str t,.ref d,.ref n]/\H d = some (.tup [.int so,.ref p,.ref lp])/\Wd t/\Fk K H p x y/\H lp = some (.lst ps)/\PI H ps rs ws S/\H n = some (.lst (ns.map V.str))/\wz ns rs nms/\Drawn so nms ws S /\
 ∀ H' s ld ys us,Same H H'->H s = none->H ld = none->Rb K H' s (clsOf D so) t p (Ac.ways (nms.zip ws) S) ld ys us->Q (.ref s) H'
noncomputable def bJ (D1:Addr) (gs:List (Str × Int)) (S:Int) (H:Hp) (k:Nat) (ys:List V) (H':Hp):Prop:=Same H H'/\H' D1 = some (.lst ys)/\PW H' ys (gs.take k) S
noncomputable def eJ (D1:Addr) (ss:List Str) (H:Hp) (k:Nat) (ys:List V) (H':Hp):Prop:=Same H H'/\H' D1 = some (.lst ys)/\ys = (ss.take k).map V.str
theorem PW.snocT {H:Hp} {xs:List V} {gs:List (Str × Int)} {S x:Int} {m:Str} {t c:Addr} (h:PW H xs gs S) (ht:H t = some (.tup [.str m,.ref c])) (hc:H c = some (.tup [.int (Ac.lw x S).1,.int (Ac.lw x S).2])):PW H (xs ++ [.ref t]) (gs ++ [(m,x)]) S:=by
 refine ⟨by rw [aB,aB,h.len]; rfl,fun k g' e=>?_⟩
 by_cases hk:k < gs.length
 .rw [aF hk] at e
  obtain ⟨t',c',a,b⟩:=h.at_ k g' e
  exact ⟨t',c',by rw [aF (by rw [h.len]; exact hk)]; exact a,b⟩
 .rw [aD (by omega)] at e
  have e0:k - gs.length = 0:=by
   have:=(ao.mp e).1
   simp at this; omega
  rw [e0] at e
  cases e
  refine ⟨t,c,?_,ht,hc⟩
  rw [aD (by rw [h.len]; omega),h.len,e0]; rfl
theorem Vy (F:Fun K tV tV xZ f fd) (T:Txt K mg D) (qQ:OkI P w K mg base (CXO P w) 5 D.Sure_init kW (qw (K:=K) D)) (dU:OkI P w K mg base (CXO P w) 5 D.Mixed_init fH (fD K D)) (qG:OkI P w K mg base (CXO P w) 6 D.Toss_init kY (qN K D))
  (qY:OkI P w K mg base (CXO P w) 6 D.Even_init j9 (qH K D)):cD P w K mg base CX0 8 f fd sS (w5 K D):=by
 refine F.ok tU (fun vs H Q E h=>?_) (fun cdv A outer s H vs Q E hr h=>?_)
 .obtain ⟨so,d,n,lp,p,t,x,y,S,rs,ws,ps,ns,nms,rfl,_⟩:=h
  rfl
 .obtain ⟨so,d,n,lp,p,t,x,y,S,rs,ws,ps,ns,nms,rfl,hd,ht,hf,hlp,hp,hns,no,dr,q⟩:=h
  have fam:∀ C,(C = D.Sure\/C = D.Mixed\/C = D.Toss\/C = D.Even)->Fam D C:=by
   intro C hC
   unfold Fam
   rcases hC with h | h | h | h <;> simp [h]
  have s0:=dr.s0
  have s3:=dr.s3
  have hlen:=dr.len
  have gl:(nms.zip ws).length = nms.length:=by rw [List.length_zip]; omega
  have g8:=dr.wt.len
  have z9:100 < sizeLine:=by decide
  refine ⟨_,(bK (rP (pv 1) (eY (n:=3) rfl (cu (cI (i:=4) tU.nd rfl (Or.inl rfl)) (cu (cI (i:=5) tU.nd rfl (Or.inl rfl)) (cu (cI (i:=6) tU.nd rfl (Or.inl rfl)) eG)))))
   (bK (Kp (bM xZ) yD yD ["_law_room", "_law_chance"] (dj ((pv 6)).mono) (eY (n:=2) rfl (cu (dZ (i:=0)) (cu (dZ (i:=1)) eG))) dh (dO (bC (bR bO (pv 4) (pv 0) (fun _ _=>rfl)) (bC (pv 1) bG))) (cI (i:=3) tU.nd rfl (Or.inl rfl)))
   (bK (cQ (cA iI (pv 4) bF (cC _))
    (bL (cg (sH T.X7 qQ (hr.mono (by decide)) (by rfl) T.aaX wG (bC (pv 0) (bC (pv 5) (bC (bR cG (bR bO (pv 3) bF (fun _ _=>rfl)) bF (fun _ _=>rfl)) bG))))))
    cj)
   (bK (cQ (cA iI (pv 4) bF (cC _))
    (bL (cg (sH T.YZ qG (hr.mono (by decide)) (by rfl) T.ab6 wG (bC (pv 0) (bC (pv 5) (bC (bR cG (bR bO (pv 3) bF (fun _ _=>rfl)) bF (fun _ _=>rfl)) (bC (bR cG (bR bO (pv 3) bF (fun _ _=>rfl)) bF (fun _ _=>rfl)) (bC (bR cG (bR bO (pv 3) bF (fun _ _=>rfl)) bF (fun _ _=>rfl)) bG))))))))
    cj)
   (bK (cQ (cA iI (pv 4) bF (cC _))
    (bL (cg (sH T.Yt qY (hr.mono (by decide)) (by rfl) T.abY wG (bC (pv 0) (bC (pv 5) (bC (jr (bM xZ) yD yD ["_law_room", "_law_chance"] (dj ((pv 3)).mono) (eY (n:=2) rfl (cu (dZ (i:=0)) (cu (dZ (i:=1)) eG))) dh (pv 0)) bG))))))
    cj)
   (bL (cg (sH T.Xy dU (hr.mono (by decide)) (by rfl) T.Gw wG (bC (pv 0) (bC (pv 5) (bC (pv 3) bG))))))))))),?_⟩
  refine bV fun R0 hR0=>?_
  walk_at "rd"
  refine ⟨_,hd,rfl,_,_,rfl,_,_,rfl,_,_,rfl,rfl,?_⟩
  subst hR0
  refine bV fun R1 hR1=>?_
  refine cL (oY ?_)
  walk_at "rd"
  have l100:ps.length <= sizeLine:=by rw [hp.len,<- no.1]; omega
  refine ⟨ps,hlp,l100,fun D1 hD=>⟨bJ D1 (nms.zip ws) S H,⟨Same.upd hD,bH,rfl,fun k g e=>by simp at e⟩,?_,?_⟩⟩
  .rintro k v ys Hc hk ⟨S1,h1,pw⟩ hy hlc pre hpre
   have lk:k < rs.length:=by rw [<- hp.len]; exact (ao.mp hk).1
   have e1:rs[k]? = some rs[k]:=aj lk
   have e2:nms[k]? = some (nms[k]'(by rw [no.1]; exact lk)):=aj _
   have e3:ws[k]? = some (ws[k]'(by rw [<- hlen,no.1]; exact lk)):=aj _
   have eg:(nms.zip ws)[k]? = some (nms[k]'(by rw [no.1]; exact lk),ws[k]'(by rw [<- hlen,no.1]; exact lk)):=List.getElem?_zip_eq_some.mpr ⟨e2,e3⟩
   have en:=no.2 _ _ _ e1 e2
   obtain ⟨tt,c,ea,eb,ec⟩:=(hp.same S1).at_ k _ _ e1 e3
   rw [hk] at ea
   cases ea
   generalize rs[k] = r at *
   generalize nms[k]'(by rw [no.1]; exact lk) = m at *
   generalize ws[k]'(by rw [<- hlen,no.1]; exact lk) = z at *
   obtain ⟨u1,u2,rfl⟩:=vG hpre
   walk_at "rd"
   refine ⟨_,eb,rfl,_,_,rfl,_,_,rfl,rfl,[_,_],rfl,rfl,?_⟩
   refine ⟨_,_,rfl,S1 _ _ hns,_,bU (by rw [au,en]; rfl),dR,fun p1 hp1=>?_⟩
   have nD:D1 ≠ p1:=bD h1 hp1
   refine ⟨(bI nD).trans h1,(bI (bD hlc hp1)).trans hlc,fun b o e=>(bI (bD e hD)).trans ((bI (bD (S1 _ _ e) hp1)).trans (S1 _ _ e)),bH,?_⟩
   rw [cH eg]
   refine (pw.imp fun t ys e=>?_).snocT (c:=c) ?_ ?_
   .exact (bI (fB e h1 (by intro z; cases z))).trans ((bI (bD e hp1)).trans e)
   .exact (bI nD.symm).trans bH
   .exact (bI (fB ec h1 (by intro z; cases z))).trans ((bI (bD ec hp1)).trans ec)
  .rintro ys Hc ⟨S1,h1,pw⟩ hy
   rw [hp.len,<- no.1,<- gl,aP] at pw
   have hw:=ht.word
   have h1000:t.length <= 1000:=aM ht.hi (by decide)
   have hf':=hf.same S1
   have mk:∀ {G:Hp} {C s dx:Addr},G s = none->G dx = none->¬ dx = s->Same G (upd (upd G dx (.own s)) s (.ins C dx [])):=fun {G C s dx} h1 h2 h3 b o e=>by
    rw [bI (bD e h1),bI (bD e h2)]; exact e
   have kp:∀ {G:Hp} {C s dx:Addr} {H':Hp},Same H G->G s = none->G dx = none->¬ dx = s->Keep s (upd (upd G dx (.own s)) s (.ins C dx [])) H'->Same H H':=fun {G C s dx H'} SG h1 h2 h3 k b o e=>k b o (bD (SG _ _ e) h1) (mk h1 h2 h3 b o (SG _ _ e))
   subst hR1
   obtain e | e | e | e:so = 0\/so = 1\/so = 2\/so = 3:=by omega
   .subst e
    obtain ⟨l1,rfl,rfl⟩:=dr.a0 rfl
    obtain ⟨r,rfl⟩:=List.length_eq_one_iff.mp l1
    have wr:=dr.wt.wd (r,1) (by simp)
    obtain ⟨t0,c0,ea,eb,ec⟩:=pw.at_ 0 (r,1) rfl
    refine rN (fun R r=>⟨_,rfl,r⟩) rfl fun Kn hK=>gB ?_
    refine ⟨_,rfl,_,rfl,_,rfl,_,_,_,_,rfl,rfl,h1,bU (j:=0) ea,_,_,_,_,rfl,rfl,eb,dG,fun o dx g1 g2 g3=>⟨o,dx,t,r,p,x,y,rfl,bH,h1000,hw,wr.1,wr.2,hf'.same (mk g1 g2 g3),fun t l H' f k e1 e2 e3=>⟨rfl,?_⟩⟩⟩
    refine q H' o l [.ref t] [(r,D.ONE)] (kp S1 g1 g2 g3 k) (Same.free S1 g1) (Same.free S1 (Same.free (mk g1 g2 g3) f)) ⟨⟨dx,e3⟩,e2,?_⟩
    show WF K H' [.ref t] (Ac.ways [(r,1)] 1) [(r,D.ONE)]
    rw [Ac.Wn]
    exact .cons e1 (T.Dg H') .nil
   .subst e
    have l2:=dr.a1 rfl
    obtain ⟨r1,r2,rfl⟩:=vG l2
    obtain ⟨w1,w2,rfl⟩:=vG (hlen.symm.trans l2)
    have wt:=dr.wt
    have es:w2 = S - w1:=by
     have:=wt.sum
     simp at this
     omega
    subst es
    obtain ⟨t0,c0,ea,eb,ec⟩:=pw.at_ 0 (r1,w1) rfl
    obtain ⟨t1,c1,fa,fb,fc⟩:=pw.at_ 1 (r2,S - w1) rfl
    refine mq (fun R r=>⟨_,rfl,r⟩) (by decide) (rN (fun R r=>⟨_,rfl,r⟩) rfl fun Kn hK=>gB ?_)
    refine ⟨_,rfl,_,rfl,_,rfl,_,_,_,_,rfl,rfl,h1,bU (j:=0) ea,_,_,_,_,rfl,rfl,eb,cX,_,rfl,_,_,_,_,rfl,rfl,h1,bU (j:=0) ea,_,_,_,_,rfl,rfl,eb,dG,_,rfl,_,_,_,_,rfl,rfl,h1,bU (j:=1) fa,_,_,_,_,rfl,rfl,fb,dG,fun o dx g1 g2 g3=>?_⟩
    exact ⟨o,dx,t,r1,r2,p,c0,x,y,w1,S,rfl,bH,h1000,hw,hf'.same (mk g1 g2 g3),mk g1 g2 g3 _ _ ec,wt,fun H' ld ys us f k d=>⟨rfl,q H' o ld ys us (kp S1 g1 g2 g3 k) (Same.free S1 g1) (Same.free S1 (Same.free (mk g1 g2 g3) f)) d⟩⟩
   .subst e
    obtain ⟨ew,rfl⟩:=dr.a2 rfl
    subst ew
    have hz:nms.zip (List.replicate nms.length (1:Int)) = nms.map fun r=>(r,(1:Int)):=Kg nms
    have wt:=dr.wt
    rw [hz] at wt q
    have ml:(nms.map fun r=>(r,(1:Int))).length = nms.length:=ak ..
    rw [hz] at pw
    refine mq (fun R r=>⟨_,rfl,r⟩) (by decide) (mq (fun R r=>⟨_,rfl,r⟩) (by decide) (rN (fun R r=>⟨_,rfl,r⟩) rfl fun Kn hK=>gB ?_))
    refine ⟨_,rfl,_,rfl,TV (oY ⟨_,rfl,_,ys,rfl,h1,by rw [pw.len,ml]; omega,fun D2 hD2=>⟨eJ D2 nms Hc,⟨Same.upd hD2,bH,rfl⟩,?_,?_⟩⟩)⟩
    .rintro k v zs H3 hk ⟨S3,h3,ez⟩ hy3 h13 pre hpre
     have lk:k < nms.length:=by rw [<- ml,<- pw.len]; exact (ao.mp hk).1
     have e2:nms[k]? = some nms[k]:=aj lk
     obtain ⟨t0,c0,ea,eb,ec⟩:=pw.at_ k (nms[k],1) (by rw [au,e2]; rfl)
     rw [hk] at ea
     cases ea
     generalize nms[k] = m at *
     obtain ⟨u1,u2,rfl⟩:=vG hpre
     refine ⟨_,_,rfl,S3 _ _ eb,rfl,⟨_,_,rfl,_,_,rfl,rfl,[_,_],rfl,rfl,⟨_,rfl,h3,h13,fun b o e=>(bI (bD e hD2)).trans (S3 _ _ e),bH,?_⟩⟩⟩
     rw [cH e2,bA,ez]; rfl
    .rintro zs H3 ⟨S3,h3,ez⟩ hy3 o dx g1 g2 g3
     rw [pw.len,ml,aP] at ez
     subst ez
     exact ⟨o,dx,t,p,D2,x,y,nms,rfl,bH,h1000,hw,(hf'.same S3).same (mk g1 g2 g3),mk g1 g2 g3 _ _ h3,wt,fun H' ld ys us f k d=>⟨rfl,q H' o ld ys us (kp (S1.trans S3) g1 g2 g3 k) (Same.free (S1.trans S3) g1) (Same.free (S1.trans S3) (Same.free (mk g1 g2 g3) f)) d⟩⟩
   .subst e
    refine mq (fun R r=>⟨_,rfl,r⟩) (by decide) (mq (fun R r=>⟨_,rfl,r⟩) (by decide) (mq (fun R r=>⟨_,rfl,r⟩) (by decide) (gB ?_)))
    refine ⟨_,rfl,_,rfl,_,rfl,fun o dx g1 g2 g3=>?_⟩
    exact ⟨o,dx,D.Mixed,t,p,D1,x,y,ys,_,_,rfl,bH,fam _ (by simp),h1000,hw,hf'.same (mk g1 g2 g3),mk g1 g2 g3 _ _ h1,pw.same (mk g1 g2 g3),dr.wt,fun H' ld ys us f k d=>⟨rfl,q H' o ld ys us (kp S1 g1 g2 g3 k) (Same.free S1 g1) (Same.free S1 (Same.free (mk g1 g2 g3) f)) d⟩⟩
theorem JH {t b:Int} : Ac.lw (b - t) b = ((Ac.lw t b).2 - (Ac.lw t b).1,(Ac.lw t b).2):=by
 unfold Ac.lw
 rw [Int.gcd_self_sub_left,Int.sub_ediv_of_dvd b (Int.gcd_dvd_left t b)]
theorem QD {b:Int} : Ac.lw 1 b = (1,b):=by
 unfold Ac.lw
 rw [Int.one_gcd]
 simp
structure Z2 (x y:Int):Prop where
 gcd:Int.gcd x y = 1
 sa:x.natAbs <= 10 ^ 30
 sb:y <= 1000
structure qC (n:Nat) (so:Int) (rs:List Nat) (ws:List Int) (S:Int):Prop where
 s0:0 <= so
 s3:so <= 3
 len:rs.length = ws.length
 pos:0 < S
 le:S <= 10 ^ 20
 l8:rs.length <= 8
 lo:∀ x ∈ ws,0 <= x
 sum:ws.sum = S
 ne:1 <= rs.length
 a0:so = 0->rs.length = 1/\ws = [1]/\S = 1
 a1:so = 1->rs.length = 2
 a2:so = 2->ws = List.replicate rs.length 1/\S = rs.length
 lt:∀ r ∈ rs,r < n
theorem qC.drawn {n:Nat} {so S:Int} {rs:List Nat} {ws:List Int} {ns nms:List Str} (h:qC n so rs ws S) (no:wz ns rs nms) (hw:∀ m ∈ ns,Wd m):Drawn so nms ws S:=by
 have e:=no.1
 have l:=h.len
 refine ⟨h.s0,h.s3,by omega,⟨h.pos,h.le,?_,fun g hg=>?_,fun g hg=>?_,?_⟩,by rw [e]; exact h.ne,fun z=>by rw [e]; exact h.a0 z,fun z=>by rw [e]; exact h.a1 z,fun z=>by rw [e]; exact h.a2 z⟩
 .rw [List.length_zip]
  have:=h.l8
  omega
 .obtain ⟨k,hk⟩:=aW hg
  obtain ⟨a,b⟩:=List.getElem?_zip_eq_some.mp hk
  have lk:=(ao.mp a).1
  have er:rs[k]? = some (rs[k]'(by omega)):=aj _
  have w:=hw _ (aC (no.2 k _ _ er a))
  exact ⟨aM w.hi (by decide),w.word⟩
 .exact h.lo _ (List.of_mem_zip hg).2
 .have:(nms.zip ws).map (·.2) = ws:=List.map_snd_zip (by omega)
  rw [this]; exact h.sum
theorem jg {t v:TS} {D:Ends} {σ:L2.St} {H:Hp} {i k:Int} (hσ:σ[4]? = some (some (.int i))) (ne:i ≠ k) (h:v D σ H):qd (z8 (xM (tOp rEq (Df 4) (tC (.int k)))) t wu) v D σ H:=by
 refine ⟨_,hσ,rfl,_,rfl,?_⟩
 dsimp only
 rw [if_neg (by simp [ne])]
 exact h
theorem vP {t v:TS} {D:Ends} {σ:L2.St} {H:Hp} {i k:Int} (hσ:σ[4]? = some (some (.int i))) (e:i = k) (h:∀ Kn:L2.St->Hp->Prop,(∀ σ' H',v D σ' H'->Kn σ' H')->t { D with nx:=Kn } σ H):qd (z8 (xM (tOp rEq (Df 4) (tC (.int k)))) t wu) v D σ H:=by
 refine ⟨_,hσ,rfl,_,rfl,?_⟩
 dsimp only
 rw [if_pos (by simp [e])]
 exact h _ fun _ _ z=>z
theorem PI.imp {H H':Hp} {ps:List V} {rs:List Nat} {ws:List Int} {S:Int} (T:∀ t ys,H t = some (.tup ys)->H' t = some (.tup ys)) (h:PI H ps rs ws S):PI H' ps rs ws S:=⟨h.len,fun k r x e1 e2=>let ⟨t,c,a,b,d⟩:=h.at_ k r x e1 e2; ⟨t,c,a,T _ _ b,T _ _ d⟩⟩
theorem PI.snoc {H:Hp} {ps:List V} {rs:List Nat} {ws:List Int} {S x:Int} {r:Nat} {t c:Addr} (h:PI H ps rs ws S) (hl:ws.length = rs.length) (ht:H t = some (.tup [.int r,.ref c])) (hc:H c = some (.tup [.int (Ac.lw x S).1,.int (Ac.lw x S).2])):PI H (ps ++ [.ref t]) (rs ++ [r]) (ws ++ [x]) S:=by
 refine ⟨by rw [aB,aB,h.len]; rfl,fun k r' x' e1 e2=>?_⟩
 by_cases hk:k < rs.length
 .rw [aF hk] at e1
  rw [aF (by omega)] at e2
  obtain ⟨t',c',a,b⟩:=h.at_ k r' x' e1 e2
  exact ⟨t',c',by rw [aF (by rw [h.len]; exact hk)]; exact a,b⟩
 .rw [aD (by omega)] at e1
  rw [aD (by omega)] at e2
  have e0:k - rs.length = 0:=by
   have:=(ao.mp e1).1
   simp at this; omega
  rw [e0] at e1
  rw [hl,e0] at e2
  cases e1
  cases e2
  refine ⟨t,c,?_,ht,hc⟩
  rw [aD (by rw [h.len]; omega),h.len,e0]; rfl
theorem Np {ys:List V} {n:Nat} (h:n <= ys.length):gU ys none (some (n:Int)) = ys.take n:=by
 unfold gU
 rw [HT.nQ,Nat.min_eq_left h]
 show ((ys.drop 0).take (n - 0)) = _
 rw [List.drop_zero,Nat.sub_zero]
theorem Rp (n:Nat):(List.replicate n (1:Int)).sum = n:=by
 induction n with
 | zero=>rfl
 | succ n ih=>rw [List.replicate_succ,List.sum_cons,ih]; omega
noncomputable def evJ (D1:Addr) (rs:List Nat) (ws:List Int) (S:Int) (H:Hp) (k:Nat) (ys:List V) (H':Hp):Prop:=Same H H'/\H' D1 = some (.lst ys)/\PI H' ys (rs.take k) (ws.take k) S
noncomputable def weJ (D1:Addr) (H:Hp) (k:Nat) (ys:List V) (H':Hp):Prop:=∃ ws:List Int,ys = ws.map V.int/\ws.length = k/\(∀ x ∈ ws,0 <= x/\x <= 1000)/\Same H H'/\H' D1 = some (.lst ys)
theorem Fp:∀ l:List Int,(∀ x ∈ l,0 <= x/\x <= 1001)->0 <= l.sum/\l.sum <= 1001 * l.length/\∀ x ∈ l,x <= l.sum
 | [],_=>⟨by simp,by simp,by simp⟩
 | a :: l,h=>by
  obtain ⟨h1,h2,h3⟩:=Fp l fun x hx=>h x (aJ _ hx)
  have h0:=h a aO
  rw [List.sum_cons,List.length_cons]
  refine ⟨by omega,by omega,fun x hx=>?_⟩
  rcases List.mem_cons.mp hx with rfl | hx
  .omega
  .have:=h3 x hx
   omega
theorem WW {n:Nat} (h:1 <= n):ixN n (-1) = some (n - 1):=by
 unfold ixN
 rw [if_neg (by omega),if_pos (by omega)]
 congr 1
 omega
theorem Ze {α:Type} : ∀ {l:List α},l.length = 4->∃ a b c d,l = [a,b,c,d]
 | [a,b,c,d],_=>⟨a,b,c,d,rfl⟩
noncomputable def abQ (D1:Addr) (n:Nat) (H:Hp) (k:Nat) (ys:List V) (Hc:Hp):Prop:=∃ r4:List Nat,ys = (r4.map fun r=>V.int (r:Nat))/\r4.length = k/\(∀ r ∈ r4,r < n)/\Hc = upd H D1 (.lst ys)
noncomputable def Av:Sp:=fun vs H Q _=>∃ (c:Int) (n:Nat),vs = [.int c,.int n]/\1 <= n/\n <= 12/\∀ (r d p lp:Addr) (room:Nat) (so x y S:Int) (rs:List Nat) (ws:List Int) (ps:List V) H',Same H H'->H r = none->H d = none->H' r = some (.tup [.int room,.ref d])->room < n->H' d = some (.tup [.int so,.ref p,.ref lp])->H' p = some (.tup [.int x,.int y])->0 < y->Z2 x y->H' lp = some (.lst ps)->H lp = none->PI H' ps rs ws S->qC n so rs ws S->Q (.ref r) H'
theorem Ys (F:Fun K wF wF vO f fd) (T:Txt K mg D) (cT:OkF P w K mg base 1 eX eV dY) (g_:OkF P w K mg base 2 lW lX mj) (Dm:OkF P w K mg base 3 zH yZ DK):cD P w K mg base CX0 4 f fd xU Av:=by
 refine F.okB jD (fun vs H Q E h=>?_) (fun cdv A outer s H vs Q E hr h=>?_)
 .obtain ⟨c,n,rfl,_⟩:=h
  rfl
 .obtain ⟨c,n,rfl,n1,n12,q⟩:=h
  refine ⟨_,(cB (PSB.mk (bZ (i:=2) jD.nd rfl (Or.inr rfl) (bN cT (hr.mono (by decide)) (by rfl) (bC (pv 0) (bC bF bG)))))
   (cB (PSB.mk (bZ (i:=3) jD.nd rfl (Or.inr rfl) (jr (bM vO) qM qM ["_law_x"] (dj ((iM qp (pv 2) (fL bF) (fL bF))).mono) (dZ (i:=0)) dh (bQ iW (pv 0) (pv 2)))))
   (cB (PSB.mk (bZ (i:=4) jD.nd rfl (Or.inl rfl) (bQ cR (bR bO (pv 2) bF (fun _ _=>rfl)) bF)))
   (cB (PSB.mk (bZ (i:=5) jD.nd rfl (Or.inl rfl) (ji (bC (dO (bC (bR bO (pv 3) bF (fun _ _=>rfl)) (bC (dO (bC bF (bC bF bG))) bG))) bG))))
   (cB (PSB.mk (cQ (cA iI (pv 4) bF (cC _))
    (bK (bZ (i:=6) jD.nd rfl (Or.inl rfl) (bQ cV bF (bQ cR (bR bO (pv 2) bF (fun _ _=>rfl)) bF)))
    (bK (bZ (i:=7) jD.nd rfl (Or.inl rfl) (bN g_ (hr.mono (by decide)) (by rfl) (bC (bQ iW (bR bO (pv 2) bF (fun _ _=>rfl)) (bQ cV (pv 6) bF)) (bC (pv 6) bG))))
    (bL (bZ (i:=5) jD.nd rfl (Or.inl rfl) (ji (bC (dO (bC (bR bO (pv 3) bF (fun _ _=>rfl)) (bC (pv 7) bG))) (bC (dO (bC (bR bO (pv 3) bF (fun _ _=>rfl)) (bC (dO (bC (bQ zM (bR cG (pv 7) bF (fun _ _=>rfl)) (bR cG (pv 7) bF (fun _ _=>rfl))) (bC (bR cG (pv 7) bF (fun _ _=>rfl)) bG))) bG))) bG)))))))
    cj))
   (cB (PSB.mk (cQ (cA iI (pv 4) bF (cC _))
    (bK (bZ (i:=3) jD.nd rfl (Or.inr rfl) (iM qp (pv 3) uM (fL (bQ cV bF (bQ cR (bR bO (pv 2) bF (fun _ _=>rfl)) bF)))))
    (bL (Kp (bM vO) qM qM ["_law_room"] (dj ((pv 3)).mono) (dZ (i:=0)) dh (dO (bC (pv 0) (bC (dO (bC bF (bC (b_ cJ (by rfl) T.eN PySem.boot_len (bC (pv 4) bG)) bG))) bG))) (cI (i:=5) jD.nd rfl (Or.inl rfl)))))
    cj))
   (cB (PSB.mk (cQ (cA iI (pv 4) bF (cC _))
    (bK (bZ (i:=8) jD.nd rfl (Or.inr rfl) (jr (bM vO) qM qM ["_law_x"] (dj ((iM qp (pv 2) (fL bF) (fL (bQ cV bF (bQ cR (bR bO (pv 2) bF (fun _ _=>rfl)) bF))))).mono) (dZ (i:=0)) dh (bQ iW (pv 0) (bR bO (ji (bC bF (bC bF (bC bF (bC bF bG))))) (bQ cR (bR bO (pv 3) bF (fun _ _=>rfl)) bF) (fun _ _=>rfl)))))
    (bK (rP (bQ cV (bR bO (pv 8) (Gb yX bF) (fun _ _=>rfl)) bF) (Nt (pv 8) (Gb yX bF) set_list))
    (bL (Kp (bM vO) qM qM ["_law_k"] (fV (by rfl) T.kE (bC (b_ cJ (by rfl) T.eN PySem.boot_len (bC (pv 8) bG)) bG).mono) (dZ (i:=0)) dh (dO (bC (bR bO (pv 4) (pv 0) (fun _ _=>rfl)) (bC (bN g_ (hr.mono (by decide)) (by rfl) (bC (bR bO (pv 9) (pv 0) (fun _ _=>rfl)) (bC (b_ (yN rfl) (by rfl) T.Ur boot_sum (bC (pv 9) bG)) bG))) bG))) (cI (i:=5) jD.nd rfl (Or.inl rfl))))))
    cj))
   (xJ (PSB.mk (cg (dO (bC (bQ iW (bR bO (pv 2) bF (fun _ _=>rfl)) (pv 1)) (bC (dO (bC (pv 4) (bC (bN Dm (hr.mono (by decide)) (by rfl) (bC (pv 0) (bC (bR bO (pv 2) bF (fun _ _=>rfl)) (bC (bR bO (pv 2) bF (fun _ _=>rfl)) bG)))) (bC (pv 5) bG)))) bG))))))))))))),?_⟩
  unfold dY mj DK
  refine ⟨_,rfl,c,14,rfl,by decide,fun l xs H1 S1 hl hl1 hx hr'=>?_⟩
  dsimp only [cN]
  have at_:∀ j,j < 14->∃ y,atI (xs.map V.int) (j:Nat) = some (.int y)/\0 <= y/\y < 2000000000:=fun j hj=>by
   have:j < xs.length:=by omega
   exact ⟨xs[j],bU (j:=j) (by rw [au,aj this]; rfl),hr' _ (aV this)⟩
  refine bV fun R1 hR1=>?_
  walk_at "rd"
  refine c7 ?_
  walk_at "rd"
  refine ⟨_,.of hl1,fun p hp=>?_⟩
  have ec:gU (xs.map V.int) (some 2) (some 6) = ((xs.drop 2).take 4).map V.int:=by
   rw [List.map_take,List.map_drop]
   exact Jy (ys:=xs.map V.int) (a:=2) (b:=6) (by decide) (by rw [ak]; omega)
  rw [ec]
  have ul:((xs.drop 2).take 4).length = 4:=by rw [bh,List.length_drop]; omega
  have u0:∀ x ∈ (xs.drop 2).take 4,0 <= x:=fun x hx=>(hr' x (List.mem_of_mem_drop (List.mem_of_mem_take hx))).1
  have S2:Same H1 (upd H1 p (.lst (((xs.drop 2).take 4).map V.int))):=Same.upd hp
  generalize upd H1 p (.lst (((xs.drop 2).take 4).map V.int)) = H2 at S2 ⊢
  generalize (xs.drop 2).take 4 = us at ul u0 ⊢
  have z9:100 < sizeLine:=by decide
  refine ⟨by rw [ak]; omega,fun D1 hD1=>⟨abQ D1 n H2,⟨[],rfl,rfl,by simp,rfl⟩,?_,?_⟩⟩
  .rintro k v ys Hc hk ⟨r4,rfl,rl,rn,rfl⟩ hy hpc
   rw [au] at hk
   cases er:us[k]? with
   | none=>rw [er] at hk; cases hk
   | some i =>
    rw [er] at hk
    cases hk
    have i0:=u0 i (aC er)
    have m0:0 <= i % (n:Int):=Int.emod_nonneg _ (by omega)
    have m1:i % (n:Int) < n:=Int.emod_lt_of_pos _ (by omega)
    have ef:i.fmod (n:Int) = (((i % (n:Int)).toNat:Nat):Int):=by rw [aX _ (by omega)]; omega
    refine ⟨i,rfl,by omega,?_⟩
    rw [ef]
    refine ⟨bH,hpc,r4 ++ [(i % (n:Int)).toNat],by rw [bA]; rfl,by rw [aB,rl]; rfl,fun r hr=>?_,nH⟩
    rcases List.mem_append.mp hr with hr | hr
    .exact rn r hr
    .rw [List.mem_singleton.mp hr]; omega
  .rintro ys Hc ⟨r4,rfl,rl,rn,rfl⟩ hy
   rw [ak,ul] at rl
   have S3:Same H (upd H2 D1 (.lst (r4.map fun r=>V.int (r:Nat)))):=S1.trans (S2.trans (Same.upd hD1))
   have hl3:upd H2 D1 (.lst (r4.map fun r=>V.int (r:Nat))) l = some (.lst (xs.map V.int)):=Same.upd hD1 _ _ (S2 _ _ hl1)
   have hr3:upd H2 D1 (.lst (r4.map fun r=>V.int (r:Nat))) D1 = some (.lst (r4.map fun r=>V.int (r:Nat))):=bH
   generalize upd H2 D1 (.lst (r4.map fun r=>V.int (r:Nat))) = H3 at S3 hl3 hr3 ⊢
   obtain ⟨x6,a6,p6⟩:=at_ 6 (by decide)
   subst hR1
   refine bV fun R2 hR2=>?_
   walk_at "rd"
   refine ⟨_,hl3,_,a6,_,rfl,?_⟩
   subst hR2
   refine bV fun R3 hR3=>?_
   walk_at "rd"
   obtain ⟨ra,rb,rc,rd,rfl⟩:=Ze rl
   refine ⟨_,hr3,_,dG,dR,fun q1 h1=>⟨dR,fun q2 h2=>⟨by decide,fun q3 h3=>?_⟩⟩⟩
   have d12:q1 ≠ q2:=bD bH h2
   have d23:q2 ≠ q3:=bD bH h3
   have d13:q1 ≠ q3:=bD ((bI d12).trans bH) h3
   have S4:Same H3 (upd (upd (upd H3 q1 (.tup [.int 1,.int 1])) q2 (.tup [.int ra,.ref q1])) q3 (.lst [.ref q2])):=(Same.upd h1).trans ((Same.upd h2).trans (Same.upd h3))
   have e1:upd (upd (upd H3 q1 (.tup [.int 1,.int 1])) q2 (.tup [.int ra,.ref q1])) q3 (.lst [.ref q2]) q1 = some (.tup [.int 1,.int 1]):=(bI d13).trans ((bI d12).trans bH)
   have e2:upd (upd (upd H3 q1 (.tup [.int 1,.int 1])) q2 (.tup [.int ra,.ref q1])) q3 (.lst [.ref q2]) q2 = some (.tup [.int ra,.ref q1]):=(bI d23).trans bH
   have e3:upd (upd (upd H3 q1 (.tup [.int 1,.int 1])) q2 (.tup [.int ra,.ref q1])) q3 (.lst [.ref q2]) q3 = some (.lst [.ref q2]):=bH
   have f3:H q3 = none:=Same.free S3 (Same.free (Same.upd h1) (Same.free (Same.upd h2) h3))
   generalize upd (upd (upd H3 q1 (.tup [.int 1,.int 1])) q2 (.tup [.int ra,.ref q1])) q3 (.lst [.ref q2]) = H4 at S4 e1 e2 e3 ⊢
   have hl4:=S4 _ _ hl3
   have hr4:=S4 _ _ hr3
   have S4:=S3.trans S4
   obtain ⟨so,es,s0,s3⟩ : ∃ so,x6 % 4 = so/\0 <= so/\so <= 3:=⟨_,rfl,by omega,by omega⟩
   rw [es]
   subst hR3
   refine Fx fun R hR=>?_
   have fin:∀ (u3 u6 u7 u8:Option V) (lp:Addr) (rs:List Nat) (ws:List Int) (S:Int) (ps:List V) (H9:Hp),Same H H9->H9 l = some (.lst (xs.map V.int))->H lp = none->H9 lp = some (.lst ps)->PI H9 ps rs ws S->qC n so rs ws S->R { nx:=fun _ H'=>Q .non H',rt:=Q } [some (.int c),some (.int n),some (.ref l),u3,some (.int so),some (.ref lp),u6,u7,u8] H9:=by
    intro u3 u6 u7 u8 lp rs ws S ps H9 S9 hl9 fl hlp hpi hdr
    obtain ⟨x0,a0,p0⟩:=at_ 0 (by decide)
    obtain ⟨x1,a1,p1⟩:=at_ 1 (by decide)
    obtain ⟨x13,a13,p13⟩:=at_ 13 (by decide)
    subst hR
    walk_at "rd"
    have m0:0 <= x13 % (n:Int):=Int.emod_nonneg _ (by omega)
    have m1:x13 % (n:Int) < n:=Int.emod_lt_of_pos _ (by omega)
    have ef:x13.fmod (n:Int) = (((x13 % (n:Int)).toNat:Nat):Int):=by rw [aX _ (by omega)]; omega
    refine ⟨_,hl9,_,a13,_,rfl,by omega,_,hl9,_,a0,_,hl9,_,a1,⟨_,rfl⟩,⟨_,rfl⟩,fun p1 x y f1 y0 g1 sa sb=>⟨by decide,fun p2 f2=>⟨dR,fun p3 f3'=>?_⟩⟩⟩
    rw [ef]
    have g12:p1 ≠ p2:=bD bH f2
    have g23:p2 ≠ p3:=bD bH f3'
    have g13:p1 ≠ p3:=bD ((bI g12).trans bH) f3'
    have S10:Same H9 (upd (upd (upd H9 p1 (.tup [.int x,.int y])) p2 (.tup [.int so,.ref p1,.ref lp])) p3 (.tup [.int ((x13 % (n:Int)).toNat:Nat),.ref p2])):=(Same.upd f1).trans ((Same.upd f2).trans (Same.upd f3'))
    exact q p3 p2 p1 lp _ so x y S rs ws ps _ (S9.trans S10) (Same.free S9 (Same.free (Same.upd f1) (Same.free (Same.upd f2) f3'))) (Same.free S9 (Same.free (Same.upd f1) f2)) bH (by omega) ((bI g23).trans bH) ((bI g13).trans ((bI g12).trans bH)) y0 ⟨g1,sa,sb⟩ (S10 _ _ hlp) fl (hpi.same S10) hdr
   clear hR
   obtain e | e | e | e:so = 0\/so = 1\/so = 2\/so = 3:=by omega
   .subst e
    refine jg rfl (by decide) (jg rfl (by decide) (jg rfl (by decide) (fin _ _ _ _ q3 [ra] [1] 1 [.ref q2] H4 S4 hl4 f3 e3 ⟨rfl,fun k r x h1 h2=>?_⟩ ?_)))
    .match k with
     | 0 =>
      cases h1
      cases h2
      exact ⟨q2,q1,rfl,e2,by rw [QD]; exact e1⟩
     | k + 1=>simp at h1
    .exact ⟨by decide,by decide,rfl,by decide,by decide,by simp,by simp,rfl,by simp,fun _=>⟨rfl,rfl,rfl⟩,fun z=>by simp at z,fun z=>by simp at z,fun r hr=>rn r (by rw [List.mem_singleton.mp hr]; simp)⟩
   .subst e
    obtain ⟨x8,a8,p8⟩:=at_ 8 (by decide)
    obtain ⟨x9,a9,p9⟩:=at_ 9 (by decide)
    refine vP rfl rfl fun Kn hK=>?_
    walk_at "rd"
    obtain ⟨b,eb,b0,b6⟩ : ∃ b,1 + x8 % 6 = b/\1 <= b/\b <= 6:=⟨_,rfl,by omega,by omega⟩
    obtain ⟨wt,ew,w0,w1⟩ : ∃ wt,x9.fmod (b + 1) = wt/\0 <= wt/\wt <= b:=by
     have m0:0 <= x9 % (b + 1):=Int.emod_nonneg _ (by omega)
     have m1:x9 % (b + 1) < b + 1:=Int.emod_lt_of_pos _ (by omega)
     exact ⟨_,rfl,by rw [aX _ (by omega)]; exact m0,by rw [aX _ (by omega)]; omega⟩
    refine ⟨_,hl4,_,a8,_,rfl,_,hl4,_,a9,_,rfl,by omega,by omega,Bd.sm (by omega),fun c1 g1=>?_⟩
    rw [eb,ew]
    have T1:Same H4 (upd H4 c1 (.tup [.int (Ac.lw wt b).1,.int (Ac.lw wt b).2])):=Same.upd g1
    have k1:upd H4 c1 (.tup [.int (Ac.lw wt b).1,.int (Ac.lw wt b).2]) c1 = some (.tup [.int (Ac.lw wt b).1,.int (Ac.lw wt b).2]):=bH
    generalize upd H4 c1 (.tup [.int (Ac.lw wt b).1,.int (Ac.lw wt b).2]) = H5 at T1 k1 ⊢
    refine ⟨_,T1 _ _ hr4,_,dG,dR,fun t1 g2=>?_⟩
    have T2:Same H5 (upd H5 t1 (.tup [.int ra,.ref c1])):=Same.upd g2
    have k2:upd H5 t1 (.tup [.int ra,.ref c1]) t1 = some (.tup [.int ra,.ref c1]):=bH
    generalize upd H5 t1 (.tup [.int ra,.ref c1]) = H6 at T2 k2 ⊢
    have j1:=T2 _ _ k1
    refine ⟨_,T2 _ _ (T1 _ _ hr4),_,cX,_,j1,_,cX,_,j1,_,dG,_,rfl,_,rfl,_,j1,_,cX,dR,fun c2 g3=>⟨dR,fun t2 g4=>⟨dR,fun lp g5=>hK _ _ (jg rfl (by decide) (jg rfl (by decide) ?_))⟩⟩⟩
    have m34:c2 ≠ t2:=bD bH g4
    have m45:t2 ≠ lp:=bD bH g5
    have m35:c2 ≠ lp:=bD ((bI m34).trans bH) g5
    have T3:Same H6 (upd (upd (upd H6 c2 (.tup [.int ((Ac.lw wt b).2 - (Ac.lw wt b).1),.int (Ac.lw wt b).2])) t2 (.tup [.int rb,.ref c2])) lp (.lst [.ref t1,.ref t2])):=(Same.upd g3).trans ((Same.upd g4).trans (Same.upd g5))
    have S6:Same H H6:=S4.trans (T1.trans T2)
    refine fin _ _ _ _ lp [ra,rb] [wt,b - wt] b [.ref t1,.ref t2] _ (S6.trans T3) (T3 _ _ (T2 _ _ (T1 _ _ hl4))) (Same.free S6 (Same.free (Same.upd g3) (Same.free (Same.upd g4) g5))) bH ⟨rfl,fun k r x h1 h2=>?_⟩ ?_
    .match k with
     | 0 =>
      cases h1
      cases h2
      exact ⟨t1,c1,rfl,T3 _ _ k2,T3 _ _ j1⟩
     | 1 =>
      cases h1
      cases h2
      exact ⟨t2,c2,rfl,(bI m45).trans bH,by rw [JH]; exact (bI m35).trans ((bI m34).trans bH)⟩
     | k + 2=>simp at h1
    .refine ⟨by decide,by decide,rfl,by omega,by omega,by simp,?_,?_,by simp,fun z=>by simp at z,fun _=>rfl,fun z=>by simp at z,?_⟩
     .intro x hx
      simp only [List.mem_cons,List.not_mem_nil,or_false] at hx
      omega
     .simp
      omega
     .intro r hr
      simp only [List.mem_cons,List.not_mem_nil,or_false] at hr
      rcases hr with rfl | rfl
      .exact rn _ (by simp)
      .exact rn _ (by simp)
   .subst e
    obtain ⟨x7,a7,p7⟩:=at_ 7 (by decide)
    refine jg rfl (by decide) (vP rfl rfl fun Kn hK=>?_)
    walk_at "rd"
    obtain ⟨m,em,m1,m4⟩ : ∃ m:Nat,1 + x7 % 4 = m/\1 <= m/\m <= 4:=⟨(1 + x7 % 4).toNat,by omega,by omega,by omega⟩
    refine ⟨_,hl4,_,a7,_,rfl,_,.of hr4,fun p5 g5=>?_⟩
    rw [em,Np (by rw [ak]; simp; omega),<- List.map_take]
    have l5:([ra,rb,rc,rd].take m).length = m:=by rw [bh]; simp; omega
    have r5:∀ r ∈ [ra,rb,rc,rd].take m,r < n:=fun r hr=>rn r (List.mem_of_mem_take hr)
    generalize [ra,rb,rc,rd].take m = rs at l5 r5 ⊢
    have T1:Same H4 (upd H4 p5 (.lst (rs.map fun r=>V.int (r:Nat)))):=Same.upd g5
    have k1:upd H4 p5 (.lst (rs.map fun r=>V.int (r:Nat))) p5 = some (.lst (rs.map fun r=>V.int (r:Nat))):=bH
    generalize upd H4 p5 (.lst (rs.map fun r=>V.int (r:Nat))) = H5 at T1 k1 ⊢
    have S5:=S4.trans T1
    have rl5:(List.replicate m (1:Int)).length = m:=aN
    refine c7 ?_
    walk_at "rd"
    refine ⟨_,k1,by rw [ak]; omega,fun D2 hD2=>⟨evJ D2 rs (List.replicate m 1) m H5,⟨Same.upd hD2,bH,by simp; exact ⟨rfl,fun k r x h1 _=>by simp at h1⟩⟩,?_,?_⟩⟩
    .rintro k v ys Hc hk ⟨T5,h5,pi⟩ hy hpc
     rw [au] at hk
     cases er:rs[k]? with
     | none=>rw [er] at hk; cases hk
     | some r =>
      rw [er] at hk
      cases hk
      have lk:k < m:=by rw [<- l5]; exact (ao.mp er).1
      have ew:(List.replicate m (1:Int))[k]? = some 1:=by rw [List.getElem?_replicate,if_pos lk]
      refine ⟨_,hpc,?_⟩
      rw [ak,l5]
      refine ⟨dR,fun c1 g1=>⟨dR,fun t1 g2=>?_⟩⟩
      have T6:Same Hc (upd (upd Hc c1 (.tup [.int 1,.int m])) t1 (.tup [.int r,.ref c1])):=(Same.upd g1).trans (Same.upd g2)
      have i1:upd (upd Hc c1 (.tup [.int 1,.int m])) t1 (.tup [.int r,.ref c1]) c1 = some (.tup [.int 1,.int m]):=(bI (bD bH g2)).trans bH
      have i2:upd (upd Hc c1 (.tup [.int 1,.int m])) t1 (.tup [.int r,.ref c1]) t1 = some (.tup [.int r,.ref c1]):=bH
      generalize upd (upd Hc c1 (.tup [.int 1,.int m])) t1 (.tup [.int r,.ref c1]) = H7 at T6 i1 i2 ⊢
      have nt:∀ t us,H7 t = some (.tup us)->upd H7 D2 (.lst (ys ++ [.ref t1])) t = some (.tup us):=fun t us e=>(bI (fB e (T6 _ _ h5) (by intro z; cases z))).trans e
      refine ⟨T6 _ _ h5,T6 _ _ hpc,fun b o e=>(bI (bD e hD2)).trans (T6 _ _ (T5 _ _ e)),bH,?_⟩
      rw [cH er,cH ew]
      refine ((pi.same T6).imp nt).snoc ?_ (nt _ _ i2) (by rw [QD]; exact nt _ _ i1)
      rw [bh,bh,rl5,l5]
    .rintro ys Hc ⟨T5,h5,pi⟩ hy
     rw [ak,aP,l5,aL (by rw [rl5]; exact aG _)] at pi
     refine hK _ _ (jg rfl (by decide) (fin _ _ _ _ D2 rs (List.replicate m 1) m ys Hc (S5.trans T5) (T5 _ _ (T1 _ _ hl4)) (Same.free S5 hD2) h5 pi ?_))
     exact ⟨by decide,by decide,by rw [rl5,l5],by omega,by omega,by omega,fun x hx=>by rw [(List.mem_replicate.mp hx).2]; decide,Rp m,by omega,fun z=>by simp at z,fun z=>by simp at z,fun _=>⟨by rw [l5],by rw [l5]⟩,r5⟩
   .subst e
    obtain ⟨x7,a7,p7⟩:=at_ 7 (by decide)
    obtain ⟨x12,a12,p12⟩:=at_ 12 (by decide)
    refine jg rfl (by decide) (jg rfl (by decide) (vP rfl rfl fun Kn hK=>?_))
    walk_at "rd"
    refine c7 ?_
    walk_at "rd"
    obtain ⟨m,em,m1,m4⟩ : ∃ m:Nat,9 + x7 % 4 = ((8 + m:Nat):Int)/\1 <= m/\m <= 4:=⟨(1 + x7 % 4).toNat,by omega,by omega,by omega⟩
    refine ⟨_,hl4,_,a7,_,rfl,_,.of hl4,fun p5 g5=>?_⟩
    have ec:gU (xs.map V.int) (some 8) (some (9 + x7 % 4)) = ((xs.drop 8).take m).map V.int:=by
     rw [em,List.map_take,List.map_drop]
     have:=Jy (ys:=xs.map V.int) (a:=8) (b:=8 + m) (by omega) (by rw [ak]; omega)
     rw [show 8 + m - 8 = m by omega] at this
     exact this
    rw [ec]
    have l5:((xs.drop 8).take m).length = m:=by rw [bh,List.length_drop]; omega
    have r5:∀ x ∈ (xs.drop 8).take m,0 <= x:=fun x hx=>(hr' x (List.mem_of_mem_drop (List.mem_of_mem_take hx))).1
    have T1:Same H4 (upd H4 p5 (.lst (((xs.drop 8).take m).map V.int))):=Same.upd g5
    generalize upd H4 p5 (.lst (((xs.drop 8).take m).map V.int)) = H5 at T1 ⊢
    generalize (xs.drop 8).take m = vs at l5 r5 ⊢
    have S5:=S4.trans T1
    obtain ⟨md,ed,hmd⟩ : ∃ md:Int,atI [V.int 3,V.int 3,V.int 3,V.int 1000] (x12 % 4) = some (.int md)/\(md = 3\/md = 1000):=by
     obtain e | e | e | e:x12 % 4 = 0\/x12 % 4 = 1\/x12 % 4 = 2\/x12 % 4 = 3:=by omega
     .exact ⟨3,by rw [e]; exact bU (j:=0) rfl,.inl rfl⟩
     .exact ⟨3,by rw [e]; exact bU (j:=1) rfl,.inl rfl⟩
     .exact ⟨3,by rw [e]; exact bU (j:=2) rfl,.inl rfl⟩
     .exact ⟨1000,by rw [e]; exact bU (j:=3) rfl,.inr rfl⟩
    refine ⟨by rw [ak]; omega,fun D2 hD2=>⟨weJ D2 H5,⟨[],rfl,rfl,by simp,Same.upd hD2,bH⟩,?_,?_⟩⟩
    .rintro k v ys Hc hk ⟨ws,rfl,wl,wb,T5,h5⟩ hy hpc
     rw [au] at hk
     cases er:vs[k]? with
     | none=>rw [er] at hk; cases hk
     | some i =>
      rw [er] at hk
      cases hk
      have i0:=r5 i (aC er)
      have f0:0 <= i.fmod md/\i.fmod md <= 1000:=by
       rcases hmd with rfl | rfl
       .rw [aX _ (by decide)]; omega
       .rw [aX _ (by decide)]; omega
      refine ⟨by decide,fun p6 g6=>⟨_,(bI (bD (T5 _ _ (T1 _ _ hl4)) g6)).trans (T5 _ _ (T1 _ _ hl4)),_,a12,_,rfl,_,ed,i,rfl,md,rfl,by omega,(bI (bD h5 g6)).trans h5,(bI (bD hpc g6)).trans hpc,ws ++ [i.fmod md],by rw [bA]; rfl,by rw [aB,wl]; rfl,fun x hx=>?_,fun b o e=>(bI (bD e hD2)).trans ((bI (bD (T5 _ _ e) g6)).trans (T5 _ _ e)),bH⟩⟩
      rcases List.mem_append.mp hx with hx | hx
      .exact wb x hx
      .rw [List.mem_singleton.mp hx]; exact f0
    .rintro ys Hc ⟨ws,rfl,wl,wb,T5,h5⟩ hy
     rw [ak,l5] at wl
     have lm:m - 1 < ws.length:=by omega
     have el:ws[m - 1]? = some ws[m - 1]:=aj lm
     have bl:=wb _ (aV lm)
     generalize ws[m - 1] = wl0 at el bl
     have ix:ixN (ws.map V.int).length (-1) = some (m - 1):=by rw [ak,wl]; exact WW m1
     have ea:atI (ws.map V.int) (-1) = some (.int wl0):=by
      unfold atI
      rw [ix]
      show (ws.map V.int)[m - 1]? = _
      rw [au,el]; rfl
     refine ⟨_,h5,_,ea,wl0,rfl,_,h5,_,ix,?_⟩
     rw [<- List.map_set]
     have l6:(ws.set (m - 1) (wl0 + 1)).length = m:=by rw [List.length_set,wl]
     have b6:∀ x ∈ ws.set (m - 1) (wl0 + 1),0 <= x/\x <= 1001:=fun x hx=>by
      rcases List.mem_or_eq_of_mem_set hx with hx | rfl
      .have:=wb x hx
       omega
      .omega
     have in6:wl0 + 1 ∈ ws.set (m - 1) (wl0 + 1):=List.mem_set lm _
     generalize ws.set (m - 1) (wl0 + 1) = ww at l6 b6 in6 ⊢
     obtain ⟨s1,s2,s3'⟩:=Fp ww b6
     have sp:=s3' _ in6
     have T6:Same H (upd Hc D2 (.lst (ww.map V.int))):=fun b o e=>(bI (bD (S5 _ _ e) hD2)).trans (T5 _ _ (S5 _ _ e))
     have k6:upd Hc D2 (.lst (ww.map V.int)) D2 = some (.lst (ww.map V.int)):=bH
     have r6:upd Hc D2 (.lst (ww.map V.int)) D1 = some (.lst ([ra,rb,rc,rd].map fun r=>V.int (r:Nat))):=(bI (bD (T1 _ _ hr4) hD2)).trans (T5 _ _ (T1 _ _ hr4))
     have hl6:upd Hc D2 (.lst (ww.map V.int)) l = some (.lst (xs.map V.int)):=(bI (bD (T1 _ _ hl4) hD2)).trans (T5 _ _ (T1 _ _ hl4))
     generalize upd Hc D2 (.lst (ww.map V.int)) = H6 at T6 k6 r6 hl6 ⊢
     have lt4:([ra,rb,rc,rd].take m).length = m:=by rw [bh]; simp; omega
     refine mV ?_
     walk_at "rd"
     refine ⟨_,k6,m,by rw [ak,l6],by omega,fun D3 hD3=>⟨evJ D3 ([ra,rb,rc,rd].take m) ww ww.sum H6,⟨Same.upd hD3,bH,by simp; exact ⟨rfl,fun k r x h1 _=>by simp at h1⟩⟩,?_,?_⟩⟩
     .rintro k ys Hc hk ⟨T7,h7,pi⟩ hy
      have er : [ra,rb,rc,rd][k]? = some ([ra,rb,rc,rd][k]'(by simp; omega)):=aj _
      have et:([ra,rb,rc,rd].take m)[k]? = some ([ra,rb,rc,rd][k]'(by simp; omega)):=by rw [List.getElem?_take,if_pos hk]; exact er
      have ew:ww[k]? = some (ww[k]'(by omega)):=aj _
      generalize [ra,rb,rc,rd][k]'(by simp; omega) = r at er et
      generalize ww[k]'(by omega) = wk at ew
      refine ⟨_,T7 _ _ r6,_,bU (j:=k) (by rw [au,er]; rfl),_,T7 _ _ k6,_,bU (j:=k) (by rw [au,ew]; rfl),ww,T7 _ _ k6,wk,rfl,by omega,Bd.sm (by omega),fun c1 g1=>⟨dR,fun t1 g2=>?_⟩⟩
      have T8:Same Hc (upd (upd Hc c1 (.tup [.int (Ac.lw wk ww.sum).1,.int (Ac.lw wk ww.sum).2])) t1 (.tup [.int r,.ref c1])):=(Same.upd g1).trans (Same.upd g2)
      have i1:upd (upd Hc c1 (.tup [.int (Ac.lw wk ww.sum).1,.int (Ac.lw wk ww.sum).2])) t1 (.tup [.int r,.ref c1]) c1 = some (.tup [.int (Ac.lw wk ww.sum).1,.int (Ac.lw wk ww.sum).2]):=(bI (bD bH g2)).trans bH
      have i2:upd (upd Hc c1 (.tup [.int (Ac.lw wk ww.sum).1,.int (Ac.lw wk ww.sum).2])) t1 (.tup [.int r,.ref c1]) t1 = some (.tup [.int r,.ref c1]):=bH
      generalize upd (upd Hc c1 (.tup [.int (Ac.lw wk ww.sum).1,.int (Ac.lw wk ww.sum).2])) t1 (.tup [.int r,.ref c1]) = H8 at T8 i1 i2 ⊢
      have nt:∀ t us,H8 t = some (.tup us)->upd H8 D3 (.lst (ys ++ [.ref t1])) t = some (.tup us):=fun t us e=>(bI (fB e (T8 _ _ h7) (by intro z; cases z))).trans e
      refine ⟨T8 _ _ h7,fun b o e=>(bI (bD e hD3)).trans (T8 _ _ (T7 _ _ e)),bH,?_⟩
      rw [cH et,cH ew]
      refine ((pi.same T8).imp nt).snoc ?_ (nt _ _ i2) (nt _ _ i1)
      rw [bh,bh,l6,lt4]
     .rintro ys Hc ⟨T7,h7,pi⟩ hy
      have pi:PI Hc ys ([ra,rb,rc,rd].take m) ww ww.sum:=by
       have e1:([ra,rb,rc,rd].take m).take m = [ra,rb,rc,rd].take m:=aL (by rw [lt4]; exact aG _)
       have e2:ww.take m = ww:=aL (by rw [l6]; exact aG _)
       rw [e1,e2] at pi
       exact pi
      refine hK _ _ (fin _ _ _ _ D3 ([ra,rb,rc,rd].take m) ww ww.sum ys Hc (T6.trans T7) (T7 _ _ hl6) (Same.free T6 hD3) h7 pi ?_)
      exact ⟨by decide,by decide,by rw [lt4,l6],by omega,by omega,by omega,fun x hx=>(b6 x hx).1,rfl,by omega,fun z=>by simp at z,fun z=>by simp at z,fun z=>by simp at z,fun r hr=>rn r (List.mem_of_mem_take hr)⟩
structure DD (n:Nat) (H:Hp) (d:Addr):Prop where
 ex:∃ (p lp:Addr) (so x y S:Int) (rs:List Nat) (ws:List Int) (ps:List V),H d = some (.tup [.int so,.ref p,.ref lp])/\H p = some (.tup [.int x,.int y])/\0 < y/\Z2 x y/\H lp = some (.lst ps)/\PI H ps rs ws S/\qC n so rs ws S
theorem DD.same {n:Nat} {H H':Hp} {d:Addr} (h:DD n H d) (S:Same H H'):DD n H' d:=by
 obtain ⟨p,lp,so,x,y,S',rs,ws,ps,a,b,b1,b2,c,d,e⟩:=h.ex
 exact ⟨p,lp,so,x,y,S',rs,ws,ps,S _ _ a,S _ _ b,b1,b2,S _ _ c,d.same S,e⟩
structure RD (n:Nat) (H:Hp) (xs:List V) (dss:List (List Addr)):Prop where
 len:xs.length = dss.length
 at_:∀ (k:Nat) (ds:List Addr),dss[k]? = some ds->∃ l,xs[k]? = some (.ref l)/\H l = some (.lst (ds.map V.ref))/\∀ d ∈ ds,DD n H d
theorem RD.same {n:Nat} {H H':Hp} {xs:List V} {dss:List (List Addr)} (h:RD n H xs dss) (S:Same H H'):RD n H' xs dss:=⟨h.len,fun k ds e=>let ⟨l,a,b,c⟩:=h.at_ k ds e; ⟨l,a,S _ _ b,fun d hd=>(c d hd).same S⟩⟩
theorem DD.off {n:Nat} {H:Hp} {ls:List Addr} {d p lp:Addr} {so x y S:Int} {rs:List Nat} {ws:List Int} {ps:List V} (hls:∀ l ∈ ls,∃ zs,H l = some (.lst zs)) (nl:lp ∉ ls) (h1:H d = some (.tup [.int so,.ref p,.ref lp])) (h2:H p = some (.tup [.int x,.int y])) (y0:0 < y) (g:Z2 x y) (h3:H lp = some (.lst ps)) (h4:PI H ps rs ws S) (h5:qC n so rs ws S):DD n (del ls H) d:=by
 have nt:∀ t us,H t = some (.tup us)->del ls H t = some (.tup us):=fun t us e=>fG (fun z=>by
  obtain ⟨zs,hz⟩:=hls t z
  rw [hz] at e
  cases e) e
 exact ⟨p,lp,so,x,y,S,rs,ws,ps,nt _ _ h1,nt _ _ h2,y0,g,fG nl h3,h4.imp nt,h5⟩
noncomputable def Cr (K:Frag) (a:Addr) (ns:List Int):Sp:=fun vs H Q _=>∃ (c:Int) (n:Nat) (m:Nat),vs = [.ref a,.int c,.int n,.int m]/\SqL K H a (ns.map V.int)/\ns.length <= 63/\0 <= c/\n <= 12/\m <= 100/\∀ (r:Addr) (xs:List V) (dss:List (List Addr)) H',Same H H'->H r = none->H' r = some (.lst xs)->dss.length = n->RD n H' xs dss->(∀ ds ∈ dss,ds.length <= m)->Q (.ref r) H'
structure RL (n m:Nat) (H0 H:Hp) (ls:List Addr) (dss:List (List Addr)):Prop where
 len:ls.length = dss.length
 nd:ls.Nodup
 new:∀ l ∈ ls,H0 l = none
 at_:∀ (k:Nat) (l:Addr) (ds:List Addr),ls[k]? = some l->dss[k]? = some ds->H l = some (.lst (ds.map V.ref))/\ds.length <= m/\∀ d ∈ ds,DD n (del ls H) d
theorem RL.rd {n m:Nat} {H0 H:Hp} {ls:List Addr} {dss:List (List Addr)} (h:RL n m H0 H ls dss):RD n H (ls.map V.ref) dss:=⟨by rw [ak,h.len],fun k ds e=>by
 have lk:k < ls.length:=by rw [h.len]; exact (ao.mp e).1
 have el:ls[k]? = some ls[k]:=aj lk
 obtain ⟨a,_,c⟩:=h.at_ k _ ds el e
 exact ⟨ls[k],by rw [au,el]; rfl,a,fun d hd=>(c d hd).same mY⟩⟩
theorem RL.lists {n m:Nat} {H0 H:Hp} {ls:List Addr} {dss:List (List Addr)} (h:RL n m H0 H ls dss):∀ l ∈ ls,∃ zs,H l = some (.lst zs):=fun l hl=>by
 obtain ⟨k,hk⟩:=aW hl
 have lk:k < dss.length:=by rw [<- h.len]; exact (ao.mp hk).1
 exact ⟨_,(h.at_ k l _ hk (aj lk)).1⟩
theorem RL.same {n m:Nat} {H0 H H':Hp} {ls:List Addr} {dss:List (List Addr)} (h:RL n m H0 H ls dss) (S:Same H H'):RL n m H0 H' ls dss:=⟨h.len,h.nd,h.new,fun k l ds e1 e2=>let ⟨a,b,c⟩:=h.at_ k l ds e1 e2; ⟨S _ _ a,b,fun d hd=>(c d hd).same (oA fun b o _ e=>S _ _ e)⟩⟩
theorem RL.put {n m:Nat} {H0 H:Hp} {ls:List Addr} {dss:List (List Addr)} {k:Nat} {l d:Addr} {ds:List Addr} (h:RL n m H0 H ls dss) (el:ls[k]? = some l) (ed:dss[k]? = some ds) (hm:ds.length < m) (hd:DD n (del ls H) d):RL n m H0 (upd H l (.lst ((ds ++ [d]).map V.ref))) ls (dss.set k (ds ++ [d])):=by
 have lm:=aC el
 have ee:del ls (upd H l (.lst ((ds ++ [d]).map V.ref))) = del ls H:=by
  funext b
  unfold del
  split
  .rfl
  .rename_i hb
   exact bI fun z=>hb (z ▸ lm)
 refine ⟨by rw [List.length_set,h.len],h.nd,h.new,fun j l' ds' e1 e2=>?_⟩
 rw [ee]
 by_cases e:k = j
 .subst e
  rw [el] at e1
  cases e1
  rw [List.getElem?_set_self (ao.mp ed).1] at e2
  cases e2
  obtain ⟨a,b,c⟩:=h.at_ k l ds el ed
  refine ⟨bH,by rw [aB]; simp; omega,fun d' hd'=>?_⟩
  rcases List.mem_append.mp hd' with hd' | hd'
  .exact c d' hd'
  .rw [List.mem_singleton.mp hd']; exact hd
 .rw [List.getElem?_set_ne e] at e2
  obtain ⟨a,b,c⟩:=h.at_ j l' ds' e1 e2
  refine ⟨(bI fun z=>?_).trans a,b,c⟩
  subst z
  have l1:=ao.mp el
  have l2:=ao.mp e1
  have pw:=List.pairwise_iff_getElem.mp h.nd
  rcases Nat.lt_or_gt_of_ne e with lt | lt
  .exact pw k j l1.1 l2.1 lt (l1.2.trans l2.2.symm)
  .exact pw j k l2.1 l1.1 lt (l2.2.trans l1.2.symm)
noncomputable def dJ0 (n m:Nat) (D1:Addr) (H H1:Hp) (k:Nat) (ys:List V) (Hc:Hp):Prop:=∃ ls:List Addr,ys = ls.map V.ref/\RL n m H Hc ls (List.replicate k [])/\Same H1 Hc/\Hc D1 = some (.lst ys)/\D1 ∉ ls
theorem RL.nil {n m:Nat} {H0 H:Hp} : RL n m H0 H [] (List.replicate 0 []):=⟨rfl,List.nodup_nil,by simp,fun k l ds e=>by simp at e⟩
theorem RL.more {n m k:Nat} {H0 H:Hp} {ls:List Addr} {l:Addr} (h:RL n m H0 H ls (List.replicate k [])) (h0:H0 l = none) (hl:H l = none):RL n m H0 (upd H l (.lst [])) (ls ++ [l]) (List.replicate (k + 1) []):=by
 have hk:ls.length = k:=by rw [h.len,aN]
 have nin:l ∉ ls:=fun z=>by
  obtain ⟨zs,hz⟩:=h.lists l z
  rw [hl] at hz
  cases hz
 refine ⟨by rw [aB,hk,aN]; rfl,?_,fun l' hl'=>?_,fun j l' ds e1 e2=>?_⟩
 .rw [List.nodup_append]
  refine ⟨h.nd,by simp,fun a ha b hb z=>?_⟩
  rw [List.mem_singleton.mp hb] at z
  exact nin (z ▸ ha)
 .rcases List.mem_append.mp hl' with hl' | hl'
  .exact h.new l' hl'
  .rw [List.mem_singleton.mp hl']; exact h0
 .have lj:=(ao.mp e2).1
  rw [aN] at lj
  rw [List.getElem?_replicate,if_pos lj] at e2
  cases e2
  by_cases hj:j < ls.length
  .rw [aF hj] at e1
   obtain ⟨a,_⟩:=h.at_ j l' [] e1 (by rw [List.getElem?_replicate,if_pos (by omega)])
   exact ⟨(bI (fun z=>by rw [z,hl] at a; cases a)).trans a,bw _,by simp⟩
  .rw [aD (by omega)] at e1
   have e0:j - ls.length = 0:=by omega
   rw [e0] at e1
   cases e1
   exact ⟨bH,bw _,by simp⟩
theorem RL.other {n m k:Nat} {H0 H:Hp} {ls:List Addr} {D1:Addr} {o:HO} (h:RL n m H0 H ls (List.replicate k [])) (nd:D1 ∉ ls):RL n m H0 (upd H D1 o) ls (List.replicate k []):=by
 refine ⟨h.len,h.nd,h.new,fun j l ds e1 e2=>?_⟩
 obtain ⟨a,b,_⟩:=h.at_ j l ds e1 e2
 have lj:=(ao.mp e2).1
 rw [aN] at lj
 rw [List.getElem?_replicate,if_pos lj] at e2
 cases e2
 exact ⟨(bI fun z=>by subst z; exact nd (aC e1)).trans a,b,by simp⟩
noncomputable def dJ (a D1:Addr) (c:Int) (n m:Nat) (ls:List Addr) (u5 u6:Option V) (H:Hp) (k:Nat) (σ:L2.St) (H':Hp):Prop:=∃ (u7 u8 u9 u10:Option V) (dss:List (List Addr)),σ = [some (.ref a),some (.int c),some (.int n),some (.int m),some (.ref D1),u5,u6,u7,u8,u9,u10]/\Same H H'/\H' D1 = some (.lst (ls.map V.ref))/\dss.length = n/\RL n m H H' ls dss
theorem Ww (F:Fun K tR tR Al f fd) (T:Txt K mg D) (a:Addr) (ns:List Int) (jX:OkF P w K mg base 1 uV uU (vZ K a ns)) (cT:OkF P w K mg base 1 eX eV dY) (Nx:OkF P w K mg base 4 wF xU Av):cD P w K mg base CX0 5 f fd rK (Cr K a ns):=by
 refine F.ok jw (fun vs H Q E h=>?_) (fun cdv A outer s H vs Q E hr h=>?_)
 .obtain ⟨c,n,m,rfl,_⟩:=h
  rfl
 .obtain ⟨c,n,m,rfl,hs,n63,c0,n12,m100,q⟩:=h
  refine ⟨_,(bK (Kp (bM Al) PN ["_law_script", "_law_at", "_law_many", "_law_most", "_law_rooms", "_law_first", "_law_cells", "?_law_k", "_law_cell_here", "_law_room", "_law_door_here"] ["_law_k"] (fV (by rfl) T.kE (bC (pv 2) bG).mono) (dZ (i:=0)) dh (ji bG) (cI (i:=4) jw.nd rfl (Or.inl rfl)))
   (bK (cQ (cA Q6 (pv 2) bF (cC _))
    (bK (bZ (i:=5) jw.nd rfl (Or.inl rfl) (bN jX (hr.mono (by decide)) (by rfl) (bC (pv 0) (bC (pv 1) bG))))
    (bK (bZ (i:=6) jw.nd rfl (Or.inl rfl) (bN cT (hr.mono (by decide)) (by rfl) (bC (pv 5) (bC (bQ iW (bQ cR (bQ Cq (pv 5) bF) bF) (bQ cV (bQ cM bF (pv 2)) bF)) bG))))
    (bK (bZ (i:=6) jw.nd rfl (Or.inl rfl) (bQ Nv (pv 6) (iM qp (pv 0) (fL (bQ cV (pv 1) bF)) (fL (bQ cV (pv 1) bF)))))
    (bL (jo PassesOwn.never rfl (fV (by rfl) T.kE (bC (b_ cJ (by rfl) T.eN PySem.boot_len (bC (pv 6) bG)) bG).mono) (cI (i:=7) jw.nd rfl (Or.inl rfl))
     (bK (bZ (i:=8) jw.nd rfl (Or.inl rfl) (bR bO (pv 6) (pv 7) (fun _ _=>rfl)))
     (bK (cQ (PW.pt (pw_and (cA iI (bQ cR (pv 5) bF) bF (cC _)) (pw_and1 (cA iI (bQ cR (pv 7) bF) bF (cC _)))))
      (bL (bZ (i:=8) jw.nd rfl (Or.inl rfl) (bQ cR (pv 8) bF)))
      cj)
     (bK (rP (bN Nx (hr.mono (by decide)) (by rfl) (bC (pv 8) (bC (pv 2) bG))) (eY (n:=2) rfl (cu (cI (i:=9) jw.nd rfl (Or.inl rfl)) (cu (cI (i:=10) jw.nd rfl (Or.inl rfl)) eG))))
     (bL (cQ (cA tG (b_ cJ (by rfl) T.eN PySem.boot_len (bC (bR bO (pv 4) (pv 9) (fun _ _=>rfl)) bG)) (pv 3) (cC _))
      (bL (cU (pq (bR bO (pv 4) (pv 9) (fun _ _=>rfl)) (bC (pv 10) bG))))
      cj))))))))))
    cj)
   (bL (cg (pv 4))))),?_⟩
  unfold vZ dY Av
  refine bV fun R1 hR1=>?_
  walk_at "rd"
  refine mV ?_
  walk_at "rd"
  refine ⟨n,rfl,by omega,fun D1 hD1=>⟨dJ0 n m D1 H H,⟨[],rfl,.nil,Same.upd hD1,bH,by simp⟩,?_,?_⟩⟩
  .rintro k ys Hc hk ⟨ls,rfl,rl,S1,h1,nd⟩ hy
   refine ⟨bw _,fun l hl=>?_⟩
   have nD:D1 ≠ l:=bD h1 hl
   refine ⟨(bI nD).trans h1,ls ++ [l],by rw [bA]; rfl,(rl.more (Same.free S1 hl) hl).other ?_,fun b o e=>(bI (bD e hD1)).trans ((bI (bD (S1 _ _ e) hl)).trans (S1 _ _ e)),bH,?_⟩
   .simp only [List.mem_append,List.mem_singleton,not_or]
    exact ⟨nd,nD⟩
   .simp only [List.mem_append,List.mem_singleton,not_or]
    exact ⟨nd,nD⟩
  .rintro ys Hc ⟨ls,rfl,rl,S1,h1,nd⟩ hy
   subst hR1
   refine bV fun R2 hR2=>?_
   have fin:∀ (u5 u6 u7 u8 u9 u10:Option V) (dss:List (List Addr)) (H9:Hp),Same H H9->H9 D1 = some (.lst (ls.map V.ref))->dss.length = n->RL n m H H9 ls dss->R2 { nx:=fun _ H'=>Q .non H',rt:=Q } [some (.ref a),some (.int c),some (.int n),some (.int m),some (.ref D1),u5,u6,u7,u8,u9,u10] H9:=by
    intro u5 u6 u7 u8 u9 u10 dss H9 S9 h9 ld r9
    subst hR2
    refine ⟨_,rfl,q D1 _ dss H9 S9 hD1 h9 ld r9.rd fun ds hds=>?_⟩
    obtain ⟨k,hk⟩:=aW hds
    have lk:k < ls.length:=by rw [r9.len]; exact (ao.mp hk).1
    exact (r9.at_ k _ ds (aj lk) hk).2.1
   clear hR2
   walk_at "rd"
   refine Yv (fun hn=>?_) fun _=>fin none none none none none none (List.replicate n []) Hc S1 h1 aN rl
   have hn:0 < (n:Int):=of_decide_eq_true hn
   have v0:0 <= cell ns c * 48271 % 104729 % (3 * (n:Int) + 1):=Int.emod_nonneg _ (by omega)
   have v1:cell ns c * 48271 % 104729 % (3 * (n:Int) + 1) < 3 * (n:Int) + 1:=Int.emod_lt_of_pos _ (by omega)
   refine ⟨Same.sql S1 hs,n63,c0,.inr (by constructor <;> decide),Bd.sm (by decide),Bd.sm (by omega),by omega,(cell ns c * 48271 % 104729 % (3 * (n:Int) + 1)).toNat,by rw [aX _ (by omega)]; omega,by omega,fun l xs H2 S2 fl hl2 xl _=>?_⟩
   refine ⟨_,Same.sql (S1.trans S2) hs,fun p5 g5=>⟨_,(bI (bD hl2 g5)).trans hl2,?_,fun p6 g6=>?_⟩⟩
   .have z9:1000 < sizeLine:=by decide
    have:(gU (ns.map V.int) (some (c + 1)) (some (c + 25))).length <= (ns.map V.int).length:=by
     unfold gU
     rw [bh,List.length_drop]
     omega
    rw [ak] at this ⊢
    omega
   have cl:(xs.map V.int ++ gU (ns.map V.int) (some (c + 1)) (some (c + 25))).length < 2 ^ 61:=by
    have:(gU (ns.map V.int) (some (c + 1)) (some (c + 25))).length <= (ns.map V.int).length:=by
     unfold gU
     rw [bh,List.length_drop]
     omega
    rw [ak] at this
    rw [aB,ak]
    omega
   have ci:∀ v ∈ xs.map V.int ++ gU (ns.map V.int) (some (c + 1)) (some (c + 25)),∃ i,v = V.int i:=fun v hv=>by
    rcases List.mem_append.mp hv with z | z
    .obtain ⟨i,_,rfl⟩:=List.mem_map.mp z
     exact ⟨i,rfl⟩
    .obtain ⟨i,_,rfl⟩:=List.mem_map.mp (List.mem_of_mem_drop (List.mem_of_mem_take z))
     exact ⟨i,rfl⟩
   have T5:Same Hc (upd (upd H2 p5 (.lst (gU (ns.map V.int) (some (c + 1)) (some (c + 25))))) p6 (.lst (xs.map V.int ++ gU (ns.map V.int) (some (c + 1)) (some (c + 25))))):=S2.trans ((Same.upd g5).trans (Same.upd g6))
   have k6:upd (upd H2 p5 (.lst (gU (ns.map V.int) (some (c + 1)) (some (c + 25))))) p6 (.lst (xs.map V.int ++ gU (ns.map V.int) (some (c + 1)) (some (c + 25)))) p6 = some (.lst (xs.map V.int ++ gU (ns.map V.int) (some (c + 1)) (some (c + 25)))):=bH
   generalize upd (upd H2 p5 (.lst (gU (ns.map V.int) (some (c + 1)) (some (c + 25))))) p6 (.lst (xs.map V.int ++ gU (ns.map V.int) (some (c + 1)) (some (c + 25)))) = H6 at T5 k6 ⊢
   generalize xs.map V.int ++ gU (ns.map V.int) (some (c + 1)) (some (c + 25)) = cs at cl ci k6
   refine qj ⟨_,rfl,p6,cs,rfl,k6,cs.length,rfl,cl,fun k σ H'=>dJ a D1 c n m ls (some (.int (cell ns c))) (some (.ref p6)) H k σ H'/\H' p6 = some (.lst cs),⟨⟨none,none,none,none,List.replicate n [],rfl,S1.trans T5,T5 _ _ h1,aN,rl.same T5⟩,k6⟩,?_,?_⟩
   .rintro k σ' H' hk ⟨⟨u7,u8,u9,u10,dss,rfl,S9,h9,ld,r9⟩,hp6⟩
    have ek:cs[k]? = some cs[k]:=aj hk
    obtain ⟨i,ei⟩:=ci _ (aV hk)
    rw [ei] at ek
    refine cL ⟨_,rfl,_,rfl,p6,cs,_,_,rfl,rfl,hp6,bU ek,?_⟩
    dsimp only [cN,List.set_cons_succ,List.set_cons_zero]
    refine bV fun R3 hR3=>?_
    have go:∀ i:Int,R3 { nx:=fun σ3 H3=>dJ a D1 c n m ls (some (.int (cell ns c))) (some (.ref p6)) H (k + 1) σ3 H3/\H3 p6 = some (.lst cs),rt:=Q,bk:=R2 { nx:=fun x H'=>Q V.non H',rt:=Q },ct:=fun σ3 H3=>dJ a D1 c n m ls (some (.int (cell ns c))) (some (.ref p6)) H (k + 1) σ3 H3/\H3 p6 = some (.lst cs) } [some (.ref a),some (.int c),some (.int n),some (.int m),some (.ref D1),some (.int (cell ns c)),some (.ref p6),some (.int (k:Nat)),some (.int i),u9,u10] H':=by
     intro i
     subst hR3
     walk_at "rd"
     refine ⟨n,rfl,by omega,n12,fun r d p lp room so x y S rs ws ps H3 S3 fr fd hr hroom hd hp y0 g hlp flp hpi hdr=>?_⟩
     have kd:dss[room]? = some (dss[room]'(by omega)):=aj _
     have kl:ls[room]? = some (ls[room]'(by rw [r9.len]; omega)):=aj _
     generalize dss[room]'(by omega) = ds at kd
     generalize ls[room]'(by rw [r9.len]; omega) = lr at kl
     have r3:=r9.same S3
     have al:=r3.at_ room lr ds kl kd
     refine ⟨_,hr,rfl,_,_,rfl,_,_,rfl,rfl,_,_,rfl,S3 _ _ h9,_,bU (j:=room) (by rw [au,kl]; rfl),lr,rfl,_,al.1,?_⟩
     rw [ak]
     by_cases hm:ds.length < m
     .rw [if_pos (decide_eq_true (by omega))]
      have lin:=aC kl
      have nD:D1 ≠ lr:=fun z=>nd (by rw [z]; exact lin)
      have n6:lr ≠ p6:=by
       obtain ⟨zs,hz⟩:=rl.lists lr lin
       exact bD (Same.upd g5 _ _ (S2 _ _ hz)) g6
      have nl:lp ∉ ls:=fun z=>by
       obtain ⟨zs,hz⟩:=r9.lists lp z
       rw [hz] at flp
       cases flp
      have dd:=DD.off r3.lists nl hd hp y0 g hlp hpi hdr
      have r4:=r3.put kl kd hm dd
      rw [bA] at r4
      have z9:1000 < sizeLine:=by decide
      refine ⟨_,_,rfl,S3 _ _ h9,_,bU (j:=room) (by rw [au,kl]; rfl),lr,rfl,⟨_,al.1⟩,_,al.1,by rw [ak]; omega,⟨_,_,_,_,dss.set room (ds ++ [d]),rfl,fun b o e=>(bI (fun z=>?_)).trans (S3 _ _ (S9 _ _ e)),(bI nD).trans (S3 _ _ h9),by rw [List.length_set]; exact ld,r4⟩,(bI n6.symm).trans (S3 _ _ hp6)⟩
      rw [z,r9.new lr lin] at e
      cases e
     .rw [if_neg (by simp; omega)]
      exact ⟨⟨_,_,_,_,dss,rfl,S9.trans S3,S3 _ _ h9,ld,r3⟩,S3 _ _ hp6⟩
    refine cZ ⟨_,rfl,_,3,rfl,rfl,(show (0:Int) < 3 by decide),rfl,decide (V.int (cell ns c % 3) = V.int 0),rfl,?_⟩
    by_cases e1:V.int (cell ns c % 3) = V.int 0
    .rw [decide_eq_true e1]
     refine ⟨_,rfl,_,2,rfl,rfl,(show (0:Int) < 2 by decide),rfl,decide (V.int ((k:Int) % 2) = V.int 0),rfl,?_⟩
     by_cases e2:V.int ((k:Int) % 2) = V.int 0
     .rw [decide_eq_true e2]
      exact ⟨_,rfl,_,5,rfl,rfl,(show (0:Int) < 5 by decide),go (i % 5)⟩
     .rw [decide_eq_false e2]
      exact go i
    .rw [decide_eq_false e1]
     exact go i
   .rintro σ' H' ⟨⟨u7,u8,u9,u10,dss,rfl,S9,h9,ld,r9⟩,_⟩
    exact fin _ _ _ _ _ _ dss H' S9 h9 ld r9
theorem WF.keys {H:Hp} : ∀ {xs:List V} {gs:List (Str × Int × Int)} {ws:List (Str × Addr)},WF K H xs gs ws->ws.map (·.1) = gs.map (·.1)
 | _,_,_,.nil=>rfl
 | _,_,_,.cons _ _ r=>by rw [List.map_cons,List.map_cons,r.keys]
theorem Vg {ns:List Str} {rs:List Nat} (h:∀ r ∈ rs,r < ns.length):∃ nms,wz ns rs nms:=by
 refine ⟨rs.map fun r=>(ns[r]?).getD Str.empty,ak ..,fun k r m e1 e2=>?_⟩
 rw [au,e1,Option.map_some,aj (h r (aC e1))] at e2
 cases e2
 exact aj _
structure xV (K:Frag) (n:Nat) (ns:List Str) (H H':Hp) (d:Addr) (g:Dr):Prop where
 ex:∃ (p lp:Addr) (so x y S:Int) (rs:List Nat) (ws:List Int) (ps xs:List V) (nms:List Str),H d = some (.tup [.int so,.ref p,.ref lp])/\H p = some (.tup [.int x,.int y])/\0 < y/\Z2 x y/\H lp = some (.lst ps)/\PI H ps rs ws S/\qC n so rs ws S/\wz ns rs nms/\g.p = p/\WF K H' xs (Ac.ways (nms.zip ws) S) g.ws
theorem xV.on {n:Nat} {ns:List Str} {H H' H2:Hp} {d:Addr} {g:Dr} (S:Same H' H2) (h:xV K n ns H H' d g):xV K n ns H H2 d g:=by
 obtain ⟨p,lp,so,x,y,S',rs,ws,ps,xs,nms,a1,a2,a3,a4,a5,a6,a7,a8,a9,b⟩:=h.ex
 exact ⟨p,lp,so,x,y,S',rs,ws,ps,xs,nms,a1,a2,a3,a4,a5,a6,a7,a8,a9,b.same S⟩
theorem xV.up {n:Nat} {ns:List Str} {H H' H2:Hp} {d:Addr} {g:Dr} (S:Same H H2) (h:xV K n ns H H' d g):xV K n ns H2 H' d g:=by
 obtain ⟨p,lp,so,x,y,S',rs,ws,ps,xs,nms,a1,a2,a3,a4,a5,a6,a7,a8,a9,b⟩:=h.ex
 exact ⟨p,lp,so,x,y,S',rs,ws,ps,xs,nms,S _ _ a1,S _ _ a2,a3,a4,S _ _ a5,a6.same S,a7,a8,a9,b⟩
theorem xV.few {n:Nat} {ns:List Str} {H H':Hp} {d:Addr} {g:Dr} (h:xV K n ns H H' d g):g.ws.length <= 8/\∀ z ∈ g.ws,z.1 ∈ ns:=by
 obtain ⟨p,lp,so,x,y,S',rs,ws,ps,xs,nms,a1,a2,a3,a4,a5,a6,a7,a8,a9,b⟩:=h.ex
 have lo:∀ z ∈ nms.zip ws,0 <= z.2:=fun z hz=>a7.lo _ (List.of_mem_zip (a:=z.1) (b:=z.2) hz).2
 have k:=b.keys
 constructor
 .have e1:=congrArg List.length k
  rw [ak,ak] at e1
  have e2:=Ac.Xm lo S'
  have e3:(nms.zip ws).length <= nms.length:=by rw [List.length_zip]; omega
  have:=a8.1
  have:=a7.l8
  omega
 .intro z hz
  have hz:=List.mem_map_of_mem (f:=(·.1)) hz
  rw [k] at hz
  obtain ⟨v,hv,e⟩:=List.mem_map.mp hz
  have hv:=Ac.Vs hv
  obtain ⟨u,hu,e'⟩:=List.mem_map.mp hv
  have hu:=(List.of_mem_zip (a:=u.1) (b:=u.2) hu).1
  rw [<- e,<- e']
  obtain ⟨j,hj⟩:=aW hu
  have lj:j < rs.length:=by rw [<- a8.1]; exact (ao.mp hj).1
  exact aC (a8.2 j _ _ (aj lj) hj)
structure ux (K:Frag) (n:Nat) (ns:List Str) (H H':Hp) (ds:List Addr) (gs:List Dr):Prop where
 len:gs.length = ds.length
 at_:∀ (j:Nat) (d:Addr) (g:Dr),ds[j]? = some d->gs[j]? = some g->xV K n ns H H' d g
theorem ux.on {n:Nat} {ns:List Str} {H H' H2:Hp} {ds:List Addr} {gs:List Dr} (S:Same H' H2) (h:ux K n ns H H' ds gs):ux K n ns H H2 ds gs:=⟨h.len,fun j d g e1 e2=>(h.at_ j d g e1 e2).on S⟩
theorem ux.up {n:Nat} {ns:List Str} {H H' H2:Hp} {ds:List Addr} {gs:List Dr} (S:Same H H2) (h:ux K n ns H H' ds gs):ux K n ns H2 H' ds gs:=⟨h.len,fun j d g e1 e2=>(h.at_ j d g e1 e2).up S⟩
theorem ux.mem {n:Nat} {ns:List Str} {H H':Hp} {ds:List Addr} {gs:List Dr} (h:ux K n ns H H' ds gs) {g:Dr} (hg:g ∈ gs):∃ d,xV K n ns H H' d g:=by
 obtain ⟨j,hj⟩:=aW hg
 have lj:j < ds.length:=by rw [<- h.len]; exact (ao.mp hj).1
 exact ⟨_,h.at_ j _ g (aj lj) hj⟩
theorem ux.snoc {n:Nat} {ns:List Str} {H H':Hp} {ds:List Addr} {gs:List Dr} {d:Addr} {g:Dr} (h:ux K n ns H H' ds gs) (hd:xV K n ns H H' d g):ux K n ns H H' (ds ++ [d]) (gs ++ [g]):=by
 have l:=h.len
 refine ⟨by rw [aB,aB,l]; rfl,fun j d' g' e1 e2=>?_⟩
 rcases qW e1 with ⟨a,b⟩ | ⟨a,b⟩ <;> rcases qW e2 with ⟨c,e⟩ | ⟨c,e⟩
 .exact h.at_ j d' g' b e
 .omega
 .omega
 .subst b; subst e; exact hd
theorem vd.snoc {H:Hp} {xs:List V} {gs:List Dr} {s:Addr} {g:Dr} (h:vd D H xs gs) (hs:Uo D H s g):vd D H (xs ++ [.ref s]) (gs ++ [g]):=by
 have l:=h.len
 refine ⟨by rw [aB,aB,l]; rfl,fun k g' e=>?_⟩
 rcases qW e with ⟨a,b⟩ | ⟨a,b⟩
 .obtain ⟨s',c,d⟩:=h.at_ k g' b
  exact ⟨s',by rw [aF (by omega)]; exact c,d⟩
 .subst b
  exact ⟨s,by rw [aD (by omega),l,a,Nat.sub_self]; rfl,hs⟩
theorem lU.snoc {H:Hp} {xs ys:List V} {rms:List (Str × List Dr)} {t l:Addr} {g:Str × List Dr} (h:lU D H xs rms) (ht:H t = some (.tup [.str g.1,.ref l])) (hl:H l = some (.lst ys)) (hd:vd D H ys g.2):lU D H (xs ++ [.ref t]) (rms ++ [g]):=by
 have le:=h.len
 refine ⟨by rw [aB,aB,le]; rfl,fun k g' e=>?_⟩
 rcases qW e with ⟨a,b⟩ | ⟨a,b⟩
 .obtain ⟨t',l',ys',c,d⟩:=h.at_ k g' b
  exact ⟨t',l',ys',by rw [aF (by omega)]; exact c,d⟩
 .subst b
  exact ⟨t,l,ys,by rw [aD (by omega),le,a,Nat.sub_self]; rfl,ht,hl,hd⟩
structure m9 (K:Frag) (n:Nat) (H:Hp) (dss:List (List Addr)) (rms:List (Str × List Dr)):Prop where
 len:rms.length = dss.length
 at_:∀ (j:Nat) (ds:List Addr) (g:Str × List Dr),dss[j]? = some ds->rms[j]? = some g->ux K n (rms.map (·.1)) H H ds g.2
theorem m9.same {n:Nat} {H H':Hp} {dss:List (List Addr)} {rms:List (Str × List Dr)} (h:m9 K n H dss rms) (S:Same H H'):m9 K n H' dss rms:=⟨h.len,fun j ds g e1 e2=>((h.at_ j ds g e1 e2).on S).up S⟩
theorem abP {so:Int} (s0:0 <= so) (s3:so <= 3):d7 D (clsOf D so):=by
 unfold d7
 obtain rfl | rfl | rfl | rfl:so = 0\/so = 1\/so = 2\/so = 3:=by omega
 all_goals simp [clsOf]
theorem uH {as:List Addr} {H:Hp} (hls:∀ l ∈ as,∃ zs,H l = some (.lst zs)) {b:Addr} {u:HO} (nu:∀ zs,u ≠ .lst zs) (e:H b = some u):del as H b = some u:=fG (fun z=>by
 obtain ⟨zs,hz⟩:=hls b z
 rw [hz] at e
 injection e with e
 exact nu zs e.symm) e
theorem WF.off {as:List Addr} {H:Hp} (hls:∀ l ∈ as,∃ zs,H l = some (.lst zs)) {xs:List V} {gs:List (Str × Int × Int)} {ws:List (Str × Addr)} (h:WF K H xs gs ws):WF K (del as H) xs gs ws:=by
 refine h.imp (fun t ys e=>uH hls (by intro z y; cases y) e) fun c xs e=>?_
 rcases e with (e | ⟨o,e⟩) | e
 .exact .inl (.inl (uH hls (by intro z y; cases y) e))
 .exact .inl (.inr ⟨o,uH hls (by intro z y; cases y) e⟩)
 .exact .inr e
noncomputable def Ib (K:Frag) (D:Adr):Sp:=fun vs H Q _=>∃ (c x y:Int) (p r:Addr) (xs:List V) (dss:List (List Addr)) (n m:Nat),vs = [.int c,.ref p,.ref r]/\H p = some (.tup [.int x,.int y])/\0 <= x/\x < y/\y <= 100/\Int.gcd x y = 1/\H r = some (.lst xs)/\RD n H xs dss/\dss.length = n/\n <= 12/\m <= 12/\(∀ ds ∈ dss,ds.length <= m) /\
 ∀ (o:Addr) (H':Hp) (rms:List (Str × List Dr)),Same H H'->H o = none->jm D H' o p rms->Qh rms->m9 K n H' dss rms->Q (.ref o) H'
noncomputable def hlJ (K:Frag) (D:Adr) (σ0:List (Option V)) (D1:Addr) (n:Nat) (ns:List Str) (dss:List (List Addr)) (H H1:Hp) (k:Nat) (σ:L2.St) (H':Hp):Prop:=∃ (u5 u6:Option V) (zs:List V) (rms:List (Str × List Dr)),σ = σ0 ++ [u5,u6]/\Same H1 H'/\H' D1 = some (.lst zs)/\lU D (del [D1] H') zs rms/\rms.map (·.1) = ns.take k/\(∀ g ∈ rms,(g.2.map (·.nm)).Nodup)/\∀ (j:Nat) (ds:List Addr) (g:Str × List Dr),dss[j]? = some ds->rms[j]? = some g->ux K n ns H (del [D1] H') ds g.2
noncomputable def dlJ (K:Frag) (D:Adr) (D1 D2:Addr) (n:Nat) (ns ts:List Str) (ds:List Addr) (H H1:Hp) (k:Nat) (zs:List V) (H':Hp):Prop:=∃ gs:List Dr,Same H1 H'/\H' D2 = some (.lst zs)/\vd D (del [D1,D2] H') zs gs/\gs.map (·.nm) = ts.take k/\ux K n ns H (del [D1,D2] H') (ds.take k) gs
theorem X6 (F:Fun K vY vY HJ f fd) (T:Txt K mg D) (Ar:OkF P w K mg base 2 uG tD xT) (Jz:OkF P w K mg base 8 tV sS (w5 K D)) (Ji:OkI P w K mg base (CXO P w) 4 D.Hall_init lH (nU K D)):cD P w K mg base CX0 9 f fd wC (Ib K D):=by
 refine F.ok wM (fun vs H Q E h=>?_) (fun cdv A outer s H vs Q E hr h=>?_)
 .obtain ⟨c,x,y,p,r,xs,dss,n,m,rfl,_⟩:=h
  rfl
 .obtain ⟨c,x,y,p,r,xs,dss,n,m,rfl,hp,x0,xy,y1,gx,hrm,rd,ln,n12,m12,hm,q⟩:=h
  refine ⟨_,(bK (bZ (i:=3) wM.nd rfl (Or.inr rfl) (bN Ar (hr.mono (by decide)) (by rfl) (bC (pv 0) (bC (b_ cJ (by rfl) T.eN PySem.boot_len (bC (pv 2) bG)) bG))))
   (bK (bZ (i:=4) wM.nd rfl (Or.inl rfl) (ji bG))
   (bK (jo PassesOwn.never rfl (fV (by rfl) T.kE (bC (b_ cJ (by rfl) T.eN PySem.boot_len (bC (pv 2) bG)) bG).mono) (cI (i:=5) wM.nd rfl (Or.inl rfl))
    (bK (bZ (i:=6) wM.nd rfl (Or.inl rfl) (bN Ar (hr.mono (by decide)) (by rfl) (bC (bQ cV (pv 0) (pv 5)) (bC (b_ cJ (by rfl) T.eN PySem.boot_len (bC (bR bO (pv 2) (pv 5) (fun _ _=>rfl)) bG)) bG))))
    (bL (cU (pq (pv 4) (bC (dO (bC (bR bO (pv 3) (pv 5) (fun _ _=>rfl)) (bC (jr (bM HJ) N8 N8 ["_law_title", "_law_door_here"] (Nk (by rfl) T.Xa (bC (pv 6) (bC (bR bO (pv 2) (pv 5) (fun _ _=>rfl)) bG)).mono) (eY (n:=2) rfl (cu (dZ (i:=0)) (cu (dZ (i:=1)) eG))) dh (bN Jz (hr.mono (by decide)) (by rfl) (bC (pv 0) (bC (pv 1) (bC (pv 5) bG))))) bG))) bG))))))
   (bL (cg (sH T.X4 Ji (hr.mono (by decide)) (by rfl) T.abT wG (bC (pv 1) (bC (pv 4) bG)))))))),?_⟩
  unfold xT w5 nU
  walk_at "rd"
  have lx:xs.length = n:=by rw [rd.len,ln]
  refine ⟨_,hrm,n,by rw [lx],n12,fun l0 ns H1 S1 f0 hl0 lns wns nns=>⟨bw _,fun D1 hD1=>qj ?_⟩⟩
  walk_at "rd"
  have z9:100 < sizeLine:=by decide
  refine ⟨_,(bI (bD (S1 _ _ hrm) hD1)).trans (S1 _ _ hrm),n,by rw [lx],by omega,hlJ K D [some (.int c),some (.ref p),some (.ref r),some (.ref l0),some (.ref D1)] D1 n ns dss H H1,⟨none,none,[],[],rfl,Same.upd hD1,bH,⟨rfl,fun k g e=>by simp at e⟩,rfl,by simp,fun j ds g _ e=>by simp at e⟩,?_,?_⟩
  .rintro k σ' H' hk ⟨u5,u6,zs,rms,rfl,S2,hD,hR,hn,hd,hi⟩
   have ed:dss[k]? = some (dss[k]'(by omega)):=aj _
   have em:=aV (l:=dss) (n:=k) (by omega)
   have en:ns[k]? = some (ns[k]'(by omega)):=aj _
   generalize dss[k]'(by omega) = ds at ed em
   generalize ns[k]'(by omega) = nk at en
   have dm:=hm ds em
   obtain ⟨lk,ek,hlk,dd⟩:=rd.at_ k ds ed
   have SH:=S1.trans S2
   walk_at "rd"
   refine ⟨_,SH _ _ hrm,_,bU ek,lk,rfl,_,SH _ _ hlk,ds.length,by rw [ak],by omega,fun l1 ts H3 S3 f3 hl3 lts wts nts=>⟨⟨_,S3 _ _ hD⟩,_,S3 _ _ (S2 _ _ hl0),_,bU (by rw [au,en]; rfl),Dz ?_⟩⟩
   have SH3:=SH.trans S3
   have S13:=S2.trans S3
   walk_at "rd"
   refine ⟨_,SH3 _ _ hrm,_,bU ek,lk,rfl,_,hl3,_,SH3 _ _ hlk,by rw [ak,ak,lts],by rw [ak]; omega,fun D2 hD2=>⟨dlJ K D D1 D2 n ns ts ds H H3,⟨[],Same.upd hD2,bH,⟨rfl,fun k g e=>by simp at e⟩,rfl,⟨rfl,fun j d g _ e=>by simp at e⟩⟩,?_,?_⟩⟩
   .rintro j xv yv zs2 Hc t hx hy ⟨gs,S5,h5,dr,gn,ri⟩ hz ht ha hb pre hpre
    obtain ⟨u1,u2,rfl⟩:=vG hpre
    rw [au] at hx hy
    have lj:j < ds.length:=by
     by_cases z:j < ds.length
     .exact z
     .rw [List.getElem?_eq_none (by omega)] at hy
      cases hy
    have e1:ts[j]? = some (ts[j]'(by omega)):=aj _
    have e2:ds[j]? = some ds[j]:=aj _
    rw [e1] at hx
    rw [e2] at hy
    cases hx
    cases hy
    generalize ts[j]'(by omega) = tj at e1 ⊢
    generalize ds[j] = d at e2 ⊢
    obtain ⟨p1,lp,so,x1,y2,S',rs,ws,ps,a1,a2,a3,a4,a5,a6,a7⟩:=(dd d (aC e2)).ex
    obtain ⟨nms,no⟩:=Vg (ns:=ns) (rs:=rs) fun r hr=>by rw [lns]; exact a7.lt r hr
    have SHc:Same H Hc:=SH3.trans S5
    have SU:=SHc.trans (Same.upd ht (o:=.tup [.str tj,.ref d]))
    have hl0c:=Same.upd ht (o:=.tup [.str tj,.ref d]) _ _ (S5 _ _ (S13 _ _ hl0))
    walk_at "rd"
    refine ⟨[_,_],rfl,rfl,so,lp,p1,SU _ _ a1,wts _ (aC e1),⟨x1,y2,.inl (.inl (SU _ _ a2)),a3,a4.gcd⟩,S',rs,ws,ps,SU _ _ a5,a6.same SU,ns,hl0c,nms,no,a7.drawn no wns,fun H4 s ld ys us S6 fs fld d1=>?_⟩
    have S7:Same Hc H4:=(Same.upd ht).trans S6
    have hD4:H4 D1 = some (.lst zs):=S7 _ _ (S5 _ _ (S3 _ _ hD))
    have h54:=S7 _ _ h5
    have hls:∀ l ∈ [D1,D2],∃ zs,H4 l = some (.lst zs):=fun l hl=>by
     simp only [List.mem_cons,List.not_mem_nil,or_false] at hl
     rcases hl with rfl | rfl
     .exact ⟨_,hD4⟩
     .exact ⟨_,h54⟩
    have nw:∀ b,upd Hc t (.tup [.str tj,.ref d]) b = none->b ∉ [D1,D2]:=fun b hb z=>by
     simp only [List.mem_cons,List.not_mem_nil,or_false] at z
     rcases z with rfl | rfl
     .rw [Same.upd ht _ _ (S5 _ _ (S3 _ _ hD))] at hb
      cases hb
     .rw [Same.upd ht _ _ h5] at hb
      cases hb
    obtain ⟨dx,hs⟩:=d1.at_
    have wo:=d1.wf.off hls
    have st:Same (del [D1,D2] Hc) (del [D1,D2] H4):=oA fun b o _ e=>S7 _ _ e
    have di:xV K n ns H (del [D1,D2] H4) d ⟨tj,p1,us⟩:=⟨p1,lp,so,x1,y2,S',rs,ws,ps,ys,nms,a1,a2,a3,a4,a5,a6,a7,no,rfl,wo⟩
    refine ⟨h54,S7 _ _ ha,S7 _ _ hb,gs ++ [⟨tj,p1,us⟩],fun b u e=>(bI (bD e hD2)).trans (S7 _ _ (S5 _ _ e)),bH,?_,?_,?_⟩
    .rw [qL (by simp)]
     exact (dr.same st).snoc ⟨clsOf D so,dx,ld,ys,abP a7.s0 a7.s3,fG (nw _ fs) hs,fG (nw _ fld) d1.hl,wo.ways,aM di.few.1 (by decide)⟩
    .rw [bA,gn,cH e1]; rfl
    .rw [qL (by simp),cH e2]
     exact (ri.on st).snoc di
   .rintro zs2 Hc ⟨gs,S5,h5,dr,gn,ri⟩ hz
    rw [ak,aL (aG _)] at gn
    rw [ak,aL (by omega)] at ri
    have rk:rms.length = k:=by
     have:=congrArg List.length hn
     rw [ak,bh] at this
     omega
    have zl:=hR.len
    have hDc:Hc D1 = some (.lst zs):=S5 _ _ (S3 _ _ hD)
    have n12':D1 ≠ D2:=bD (S3 _ _ hD) hD2
    refine ⟨dR,fun t2 g2=>?_⟩
    have n1:D1 ≠ t2:=bD hDc g2
    have st:Same (del [D1] H') (del [D1] (upd Hc t2 (.tup [.str nk,.ref D2]))):=oA fun b o _ e=>Same.upd g2 _ _ (S5 _ _ (S3 _ _ e))
    have s2:Same (del [D1,D2] Hc) (del [D1] (upd Hc t2 (.tup [.str nk,.ref D2]))):=fun b o e=>by
     obtain ⟨a,e⟩:=pK e
     exact fG (by simp at a ⊢; exact a.1) (Same.upd g2 _ _ e)
    refine ⟨zs,(bI n1).trans hDc,by omega,some (.int k),some (.ref l1),zs ++ [.ref t2],rms ++ [(nk,gs)],rfl,fun b u e=>(bI (bD e hD1)).trans (Same.upd g2 _ _ (S5 _ _ (S13 _ _ e))),bH,?_,?_,?_,?_⟩
    .rw [qL (by simp)]
     exact (hR.same st).snoc (fG (by simp; exact n1.symm) bH) (fG (by simp; exact n12'.symm) ((bI (bD h5 g2)).trans h5)) (dr.same s2)
    .rw [bA,hn,cH en]; rfl
    .intro g hg
     rcases List.mem_append.mp hg with hg | hg
     .exact hd g hg
     .rw [List.mem_singleton.mp hg,gn]; exact nts
    .intro j ds' g h1 h2
     rw [qL (by simp)]
     rcases qW h2 with ⟨_,b⟩ | ⟨a,rfl⟩
     .exact (hi j ds' g h1 b).on st
     .rw [a,rk,ed] at h1
      cases h1
      exact ri.on s2
  .rintro σ' H' ⟨u5,u6,zs,rms,rfl,S2,hD,hR,hn,hd,hi⟩
   walk_at "rd"
   intro o dx g1 g2 g3
   have SM:Same H' (upd (upd H' dx (.own o)) o (.ins D.Hall dx [])):=fun b u e=>by rw [bI (bD e g1),bI (bD e g2)]; exact e
   have SH:=S1.trans S2
   rw [aL (by omega)] at hn
   have rl:rms.length = n:=by rw [<- lns,<- hn,ak]
   have ri:∀ g ∈ rms,∃ ds ∈ dss,ux K n ns H (del [D1] H') ds g.2:=fun g hg=>by
    obtain ⟨j,hj⟩:=aW hg
    have lj:j < dss.length:=by have:=(ao.mp hj).1; omega
    exact ⟨_,aV lj,hi j _ g (aj lj) hj⟩
   have ok:Qh rms:=by
    refine ⟨by omega,by rw [hn]; exact nns,fun g hg=>wns _ (by rw [<- hn]; exact List.mem_map_of_mem hg),fun g hg=>?_,hd,fun g hg d hd' z hz=>?_⟩
    .obtain ⟨ds,h1,h2⟩:=ri g hg
     have:=hm ds h1
     have:=h2.len
     omega
    .obtain ⟨ds,h1,h2⟩:=ri g hg
     obtain ⟨_,h3⟩:=h2.mem hd'
     rw [hn]
     exact h3.few.2 z hz
   refine ⟨⟨dx,rfl⟩,x,y,⟨.inl (.inl (SM _ _ (SH _ _ hp))),by omega,gx⟩,x0,xy,Bd.sm (by omega),Bd.sm (by omega),zs,SM _ _ hD,rms,(hR.same mY).same SM,ok,fun H5 kp hh=>?_⟩
   have SS:Same H' H5:=fun b u e=>kp b u (bD e g1) (SM b u e)
   refine q o H5 rms (SH.trans SS) (Same.free SH g1) hh ok ⟨by rw [rl,ln],fun j ds g h1 h2=>?_⟩
   rw [hn]
   exact ((hi j ds g h1 h2).on (mY.trans SS)).up (SH.trans SS)
noncomputable def wsum (gs:List (Str × Int)) (h:Str->Rat):Rat:=(gs.map fun g=>(g.2:Rat) * h g.1).sum
theorem lR {g:Str × Int} {gs:List (Str × Int)} {h:Str->Rat} : wsum (g :: gs) h = (g.2:Rat) * h g.1 + wsum gs h:=rfl
theorem abt {a:Str × Int} {as:List (Str × Int)} {r:Str} {y:Int} (n:a.1 ≠ r):Ac.put (a :: as) r y = a :: Ac.put as r y:=by
 unfold Ac.put
 rw [List.any_cons,decide_eq_false n,Bool.false_or]
 split
 .rw [List.map_cons,if_neg n]
 .rfl
theorem abW {a:Str × Int} {as:List (Str × Int)} {r:Str} {y:Int} (e:a.1 = r) (n:r ∉ as.map (·.1)):Ac.put (a :: as) r y = (a.1,y) :: as:=by
 unfold Ac.put
 rw [List.any_cons,decide_eq_true e,Bool.true_or,if_pos rfl,List.map_cons,if_pos e]
 congr 1
 have:as.map (fun g=>if g.1 = r then (g.1,y) else g) = as.map id:=List.map_congr_left fun g hg=>if_neg fun (z:g.1 = r)=>n (List.mem_map.mpr ⟨g,hg,z⟩)
 rw [this,List.map_id]
theorem YD {a:Str × Int} {as:List (Str × Int)} {r:Str} (n:a.1 ≠ r):Ac.look (a :: as) r = Ac.look as r:=by
 unfold Ac.look
 rw [List.find?_cons,decide_eq_false n]
theorem Zf {a:Str × Int} {as:List (Str × Int)} {r:Str} (e:a.1 = r):Ac.look (a :: as) r = a.2:=by
 unfold Ac.look
 rw [List.find?_cons,decide_eq_true e]; rfl
theorem KZ {h:Str->Rat} {r:Str} {y:Int} : ∀ {as:List (Str × Int)},(as.map (·.1)).Nodup->wsum (Ac.put as r y) h = wsum as h + ((y:Rat) - (Ac.look as r:Rat)) * h r
 | [],_=>by
  show (y:Rat) * h r + 0 = 0 + ((y:Rat) - ((0:Int):Rat)) * h r
  rw [Rat.intCast_zero]
  grind
 | a :: as,nd=>by
  rw [List.map_cons,List.nodup_cons] at nd
  by_cases e:a.1 = r
  .rw [abW e (e ▸ nd.1),Zf e,lR,lR,e]
   grind
  .rw [abt e,YD e,lR,lR,KZ nd.2]
   grind
theorem Gm {h:Str->Rat} : ∀ {gs acc:List (Str × Int)},(acc.map (·.1)).Nodup->wsum (gs.foldl (fun a g=>Ac.put a g.1 (Ac.look a g.1 + g.2)) acc) h = wsum acc h + wsum gs h
 | [],acc,_=>by
  show wsum acc h = wsum acc h + 0
  rw [Rat.add_zero]
 | g :: gs,acc,nd=>by
  rw [List.foldl_cons,Gm (Ac.W6 nd _ _),KZ nd,lR,Rat.intCast_add]
  grind
theorem Rg {h:Str->Rat} {gs:List (Str × Int)} : wsum (Ac.iG gs) h = wsum gs h:=by
 have:=Gm (h:=h) (gs:=gs) (acc:=[]) List.nodup_nil
 have z:wsum [] h = 0:=rfl
 rw [z,Rat.zero_add] at this
 exact this
theorem aaJ {t b:Int} (hb:0 < b):vl (Ac.lw t b) = (t:Rat) / (b:Rat):=aaA (y:=(t,b)) (Ac.jO hb) hb (Ac.zR hb)
noncomputable def tX (ns:List Str) (gs:List (Str × Int)) (S:Int):List (Nat × Int × Int):=(Ac.ways gs S).map fun g=>(ns.idxOf g.1,g.2)
theorem JX {ns:List Str} {S:Int} (hS:0 < S) {G:Nat->Rat} : ∀ {acc:List (Str × Int)},(∀ g ∈ acc,0 <= g.2)->m5 (((acc.filter fun g=>decide (0 < g.2)).map fun g=>(g.1,Ac.lw g.2 S)).map fun g=>(ns.idxOf g.1,g.2)) G = wsum acc (fun n=>G (ns.idxOf n)) / (S:Rat)
 | [],_=>by
  show (0:Rat) = 0 / (S:Rat)
  grind
 | a :: acc,h=>by
  have ih:=JX (ns:=ns) hS (G:=G) (acc:=acc) fun g hg=>h g (aJ _ hg)
  have a0:=h a aO
  have:=kZ hS
  rw [lR,List.filter_cons]
  by_cases e:0 < a.2
  .rw [if_pos (decide_eq_true e),List.map_cons,List.map_cons]
   show vl (Ac.lw a.2 S) * G (ns.idxOf a.1) + m5 _ G = _
   rw [ih,aaJ hS]
   grind
  .rw [if_neg (by simp [e]),ih]
   have z:a.2 = 0:=by omega
   rw [z,Rat.intCast_zero]
   grind
theorem U9 {ns:List Str} {gs:List (Str × Int)} {S:Int} (hS:0 < S) (lo:∀ g ∈ gs,0 <= g.2) {G:Nat->Rat} : m5 (tX ns gs S) G = wsum gs (fun n=>G (ns.idxOf n)) / (S:Rat):=by
 unfold tX Ac.ways
 rw [JX hS fun g hg=>((Ac.ud gs lo).2.2 g hg).1,Rg]
noncomputable def zY (rs:List Nat) (ws:List Int) (S:Int):List (Nat × Int × Int):=List.zipWith (fun r x=>(r,Ac.lw x S)) rs ws
theorem aa8 {ns:List Str} (nd:ns.Nodup) {r:Nat} {m:Str} (h:ns[r]? = some m):ns.idxOf m = r:=by
 have lm:ns.idxOf m < ns.length:=List.idxOf_lt_length_of_mem (aC h)
 have e:ns[ns.idxOf m]? = some m:=by rw [aj lm,List.getElem_idxOf lm]
 exact qg nd e h
theorem Lb {ns:List Str} (nd:ns.Nodup) {S:Int} (hS:0 < S) {G:Nat->Rat} : ∀ {rs:List Nat} {nms:List Str} {ws:List Int},wz ns rs nms->m5 (zY rs ws S) G = wsum (nms.zip ws) (fun n=>G (ns.idxOf n)) / (S:Rat)
 | [],nms,ws,h=>by
  have e:nms = []:=List.eq_nil_of_length_eq_zero h.1
  subst e
  show (0:Rat) = 0 / (S:Rat)
  grind
 | r :: rs,[],_,h=>by cases h.1
 | r :: rs,m :: nms,[],h=>by
  show (0:Rat) = 0 / (S:Rat)
  grind
 | r :: rs,m :: nms,x :: ws,h=>by
  have ih:=Lb nd hS (G:=G) (rs:=rs) (nms:=nms) (ws:=ws) ⟨Nat.succ.inj h.1,fun k r' m' e1 e2=>h.2 (k + 1) r' m' e1 e2⟩
  have e0:=aa8 nd (h.2 0 r m rfl rfl)
  show vl (Ac.lw x S) * G r + m5 (zY rs ws S) G = _
  rw [ih,aaJ hS,List.zip_cons_cons,lR,e0]
  have:=kZ hS
  grind
structure zU (n:Nat) (H:Hp) (d:Addr) (fc:(Int × Int) × List (Nat × Int × Int)):Prop where
 ex:∃ (p lp:Addr) (so S:Int) (rs:List Nat) (ws:List Int) (ps:List V),H d = some (.tup [.int so,.ref p,.ref lp])/\H p = some (.tup [.int fc.1.1,.int fc.1.2])/\H lp = some (.lst ps)/\PI H ps rs ws S/\qC n so rs ws S/\∀ G,m5 fc.2 G = m5 (zY rs ws S) G
theorem zU.same {n:Nat} {H H':Hp} {d:Addr} {fc:(Int × Int) × List (Nat × Int × Int)} (h:zU n H d fc) (S:Same H H'):zU n H' d fc:=by
 obtain ⟨p,lp,so,S',rs,ws,ps,a,b,c,e,f,g⟩:=h.ex
 exact ⟨p,lp,so,S',rs,ws,ps,S _ _ a,S _ _ b,S _ _ c,e.same S,f,g⟩
theorem WF.get {H:Hp} : ∀ {xs:List V} {gs:List (Str × Int × Int)} {ws:List (Str × Addr)} {k:Nat} {g:Str × Addr},WF K H xs gs ws->ws[k]? = some g->∃ x,gs[k]? = some (g.1,x)/\SqT K H g.2 [.int x.1,.int x.2]
 | _,_,_,_,_,.nil,e=>by simp at e
 | _,_,_,0,_,.cons (x:=x) (y:=y) h1 h2 r,e=>by
  rw [List.getElem?_cons_zero] at e
  cases e
  exact ⟨(x,y),rfl,h2⟩
 | _,_,_,k + 1,_,.cons h1 h2 r,e=>by
  rw [List.getElem?_cons_succ] at e ⊢
  exact r.get e
theorem WF.len2 {H:Hp} : ∀ {xs:List V} {gs:List (Str × Int × Int)} {ws:List (Str × Addr)},WF K H xs gs ws->ws.length = gs.length
 | _,_,_,.nil=>rfl
 | _,_,_,.cons _ _ r=>congrArg (· + 1) r.len2
theorem xV.fc {n:Nat} {ns:List Str} {H:Hp} {d:Addr} {g:Dr} (h:xV K n ns H H d g) (nd:ns.Nodup) (ln:ns.length = n):∃ fc:(Int × Int) × List (Nat × Int × Int),DrN K H ns g fc.1 fc.2/\vB n fc.1 fc.2/\zU n H d fc:=by
 have few:=h.few
 obtain ⟨p,lp,so,x,y,S,rs,ws,ps,xs,nms,a1,a2,a3,a4,a5,a6,a7,a8,a9,b⟩:=h.ex
 have lo:∀ z ∈ nms.zip ws,0 <= z.2:=fun z hz=>a7.lo _ (List.of_mem_zip (a:=z.1) (b:=z.2) hz).2
 have sa:=a4.sa
 have sb:=a4.sb
 have S0:=a7.pos
 have S1:=a7.le
 have wl:=b.len2
 have key:∀ z ∈ Ac.ways (nms.zip ws) S,z.1 ∈ ns:=fun z hz=>by
  have hm:z.1 ∈ g.ws.map (·.1):=by rw [b.keys]; exact List.mem_map_of_mem hz
  obtain ⟨u,hu,e⟩:=List.mem_map.mp hm
  rw [<- e]
  exact few.2 u hu
 have fr:∀ z ∈ Ac.ways (nms.zip ws) S,Fq z.2/\z.2.2 ∣ S:=fun z hz=>by
  unfold Ac.ways at hz
  obtain ⟨u,hu,rfl⟩:=List.mem_map.mp hz
  obtain ⟨hu1,hu2⟩:=List.mem_filter.mp hu
  have q:=(Ac.ud _ lo).2.2 u hu1
  have sm:((nms.zip ws).map (·.2)).sum = S:=by
   have:(nms.zip ws).map (·.2) = ws:=List.map_snd_zip (by have:=a8.1; have:=a7.len; omega)
   rw [this]; exact a7.sum
  rw [sm] at q
  have b1:=Ac.Bl u.2 S
  have b2:=Ac.zX u.2 S
  exact ⟨⟨Ac.jO S0,Ac.vH S0,by show (Ac.lw u.2 S).1.natAbs <= _; omega,by show (Ac.lw u.2 S).2.natAbs <= _; omega⟩,Int.ediv_dvd_of_dvd (Int.gcd_dvd_right u.2 S)⟩
 refine ⟨((x,y),tX ns (nms.zip ws) S),⟨by rw [a9]; exact a2,by unfold tX; rw [ak,wl],fun k u c e1 e2=>?_⟩,⟨⟨a3,aM sa (by decide),?_⟩,?_,fun c hc=>?_,?_⟩,⟨p,lp,so,S,rs,ws,ps,a1,a2,a5,a6,a7,fun G=>?_⟩⟩
 .obtain ⟨z,ez,hz⟩:=b.get e1
  unfold tX at e2
  rw [au,ez] at e2
  cases e2
  have lm:ns.idxOf u.1 < ns.length:=List.idxOf_lt_length_of_mem (few.2 u (aC e1))
  exact ⟨by rw [aj lm,List.getElem_idxOf lm],hz⟩
 .unfold Bn
  have:(10:Nat) ^ 40 = 10 ^ 3 * 10 ^ 37:=by decide
  show y.natAbs <= _
  omega
 .unfold tX
  rw [ak,<- wl]
  have:=few.1
  omega
 .unfold tX at hc
  obtain ⟨z,hz,rfl⟩:=List.mem_map.mp hc
  exact ⟨by rw [<- ln]; exact List.idxOf_lt_length_of_mem (key z hz),(fr z hz).1⟩
 .have dv:lvB (chF (tX ns (nms.zip ws) S)) ∣ S.natAbs:=Lv.K3.mpr fun c hc=>by
   unfold Ls chF tX at hc
   obtain ⟨f,hf,rfl⟩:=List.mem_map.mp hc
   obtain ⟨c2,hc2,rfl⟩:=List.mem_map.mp hf
   obtain ⟨z,hz,rfl⟩:=List.mem_map.mp hc2
   exact Int.natAbs_dvd_natAbs.mpr (fr z hz).2
  have le:=Nat.le_of_dvd (by omega) dv
  unfold Bn
  rw [Int.natAbs_natCast]
  show lvB (chF (tX ns (nms.zip ws) S)) <= _
  have:(10:Nat) ^ 20 <= 10 ^ 60:=by decide
  omega
 .show m5 (tX ns (nms.zip ws) S) G = _
  rw [U9 S0 lo,Lb nd S0 a8]
theorem rQ {α β:Type} : ∀ {l:List α} {P:Nat->α->β->Prop},(∀ k a,l[k]? = some a->∃ b,P k a b)->∃ m:List β,m.length = l.length/\∀ k a b,l[k]? = some a->m[k]? = some b->P k a b
 | [],_,_=>⟨[],rfl,fun k a b e=>by simp at e⟩
 | a :: l,P,h=>by
  obtain ⟨b,hb⟩:=h 0 a rfl
  obtain ⟨m,lm,hm⟩:=rQ (l:=l) (P:=fun k=>P (k + 1)) fun k a e=>h (k + 1) a e
  refine ⟨b :: m,congrArg (· + 1) lm,fun k a' b' e1 e2=>?_⟩
  cases k with
  | zero =>
   cases e1
   cases e2
   exact hb
  | succ k=>exact hm k a' b' e1 e2
theorem ux.fcs {n:Nat} {ns:List Str} {H:Hp} {ds:List Addr} {gs:List Dr} (h:ux K n ns H H ds gs) (nd:ns.Nodup) (ln:ns.length = n):∃ fcs:List ((Int × Int) × List (Nat × Int × Int)),Td K H ns n gs fcs/\fcs.length = ds.length/\∀ (k:Nat) d fc,ds[k]? = some d->fcs[k]? = some fc->zU n H d fc:=by
 obtain ⟨m,lm,hm⟩:=rQ (l:=ds) (P:=fun k d (fc:(Int × Int) × List (Nat × Int × Int))=>∀ g,gs[k]? = some g->DrN K H ns g fc.1 fc.2/\vB n fc.1 fc.2/\zU n H d fc) fun k d e=>by
  have lk:k < gs.length:=by rw [h.len]; exact (ao.mp e).1
  obtain ⟨fc,p⟩:=(h.at_ k d _ e (aj lk)).fc nd ln
  exact ⟨fc,fun g eg=>by rw [aj lk] at eg; cases eg; exact p⟩
 refine ⟨m,⟨by rw [h.len,lm],fun k d fc e1 e2=>?_⟩,lm,fun k d fc e1 e2=>?_⟩
 .have lk:k < ds.length:=by rw [<- lm]; exact (ao.mp e2).1
  obtain ⟨a,b,_⟩:=hm k _ fc (aj lk) e2 d e1
  exact ⟨a,b⟩
 .have lk:k < gs.length:=by rw [h.len]; exact (ao.mp e1).1
  exact (hm k d fc e1 e2 _ (aj lk)).2.2
theorem Sw {K:Frag} {tl te:TE} {σ:L2.St} {H:Hp} {Q:VK} (vs:List V) (h:tl σ H fun x H1=>∃ a xs,x = .ref a/\H1 a = some (.lst xs)/\xs.length = vs.length/\vs.length <= sizeLine/\(∀ (k:Nat) x y Hc (R:VK),xs[k]? = some x->vs[k]? = some y->Same H1 Hc->(∀ H2,Same Hc H2->R y H2)->te (some x :: σ) Hc R) /\
  ∀ D Hc,Same H1 Hc->H1 D = none->Hc D = some (.lst vs)->Q (.ref D) Hc) (mono:∀ {σ H} {R R':VK},(∀ v H,R v H->R' v H)->tl σ H R->tl σ H R'):jK (Dt K (tM tl)) 1 (tMG (cN 0)) (tMT Jt) (tM te) σ H Q:=by
 refine c7 (mono (fun x H1 ⟨a,xs,e,ha,l,sz,hb,q⟩=>⟨a,xs,e,ha,by omega,fun D hD=>⟨vJ D H1 vs,⟨Same.upd hD,bH,rfl⟩,fun k x ys Hc hk j hy hc=>?_,fun ys Hc ⟨S1,h1,ey⟩ hy=>?_⟩⟩) h)
 .have lk:k < vs.length:=by rw [<- l]; exact (ao.mp hk).1
  exact hb k x _ Hc _ hk (aj lk) j.1 fun H2 S=>⟨S _ _ j.2.1,S _ _ hc,j.next hD S (aj lk)⟩
 .rw [l,aP] at ey
  subst ey
  exact q D Hc S1 hD h1
theorem Ui {i:Nat} {σ:L2.St} {H:Hp} {R R':VK} (h:∀ v H,R v H->R' v H):Df i σ H R->Df i σ H R':=fun ⟨v,a,b⟩=>⟨v,a,h _ _ b⟩
theorem Vu {K:Frag} {i:Nat} {te:TE} {σ:L2.St} {H:Hp} {Q:VK} {a:Addr} {xs:List V} (vs:List V) (hσ:σ[i]? = some (some (.ref a))) (ha:H a = some (.lst xs)) (l:xs.length = vs.length) (sz:vs.length <= sizeLine) (hb:∀ (k:Nat) x y Hc (R:VK),xs[k]? = some x->vs[k]? = some y->Same H Hc->(∀ H2,Same Hc H2->R y H2)->te (some x :: σ) Hc R)
  (q:∀ D Hc,Same H Hc->H D = none->Hc D = some (.lst vs)->Q (.ref D) Hc):jK (Dt K (tM (Df i))) 1 (tMG (cN 0)) (tMT Jt) (tM te) σ H Q:=Sw vs ⟨_,hσ,a,xs,rfl,ha,l,sz,hb,q⟩ Ui
noncomputable def Lg (dss:List (List Addr)) (ps:List (Option Nat)):Prop:=ps.length = dss.length/\∀ (k:Nat) ds o,dss[k]? = some ds->ps[k]? = some o->nG (stV o) ds.length = true
noncomputable def yL:Sp:=fun vs H Q _=>∃ (c:Int) (r:Addr) (xs:List V) (n:Nat) (dss:List (List Addr)),vs = [.int c,.ref r]/\H r = some (.lst xs)/\RD n H xs dss/\dss.length <= 12/\(∀ ds ∈ dss,ds.length <= 100)/\∀ l ps H',Same H H'->H l = none->H' l = some (.lst (ps.map stV))->Lg dss ps->Q (.ref l) H'
theorem Wy {k m:Nat} (h:k < m):nG (stV (some k)) m = true:=by
 unfold nG
 rw [if_neg (by omega)]
 show (decide ((0:Int) <= (k:Nat)) && decide (((k:Nat):Int) < m)) = true
 rw [decide_eq_true (by omega),decide_eq_true (by omega)]; rfl
theorem RQ (F:Fun K pZ pZ Cz f fd) (T:Txt K mg D) (cT:OkF P w K mg base 1 eX eV dY):cD P w K mg base CX0 2 f fd pR yL:=by
 refine F.ok uT (fun vs H Q E h=>?_) (fun cdv A outer s H vs Q E hr h=>?_)
 .obtain ⟨c,r,xs,n,dss,rfl,_⟩:=h
  rfl
 .obtain ⟨c,r,xs,n,dss,rfl,hr',rd,n12,dm,q⟩:=h
  have xl:=rd.len
  have z9:100 < sizeLine:=by decide
  refine ⟨_,(bK (bZ (i:=2) uT.nd rfl (Or.inl rfl) (bN cT (hr.mono (by decide)) (by rfl) (bC (pv 0) (bC (b_ cJ (by rfl) T.eN PySem.boot_len (bC (pv 1) bG)) bG))))
   (bK (bZ (i:=3) uT.nd rfl (Or.inl rfl) (fK bG))
   (bK (jo PassesOwn.never rfl (fV (by rfl) T.kE (bC (b_ cJ (by rfl) T.eN PySem.boot_len (bC (pv 1) bG)) bG).mono) (cI (i:=4) uT.nd rfl (Or.inl rfl))
    (bL (cQ (cA iI (b_ cJ (by rfl) T.eN PySem.boot_len (bC (bR bO (pv 1) (pv 4) (fun _ _=>rfl)) bG)) bF (cC _))
     (bL (cU (pq (pv 3) (bC lg bG))))
     (bL (cU (pq (pv 3) (bC (bQ iW (bR bO (pv 2) (pv 4) (fun _ _=>rfl)) (b_ cJ (by rfl) T.eN PySem.boot_len (bC (bR bO (pv 1) (pv 4) (fun _ _=>rfl)) bG))) bG)))))))
   (bL (cg (pv 3)))))),?_⟩
  refine bV fun R1 hR1=>?_
  refine cL ⟨_,rfl,_,rfl,r,xs,rfl,hr',c,dss.length,by rw [xl],by omega,fun l ys H1 S1 fl hl ln hx=>?_⟩
  subst hR1
  refine bV fun R1 hR1=>?_
  refine cL ⟨bw _,fun D1 H2 S2 f2 h2=>?_⟩
  subst hR1
  refine bV fun R1 hR1=>?_
  have S12:=S1.trans S2
  have g1:=Same.free S1 f2
  dsimp only [cN,L2.start]
  refine cZ (qj ⟨_,rfl,r,xs,rfl,S12 _ _ hr',dss.length,by rw [xl],by omega,fun k σ H'=>∃ u ps,σ = [some (.int c),some (.ref r),some (.ref l),some (.ref D1),u]/\Same H H'/\H' l = some (.lst (ys.map V.int))/\H' D1 = some (.lst (ps.map stV))/\Lg (dss.take k) ps,⟨none,[],rfl,S12,S2 _ _ hl,h2,rfl,fun k ds o e=>by cases e⟩,?_,?_⟩)
  .rintro k σ' H' hk ⟨u,ps,rfl,S3,hl3,h3,pf⟩
   have ek:dss[k]? = some dss[k]:=aj hk
   obtain ⟨ld,ex,hld,dd⟩:=rd.at_ k _ ek
   have dk:=dm _ (aV hk)
   have plen:ps.length = k:=by rw [pf.1,bh]; omega
   have hld3:=S3 _ _ hld
   have fin:∀ (o:Option Nat) (H4:Hp),Same H' H4->nG (stV o) dss[k].length = true->∃ u' ps',[some (V.int c),some (V.ref r),some (V.ref l),some (V.ref D1),some (V.int (k:Nat))] = [some (.int c),some (.ref r),some (.ref l),some (.ref D1),u']/\Same H (upd H4 D1 (.lst (ps.map stV ++ [stV o])))/\upd H4 D1 (.lst (ps.map stV ++ [stV o])) l = some (.lst (ys.map V.int))/\upd H4 D1 (.lst (ps.map stV ++ [stV o])) D1 = some (.lst (ps'.map stV))/\Lg (dss.take (k + 1)) ps':=fun o H4 S4 ft=>by
    have nl:l ≠ D1:=bD hl f2
    refine ⟨_,ps ++ [o],rfl,fun b u e=>(bI (bD e g1)).trans (S4 _ _ (S3 _ _ e)),(bI nl).trans (S4 _ _ hl3),by rw [bH,bA]; rfl,?_,fun j ds o' e1 e2=>?_⟩
    .rw [aB,plen,bh]
     show k + 1 = _
     omega
    .rw [cH ek] at e1
     have l1:(dss.take k).length = k:=by rw [bh]; omega
     by_cases jk:j < k
     .rw [aF (by omega)] at e1 e2
      exact pf.2 j ds o' e1 e2
     .have:j = k:=by
       have:=(ao.mp e1).1
       rw [aB,l1] at this
       simp at this
       omega
      subst this
      rw [aD (by omega),l1,Nat.sub_self] at e1
      rw [aD (by omega),plen,Nat.sub_self] at e2
      cases e1
      cases e2
      exact ft
   refine M4 ⟨_,rfl,_,rfl,r,xs,(k:Nat),_,rfl,rfl,S3 _ _ hr',bU (j:=k) ex,ld,_,rfl,hld3,rfl,decide (dss[k].length = 0),?_,?_⟩
   .rw [ak]
    exact congrArg V.bl (decide_eq_decide.mpr ⟨fun z=>by injection z with z; omega,fun z=>by rw [z]; rfl⟩)
   by_cases d0:dss[k].length = 0
   .rw [decide_eq_true d0]
    exact ⟨_,rfl,D1,_,rfl,h3,_,_,rfl,h3,by rw [ak]; omega,fin none H' (fun _ _ z=>z) (by rw [d0]; rfl)⟩
   .rw [decide_eq_false d0]
    have lk:k < ys.length:=by omega
    have ey:(ys.map V.int)[k]? = some (.int ys[k]):=by rw [au,aj lk]; rfl
    have m0:0 <= ys[k] % (dss[k].length:Int):=Int.emod_nonneg _ (by omega)
    have m1:ys[k] % (dss[k].length:Int) < dss[k].length:=Int.emod_lt_of_pos _ (by omega)
    have em:ys[k].fmod ((dss[k].map V.ref).length:Nat) = ((ys[k] % (dss[k].length:Int)).toNat:Nat):=by rw [ak,aX _ (by omega)]; omega
    refine ⟨_,rfl,D1,_,rfl,h3,_,rfl,_,rfl,l,_,(k:Nat),_,rfl,rfl,hl3,bU (j:=k) ey,_,rfl,_,rfl,r,xs,(k:Nat),_,rfl,rfl,S3 _ _ hr',bU (j:=k) ex,ld,_,rfl,hld3,_,_,rfl,rfl,by rw [ak]; omega,_,_,rfl,h3,by rw [ak]; omega,?_⟩
    dsimp only
    rw [em]
    exact fin (some _) H' (fun _ _ z=>z) (Wy (by omega))
  .rintro σ' H' ⟨u,ps,rfl,S3,hl3,h3,pf⟩
   rw [aP] at pf
   subst hR1
   exact ⟨_,rfl,q D1 ps H' S3 g1 h3 pf⟩
noncomputable def Nb:Sp:=fun vs H Q _=>∃ (c:Int) (m:Nat),vs = [.int c,.int m]/\∀ v H',Same H H'->Odd H' v->nG v m = false->Q v H'
theorem tu {v:V} {m:Nat} (h:m ≠ 0) (n:∀ i,v = .int i->i < 0\/(m:Int) <= i):nG v m = false:=by
 unfold nG
 rw [if_neg h]
 cases v with
 | int i =>
  show (decide (0 <= i) && decide (i < m)) = false
  rcases n i rfl with z | z
  .rw [decide_eq_false (by omega)]; rfl
  .rw [decide_eq_false (show ¬ i < (m:Int) by omega),Bool.and_false]
 | _=>rfl
theorem aa0 (F:Fun K CT CT Vh f fd) (T:Txt K mg D):cD P w K mg base CX0 1 f fd BX Nb:=by
 refine F.ok ab3 (fun vs H Q E h=>?_) (fun cdv A outer s H vs Q E hr h=>?_)
 .obtain ⟨c,m,rfl,_⟩:=h
  rfl
 .obtain ⟨c,m,rfl,q⟩:=h
  refine ⟨_,(bK (cQ (cA iI (pv 1) bF (cC _))
    (bL (cg (bR bO (fK (bC bF (bC jY (bC jq (bC (Gb yX bF) (bC (fK bG) (bC (qU (bC bF (bC bF bG))) bG))))))) (bQ cR (pv 0) bF) (fun _ _=>rfl))))
    cj)
   (bL (cg (bR bO (fK (bC lg (bC (Gb yX bF) (bC (pv 1) (bC jY (bC jY (bC jq (bC (fK (bC bF bG)) (bC (bQ cV (pv 1) (bQ JR bF bF)) bG))))))))) (bQ cR (pv 0) bF) (fun _ _=>rfl))))),?_⟩
  refine bV fun R1 hR1=>?_
  refine cZ ⟨_,rfl,rfl,decide (m = 0),congrArg V.bl (decide_eq_decide.mpr ⟨fun z=>by injection z with z; omega,fun z=>by rw [z]; rfl⟩),?_⟩
  have l8:∀ n,n <= 8->n <= sizeLine:=fun n h=>aM h (by decide)
  by_cases m0:m = 0
  .rw [decide_eq_true m0]
   subst m0
   have nf:∀ v,v ≠ .non->nG v 0 = false:=fun v h=>decide_eq_false h
   refine ⟨1,rfl,bw _,fun p1 H1 S1 f1 h1=>⟨dR,fun p2 H2 S2 f2 h2=>⟨l8 6 (by decide),fun p3 H3 S3 f3 h3=>⟨_,rfl,c,6,rfl,rfl,(show (0:Int) < 6 by decide),?_⟩⟩⟩⟩
   have SS:=S1.trans (S2.trans S3)
   have k1:=S3 _ _ (S2 _ _ h1)
   have k2:=S3 _ _ h2
   obtain ⟨j,ej,lj⟩ : ∃ j:Nat,c % 6 = j/\j < 6:=⟨(c % 6).toNat,by omega,by omega⟩
   dsimp only
   rw [ej]
   match j,lj with
   | 0,_=>exact ⟨p3,_,_,_,rfl,rfl,h3,bU (j:=0) rfl,q _ _ SS ⟨_,rfl⟩ (nf _ (by simp))⟩
   | 1,_=>exact ⟨p3,_,_,_,rfl,rfl,h3,bU (j:=1) rfl,q _ _ SS ⟨_,rfl⟩ (nf _ (by simp))⟩
   | 2,_=>exact ⟨p3,_,_,_,rfl,rfl,h3,bU (j:=2) rfl,q _ _ SS ⟨_,rfl⟩ (nf _ (by simp))⟩
   | 3,_=>exact ⟨p3,_,_,_,rfl,rfl,h3,bU (j:=3) rfl,q _ _ SS ⟨_,rfl⟩ (nf _ (by simp))⟩
   | 4,_=>exact ⟨p3,_,_,_,rfl,rfl,h3,bU (j:=4) rfl,q _ _ SS ⟨"list",nq k1⟩ (nf _ (by simp))⟩
   | 5,_=>exact ⟨p3,_,_,_,rfl,rfl,h3,bU (j:=5) rfl,q _ _ SS ⟨"tuple",by unfold tyS; dsimp only; rw [k2]⟩ (nf _ (by simp))⟩
   | j + 6,lj=>omega
  .rw [decide_eq_false m0]
   show R1 _ _ _
   subst hR1
   refine gB ⟨1,rfl,_,rfl,PK,fun p1 H1 S1 f1 h1=>⟨_,rfl,10,30,rfl,rfl,YK (by decide) (by decide),_,_,rfl,rfl,l8 8 (by decide),fun p3 H3 S3 f3 h3=>⟨_,rfl,c,8,rfl,rfl,(show (0:Int) < 8 by decide),?_⟩⟩⟩
   have SS:=S1.trans S3
   have k1:=S3 _ _ h1
   obtain ⟨j,ej,lj⟩ : ∃ j:Nat,c % 8 = j/\j < 8:=⟨(c % 8).toNat,by omega,by omega⟩
   dsimp only
   rw [ej]
   match j,lj with
   | 0,_=>exact ⟨p3,_,_,_,rfl,rfl,h3,bU (j:=0) rfl,q _ _ SS ⟨_,rfl⟩ (tu m0 fun i z=>by cases z)⟩
   | 1,_=>exact ⟨p3,_,_,_,rfl,rfl,h3,bU (j:=1) rfl,q _ _ SS ⟨_,rfl⟩ (tu m0 fun i z=>by cases z; exact .inl (by decide))⟩
   | 2,_=>exact ⟨p3,_,_,_,rfl,rfl,h3,bU (j:=2) rfl,q _ _ SS ⟨_,rfl⟩ (tu m0 fun i z=>by cases z; exact .inr (Int.le_refl _))⟩
   | 3,_=>exact ⟨p3,_,_,_,rfl,rfl,h3,bU (j:=3) rfl,q _ _ SS ⟨_,rfl⟩ (tu m0 fun i z=>by cases z)⟩
   | 4,_=>exact ⟨p3,_,_,_,rfl,rfl,h3,bU (j:=4) rfl,q _ _ SS ⟨_,rfl⟩ (tu m0 fun i z=>by cases z)⟩
   | 5,_=>exact ⟨p3,_,_,_,rfl,rfl,h3,bU (j:=5) rfl,q _ _ SS ⟨_,rfl⟩ (tu m0 fun i z=>by cases z)⟩
   | 6,_=>exact ⟨p3,_,_,_,rfl,rfl,h3,bU (j:=6) rfl,q _ _ SS ⟨"list",nq k1⟩ (tu m0 fun i z=>by cases z)⟩
   | 7,_=>exact ⟨p3,_,_,_,rfl,rfl,h3,bU (j:=7) rfl,q _ _ SS ⟨_,rfl⟩ (tu m0 fun i z=>by injection z with z; subst z; exact .inr (by show (m:Int) <= m + 10 ^ 30; omega))⟩
   | j + 8,lj=>omega
theorem M6 {te:TE} {g:TG} {D:Ends} {σ:L2.St} {H:Hp} (h:te σ H fun x H1=>g x σ H1 D.nx):El te g D σ H:=h
theorem QL {n k:Nat} (h:k < n):ixN n (k:Int) = some k:=by
 unfold ixN
 rw [if_pos (by omega),if_pos (by omega),Int.toNat_natCast]
noncomputable def Hr (n:Nat) (H:Hp) (v:V):Prop:=Odd H v/\∀ l xs,v = .ref l->H l = some (.lst xs)->xs.length ≠ n
theorem Hr.same {n:Nat} {H H':Hp} {v:V} (h:Hr n H v) (S:Same H H'):Hr n H' v:=by
 obtain ⟨⟨t,et⟩,nl⟩:=h
 refine ⟨⟨t,C_ S et⟩,fun l xs e hl=>?_⟩
 subst e
 by_cases z:∃ o,H l = some o
 .obtain ⟨o,ho⟩:=z
  have:=S _ _ ho
  rw [hl] at this
  cases this
  exact nl l xs rfl ho
 .cases eo:H l with
  | none =>
   unfold tyS at et
   dsimp only at et
   rw [eo] at et
   cases et
  | some o=>exact absurd ⟨o,eo⟩ z
theorem xH {n:Nat} {H:Hp} {v:V} {t:String} (h:tyS H v = some t) (nr:∀ l,v ≠ .ref l):Hr n H v:=⟨⟨t,h⟩,fun l xs e=>absurd e (nr l)⟩
theorem wJ {n:Nat} {H:Hp} {l:Addr} {xs:List V} (h:H l = some (.lst xs)) (nl:xs.length ≠ n):Hr n H (.ref l):=⟨⟨_,nq h⟩,fun l' xs' e h'=>by
 cases e
 rw [h] at h'
 cases h'
 exact nl⟩
theorem Yh {n:Nat} {H:Hp} {l:Addr} {xs:List V} (h:H l = some (.tup xs)):Hr n H (.ref l):=⟨⟨"tuple",by unfold tyS; dsimp only; rw [h]⟩,fun l' xs' e h'=>by
 cases e
 rw [h] at h'
 cases h'⟩
noncomputable def yP:Sp:=fun vs H Q _=>∃ (c:Int) (l r:Addr) (ps:List (Option Nat)) (xs:List V) (n:Nat) (dss:List (List Addr)),vs = [.int c,.ref l,.ref r]/\H l = some (.lst (ps.map stV))/\H r = some (.lst xs)/\RD n H xs dss/\Lg dss ps/\dss.length <= 12 /\
 ∀ t H' w v,Same H H'->H' t = some (.tup [w,v])->Odd H' v->((w = .non/\Hr dss.length H' v)\/∃ (k:Nat) (l2:Addr) (ys:List V) (x:V),w = .int (k:Nat)/\v = .ref l2/\H' l2 = some (.lst ys)/\ys.length = dss.length/\(∀ y ∈ ys,Odd H' y)/\ys[k]? = some x/\(∀ ds,dss[k]? = some ds->nG x ds.length = false)/\∀ j y ds,j < k->ys[j]? = some y->dss[j]? = some ds->nG y ds.length = true)->Q (.ref t) H'
theorem Va {ys:List V} (h:1 <= ys.length):gU ys none (some (-1)) = ys.take (ys.length - 1):=by
 unfold gU
 have e:HT.sIx ys.length ys.length (some (-1)) = ys.length - 1:=by
  unfold HT.sIx
  simp
  omega
 rw [e]
 show ((ys.drop 0).take (ys.length - 1 - 0)) = _
 rw [List.drop_zero,Nat.sub_zero]
theorem U4 {ys:List V} {n:Nat} (h:n <= ys.length):gU ys (some (n:Int)) none = ys.drop n:=by
 unfold gU
 rw [HT.nQ,Nat.min_eq_left h]
 exact aL (by rw [List.length_drop]; exact aG _)
theorem Ub {c:TT} {t u:TS} {D:Ends} {σ:L2.St} {H:Hp} (h:∀ t',t' = t->z8 c t' u D σ H):z8 c t u D σ H:=h t rfl
theorem aaO {t u:TT} {σ:L2.St} {H:Hp} {Q:Bool->Hp->Prop} (h:t σ H fun c H1=>if c = true then Q true H1 else u σ H1 Q):tOr t u σ H Q:=h
theorem Ig {H:Hp} {a:Addr} {xs ys:List V} {v:V} (h:Odd H v) (ha:H a = some (.lst xs)):Odd (upd H a (.lst ys)) v:=by
 obtain ⟨t,et⟩:=h
 cases v with
 | ref b =>
  by_cases e:b = a
  .subst e; exact ⟨_,nq bH⟩
  .refine ⟨t,?_⟩
   unfold tyS at et ⊢
   dsimp only at et ⊢
   rw [bI e]
   exact et
 | _=>exact ⟨t,et⟩
theorem aas {α:Type} : ∀ {l:List α},l.length = 5->∃ a b c d e,l = [a,b,c,d,e]
 | [a,b,c,d,e],_=>⟨a,b,c,d,e,rfl⟩
theorem RB (F:Fun K pW pW BJ f fd) (T:Txt K mg D) (cT:OkF P w K mg base 1 eX eV dY) (QK:OkF P w K mg base 1 CT BX Nb):cD P w K mg base CX0 2 f fd pX yP:=by
 refine F.ok lQ (fun vs H Q E h=>?_) (fun cdv A outer s H vs Q E hr h=>?_)
 .obtain ⟨c,l,r,ps,xs,n,dss,rfl,_⟩:=h
  rfl
 .obtain ⟨c,l,r,ps,xs,n,dss,rfl,hl,hr',rd,pf,n12,q⟩:=h
  have xl:=rd.len
  have pl:=pf.1
  have z9:100 < sizeLine:=by decide
  refine ⟨_,(bK (bZ (i:=3) lQ.nd rfl (Or.inl rfl) (bN cT (hr.mono (by decide)) (by rfl) (bC (pv 0) (bC bF bG))))
   (bK (cQ (PW.pt (pw_or (cA iI (bQ cR (bR bO (pv 3) bF (fun _ _=>rfl)) bF) bF (cC _)) (pw_or1 (cA iI (b_ cJ (by rfl) T.eN PySem.boot_len (bC (pv 2) bG)) bF (cC _)))))
    (bK (bZ (i:=7) lQ.nd rfl (Or.inl rfl) (fK (bC lg (bC (gP SN (by rfl) T.QJ boot_tuple (bC (pv 1) bG)) (bC (bQ Jf (pv 1) (fK (bC lg bG))) (bC (bQ Jf (pv 1) (fK (bC bF bG))) (bC jq (bC bF (bC jY bG)))))))))
    (bK (cQ (cA Q6 (b_ cJ (by rfl) T.eN PySem.boot_len (bC (pv 1) bG)) bF (cC _))
     (bL (bZ (i:=7) lQ.nd rfl (Or.inl rfl) (bQ Jf (pv 7) (fK (bC (iM Du (pv 1) (fL bF) uM) (bC (iM Du (pv 1) uM (fL (Gb yX bF))) (bC (fK bG) bG)))))))
     cj)
    (bL (cg (qU (bC lg (bC (bR bO (pv 7) (bQ iW (bR bO (pv 3) bF (fun _ _=>rfl)) (b_ cJ (by rfl) T.eN PySem.boot_len (bC (pv 7) bG))) (fun _ _=>rfl)) bG)))))))
    cj)
   (bK (bZ (i:=4) lQ.nd rfl (Or.inl rfl) (bQ iW (bR bO (pv 3) bF (fun _ _=>rfl)) (b_ cJ (by rfl) T.eN PySem.boot_len (bC (pv 2) bG))))
   (bK (bZ (i:=5) lQ.nd rfl (Or.inl rfl) (bQ cV (bQ cV (pv 4) bF) (bQ iW (bR bO (pv 3) bF (fun _ _=>rfl)) (b_ cJ (by rfl) T.eN PySem.boot_len (bC (pv 2) bG)))))
   (bK (bZ (i:=6) lQ.nd rfl (Or.inl rfl) (gP lY (by rfl) T.pQ boot_list (bC (pv 1) bG)))
   (bK (rP (bN QK (hr.mono (by decide)) (by rfl) (bC (bR bO (pv 3) bF (fun _ _=>rfl)) (bC (b_ cJ (by rfl) T.eN PySem.boot_len (bC (bR bO (pv 2) (pv 4) (fun _ _=>rfl)) bG)) bG))) (Nt (pv 6) (pv 4) set_list))
   (bK (cQ (cA tG (pv 5) (b_ cJ (by rfl) T.eN PySem.boot_len (bC (pv 2) bG)) (cC _))
    (bL (rP (bN QK (hr.mono (by decide)) (by rfl) (bC (bR bO (pv 3) bF (fun _ _=>rfl)) (bC (b_ cJ (by rfl) T.eN PySem.boot_len (bC (bR bO (pv 2) (pv 5) (fun _ _=>rfl)) bG)) bG))) (Nt (pv 6) (pv 5) set_list)))
    cj)
   (bL (cg (qU (bC (pv 4) (bC (pv 6) bG)))))))))))),?_⟩
  refine bV fun R1 hR1=>?_
  refine cL ⟨_,rfl,c,5,rfl,by decide,fun ls ys H1 S1 fl hs ln hx=>?_⟩
  obtain ⟨y0,y1,y2,y3,y4,rfl⟩:=aas ln
  dsimp only [cN,L2.start]
  subst hR1
  refine bV fun R1 hR1=>?_
  have hl1:=S1 _ _ hl
  have hr1:=S1 _ _ hr'
  have rest:y0 % 3 ≠ 0->dss.length ≠ 0->R1 { nx:=fun x H'=>Q V.non H',rt:=Q } [some (.int c),some (.ref l),some (.ref r),some (.ref ls),none,none,none,none] H1:=fun _ dn=>by
   subst hR1
   have mo:∀ y:Int,∃ k:Nat,y.fmod (xs.length:Nat) = (k:Nat)/\k < dss.length:=fun y=>by
    have m0:0 <= y % (dss.length:Int):=Int.emod_nonneg _ (by omega)
    have m1:y % (dss.length:Int) < dss.length:=Int.emod_lt_of_pos _ (by omega)
    exact ⟨(y % (dss.length:Int)).toNat,by rw [xl,aX _ (by omega)]; omega,by omega⟩
   obtain ⟨k,ek,lk⟩:=mo y1
   obtain ⟨k2,ek2,_⟩:=mo y2
   refine bV fun R1 hR1=>?_
   refine cL ⟨_,rfl,ls,_,1,_,rfl,rfl,hs,cX,_,rfl,r,xs,rfl,hr1,y1,_,rfl,rfl,by omega,?_⟩
   dsimp only [cN,List.set_cons_succ,List.set_cons_zero]
   rw [ek]
   subst hR1
   refine bV fun R1 hR1=>?_
   refine cL ⟨_,rfl,_,_,rfl,rfl,_,rfl,ls,_,2,_,rfl,rfl,hs,bU (j:=2) rfl,_,rfl,r,xs,rfl,hr1,y2,_,rfl,rfl,by omega,_,_,rfl,rfl,?_⟩
   dsimp only [cN,List.set_cons_succ,List.set_cons_zero]
   rw [ek2]
   subst hR1
   refine bV fun R1 hR1=>?_
   refine cL ⟨_,rfl,l,_,rfl,hl1,fun f1 H2 S2 f2 h2=>?_⟩
   dsimp only [cN,List.set_cons_succ,List.set_cons_zero]
   subst hR1
   refine bV fun R1 hR1=>?_
   have S12:=S1.trans S2
   have g1:=Same.free S1 f2
   have ekd:dss[k]? = some dss[k]:=aj lk
   obtain ⟨ld,ex,hld,_⟩:=rd.at_ k _ ekd
   refine cZ (M6 ⟨_,rfl,ls,_,3,_,rfl,rfl,S2 _ _ hs,bU (j:=3) rfl,_,rfl,_,rfl,r,xs,(k:Nat),_,rfl,rfl,S2 _ _ hr1,bU (j:=k) ex,ld,_,rfl,S12 _ _ hld,y3,dss[k].length,by rw [ak],fun v H3 S3 ov nf=>⟨_,rfl,_,rfl,f1,_,_,k,rfl,rfl,S3 _ _ h2,QL (by rw [ak]; omega),?_⟩⟩)
   have h3:=S3 _ _ h2
   have SH:Same H (upd H3 f1 (.lst ((ps.map stV).set k v))):=fun b o e=>(bI (bD e g1)).trans (S3 _ _ (S12 _ _ e))
   have ov':=Ig (ys:=(ps.map stV).set k v) ov h3
   have hf:upd H3 f1 (.lst ((ps.map stV).set k v)) f1 = _:=bH
   have hls:upd H3 f1 (.lst ((ps.map stV).set k v)) ls = _:=(bI (bD hs f2)).trans (S3 _ _ (S2 _ _ hs))
   generalize upd H3 f1 (.lst ((ps.map stV).set k v)) = H4 at SH ov' hf hls ⊢
   subst hR1
   dsimp only [List.set_cons_succ,List.set_cons_zero]
   refine bV fun R1 hR1=>?_
   have fin:∀ (ys:List V) (H9:Hp),Same H H9->H9 f1 = some (.lst ys)->ys.length = dss.length->(∀ y ∈ ys,Odd H9 y)->ys[k]? = some v->(∀ j,j < k->ys[j]? = (ps.map stV)[j]?)->R1 { nx:=fun x H'=>Q V.non H',rt:=Q } [some (.int c),some (.ref l),some (.ref r),some (.ref ls),some (.int (k:Nat)),some (.int ((k:Int) + 1 + (k2:Nat))),some (.ref f1),none] H9:=fun ys H9 S9 h9 yl oy yk yj=>by
    subst hR1
    refine gB ⟨_,rfl,_,rfl,dR,fun t H' S' ft et=>?_⟩
    refine q t H' _ _ (S9.trans S') et ⟨_,nq (S' _ _ h9)⟩ (.inr ⟨k,f1,ys,v,rfl,rfl,S' _ _ h9,yl,fun y hy=>(oy y hy).same S',yk,fun ds e=>by rw [ekd] at e; cases e; exact nf,fun j y ds hj ey ed=>?_⟩)
    rw [yj j hj,au] at ey
    cases eo:ps[j]? with
    | none=>rw [eo] at ey; cases ey
    | some o =>
     rw [eo] at ey
     cases ey
     exact pf.2 j ds o ed eo
   have pk:k < (ps.map stV).length:=by rw [ak,pl]; exact lk
   have oset:∀ (H9:Hp) (zs:List V) (j:Nat) (u:V),(∀ y ∈ zs,Odd H9 y)->Odd H9 u->∀ y ∈ zs.set j u,Odd H9 y:=fun H9 zs j u h1 h2 y hy=>by
    rcases List.mem_or_eq_of_mem_set hy with h | h
    .exact h1 y h
    .rw [h]; exact h2
   have o1:∀ y ∈ (ps.map stV).set k v,Odd H4 y:=oset _ _ _ _ (fun y hy=>by
    obtain ⟨o,_,rfl⟩:=List.mem_map.mp hy
    cases o <;> exact ⟨_,rfl⟩) ov'
   refine cZ ⟨_,rfl,_,rfl,r,xs,rfl,SH _ _ hr',_,_,rfl,rfl,decide (k + 1 + k2 < dss.length),?_,?_⟩
   .rw [xl]
    exact congrArg V.bl (decide_eq_decide.mpr (by omega))
   by_cases z:k + 1 + k2 < dss.length
   .rw [decide_eq_true z]
    have ekd2:dss[k + 1 + k2]? = some dss[k + 1 + k2]:=aj z
    obtain ⟨ld2,ex2,hld2,_⟩:=rd.at_ _ _ ekd2
    refine ⟨_,rfl,ls,_,4,_,rfl,rfl,hls,bU (j:=4) rfl,_,rfl,_,rfl,r,xs,_,_,rfl,rfl,SH _ _ hr',bU (j:=k + 1 + k2) ex2,ld2,_,rfl,SH _ _ hld2,y4,dss[k + 1 + k2].length,by rw [ak],fun v2 H5 S5 ov2 _=>⟨_,rfl,_,rfl,f1,_,_,k + 1 + k2,rfl,rfl,S5 _ _ hf,QL (n:=((ps.map stV).set k v).length) (k:=k + 1 + k2) (by rw [List.length_set,ak]; omega),?_⟩⟩
    have h5:=S5 _ _ hf
    refine fin (((ps.map stV).set k v).set (k + 1 + k2) v2) _ (fun b o e=>(bI (bD e g1)).trans (S5 _ _ (SH _ _ e))) bH (by rw [List.length_set,List.length_set,ak,pl]) (oset _ _ _ _ (fun y hy=>Ig ((o1 y hy).same S5) h5) (Ig ov2 h5)) ?_ fun j hj=>?_
    .rw [List.getElem?_set_ne (by omega),List.getElem?_set_self pk]
    .rw [List.getElem?_set_ne (by omega),List.getElem?_set_ne (by omega)]
   .rw [decide_eq_false z]
    refine fin _ H4 SH hf (by rw [List.length_set,ak,pl]) o1 (List.getElem?_set_self pk) fun j hj=>?_
    rw [List.getElem?_set_ne (by omega)]
  refine cZ (Ub fun B hB=>?_)
  have bad:B { nx:=R1 { nx:=fun x H'=>Q V.non H',rt:=Q },rt:=Q } [some (.int c),some (.ref l),some (.ref r),some (.ref ls),none,none,none,none] H1:=by
   subst hB
   have l10:∀ n,n <= 64->n <= sizeLine:=fun n h=>aM h (by decide)
   have ml:(ps.map stV).length = dss.length:=by rw [ak,pl]
   refine cL ⟨_,rfl,l,_,rfl,hl1,fun t1 Ha Sa fa ha=>⟨_,rfl,PK,fun p1 Hb Sb fb hb=>⟨l,p1,_,_,rfl,rfl,Sb _ _ (Sa _ _ hl1),hb,by rw [ml]; exact l10 _ (by simp; omega),fun a1 Hc Sc fc hc=>⟨_,rfl,PK,fun p2 Hd Sd fd hd=>⟨l,p2,_,_,rfl,rfl,Sd _ _ (Sc _ _ (Sb _ _ (Sa _ _ hl1))),hd,by rw [ml]; exact l10 _ (by simp; omega),fun a2 He Se fe he=>⟨l10 7 (by decide),fun ms Hf Sf ff hf=>?_⟩⟩⟩⟩⟩⟩
   have S1f:Same H1 Hf:=Sa.trans (Sb.trans (Sc.trans (Sd.trans (Se.trans Sf))))
   have ht:=Sf _ _ (Se _ _ (Sd _ _ (Sc _ _ (Sb _ _ ha))))
   have hc:=Sf _ _ (Se _ _ (Sd _ _ hc))
   have he:=Sf _ _ he
   have b7:∀ v ∈ [V.non,.ref t1,.ref a1,.ref a2,.str (Str.ofString "plan"),.int 0,.bl true],Hr dss.length Hf v:=fun v hv=>by
    simp only [List.mem_cons,List.not_mem_nil,or_false] at hv
    rcases hv with rfl | rfl | rfl | rfl | rfl | rfl | rfl
    .exact xH rfl (by simp)
    .exact Yh ht
    .exact wJ hc (by rw [aB,ml]; simp)
    .exact wJ he (by rw [aB,ml]; simp)
    .exact xH rfl (by simp)
    .exact xH rfl (by simp)
    .exact xH rfl (by simp)
   clear ha Sa Sb Sc Sd Se Sf
   dsimp only [cN,List.set_cons_succ,List.set_cons_zero]
   refine bV fun R2 hR2=>?_
   have fin:∀ (vals:List V) (m:Addr) (H9:Hp),Same H1 H9->H9 m = some (.lst vals)->0 < vals.length->(∀ v ∈ vals,Hr dss.length H9 v)->R2 { nx:=R1 { nx:=fun x H'=>Q V.non H',rt:=Q },rt:=Q } [some (.int c),some (.ref l),some (.ref r),some (.ref ls),none,none,none,some (.ref m)] H9:=fun vals m H9 S9 h9 v0 bv=>by
    subst hR2
    have m0:0 <= y1 % (vals.length:Int):=Int.emod_nonneg _ (by omega)
    have m1:y1 % (vals.length:Int) < vals.length:=Int.emod_lt_of_pos _ (by omega)
    have em:y1.fmod (vals.length:Nat) = ((y1 % (vals.length:Int)).toNat:Nat):=by rw [aX _ (by omega)]; omega
    have lk:(y1 % (vals.length:Int)).toNat < vals.length:=by omega
    refine gB ⟨_,rfl,_,rfl,ls,_,1,_,rfl,rfl,S9 _ _ hs,cX,_,rfl,m,vals,rfl,h9,y1,_,rfl,rfl,by omega,m,vals,_,vals[(y1 % (vals.length:Int)).toNat],rfl,rfl,h9,by rw [em]; exact bU (aj lk),dR,fun t H' S' ft et=>?_⟩
    have bb:=(bv _ (aV lk)).same S'
    exact q t H' _ _ (S1.trans (S9.trans S')) et bb.1 (.inl ⟨rfl,bb⟩)
   refine cZ ⟨_,rfl,l,_,rfl,S1f _ _ hl1,_,_,rfl,rfl,decide (0 < dss.length),?_,?_⟩
   .rw [ml]
    exact congrArg V.bl (decide_eq_decide.mpr (by omega))
   by_cases d0:0 < dss.length
   .rw [decide_eq_true d0]
    refine ⟨_,rfl,_,rfl,_,rfl,l,_,rfl,S1f _ _ hl1,fun q1 Ha Sa fa ha=>⟨_,rfl,1,rfl,_,rfl,l,_,rfl,Sa _ _ (S1f _ _ hl1),fun q2 Hb Sb fb hb=>⟨bw _,fun q3 Hc Sc fc hc=>⟨l10 3 (by decide),fun q4 Hd Sd fd hd=>⟨ms,q4,_,_,rfl,rfl,Sd _ _ (Sc _ _ (Sb _ _ (Sa _ _ hf))),hd,l10 10 (by decide),fun m He Se fe he=>?_⟩⟩⟩⟩⟩
    have S5:Same Hf He:=Sa.trans (Sb.trans (Sc.trans (Sd.trans Se)))
    refine fin _ m He (S1f.trans S5) he (by simp) fun v hv=>?_
    rcases List.mem_append.mp hv with hv | hv
    .exact (b7 v hv).same S5
    .simp only [List.mem_cons,List.not_mem_nil,or_false] at hv
     rcases hv with rfl | rfl | rfl
     .refine wJ (Se _ _ (Sd _ _ (Sc _ _ (Sb _ _ ha)))) ?_
      rw [show (1:Int) = ((1:Nat):Int) from rfl,U4 (by rw [ml]; omega),List.length_drop,ml]
      omega
     .refine wJ (Se _ _ (Sd _ _ (Sc _ _ hb))) ?_
      rw [Va (by rw [ml]; omega),bh,ml]
      omega
     .exact wJ (Se _ _ (Sd _ _ hc)) (by simp; omega)
   .rw [decide_eq_false d0]
    exact fin _ ms Hf S1f hf (by simp) b7
  refine M4 (aaO ?_)
  refine ⟨_,rfl,ls,_,0,_,rfl,rfl,hs,dG,y0,3,rfl,rfl,(show (0:Int) < 3 by decide),rfl,decide (y0 % 3 = 0),congrArg V.bl (decide_eq_decide.mpr ⟨fun z=>by injection z,fun z=>by show V.int (y0 % 3) = _; rw [z]⟩),?_⟩
  by_cases e0:y0 % 3 = 0
  .rw [decide_eq_true e0]
   exact bad
  .rw [decide_eq_false e0]
   refine ⟨_,rfl,r,xs,rfl,hr1,rfl,decide (dss.length = 0),congrArg V.bl (decide_eq_decide.mpr ⟨fun z=>by injection z with z; omega,fun z=>by rw [xl,z]; rfl⟩),?_⟩
   by_cases d0:dss.length = 0
   .rw [decide_eq_true d0]
    exact bad
   .rw [decide_eq_false d0]
    exact rest e0 d0
theorem TX {cs:List (Nat × Int × Int)} {c:Nat × Int × Int} {G:Nat->Rat} : m5 (cs ++ [c]) G = m5 cs G + vl c.2 * G c.1:=by
 induction cs with
 | nil =>
  show vl c.2 * G c.1 + 0 = 0 + vl c.2 * G c.1
  rw [Rat.add_zero,Rat.zero_add]
 | cons a cs ih =>
  show vl a.2 * G a.1 + m5 (cs ++ [c]) G = vl a.2 * G a.1 + m5 cs G + vl c.2 * G c.1
  rw [ih,Rat.add_assoc]
theorem Pz:∀ {l:List Int},(∀ x ∈ l,0 <= x)->0 <= l.sum/\∀ x ∈ l,x <= l.sum
 | [],_=>⟨Int.le_refl _,by simp⟩
 | a :: l,h=>by
  obtain ⟨h1,h2⟩:=Pz (l:=l) fun x hx=>h x (aJ _ hx)
  have h0:=h a aO
  rw [List.sum_cons]
  refine ⟨by omega,fun x hx=>?_⟩
  rcases List.mem_cons.mp hx with rfl | hx
  .omega
  .have:=h2 x hx
   omega
theorem ad2 {n:Nat} {so:Int} {rs:List Nat} {ws:List Int} {S x:Int} (h:qC n so rs ws S) (hx:x ∈ ws):Bn 20 (Ac.lw x S).1/\Bn 20 (Ac.lw x S).2:=by
 have h1:=(Pz h.lo).2 x hx
 rw [h.sum] at h1
 have h2:=h.lo x hx
 have h3:=h.le
 have h4:=h.pos
 have b1:=Ac.Bl x S
 have b2:=Ac.zX x S
 constructor <;> unfold Bn <;> omega
noncomputable def Iz:Sp:=fun vs H Q _=>∃ (p d l:Addr) (s:Int × Int) (n:Nat) (fc:(Int × Int) × List (Nat × Int × Int)) (xs:List V) (fs:List (Int × Int)),vs = [.ref p,.ref d,.ref l]/\H p = some (.tup [.int s.1,.int s.2])/\0 < s.2/\Bn 40 s.1/\Bn 40 s.2/\zU n H d fc/\vB n fc.1 fc.2/\H l = some (.lst xs)/\FL H xs fs/\(∀ f ∈ fs,Fq f)/\fs.length = n /\
 ∀ r z y H',Same H H'->H' r = some (.tup [.int z,.int y])->0 < y->Bd z->Bd y->vl (z,y) = Cg s fc.1 fc.2 fs->Q (.ref r) H'
theorem Yd (F:Fun K xg xg Og f fd) (T:Txt K mg D):cD P w K mg base CX0 1 f fd yx Iz:=by
 refine F.ok mC (fun vs H Q E h=>?_) (fun cdv A outer s H vs Q E hr h=>?_)
 .obtain ⟨p,d,l,s,n,fc,xs,fs,rfl,_⟩:=h
  rfl
 .obtain ⟨p,d,l,sh,n,fc,xs,fs,rfl,hp,s0,b1,b2,ld,df,hl,fl,fq,fn,q⟩:=h
  obtain ⟨pp,lp,so,S,rs,ws,ps,hd,hpp,hlp,pi,dr,be⟩:=ld.ex
  refine ⟨_,(bK (bZ (i:=3) mC.nd rfl (Or.inl rfl) bF)
   (bK (bZ (i:=4) mC.nd rfl (Or.inl rfl) bF)
   (bK (jo PassesOwn.never rfl (dj ((bR cG (pv 1) bF (fun _ _=>rfl))).mono) (eY (n:=2) rfl (cu (cI (i:=5) mC.nd rfl (Or.inl rfl)) (cu (cI (i:=6) mC.nd rfl (Or.inl rfl)) eG)))
    (bK (bZ (i:=7) mC.nd rfl (Or.inl rfl) (bQ cM (bR cG (pv 6) bF (fun _ _=>rfl)) (bR cG (bR bO (pv 2) (pv 5) (fun _ _=>rfl)) bF (fun _ _=>rfl))))
    (bK (bZ (i:=3) mC.nd rfl (Or.inl rfl) (bQ cV (bQ cM (pv 3) (pv 7)) (bQ cM (bQ cM (bR cG (pv 6) bF (fun _ _=>rfl)) (bR cG (bR bO (pv 2) (pv 5) (fun _ _=>rfl)) bF (fun _ _=>rfl))) (pv 4))))
    (bL (bZ (i:=4) mC.nd rfl (Or.inl rfl) (bQ cM (pv 4) (pv 7)))))))
   (bK (bZ (i:=3) mC.nd rfl (Or.inl rfl) (bQ cM (pv 3) (bR cG (pv 0) bF (fun _ _=>rfl))))
   (bK (bZ (i:=4) mC.nd rfl (Or.inl rfl) (bQ cM (pv 4) (bR cG (pv 0) bF (fun _ _=>rfl))))
   (bL (cg (qU (bC (bQ cV (bQ cM (bR cG (bR cG (pv 1) bF (fun _ _=>rfl)) bF (fun _ _=>rfl)) (pv 4)) (bQ cM (pv 3) (bR cG (bR cG (pv 1) bF (fun _ _=>rfl)) bF (fun _ _=>rfl)))) (bC (bQ cM (pv 4) (bR cG (bR cG (pv 1) bF (fun _ _=>rfl)) bF (fun _ _=>rfl))) bG)))))))))),?_⟩
  refine cL ?_
  refine cL ?_
  have pl:(zY rs ws S).length = rs.length:=by unfold zY; rw [List.length_zipWith,dr.len,Nat.min_self]
  refine bV fun R1 hR1=>?_
  refine cZ (iD ⟨_,rfl,d,_,2,_,rfl,rfl,hd,bU (j:=2) rfl,lp,ps,rfl,hlp,fun k σ H'=>∃ (t b:Int) (u5 u6 u7:Option V),σ = [some (.ref p),some (.ref d),some (.ref l),some (.int t),some (.int b),u5,u6,u7]/\H' = H/\0 < b/\Bn (61 * k) t/\Bn (61 * k) b/\vl (t,b) = m5 ((zY rs ws S).take k) (wq fs),⟨0,1,none,none,none,rfl,rfl,by decide,bw _,aG _,?_⟩,?_,?_⟩)
  .show ((0:Int):Rat) / ((1:Int):Rat) = 0
   rw [Rat.intCast_zero]
   grind
  .rintro k x σ' H' hk ⟨t,b,u5,u6,u7,rfl,rfl,b0,bt,bb,v⟩ hx
   have lk:k < rs.length:=by rw [<- pi.len]; exact (ao.mp hk).1
   have k8:=dr.l8
   have er:rs[k]? = some rs[k]:=aj lk
   have ew:ws[k]? = some (ws[k]'(by rw [<- dr.len]; exact lk)):=aj _
   obtain ⟨tt,c,e1,e2,e3⟩:=pi.at_ k _ _ er ew
   rw [hk] at e1
   cases e1
   have lr:=dr.lt _ (aV lk)
   obtain ⟨c1,c2⟩:=ad2 dr (aC ew)
   have c0:=Ac.jO (t:=ws[k]'(by rw [<- dr.len]; exact lk)) dr.pos
   have ep:(zY rs ws S)[k]? = some (rs[k],Ac.lw (ws[k]'(by rw [<- dr.len]; exact lk)) S):=by unfold zY; rw [List.getElem?_zipWith,er,ew]
   generalize ws[k]'(by rw [<- dr.len]; exact lk) = wk at *
   generalize rs[k] = r at *
   have xl:r < xs.length:=by rw [fl.length,fn]; exact lr
   have ex:xs[r]? = some xs[r]:=aj xl
   obtain ⟨wp,g,eg,ef,hw⟩:=fl.get ex
   rw [eg] at ex
   have gq:=fq g (aC ef)
   have g1:Bn 40 g.1:=gq.sa
   have g2:Bn 40 g.2:=gq.sb
   have g0:=gq.pos
   have eq:wq fs r = vl g:=by unfold wq; rw [aA,ef]; rfl
   generalize Ac.lw wk S = C at *
   have bp:Bn 60 (C.2 * g.2):=Bn.mul c2 g2
   have bd:∀ {a:Nat} {z:Int},Bn a z->a <= 1000->Bd z:=fun h l=>h.bd (by omega)
   refine ⟨tt,_,rfl,e2,rfl,_,_,rfl,_,_,rfl,rfl,?_⟩
   dsimp only [cN,List.set_cons_succ,List.set_cons_zero]
   refine cL ⟨_,rfl,c,_,1,_,rfl,rfl,e3,cX,_,rfl,_,rfl,l,xs,_,_,rfl,rfl,hl,bU ex,wp,_,1,_,rfl,rfl,hw,cX,_,_,rfl,rfl,⟨bd c2 (by decide),bd g2 (by decide)⟩,?_⟩
   dsimp only [cN,List.set_cons_succ,List.set_cons_zero]
   refine cL ⟨_,rfl,_,rfl,_,_,rfl,rfl,⟨bd bt (by omega),bd bp (by decide)⟩,_,rfl,c,_,0,_,rfl,rfl,e3,dG,_,rfl,_,rfl,l,xs,_,_,rfl,rfl,hl,bU ex,wp,_,0,_,rfl,rfl,hw,dG,_,_,rfl,rfl,⟨bd c1 (by decide),bd g1 (by decide)⟩,_,rfl,_,_,rfl,rfl,⟨bd (Bn.mul c1 g1) (by decide),bd bb (by omega)⟩,_,_,rfl,rfl,?_⟩
   dsimp only [cN,List.set_cons_succ,List.set_cons_zero]
   refine ⟨_,rfl,_,rfl,_,_,rfl,rfl,⟨bd bb (by omega),bd bp (by decide)⟩,hlp,_,_,_,_,_,rfl,rfl,Int.mul_pos b0 (Int.mul_pos c0 g0),?_,?_,?_⟩
   .have:=Bn.add (a:=61 * k + 60) (Bn.mul bt bp) ((Bn.mul (Bn.mul c1 g1) bb).up (by omega))
    exact this.up (by omega)
   .exact (Bn.mul bb bp).up (by omega)
   .rw [cH ep,TX,<- v]
    have e1:=Oe (x:=t) (y:=b) (u:=C.1 * g.1) (v:=C.2 * g.2) b0 (Int.mul_pos c0 g0)
    have e2:=Jk (x:=C.1) (y:=C.2) (u:=g.1) (v:=g.2) c0 g0
    rw [e2] at e1
    show vl (t * (C.2 * g.2) + C.1 * g.1 * b,b * (C.2 * g.2)) = vl (t,b) + vl C * wq fs r
    rw [eq]
    exact e1
  .rintro σ' H' ⟨t,b,u5,u6,u7,rfl,rfl,b0,bt,bb,v⟩ hx
   rw [pi.len,<- pl,aP,<- be] at v
   have k8:=dr.l8
   rw [pi.len] at bt bb
   have bt:Bn 488 t:=bt.up (by omega)
   have bb:Bn 488 b:=bb.up (by omega)
   obtain ⟨f0,f1,f2⟩:=df.pay
   subst hR1
   dsimp only
   refine cL ⟨_,rfl,_,rfl,p,_,0,_,rfl,rfl,hp,dG,_,_,rfl,rfl,⟨bt.bd (by decide),b1.bd (by decide)⟩,?_⟩
   dsimp only [cN,List.set_cons_succ,List.set_cons_zero]
   refine cL ⟨_,rfl,_,rfl,p,_,1,_,rfl,rfl,hp,cX,_,_,rfl,rfl,⟨bb.bd (by decide),b2.bd (by decide)⟩,?_⟩
   dsimp only [cN,List.set_cons_succ,List.set_cons_zero]
   have bt2:=Bn.mul bt b1
   have bb2:=Bn.mul bb b2
   refine gB ⟨_,rfl,d,_,1,_,rfl,rfl,hd,cX,pp,_,0,_,rfl,rfl,hpp,dG,_,rfl,_,_,rfl,rfl,⟨f1.bd (by decide),bb2.bd (by decide)⟩,_,rfl,_,rfl,d,_,1,_,rfl,rfl,hd,cX,pp,_,1,_,rfl,rfl,hpp,cX,_,_,rfl,rfl,⟨bt2.bd (by decide),f2.bd (by decide)⟩,_,_,rfl,rfl,_,rfl,_,rfl,d,_,1,_,rfl,rfl,hd,cX,pp,_,1,_,rfl,rfl,hpp,cX,_,_,rfl,rfl,⟨bb2.bd (by decide),f2.bd (by decide)⟩,dR,fun r H2 S2 _ h2=>q r _ _ H2 S2 h2 (Int.mul_pos (Int.mul_pos b0 s0) f0) ?_ ?_ ?_⟩
   .exact (Bn.add (a:=568) (Bn.mul f1 bb2) (Bn.mul bt2 f2)).bd (by decide)
   .exact (Bn.mul bb2 f2).bd (by decide)
   .have e1:=Oe (x:=fc.1.1) (y:=fc.1.2) (u:=t * sh.1) (v:=b * sh.2) f0 (Int.mul_pos b0 s0)
    have e2:=Jk (x:=t) (y:=b) (u:=sh.1) (v:=sh.2) b0 s0
    rw [e2,v] at e1
    unfold Cg
    rw [show vl sh * m5 fc.2 (wq fs) = m5 fc.2 (wq fs) * vl sh from Rat.mul_comm _ _,Int.mul_comm (b * sh.2) fc.1.2]
    exact e1
noncomputable def Od (D:Adr):Sp:=fun vs H Q _=>∃ (o p lw:Addr) (v w:V) (rms:List (Str × List Dr)),vs = [.ref o,v,.ref lw]/\jm D H o p rms/\zm rms/\Odd H v/\Ce rms H v (some w)/\∀ t H',Same H H'->H' t = some (.tup [.str "plan",w])->Q (.ref t) H'
theorem Ow (F:Fun K oR oR zc f fd) (T:Txt K mg D) (uQ:OkX P w K mg base 5 oh n8 (tZ K D)):cD P w K mg base CX0 6 f fd oH (Od D):=by
 refine F.ok Bc (fun vs H Q E h=>?_) (fun cdv A outer s H vs Q E hr h=>?_)
 .obtain ⟨o,p,lw,v,u,rms,rfl,_⟩:=h
  rfl
 .obtain ⟨o,p,lw,v,u,rms,rfl,hh,few,ov,pi,q⟩:=h
  refine ⟨_,(bK (Vn (i:=3) Bc.nd rfl rfl (by rfl) T.Bq T.VP T.Xe rfl rfl rfl (fun _ _ _ HF=>(bL (cU (fQ uQ (hr.mono (by decide)) (by rfl) HF (bC (pv 0) (bC (pv 1) (bC (pv 2) bG)))))))
    (fun _ _=>(bL (cg (qU (bC jq (bC (Vj (K':=K) rfl (pv 3) rfl) bG)))))))
   (bL (cg (qU (bC jq (bC lg bG)))))),?_⟩
  refine bV fun R1 hR1=>?_
  refine cZ ⟨fun C d σ H'=>C = .ref D.NoPlan/\σ = [some (.ref o),some v,some (.ref lw),none]/\∃ d',d = some d'/\Same H H'/\H' d' = some (.xd [("room",u)]),?_,?_⟩
  .exact ⟨_,rfl,_,rfl,_,rfl,o,p,lw,v,rms,some u,rfl,hh,few,ov,pi,(fun z=>by cases z),fun u' e d H' S hd hx=>by cases e; exact ⟨rfl,rfl,d,rfl,S,hx⟩⟩
  .rintro _ _ σ' H' ⟨rfl,rfl,d,rfl,S,hx⟩
   refine ⟨D.NoPlan,rfl,T.sm_NoPlan,fun a ha=>?_⟩
   have S1:Same H' (upd H' a (XO a D.NoPlan (some d))):=Same.upd ha
   have hX:upd H' a (XO a D.NoPlan (some d)) a = some (XO a D.NoPlan (some d)):=bH
   generalize upd H' a (XO a D.NoPlan (some d)) = H1 at S1 hX ⊢
   exact ⟨_,rfl,a,D.NoPlan,d,_,u,rfl,hX,S1 _ _ hx,T.xk_NoPlan,T.hd_NoPlan,T.uq,rfl,dR,fun t H5 S5 ft et=>q t H5 (S.trans (S1.trans S5)) et⟩
noncomputable def Bh:Sp:=fun vs H Q _=>∃ (p q:Addr) (f g:Int × Int),vs = [.ref p,.ref q]/\H p = some (.tup [.int f.1,.int f.2])/\H q = some (.tup [.int g.1,.int g.2])/\Fb f/\Fb g/\∀ b:Bool,(b = true ↔ vl f < vl g)->Q (.bl b) H
theorem V5 (F:Fun K tL tL G3 f fd) (T:Txt K mg D):cD P w K mg base CX0 1 f fd tK Bh:=by
 refine F.ok Xg (fun vs H Q E h=>?_) (fun cdv A outer s H vs Q E hr h=>?_)
 .obtain ⟨p,q,f,g,rfl,_⟩:=h
  rfl
 .obtain ⟨p,q,f,g,rfl,hp,hq,bf,bg,k⟩:=h
  refine ⟨_,(bL (cg (oX tG (bQ cM (bR cG (pv 0) bF (fun _ _=>rfl)) (bR cG (pv 1) bF (fun _ _=>rfl))) (bQ cM (bR cG (pv 1) bF (fun _ _=>rfl)) (bR cG (pv 0) bF (fun _ _=>rfl))) (cC _)))),?_⟩
  exact gB ⟨_,rfl,p,_,0,_,rfl,rfl,hp,dG,_,rfl,q,_,1,_,rfl,rfl,hq,cX,_,_,rfl,rfl,⟨bf.bx,bg.b_y⟩,_,rfl,q,_,0,_,rfl,rfl,hq,dG,_,rfl,p,_,1,_,rfl,rfl,hp,cX,_,_,rfl,rfl,⟨bg.bx,bf.b_y⟩,_,_,rfl,rfl,k _ ((decide_eq_true_iff (p:=f.1 * g.2 < g.1 * f.2)).trans (W4 bf.pos bg.pos).symm)⟩
theorem MP {ys:List V} {n:Nat} (h:n <= ys.length):gU ys none (some (n:Int)) = ys.take n:=by
 unfold gU
 rw [HT.nQ,Nat.min_eq_left h]
 show ((ys.drop 0).take (n - 0)) = _
 rw [List.drop_zero,Nat.sub_zero]
noncomputable def Ds:Sp:=fun vs H Q _=>∃ (l:Addr) (d j:Nat) (xs:List V) (gs:List (Int × Int)),vs = [.ref l,.int d,.int j]/\H l = some (.lst xs)/\FL H xs gs/\(∀ f ∈ gs,Fb f)/\d < gs.length/\gs.length <= 64/\sO (gs.map vl) d j/\∀ H',Same H H'->Q (.bl true) H'
theorem Wz (F:Fun K uo uo wO f fd) (T:Txt K mg D) (xW:OkF P w K mg base 1 tL tK Bh):cD P w K mg base CX0 2 f fd tQ Ds:=by
 refine F.ok Vt (fun vs H Q E h=>?_) (fun cdv A outer s H vs Q E hr h=>?_)
 .obtain ⟨l,d,j,xs,gs,rfl,_⟩:=h
  rfl
 .obtain ⟨l,d,j,xs,gs,rfl,hl,fl,fb,ld,l64,ba,q⟩:=h
  have z9:100 < sizeLine:=by decide
  have xl:=fl.length
  have jl:=ba.lt
  rw [ak] at jl
  have gd:∀ (i:Nat) g,gs[i]? = some g->(gs.map vl).getD i 0 = vl g:=fun i g e=>by rw [aA,au,e]; rfl
  have at_:∀ i,i < gs.length->∃ p g,xs[i]? = some (.ref p)/\gs[i]? = some g/\H p = some (.tup [.int g.1,.int g.2])/\Fb g:=fun i hi=>by
   have ex:xs[i]? = some (xs[i]'(by omega)):=aj _
   obtain ⟨p,g,e1,e2,e3⟩:=fl.get ex
   rw [e1] at ex
   exact ⟨p,g,ex,e2,e3,fb g (aC e2)⟩
  obtain ⟨pj,gj,xj,ej,hj,bj⟩:=at_ j jl
  obtain ⟨pd,gdd,xd,ed,hd,bd⟩:=at_ d ld
  refine ⟨_,(bK (cQ (PW.pt (pw_or (d_ (dD (b_ lM (by rfl) T.d8 boot_isinstance (bC (pv 2) (bC (nR (v:=.ty "int") (by rfl) T.Ut boot_int rfl) bG))) (fun _=>rfl))) (pw_or (dD (b_ lM (by rfl) T.d8 boot_isinstance (bC (pv 2) (bC (nR (v:=.ty "bool") (by rfl) T.Om boot_bool rfl) bG))) (fun _=>rfl)) (pw_or (cA tG (pv 2) bF (cC _)) (pw_or1 (cA Ws (pv 2) (b_ cJ (by rfl) T.eN PySem.boot_len (bC (pv 0) bG)) (cC _)))))))
    (bL (cg jY))
    cj)
   (bK (cQ (dD (b_ (Rk rfl) (by rfl) T.ae5 boot_any (bC (jr (bM wO) wD wD ["_law_one"] (dj ((pv 0)).mono) (dZ (i:=0)) dh (bN xW (hr.mono (by decide)) (by rfl) (bC (bR bO (pv 1) (pv 3) (fun _ _=>rfl)) (bC (pv 0) bG)))) bG)) (fun _=>rfl))
    (bL (cg jY))
    cj)
   (bK (cQ (cA iI (pv 2) (pv 1) (cC _))
    (bL (cg jY))
    cj)
   (bL (cg (yR (bN xW (hr.mono (by decide)) (by rfl) (bC (bR bO (pv 0) (pv 1) (fun _ _=>rfl)) (bC (bR bO (pv 0) (pv 2) (fun _ _=>rfl)) bG))) (Bu (b_ (Fz rfl) (by rfl) T.aaL boot_all (bC (jr (bM wO) wD wD ["_law_one"] (dj ((iM Du (pv 0) uM (fL (pv 2)))).mono) (dZ (i:=0)) dh (bN xW (hr.mono (by decide)) (by rfl) (bC (pv 0) (bC (bR bO (pv 1) (pv 3) (fun _ _=>rfl)) bG)))) bG))))))))),?_⟩
  refine bV fun R1 hR1=>?_
  refine cZ ⟨_,rfl,_,_,_,rfl,by simp,rfl,true,rfl,_,rfl,_,_,_,rfl,by simp,rfl,false,rfl,_,rfl,_,0,rfl,rfl,false,congrArg V.bl (decide_eq_false (by omega)),_,rfl,_,rfl,l,xs,rfl,hl,_,_,rfl,rfl,false,congrArg V.bl (decide_eq_false (by omega)),?_⟩
  show R1 _ _ _
  subst hR1
  refine bV fun R1 hR1=>?_
  refine cZ (Zz (Vu (List.replicate gs.length (.bl false)) rfl hl (by rw [aN,xl]) (by rw [aN]; omega) ?_ fun l2 H2 S2 f2 h2=>?_))
  .intro i x y Hc R hi hy Sc r
   have li:i < gs.length:=by rw [<- xl]; exact (ao.mp hi).1
   obtain ⟨p,g,xi,eg,hp,bg⟩:=at_ i li
   rw [hi] at xi
   cases xi
   rw [List.getElem?_replicate,if_pos li] at hy
   cases hy
   refine ⟨_,rfl,_,rfl,l,xs,_,_,rfl,rfl,Sc _ _ hl,bU xj,_,rfl,pj,p,gj,g,rfl,Sc _ _ hj,Sc _ _ hp,bj,bg,fun b hb=>?_⟩
   have le:=ba.le i (by rw [ak]; exact li)
   rw [gd i g eg,gd j gj ej] at le
   have e:b = false:=Bool.eq_false_iff.mpr fun z=>Rat.not_lt.mpr le (hb.mp z)
   rw [e]
   exact r Hc fun _ _ z=>z
  refine ⟨l2,List.replicate gs.length false,rfl,by rw [h2,List.map_replicate],false,?_,?_⟩
  .have e:(List.replicate gs.length false).any id = false:=by
    rw [List.any_eq_false]
    intro x hx
    rw [(List.mem_replicate.mp hx).2]
    decide
   rw [e]; rfl
  show R1 _ _ _
  subst hR1
  refine bV fun R1 hR1=>?_
  refine cZ ⟨_,rfl,_,rfl,rfl,decide (V.int (j:Nat) = V.int (d:Nat)),rfl,?_⟩
  by_cases e:j = d
  .rw [decide_eq_true (by rw [e])]
   exact q H2 S2
  .rw [decide_eq_false (fun z=>by injection z with z; omega)]
   show R1 _ _ _
   subst hR1
   rcases ba.own with z | ⟨lt,fst⟩
   .exact absurd z e
   rw [gd d gdd ed,gd j gj ej] at lt
   refine gB ⟨_,rfl,_,rfl,l,xs,_,_,rfl,rfl,S2 _ _ hl,bU xd,_,rfl,_,rfl,l,xs,_,_,rfl,rfl,S2 _ _ hl,bU xj,pd,pj,gdd,gj,rfl,S2 _ _ hd,S2 _ _ hj,bd,bj,fun b hb=>⟨b,rfl,?_⟩⟩
   rw [hb.mpr lt,if_pos rfl]
   have ec:gU xs none (some ((j:Nat):Int)) = xs.take j:=MP (by omega)
   refine Xw (c7 ⟨_,rfl,_,rfl,_,rfl,l,xs,rfl,S2 _ _ hl,fun p3 H3 S3 f3 h3=>⟨p3,_,rfl,h3,?_,fun D4 g4=>⟨vJ D4 H3 (List.replicate j (.bl true)),⟨Same.upd g4,bH,rfl⟩,fun i x ys Hc hi jj hy hc=>?_,fun ys Hc ⟨T1,k1,ey⟩ hy=>?_⟩⟩⟩)
   .rw [ec,bh]; omega
   .rw [ec] at hi
    have li:i < j:=by have:=(ao.mp hi).1; rw [bh] at this; omega
    rw [List.getElem?_take,if_pos li] at hi
    obtain ⟨p,g,xi,eg,hp,bg⟩:=at_ i (by omega)
    rw [hi] at xi
    cases xi
    have ST:=S2.trans (S3.trans jj.1)
    refine ⟨_,rfl,_,rfl,_,rfl,l,xs,_,_,rfl,rfl,ST _ _ hl,bU xj,p,pj,g,gj,rfl,ST _ _ hp,ST _ _ hj,bg,bj,fun b hb=>?_⟩
    have lt:=fst i li
    rw [gd i g eg,gd j gj ej] at lt
    rw [hb.mpr lt]
    exact ⟨jj.2.1,hc,jj.next g4 (fun _ _ z=>z) (by rw [List.getElem?_replicate,if_pos li])⟩
   .have el:(gU xs none (some ((j:Nat):Int))).length = j:=by rw [ec,bh]; omega
    rw [el,aL (by rw [aN]; exact aG _)] at ey
    subst ey
    refine ⟨D4,List.replicate j true,rfl,by rw [k1,List.map_replicate],?_⟩
    have e:(List.replicate j true).all id = true:=List.all_eq_true.mpr fun x hx=>(List.mem_replicate.mp hx).2
    rw [e]
    exact q Hc (S2.trans (S3.trans T1))
structure WL (n:Nat) (H:Hp) (l:Addr) (fs:List (Int × Int)):Prop where
 ex:∃ xs,H l = some (.lst xs)/\FL H xs fs
 fq:∀ f ∈ fs,Fq f
 len:fs.length = n
theorem WL.same {n:Nat} {H H':Hp} {l:Addr} {fs:List (Int × Int)} (h:WL n H l fs) (S:Same H H'):WL n H' l fs:=by
 obtain ⟨xs,a,b⟩:=h.ex
 exact ⟨⟨xs,S _ _ a,b.same S⟩,h.fq,h.len⟩
structure PL (n:Nat) (H:Hp) (ds:List Addr) (fcs:List ((Int × Int) × List (Nat × Int × Int))):Prop where
 len:fcs.length = ds.length
 at_:∀ (k:Nat) d fc,ds[k]? = some d->fcs[k]? = some fc->zU n H d fc/\vB n fc.1 fc.2
theorem PL.same {n:Nat} {H H':Hp} {ds:List Addr} {fcs:List ((Int × Int) × List (Nat × Int × Int))} (h:PL n H ds fcs) (S:Same H H'):PL n H' ds fcs:=⟨h.len,fun k d fc e1 e2=>⟨(h.at_ k d fc e1 e2).1.same S,(h.at_ k d fc e1 e2).2⟩⟩
theorem Gk {ta:TA} {te:TE} {σ:L2.St} {H:Hp} {Q:VK} {n:Nat} (n12:n <= 12) (h:∀ R:List V->Hp->Prop,R [.int (n:Nat)] H->ta σ H R) (hb:∀ (k:Nat) Hc (R:VK),k < n->Same H Hc->(∀ p x y,Hc p = none->0 < y->Int.gcd x y = 1->x.natAbs <= 10 ^ 30->y <= 1000->R (.ref p) (upd Hc p (.tup [.int x,.int y])))->te (some (.int (k:Nat)) :: σ) Hc R) (q:∀ r fs H',Same H H'->H r = none->WL n H' r fs->Q (.ref r) H'):jK (KY (tMA ta)) 1 (tMG (cN 0)) (tMT Jt) (tM te) σ H Q:=by
 refine mV (h _ ⟨n,rfl,by omega,fun D1 g1=>⟨fun k ys Hc=>Same H Hc/\Hc D1 = some (.lst ys)/\∃ fs,FL (del [D1] Hc) ys fs/\(∀ f ∈ fs,Fq f)/\fs.length = k,⟨Same.upd g1,bH,[],.nil,by simp,rfl⟩,?_,?_⟩⟩)
 .rintro k ys Hc hk ⟨S2,h2,fs,fl,fq,ln⟩ hy
  refine hb k Hc _ hk S2 fun p x y hp y0 g1' sx sy=>?_
  have np:p ∉ [D1]:=by
   simp only [List.mem_singleton]
   exact (bD h2 hp).symm
  refine ⟨(bI (bD h2 hp)).trans h2,fun b o e=>(bI (bD e g1)).trans (Same.upd hp _ _ (S2 _ _ e)),bH,fs ++ [(x,y)],?_,fun f hf=>?_,by rw [aB,ln]; rfl⟩
  .rw [qL (List.mem_singleton.mpr rfl)]
   exact (fl.same (oA fun b o _ e=>Same.upd hp _ _ e)).append (.cons (fG np bH) .nil)
  .rcases List.mem_append.mp hf with hf | hf
   .exact fq f hf
   .rw [List.mem_singleton.mp hf]
    have:(10:Nat) ^ 40 = 10 ^ 30 * 10 ^ 10:=by decide
    exact ⟨y0,g1',by show x.natAbs <= _; omega,by show y.natAbs <= _; omega⟩
 .rintro ys Hc ⟨S2,h2,fs,fl,fq,ln⟩ hy
  exact q D1 fs Hc S2 g1 ⟨⟨ys,h2,fl.same mY⟩,fq,ln⟩
noncomputable def yQ:Sp:=fun vs H Q _=>∃ (c:Int) (n:Nat),vs = [.int c,.int n]/\n <= 12/\∀ r fs H',Same H H'->H r = none->WL n H' r fs->Q (.ref r) H'
theorem R4 (F:Fun K qb qb ug f fd) (T:Txt K mg D) (cT:OkF P w K mg base 1 eX eV dY) (Dm:OkF P w K mg base 3 zH yZ DK):cD P w K mg base CX0 4 f fd pU yQ:=by
 refine F.ok FW (fun vs H Q E h=>?_) (fun cdv A outer s H vs Q E hr h=>?_)
 .obtain ⟨c,n,rfl,_⟩:=h
  rfl
 .obtain ⟨c,n,rfl,n12,q⟩:=h
  have z9:100 < sizeLine:=by decide
  refine ⟨_,(bK (bZ (i:=2) FW.nd rfl (Or.inr rfl) (bN cT (hr.mono (by decide)) (by rfl) (bC (pv 0) (bC (bQ cV (bQ cM bF (pv 1)) bF) bG))))
   (bK (cQ (cA iI (bQ cR (bR bO (pv 2) (bQ cM bF (pv 1)) (fun _ _=>rfl)) bF) bF (cC _))
    (bL (cg (jr (bM ug) sX sX ["_law_k"] (fV (by rfl) T.kE (bC (pv 1) bG).mono) (dZ (i:=0)) dh (bN Dm (hr.mono (by decide)) (by rfl) (bC (pv 1) (bC (bR bO (pv 3) bF (fun _ _=>rfl)) (bC (bR bO (pv 3) bF (fun _ _=>rfl)) bG)))))))
    cj)
   (bL (cg (jr (bM ug) sX sX ["_law_k"] (fV (by rfl) T.kE (bC (pv 1) bG).mono) (dZ (i:=0)) dh (bN Dm (hr.mono (by decide)) (by rfl) (bC (bQ cV (pv 1) (pv 0)) (bC (bR bO (pv 3) (bQ cM bF (pv 0)) (fun _ _=>rfl)) (bC (bR bO (pv 3) (bQ cV (bQ cM bF (pv 0)) bF) (fun _ _=>rfl)) bG))))))))),?_⟩
  refine bV fun R1 hR1=>?_
  refine cL ⟨_,rfl,_,rfl,_,_,rfl,rfl,⟨Bd.sm (by decide),Bd.sm (by omega)⟩,_,_,rfl,rfl,c,2 * n + 1,congrArg (fun z=>[V.int c,V.int z]) (by omega),by omega,fun l xs H1 S1 f1 h1 xl _=>?_⟩
  dsimp only [cN,L2.start]
  subst hR1
  have ex:∀ i,i < 2 * n + 1->∃ z,(xs.map V.int)[i]? = some (.int z):=fun i hi=>⟨xs[i]'(by omega),by rw [au,aj (by omega)]; rfl⟩
  obtain ⟨zl,el⟩:=ex (2 * n) (by omega)
  refine bV fun R1 hR1=>?_
  refine cZ ⟨_,rfl,_,rfl,_,_,rfl,rfl,⟨Bd.sm (by decide),Bd.sm (by omega)⟩,l,_,_,_,rfl,rfl,h1,bU (j:=2 * n) el,zl,3,rfl,rfl,(show (0:Int) < 3 by decide),rfl,decide (V.int (zl % 3) = V.int 0),rfl,?_⟩
  by_cases e:V.int (zl % 3) = V.int 0
  .rw [decide_eq_true e]
   refine gB (Gk n12 (fun R r=>⟨_,rfl,r⟩) (fun k Hc R hk Sc r=>?_) fun r fs H2 S2 f2 w=>q r fs H2 (S1.trans S2) (Same.free S1 f2) w)
   obtain ⟨za,ea⟩:=ex 0 (by omega)
   obtain ⟨zb,eb⟩:=ex 1 (by omega)
   exact ⟨_,rfl,_,rfl,l,_,0,_,rfl,rfl,Sc _ _ h1,bU (j:=0) ea,_,rfl,l,_,1,_,rfl,rfl,Sc _ _ h1,bU (j:=1) eb,_,_,_,rfl,r⟩
  .rw [decide_eq_false e]
   show R1 _ _ _
   subst hR1
   refine gB (Gk n12 (fun R r=>⟨_,rfl,r⟩) (fun k Hc R hk Sc r=>?_) fun r fs H2 S2 f2 w=>q r fs H2 (S1.trans S2) (Same.free S1 f2) w)
   obtain ⟨za,ea⟩:=ex (2 * k) (by omega)
   obtain ⟨zb,eb⟩:=ex (2 * k + 1) (by omega)
   exact ⟨_,rfl,_,rfl,_,_,rfl,rfl,_,rfl,_,rfl,_,_,rfl,rfl,⟨Bd.sm (by decide),Bd.sm (by omega)⟩,l,_,_,_,rfl,rfl,Sc _ _ h1,bU (j:=2 * k) ea,_,rfl,_,rfl,_,_,rfl,rfl,⟨Bd.sm (by decide),Bd.sm (by omega)⟩,_,_,rfl,rfl,l,_,_,_,rfl,rfl,Sc _ _ h1,bU (j:=2 * k + 1) eb,_,_,_,rfl,r⟩
theorem Td.same {H H':Hp} {ns:List Str} {n:Nat} {gs:List Dr} {fcs:List ((Int × Int) × List (Nat × Int × Int))} (h:Td K H ns n gs fcs) (S:Same H H'):Td K H' ns n gs fcs:=⟨h.len,fun k d fc e1 e2=>⟨(h.at_ k d fc e1 e2).1.same S,(h.at_ k d fc e1 e2).2⟩⟩
structure RmN (K:Frag) (n:Nat) (H:Hp) (ns:List Str) (x:Option V) (g:Str × List Dr) (fcs:List ((Int × Int) × List (Nat × Int × Int))):Prop where
 dn:Td K H ns n g.2 fcs
 ex:∃ l ds,x = some (.ref l)/\H l = some (.lst (ds.map V.ref))/\ds.length <= 64/\g.2.length = ds.length/\PL n H ds fcs
structure LB (K:Frag) (D:Adr) (n:Nat) (H:Hp) (o p r:Addr) (xs:List V) (rms:List (Str × List Dr)) (s:Int × Int) (fcss:List (List ((Int × Int) × List (Nat × Int × Int)))):Prop where
 hall:jm D H o p rms
 nd:(rms.map (·.1)).Nodup
 len:rms.length = n
 few:zm rms
 share:H p = some (.tup [.int s.1,.int s.2])
 s0:0 < s.2
 b1:Bn 40 s.1
 b2:Bn 40 s.2
 rooms:H r = some (.lst xs)
 xl:xs.length = n
 fl:fcss.length = n
 at_:∀ (k:Nat) g fcs,rms[k]? = some g->fcss[k]? = some fcs->RmN K n H (rms.map (·.1)) xs[k]? g fcs
theorem LB.same {n:Nat} {H H':Hp} {o p r:Addr} {xs:List V} {rms:List (Str × List Dr)} {s:Int × Int} {fcss:List (List ((Int × Int) × List (Nat × Int × Int)))} (h:LB K D n H o p r xs rms s fcss) (S:Same H H'):LB K D n H' o p r xs rms s fcss:=by
 refine ⟨h.hall.same S,h.nd,h.len,h.few,S _ _ h.share,h.s0,h.b1,h.b2,S _ _ h.rooms,h.xl,h.fl,fun k g fcs e1 e2=>?_⟩
 obtain ⟨a,l,ds,b,c,d,e,f⟩:=h.at_ k g fcs e1 e2
 exact ⟨a.same S,l,ds,b,S _ _ c,d,e,f.same S⟩
theorem LB.of {n:Nat} {H:Hp} {o p r:Addr} {x y:Int} {xs:List V} {dss:List (List Addr)} {rms:List (Str × List Dr)} (hh:jm D H o p rms) (ok:Qh rms) (hi:m9 K n H dss rms) (hp:H p = some (.tup [.int x,.int y])) (x0:0 <= x) (xy:x < y) (y1:y <= 100) (hr:H r = some (.lst xs)) (rd:RD n H xs dss) (ld:dss.length = n) (dm:∀ ds ∈ dss,ds.length <= 6):∃ fcss,LB K D n H o p r xs rms (x,y) fcss:=by
 have rl:rms.length = n:=by rw [hi.len,ld]
 have b:∀ z:Int,0 <= z->z <= 100->Bn 40 z:=fun z h1 h2=>by unfold Bn; omega
 have fw:∀ g ∈ rms,∀ d ∈ g.2,d.ws.length <= 100:=fun g hg d hd=>by
  obtain ⟨j,hj⟩:=aW hg
  have lj:j < dss.length:=by rw [<- hi.len]; exact (ao.mp hj).1
  obtain ⟨_,z⟩:=(hi.at_ j _ g (aj lj) hj).mem hd
  exact aM z.few.1 (by decide)
 obtain ⟨fcss,fl,hf⟩:=rQ (l:=rms) (P:=fun k g (fcs:List ((Int × Int) × List (Nat × Int × Int)))=>RmN K n H (rms.map (·.1)) xs[k]? g fcs) fun k g eg=>by
  have lk:k < n:=by rw [<- rl]; exact (ao.mp eg).1
  have ed:dss[k]? = some (dss[k]'(by omega)):=aj _
  have ri:=hi.at_ k _ _ ed eg
  obtain ⟨l,a1,a2,_⟩:=rd.at_ k _ ed
  obtain ⟨fcs,d1,d2,d3⟩:=ri.fcs ok.nd (by rw [ak,rl])
  have dl:=dm _ (aC ed)
  refine ⟨fcs,d1,l,_,a1,a2,by omega,ri.len,⟨d2,fun j d fc e1 e2=>⟨d3 j d fc e1 e2,?_⟩⟩⟩
  have lj:j < g.2.length:=by rw [d1.len]; exact (ao.mp e2).1
  exact (d1.at_ j _ fc (aj lj) e2).2
 exact ⟨fcss,hh,ok.nd,rl,⟨ok.len,ok.few,fw⟩,hp,by show 0 < y; omega,b _ x0 (by show x <= 100; omega),b _ (by show 0 <= y; omega) y1,hr,by rw [rd.len,ld],by rw [fl,rl],fun k g fcs e1 e2=>hf k g fcs e1 e2⟩
theorem abq {sp:Sp} {te:TE} {t:TA} {σ:L2.St} {H:Hp} {Q:Bool->Hp->Prop} (h:te σ H fun x H1=>t σ H1 fun xs H2=>sp (x :: xs) H2 (fun y H3=>∃ k,Nq y = some k/\Q (!k) H3) E0):Wh (Rn (yM sp (pY te t))) σ H Q:=h
noncomputable def Hj (K:Frag) (D:Adr):Sp:=fun vs H Q _=>∃ (o p r lp wl lf:Addr) (n:Nat) (xs:List V) (rms:List (Str × List Dr)) (s:Int × Int) (fcss:List (List ((Int × Int) × List (Nat × Int × Int)))) (pl ql:List (Option Nat)) (fs:List (Int × Int)),vs = [.ref p,.ref r,.ref lp,.ref wl,.ref lf]/\LB K D n H o p r xs rms s fcss/\H lp = some (.lst (pl.map stV))/\pl.length = n/\(∀ (k:Nat) g d,rms[k]? = some g->pl[k]? = some (some d)->d < g.2.length)/\WL n H wl fs/\H lf = some (.lst (ql.map stV))/\qP s fs fcss pl ql/\n <= 12/\∀ H',Same H H'->Q (.bl true) H'
theorem aav (F:Fun K wg wg Je f fd) (T:Txt K mg D) (Ol:OkF P w K mg base 1 xg yx Iz) (H_:OkF P w K mg base 2 uo tQ Ds):cD P w K mg base CX0 3 f fd xY (Hj K D):=by
 refine F.ok Q5 (fun vs H Q E h=>?_) (fun cdv A outer s H vs Q E hr h=>?_)
 .obtain ⟨o,p,r,lp,wl,lf,n,xs,rms,s,fcss,pl,ql,fs,rfl,_⟩:=h
  rfl
 .obtain ⟨o,p,r,lp,wl,lf,n,xs,rms,sh,fcss,pl,ql,fs,rfl,lb,hlp,pn,pf,wL,hlf,ma,n12,q⟩:=h
  have z9:100 < sizeLine:=by decide
  have qn:ql.length = n:=by rw [ma.len,pn]
  refine ⟨_,(bK (cQ (PW.pt (pw_or (d_ (dD (b_ lM (by rfl) T.d8 boot_isinstance (bC (pv 4) (bC (nR (v:=.ty "list") (by rfl) T.pQ boot_list rfl) bG))) (fun _=>rfl))) (pw_or1 (cA Ra (b_ cJ (by rfl) T.eN PySem.boot_len (bC (pv 4) bG)) (b_ cJ (by rfl) T.eN PySem.boot_len (bC (pv 1) bG)) (cC _)))))
    (bL (cg jY))
    cj)
   (bK (jo PassesOwn.never rfl (fV (by rfl) T.kE (bC (b_ cJ (by rfl) T.eN PySem.boot_len (bC (pv 1) bG)) bG).mono) (cI (i:=5) Q5.nd rfl (Or.inl rfl))
    (bL (cQ (cA Gy (bR bO (pv 2) (pv 5) (fun _ _=>rfl)) lg (cC _))
     (bL (cQ (cA ZK (bR bO (pv 4) (pv 5) (fun _ _=>rfl)) lg (cC _))
      (bL (cg jY))
      cj))
     (bL (cQ (d_ (dD (bN H_ (hr.mono (by decide)) (by rfl) (bC (jr (bM Je) OJ OJ ["_law_door_here"] (dj ((bR bO (pv 1) (pv 5) (fun _ _=>rfl))).mono) (dZ (i:=0)) dh (bN Ol (hr.mono (by decide)) (by rfl) (bC (pv 1) (bC (pv 0) (bC (pv 4) bG))))) (bC (bR bO (pv 2) (pv 5) (fun _ _=>rfl)) (bC (bR bO (pv 4) (pv 5) (fun _ _=>rfl)) bG)))) (fun _=>rfl)))
      (bL (cg jY))
      cj)))))
   (bL (cg jY)))),?_⟩
  refine bV fun R1 hR1=>?_
  refine cZ ⟨_,rfl,_,_,_,rfl,by simp,nq hlf,true,rfl,_,rfl,lf,_,rfl,hlf,_,rfl,r,_,rfl,lb.rooms,rfl,false,congrArg (fun b=>V.bl (!b)) (decide_eq_true (by rw [ak,lb.xl,qn])),?_⟩
  show R1 _ _ _
  subst hR1
  refine bV fun R1 hR1=>?_
  refine cZ (qj ⟨_,rfl,r,xs,rfl,lb.rooms,n,by rw [lb.xl],by omega,fun _ σ H'=>(∃ u,σ = [some (.ref p),some (.ref r),some (.ref lp),some (.ref wl),some (.ref lf),u])/\Same H H',⟨⟨none,rfl⟩,fun _ _ z=>z⟩,?_,?_⟩)
  .rintro k σ' H' hk ⟨⟨u,rfl⟩,S⟩
   have ep:pl[k]? = some (pl[k]'(by omega)):=aj _
   have eq:ql[k]? = some (ql[k]'(by omega)):=aj _
   have eg:rms[k]? = some (rms[k]'(by rw [lb.len]; exact hk)):=aj _
   have ef:fcss[k]? = some (fcss[k]'(by rw [lb.fl]; exact hk)):=aj _
   obtain ⟨m1,m2⟩:=ma.at_ k _ _ _ ep eq ef
   obtain ⟨dn,l,ds,c1,c2,c3,c4,c5⟩:=lb.at_ k _ _ eg ef
   have pf:=fun d=>pf k _ d eg
   generalize pl[k]'(by omega) = o1 at *
   generalize ql[k]'(by omega) = o2 at *
   generalize rms[k]'(by rw [lb.len]; exact hk) = g at *
   generalize fcss[k]'(by rw [lb.fl]; exact hk) = fcs at *
   have ap:atI (pl.map stV) (k:Nat) = some (stV o1):=bU (by rw [au,ep]; rfl)
   have aq:atI (ql.map stV) (k:Nat) = some (stV o2):=bU (by rw [au,eq]; rfl)
   have dsl:fcs.length = ds.length:=c5.len
   cases o1 with
   | none =>
    have e2:=m1 rfl
    subst e2
    exact ⟨_,rfl,_,rfl,lp,_,_,_,rfl,rfl,S _ _ hlp,ap,rfl,true,congrArg V.bl (decide_eq_true rfl),_,rfl,_,rfl,lf,_,_,_,rfl,rfl,S _ _ hlf,aq,rfl,false,congrArg (fun b=>V.bl (!b)) (decide_eq_true rfl),⟨_,rfl⟩,S⟩
   | some d =>
    obtain ⟨j,rfl,ba⟩:=m2 d rfl
    refine ⟨_,rfl,_,rfl,lp,_,_,_,rfl,rfl,S _ _ hlp,ap,rfl,false,congrArg V.bl (decide_eq_false (fun z=>by cases z)),?_⟩
    refine M4 (abq (c7 ⟨_,rfl,_,rfl,r,xs,_,_,rfl,rfl,S _ _ lb.rooms,bU c1,l,_,rfl,S _ _ c2,by rw [ak]; omega,fun D3 g3=>⟨fun j ys Hc=>Same H' Hc/\Hc D3 = some (.lst ys)/\∃ gs,FL (del [D3] Hc) ys gs/\gs.length = j/\(∀ f ∈ gs,Fb f)/\gs.map vl = (lZ sh fs fcs).take j,⟨Same.upd g3,bH,[],.nil,rfl,by simp,rfl⟩,?_,?_⟩⟩))
    .rintro i y ys Hc hi ⟨S3,h3,gs,fl3,ln3,fb3,v3⟩ _ ha
     have li:i < ds.length:=by have:=(ao.mp hi).1; rw [ak] at this; exact this
     have ed:ds[i]? = some ds[i]:=aj li
     have ec:fcs[i]? = some (fcs[i]'(by omega)):=aj _
     rw [au,ed] at hi
     cases hi
     obtain ⟨lD,dF⟩:=c5.at_ i _ _ ed ec
     generalize ds[i] = dd at *
     generalize fcs[i]'(by omega) = fc at *
     have SS:=S.trans S3
     obtain ⟨ws,hw,fw⟩:=wL.ex
     refine ⟨_,rfl,_,rfl,_,rfl,p,dd,wl,sh,n,fc,ws,fs,rfl,SS _ _ lb.share,lb.s0,lb.b1,lb.b2,lD.same SS,dF,SS _ _ hw,fw.same SS,wL.fq,wL.len,fun t z y H5 S5 h5 y0 bz b_y v=>?_⟩
     have h35:=S5 _ _ h3
     have nt:t ∉ [D3]:=by
      simp only [List.mem_singleton]
      exact fB h5 h35 (by intro z; cases z)
     refine ⟨h35,S5 _ _ ha,fun b u e=>(bI (bD e g3)).trans (S5 _ _ (S3 _ _ e)),bH,gs ++ [(z,y)],?_,by rw [aB,ln3]; rfl,fun f hf=>?_,?_⟩
     .rw [qL (List.mem_singleton.mpr rfl)]
      exact (fl3.same (oA fun b o _ e=>S5 _ _ e)).append (.cons (fG nt h5) .nil)
     .rcases List.mem_append.mp hf with hf | hf
      .exact fb3 f hf
      .rw [List.mem_singleton.mp hf]
       exact ⟨y0,bz,b_y⟩
     .have eq:(lZ sh fs fcs)[i]? = some (Cg sh fc.1 fc.2 fs):=by unfold lZ; rw [au,ec]; rfl
      rw [cH eq,bA,v3,<- v]; rfl
    .rintro ys Hc ⟨S3,h3,gs,fl3,ln3,fb3,v3⟩ hy
     rw [ak] at ln3 v3
     have lq:(lZ sh fs fcs).length = ds.length:=by unfold lZ; rw [ak,dsl]
     rw [<- lq,aP] at v3
     rw [<- v3] at ba
     have SS:=S.trans S3
     exact ⟨_,rfl,_,rfl,lp,_,_,_,rfl,rfl,SS _ _ hlp,ap,_,rfl,_,rfl,lf,_,_,_,rfl,rfl,SS _ _ hlf,aq,D3,d,j,ys,gs,rfl,h3,fl3.same mY,fb3,by rw [ln3,<- c4]; exact pf d ep,by omega,ba,fun H4 S4=>⟨true,rfl,⟨_,rfl⟩,SS.trans S4⟩⟩
  .rintro σ' H' ⟨⟨u,rfl⟩,S⟩
   subst hR1
   exact q H' S
theorem m9.dn {n:Nat} {H:Hp} {dss:List (List Addr)} {rms:List (Str × List Dr)} (h:m9 K n H dss rms) {k:Nat} {ds:List Addr} (e:dss[k]? = some ds):dnR rms k = ds.length:=by
 have lk:k < rms.length:=by rw [h.len]; exact (ao.mp e).1
 unfold dnR
 rw [aj lk]
 exact (h.at_ k _ _ e (aj lk)).len
theorem m9.fits {n:Nat} {H:Hp} {dss:List (List Addr)} {rms:List (Str × List Dr)} (h:m9 K n H dss rms) {ps:List (Option Nat)} (pf:Lg dss ps) {l:Addr} {H':Hp} (hl:H' l = some (.lst (ps.map stV))):Ce rms H' (.ref l) none:=by
 refine .inl ⟨l,_,rfl,hl,by rw [ak,pf.1,h.len],fun x hx=>?_,.inl ⟨rfl,fun k x e=>?_⟩⟩
 .obtain ⟨o,_,rfl⟩:=List.mem_map.mp hx
  cases o <;> exact ⟨_,rfl⟩
 .rw [au] at e
  cases eo:ps[k]? with
  | none=>rw [eo] at e; cases e
  | some o =>
   rw [eo] at e
   cases e
   have lk:k < dss.length:=by rw [<- pf.1]; exact (ao.mp eo).1
   rw [h.dn (aj lk)]
   exact pf.2 k _ o (aj lk) eo
noncomputable def Jr (K:Frag) (D:Adr):Sp:=fun vs H Q _=>∃ (o p lp r lw:Addr) (c:Int) (n:Nat) (xs:List V) (dss:List (List Addr)) (rms:List (Str × List Dr)) (pl:List (Option Nat)),vs = [.ref o,.int c,.ref lp,.ref r,.ref lw]/\jm D H o p rms/\zm rms/\m9 K n H dss rms/\H lp = some (.lst (pl.map stV))/\H r = some (.lst xs)/\RD n H xs dss/\Lg dss pl/\dss.length <= 12/\(∀ ds ∈ dss,ds.length <= 64)/\∀ H',Same H H'->Q (.bl true) H'
theorem Iv (F:Fun K j5 j5 uD f fd) (T:Txt K mg D) (CQ:OkF P w K mg base 2 pW pX yP) (yJ:OkF P w K mg base 6 oR oH (Od D)):cD P w K mg base CX0 7 f fd j_ (Jr K D):=by
 refine F.ok lC (fun vs H Q E h=>?_) (fun cdv A outer s H vs Q E hr h=>?_)
 .obtain ⟨o,p,lp,r,lw,c,n,xs,dss,rms,pl,rfl,_⟩:=h
  rfl
 .obtain ⟨o,p,lp,r,lw,c,n,xs,dss,rms,pl,rfl,hh,few,hi,hlp,hr',rd,pf,n12,dm,q⟩:=h
  refine ⟨_,(bK (rP (bN CQ (hr.mono (by decide)) (by rfl) (bC (pv 1) (bC (pv 2) (bC (pv 3) bG)))) (eY (n:=2) rfl (cu (cI (i:=5) lC.nd rfl (Or.inl rfl)) (cu (cI (i:=6) lC.nd rfl (Or.inl rfl)) eG))))
   (bK (rP (bN yJ (hr.mono (by decide)) (by rfl) (bC (pv 0) (bC (pv 6) (bC (pv 4) bG)))) (eY (n:=2) rfl (cu (cI (i:=7) lC.nd rfl (Or.inl rfl)) (cu (cI (i:=8) lC.nd rfl (Or.inl rfl)) eG))))
   (bL (cg (yR (oX iI (pv 7) jq (cC _)) (yR (Xp (b_ lM (by rfl) T.d8 boot_isinstance (bC (pv 8) (bC (nR (v:=.ty "bool") (by rfl) T.Om boot_bool rfl) bG)))) (Bu (oX iI (pv 8) (pv 5) (cC _))))))))),?_⟩
  refine bV fun R1 hR1=>?_
  refine cZ (M6 ⟨_,rfl,_,rfl,_,rfl,_,lp,r,pl,xs,n,dss,rfl,hlp,hr',rd,pf,by omega,fun t H8 w v S8 h8 ov cs=>⟨t,_,rfl,h8,rfl,_,_,rfl,_,_,rfl,rfl,?_⟩⟩)
  obtain ⟨pr,sw,ty,ety,sb⟩ : Ce rms H8 v (some w)/\Mt w w = true/\∃ t,tyS H8 w = some t/\Ke t "bool" = false:=by
   have rl:=hi.len
   rcases cs with ⟨rfl,bd⟩ | ⟨k,l2,ys,x,rfl,rfl,c1,c2,c3,c4,c5,c6⟩
   .exact ⟨.inr ⟨rfl,fun l xs e h=>by rw [rl]; exact bd.2 l xs e h⟩,rfl,_,rfl,by decide⟩
   .have lk:k < dss.length:=by rw [<- c2]; exact (ao.mp c4).1
    refine ⟨.inl ⟨l2,ys,rfl,c1,by rw [rl]; exact c2,c3,.inr ⟨k,x,rfl,c4,by rw [hi.dn (aj lk)]; exact c5 _ (aj lk),fun j y hj ey=>?_⟩⟩,rfl,_,rfl,by decide⟩
    have lj:j < dss.length:=by omega
    rw [hi.dn (aj lj)]
    exact c6 j y _ hj ey (aj lj)
  subst hR1
  dsimp only [List.set_cons_succ,List.set_cons_zero]
  refine bV fun R1 hR1=>?_
  refine cZ (M6 ⟨_,rfl,_,rfl,_,rfl,o,p,lw,v,w,rms,rfl,hh.same S8,few,ov,pr,fun t2 H9 S9 h9=>⟨t2,_,rfl,h9,rfl,_,_,rfl,_,_,rfl,rfl,?_⟩⟩)
  subst hR1
  dsimp only [List.set_cons_succ,List.set_cons_zero]
  refine gB ⟨_,rfl,rfl,true,congrArg V.bl (decide_eq_true rfl),?_⟩
  rw [if_pos rfl]
  refine ⟨_,rfl,_,_,ty,rfl,by simp,C_ S9 ety,_,rfl,true,by rw [sb]; rfl,?_⟩
  rw [if_pos rfl]
  refine ⟨_,rfl,_,rfl,sw,?_⟩
  rw [decide_eq_true rfl]
  exact q _ (S8.trans S9)
noncomputable def rwD (fs:List (Int × Int)):PyData:=.list (fs.map frD)
theorem zV {α:Type} {g:α->PyData} (h:∀ x,PyData.canLay0 (g x) = true):∀ xs:List α,PyData.canLayAll0 (xs.map g) = true
 | []=>rfl
 | x :: xs=>by rw [List.map_cons]; unfold PyData.canLayAll0; rw [zV h xs,h x]; rfl
theorem Bv {α:Type} {g:α->PyData} {n:Nat} (h:∀ x,PyData.depth (g x) <= n):∀ xs:List α,PyData.depthAll (xs.map g) <= n
 | []=>bw _
 | x :: xs=>by
  rw [List.map_cons]; unfold PyData.depthAll
  have:=Bv h xs
  have:=h x
  omega
theorem KN {α:Type} {g:α->PyData} (h:∀ x,PyData.canLay0 (g x) = true) (d:∀ x,PyData.depth (g x) <= 2) (xs:List α):SeqAt.shaped (.list (xs.map g)) = true/\PyData.eqv (.list (xs.map g)) (.list (xs.map g)) = true:=by
 have h1:PyData.canLay0 (.list (xs.map g)) = true:=by unfold PyData.canLay0; exact zV h xs
 have h2:PyData.depth (.list (xs.map g)) <= 64:=by unfold PyData.depth; have:=Bv d xs; omega
 refine ⟨?_,PySem.SeqAt.eqv_refl _ h1⟩
 unfold SeqAt.shaped
 rw [h1,decide_eq_true h2]; rfl
theorem Cd (fss:List (List (Int × Int))):SeqAt.shaped (.list (fss.map rwD)) = true/\PyData.eqv (.list (fss.map rwD)) (.list (fss.map rwD)) = true :=
 KN (fun fs=>by unfold rwD PyData.canLay0; exact Gs fs) (fun fs=>by unfold rwD PyData.depth; have:=Kc fs; omega) fss
theorem abu {d m:Nat} (h:nG (stV (some d)) m = true):d < m:=by
 unfold nG at h
 split at h
 .exact absurd (of_decide_eq_true h) (fun z=>by cases z)
 .have h:(decide (0 <= (d:Int)) && decide ((d:Int) < m)) = true:=h
  have:=of_decide_eq_true (Bool.and_eq_true_iff.mp h).2
  omega
noncomputable def stD:Option Nat->PyData
 | some d=>.int (d:Nat)
 | none=>.none
theorem xq {H:Hp} : ∀ {pl:List (Option Nat)},dW H (pl.map stV) (pl.map stD)
 | []=>.nil
 | none :: pl=>.cons .non xq
 | some d :: pl=>.cons (.int _) xq
theorem zF (pl:List (Option Nat)):SeqAt.shaped (.list (pl.map stD)) = true/\PyData.eqv (.list (pl.map stD)) (.list (pl.map stD)) = true:=KN (fun o=>by cases o <;> rfl) (fun o=>by cases o <;> exact bw _) pl
theorem abx {n:Nat} {H:Hp} {dss:List (List Addr)} {rms:List (Str × List Dr)} (hi:m9 K n H dss rms) {pl:List (Option Nat)} (pf:Lg dss pl) {k:Nat} {g:Str × List Dr} {d:Nat} (eg:rms[k]? = some g) (ep:pl[k]? = some (some d)):d < g.2.length:=by
 have lk:k < dss.length:=by rw [<- pf.1]; exact (ao.mp ep).1
 have ed:dss[k]? = some dss[k]:=aj lk
 rw [(hi.at_ k _ g ed eg).len]
 exact abu (pf.2 k _ _ ed ep)
theorem LB.mend {n:Nat} {H:Hp} {o p r:Addr} {xs:List V} {rms:List (Str × List Dr)} {s:Int × Int} {fcss:List (List ((Int × Int) × List (Nat × Int × Int)))} (h:LB K D n H o p r xs rms s fcss) (n12:n <= 12) {dss:List (List Addr)} {pl:List (Option Nat)} (hi:m9 K n H dss rms) (pf:Lg dss pl) {H':Hp} {hp lw:Addr} {fs:List (Int × Int)} {Q:VK} {E:XK} (S:Same H H') (hl:H' hp = some (.lst (pl.map stV))) (wl:WL n H' lw fs) (q:∀ r ql H2,Same H' H2->H' r = none->H2 r = some (.lst (ql.map stV))->qP s fs fcss pl ql->Q (.ref r) H2):tZ K D [.ref o,.ref hp,.ref lw] H' Q E:=by
 obtain ⟨ys,w1,w2⟩:=wl.ex
 have h':=h.same S
 refine ⟨o,p,lw,.ref hp,rms,none,rfl,h'.hall,h.few,⟨_,nq hl⟩,hi.fits pf hl,fun _=>⟨s,ys,fs,fcss,hp,pl,rfl,hl,by rw [pf.1,hi.len],fun k g d eg ep=>abx hi pf eg ep,h.nd,h'.share,h.s0,h.b1,h.b2,w1,w2,wl.fq,by rw [wl.len]; exact n12,by rw [h.fl,h.len],fun k g fcs e1 e2=>?_,fun r H2 ql S2 f2 h2 ma=>q r ql H2 S2 f2 h2 ma⟩,(fun u e=>by cases e)⟩
 have dn:=(h'.at_ k g fcs e1 e2).dn
 rw [wl.len]
 exact dn
theorem WL.off {n:Nat} {H:Hp} {l:Addr} {fs:List (Int × Int)} {as:List Addr} (h:WL n H l fs) (hls:∀ l ∈ as,∃ zs,H l = some (.lst zs)) (nl:l ∉ as):WL n (del as H) l fs:=by
 obtain ⟨xs,a,b⟩:=h.ex
 exact ⟨⟨xs,fG nl a,b.imp fun p x y e=>uH hls (by intro z y; cases y) e⟩,h.fq,h.len⟩
theorem WL.shows {n:Nat} {H:Hp} {l:Addr} {fs:List (Int × Int)} (h:WL n H l fs):Shows H (.ref l) (rwD fs):=by
 obtain ⟨xs,a,b⟩:=h.ex
 exact .lst a b.shows
theorem abo (F:Fun K Il Il QX f fd) (T:Txt K mg D) (aak:∀ a ns,OkF P w K mg base 1 uV uU (vZ K a ns)) (Ng:OkF P w K mg base 2 xu yu Im) (V7:∀ a ns,OkF P w K mg base 5 tR rK (Cr K a ns)) (Jg:OkF P w K mg base 3 rH tY Ax) (OD:OkF P w K mg base 9 vY wC (Ib K D)) (xQ:OkF P w K mg base 4 qb pU yQ) (Dj:OkF P w K mg base 2 pZ pR yL) (sY:OkF P w K mg base 7 j5 j_ (Jr K D)) (G9:OkF P w K mg base 3 wg xY (Hj K D)) (Aw:OkF P w K mg base 5 oh n8 (fun vs H Q _=>tZ K D vs H Q fun _ _ _=>False)):cD P w K mg base CX0 10 f fd N5 (Pk K):=by
 refine F.okB j8 (fun vs H Q E h=>?_) (fun cdv A outer s H vs Q E hr h=>?_)
 .obtain ⟨a,ns,rfl,_⟩:=h
  rfl
 .obtain ⟨a,ns,rfl,hs,hl,_,hQ⟩:=h
  have jX:=aak a ns
  have Hw:=V7 a ns
  refine ⟨_,(cB (PSB.mk (bZ (i:=1) j8.nd rfl (Or.inl rfl) (bN Jg (hr.mono (by decide)) (by rfl) (bC (bN jX (hr.mono (by decide)) (by rfl) (bC (pv 0) (bC bF bG))) bG))))
   (cB (PSB.mk (bZ (i:=2) j8.nd rfl (Or.inl rfl) (bN Ng (hr.mono (by decide)) (by rfl) (bC (bN jX (hr.mono (by decide)) (by rfl) (bC (pv 0) (bC bF bG))) bG))))
   (cB (PSB.mk (bZ (i:=3) j8.nd rfl (Or.inl rfl) (bN Hw (hr.mono (by decide)) (by rfl) (bC (pv 0) (bC bF (bC (pv 2) (bC bF bG)))))))
   (cB (PSB.mk (bZ (i:=4) j8.nd rfl (Or.inl rfl) (bN OD (hr.mono (by decide)) (by rfl) (bC (bN jX (hr.mono (by decide)) (by rfl) (bC (pv 0) (bC bF bG))) (bC (pv 1) (bC (pv 3) bG))))))
   (cB (PSB.mk (bZ (i:=5) j8.nd rfl (Or.inl rfl) (bN Dj (hr.mono (by decide)) (by rfl) (bC (bN jX (hr.mono (by decide)) (by rfl) (bC (pv 0) (bC bF bG))) (bC (pv 3) bG)))))
   (cB (PSB.mk (bZ (i:=6) j8.nd rfl (Or.inl rfl) (gP lY (by rfl) T.pQ boot_list (bC (pv 5) bG))))
   (cB (PSB.mk (bZ (i:=7) j8.nd rfl (Or.inl rfl) (bN xQ (hr.mono (by decide)) (by rfl) (bC (bN jX (hr.mono (by decide)) (by rfl) (bC (pv 0) (bC bF bG))) (bC (pv 2) bG)))))
   (cB (PSB.mk (bZ (i:=8) j8.nd rfl (Or.inl rfl) (bN xQ (hr.mono (by decide)) (by rfl) (bC (bQ cV (bQ Cq (bN jX (hr.mono (by decide)) (by rfl) (bC (pv 0) (bC bF bG))) bF) (bN jX (hr.mono (by decide)) (by rfl) (bC (pv 0) (bC bF bG)))) (bC (pv 2) bG)))))
   (cB (PSB.mk (bZ (i:=9) j8.nd rfl (Or.inl rfl) (fK (bC (gP lY (by rfl) T.pQ boot_list (bC (pv 7) bG)) (bC (gP lY (by rfl) T.pQ boot_list (bC (pv 8) bG)) bG)))))
   (cB (PSB.mk (bZ (i:=10) j8.nd rfl (Or.inl rfl) (fK (bC (bN Aw (hr.mono (by decide)) (by rfl) (bC (pv 4) (bC (pv 6) (bC (bR bO (pv 9) bF (fun _ _=>rfl)) bG)))) (bC (bN Aw (hr.mono (by decide)) (by rfl) (bC (pv 4) (bC (pv 6) (bC (bR bO (pv 9) bF (fun _ _=>rfl)) bG)))) bG)))))
   (cB (PSB.mk (bZ (i:=11) j8.nd rfl (Or.inl rfl) (bQ cV (bQ Cq (bN jX (hr.mono (by decide)) (by rfl) (bC (pv 0) (bC bF bG))) bF) (bN jX (hr.mono (by decide)) (by rfl) (bC (pv 0) (bC bF bG))))))
   (cB (PSB.mk (cQ (d_ (dD (bN sY (hr.mono (by decide)) (by rfl) (bC (pv 4) (bC (pv 11) (bC (pv 5) (bC (pv 3) (bC (bR bO (pv 9) bF (fun _ _=>rfl)) bG)))))) (fun _=>rfl)))
    (bL (cg jY))
    cj))
   (cB (PSB.mk (cQ (PW.pt (pw_or (cA (VH hr.units) (pv 6) (pv 5) (cC _)) (pw_or1 (cA (VH hr.units) (pv 9) (fK (bC (pv 7) (bC (pv 8) bG))) (cC _)))))
    (bL (cg jY))
    cj))
   (cB (PSB.mk (cU (pq (pv 6) (bC bF bG))))
   (cB (PSB.mk (cU (Oa (pv 6))))
   (cB (PSB.mk (cU (Oa (bR bO (pv 9) bF (fun _ _=>rfl)))))
   (cB (PSB.mk (jo PassesOwn.never rfl (Nk (by rfl) T.Xa (bC (pv 10) (bC (fK (bC (pv 7) (bC (pv 8) bG))) bG)).mono) (eY (n:=2) rfl (cu (cI (i:=12) j8.nd rfl (Or.inl rfl)) (cu (cI (i:=13) j8.nd rfl (Or.inl rfl)) eG)))
    (bK (cQ (d_ (dD (bN G9 (hr.mono (by decide)) (by rfl) (bC (pv 1) (bC (pv 3) (bC (pv 5) (bC (pv 13) (bC (pv 12) bG)))))) (fun _=>rfl)))
     (bL (cg jY))
     cj)
    (bK (cU (pq (pv 12) (bC bF bG)))
    (bL (cU (Oa (pv 12))))))))
   (xJ (PSB.mk (cg (bN G9 (hr.mono (by decide)) (by rfl) (bC (pv 1) (bC (pv 3) (bC (pv 5) (bC (pv 7) (bC (bN Aw (hr.mono (by decide)) (by rfl) (bC (pv 4) (bC (gP lY (by rfl) T.pQ boot_list (bC (pv 5) bG)) (bC (gP lY (by rfl) T.pQ boot_list (bC (pv 7) bG)) bG)))) bG)))))))))))))))))))))))))),?_⟩
  have z9:100 < sizeLine:=by decide
  refine bV fun R1 hR1=>?_
  refine cL ⟨_,rfl,2,rfl,hs,hl,by decide,_,rfl,fun ps x y H2 S2 h2 x0 xy y1 gx=>?_⟩
  subst hR1
  dsimp only [cN,L2.start]
  refine bV fun R1 hR1=>?_
  refine cL ⟨_,rfl,0,rfl,Same.sql S2 hs,hl,by decide,_,rfl,fun n H1 n12 S1=>?_⟩
  have SH2:=S2.trans S1
  have h2:=S1 _ _ h2
  subst hR1
  dsimp only [cN]
  refine bV fun R1 hR1=>?_
  refine cL ⟨_,rfl,_,rfl,5,n,6,rfl,Same.sql SH2 hs,hl,by decide,n12,by decide,fun r xs dss H3 S3 fr hr3 ld rd dm=>?_⟩
  have SH3:=SH2.trans S3
  subst hR1
  dsimp only [cN]
  refine bV fun R1 hR1=>?_
  refine cL ⟨_,rfl,1,rfl,Same.sql SH3 hs,hl,by decide,_,rfl,_,rfl,_,x,y,ps,r,xs,dss,n,6,rfl,S3 _ _ h2,x0,xy,y1,gx,hr3,rd,ld,n12,by decide,dm,fun o H4 rms S4 fo hh ok hi=>?_⟩
  have rd4:=rd.same S4
  have hr4:=S4 _ _ hr3
  obtain ⟨fcss,lb⟩:=LB.of hh ok hi (S4 _ _ (S3 _ _ h2)) x0 xy y1 hr4 rd4 ld dm
  have SH4:=SH3.trans S4
  clear S1 S2 S3 S4 SH2 SH3 h2 hr3 rd x0 xy y1 gx
  subst hR1
  dsimp only [cN]
  refine bV fun R1 hR1=>?_
  refine cL ⟨_,rfl,3,rfl,Same.sql SH4 hs,hl,by decide,_,rfl,_,r,xs,n,dss,rfl,hr4,rd4,by omega,fun ds hd=>by have:=dm ds hd; omega,fun lp pl H5 S5 fp hp pf=>?_⟩
  have pn:=pf.1
  subst hR1
  dsimp only [cN]
  refine bV fun R1 hR1=>?_
  refine cL ⟨_,rfl,lp,_,rfl,hp,fun hd H6 S6 f6 h6=>?_⟩
  have SH6:=SH4.trans (S5.trans S6)
  subst hR1
  dsimp only [cN]
  refine bV fun R1 hR1=>?_
  refine cL ⟨_,rfl,4,rfl,Same.sql SH6 hs,hl,by decide,_,rfl,_,n,rfl,n12,fun l1 fs1 H7 S7 f7 w1=>?_⟩
  have SH7:=SH6.trans S7
  subst hR1
  dsimp only [cN]
  refine bV fun R1 hR1=>?_
  refine cL ⟨_,rfl,4,rfl,Same.sql SH7 hs,hl,by decide,_,_,rfl,rfl,.inr (by constructor <;> decide),_,rfl,3,rfl,Same.sql SH7 hs,hl,by decide,_,_,rfl,rfl,_,rfl,_,n,rfl,n12,fun l2 fs2 H8 S8 f8 w2=>?_⟩
  have lb5:=lb.same S5
  have hi5:=hi.same S5
  have hp5:=hp
  have S58:=S6.trans (S7.trans S8)
  have S48:=S5.trans S58
  have nd2:hd ≠ l1:=bD h6 f7
  have nd3:hd ≠ l2:=bD (S7 _ _ h6) f8
  have SH8:=SH4.trans S48
  have lb:=lb.same S48
  have hi:=hi.same S48
  have rd8:=rd4.same S48
  have hr8:=S48 _ _ hr4
  have hp:=S8 _ _ (S7 _ _ (S6 _ _ hp))
  have h6:=S8 _ _ (S7 _ _ h6)
  have w1:=w1.same S8
  have f68:=(S7.trans S8)
  obtain ⟨ys1,y1,y2⟩:=w1.ex
  obtain ⟨ys2,y3,y4⟩:=w2.ex
  clear S5 S6 S7 S8 S48 SH4 SH6 SH7 rd4 hr4
  subst hR1
  dsimp only [cN]
  refine bV fun R1 hR1=>?_
  refine cL ⟨_,rfl,l1,ys1,rfl,y1,fun h1 H9 S9 f9 e9=>⟨_,rfl,l2,ys2,rfl,S9 _ _ y3,fun h2 Ha Sa fa ea=>⟨dR,fun lt Hb Sb fb eb=>?_⟩⟩⟩
  have S8b:=S9.trans (Sa.trans Sb)
  have v1:WL n Hb h1 fs1:=⟨⟨ys1,Sb _ _ (Sa _ _ e9),y2.same S8b⟩,w1.fq,w1.len⟩
  have v2:WL n Hb h2 fs2:=⟨⟨ys2,Sb _ _ ea,y4.same S8b⟩,w2.fq,w2.len⟩
  have h6b:=S8b _ _ h6
  have nd1:hd ≠ h1:=bD h6 f9
  have e9:=Sb _ _ (Sa _ _ e9)
  have n1l:l1 ≠ h1:=bD y1 f9
  have n2l:l2 ≠ h1:=bD y3 f9
  have ndl:hd ≠ lt:=bD (Sa _ _ (S9 _ _ h6)) fb
  have f95:=Same.free S58 f9
  subst hR1
  dsimp only [cN]
  refine bV fun R1 hR1=>?_
  refine cL ⟨_,rfl,_,rfl,_,rfl,lt,_,0,_,rfl,rfl,eb,dG,?_⟩
  dsimp only [sV]
  refine lb.mend n12 hi pf S8b h6b v1 fun r1 ql1 Hc Sc fc hc ma1=>?_
  refine ⟨_,rfl,_,rfl,_,rfl,lt,_,1,_,rfl,rfl,Sc _ _ eb,cX,?_⟩
  dsimp only [sV]
  refine lb.mend n12 hi pf (S8b.trans Sc) (Sc _ _ h6b) (v2.same Sc) fun r2 ql2 Hd Sd fd hd2 ma2=>⟨dR,fun he He Se fe hhe=>?_⟩
  have nh1:r1 ≠ he:=bD (Sd _ _ hc) fe
  have nh2:r2 ≠ he:=bD hd2 fe
  have n12':r1 ≠ r2:=bD hc fd
  have ndr1:hd ≠ r1:=bD h6b fc
  have ndr2:hd ≠ r2:=bD (Sc _ _ h6b) fd
  have n1r1:h1 ≠ r1:=bD e9 fc
  have n1r2:h1 ≠ r2:=bD (Sc _ _ e9) fd
  have nde:hd ≠ he:=bD (Sd _ _ (Sc _ _ h6b)) fe
  have n1e:h1 ≠ he:=bD (Sd _ _ (Sc _ _ e9)) fe
  have Sbe:=Sc.trans (Sd.trans Se)
  have S8e:=S8b.trans Sbe
  have fr1:=Same.free S8b fc
  have fr2:=Same.free (S8b.trans Sc) fd
  have n1r:l1 ≠ r1:=bD y1 fr1
  have n2r:l2 ≠ r1:=bD y3 fr1
  have n1s:l1 ≠ r2:=bD y1 fr2
  have n2s:l2 ≠ r2:=bD y3 fr2
  have hc:=Se _ _ (Sd _ _ hc)
  have hd2:=Se _ _ hd2
  have h6e:=Sbe _ _ h6b
  have e9:=Sbe _ _ e9
  have eb:=Sbe _ _ eb
  have v1:=v1.same Sbe
  have v2:=v2.same Sbe
  clear Sc Sd Se fc fd S8b
  subst hR1
  dsimp only [cN]
  refine bV fun R1 hR1=>?_
  refine cL ⟨_,rfl,3,rfl,Same.sql (SH8.trans S8e) hs,hl,by decide,_,_,rfl,rfl,.inr (by constructor <;> decide),_,rfl,1,rfl,Same.sql (SH8.trans S8e) hs,hl,by decide,_,_,rfl,rfl,?_⟩
  subst hR1
  dsimp only [cN]
  refine bV fun R1 hR1=>?_
  refine cZ ⟨_,rfl,_,rfl,_,rfl,_,rfl,_,rfl,lt,_,0,_,rfl,rfl,eb,dG,o,ps,lp,r,h1,_,n,xs,dss,rms,pl,rfl,lb.hall.same S8e,lb.few,hi.same S8e,S8e _ _ hp,S8e _ _ hr8,rd8.same S8e,pf,by omega,(fun ds hd=>by have:=dm ds hd; omega),fun Hf Sf=>⟨true,rfl,?_⟩⟩
  show R1 _ _ _
  have S8f:=S8e.trans Sf
  have hc:=Sf _ _ hc
  have hd2:=Sf _ _ hd2
  have h6f:=Sf _ _ h6e
  have e9:=Sf _ _ e9
  have eb:=Sf _ _ eb
  have hhe:=Sf _ _ hhe
  have v1:=v1.same Sf
  have v2:=v2.same Sf
  have x1:=w1.same S8f
  have x2:=w2.same S8f
  clear Sf h6e
  subst hR1
  refine bV fun R1 hR1=>?_
  refine cZ ⟨_,rfl,_,rfl,.list (pl.map stD),.list (pl.map stD),.lst h6f xq,.lst (S8f _ _ hp) xq,(zF pl).1,(zF pl).1,false,congrArg (fun b=>V.bl (!b)) (zF pl).2,_,rfl,_,rfl,_,rfl,dR,fun lq Hg Sg fg hg=>⟨.list ([fs1,fs2].map rwD),.list ([fs1,fs2].map rwD),.lst (Sg _ _ eb) (.cons (v1.same Sg).shows (.cons (v2.same Sg).shows .nil)),.lst hg (.cons (x1.same Sg).shows (.cons (x2.same Sg).shows .nil)),(Cd [fs1,fs2]).1,(Cd [fs1,fs2]).1,false,congrArg (fun b=>V.bl (!b)) (Cd [fs1,fs2]).2,?_⟩⟩
  show R1 _ _ _
  have S8g:=S8f.trans Sg
  have hc:=Sg _ _ hc
  have hd2:=Sg _ _ hd2
  have h6g:=Sg _ _ h6f
  have e9:=Sg _ _ e9
  have eb:=Sg _ _ eb
  have hhe:=Sg _ _ hhe
  clear Sg v1 v2 x1 x2 h6f S8f S8e Sbe
  have hls:∀ z ∈ [hd,h1,r1,r2],∃ zs,Hg z = some (.lst zs):=fun z hz=>by
   simp only [List.mem_cons,List.not_mem_nil,or_false] at hz
   rcases hz with rfl | rfl | rfl | rfl
   .exact ⟨_,h6g⟩
   .exact ⟨_,e9⟩
   .exact ⟨_,hc⟩
   .exact ⟨_,hd2⟩
  have S5g:=S58.trans S8g
  have SB:Same H5 (del [hd,h1,r1,r2] Hg):=fun b u e=>fG (fun z=>by
   simp only [List.mem_cons,List.not_mem_nil,or_false] at z
   rcases z with rfl | rfl | rfl | rfl
   .rw [f6] at e; cases e
   .rw [f95] at e; cases e
   .rw [Same.free S58 fr1] at e; cases e
   .rw [Same.free S58 fr2] at e; cases e) (S5g _ _ e)
  have lb:=lb5.same SB
  have hi:=hi5.same SB
  have hp:=SB _ _ hp5
  have w1:=(w1.same S8g).off hls (by simp only [List.mem_cons,List.not_mem_nil,or_false,not_or]; exact ⟨nd2.symm,n1l,n1r,n1s⟩)
  have w2:=(w2.same S8g).off hls (by simp only [List.mem_cons,List.not_mem_nil,or_false,not_or]; exact ⟨nd3.symm,n2l,n2r,n2s⟩)
  have BG:Same (del [hd,h1,r1,r2] Hg) Hg:=mY
  have Bn:∀ z ∈ [hd,h1,r1,r2],del [hd,h1,r1,r2] Hg z = none:=fun z hz=>by unfold del; rw [if_pos hz]
  generalize del [hd,h1,r1,r2] Hg = B at *
  have B1:=Bn hd (by simp)
  have B2:=Bn h1 (by simp)
  have B3:=Bn r1 (by simp)
  have B4:=Bn r2 (by simp)
  have q1:ql1.length <= 12:=by rw [ma1.len,pn,ld]; exact n12
  have q2:ql2.length <= 12:=by rw [ma2.len,pn,ld]; exact n12
  clear hls hp5 lb5 hi5 S58 S8g S5g
  subst hR1
  refine bV fun R1 hR1=>?_
  refine cZ ⟨_,rfl,hd,_,rfl,h6g,_,_,rfl,h6g,by rw [ak]; omega,?_⟩
  subst hR1
  dsimp only
  refine bV fun R1 hR1=>?_
  refine cZ ⟨_,rfl,hd,_,rfl,bH,?_⟩
  subst hR1
  rw [nH]
  dsimp only
  refine bV fun R1 hR1=>?_
  refine cZ ⟨_,rfl,lt,_,0,_,rfl,rfl,(bI ndl.symm).trans eb,dG,h1,_,rfl,(bI nd1.symm).trans e9,?_⟩
  have hm1:=(bI n1r1.symm (o:=.lst ys1.reverse)).trans ((bI ndr1.symm (o:=.lst (pl.map stV ++ [V.int 0]).reverse)).trans hc)
  have hm2:=(bI n1r2.symm (o:=.lst ys1.reverse)).trans ((bI ndr2.symm (o:=.lst (pl.map stV ++ [V.int 0]).reverse)).trans hd2)
  have hme:=(bI n1e.symm (o:=.lst ys1.reverse)).trans ((bI nde.symm (o:=.lst (pl.map stV ++ [V.int 0]).reverse)).trans hhe)
  have BM:Same B (upd (upd Hg hd (.lst (pl.map stV ++ [V.int 0]).reverse)) h1 (.lst ys1.reverse)):=fun b u e=>(bI (bD e B2)).trans ((bI (bD e B1)).trans (BG _ _ e))
  generalize upd (upd Hg hd (.lst (pl.map stV ++ [V.int 0]).reverse)) h1 (.lst ys1.reverse) = Hm at hm1 hm2 hme BM ⊢
  clear hc hd2 hhe BG h6g e9 eb
  subst hR1
  dsimp only
  refine bV fun R1 hR1=>?_
  refine cZ (Rq ⟨_,rfl,_,rfl,_,rfl,dR,fun lw Hh Sh fh hh'=>⟨he,lw,_,_,rfl,Sh _ _ hme,hh',rfl,fun j σ H'=>(∃ u12 u13,σ = [some (.ref a),some (.ref ps),some (.int n),some (.ref r),some (.ref o),some (.ref lp),some (.ref hd),some (.ref l1),some (.ref l2),some (.ref lt),some (.ref he),some (.int (cell ns 3 * 69621 + cell ns 1)),u12,u13])/\Same B H'/\(j = 0->H' r1 = some (.lst (ql1.map stV)))/\(j <= 1->H' r2 = some (.lst (ql2.map stV))),⟨⟨none,none,rfl⟩,BM.trans Sh,fun _=>Sh _ _ hm1,fun _=>Sh _ _ hm2⟩,?_,?_⟩⟩)
  .rintro j xv yv σ' H' t hx hy ⟨⟨u12,u13,rfl⟩,SJ,j1,j2⟩ ha hb' ht
   obtain ⟨rr,ql,ll,fs,rfl,rfl,hrr,ma,wl,zl,mem,nx⟩ : ∃ rr ql ll fs,xv = .ref rr/\yv = .ref ll/\H' rr = some (.lst (ql.map stV))/\qP (x,y) fs fcss pl ql/\WL n B ll fs/\ql.length <= 12/\(rr = r1\/rr = r2)/\(j + 1 <= 1->rr ≠ r2/\H' r2 = some (.lst (ql2.map stV))):=by
    match j with
    | 0 =>
     cases hx
     cases hy
     exact ⟨r1,ql1,l1,fs1,rfl,rfl,j1 rfl,ma1,w1,q1,.inl rfl,fun _=>⟨n12',j2 (by decide)⟩⟩
    | 1 =>
     cases hx
     cases hy
     exact ⟨r2,ql2,l2,fs2,rfl,rfl,j2 (by decide),ma2,w2,q2,.inr rfl,fun z=>by omega⟩
    | j + 2=>simp at hx
   have St:Same H' (upd H' t (.tup [.ref rr,.ref ll])):=Same.upd ht
   have k4:upd H' t (.tup [.ref rr,.ref ll]) t = _:=bH
   generalize upd H' t (.tup [.ref rr,.ref ll]) = Ht at St k4 ⊢
   have ST:=SJ.trans St
   refine ⟨t,_,rfl,k4,rfl,_,_,rfl,_,_,rfl,rfl,?_⟩
   dsimp only [cN,List.set_cons_succ,List.set_cons_zero]
   refine bV fun R2 hR2=>?_
   refine cZ ⟨_,rfl,_,rfl,_,rfl,_,rfl,_,rfl,o,ps,r,lp,ll,rr,n,xs,rms,_,fcss,pl,ql,fs,rfl,lb.same ST,ST _ _ hp,by rw [pn,ld],fun k g d e1 e2=>abx hi pf e1 e2,wl.same ST,St _ _ hrr,ma,n12,fun Hi Si=>⟨true,rfl,?_⟩⟩
   show R2 _ _ _
   have S3:=St.trans Si
   subst hR2
   refine cZ ⟨_,rfl,rr,_,rfl,S3 _ _ hrr,_,_,rfl,S3 _ _ hrr,by rw [ak]; omega,?_⟩
   refine ⟨_,rfl,rr,_,rfl,bH,?_⟩
   rw [nH]
   obtain ⟨ne,nw,nB⟩ : he ≠ rr/\lw ≠ rr/\B rr = none:=by
    rcases mem with rfl | rfl
    .exact ⟨nh1.symm,(bD hm1 fh).symm,B3⟩
    .exact ⟨nh2.symm,(bD hm2 fh).symm,B4⟩
   refine ⟨(bI ne).trans (S3 _ _ ha),(bI nw).trans (S3 _ _ hb'),⟨_,_,rfl⟩,fun b u e=>(bI (bD e nB)).trans (S3 _ _ (SJ _ _ e)),fun z=>absurd z (by omega),fun z=>?_⟩
   obtain ⟨m2,k2⟩:=nx z
   exact (bI m2.symm).trans (S3 _ _ k2)
  .rintro σ' H' ⟨⟨u12,u13,rfl⟩,SJ,_,_⟩ _ _
   have lb:=lb.same SJ
   have hi:=hi.same SJ
   have w1:=w1.same SJ
   have hp:=SJ _ _ hp
   obtain ⟨ys,k1,k2⟩:=w1.ex
   subst hR1
   dsimp only
   refine gB ⟨_,rfl,_,rfl,_,rfl,_,rfl,_,rfl,_,rfl,lp,_,rfl,hp,fun c1 Hk Sk fk hk=>⟨_,rfl,l1,ys,rfl,Sk _ _ k1,fun c2 Hl Sl fl hl'=>?_⟩⟩
   dsimp only [sV]
   have SS:=Sk.trans Sl
   refine lb.mend n12 hi pf SS (Sl _ _ hk) ⟨⟨ys,hl',k2.same SS⟩,w1.fq,w1.len⟩ fun r3 ql3 Hn Sn fn hn ma3=>?_
   have ST:=SS.trans Sn
   exact ⟨o,ps,r,lp,l1,r3,n,xs,rms,_,fcss,pl,ql3,fs1,rfl,lb.same ST,ST _ _ hp,by rw [pn,ld],fun k g d e1 e2=>abx hi pf e1 e2,w1.same ST,hn,ma3,n12,fun H' _=>hQ _⟩
end
theorem law_fn {l:PySem.W.OpenLaw} {w:World} {K:Frag} {mg:Str->Option Value} (T0:∃ D,Txt K mg D) (base:Heap) (f:Addr) (fd:FuncData) (F:Fun K Il Il QX f fd) :
  cD l.prog w K mg base CX0 10 f fd N5 (Pk K):=by
 obtain ⟨D,T⟩:=T0
 have jX:∀ a ns,OkF l.prog w K mg base 1 uV uU (vZ K a ns):=fun a ns=>T.abf.ok fun _ _ F=>Y6 F a ns
 have dw:OkF l.prog w K mg base 1 fY gA kO:=T.O6.ok fun _ _ F=>LQ F T
 have Uh:OkF l.prog w K mg base 1 Bk Dy JG:=T.adK.ok fun _ _ F=>abG F T
 have gJ:OkF l.prog w K mg base 1 jH jG iz:=T.S_.ok fun _ _ F=>M5 F T
 have g_:OkF l.prog w K mg base 2 lW lX mj:=T.VD.ok fun _ _ F=>RK F Uh
 have gF:OkF l.prog w K mg base 2 jZ lE jA:=T.Y8.ok fun _ _ F=>W3 F T dw gJ
 have gR:OkF l.prog w K mg base 1 mX mO (mU (K:=K)):=T.Yz.ok fun _ _ F=>Uz F
 have Ii:OkF l.prog w K mg base 3 uO uY (qx (K:=K) fun a b=>a + b):=T.abh.ok fun _ _ F=>Z_ F gF
 have Yo:OkF l.prog w K mg base 3 rM rT (qx (K:=K) fun a b=>a - b):=T.aag.ok fun _ _ F=>Xf F gF
 have je:OkF l.prog w K mg base 1 jM jL rG:=T.Tf.ok fun _ _ F=>N_ F T
 have gC:OkF l.prog w K mg base 2 iy iQ (fZ (K:=K)):=T.Nh.ok fun _ _ F=>KC F T dw gJ
 have gM:OkX l.prog w K mg base 3 gO gK (gH (K:=K)):=T.GZ.okX fun _ _ F=>Ey F T je gC
 have xr:OkX l.prog w K mg base 2 dM dI iZ:=T.wY.okX fun _ _ F=>vI F T je
 have Ge:OkX l.prog w K mg base 3 eO eU (nY (K:=K)):=T.Br.okX fun _ _ F=>Ab F T gC gR
 have jd:OkI l.prog w K mg base (CXO l.prog w) 4 D.Door_init jf (jh (K:=K) D):=T.JL.ok fun _ F=>JM F T gM
 have qQ:OkI l.prog w K mg base (CXO l.prog w) 5 D.Sure_init kW (qw (K:=K) D):=T.Ho.ok fun _ F=>Jd F T jd xr
 have rO:OkI l.prog w K mg base CX0 1 D.Door_ways lu (nM D):=T.Jh.ok fun _ F=>Hy F T
 have Ly:OkF l.prog w K mg base 2 mL mR (qe K):=T.Q_.ok fun _ _ F=>Ga F gJ
 have qF:OkF l.prog w K mg base 2 mL mR yH:=T.Q_.ok fun _ _ F=>(Ga F gJ).imp fun _ _ _ _ h=>Um h
 have Z0:OkF l.prog w K mg base 3 rZ tH yr:=T.f_total.ok fun _ _ F=>Wc F T qF gF
 have Xl:OkX l.prog w K mg base 4 iK iH k_:=T.Ep.okX fun _ _ F=>BR F T xr Ge Z0.wild
 have R_:OkX l.prog w K mg base 4 iJ gZ (uK K):=T.Ei.okX fun _ _ F=>Ci F T Ii.wild
 have dU:OkI l.prog w K mg base (CXO l.prog w) 5 D.Mixed_init fH (fD K D):=T.Fd.ok fun _ F=>DW F T jd Xl R_
 have qG:OkI l.prog w K mg base (CXO l.prog w) 6 D.Toss_init kY (qN K D):=T.Gv.ok fun _ F=>HB F T gM Ge Yo.wild dU
 have qY:OkI l.prog w K mg base (CXO l.prog w) 6 D.Even_init j9 (qH K D):=T.Jb.ok fun _ F=>Ij F T dU
 have pO:OkF l.prog w K mg base 3 iT iB (lA (K:=K)):=T.Es.ok fun _ _ F=>Dl F T gC gR
 have qI:OkF l.prog w K mg base 2 jy ju mH:=T.Hq.ok fun _ _ F=>Eb F T je
 have m6:OkF l.prog w K mg base 2 fW fX (iY D):=T.z6.ok fun _ _ F=>zK F T rO
 have sU:OkF l.prog w K mg base 3 lN kJ (nW D):=T.Ld.ok fun _ _ F=>Js F T m6
 have K4:OkI l.prog w K mg base CX0 4 D.Hall_init lH (nU K D):=T.Jq.ok fun _ F=>G4 F T pO qI sU
 have jT:OkI l.prog w K mg base CX0 1 D.Hall_size iV (lF D):=T.HX.ok fun _ F=>Jv F T
 have lG:OkI l.prog w K mg base CX0 2 D.Hall_check_room eF (mK D):=T.vU.ok fun _ F=>vW F T dw jT
 have gQ:OkI l.prog w K mg base CX0 3 D.Hall_offers fU (jW D):=T.Bp.ok fun _ F=>Dv F T lG
 have cT:OkF l.prog w K mg base 1 eX eV dY:=T.Xc.ok fun _ _ F=>Ro F T
 have Ng:OkF l.prog w K mg base 2 xu yu Im:=T.abC.ok fun _ _ F=>aar F T cT
 have Ar:OkF l.prog w K mg base 2 uG tD xT:=T.X8.ok fun _ _ F=>Wq F T cT
 have Jz:OkF l.prog w K mg base 8 tV sS (w5 K D):=T.YF.ok fun _ _ F=>Vy F T qQ dU qG qY
 have OD:OkF l.prog w K mg base 9 vY wC (Ib K D):=T.abU.ok fun _ _ F=>X6 F T Ar Jz K4.wild
 have mJ:OkI l.prog w K mg base CX0 1 D.NoPlan_init gW (uJ D.NoPlan):=T.Cw.ok fun _ F=>DG F T
 have Dm:OkF l.prog w K mg base 3 zH yZ DK:=T.adA.ok fun _ _ F=>abd F T g_
 have Jg:OkF l.prog w K mg base 3 rH tY Ax:=T.Y5.ok fun _ _ F=>V0 F T cT g_
 have Nx:OkF l.prog w K mg base 4 wF xU Av:=T.abN.ok fun _ _ F=>Ys F T cT g_ Dm
 have Hw:∀ a ns,OkF l.prog w K mg base 5 tR rK (Cr K a ns):=fun a ns=>T.Zo.ok fun _ _ F=>Ww F T a ns (jX a ns) cT Nx
 have MF:OkF l.prog w K mg base 2 wI wK Hx:=T.aaR.ok fun _ _ F=>Zc F T dw
 have pH:OkX l.prog w K mg base 4 jx jB (yw D):=T.GJ.okX fun _ _ F=>CV F T MF jT gQ mJ
 have Dj:OkF l.prog w K mg base 2 pZ pR yL:=T.VF.ok fun _ _ F=>RQ F T cT
 have QK:OkF l.prog w K mg base 1 CT BX Nb:=T.adB.ok fun _ _ F=>aa0 F T
 have CQ:OkF l.prog w K mg base 2 pW pX yP:=T.U0.ok fun _ _ F=>RB F T cT QK
 have Ah:OkF l.prog w K mg base 3 rY uw Dw:=T.aaj.ok fun _ _ F=>Wi F gF
 have pI:OkF l.prog w K mg base 3 iR iU (zA K):=T.D_.ok fun _ _ F=>Bb F T Ly gF
 have pC:OkF l.prog w K mg base 4 iC h_ (zu K D):=T.Em.ok fun _ _ F=>CN F T pI Ah Ii
 have vC:OkF l.prog w K mg base 2 mW mQ BP:=T.O5.ok fun _ _ F=>La F T gR
 have pB:OkF l.prog w K mg base 3 ig gY zE:=T.Ec.ok fun _ _ F=>Bm F T gR vC
 have uQ:OkX l.prog w K mg base 5 oh n8 (tZ K D):=T.Vl.okX fun _ _ F=>MN F T pH Ly pC pB gQ
 have xW:OkF l.prog w K mg base 1 tL tK Bh:=T.aao.ok fun _ _ F=>V5 F T
 have H_:OkF l.prog w K mg base 2 uo tQ Ds:=T.ZQ.ok fun _ _ F=>Wz F T xW
 have Ol:OkF l.prog w K mg base 1 xg yx Iz:=T.f_look.ok fun _ _ F=>Yd F T
 have G9:OkF l.prog w K mg base 3 wg xY (Hj K D):=T.abZ.ok fun _ _ F=>aav F T Ol H_
 have xQ:OkF l.prog w K mg base 4 qb pU yQ:=T.W2.ok fun _ _ F=>R4 F T cT Dm
 have yJ:OkF l.prog w K mg base 6 oR oH (Od D):=T.R9.ok fun _ _ F=>Ow F T uQ
 have sY:OkF l.prog w K mg base 7 j5 j_ (Jr K D):=T.KJ.ok fun _ _ F=>Iv F T CQ yJ
 exact abo F T jX Ng Hw Jg OD xQ Dj sY G9 uQ.calm
end K25
open PySem PySem.W PyProof.Rows
set_option maxRecDepth 100000 in
set_option maxHeartbeats 0 in
theorem PySem.Challenge.cw_chancehall_k25_a_plan_mended_holds : PySem.Challenge.rw_chancehall_k25_a_plan_mended.Holds := by
 w_on
 refine holds_law H25.wsd fun said=>?_
 refine holds_open (q:=H25.qv) (loose:=[]) (XP:=XL H25.qv []) (YP:=InK H25.KH) H25.left (InK.of H25.asK) InK.keeps H25.hX XL.keeps (by rfl) (by rfl) (by rfl) H25.hR (by rfl) said (by decide +kernel) ⟨rfl,rfl,rfl,rfl,rfl,by decide +kernel⟩ ?hw ?hc
 (case hw=>w_witness2)
 k_fill
 refine L2.acr (l:=PySem.Challenge.rw_chancehall_k25_a_plan_mended) (k:=10) (x := "_law_script") rfl rfl ⟨rfl,by decide,by decide⟩ (fun w h Y=>(show (H25.KH w.params).In h from Y)) ?F
 case F =>
  intro w mg fa h KX G hmg
  refine ⟨K25.QX,?_,fun base f fd F=>K25.law_fn ?T base f fd F⟩
  .exact L2.q_f 1 fun _ _ _ _ _ _ _=>rfl
  case T =>
   refine ⟨⟨31,44,56,68,80,99,118,302,323,342,361,378,463,135,136,285,292,299,320,339,358,375,420,427,434,441,448,455,460,115⟩,⟨L2.q_c,L2.q_c,L2.q_c,L2.q_c,L2.q_c,L2.q_c,L2.q_c,L2.q_c,L2.q_c,L2.q_c,L2.q_c,L2.q_c,L2.q_c,L2.q_c,L2.q_c,L2.q_x,L2.q_x,L2.q_x,L2.q_x,by k_is,by k_is,by k_is,L2.q_g,L2.q_t,L2.q_t,L2.q_M,L2.q_4,L2.q_I,L2.q_m,L2.q_m,L2.q_n,L2.q_n,L2.q_n,L2.q_n,L2.q_n,L2.q_n,L2.q_M,L2.q_4,L2.q_I,L2.q_m,L2.q_m,L2.q_n,L2.q_n,L2.q_n,L2.q_n,L2.q_n,L2.q_n,L2.q_M,L2.q_4,L2.q_I,L2.q_m,L2.q_m,L2.q_n,L2.q_n,L2.q_n,L2.q_n,L2.q_n,L2.q_n,L2.q_M,L2.q_4,L2.q_I,L2.q_m,L2.q_m,L2.q_n,L2.q_n,L2.q_n,L2.q_n,L2.q_n,L2.q_n,L2.q_M,L2.q_4,L2.q_I,L2.q_m,L2.q_m,L2.q_n,L2.q_n,L2.q_n,L2.q_n,L2.q_n,L2.q_n,L2.q_M,L2.q_4,L2.q_I,L2.q_m,L2.q_m,L2.q_m,L2.q_m,L2.q_m,L2.q_m,L2.q_n,L2.q_n,L2.q_n,L2.q_n,L2.q_n,L2.q_n,L2.q_E,L2.q_S,L2.q_5,by k_is,by k_is,L2.q_n,L2.q_b,L2.q_B,L2.q_h 3 fun _ _ _ _ _ _ _ _ _=>rfl,L2.q_B,L2.q_h 1 fun _ _ _ _ _ _ _=>rfl,L2.q_B,L2.q_h 2 fun _ _ _ _ _ _ _ _=>rfl,L2.q_B,L2.q_h 4 fun _ _ _ _ _ _ _ _ _ _=>rfl,L2.q_B,L2.q_h 4 fun _ _ _ _ _ _ _ _ _ _=>rfl,L2.q_B,L2.q_h 6 fun _ _ _ _ _ _ _ _ _ _ _ _=>rfl,L2.q_B,L2.q_h 4 fun _ _ _ _ _ _ _ _ _ _=>rfl,L2.q_B,L2.q_h 3 fun _ _ _ _ _ _ _ _ _=>rfl,L2.q_B,L2.q_h 1 fun _ _ _ _ _ _ _=>rfl,L2.q_B,L2.q_h 1 fun _ _ _ _ _ _ _=>rfl,L2.q_B,L2.q_h 2 fun _ _ _ _ _ _ _ _=>rfl,L2.q_B,L2.q_h 2 fun _ _ _ _ _ _ _ _=>rfl,L2.q_B,L2.q_h 3 fun _ _ _ _ _ _ _ _ _=>rfl,L2.q_B,L2.q_h 2 fun _ _ _ _ _ _ _ _=>rfl,L2.q_h 2 fun _ _ _ _ _ _ _ _=>rfl,L2.q_z,L2.q_z,L2.q_z,L2.q_z,L2.q_z,L2.q_z,L2.q_z,L2.q_z,L2.q_z,L2.q_z,L2.q_z,L2.q_z,L2.q_z,L2.q_z,L2.q_z,L2.q_f 1 fun _ _ _ _ _ _ _=>rfl,L2.q_f 1 fun _ _ _ _ _ _ _=>rfl,L2.q_f 2 fun _ _ _ _ _ _ _ _=>rfl,L2.q_f 2 fun _ _ _ _ _ _ _ _=>rfl,L2.q_f 1 fun _ _ _ _ _ _ _=>rfl,L2.q_f 2 fun _ _ _ _ _ _ _ _=>rfl,L2.q_f 2 fun _ _ _ _ _ _ _ _=>rfl,L2.q_f 2 fun _ _ _ _ _ _ _ _=>rfl,L2.q_f 2 fun _ _ _ _ _ _ _ _=>rfl,L2.q_f 1 fun _ _ _ _ _ _ _=>rfl,L2.q_f 1 fun _ _ _ _ _ _ _=>rfl,L2.q_f 1 fun _ _ _ _ _ _ _=>rfl,L2.q_f 2 fun _ _ _ _ _ _ _ _=>rfl,L2.q_f 2 fun _ _ _ _ _ _ _ _=>rfl,L2.q_f 2 fun _ _ _ _ _ _ _ _=>rfl,L2.q_f 3 fun _ _ _ _ _ _ _ _ _=>rfl,L2.q_f 2 fun _ _ _ _ _ _ _ _=>rfl,L2.q_f 3 fun _ _ _ _ _ _ _ _ _=>rfl,L2.q_f 1 fun _ _ _ _ _ _ _=>rfl,L2.q_f 2 fun _ _ _ _ _ _ _ _=>rfl,L2.q_f 1 fun _ _ _ _ _ _ _=>rfl,L2.q_f 1 fun _ _ _ _ _ _ _=>rfl,L2.q_f 1 fun _ _ _ _ _ _ _=>rfl,L2.q_f 1 fun _ _ _ _ _ _ _=>rfl,L2.q_f 1 fun _ _ _ _ _ _ _=>rfl,L2.q_f 1 fun _ _ _ _ _ _ _=>rfl,L2.q_f 2 fun _ _ _ _ _ _ _ _=>rfl,L2.q_f 2 fun _ _ _ _ _ _ _ _=>rfl,L2.q_f 2 fun _ _ _ _ _ _ _ _=>rfl,L2.q_f 2 fun _ _ _ _ _ _ _ _=>rfl,L2.q_f 2 fun _ _ _ _ _ _ _ _=>rfl,L2.q_f 2 fun _ _ _ _ _ _ _ _=>rfl,L2.q_f 2 fun _ _ _ _ _ _ _ _=>rfl,L2.q_f 1 fun _ _ _ _ _ _ _=>rfl,L2.q_f 3 fun _ _ _ _ _ _ _ _ _=>rfl,L2.q_f 2 fun _ _ _ _ _ _ _ _=>rfl,L2.q_f 4 fun _ _ _ _ _ _ _ _ _ _=>rfl,L2.q_f 3 fun _ _ _ _ _ _ _ _ _=>rfl,L2.q_f 3 fun _ _ _ _ _ _ _ _ _=>rfl,L2.q_f 2 fun _ _ _ _ _ _ _ _=>rfl,L2.q_f 3 fun _ _ _ _ _ _ _ _ _=>rfl,L2.q_f 2 fun _ _ _ _ _ _ _ _=>rfl,L2.q_f 3 fun _ _ _ _ _ _ _ _ _=>rfl,L2.q_f 5 fun _ _ _ _ _ _ _ _ _ _ _=>rfl,L2.q_f 1 fun _ _ _ _ _ _ _=>rfl,L2.q_f 2 fun _ _ _ _ _ _ _ _=>rfl,L2.q_f 2 fun _ _ _ _ _ _ _ _=>rfl,L2.q_f 3 fun _ _ _ _ _ _ _ _ _=>rfl,L2.q_f 3 fun _ _ _ _ _ _ _ _ _=>rfl,L2.q_f 5 fun _ _ _ _ _ _ _ _ _ _ _=>rfl⟩⟩
#print axioms PySem.Challenge.cw_chancehall_k25_a_plan_mended_holds
