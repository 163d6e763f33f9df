import PyProof.Rows.All
import Wide.All
import OpenK.AllK
import Wide.FinOn
import Lean
import PyProof.EqAt
import PyProof.EqKinds
import PyProof.TupleCall
import PyProof.EqLayable
import KE.KIntText
import PyProof.EnumMake
import PyProof.EnumStmt
import PyProof.EnumFor
import PyProof.Rows.EnumRows
import PyProof.ExcInit
import PyProof.ExcClass2
import PyProof.InstStoreFacts
import PySem.Challenge.RW_chancehall_k20_plans
noncomputable def aj := @List.getElem?_eq_getElem
noncomputable def ak := @List.length_map
noncomputable def ao := @List.getElem?_eq_some_iff
noncomputable def aq := @List.getElem?_map
noncomputable def au := @List.length_append
noncomputable def aA := @List.mem_of_getElem?
noncomputable def aB := @List.getElem?_append_right
noncomputable def aC := @List.getElem?_append_left
noncomputable def aD := @Nat.le_refl
noncomputable def aF := @PySem.Heap.get?_push_of_some
noncomputable def aG := @List.mem_cons_of_mem
noncomputable def aH := @PySem.Heap.lt_size
noncomputable def aJ := @List.take_of_length_le
noncomputable def aK := @Nat.le_trans
noncomputable def aL := @List.length_replicate
noncomputable def aM := @List.mem_cons_self
noncomputable def aN := @List.take_length
noncomputable def aO := @List.mem_append_right
noncomputable def aP := @Nat.ne_of_lt
noncomputable def aQ := @Nat.lt_of_lt_of_le
noncomputable def aR := @List.getElem_mem
noncomputable def aU := @List.getElem?_of_mem
noncomputable def aV := @Int.fmod_eq_emod_of_nonneg
noncomputable def aW := @PySem.Heap.get?_push_size
noncomputable def aX := @List.size_toArray
noncomputable def aY := @List.length_take
noncomputable def aZ := @Nat.zero_le
noncomputable def bh := @List.map_append
noncomputable def bw := @Bool.false_ne_true
open PySem.W (Frag)
set_option Elab.async false
set_option linter.all false
set_option maxRecDepth 100000
set_option maxHeartbeats 4000000
namespace L2.Once
open PySem PySem.W
noncomputable def z:Pos:=⟨0,0,0,0⟩
noncomputable def tE:Obj:=⟨.type "tuple",none,.seq ⟨[]⟩ 0,⟨[]⟩⟩
noncomputable def fE:Obj:=⟨.none,none,.fields ⟨[]⟩,⟨[]⟩⟩
noncomputable def tN (t:Nat) (l:List Str):Obj:=⟨.type "tuple",none,.seq ⟨(l.zipIdx t).map fun x=>.str x.1 x.2⟩ 0,⟨[]⟩⟩
noncomputable def cO (n q:Str) (t:Nat) (l a f:Int) (r u:Nat):Obj:=⟨.type "code",none,.fields ⟨[.str n t,.str q (t + 1),.str "/claim/cut.py" (t + 2),.int l 0,.int a 0,.int 0 0,.int 0 0,.int f 0,.ref r,.bool true,.int 181 0,.ref (r + 1),.none,.ref (r + 2),.ref (r + 3),.ref (r + 4),.int u 0,.int l 0,.str "/claim/cut.py" (u + 1)]⟩,⟨[]⟩⟩
noncomputable def o11:Obj:={ cls:=.type "tuple",data:=.seq #[] }
noncomputable def o12:Obj:={ cls:=.none,data:=.fields #[] }
noncomputable def o13:Obj:={ cls:=.type "code",data:=.fields #[.str "<module>" 182,.str "<module>" 183,.str "/claim/cut.py" 184,.int 1 0,.int 0 0,.int 0 0,.int 0 0,.int 0 0,.ref 11,.bool false,.int 181 0,.ref 12,.none,.none,.none,.none,.int 185 0,.int 1 0,.str "/claim/cut.py" 186] }
noncomputable def o14:Obj:={ cls:=.type "frame",slots:=#[some (.ref 13),some (.ref 3),some (.ref 3),none,some (.str "__main__" 164),none,some (.ref 0)] }
noncomputable def cP (n q:Str) (t:Nat) (l a f:Int) (r u:Nat):Obj:=⟨.type "code",none,.fields ⟨[.str n t,.str q (t + 1),.str "/claim/cut.py" (t + 2),.int l 0,.int a 0,.int 0 0,.int 0 0,.int f 0,.ref r,.bool true,.int 181 0,.ref (r + 1),.none,.none,.none,.ref (r + 2),.int u 0,.int l 0,.str "/claim/cut.py" (u + 1)]⟩,⟨[]⟩⟩
noncomputable def dE (P:Params) (x:Str) (t:Nat) (v:Value):DictEntry:=⟨PyData.keyHash P x,.str x t,v⟩
noncomputable abbrev lf (o:Obj):BT:=.node o .nil .nil
noncomputable def tr (P:Params):BT:=.node (boot_o_0 P)
 (.node (boot_o_1 P) (.node (boot_o_3 P) (lf (boot_o_7 P)) (lf o11)) (.node (boot_o_5 P) (lf (boot_o_9 P)) (lf o13)))
 (.node (boot_o_2 P) (.node (boot_o_4 P) (lf (boot_o_8 P)) (lf o12)) (.node (boot_o_6 P) (lf (boot_o_10 P)) (lf o14)))
noncomputable def S0 (w:World) (os:OsState):Shared:=⟨boot_heap w.params,Array.mk [],boot_drawn,boot_toks,os⟩
noncomputable def Sa (w:World) (os:OsState):Shared:=⟨⟨Array.mk [boot_o_0 w.params,boot_o_1 w.params,boot_o_2 w.params,boot_o_3 w.params,boot_o_4 w.params,boot_o_5 w.params,boot_o_6 w.params,boot_o_7 w.params,boot_o_8 w.params,boot_o_9 w.params,boot_o_10 w.params,o11,o12,o13,o14],{}⟩,Array.mk [],{},187,os⟩
noncomputable def Sb (w:World) (os:OsState):SharedT:=⟨tr w.params,15,{},⟨[]⟩,{},187,os⟩
noncomputable def env (p:Program):Env:={ scope:=p.main.scope,locals:=mainNs,globals:=mainNs,cells:=[],code:=.ref 13,frame:=some 14 }
noncomputable def cE (p:Program):Code:=.body (behindTheImports p) (env p)
noncomputable abbrev ann:Option Value:=some (.ref 6)
noncomputable abbrev B:List Frame:=[topFrame z]
theorem size (w:World):((boot_heap w.params).isNs mainGlobals && (Array.mk [] : Array GenState).size == 0,(boot_heap w.params).objs.size,(boot_heap w.params).nsMap mainGlobals "__annotations__") = (true,11,ann):=by
 rw [Fast.te8920871248978507458]; kernel_rfl
noncomputable def kJ (p:Program) (w:World) (M:Nat) (S:SharedT) (l:List Stmt) (q:Pos) (G:Shared->Prop):Prop:=∃ s,topRun treeTable p w 11 ann M S.abs (restOf l (env p) (cE p) q B) = some s/\G s
theorem kJ.cut {p:Program} {w:World} {n M:Nat} {S S':SharedT} {l1 l2:List Stmt} {q q':Pos} {G:Shared->Prop} (h:segRunT treeTable p w 11 ann 1 n S (piecesOf l1 (env p) (cE p) q B) = some (.next,S',cE p,q')) (k:kJ p w M S' l2 q' G):kJ p w (n + M) S (l1 ++ l2) q G :=
 let ⟨s,a,b⟩:=k
 ⟨s,piece_app (segRun_of h) a,b⟩
theorem kJ.cutAt {p:Program} {w:World} {n m M:Nat} {S S':SharedT} {l:List Stmt} {q q':Pos} {G:Shared->Prop} (h:segRunT treeTable p w 11 ann 1 n S (piecesOf (l.take m) (env p) (cE p) q B) = some (.next,S',cE p,q')) (k:kJ p w M S' (l.drop m) q' G):kJ p w (n + M) S l q G:=by
 have:=kJ.cut h k
 rwa [List.take_append_drop] at this
noncomputable def Good {α:Type} (p q:Program) (loose:List Str) (Xt:Shared->Bool) (Yf:Shared->α) (Ya:World->α) (g0:Bool) (w:World) (s:Shared):Prop :=
 (staticsOk (importedModules p.main.body) (boot_heap w.params) s.heap && namesBound p s.heap && gensDone s && laidKept (boot_heap w.params) s.heap,openSeen q loose (importedModules p.main.body) Xt g0 s,Yf s) = (true,openGood q loose,Ya w)
theorem kJ.last {p q:Program} {loose:List Str} {Xt:Shared->Bool} {α:Type} {Yf:Shared->α} {Ya:World->α} {g0:Bool} {w:World} {n k:Nat} {S:SharedT} {l:List Stmt} {q0 e:Pos}
  (big:(segRunT treeTable p w 11 ann 1 n S (piecesOf l (env p) (cE p) q0 B)).map (fun r =>
    (r.1,r.2.2.1,r.2.2.2,(topRun treeTable p w 11 ann k r.2.1.abs ⟨doneF .next,cE p,e,B⟩).map fun s =>
     (staticsOk (importedModules p.main.body) (boot_heap w.params) s.heap && namesBound p s.heap && gensDone s && laidKept (boot_heap w.params) s.heap,openSeen q loose (importedModules p.main.body) Xt g0 s,Yf s))) =
   some (.next,cE p,e,some (true,openGood q loose,Ya w))):kJ p w (n + k) S l q0 (Good p q loose Xt Yf Ya g0 w):=by
 obtain ⟨⟨f,sT,c,ps⟩,r1,r2⟩:=Option.map_eq_some_iff.mp big
 obtain ⟨rfl,rfl,rfl,r3⟩ : f = .next/\c = cE p/\ps = e/\_:=by simpa only [Prod.mk.injEq] using r2
 obtain ⟨s,t1,t2⟩:=Option.map_eq_some_iff.mp r3
 have q1:=piece_app (rest:=[]) (segRun_of r1) (piece_nil t1)
 rw [List.append_nil] at q1
 exact ⟨s,q1,t2⟩
theorem Ob {p q:Program} {loose:List Str} {Xt:Shared->Bool} {α:Type} {Yf:Shared->α} {Ya:World->α} {N:Nat} {g0:Bool} {a b M:Nat}
  (open_:∀ w:World,(fencedOpening treeTable p w N).map (fun s=>(s.heap,s.gens,s.drawn,s.toks)) = some (boot_heap w.params,Array.mk [],boot_drawn,boot_toks))
  (pre:∀ w:World,(fun os=>topGo treeTable p w 11 ann a (S0 w os) (topStub p)) = fun os=>some (Sa w os,⟨denote treeTable (cE p),cE p,z,B⟩))
  (block:∀ w:World,(fun os=>segRun treeTable p w 11 ann 1 b (Sa w os) (blockOf (behindTheImports p) (env p) (cE p) z B)) = fun os=>some (.next,(Sb w os).abs,cE p,z))
  (ends:∀ (w:World) (os:OsState),kJ p w M (Sb w os) (behindTheImports p) z (Good p q loose Xt Yf Ya g0 w))
  (le:Nat.ble (a + (b + M)) N = true):LeftO p q loose Xt Yf Ya N g0:=fun w=>by
 obtain ⟨⟨h,gs,d,ks,os⟩,e1,e2⟩:=Option.map_eq_some_iff.mp (open_ w)
 obtain ⟨rfl,rfl,rfl,rfl⟩ : h = boot_heap w.params/\gs = Array.mk []/\d = boot_drawn/\ks = boot_toks:=by simpa using e2
 obtain ⟨z1,z2,z3⟩ : _/\_/\_:=by simpa only [Prod.mk.injEq] using size w
 obtain ⟨s,q1,t2⟩:=ends w os
 obtain ⟨l1,l2,l3⟩ : _/\_/\_:=by simpa only [Good,Prod.mk.injEq] using t2
 have q2:=go_top (congrFun (pre w) os) (piece_block (congrFun (block w) os) q1)
 have q3:=topRun_mono (N - (a + (b + M))) _ _ _ _ q2
 rw [show a + (b + M) + (N - (a + (b + M))) = N by have:=Nat.le_of_ble_eq_true le; omega] at q3
 have t:topFrom treeTable p w N ⟨boot_heap w.params,Array.mk [],boot_drawn,boot_toks,os⟩ = some s:=by
  unfold topFrom
  dsimp only
  rw [z1,z2,z3,show topRun treeTable p w 11 ann N ⟨boot_heap w.params,Array.mk [],boot_drawn,boot_toks,os⟩ (topStub p) = some s from q3]
  show (match staticsOk (importedModules p.main.body) (boot_heap w.params) s.heap && namesBound p s.heap && gensDone s && laidKept (boot_heap w.params) s.heap with | true=>_ | false=>_) = _
  rw [l1]
 unfold openEnds
 rw [e1]
 show (topFrom treeTable p w N _).map _ = _
 rw [t]
 exact congrArg some (Prod.ext l2 l3)
end L2.Once
namespace L2
open PySem
noncomputable def iw (s:Stmt):Arguments:=match s with
 | .FunctionDef _ a _ _ _ _ _ _ _ _=>a
 | _=>{ posonlyargs:=[],args:=[],vararg:=none,kwonlyargs:=[],kw_defaults:=[],kwarg:=none,defaults:=[] }
noncomputable def eG (s:Stmt):List Stmt:=match s with
 | .FunctionDef _ _ b _ _ _ _ _ _ _=>b
 | _=>[]
noncomputable def bK (s:Stmt):Scope:=match s with
 | .FunctionDef _ _ _ _ _ _ sc _ _ _=>sc
 | _=>{ kind:=.function,names:=[],isGenerator:=false,isCoroutine:=false }
end L2
namespace K20
open PySem L2
noncomputable def top (i:Nat):Stmt:=PySem.Challenge.pw_chancehall_k20_plans.main.body.getD i (.Pass ⟨0,0,0,0⟩)
noncomputable def dj (i j:Nat):Stmt:=match top i with | .ClassDef _ _ _ b _ _ _ _ _ _ _=>b.getD j (.Pass ⟨0,0,0,0⟩) | _=>.Pass ⟨0,0,0,0⟩
end K20
namespace H20
open PySem PySem.W L2 L2.Once K20
noncomputable abbrev p:Program:=PySem.Challenge.pw_chancehall_k20_plans
noncomputable section
noncomputable def fO (n q:Str) (s:Stmt) (m:Value) (c:Nat):Obj:=⟨.type "function",none,.func (fnOf n q (iw s) (eG s) (bK s) .none .none .none m none (.ref c) .none),⟨[]⟩⟩
noncomputable def fT (n q:Str) (s:Stmt):Obj:=⟨.none,none,.func { fnOf n q (iw s) (eG s) (bK s) .none .none .none .none none .none .none with globals:=0,builtins:=0 },⟨[]⟩⟩
noncomputable def acR (P:Params):Obj:=⟨(.type "dict"),none,(.dict ⟨dE P "__name__" 165 (.str "law_chancehall_k20_plans" 818) :: dE P "__doc__" 166 .none :: dE P "__package__" 167 .none :: dE P "__loader__" 168 (.builtin "__main__.__loader__#opaque") :: dE P "__spec__" 169 .none :: dE P "__annotations__" 170 (.ref 6) :: dE P "__builtins__" 171 (.ref 4) :: dE P "__file__" 173 (.str "/claim/cut.py" 172) :: dE P "__cached__" 174 .none :: dE P "_wall" 193 (.ref 21) :: dE P "HallError" 213 (.ref 31) :: dE P "NoNumber" 229 (.ref 44) :: dE P "NoName" 245 (.ref 56) :: dE P "NoChance" 261 (.ref 68) :: dE P "NoShare" 277 (.ref 80) :: dE P "NoText" 293 (.ref 92) :: dE P "NoRow" 318 (.ref 111) :: dE P "NoRoom" 343 (.ref 130) :: dE P "NoDoor" 368 (.ref 149) :: dE P "NoPlan" 393 (.ref 168) :: dE P "is_whole" 402 (.ref 177) :: dE P "divisor" 413 (.ref 184) :: dE P "NOUGHT" 418 (.ref 185) :: dE P "ONE" 421 (.ref 186) :: dE P "ratio" 430 (.ref 193) :: dE P "is_ratio" 439 (.ref 200) :: dE P "plus" 447 (.ref 207) :: dE P "minus" 455 (.ref 214) :: dE P "under" 463 (.ref 221) :: dE P "level" 471 (.ref 226) :: dE P "total" 479 (.ref 233) :: dE P "first_plan" 487 (.ref 238) :: dE P "fits" 495 (.ref 245) :: dE P "check_plan" 505 (.ref 252) :: dE P "LONGEST_WORD" 509 (.int 8 508) :: dE P "is_word" 515 (.ref 257) :: dE P "check_head" 525 (.ref 264) :: dE P "check_room_name" 532 (.ref 271) :: dE P "check_chance" 539 (.ref 278) :: dE P "check_pairs" 545 (.ref 283) :: dE P "joined_ways" 551 (.ref 288) :: dE P "Door" 598 (.ref 319) :: dE P "Sure" 625 (.ref 340) :: dE P "Mixed" 652 (.ref 359) :: dE P "Toss" 680 (.ref 378) :: dE P "Even" 702 (.ref 395) :: dE P "check_share" 711 (.ref 404) :: dE P "numbers_of" 721 (.ref 411) :: dE P "numbered_ways" 732 (.ref 418) :: dE P "offers_of" 743 (.ref 425) :: dE P "Hall" 817 (.ref 480) :: dE P "_law_cell" 827 (.ref 491) :: dE P "_law_stream" 839 (.ref 498) :: dE P "_law_gcd" 849 (.ref 505) :: dE P "_law_ratio" 858 (.ref 512) :: dE P "_law_names" 864 (.ref 517) :: dE P "_law_share" 873 (.ref 524) :: dE P "_law_pay" 882 (.ref 531) :: dE P "_law_door" 888 (.ref 536) :: dE P "_law_doors" 894 (.ref 541) :: dE P "_law_built" 900 (.ref 546) :: dE P "_law_hall" 906 (.ref 551) :: dE P "_law_chosen" 917 (.ref 558) :: dE P "_law_size" 925 (.ref 565) :: dE P "_law_is_plan" 934 (.ref 572) :: dE P "_law_odd" 942 (.ref 579) :: dE P "_law_spoilt" 956 (.ref 586) :: []⟩ 67),⟨[]⟩⟩
noncomputable def YK:Obj:=⟨.none,none,(.fields ⟨(.int 1 0) :: (.int 0 0) :: (.ref 20) :: (.int 5 0) :: (.int 0 0) :: (.ref 27) :: (.int 7 0) :: (.int 0 0) :: (.ref 40) :: (.int 9 0) :: (.int 0 0) :: (.ref 52) :: (.int 11 0) :: (.int 0 0) :: (.ref 64) :: (.int 13 0) :: (.int 0 0) :: (.ref 76) :: (.int 15 0) :: (.int 0 0) :: (.ref 88) :: (.int 17 0) :: (.int 0 0) :: (.ref 100) :: (.int 22 0) :: (.int 0 0) :: (.ref 119) :: (.int 27 0) :: (.int 0 0) :: (.ref 138) :: (.int 32 0) :: (.int 0 0) :: (.ref 157) :: (.int 38 0) :: (.int 0 0) :: (.ref 176) :: (.int 40 0) :: (.int 0 0) :: (.ref 183) :: (.int 51 0) :: (.int 0 0) :: (.ref 192) :: (.int 60 0) :: (.int 0 0) :: (.ref 199) :: (.int 68 0) :: (.int 0 0) :: (.ref 206) :: (.int 70 0) :: (.int 0 0) :: (.ref 213) :: (.int 72 0) :: (.int 0 0) :: (.ref 220) :: (.int 75 0) :: (.int 0 0) :: (.ref 225) :: (.int 80 0) :: (.int 0 0) :: (.ref 232) :: (.int 84 0) :: (.int 0 0) :: (.ref 237) :: (.int 86 0) :: (.int 0 0) :: (.ref 244) :: (.int 90 0) :: (.int 0 0) :: (.ref 251) :: (.int 99 0) :: (.int 0 0) :: (.ref 256) :: (.int 104 0) :: (.int 0 0) :: (.ref 263) :: (.int 109 0) :: (.int 0 0) :: (.ref 270) :: (.int 112 0) :: (.int 0 0) :: (.ref 277) :: (.int 115 0) :: (.int 0 0) :: (.ref 282) :: (.int 121 0) :: (.int 0 0) :: (.ref 287) :: (.int 126 0) :: (.int 0 0) :: (.ref 294) :: (.int 139 0) :: (.int 0 0) :: (.ref 329) :: (.int 145 0) :: (.int 0 0) :: (.ref 348) :: (.int 151 0) :: (.int 0 0) :: (.ref 367) :: (.int 157 0) :: (.int 0 0) :: (.ref 386) :: (.int 162 0) :: (.int 0 0) :: (.ref 403) :: (.int 165 0) :: (.int 0 0) :: (.ref 410) :: (.int 173 0) :: (.int 0 0) :: (.ref 417) :: (.int 180 0) :: (.int 0 0) :: (.ref 424) :: (.int 189 0) :: (.int 0 0) :: (.ref 431) :: (.int 219 0) :: (.int 0 0) :: (.ref 490) :: (.int 221 0) :: (.int 0 0) :: (.ref 497) :: (.int 232 0) :: (.int 0 0) :: (.ref 504) :: (.int 237 0) :: (.int 0 0) :: (.ref 511) :: (.int 240 0) :: (.int 0 0) :: (.ref 516) :: (.int 249 0) :: (.int 0 0) :: (.ref 523) :: (.int 253 0) :: (.int 0 0) :: (.ref 530) :: (.int 261 0) :: (.int 0 0) :: (.ref 535) :: (.int 278 0) :: (.int 0 0) :: (.ref 540) :: (.int 288 0) :: (.int 0 0) :: (.ref 545) :: (.int 298 0) :: (.int 0 0) :: (.ref 550) :: (.int 305 0) :: (.int 0 0) :: (.ref 557) :: (.int 314 0) :: (.int 0 0) :: (.ref 564) :: (.int 321 0) :: (.int 0 0) :: (.ref 571) :: (.int 331 0) :: (.int 0 0) :: (.ref 578) :: (.int 335 0) :: (.int 0 0) :: (.ref 585) :: []⟩),⟨[]⟩⟩
noncomputable def q21:Obj:=(fO "_wall" "_wall" (top 0) (.str "__main__" 164) 20)
noncomputable def q22:Obj:=⟨(.type "tuple"),none,(.seq ⟨(.type "ValueError") :: []⟩ 0),⟨[]⟩⟩
noncomputable def q23:Obj:=⟨(.type "builtin_function_or_method"),none,(.fields ⟨(.builtin "type.__prepare__") :: (.type "type") :: []⟩),⟨[]⟩⟩
noncomputable def q24 (P:Params):Obj:=⟨(.type "dict"),none,(.dict ⟨dE P "__module__" 203 (.str "chancehall.errors" 194) :: dE P "__qualname__" 205 (.str "HallError" 204) :: dE P "__firstlineno__" 207 (.int 5 206) :: dE P "__static_attributes__" 208 (.ref 29) :: []⟩ 4),⟨[]⟩⟩
noncomputable def q27:Obj:=⟨(.type "code"),none,(.fields ⟨(.str "HallError" 198) :: (.str "HallError" 199) :: (.str "/claim/cut.py" 200) :: (.int 5 0) :: (.int 0 0) :: (.int 0 0) :: (.int 0 0) :: (.int 0 0) :: (.ref 25) :: (.bool false) :: (.int 181 0) :: (.ref 26) :: .none :: .none :: .none :: .none :: (.int 201 0) :: (.int 5 0) :: (.str "/claim/cut.py" 202) :: []⟩),⟨[]⟩⟩
noncomputable def q28:Obj:=⟨(.type "frame"),none,.plain,⟨(some (.ref 27)) :: (some (.ref 3)) :: (some (.ref 24)) :: none :: (some (.str "chancehall.errors" 194)) :: none :: (some (.ref 0)) :: []⟩⟩
noncomputable def q30 (P:Params):Obj:=⟨(.type "dict"),none,(.dict ⟨dE P "__module__" 203 (.str "chancehall.errors" 194) :: dE P "__firstlineno__" 207 (.int 5 206) :: dE P "__static_attributes__" 208 (.ref 29) :: dE P "__weakref__" 210 (.ref 32) :: dE P "__doc__" 211 .none :: []⟩ 3),⟨[]⟩⟩
noncomputable def q31:Obj:=⟨(.type "type"),none,(.cls ⟨"HallError",[(.type "ValueError")],[(.ref 31),(.type "ValueError"),(.type "Exception"),(.type "BaseException"),(.type "object")],30, "HallError",true,[],[(.ref 44),(.ref 56),(.ref 68),(.ref 80),(.ref 92),(.ref 111),(.ref 130),(.ref 149),(.ref 168)],false,none,false⟩),⟨(some (.ref 22)) :: none :: (some (.str "HallError" 196)) :: (some (.str "HallError" 204)) :: (some (.builtin "ValueError.__new__")) :: (some (.bool true)) :: []⟩⟩
noncomputable def q32:Obj:=⟨(.type "getset_descriptor"),none,(.fields ⟨(.str "__weakref__" 209) :: (.ref 31) :: (.builtin "ExceptionGroup.__weakref__") :: .none :: []⟩),⟨[]⟩⟩
noncomputable def q33:Obj:=⟨(.type "super"),none,(.fields ⟨(.ref 31) :: (.ref 31) :: (.ref 31) :: []⟩),⟨[]⟩⟩
noncomputable def q34:Obj:=⟨(.type "builtin_function_or_method"),none,(.fields ⟨(.builtin "object.__init_subclass__") :: (.ref 31) :: []⟩),⟨[]⟩⟩
noncomputable def q35:Obj:=⟨(.type "tuple"),none,(.seq ⟨(.ref 31) :: []⟩ 0),⟨[]⟩⟩
noncomputable def q36:Obj:=⟨(.type "builtin_function_or_method"),none,(.fields ⟨(.builtin "type.__prepare__") :: (.type "type") :: []⟩),⟨[]⟩⟩
noncomputable def q37 (P:Params):Obj:=⟨(.type "dict"),none,(.dict ⟨dE P "__module__" 221 (.str "chancehall.errors" 194) :: dE P "__qualname__" 223 (.str "NoNumber" 222) :: dE P "__firstlineno__" 225 (.int 7 224) :: dE P "__static_attributes__" 226 (.ref 42) :: []⟩ 4),⟨[]⟩⟩
noncomputable def q40:Obj:=⟨(.type "code"),none,(.fields ⟨(.str "NoNumber" 216) :: (.str "NoNumber" 217) :: (.str "/claim/cut.py" 218) :: (.int 7 0) :: (.int 0 0) :: (.int 0 0) :: (.int 0 0) :: (.int 0 0) :: (.ref 38) :: (.bool false) :: (.int 181 0) :: (.ref 39) :: .none :: .none :: .none :: .none :: (.int 219 0) :: (.int 7 0) :: (.str "/claim/cut.py" 220) :: []⟩),⟨[]⟩⟩
noncomputable def q41:Obj:=⟨(.type "frame"),none,.plain,⟨(some (.ref 40)) :: (some (.ref 3)) :: (some (.ref 37)) :: none :: (some (.str "chancehall.errors" 194)) :: none :: (some (.ref 0)) :: []⟩⟩
noncomputable def q43 (P:Params):Obj:=⟨(.type "dict"),none,(.dict ⟨dE P "__module__" 221 (.str "chancehall.errors" 194) :: dE P "__firstlineno__" 225 (.int 7 224) :: dE P "__static_attributes__" 226 (.ref 42) :: dE P "__doc__" 227 .none :: []⟩ 2),⟨[]⟩⟩
noncomputable def q44:Obj:=⟨(.type "type"),none,(.cls ⟨"NoNumber",[(.ref 31)],[(.ref 44),(.ref 31),(.type "ValueError"),(.type "Exception"),(.type "BaseException"),(.type "object")],43, "NoNumber",true,[],[],false,none,false⟩),⟨(some (.ref 35)) :: none :: (some (.str "NoNumber" 214)) :: (some (.str "NoNumber" 222)) :: (some (.builtin "ValueError.__new__")) :: (some (.bool true)) :: []⟩⟩
noncomputable def q45:Obj:=⟨(.type "super"),none,(.fields ⟨(.ref 44) :: (.ref 44) :: (.ref 44) :: []⟩),⟨[]⟩⟩
noncomputable def q46:Obj:=⟨(.type "builtin_function_or_method"),none,(.fields ⟨(.builtin "object.__init_subclass__") :: (.ref 44) :: []⟩),⟨[]⟩⟩
noncomputable def q47:Obj:=⟨(.type "tuple"),none,(.seq ⟨(.ref 31) :: []⟩ 0),⟨[]⟩⟩
noncomputable def q48:Obj:=⟨(.type "builtin_function_or_method"),none,(.fields ⟨(.builtin "type.__prepare__") :: (.type "type") :: []⟩),⟨[]⟩⟩
noncomputable def q49 (P:Params):Obj:=⟨(.type "dict"),none,(.dict ⟨dE P "__module__" 237 (.str "chancehall.errors" 194) :: dE P "__qualname__" 239 (.str "NoName" 238) :: dE P "__firstlineno__" 241 (.int 9 240) :: dE P "__static_attributes__" 242 (.ref 54) :: []⟩ 4),⟨[]⟩⟩
noncomputable def q52:Obj:=⟨(.type "code"),none,(.fields ⟨(.str "NoName" 232) :: (.str "NoName" 233) :: (.str "/claim/cut.py" 234) :: (.int 9 0) :: (.int 0 0) :: (.int 0 0) :: (.int 0 0) :: (.int 0 0) :: (.ref 50) :: (.bool false) :: (.int 181 0) :: (.ref 51) :: .none :: .none :: .none :: .none :: (.int 235 0) :: (.int 9 0) :: (.str "/claim/cut.py" 236) :: []⟩),⟨[]⟩⟩
noncomputable def q53:Obj:=⟨(.type "frame"),none,.plain,⟨(some (.ref 52)) :: (some (.ref 3)) :: (some (.ref 49)) :: none :: (some (.str "chancehall.errors" 194)) :: none :: (some (.ref 0)) :: []⟩⟩
noncomputable def q55 (P:Params):Obj:=⟨(.type "dict"),none,(.dict ⟨dE P "__module__" 237 (.str "chancehall.errors" 194) :: dE P "__firstlineno__" 241 (.int 9 240) :: dE P "__static_attributes__" 242 (.ref 54) :: dE P "__doc__" 243 .none :: []⟩ 2),⟨[]⟩⟩
noncomputable def q56:Obj:=⟨(.type "type"),none,(.cls ⟨"NoName",[(.ref 31)],[(.ref 56),(.ref 31),(.type "ValueError"),(.type "Exception"),(.type "BaseException"),(.type "object")],55, "NoName",true,[],[],false,none,false⟩),⟨(some (.ref 47)) :: none :: (some (.str "NoName" 230)) :: (some (.str "NoName" 238)) :: (some (.builtin "ValueError.__new__")) :: (some (.bool true)) :: []⟩⟩
noncomputable def q57:Obj:=⟨(.type "super"),none,(.fields ⟨(.ref 56) :: (.ref 56) :: (.ref 56) :: []⟩),⟨[]⟩⟩
noncomputable def q58:Obj:=⟨(.type "builtin_function_or_method"),none,(.fields ⟨(.builtin "object.__init_subclass__") :: (.ref 56) :: []⟩),⟨[]⟩⟩
noncomputable def q59:Obj:=⟨(.type "tuple"),none,(.seq ⟨(.ref 31) :: []⟩ 0),⟨[]⟩⟩
noncomputable def q60:Obj:=⟨(.type "builtin_function_or_method"),none,(.fields ⟨(.builtin "type.__prepare__") :: (.type "type") :: []⟩),⟨[]⟩⟩
noncomputable def q61 (P:Params):Obj:=⟨(.type "dict"),none,(.dict ⟨dE P "__module__" 253 (.str "chancehall.errors" 194) :: dE P "__qualname__" 255 (.str "NoChance" 254) :: dE P "__firstlineno__" 257 (.int 11 256) :: dE P "__static_attributes__" 258 (.ref 66) :: []⟩ 4),⟨[]⟩⟩
noncomputable def q64:Obj:=⟨(.type "code"),none,(.fields ⟨(.str "NoChance" 248) :: (.str "NoChance" 249) :: (.str "/claim/cut.py" 250) :: (.int 11 0) :: (.int 0 0) :: (.int 0 0) :: (.int 0 0) :: (.int 0 0) :: (.ref 62) :: (.bool false) :: (.int 181 0) :: (.ref 63) :: .none :: .none :: .none :: .none :: (.int 251 0) :: (.int 11 0) :: (.str "/claim/cut.py" 252) :: []⟩),⟨[]⟩⟩
noncomputable def q65:Obj:=⟨(.type "frame"),none,.plain,⟨(some (.ref 64)) :: (some (.ref 3)) :: (some (.ref 61)) :: none :: (some (.str "chancehall.errors" 194)) :: none :: (some (.ref 0)) :: []⟩⟩
noncomputable def q67 (P:Params):Obj:=⟨(.type "dict"),none,(.dict ⟨dE P "__module__" 253 (.str "chancehall.errors" 194) :: dE P "__firstlineno__" 257 (.int 11 256) :: dE P "__static_attributes__" 258 (.ref 66) :: dE P "__doc__" 259 .none :: []⟩ 2),⟨[]⟩⟩
noncomputable def q68:Obj:=⟨(.type "type"),none,(.cls ⟨"NoChance",[(.ref 31)],[(.ref 68),(.ref 31),(.type "ValueError"),(.type "Exception"),(.type "BaseException"),(.type "object")],67, "NoChance",true,[],[],false,none,false⟩),⟨(some (.ref 59)) :: none :: (some (.str "NoChance" 246)) :: (some (.str "NoChance" 254)) :: (some (.builtin "ValueError.__new__")) :: (some (.bool true)) :: []⟩⟩
noncomputable def q69:Obj:=⟨(.type "super"),none,(.fields ⟨(.ref 68) :: (.ref 68) :: (.ref 68) :: []⟩),⟨[]⟩⟩
noncomputable def q70:Obj:=⟨(.type "builtin_function_or_method"),none,(.fields ⟨(.builtin "object.__init_subclass__") :: (.ref 68) :: []⟩),⟨[]⟩⟩
noncomputable def q71:Obj:=⟨(.type "tuple"),none,(.seq ⟨(.ref 31) :: []⟩ 0),⟨[]⟩⟩
noncomputable def q72:Obj:=⟨(.type "builtin_function_or_method"),none,(.fields ⟨(.builtin "type.__prepare__") :: (.type "type") :: []⟩),⟨[]⟩⟩
noncomputable def q73 (P:Params):Obj:=⟨(.type "dict"),none,(.dict ⟨dE P "__module__" 269 (.str "chancehall.errors" 194) :: dE P "__qualname__" 271 (.str "NoShare" 270) :: dE P "__firstlineno__" 273 (.int 13 272) :: dE P "__static_attributes__" 274 (.ref 78) :: []⟩ 4),⟨[]⟩⟩
noncomputable def q76:Obj:=⟨(.type "code"),none,(.fields ⟨(.str "NoShare" 264) :: (.str "NoShare" 265) :: (.str "/claim/cut.py" 266) :: (.int 13 0) :: (.int 0 0) :: (.int 0 0) :: (.int 0 0) :: (.int 0 0) :: (.ref 74) :: (.bool false) :: (.int 181 0) :: (.ref 75) :: .none :: .none :: .none :: .none :: (.int 267 0) :: (.int 13 0) :: (.str "/claim/cut.py" 268) :: []⟩),⟨[]⟩⟩
noncomputable def q77:Obj:=⟨(.type "frame"),none,.plain,⟨(some (.ref 76)) :: (some (.ref 3)) :: (some (.ref 73)) :: none :: (some (.str "chancehall.errors" 194)) :: none :: (some (.ref 0)) :: []⟩⟩
noncomputable def q79 (P:Params):Obj:=⟨(.type "dict"),none,(.dict ⟨dE P "__module__" 269 (.str "chancehall.errors" 194) :: dE P "__firstlineno__" 273 (.int 13 272) :: dE P "__static_attributes__" 274 (.ref 78) :: dE P "__doc__" 275 .none :: []⟩ 2),⟨[]⟩⟩
noncomputable def q80:Obj:=⟨(.type "type"),none,(.cls ⟨"NoShare",[(.ref 31)],[(.ref 80),(.ref 31),(.type "ValueError"),(.type "Exception"),(.type "BaseException"),(.type "object")],79, "NoShare",true,[],[],false,none,false⟩),⟨(some (.ref 71)) :: none :: (some (.str "NoShare" 262)) :: (some (.str "NoShare" 270)) :: (some (.builtin "ValueError.__new__")) :: (some (.bool true)) :: []⟩⟩
noncomputable def q81:Obj:=⟨(.type "super"),none,(.fields ⟨(.ref 80) :: (.ref 80) :: (.ref 80) :: []⟩),⟨[]⟩⟩
noncomputable def q82:Obj:=⟨(.type "builtin_function_or_method"),none,(.fields ⟨(.builtin "object.__init_subclass__") :: (.ref 80) :: []⟩),⟨[]⟩⟩
noncomputable def q83:Obj:=⟨(.type "tuple"),none,(.seq ⟨(.ref 31) :: []⟩ 0),⟨[]⟩⟩
noncomputable def q84:Obj:=⟨(.type "builtin_function_or_method"),none,(.fields ⟨(.builtin "type.__prepare__") :: (.type "type") :: []⟩),⟨[]⟩⟩
noncomputable def q85 (P:Params):Obj:=⟨(.type "dict"),none,(.dict ⟨dE P "__module__" 285 (.str "chancehall.errors" 194) :: dE P "__qualname__" 287 (.str "NoText" 286) :: dE P "__firstlineno__" 289 (.int 15 288) :: dE P "__static_attributes__" 290 (.ref 90) :: []⟩ 4),⟨[]⟩⟩
noncomputable def q88:Obj:=⟨(.type "code"),none,(.fields ⟨(.str "NoText" 280) :: (.str "NoText" 281) :: (.str "/claim/cut.py" 282) :: (.int 15 0) :: (.int 0 0) :: (.int 0 0) :: (.int 0 0) :: (.int 0 0) :: (.ref 86) :: (.bool false) :: (.int 181 0) :: (.ref 87) :: .none :: .none :: .none :: .none :: (.int 283 0) :: (.int 15 0) :: (.str "/claim/cut.py" 284) :: []⟩),⟨[]⟩⟩
noncomputable def q89:Obj:=⟨(.type "frame"),none,.plain,⟨(some (.ref 88)) :: (some (.ref 3)) :: (some (.ref 85)) :: none :: (some (.str "chancehall.errors" 194)) :: none :: (some (.ref 0)) :: []⟩⟩
noncomputable def q91 (P:Params):Obj:=⟨(.type "dict"),none,(.dict ⟨dE P "__module__" 285 (.str "chancehall.errors" 194) :: dE P "__firstlineno__" 289 (.int 15 288) :: dE P "__static_attributes__" 290 (.ref 90) :: dE P "__doc__" 291 .none :: []⟩ 2),⟨[]⟩⟩
noncomputable def q92:Obj:=⟨(.type "type"),none,(.cls ⟨"NoText",[(.ref 31)],[(.ref 92),(.ref 31),(.type "ValueError"),(.type "Exception"),(.type "BaseException"),(.type "object")],91, "NoText",true,[],[],false,none,false⟩),⟨(some (.ref 83)) :: none :: (some (.str "NoText" 278)) :: (some (.str "NoText" 286)) :: (some (.builtin "ValueError.__new__")) :: (some (.bool true)) :: []⟩⟩
noncomputable def q93:Obj:=⟨(.type "super"),none,(.fields ⟨(.ref 92) :: (.ref 92) :: (.ref 92) :: []⟩),⟨[]⟩⟩
noncomputable def q94:Obj:=⟨(.type "builtin_function_or_method"),none,(.fields ⟨(.builtin "object.__init_subclass__") :: (.ref 92) :: []⟩),⟨[]⟩⟩
noncomputable def q95:Obj:=⟨(.type "tuple"),none,(.seq ⟨(.ref 31) :: []⟩ 0),⟨[]⟩⟩
noncomputable def q96:Obj:=⟨(.type "builtin_function_or_method"),none,(.fields ⟨(.builtin "type.__prepare__") :: (.type "type") :: []⟩),⟨[]⟩⟩
noncomputable def q97 (P:Params):Obj:=⟨(.type "dict"),none,(.dict ⟨dE P "__module__" 301 (.str "chancehall.errors" 194) :: dE P "__qualname__" 303 (.str "NoRow" 302) :: dE P "__firstlineno__" 305 (.int 17 304) :: dE P "__init__" 313 (.ref 108) :: dE P "__static_attributes__" 315 (.ref 109) :: []⟩ 5),⟨[]⟩⟩
noncomputable def q99:Obj:=⟨.none,none,(.fields ⟨(.int 19 0) :: (.int 4 0) :: (.ref 107) :: []⟩),⟨[]⟩⟩
noncomputable def aco:Obj:=⟨(.type "code"),none,(.fields ⟨(.str "NoRow" 296) :: (.str "NoRow" 297) :: (.str "/claim/cut.py" 298) :: (.int 17 0) :: (.int 0 0) :: (.int 0 0) :: (.int 0 0) :: (.int 0 0) :: (.ref 98) :: (.bool false) :: (.int 181 0) :: (.ref 99) :: .none :: .none :: .none :: .none :: (.int 299 0) :: (.int 17 0) :: (.str "/claim/cut.py" 300) :: []⟩),⟨[]⟩⟩
noncomputable def acU:Obj:=⟨(.type "frame"),none,.plain,⟨(some (.ref 100)) :: (some (.ref 3)) :: (some (.ref 97)) :: none :: (some (.str "chancehall.errors" 194)) :: none :: (some (.ref 0)) :: []⟩⟩
noncomputable def ZG:Obj:=(cO "__init__" "NoRow.__init__" 306 19 2 3 102 311)
noncomputable def ZV:Obj:=(fO "__init__" "NoRow.__init__" (dj 8 0) (.str "chancehall.errors" 194) 107)
noncomputable def aaw (P:Params):Obj:=⟨(.type "dict"),none,(.dict ⟨dE P "__module__" 301 (.str "chancehall.errors" 194) :: dE P "__firstlineno__" 305 (.int 17 304) :: dE P "__init__" 313 (.ref 108) :: dE P "__static_attributes__" 315 (.ref 109) :: dE P "__doc__" 316 .none :: []⟩ 2),⟨[]⟩⟩
noncomputable def aaW:Obj:=⟨(.type "type"),none,(.cls ⟨"NoRow",[(.ref 31)],[(.ref 111),(.ref 31),(.type "ValueError"),(.type "Exception"),(.type "BaseException"),(.type "object")],110, "NoRow",true,[],[],false,none,false⟩),⟨(some (.ref 95)) :: none :: (some (.str "NoRow" 294)) :: (some (.str "NoRow" 302)) :: (some (.builtin "ValueError.__new__")) :: (some (.bool true)) :: []⟩⟩
noncomputable def acK:Obj:=⟨(.type "super"),none,(.fields ⟨(.ref 111) :: (.ref 111) :: (.ref 111) :: []⟩),⟨[]⟩⟩
noncomputable def ab8:Obj:=⟨(.type "builtin_function_or_method"),none,(.fields ⟨(.builtin "object.__init_subclass__") :: (.ref 111) :: []⟩),⟨[]⟩⟩
noncomputable def aa7:Obj:=⟨(.type "tuple"),none,(.seq ⟨(.ref 31) :: []⟩ 0),⟨[]⟩⟩
noncomputable def ac4:Obj:=⟨(.type "builtin_function_or_method"),none,(.fields ⟨(.builtin "type.__prepare__") :: (.type "type") :: []⟩),⟨[]⟩⟩
noncomputable def acd (P:Params):Obj:=⟨(.type "dict"),none,(.dict ⟨dE P "__module__" 326 (.str "chancehall.errors" 194) :: dE P "__qualname__" 328 (.str "NoRoom" 327) :: dE P "__firstlineno__" 330 (.int 22 329) :: dE P "__init__" 338 (.ref 127) :: dE P "__static_attributes__" 340 (.ref 128) :: []⟩ 5),⟨[]⟩⟩
noncomputable def acZ:Obj:=⟨.none,none,(.fields ⟨(.int 24 0) :: (.int 4 0) :: (.ref 126) :: []⟩),⟨[]⟩⟩
noncomputable def ada:Obj:=⟨(.type "code"),none,(.fields ⟨(.str "NoRoom" 321) :: (.str "NoRoom" 322) :: (.str "/claim/cut.py" 323) :: (.int 22 0) :: (.int 0 0) :: (.int 0 0) :: (.int 0 0) :: (.int 0 0) :: (.ref 117) :: (.bool false) :: (.int 181 0) :: (.ref 118) :: .none :: .none :: .none :: .none :: (.int 324 0) :: (.int 22 0) :: (.str "/claim/cut.py" 325) :: []⟩),⟨[]⟩⟩
noncomputable def adq:Obj:=⟨(.type "frame"),none,.plain,⟨(some (.ref 119)) :: (some (.ref 3)) :: (some (.ref 116)) :: none :: (some (.str "chancehall.errors" 194)) :: none :: (some (.ref 0)) :: []⟩⟩
noncomputable def aaA:Obj:=(cO "__init__" "NoRoom.__init__" 331 24 2 3 121 336)
noncomputable def aam:Obj:=(fO "__init__" "NoRoom.__init__" (dj 9 0) (.str "chancehall.errors" 194) 126)
noncomputable def aas (P:Params):Obj:=⟨(.type "dict"),none,(.dict ⟨dE P "__module__" 326 (.str "chancehall.errors" 194) :: dE P "__firstlineno__" 330 (.int 22 329) :: dE P "__init__" 338 (.ref 127) :: dE P "__static_attributes__" 340 (.ref 128) :: dE P "__doc__" 341 .none :: []⟩ 2),⟨[]⟩⟩
noncomputable def aaE:Obj:=⟨(.type "type"),none,(.cls ⟨"NoRoom",[(.ref 31)],[(.ref 130),(.ref 31),(.type "ValueError"),(.type "Exception"),(.type "BaseException"),(.type "object")],129, "NoRoom",true,[],[],false,none,false⟩),⟨(some (.ref 114)) :: none :: (some (.str "NoRoom" 319)) :: (some (.str "NoRoom" 327)) :: (some (.builtin "ValueError.__new__")) :: (some (.bool true)) :: []⟩⟩
noncomputable def acT:Obj:=⟨(.type "super"),none,(.fields ⟨(.ref 130) :: (.ref 130) :: (.ref 130) :: []⟩),⟨[]⟩⟩
noncomputable def acH:Obj:=⟨(.type "builtin_function_or_method"),none,(.fields ⟨(.builtin "object.__init_subclass__") :: (.ref 130) :: []⟩),⟨[]⟩⟩
noncomputable def aao:Obj:=⟨(.type "tuple"),none,(.seq ⟨(.ref 31) :: []⟩ 0),⟨[]⟩⟩
noncomputable def acp:Obj:=⟨(.type "builtin_function_or_method"),none,(.fields ⟨(.builtin "type.__prepare__") :: (.type "type") :: []⟩),⟨[]⟩⟩
noncomputable def acJ (P:Params):Obj:=⟨(.type "dict"),none,(.dict ⟨dE P "__module__" 351 (.str "chancehall.errors" 194) :: dE P "__qualname__" 353 (.str "NoDoor" 352) :: dE P "__firstlineno__" 355 (.int 27 354) :: dE P "__init__" 363 (.ref 146) :: dE P "__static_attributes__" 365 (.ref 147) :: []⟩ 5),⟨[]⟩⟩
noncomputable def ach:Obj:=⟨.none,none,(.fields ⟨(.int 29 0) :: (.int 4 0) :: (.ref 145) :: []⟩),⟨[]⟩⟩
noncomputable def adA:Obj:=⟨(.type "code"),none,(.fields ⟨(.str "NoDoor" 346) :: (.str "NoDoor" 347) :: (.str "/claim/cut.py" 348) :: (.int 27 0) :: (.int 0 0) :: (.int 0 0) :: (.int 0 0) :: (.int 0 0) :: (.ref 136) :: (.bool false) :: (.int 181 0) :: (.ref 137) :: .none :: .none :: .none :: .none :: (.int 349 0) :: (.int 27 0) :: (.str "/claim/cut.py" 350) :: []⟩),⟨[]⟩⟩
noncomputable def ab4:Obj:=⟨(.type "frame"),none,.plain,⟨(some (.ref 138)) :: (some (.ref 3)) :: (some (.ref 135)) :: none :: (some (.str "chancehall.errors" 194)) :: none :: (some (.ref 0)) :: []⟩⟩
noncomputable def YL:Obj:=(cO "__init__" "NoDoor.__init__" 356 29 2 3 140 361)
noncomputable def aa8:Obj:=(fO "__init__" "NoDoor.__init__" (dj 10 0) (.str "chancehall.errors" 194) 145)
noncomputable def abj (P:Params):Obj:=⟨(.type "dict"),none,(.dict ⟨dE P "__module__" 351 (.str "chancehall.errors" 194) :: dE P "__firstlineno__" 355 (.int 27 354) :: dE P "__init__" 363 (.ref 146) :: dE P "__static_attributes__" 365 (.ref 147) :: dE P "__doc__" 366 .none :: []⟩ 2),⟨[]⟩⟩
noncomputable def abd:Obj:=⟨(.type "type"),none,(.cls ⟨"NoDoor",[(.ref 31)],[(.ref 149),(.ref 31),(.type "ValueError"),(.type "Exception"),(.type "BaseException"),(.type "object")],148, "NoDoor",true,[],[],false,none,false⟩),⟨(some (.ref 133)) :: none :: (some (.str "NoDoor" 344)) :: (some (.str "NoDoor" 352)) :: (some (.builtin "ValueError.__new__")) :: (some (.bool true)) :: []⟩⟩
noncomputable def ac9:Obj:=⟨(.type "super"),none,(.fields ⟨(.ref 149) :: (.ref 149) :: (.ref 149) :: []⟩),⟨[]⟩⟩
noncomputable def ac6:Obj:=⟨(.type "builtin_function_or_method"),none,(.fields ⟨(.builtin "object.__init_subclass__") :: (.ref 149) :: []⟩),⟨[]⟩⟩
noncomputable def Zx:Obj:=⟨(.type "tuple"),none,(.seq ⟨(.ref 31) :: []⟩ 0),⟨[]⟩⟩
noncomputable def acE:Obj:=⟨(.type "builtin_function_or_method"),none,(.fields ⟨(.builtin "type.__prepare__") :: (.type "type") :: []⟩),⟨[]⟩⟩
noncomputable def acg (P:Params):Obj:=⟨(.type "dict"),none,(.dict ⟨dE P "__module__" 376 (.str "chancehall.errors" 194) :: dE P "__qualname__" 378 (.str "NoPlan" 377) :: dE P "__firstlineno__" 380 (.int 32 379) :: dE P "__init__" 388 (.ref 165) :: dE P "__static_attributes__" 390 (.ref 166) :: []⟩ 5),⟨[]⟩⟩
noncomputable def ab5:Obj:=⟨.none,none,(.fields ⟨(.int 34 0) :: (.int 4 0) :: (.ref 164) :: []⟩),⟨[]⟩⟩
noncomputable def adl:Obj:=⟨(.type "code"),none,(.fields ⟨(.str "NoPlan" 371) :: (.str "NoPlan" 372) :: (.str "/claim/cut.py" 373) :: (.int 32 0) :: (.int 0 0) :: (.int 0 0) :: (.int 0 0) :: (.int 0 0) :: (.ref 155) :: (.bool false) :: (.int 181 0) :: (.ref 156) :: .none :: .none :: .none :: .none :: (.int 374 0) :: (.int 32 0) :: (.str "/claim/cut.py" 375) :: []⟩),⟨[]⟩⟩
noncomputable def acA:Obj:=⟨(.type "frame"),none,.plain,⟨(some (.ref 157)) :: (some (.ref 3)) :: (some (.ref 154)) :: none :: (some (.str "chancehall.errors" 194)) :: none :: (some (.ref 0)) :: []⟩⟩
noncomputable def YX:Obj:=(cO "__init__" "NoPlan.__init__" 381 34 2 3 159 386)
noncomputable def abr:Obj:=(fO "__init__" "NoPlan.__init__" (dj 11 0) (.str "chancehall.errors" 194) 164)
noncomputable def aaV (P:Params):Obj:=⟨(.type "dict"),none,(.dict ⟨dE P "__module__" 376 (.str "chancehall.errors" 194) :: dE P "__firstlineno__" 380 (.int 32 379) :: dE P "__init__" 388 (.ref 165) :: dE P "__static_attributes__" 390 (.ref 166) :: dE P "__doc__" 391 .none :: []⟩ 2),⟨[]⟩⟩
noncomputable def aaZ:Obj:=⟨(.type "type"),none,(.cls ⟨"NoPlan",[(.ref 31)],[(.ref 168),(.ref 31),(.type "ValueError"),(.type "Exception"),(.type "BaseException"),(.type "object")],167, "NoPlan",true,[],[],false,none,false⟩),⟨(some (.ref 152)) :: none :: (some (.str "NoPlan" 369)) :: (some (.str "NoPlan" 377)) :: (some (.builtin "ValueError.__new__")) :: (some (.bool true)) :: []⟩⟩
noncomputable def acY:Obj:=⟨(.type "super"),none,(.fields ⟨(.ref 168) :: (.ref 168) :: (.ref 168) :: []⟩),⟨[]⟩⟩
noncomputable def adv:Obj:=⟨(.type "builtin_function_or_method"),none,(.fields ⟨(.builtin "object.__init_subclass__") :: (.ref 168) :: []⟩),⟨[]⟩⟩
noncomputable def abB:Obj:=(fO "is_whole" "is_whole" (top 13) (.str "chancehall.wholes" 394) 176)
noncomputable def Zy:Obj:=(tN 406 ["one", "other", "left", "right", "rest"])
noncomputable def YD:Obj:=(fO "divisor" "divisor" (top 14) (.str "chancehall.wholes" 394) 183)
noncomputable def YM:Obj:=⟨(.type "tuple"),none,(.seq ⟨(.int 0 416) :: (.int 1 417) :: []⟩ 0),⟨[]⟩⟩
noncomputable def abC:Obj:=⟨(.type "tuple"),none,(.seq ⟨(.int 1 419) :: (.int 1 420) :: []⟩ 0),⟨[]⟩⟩
noncomputable def Y5:Obj:=(fO "ratio" "ratio" (top 18) (.str "chancehall.ratios" 414) 192)
noncomputable def aaS:Obj:=(fO "is_ratio" "is_ratio" (top 19) (.str "chancehall.ratios" 414) 199)
noncomputable def Zt:Obj:=(fO "plus" "plus" (top 20) (.str "chancehall.ratios" 414) 206)
noncomputable def abk:Obj:=(fO "minus" "minus" (top 21) (.str "chancehall.ratios" 414) 213)
noncomputable def YZ:Obj:=(fO "under" "under" (top 22) (.str "chancehall.ratios" 414) 220)
noncomputable def aac:Obj:=(fO "level" "level" (top 24) (.str "chancehall.levels" 464) 225)
noncomputable def abf:Obj:=(fO "total" "total" (top 25) (.str "chancehall.levels" 464) 232)
noncomputable def abe:Obj:=(cP "first_plan" "first_plan" 482 84 1 3 234 485)
noncomputable def abz:Obj:=(fO "first_plan" "first_plan" (top 27) (.str "chancehall.plans" 480) 237)
noncomputable def aby:Obj:=(fO "fits" "fits" (top 28) (.str "chancehall.plans" 480) 244)
noncomputable def aaH:Obj:=(cO "check_plan" "check_plan" 496 90 2 3 246 503)
noncomputable def abM:Obj:=(fO "check_plan" "check_plan" (top 29) (.str "chancehall.plans" 480) 251)
noncomputable def Z_:Obj:=(fO "is_word" "is_word" (top 32) (.str "chancehall.words" 506) 256)
noncomputable def Za:Obj:=(cO "check_head" "check_head" 518 104 2 3 258 523)
noncomputable def abv:Obj:=(fO "check_head" "check_head" (top 34) (.str "chancehall.doors" 516) 263)
noncomputable def acN:Obj:=(fT "check_room_name" "check_room_name" (top 35))
noncomputable def Z2:Obj:=(cO "check_room_name" "check_room_name" 526 109 1 3 265 530)
noncomputable def abN:Obj:=(fO "check_room_name" "check_room_name" (top 35) (.str "chancehall.doors" 516) 270)
noncomputable def ZR:Obj:=(cO "check_chance" "check_chance" 533 112 1 3 272 537)
noncomputable def abb:Obj:=(fO "check_chance" "check_chance" (top 36) (.str "chancehall.doors" 516) 277)
noncomputable def aaj:Obj:=(cP "check_pairs" "check_pairs" 540 115 1 3 279 543)
noncomputable def Yz:Obj:=(fO "check_pairs" "check_pairs" (top 37) (.str "chancehall.doors" 516) 282)
noncomputable def abg:Obj:=(cP "joined_ways" "joined_ways" 546 121 1 3 284 549)
noncomputable def Zv:Obj:=(fO "joined_ways" "joined_ways" (top 38) (.str "chancehall.doors" 516) 287)
noncomputable def acC:Obj:=⟨(.type "builtin_function_or_method"),none,(.fields ⟨(.builtin "type.__prepare__") :: (.type "type") :: []⟩),⟨[]⟩⟩
noncomputable def adi (P:Params):Obj:=⟨(.type "dict"),none,(.dict ⟨dE P "__module__" 559 (.str "chancehall.doors" 516) :: dE P "__qualname__" 561 (.str "Door" 560) :: dE P "__firstlineno__" 563 (.int 126 562) :: dE P "__init__" 572 (.ref 302) :: dE P "ways" 579 (.ref 309) :: dE P "chance_to" 587 (.ref 316) :: dE P "__static_attributes__" 591 (.ref 317) :: []⟩ 7),⟨[]⟩⟩
noncomputable def acn:Obj:=⟨.none,none,(.fields ⟨(.int 128 0) :: (.int 4 0) :: (.ref 301) :: (.int 134 0) :: (.int 4 0) :: (.ref 308) :: (.int 137 0) :: (.int 4 0) :: (.ref 315) :: []⟩),⟨[]⟩⟩
noncomputable def adb:Obj:=⟨(.type "code"),none,(.fields ⟨(.str "Door" 554) :: (.str "Door" 555) :: (.str "/claim/cut.py" 556) :: (.int 126 0) :: (.int 0 0) :: (.int 0 0) :: (.int 0 0) :: (.int 0 0) :: (.ref 292) :: (.bool false) :: (.int 181 0) :: (.ref 293) :: .none :: .none :: .none :: .none :: (.int 557 0) :: (.int 126 0) :: (.str "/claim/cut.py" 558) :: []⟩),⟨[]⟩⟩
noncomputable def adu:Obj:=⟨(.type "frame"),none,.plain,⟨(some (.ref 294)) :: (some (.ref 3)) :: (some (.ref 291)) :: none :: (some (.str "chancehall.doors" 516)) :: none :: (some (.ref 0)) :: []⟩⟩
noncomputable def abE:Obj:=(cO "__init__" "Door.__init__" 564 128 3 3 296 570)
noncomputable def Y6:Obj:=(fO "__init__" "Door.__init__" (dj 39 0) (.str "chancehall.doors" 516) 301)
noncomputable def aaR:Obj:=(fO "ways" "Door.ways" (dj 39 1) (.str "chancehall.doors" 516) 308)
noncomputable def aa4:Obj:=(cO "chance_to" "Door.chance_to" 580 137 2 3 310 585)
noncomputable def abm:Obj:=(fO "chance_to" "Door.chance_to" (dj 39 2) (.str "chancehall.doors" 516) 315)
noncomputable def abS (P:Params):Obj:=⟨(.type "dict"),none,(.dict ⟨dE P "__module__" 559 (.str "chancehall.doors" 516) :: dE P "__firstlineno__" 563 (.int 126 562) :: dE P "__init__" 572 (.ref 302) :: dE P "ways" 579 (.ref 309) :: dE P "chance_to" 587 (.ref 316) :: dE P "__static_attributes__" 591 (.ref 317) :: dE P "__dict__" 593 (.ref 320) :: dE P "__weakref__" 595 (.ref 321) :: dE P "__doc__" 596 .none :: []⟩ 4),⟨[]⟩⟩
noncomputable def Ze:Obj:=⟨(.type "type"),none,(.cls ⟨"Door",[(.type "object")],[(.ref 319),(.type "object")],318, "Door",true,[],[(.ref 340),(.ref 359)],false,none,false⟩),⟨none :: none :: (some (.str "Door" 552)) :: (some (.str "Door" 560)) :: (some (.builtin "object.__new__")) :: (some (.bool true)) :: []⟩⟩
noncomputable def YB:Obj:=⟨(.type "getset_descriptor"),none,(.fields ⟨(.str "__dict__" 592) :: (.ref 319) :: (.builtin "function.__dict__") :: (.builtin "function.__dict__#set") :: []⟩),⟨[]⟩⟩
noncomputable def abF:Obj:=⟨(.type "getset_descriptor"),none,(.fields ⟨(.str "__weakref__" 594) :: (.ref 319) :: (.builtin "ExceptionGroup.__weakref__") :: .none :: []⟩),⟨[]⟩⟩
noncomputable def adk:Obj:=⟨(.type "super"),none,(.fields ⟨(.ref 319) :: (.ref 319) :: (.ref 319) :: []⟩),⟨[]⟩⟩
noncomputable def acI:Obj:=⟨(.type "builtin_function_or_method"),none,(.fields ⟨(.builtin "object.__init_subclass__") :: (.ref 319) :: []⟩),⟨[]⟩⟩
noncomputable def ZJ:Obj:=⟨(.type "tuple"),none,(.seq ⟨(.ref 319) :: []⟩ 0),⟨[]⟩⟩
noncomputable def ado:Obj:=⟨(.type "builtin_function_or_method"),none,(.fields ⟨(.builtin "type.__prepare__") :: (.type "type") :: []⟩),⟨[]⟩⟩
noncomputable def ade (P:Params):Obj:=⟨(.type "dict"),none,(.dict ⟨dE P "__module__" 606 (.str "chancehall.doors" 516) :: dE P "__qualname__" 608 (.str "Sure" 607) :: dE P "__firstlineno__" 610 (.int 139 609) :: dE P "__init__" 620 (.ref 337) :: dE P "__static_attributes__" 622 (.ref 338) :: []⟩ 5),⟨[]⟩⟩
noncomputable def acw:Obj:=⟨.none,none,(.fields ⟨(.int 141 0) :: (.int 4 0) :: (.ref 336) :: []⟩),⟨[]⟩⟩
noncomputable def acQ:Obj:=⟨(.type "code"),none,(.fields ⟨(.str "Sure" 601) :: (.str "Sure" 602) :: (.str "/claim/cut.py" 603) :: (.int 139 0) :: (.int 0 0) :: (.int 0 0) :: (.int 0 0) :: (.int 0 0) :: (.ref 327) :: (.bool false) :: (.int 181 0) :: (.ref 328) :: .none :: .none :: .none :: .none :: (.int 604 0) :: (.int 139 0) :: (.str "/claim/cut.py" 605) :: []⟩),⟨[]⟩⟩
noncomputable def ac3:Obj:=⟨(.type "frame"),none,.plain,⟨(some (.ref 329)) :: (some (.ref 3)) :: (some (.ref 326)) :: none :: (some (.str "chancehall.doors" 516)) :: none :: (some (.ref 0)) :: []⟩⟩
noncomputable def abt:Obj:=(cO "__init__" "Sure.__init__" 611 141 4 3 331 618)
noncomputable def aa2:Obj:=(fO "__init__" "Sure.__init__" (dj 40 0) (.str "chancehall.doors" 516) 336)
noncomputable def aaP (P:Params):Obj:=⟨(.type "dict"),none,(.dict ⟨dE P "__module__" 606 (.str "chancehall.doors" 516) :: dE P "__firstlineno__" 610 (.int 139 609) :: dE P "__init__" 620 (.ref 337) :: dE P "__static_attributes__" 622 (.ref 338) :: dE P "__doc__" 623 .none :: []⟩ 2),⟨[]⟩⟩
noncomputable def Zc:Obj:=⟨(.type "type"),none,(.cls ⟨"Sure",[(.ref 319)],[(.ref 340),(.ref 319),(.type "object")],339, "Sure",true,[],[],false,none,false⟩),⟨(some (.ref 324)) :: none :: (some (.str "Sure" 599)) :: (some (.str "Sure" 607)) :: (some (.builtin "object.__new__")) :: (some (.bool true)) :: []⟩⟩
noncomputable def ace:Obj:=⟨(.type "super"),none,(.fields ⟨(.ref 340) :: (.ref 340) :: (.ref 340) :: []⟩),⟨[]⟩⟩
noncomputable def ac5:Obj:=⟨(.type "builtin_function_or_method"),none,(.fields ⟨(.builtin "object.__init_subclass__") :: (.ref 340) :: []⟩),⟨[]⟩⟩
noncomputable def ZX:Obj:=⟨(.type "tuple"),none,(.seq ⟨(.ref 319) :: []⟩ 0),⟨[]⟩⟩
noncomputable def acP:Obj:=⟨(.type "builtin_function_or_method"),none,(.fields ⟨(.builtin "type.__prepare__") :: (.type "type") :: []⟩),⟨[]⟩⟩
noncomputable def acO (P:Params):Obj:=⟨(.type "dict"),none,(.dict ⟨dE P "__module__" 633 (.str "chancehall.doors" 516) :: dE P "__qualname__" 635 (.str "Mixed" 634) :: dE P "__firstlineno__" 637 (.int 145 636) :: dE P "__init__" 647 (.ref 356) :: dE P "__static_attributes__" 649 (.ref 357) :: []⟩ 5),⟨[]⟩⟩
noncomputable def ac0:Obj:=⟨.none,none,(.fields ⟨(.int 147 0) :: (.int 4 0) :: (.ref 355) :: []⟩),⟨[]⟩⟩
noncomputable def ab9:Obj:=⟨(.type "code"),none,(.fields ⟨(.str "Mixed" 628) :: (.str "Mixed" 629) :: (.str "/claim/cut.py" 630) :: (.int 145 0) :: (.int 0 0) :: (.int 0 0) :: (.int 0 0) :: (.int 0 0) :: (.ref 346) :: (.bool false) :: (.int 181 0) :: (.ref 347) :: .none :: .none :: .none :: .none :: (.int 631 0) :: (.int 145 0) :: (.str "/claim/cut.py" 632) :: []⟩),⟨[]⟩⟩
noncomputable def ady:Obj:=⟨(.type "frame"),none,.plain,⟨(some (.ref 348)) :: (some (.ref 3)) :: (some (.ref 345)) :: none :: (some (.str "chancehall.doors" 516)) :: none :: (some (.ref 0)) :: []⟩⟩
noncomputable def aa5:Obj:=(cO "__init__" "Mixed.__init__" 638 147 4 3 350 645)
noncomputable def aaM:Obj:=(fO "__init__" "Mixed.__init__" (dj 41 0) (.str "chancehall.doors" 516) 355)
noncomputable def aaN (P:Params):Obj:=⟨(.type "dict"),none,(.dict ⟨dE P "__module__" 633 (.str "chancehall.doors" 516) :: dE P "__firstlineno__" 637 (.int 145 636) :: dE P "__init__" 647 (.ref 356) :: dE P "__static_attributes__" 649 (.ref 357) :: dE P "__doc__" 650 .none :: []⟩ 2),⟨[]⟩⟩
noncomputable def Y9:Obj:=⟨(.type "type"),none,(.cls ⟨"Mixed",[(.ref 319)],[(.ref 359),(.ref 319),(.type "object")],358, "Mixed",true,[],[(.ref 378),(.ref 395)],false,none,false⟩),⟨(some (.ref 343)) :: none :: (some (.str "Mixed" 626)) :: (some (.str "Mixed" 634)) :: (some (.builtin "object.__new__")) :: (some (.bool true)) :: []⟩⟩
noncomputable def acM:Obj:=⟨(.type "super"),none,(.fields ⟨(.ref 359) :: (.ref 359) :: (.ref 359) :: []⟩),⟨[]⟩⟩
noncomputable def acs:Obj:=⟨(.type "builtin_function_or_method"),none,(.fields ⟨(.builtin "object.__init_subclass__") :: (.ref 359) :: []⟩),⟨[]⟩⟩
noncomputable def aau:Obj:=⟨(.type "tuple"),none,(.seq ⟨(.ref 359) :: []⟩ 0),⟨[]⟩⟩
noncomputable def adh:Obj:=⟨(.type "builtin_function_or_method"),none,(.fields ⟨(.builtin "type.__prepare__") :: (.type "type") :: []⟩),⟨[]⟩⟩
noncomputable def acL (P:Params):Obj:=⟨(.type "dict"),none,(.dict ⟨dE P "__module__" 660 (.str "chancehall.doors" 516) :: dE P "__qualname__" 662 (.str "Toss" 661) :: dE P "__firstlineno__" 664 (.int 151 663) :: dE P "__init__" 676 (.ref 375) :: dE P "__static_attributes__" 677 (.ref 376) :: []⟩ 5),⟨[]⟩⟩
noncomputable def acj:Obj:=⟨.none,none,(.fields ⟨(.int 153 0) :: (.int 4 0) :: (.ref 374) :: []⟩),⟨[]⟩⟩
noncomputable def acD:Obj:=⟨(.type "code"),none,(.fields ⟨(.str "Toss" 655) :: (.str "Toss" 656) :: (.str "/claim/cut.py" 657) :: (.int 151 0) :: (.int 0 0) :: (.int 0 0) :: (.int 0 0) :: (.int 0 0) :: (.ref 365) :: (.bool false) :: (.int 181 0) :: (.ref 366) :: .none :: .none :: .none :: .none :: (.int 658 0) :: (.int 151 0) :: (.str "/claim/cut.py" 659) :: []⟩),⟨[]⟩⟩
noncomputable def ac1:Obj:=⟨(.type "frame"),none,.plain,⟨(some (.ref 367)) :: (some (.ref 3)) :: (some (.ref 364)) :: none :: (some (.str "chancehall.doors" 516)) :: none :: (some (.ref 0)) :: []⟩⟩
noncomputable def Y_:Obj:=(tN 668 ["self", "name", "pay", "chance", "room", "other"])
noncomputable def aaQ:Obj:=(cO "__init__" "Toss.__init__" 665 153 6 3 369 674)
noncomputable def Zh:Obj:=(fO "__init__" "Toss.__init__" (dj 42 0) (.str "chancehall.doors" 516) 374)
noncomputable def abK (P:Params):Obj:=⟨(.type "dict"),none,(.dict ⟨dE P "__module__" 660 (.str "chancehall.doors" 516) :: dE P "__firstlineno__" 664 (.int 151 663) :: dE P "__init__" 676 (.ref 375) :: dE P "__static_attributes__" 677 (.ref 376) :: dE P "__doc__" 678 .none :: []⟩ 2),⟨[]⟩⟩
noncomputable def Zd:Obj:=⟨(.type "type"),none,(.cls ⟨"Toss",[(.ref 359)],[(.ref 378),(.ref 359),(.ref 319),(.type "object")],377, "Toss",true,[],[],false,none,false⟩),⟨(some (.ref 362)) :: none :: (some (.str "Toss" 653)) :: (some (.str "Toss" 661)) :: (some (.builtin "object.__new__")) :: (some (.bool true)) :: []⟩⟩
noncomputable def ac2:Obj:=⟨(.type "super"),none,(.fields ⟨(.ref 378) :: (.ref 378) :: (.ref 378) :: []⟩),⟨[]⟩⟩
noncomputable def acS:Obj:=⟨(.type "builtin_function_or_method"),none,(.fields ⟨(.builtin "object.__init_subclass__") :: (.ref 378) :: []⟩),⟨[]⟩⟩
noncomputable def ZD:Obj:=⟨(.type "tuple"),none,(.seq ⟨(.ref 359) :: []⟩ 0),⟨[]⟩⟩
noncomputable def acv:Obj:=⟨(.type "builtin_function_or_method"),none,(.fields ⟨(.builtin "type.__prepare__") :: (.type "type") :: []⟩),⟨[]⟩⟩
noncomputable def acf (P:Params):Obj:=⟨(.type "dict"),none,(.dict ⟨dE P "__module__" 688 (.str "chancehall.doors" 516) :: dE P "__qualname__" 690 (.str "Even" 689) :: dE P "__firstlineno__" 692 (.int 157 691) :: dE P "__init__" 698 (.ref 392) :: dE P "__static_attributes__" 699 (.ref 393) :: []⟩ 5),⟨[]⟩⟩
noncomputable def acr:Obj:=⟨.none,none,(.fields ⟨(.int 159 0) :: (.int 4 0) :: (.ref 391) :: []⟩),⟨[]⟩⟩
noncomputable def adw:Obj:=⟨(.type "code"),none,(.fields ⟨(.str "Even" 683) :: (.str "Even" 684) :: (.str "/claim/cut.py" 685) :: (.int 157 0) :: (.int 0 0) :: (.int 0 0) :: (.int 0 0) :: (.int 0 0) :: (.ref 384) :: (.bool false) :: (.int 181 0) :: (.ref 385) :: .none :: .none :: .none :: .none :: (.int 686 0) :: (.int 157 0) :: (.str "/claim/cut.py" 687) :: []⟩),⟨[]⟩⟩
noncomputable def acG:Obj:=⟨(.type "frame"),none,.plain,⟨(some (.ref 386)) :: (some (.ref 3)) :: (some (.ref 383)) :: none :: (some (.str "chancehall.doors" 516)) :: none :: (some (.ref 0)) :: []⟩⟩
noncomputable def aaF:Obj:=(cP "__init__" "Even.__init__" 693 159 4 3 388 696)
noncomputable def ZC:Obj:=(fO "__init__" "Even.__init__" (dj 43 0) (.str "chancehall.doors" 516) 391)
noncomputable def ZW (P:Params):Obj:=⟨(.type "dict"),none,(.dict ⟨dE P "__module__" 688 (.str "chancehall.doors" 516) :: dE P "__firstlineno__" 692 (.int 157 691) :: dE P "__init__" 698 (.ref 392) :: dE P "__static_attributes__" 699 (.ref 393) :: dE P "__doc__" 700 .none :: []⟩ 2),⟨[]⟩⟩
noncomputable def aaT:Obj:=⟨(.type "type"),none,(.cls ⟨"Even",[(.ref 359)],[(.ref 395),(.ref 359),(.ref 319),(.type "object")],394, "Even",true,[],[],false,none,false⟩),⟨(some (.ref 381)) :: none :: (some (.str "Even" 681)) :: (some (.str "Even" 689)) :: (some (.builtin "object.__new__")) :: (some (.bool true)) :: []⟩⟩
noncomputable def adn:Obj:=⟨(.type "super"),none,(.fields ⟨(.ref 395) :: (.ref 395) :: (.ref 395) :: []⟩),⟨[]⟩⟩
noncomputable def acX:Obj:=⟨(.type "builtin_function_or_method"),none,(.fields ⟨(.builtin "object.__init_subclass__") :: (.ref 395) :: []⟩),⟨[]⟩⟩
noncomputable def YG:Obj:=(cO "check_share" "check_share" 705 162 1 3 398 709)
noncomputable def abn:Obj:=(fO "check_share" "check_share" (top 45) (.str "chancehall.halls" 703) 403)
noncomputable def Zf:Obj:=(cO "numbers_of" "numbers_of" 712 165 1 3 405 719)
noncomputable def aav:Obj:=(fO "numbers_of" "numbers_of" (top 46) (.str "chancehall.halls" 703) 410)
noncomputable def Y0:Obj:=(tN 725 ["door", "numbers", "numbered", "name", "chance"])
noncomputable def aaf:Obj:=(cO "numbered_ways" "numbered_ways" 722 173 2 3 412 730)
noncomputable def aah:Obj:=(fO "numbered_ways" "numbered_ways" (top 47) (.str "chancehall.halls" 703) 417)
noncomputable def YT:Obj:=(tN 736 ["doors", "numbers", "taken", "told", "door"])
noncomputable def Zi:Obj:=(cO "offers_of" "offers_of" 733 180 2 3 419 741)
noncomputable def ZL:Obj:=(fO "offers_of" "offers_of" (top 48) (.str "chancehall.halls" 703) 424)
noncomputable def ab7:Obj:=⟨(.type "builtin_function_or_method"),none,(.fields ⟨(.builtin "type.__prepare__") :: (.type "type") :: []⟩),⟨[]⟩⟩
noncomputable def adx (P:Params):Obj:=⟨(.type "dict"),none,(.dict ⟨dE P "__module__" 751 (.str "chancehall.halls" 703) :: dE P "__qualname__" 753 (.str "Hall" 752) :: dE P "__firstlineno__" 755 (.int 189 754) :: dE P "__init__" 761 (.ref 437) :: dE P "size" 768 (.ref 444) :: dE P "names" 775 (.ref 451) :: dE P "place" 783 (.ref 458) :: dE P "check_room" 791 (.ref 465) :: dE P "door_at" 800 (.ref 472) :: dE P "offers" 806 (.ref 477) :: dE P "__static_attributes__" 810 (.ref 478) :: []⟩ 11),⟨[]⟩⟩
noncomputable def acz:Obj:=⟨.none,none,(.fields ⟨(.int 191 0) :: (.int 4 0) :: (.ref 436) :: (.int 197 0) :: (.int 4 0) :: (.ref 443) :: (.int 200 0) :: (.int 4 0) :: (.ref 450) :: (.int 203 0) :: (.int 4 0) :: (.ref 457) :: (.int 208 0) :: (.int 4 0) :: (.ref 464) :: (.int 212 0) :: (.int 4 0) :: (.ref 471) :: (.int 215 0) :: (.int 4 0) :: (.ref 476) :: []⟩),⟨[]⟩⟩
noncomputable def acu:Obj:=⟨(.type "code"),none,(.fields ⟨(.str "Hall" 746) :: (.str "Hall" 747) :: (.str "/claim/cut.py" 748) :: (.int 189 0) :: (.int 0 0) :: (.int 0 0) :: (.int 0 0) :: (.int 0 0) :: (.ref 429) :: (.bool false) :: (.int 181 0) :: (.ref 430) :: .none :: .none :: .none :: .none :: (.int 749 0) :: (.int 189 0) :: (.str "/claim/cut.py" 750) :: []⟩),⟨[]⟩⟩
noncomputable def adB:Obj:=⟨(.type "frame"),none,.plain,⟨(some (.ref 431)) :: (some (.ref 3)) :: (some (.ref 428)) :: none :: (some (.str "chancehall.halls" 703)) :: none :: (some (.ref 0)) :: []⟩⟩
noncomputable def abW:Obj:=(cP "__init__" "Hall.__init__" 756 191 3 3 433 759)
noncomputable def Zg:Obj:=(fO "__init__" "Hall.__init__" (dj 49 0) (.str "chancehall.halls" 703) 436)
noncomputable def YH:Obj:=(fO "size" "Hall.size" (dj 49 1) (.str "chancehall.halls" 703) 443)
noncomputable def Zb:Obj:=(fO "names" "Hall.names" (dj 49 2) (.str "chancehall.halls" 703) 450)
noncomputable def aaB:Obj:=(fO "place" "Hall.place" (dj 49 3) (.str "chancehall.halls" 703) 457)
noncomputable def acW:Obj:=(fT "check_room" "Hall.check_room" (dj 49 4))
noncomputable def abu:Obj:=(cO "check_room" "Hall.check_room" 784 208 2 3 459 789)
noncomputable def YS:Obj:=(fO "check_room" "Hall.check_room" (dj 49 4) (.str "chancehall.halls" 703) 464)
noncomputable def abL:Obj:=(cO "door_at" "Hall.door_at" 792 212 3 3 466 798)
noncomputable def aaO:Obj:=(fO "door_at" "Hall.door_at" (dj 49 5) (.str "chancehall.halls" 703) 471)
noncomputable def abh:Obj:=(cP "offers" "Hall.offers" 801 215 2 3 473 804)
noncomputable def aaG:Obj:=(fO "offers" "Hall.offers" (dj 49 6) (.str "chancehall.halls" 703) 476)
noncomputable def aaU (P:Params):Obj:=⟨(.type "dict"),none,(.dict ⟨dE P "__module__" 751 (.str "chancehall.halls" 703) :: dE P "__firstlineno__" 755 (.int 189 754) :: dE P "__init__" 761 (.ref 437) :: dE P "size" 768 (.ref 444) :: dE P "names" 775 (.ref 451) :: dE P "place" 783 (.ref 458) :: dE P "check_room" 791 (.ref 465) :: dE P "door_at" 800 (.ref 472) :: dE P "offers" 806 (.ref 477) :: dE P "__static_attributes__" 810 (.ref 478) :: dE P "__dict__" 812 (.ref 481) :: dE P "__weakref__" 814 (.ref 482) :: dE P "__doc__" 815 .none :: []⟩ 4),⟨[]⟩⟩
noncomputable def aak:Obj:=⟨(.type "type"),none,(.cls ⟨"Hall",[(.type "object")],[(.ref 480),(.type "object")],479, "Hall",true,[],[],false,none,false⟩),⟨none :: none :: (some (.str "Hall" 744)) :: (some (.str "Hall" 752)) :: (some (.builtin "object.__new__")) :: (some (.bool true)) :: []⟩⟩
noncomputable def abA:Obj:=⟨(.type "getset_descriptor"),none,(.fields ⟨(.str "__dict__" 811) :: (.ref 480) :: (.builtin "function.__dict__") :: (.builtin "function.__dict__#set") :: []⟩),⟨[]⟩⟩
noncomputable def Zu:Obj:=⟨(.type "getset_descriptor"),none,(.fields ⟨(.str "__weakref__" 813) :: (.ref 480) :: (.builtin "ExceptionGroup.__weakref__") :: .none :: []⟩),⟨[]⟩⟩
noncomputable def ab6:Obj:=⟨(.type "super"),none,(.fields ⟨(.ref 480) :: (.ref 480) :: (.ref 480) :: []⟩),⟨[]⟩⟩
noncomputable def adp:Obj:=⟨(.type "builtin_function_or_method"),none,(.fields ⟨(.builtin "object.__init_subclass__") :: (.ref 480) :: []⟩),⟨[]⟩⟩
noncomputable def abq:Obj:=(cO "_law_cell" "_law_cell" 820 219 2 3 485 825)
noncomputable def aan:Obj:=(fO "_law_cell" "_law_cell" (top 51) (.str "law_chancehall_k20_plans" 818) 490)
noncomputable def ZP:Obj:=(tN 831 ["_law_cell_here", "_law_many", "_law_found", "_law_number", "_law_digits", "_law_k"])
noncomputable def aal:Obj:=(cO "_law_stream" "_law_stream" 828 221 2 3 492 837)
noncomputable def Y8:Obj:=(fO "_law_stream" "_law_stream" (top 52) (.str "law_chancehall_k20_plans" 818) 497)
noncomputable def abT:Obj:=(tN 843 ["_law_one", "_law_other", "_law_low", "_law_high"])
noncomputable def abD:Obj:=(cO "_law_gcd" "_law_gcd" 840 232 2 3 499 847)
noncomputable def aaK:Obj:=(fO "_law_gcd" "_law_gcd" (top 53) (.str "law_chancehall_k20_plans" 818) 504)
noncomputable def aaL:Obj:=(tN 853 ["_law_top", "_law_bottom", "_law_common"])
noncomputable def aa6:Obj:=(cO "_law_ratio" "_law_ratio" 850 237 2 3 506 856)
noncomputable def aax:Obj:=(fO "_law_ratio" "_law_ratio" (top 54) (.str "law_chancehall_k20_plans" 818) 511)
noncomputable def abO:Obj:=(cP "_law_names" "_law_names" 859 240 2 3 513 862)
noncomputable def abR:Obj:=(fO "_law_names" "_law_names" (top 55) (.str "law_chancehall_k20_plans" 818) 516)
noncomputable def abI:Obj:=(tN 868 ["_law_cell_here", "_law_xs", "_law_bottom"])
noncomputable def aai:Obj:=(cO "_law_share" "_law_share" 865 249 1 3 518 871)
noncomputable def Zj:Obj:=(fO "_law_share" "_law_share" (top 56) (.str "law_chancehall_k20_plans" 818) 523)
noncomputable def aaD:Obj:=(tN 877 ["_law_cell_here", "_law_x", "_law_y"])
noncomputable def abG:Obj:=(cO "_law_pay" "_law_pay" 874 253 3 3 525 880)
noncomputable def aa0:Obj:=(fO "_law_pay" "_law_pay" (top 57) (.str "law_chancehall_k20_plans" 818) 530)
noncomputable def abV:Obj:=(cP "_law_door" "_law_door" 883 261 2 3 532 886)
noncomputable def aad:Obj:=(fO "_law_door" "_law_door" (top 58) (.str "law_chancehall_k20_plans" 818) 535)
noncomputable def YJ:Obj:=(cP "_law_doors" "_law_doors" 889 278 4 3 537 892)
noncomputable def abQ:Obj:=(fO "_law_doors" "_law_doors" (top 59) (.str "law_chancehall_k20_plans" 818) 540)
noncomputable def ZS:Obj:=(cP "_law_built" "_law_built" 895 288 3 3 542 898)
noncomputable def ZQ:Obj:=(fO "_law_built" "_law_built" (top 60) (.str "law_chancehall_k20_plans" 818) 545)
noncomputable def abp:Obj:=(cP "_law_hall" "_law_hall" 901 298 3 3 547 904)
noncomputable def ZM:Obj:=(fO "_law_hall" "_law_hall" (top 61) (.str "law_chancehall_k20_plans" 818) 550)
noncomputable def YF:Obj:=(tN 910 ["_law_cell_here", "_law_rooms", "_law_xs", "_law_found", "_law_k"])
noncomputable def YQ:Obj:=(cO "_law_chosen" "_law_chosen" 907 305 2 3 552 915)
noncomputable def abl:Obj:=(fO "_law_chosen" "_law_chosen" (top 62) (.str "law_chancehall_k20_plans" 818) 557)
noncomputable def Yy:Obj:=(cO "_law_size" "_law_size" 918 314 1 3 559 923)
noncomputable def YW:Obj:=(fO "_law_size" "_law_size" (top 63) (.str "law_chancehall_k20_plans" 818) 564)
noncomputable def aaJ:Obj:=(cO "_law_is_plan" "_law_is_plan" 926 321 2 3 566 932)
noncomputable def ZF:Obj:=(fO "_law_is_plan" "_law_is_plan" (top 64) (.str "law_chancehall_k20_plans" 818) 571)
noncomputable def aaY:Obj:=(cO "_law_odd" "_law_odd" 935 331 2 3 573 940)
noncomputable def aa3:Obj:=(fO "_law_odd" "_law_odd" (top 65) (.str "law_chancehall_k20_plans" 818) 578)
noncomputable def aar:Obj:=(tN 946 ["_law_cell_here", "_law_plan", "_law_rooms", "_law_xs", "_law_some", "_law_at", "_law_later", "_law_found"])
noncomputable def abJ:Obj:=(cO "_law_spoilt" "_law_spoilt" 943 335 3 3 580 954)
noncomputable def aay:Obj:=(fO "_law_spoilt" "_law_spoilt" (top 66) (.str "law_chancehall_k20_plans" 818) 585)
noncomputable def tr1 (P:Params):BT:=(.node (boot_o_0 P) (.node (boot_o_1 P) (.node (acR P) (.node (boot_o_7 P) (.node tE (.node q31 (.node fE (.node aam (.node (fT "is_word" "is_word" (top 32)) (lf aa6) .nil) (lf (acf P))) (.node (fT "ratio" "ratio" (top 18)) (.node Ze (lf (tN 938 ["_law_cell_here", "_law_many"])) .nil) (lf (tN 772 ["self"])))) (.node q95 (.node tE (.node abg (lf fE) .nil) (lf tE)) (.node fE (lf fE) (lf (aaU P))))) (.node q47 (.node (q79 P) (.node tE (.node abN (lf aaD) .nil) (lf fE)) (.node Zt (lf (fT "__init__" "Sure.__init__" (dj 40 0))) (lf acW))) (.node aaW (.node (fT "is_whole" "is_whole" (top 13)) (.node tE (lf tE) .nil) (lf acu)) (.node tE (lf acD) (lf tE))))) (.node q23 (.node fE (.node q71 (.node (acJ P) (.node Za (lf fE) .nil) (lf aaF)) (.node (cO "is_ratio" "is_ratio" 431 60 1 3 194 437) (.node tE (lf tE) .nil) (lf tE))) (.node fE (.node (aaV P) (.node adu (lf ZM) .nil) (lf (fT "offers_of" "offers_of" (top 48)))) (.node (fT "total" "total" (top 25)) (lf Y9) (lf (tN 823 ["_law_script", "_law_k"]))))) (.node (q55 P) (.node fE (.node ac6 (.node tE (lf abV) .nil) (lf (tN 715 ["rooms", "numbers", "room", "name"]))) (.node tE (lf ZX) (lf abL))) (.node ada (.node (cO "divisor" "divisor" 403 40 2 3 178 411) (.node fE (lf fE) .nil) (lf fE)) (.node fE (lf Zh) (lf (fT "_law_gcd" "_law_gcd" (top 53)))))))) (.node o11 (.node (fT "_wall" "_wall" (top 0)) (.node q35 (.node (q67 P) (.node acT (.node fE (lf (fT "_law_names" "_law_names" (top 55))) .nil) (lf acG)) (.node fE (.node acI (lf aa3) .nil) (lf Zb))) (.node q99 (.node (fT "__init__" "NoPlan.__init__" (dj 11 0)) (.node (adi P) (lf tE) .nil) (lf tE)) (.node tE (lf aa5) (lf ab6)))) (.node fE (.node q83 (.node (tN 364 ["door"]) (.node tE (lf aa0) .nil) (lf YG)) (.node tE (lf (aaP P)) (lf fE))) (.node ac4 (.node fE (.node (fT "ways" "Door.ways" (dj 39 1)) (lf (fT "_law_size" "_law_size" (top 63))) .nil) (lf (fT "__init__" "Hall.__init__" (dj 49 0)))) (.node (fT "fits" "fits" (top 28)) (lf Y_) (lf tE))))) (.node q27 (.node (q43 P) (.node fE (.node ab4 (.node (tN 529 ["room"]) (lf aai) .nil) (lf aaT)) (.node (tN 443 ["one", "other"]) (lf tE) (lf tE))) (.node ZG (.node tE (.node tE (lf tE) .nil) (lf ab7)) (.node fE (lf adh) (lf aan)))) (.node q59 (.node (q91 P) (.node tE (.node Yz (lf (fT "_law_doors" "_law_doors" (top 59))) .nil) (lf aav)) (.node (fT "under" "under" (top 22)) (lf ac0) (lf (fT "offers" "Hall.offers" (dj 49 6))))) (.node (tN 334 ["self", "room"]) (.node tE (.node aa4 (lf aaJ) .nil) (lf (cO "size" "Hall.size" 762 197 1 3 438 766))) (.node aaH (lf ac2) (lf fE))))))) (.node (boot_o_5 P) (.node (boot_o_9 P) (.node (tN 190 ["k"]) (.node q33 (.node q65 (.node (aas P) (.node Z_ (lf tE) .nil) (lf acr)) (.node Y5 (.node abF (lf (fT "_law_odd" "_law_odd" (top 65))) .nil) (lf (fT "names" "Hall.names" (dj 49 2))))) (.node (q97 P) (.node (tN 384 ["self", "room"]) (.node tE (lf ZS) .nil) (lf aaf)) (.node (cP "level" "level" 466 75 1 3 222 469) (lf tE) (lf abA)))) (.node (q49 P) (.node q81 (.node YL (.node fE (lf (fT "_law_pay" "_law_pay" (top 57))) .nil) (lf tE)) (.node fE (lf aa2) (lf YS))) (.node ab8 (.node abB (.node (tN 576 ["self"]) (lf (tN 921 ["_law_cell_here", "_law_xs"])) .nil) (lf tE)) (.node (tN 491 ["thing", "many"]) (lf tE) (lf aal))))) (.node tE (.node q41 (.node (q73 P) (.node ach (.node tE (lf tE) .nil) (lf tE)) (.node tE (.node acQ (lf abJ) .nil) (lf (cO "place" "Hall.place" 776 203 2 3 452 781)))) (.node tE (.node acY (.node fE (lf fE) .nil) (lf ZL)) (.node abf (lf acs) (lf (fT "_law_cell" "_law_cell" (top 51)))))) (.node q57 (.node q89 (.node acE (.node (fT "check_pairs" "check_pairs" (top 37)) (lf tE) .nil) (lf (fT "numbers_of" "numbers_of" (top 46)))) (.node (tN 459 ["one", "other"]) (lf (acO P)) (lf tE))) (.node tE (.node YM (.node tE (lf tE) .nil) (lf tE)) (.node tE (lf (abK P)) (lf aaK)))))) (.node o13 (.node q21 (.node (q37 P) (.node q69 (.node aao (.node tE (lf abR) .nil) (lf fE)) (.node tE (.node ado (lf fE) .nil) (lf fE))) (.node acU (.node abr (.node acn (lf (fT "_law_hall" "_law_hall" (top 61))) .nil) (lf YT)) (.node (tN 475 ["fractions", "leveled"]) (lf (tN 648 ["leads"])) (lf tE)))) (.node q53 (.node (q85 P) (.node abd (.node ZR (lf fE) .nil) (lf tE)) (.node (cO "minus" "minus" 448 70 2 3 208 453) (lf ace) (lf tE))) (.node tE (.node tE (.node aaR (lf YW) .nil) (lf Zg)) (.node aby (lf (fT "__init__" "Toss.__init__" (dj 42 0))) (lf abT))))) (.node tE (.node q45 (.node q77 (.node fE (.node acN (lf tE) .nil) (lf acX)) (.node (fT "plus" "plus" (top 20)) (lf (tN 614 ["self", "name", "pay", "room"])) (lf (tN 787 ["self", "room"])))) (.node (tN 314 ["row"]) (.node (tN 399 ["thing"]) (.node abE (lf YQ) .nil) (lf tE)) (.node abe (lf tE) (lf fE)))) (.node (q61 P) (.node q93 (.node adl (.node fE (lf abQ) .nil) (lf fE)) (.node YZ (lf ady) (lf aaG))) (.node (fT "__init__" "NoRoom.__init__" (dj 9 0)) (.node (tN 425 ["top", "bottom", "common"]) (.node (tN 588 ["leads", "name", "pay"]) (lf tE) .nil) (lf tE)) (.node tE (lf ZD) (lf tE)))))))) (.node (boot_o_2 P) (.node (boot_o_4 P) (.node (boot_o_8 P) (.node fE (.node q32 (.node q64 (.node (tN 339 ["room"]) (.node (cP "is_word" "is_word" 510 99 1 3 253 513) (lf aax) .nil) (lf tE)) (.node (cO "ratio" "ratio" 422 51 2 3 187 428) (.node YB (lf tE) .nil) (lf tE))) (.node q96 (.node fE (.node Zv (lf (fT "_law_built" "_law_built" (top 60))) .nil) (lf (fT "numbered_ways" "numbered_ways" (top 47)))) (.node (fT "level" "level" (top 24)) (lf (tN 641 ["self", "name", "pay", "pairs"])) (lf aak)))) (.node q48 (.node q80 (.node (fT "__init__" "NoDoor.__init__" (dj 10 0)) (.node tE (lf tE) .nil) (lf (tN 708 ["share"]))) (.node tE (lf abt) (lf abu))) (.node acK (.node (cO "is_whole" "is_whole" 396 38 1 3 171 400) (.node fE (lf fE) .nil) (lf adB)) (.node fE (lf ac1) (lf (fT "_law_stream" "_law_stream" (top 52))))))) (.node (q24 P) (.node q40 (.node q72 (.node tE (.node abv (lf abI) .nil) (lf ZC)) (.node aaS (.node acw (lf (fT "_law_spoilt" "_law_spoilt" (top 66))) .nil) (lf (fT "place" "Hall.place" (dj 49 3))))) (.node (tN 309 ["self", "row"]) (.node aaZ (.node tE (lf tE) .nil) (lf Zi)) (.node (cO "total" "total" 472 80 1 3 227 477) (lf acM) (lf tE)))) (.node q56 (.node q88 (.node Zx (.node fE (lf aad) .nil) (lf tE)) (.node fE (lf acP) (lf aaO))) (.node adq (.node YD (.node (tN 583 ["self", "room"]) (lf (tN 929 ["_law_found", "_law_due", "_law_k"])) .nil) (lf (tN 765 ["self"]))) (.node (tN 499 ["hall", "plan", "room", "thing"]) (lf tE) (lf abD)))))) (.node YK (.node (cO "_wall" "_wall" 187 1 1 3 15 191) (.node q36 (.node q68 (.node acH (.node (tN 521 ["name", "pay"]) (lf abO) .nil) (lf tE)) (.node (tN 434 ["thing", "top", "bottom"]) (.node ZJ (lf tE) .nil) (lf tE))) (.node aco (.node YX (.node tE (lf fE) .nil) (lf fE)) (.node fE (lf aaM) (lf adp)))) (.node q52 (.node q84 (.node (abj P) (.node (fT "check_chance" "check_chance" (top 36)) (lf tE) .nil) (lf abn)) (.node (fT "minus" "minus" (top 21)) (lf Zc) (lf (tN 795 ["self", "room", "name"])))) (.node (acd P) (.node Zy (.node (cO "ways" "Door.ways" 573 134 1 3 303 577) (lf Yy) .nil) (lf abW)) (.node (cO "fits" "fits" 488 86 2 3 239 493) (lf tE) (lf fE))))) (.node q28 (.node q44 (.node q76 (.node tE (.node tE (lf Zj) .nil) (lf adn)) (.node tE (lf fE) (lf fE))) (.node ZV (.node fE (.node (fT "__init__" "Door.__init__" (dj 39 0)) (lf (fT "_law_chosen" "_law_chosen" (top 62))) .nil) (lf (adx P))) (.node (fT "first_plan" "first_plan" (top 27)) (lf (acL P)) (lf tE)))) (.node q60 (.node q92 (.node ab5 (.node tE (lf YJ) .nil) (lf tE)) (.node (cO "under" "under" 456 72 2 3 215 461) (lf ab9) (lf abh))) (.node tE (.node fE (.node abm (lf ZF) .nil) (lf YH)) (.node abM (lf acS) (lf aaL))))))) (.node (boot_o_6 P) (.node (boot_o_10 P) (.node tE (.node q34 (.node tE (.node aaE (.node tE (lf fE) .nil) (lf adw)) (.node tE (.node adk (lf aaY) .nil) (lf (cO "names" "Hall.names" 769 200 1 3 445 773)))) (.node tE (.node tE (.node acC (lf ZQ) .nil) (lf aah)) (.node aac (lf (fT "__init__" "Mixed.__init__" (dj 41 0))) (lf Zu)))) (.node tE (.node q82 (.node aa8 (.node (tN 536 ["chance"]) (lf abG) .nil) (lf (fT "check_share" "check_share" (top 45)))) (.node (tN 451 ["one", "other"]) (lf (tN 621 ["leads"])) (lf tE))) (.node aa7 (.node tE (.node tE (lf tE) .nil) (lf fE)) (.node tE (lf fE) (lf Y8))))) (.node fE (.node tE (.node tE (.node adA (.node fE (lf (fT "_law_share" "_law_share" (top 56))) .nil) (lf (ZW P))) (.node fE (.node ac3 (lf aay) .nil) (lf aaB))) (.node (fT "__init__" "NoRow.__init__" (dj 8 0)) (.node adv (.node (tN 567 ["self", "name", "pay"]) (lf YF) .nil) (lf tE)) (.node tE (lf aau) (lf abq)))) (.node q58 (.node tE (.node (acg P) (.node aaj (lf fE) .nil) (lf Zf)) (.node tE (lf tE) (lf fE))) (.node fE (.node abC (.node (fT "chance_to" "Door.chance_to" (dj 39 2)) (lf (fT "_law_is_plan" "_law_is_plan" (top 64))) .nil) (lf (fT "size" "Hall.size" (dj 49 1)))) (.node (fT "check_plan" "check_plan" (top 29)) (lf Zd) (lf tE)))))) (.node o14 (.node q22 (.node tE (.node q70 (.node acp (.node (fT "check_head" "check_head" (top 34)) (lf tE) .nil) (lf (fT "__init__" "Even.__init__" (dj 43 0)))) (.node (fT "is_ratio" "is_ratio" (top 19)) (.node (ade P) (lf aar) .nil) (lf (tN 779 ["self", "name"])))) (.node tE (.node (tN 389 ["room"]) (.node adb (lf abp) .nil) (lf tE)) (.node tE (lf (aaN P)) (lf fE)))) (.node tE (.node tE (.node ac9 (.node abb (lf (fT "_law_door" "_law_door" (top 58))) .nil) (lf fE)) (.node abk (lf ac5) (lf (fT "door_at" "Hall.door_at" (dj 49 5))))) (.node acZ (.node (fT "divisor" "divisor" (top 14)) (.node tE (lf tE) .nil) (lf tE)) (.node tE (lf aaQ) (lf tE))))) (.node (q30 P) (.node q46 (.node tE (.node (tN 359 ["self", "door"]) (.node Z2 (lf fE) .nil) (lf tE)) (.node (cO "plus" "plus" 440 68 2 3 201 445) (lf tE) (lf tE))) (.node (aaw P) (.node tE (.node Y6 (lf abl) .nil) (lf acz)) (.node abz (lf acj) (lf ZP)))) (.node tE (.node q94 (.node acA (.node (fT "joined_ways" "joined_ways" (top 38)) (lf tE) .nil) (lf Y0)) (.node tE (lf tE) (lf (tN 807 ["numbers", "offered", "share"])))) (.node aaA (.node tE (.node (abS P) (lf fE) .nil) (lf fE)) (.node fE (lf acv) (lf (fT "_law_ratio" "_law_ratio" (top 54)))))))))))
noncomputable def S1 (w:World) (os:OsState):SharedT:=⟨tr1 w.params,587,{},⟨[]⟩,{},957,os⟩
noncomputable def e1:Pos:=⟨335,0,348,32⟩
noncomputable def KH:Params->Frag:=fun P=>(
 (nat_lit 2,(boot_o_2 P)) ::
 (nat_lit 3,⟨(.type "dict"),none,(.dict ⟨dE P "__name__" 165 (.str "law_chancehall_k20_plans" 818) :: dE P "__doc__" 166 .none :: dE P "__package__" 167 .none :: dE P "__loader__" 168 (.builtin "__main__.__loader__#opaque") :: dE P "__spec__" 169 .none :: dE P "__annotations__" 170 (.ref 6) :: dE P "__builtins__" 171 (.ref 4) :: dE P "__file__" 173 (.str "/claim/cut.py" 172) :: dE P "__cached__" 174 .none :: dE P "_wall" 193 (.ref 21) :: dE P "HallError" 213 (.ref 31) :: dE P "NoNumber" 229 (.ref 44) :: dE P "NoName" 245 (.ref 56) :: dE P "NoChance" 261 (.ref 68) :: dE P "NoShare" 277 (.ref 80) :: dE P "NoText" 293 (.ref 92) :: dE P "NoRow" 318 (.ref 111) :: dE P "NoRoom" 343 (.ref 130) :: dE P "NoDoor" 368 (.ref 149) :: dE P "NoPlan" 393 (.ref 168) :: dE P "is_whole" 402 (.ref 177) :: dE P "divisor" 413 (.ref 184) :: dE P "NOUGHT" 418 (.ref 185) :: dE P "ONE" 421 (.ref 186) :: dE P "ratio" 430 (.ref 193) :: dE P "is_ratio" 439 (.ref 200) :: dE P "plus" 447 (.ref 207) :: dE P "minus" 455 (.ref 214) :: dE P "under" 463 (.ref 221) :: dE P "level" 471 (.ref 226) :: dE P "total" 479 (.ref 233) :: dE P "first_plan" 487 (.ref 238) :: dE P "fits" 495 (.ref 245) :: dE P "check_plan" 505 (.ref 252) :: dE P "LONGEST_WORD" 509 (.int 8 508) :: dE P "is_word" 515 (.ref 257) :: dE P "check_head" 525 (.ref 264) :: dE P "check_room_name" 532 (.ref 271) :: dE P "check_chance" 539 (.ref 278) :: dE P "check_pairs" 545 (.ref 283) :: dE P "joined_ways" 551 (.ref 288) :: dE P "Door" 598 (.ref 319) :: dE P "Sure" 625 (.ref 340) :: dE P "Mixed" 652 (.ref 359) :: dE P "Toss" 680 (.ref 378) :: dE P "Even" 702 (.ref 395) :: dE P "check_share" 711 (.ref 404) :: dE P "numbers_of" 721 (.ref 411) :: dE P "numbered_ways" 732 (.ref 418) :: dE P "offers_of" 743 (.ref 425) :: dE P "Hall" 817 (.ref 480) :: dE P "_law_cell" 827 (.ref 491) :: dE P "_law_stream" 839 (.ref 498) :: dE P "_law_gcd" 849 (.ref 505) :: dE P "_law_ratio" 858 (.ref 512) :: dE P "_law_names" 864 (.ref 517) :: dE P "_law_share" 873 (.ref 524) :: dE P "_law_pay" 882 (.ref 531) :: dE P "_law_door" 888 (.ref 536) :: dE P "_law_doors" 894 (.ref 541) :: dE P "_law_built" 900 (.ref 546) :: dE P "_law_hall" 906 (.ref 551) :: dE P "_law_chosen" 917 (.ref 558) :: dE P "_law_size" 925 (.ref 565) :: dE P "_law_is_plan" 934 (.ref 572) :: dE P "_law_odd" 942 (.ref 579) :: dE P "_law_spoilt" 956 (.ref 586) :: dE P "_law_refused" 966 (.ref 593) :: dE P "law" 972 (.ref 598) :: []⟩ 69),⟨[]⟩⟩) ::
 (nat_lit 15,tE) ::
 (nat_lit 17,(tN 190 ["k"])) ::
 (nat_lit 18,tE) ::
 (nat_lit 20,(cO "_wall" "_wall" 187 1 1 3 15 191)) ::
 (nat_lit 21,q21) ::
 (nat_lit 22,q22) ::
 (nat_lit 29,tE) ::
 (nat_lit 30,(q30 P)) ::
 (nat_lit 31,q31) ::
 (nat_lit 32,q32) ::
 (nat_lit 35,q35) ::
 (nat_lit 42,tE) ::
 (nat_lit 43,(q43 P)) ::
 (nat_lit 44,q44) ::
 (nat_lit 47,q47) ::
 (nat_lit 54,tE) ::
 (nat_lit 55,(q55 P)) ::
 (nat_lit 56,q56) ::
 (nat_lit 59,q59) ::
 (nat_lit 66,tE) ::
 (nat_lit 67,(q67 P)) ::
 (nat_lit 68,q68) ::
 (nat_lit 71,q71) ::
 (nat_lit 78,tE) ::
 (nat_lit 79,(q79 P)) ::
 (nat_lit 80,q80) ::
 (nat_lit 83,q83) ::
 (nat_lit 90,tE) ::
 (nat_lit 91,(q91 P)) ::
 (nat_lit 92,q92) ::
 (nat_lit 95,q95) ::
 (nat_lit 102,tE) ::
 (nat_lit 104,(tN 309 ["self", "row"])) ::
 (nat_lit 105,tE) ::
 (nat_lit 107,ZG) ::
 (nat_lit 108,ZV) ::
 (nat_lit 109,(tN 314 ["row"])) ::
 (nat_lit 110,(aaw P)) ::
 (nat_lit 111,aaW) ::
 (nat_lit 114,aa7) ::
 (nat_lit 121,tE) ::
 (nat_lit 123,(tN 334 ["self", "room"])) ::
 (nat_lit 124,tE) ::
 (nat_lit 126,aaA) ::
 (nat_lit 127,aam) ::
 (nat_lit 128,(tN 339 ["room"])) ::
 (nat_lit 129,(aas P)) ::
 (nat_lit 130,aaE) ::
 (nat_lit 133,aao) ::
 (nat_lit 140,tE) ::
 (nat_lit 142,(tN 359 ["self", "door"])) ::
 (nat_lit 143,tE) ::
 (nat_lit 145,YL) ::
 (nat_lit 146,aa8) ::
 (nat_lit 147,(tN 364 ["door"])) ::
 (nat_lit 148,(abj P)) ::
 (nat_lit 149,abd) ::
 (nat_lit 152,Zx) ::
 (nat_lit 159,tE) ::
 (nat_lit 161,(tN 384 ["self", "room"])) ::
 (nat_lit 162,tE) ::
 (nat_lit 164,YX) ::
 (nat_lit 165,abr) ::
 (nat_lit 166,(tN 389 ["room"])) ::
 (nat_lit 167,(aaV P)) ::
 (nat_lit 168,aaZ) ::
 (nat_lit 171,tE) ::
 (nat_lit 173,(tN 399 ["thing"])) ::
 (nat_lit 174,tE) ::
 (nat_lit 176,(cO "is_whole" "is_whole" 396 38 1 3 171 400)) ::
 (nat_lit 177,abB) ::
 (nat_lit 178,tE) ::
 (nat_lit 180,Zy) ::
 (nat_lit 181,tE) ::
 (nat_lit 183,(cO "divisor" "divisor" 403 40 2 3 178 411)) ::
 (nat_lit 184,YD) ::
 (nat_lit 185,YM) ::
 (nat_lit 186,abC) ::
 (nat_lit 187,tE) ::
 (nat_lit 189,(tN 425 ["top", "bottom", "common"])) ::
 (nat_lit 190,tE) ::
 (nat_lit 192,(cO "ratio" "ratio" 422 51 2 3 187 428)) ::
 (nat_lit 193,Y5) ::
 (nat_lit 194,tE) ::
 (nat_lit 196,(tN 434 ["thing", "top", "bottom"])) ::
 (nat_lit 197,tE) ::
 (nat_lit 199,(cO "is_ratio" "is_ratio" 431 60 1 3 194 437)) ::
 (nat_lit 200,aaS) ::
 (nat_lit 201,tE) ::
 (nat_lit 203,(tN 443 ["one", "other"])) ::
 (nat_lit 204,tE) ::
 (nat_lit 206,(cO "plus" "plus" 440 68 2 3 201 445)) ::
 (nat_lit 207,Zt) ::
 (nat_lit 208,tE) ::
 (nat_lit 210,(tN 451 ["one", "other"])) ::
 (nat_lit 211,tE) ::
 (nat_lit 213,(cO "minus" "minus" 448 70 2 3 208 453)) ::
 (nat_lit 214,abk) ::
 (nat_lit 215,tE) ::
 (nat_lit 217,(tN 459 ["one", "other"])) ::
 (nat_lit 218,tE) ::
 (nat_lit 220,(cO "under" "under" 456 72 2 3 215 461)) ::
 (nat_lit 221,YZ) ::
 (nat_lit 222,tE) ::
 (nat_lit 225,(cP "level" "level" 466 75 1 3 222 469)) ::
 (nat_lit 226,aac) ::
 (nat_lit 227,tE) ::
 (nat_lit 229,(tN 475 ["fractions", "leveled"])) ::
 (nat_lit 230,tE) ::
 (nat_lit 232,(cO "total" "total" 472 80 1 3 227 477)) ::
 (nat_lit 233,abf) ::
 (nat_lit 234,tE) ::
 (nat_lit 237,abe) ::
 (nat_lit 238,abz) ::
 (nat_lit 239,tE) ::
 (nat_lit 241,(tN 491 ["thing", "many"])) ::
 (nat_lit 242,tE) ::
 (nat_lit 244,(cO "fits" "fits" 488 86 2 3 239 493)) ::
 (nat_lit 245,aby) ::
 (nat_lit 246,tE) ::
 (nat_lit 248,(tN 499 ["hall", "plan", "room", "thing"])) ::
 (nat_lit 249,tE) ::
 (nat_lit 251,aaH) ::
 (nat_lit 252,abM) ::
 (nat_lit 253,tE) ::
 (nat_lit 256,(cP "is_word" "is_word" 510 99 1 3 253 513)) ::
 (nat_lit 257,Z_) ::
 (nat_lit 258,tE) ::
 (nat_lit 260,(tN 521 ["name", "pay"])) ::
 (nat_lit 261,tE) ::
 (nat_lit 263,Za) ::
 (nat_lit 264,abv) ::
 (nat_lit 265,tE) ::
 (nat_lit 267,(tN 529 ["room"])) ::
 (nat_lit 268,tE) ::
 (nat_lit 270,Z2) ::
 (nat_lit 271,abN) ::
 (nat_lit 272,tE) ::
 (nat_lit 274,(tN 536 ["chance"])) ::
 (nat_lit 275,tE) ::
 (nat_lit 277,ZR) ::
 (nat_lit 278,abb) ::
 (nat_lit 279,tE) ::
 (nat_lit 282,aaj) ::
 (nat_lit 283,Yz) ::
 (nat_lit 284,tE) ::
 (nat_lit 287,abg) ::
 (nat_lit 288,Zv) ::
 (nat_lit 296,tE) ::
 (nat_lit 298,(tN 567 ["self", "name", "pay"])) ::
 (nat_lit 299,tE) ::
 (nat_lit 301,abE) ::
 (nat_lit 302,Y6) ::
 (nat_lit 303,tE) ::
 (nat_lit 305,(tN 576 ["self"])) ::
 (nat_lit 306,tE) ::
 (nat_lit 308,(cO "ways" "Door.ways" 573 134 1 3 303 577)) ::
 (nat_lit 309,aaR) ::
 (nat_lit 310,tE) ::
 (nat_lit 312,(tN 583 ["self", "room"])) ::
 (nat_lit 313,tE) ::
 (nat_lit 315,aa4) ::
 (nat_lit 316,abm) ::
 (nat_lit 317,(tN 588 ["leads", "name", "pay"])) ::
 (nat_lit 318,(abS P)) ::
 (nat_lit 319,Ze) ::
 (nat_lit 320,YB) ::
 (nat_lit 321,abF) ::
 (nat_lit 324,ZJ) ::
 (nat_lit 331,tE) ::
 (nat_lit 333,(tN 614 ["self", "name", "pay", "room"])) ::
 (nat_lit 334,tE) ::
 (nat_lit 336,abt) ::
 (nat_lit 337,aa2) ::
 (nat_lit 338,(tN 621 ["leads"])) ::
 (nat_lit 339,(aaP P)) ::
 (nat_lit 340,Zc) ::
 (nat_lit 343,ZX) ::
 (nat_lit 350,tE) ::
 (nat_lit 352,(tN 641 ["self", "name", "pay", "pairs"])) ::
 (nat_lit 353,tE) ::
 (nat_lit 355,aa5) ::
 (nat_lit 356,aaM) ::
 (nat_lit 357,(tN 648 ["leads"])) ::
 (nat_lit 358,(aaN P)) ::
 (nat_lit 359,Y9) ::
 (nat_lit 362,aau) ::
 (nat_lit 369,tE) ::
 (nat_lit 371,Y_) ::
 (nat_lit 372,tE) ::
 (nat_lit 374,aaQ) ::
 (nat_lit 375,Zh) ::
 (nat_lit 376,tE) ::
 (nat_lit 377,(abK P)) ::
 (nat_lit 378,Zd) ::
 (nat_lit 381,ZD) ::
 (nat_lit 388,tE) ::
 (nat_lit 391,aaF) ::
 (nat_lit 392,ZC) ::
 (nat_lit 393,tE) ::
 (nat_lit 394,(ZW P)) ::
 (nat_lit 395,aaT) ::
 (nat_lit 398,tE) ::
 (nat_lit 400,(tN 708 ["share"])) ::
 (nat_lit 401,tE) ::
 (nat_lit 403,YG) ::
 (nat_lit 404,abn) ::
 (nat_lit 405,tE) ::
 (nat_lit 407,(tN 715 ["rooms", "numbers", "room", "name"])) ::
 (nat_lit 408,tE) ::
 (nat_lit 410,Zf) ::
 (nat_lit 411,aav) ::
 (nat_lit 412,tE) ::
 (nat_lit 414,Y0) ::
 (nat_lit 415,tE) ::
 (nat_lit 417,aaf) ::
 (nat_lit 418,aah) ::
 (nat_lit 419,tE) ::
 (nat_lit 421,YT) ::
 (nat_lit 422,tE) ::
 (nat_lit 424,Zi) ::
 (nat_lit 425,ZL) ::
 (nat_lit 433,tE) ::
 (nat_lit 436,abW) ::
 (nat_lit 437,Zg) ::
 (nat_lit 438,tE) ::
 (nat_lit 440,(tN 765 ["self"])) ::
 (nat_lit 441,tE) ::
 (nat_lit 443,(cO "size" "Hall.size" 762 197 1 3 438 766)) ::
 (nat_lit 444,YH) ::
 (nat_lit 445,tE) ::
 (nat_lit 447,(tN 772 ["self"])) ::
 (nat_lit 448,tE) ::
 (nat_lit 450,(cO "names" "Hall.names" 769 200 1 3 445 773)) ::
 (nat_lit 451,Zb) ::
 (nat_lit 452,tE) ::
 (nat_lit 454,(tN 779 ["self", "name"])) ::
 (nat_lit 455,tE) ::
 (nat_lit 457,(cO "place" "Hall.place" 776 203 2 3 452 781)) ::
 (nat_lit 458,aaB) ::
 (nat_lit 459,tE) ::
 (nat_lit 461,(tN 787 ["self", "room"])) ::
 (nat_lit 462,tE) ::
 (nat_lit 464,abu) ::
 (nat_lit 465,YS) ::
 (nat_lit 466,tE) ::
 (nat_lit 468,(tN 795 ["self", "room", "name"])) ::
 (nat_lit 469,tE) ::
 (nat_lit 471,abL) ::
 (nat_lit 472,aaO) ::
 (nat_lit 473,tE) ::
 (nat_lit 476,abh) ::
 (nat_lit 477,aaG) ::
 (nat_lit 478,(tN 807 ["numbers", "offered", "share"])) ::
 (nat_lit 479,(aaU P)) ::
 (nat_lit 480,aak) ::
 (nat_lit 481,abA) ::
 (nat_lit 482,Zu) ::
 (nat_lit 485,tE) ::
 (nat_lit 487,(tN 823 ["_law_script", "_law_k"])) ::
 (nat_lit 488,tE) ::
 (nat_lit 490,abq) ::
 (nat_lit 491,aan) ::
 (nat_lit 492,tE) ::
 (nat_lit 494,ZP) ::
 (nat_lit 495,tE) ::
 (nat_lit 497,aal) ::
 (nat_lit 498,Y8) ::
 (nat_lit 499,tE) ::
 (nat_lit 501,abT) ::
 (nat_lit 502,tE) ::
 (nat_lit 504,abD) ::
 (nat_lit 505,aaK) ::
 (nat_lit 506,tE) ::
 (nat_lit 508,aaL) ::
 (nat_lit 509,tE) ::
 (nat_lit 511,aa6) ::
 (nat_lit 512,aax) ::
 (nat_lit 513,tE) ::
 (nat_lit 516,abO) ::
 (nat_lit 517,abR) ::
 (nat_lit 518,tE) ::
 (nat_lit 520,abI) ::
 (nat_lit 521,tE) ::
 (nat_lit 523,aai) ::
 (nat_lit 524,Zj) ::
 (nat_lit 525,tE) ::
 (nat_lit 527,aaD) ::
 (nat_lit 528,tE) ::
 (nat_lit 530,abG) ::
 (nat_lit 531,aa0) ::
 (nat_lit 532,tE) ::
 (nat_lit 535,abV) ::
 (nat_lit 536,aad) ::
 (nat_lit 537,tE) ::
 (nat_lit 540,YJ) ::
 (nat_lit 541,abQ) ::
 (nat_lit 542,tE) ::
 (nat_lit 545,ZS) ::
 (nat_lit 546,ZQ) ::
 (nat_lit 547,tE) ::
 (nat_lit 550,abp) ::
 (nat_lit 551,ZM) ::
 (nat_lit 552,tE) ::
 (nat_lit 554,YF) ::
 (nat_lit 555,tE) ::
 (nat_lit 557,YQ) ::
 (nat_lit 558,abl) ::
 (nat_lit 559,tE) ::
 (nat_lit 561,(tN 921 ["_law_cell_here", "_law_xs"])) ::
 (nat_lit 562,tE) ::
 (nat_lit 564,Yy) ::
 (nat_lit 565,YW) ::
 (nat_lit 566,tE) ::
 (nat_lit 568,(tN 929 ["_law_found", "_law_due", "_law_k"])) ::
 (nat_lit 569,tE) ::
 (nat_lit 571,aaJ) ::
 (nat_lit 572,ZF) ::
 (nat_lit 573,tE) ::
 (nat_lit 575,(tN 938 ["_law_cell_here", "_law_many"])) ::
 (nat_lit 576,tE) ::
 (nat_lit 578,aaY) ::
 (nat_lit 579,aa3) ::
 (nat_lit 580,tE) ::
 (nat_lit 582,aar) ::
 (nat_lit 583,tE) ::
 (nat_lit 585,abJ) ::
 (nat_lit 586,aay) ::
 (nat_lit 587,tE) ::
 (nat_lit 589,(tN 960 ["_law_hall_here", "_law_plan", "e", "_law_others"])) ::
 (nat_lit 590,tE) ::
 (nat_lit 592,(cO "_law_refused" "_law_refused" 957 349 2 3 587 964)) ::
 (nat_lit 593,(fO "_law_refused" "_law_refused" (top 67) (.str "law_chancehall_k20_plans" 818) 592)) ::
 (nat_lit 594,tE) ::
 (nat_lit 597,(cP "law" "law" 967 359 1 3 594 970)) ::
 (nat_lit 598,(fO "law" "law" (top 68) (.str "law_chancehall_k20_plans" 818) 597)) ::
 ([] : List (Nat × Obj)))
noncomputable abbrev asH:List Nat:=[2,3,15,17,18,20,21,22,29,30,31,32,35,42,43,44,47,54,55,56,59,66,67,68,71,78,79,80,83,90,91,92,95,102,104,105,107,108,109,110,111,114,121,123,124,126,127,128,129,130,133,140,142,143,145,146,147,148,149,152,159,161,162,164,165,166,167,168,171,173,174,176,177,178,180,181,183,184,185,186,187,189,190,192,193,194,196,197,199,200,201,203,204,206,207,208,210,211,213,214,215,217,218,220,221,222,225,226,227,229,230,232,233,234,237,238,239,241,242,244,245,246,248,249,251,252,253,256,257,258,260,261,263,264,265,267,268,270,271,272,274,275,277,278,279,282,283,284,287,288,296,298,299,301,302,303,305,306,308,309,310,312,313,315,316,317,318,319,320,321,324,331,333,334,336,337,338,339,340,343,350,352,353,355,356,357,358,359,362,369,371,372,374,375,376,377,378,381,388,391,392,393,394,395,398,400,401,403,404,405,407,408,410,411,412,414,415,417,418,419,421,422,424,425,433,436,437,438,440,441,443,444,445,447,448,450,451,452,454,455,457,458,459,461,462,464,465,466,468,469,471,472,473,476,477,478,479,480,481,482,485,487,488,490,491,492,494,495,497,498,499,501,502,504,505,506,508,509,511,512,513,516,517,518,520,521,523,524,525,527,528,530,531,532,535,536,537,540,541,542,545,546,547,550,551,552,554,555,557,558,559,561,562,564,565,566,568,569,571,572,573,575,576,578,579,580,582,583,585,586,587,589,590,592,593,594,597,598]
end
noncomputable def qv:Program:=view p [0,2,3,4,5,6,7,8,9,10,11,13,14,16,17,18,19,20,21,22,24,25,27,28,29,31,32,34,35,36,37,38,39,40,41,42,43,45,46,47,48,49,51,52,53,54,55,56,57,58,59,60,61,62,63,64,65,66,67,68]
noncomputable abbrev R:RowW:=PySem.Challenge.rw_chancehall_k20_plans.row.toRowW
noncomputable def Xt (s:Shared):Bool:=xlAt qv [] s && recOk R.records s
noncomputable def e:Pos:=⟨359,0,380,47⟩
set_option maxHeartbeats 0
theorem wsd:PySem.Challenge.rw_chancehall_k20_plans.wellSaid = true:=by kernel_rfl
theorem asK:∀ P,asH = (KH P).map (·.1):=fun _=>by kernel_rfl
theorem pre (w:World):(fun os=>topGo treeTable p w 11 ann 12 (S0 w os) (topStub p)) = fun os=>some (Sa w os,⟨denote treeTable (cE p),cE p,z,B⟩):=by
 rw [Fast.te15667345088766844465,Fast.te14364793385576792824,Fast.te11892475500146522536]; kernel_rfl
theorem block (w:World):(fun os=>segRun treeTable p w 11 ann 1 1 (Sa w os) (blockOf (behindTheImports p) (env p) (cE p) z B)) = fun os=>some (.next,(Sb w os).abs,cE p,z):=by
 rw [Fast.te14374325043358763698,Fast.te14364793385576792824]; kernel_rfl
theorem abP (w:World):(fun os=>segRunT treeTable p w 11 ann 1 30000 (Sb w os) (piecesOf ((behindTheImports p).take 67) (env p) (cE p) z B)) = fun os=>some (.next,S1 w os,cE p,e1):=by
 rw [Fast.te10110043849684766642,Fast.te14364793385576792824]; kernel_rfl
theorem big (w:World):(fun os=>(segRunT treeTable p w 11 ann 1 50000 (S1 w os) (piecesOf ((behindTheImports p).drop 67) (env p) (cE p) e1 B)).map fun r =>
  (r.1,r.2.2.1,r.2.2.2,(topRun treeTable p w 11 ann 2 r.2.1.abs ⟨doneF .next,cE p,e,B⟩).map fun s =>
   (staticsOk (importedModules p.main.body) (boot_heap w.params) s.heap && namesBound p s.heap && gensDone s && laidKept (boot_heap w.params) s.heap,openSeen qv [] (importedModules p.main.body) Xt true s,asH.map s.heap.get?))) =
  fun _=>some (.next,cE p,e,some (true,openGood qv [],(KH w.params).map fun p=>some p.2)):=by
 rw [Fast.te10110043849684766642,Fast.te14364793385576792824,Fast.te14082659384304107361,Fast.te4187177175401517315,Fast.te5923862056798008813]; kernel_rfl
theorem left:LeftO p qv [] Xt (fun s=>asH.map s.heap.get?) (fun w=>(KH w.params).map fun p=>some p.2) 200000 :=
 Ob (boot_open rfl rfl fun _=>rfl) pre block (fun w os=>kJ.cutAt (congrFun (abP w) os) (kJ.last (congrFun (big w) os))) rfl
theorem hX (s:Shared) (h:Xt s = true):XL qv [] (s.heap.nsMap mainGlobals) s.heap:=xl_of s (Bool.and_eq_true_iff.mp h).1
theorem hR (s:Shared) (h:Xt s = true):RecFacts R.records s.heap:=recFacts_of (Bool.and_eq_true_iff.mp h).2
end H20
namespace L2
open PySem PySem.Spec PyProof.Rows
noncomputable abbrev Key:=Sum Int Str
noncomputable def vC:Key->Value->Bool
 | .inl k,v=>Value.isInt k v
 | .inr x,v=>Value.isStrOf x v
noncomputable def aci (w:World):Key->Int
 | .inl k=>hashInt k
 | .inr x=>hashStr w x
theorem dZ:∀ {k:Key} {v:Value},vC k v = true->(∃ i t,k = Sum.inl i/\v = Value.int i t)\/(∃ x t,k = Sum.inr x/\v = Value.str x t)
 | .inl i,v,h=>by
  obtain ⟨t,e⟩:=Value.isInt_shape (k:=i) (v:=v) h
  exact .inl ⟨i,t,rfl,e⟩
 | .inr x,v,h=>by
  obtain ⟨t,e⟩:=Value.isStrOf_shape (x:=x) (v:=v) h
  exact .inr ⟨x,t,rfl,e⟩
theorem MN (i:Int) (t:Tok):vC (.inl i) (.int i t) = true:=by simp [vC,Value.isInt]
theorem NK (x:Str) (t:Tok):vC (.inr x) (.str x t) = true:=by simp [vC,Value.isStrOf]
theorem XF (a b:Int):decide ((Sum.inl a:Key) = Sum.inl b) = (a == b):=by
 by_cases e:a = b
 .subst e; simp
 .have h:¬ (Sum.inl a:Key) = Sum.inl b:=fun q=>e (Sum.inl.inj q)
  rw [decide_eq_false h]
  exact (beq_eq_false_iff_ne.mpr e).symm
theorem Ye (a b:Str):decide ((Sum.inr a:Key) = Sum.inr b) = decide (a = b):=by
 by_cases e:a = b
 .subst e; simp
 .have h:¬ (Sum.inr a:Key) = Sum.inr b:=fun q=>e (Sum.inr.inj q)
  rw [decide_eq_false h,decide_eq_false e]
theorem X5 (a:Int) (b:Str):decide ((Sum.inl a:Key) = Sum.inr b) = false:=decide_eq_false (fun q=>nomatch q)
theorem XC (a:Str) (b:Int):decide ((Sum.inr a:Key) = Sum.inl b) = false:=decide_eq_false (fun q=>nomatch q)
noncomputable def iR (prog:Program) (w:World):PySem.KeyKind prog w Key where
 is:=vC
 hash:=aci w
 inj:=fun v a b ha hb=>by
  rcases dZ ha with ⟨i,t,rfl,rfl⟩ | ⟨x,t,rfl,rfl⟩
  .rcases dZ hb with ⟨j,u,rfl,e⟩ | ⟨y,u,rfl,e⟩
   .injection e with e1 _; rw [e1]
   .exact nomatch e
  .rcases dZ hb with ⟨j,u,rfl,e⟩ | ⟨y,u,rfl,e⟩
   .exact nomatch e
   .injection e with e1 _; rw [e1]
 byValue:=fun k v h=>by
  rcases dZ h with ⟨i,t,rfl,rfl⟩ | ⟨x,t,rfl,rfl⟩ <;> rfl
 pyHash:=fun hv h=>by
  rcases dZ hv with ⟨i,t,rfl,rfl⟩ | ⟨x,t,rfl,rfl⟩
  .exact wpAny_pyHash_int h
  .exact wpAny_pyHash_str h
 eqBool:=fun hu hv h=>by
  rcases dZ hu with ⟨i,t,rfl,rfl⟩ | ⟨x,t,rfl,rfl⟩
  .rcases dZ hv with ⟨j,u,rfl,rfl⟩ | ⟨y,u,rfl,rfl⟩
   .rw [XF] at h; exact wpAny_eqBool_int h
   .rw [X5] at h; exact SeqAt.EqAt.int_str i t y u _ _ _ _ h
  .rcases dZ hv with ⟨j,u,rfl,rfl⟩ | ⟨y,u,rfl,rfl⟩
   .rw [XC] at h; exact SeqAt.EqAt.str_int x t j u _ _ _ _ h
   .rw [Ye] at h; exact wpAny_eqBool_str h
 «strs»:=fun k x t v h=>by
  rcases dZ h with ⟨i,u,rfl,e⟩ | ⟨y,u,rfl,e⟩
  .exact nomatch e
  .injection e with e1 _
   subst e1
   cases v <;> rfl
theorem Hr (prog:Program) (w:World) (i:Int) (t:Tok):(iR prog w).is (.inl i) (.int i t) = true:=MN i t
theorem Hl (prog:Program) (w:World) (x:Str) (t:Tok):(iR prog w).is (.inr x) (.str x t) = true:=NK x t
end L2
namespace L2
open PySem PySem.Spec PyProof.Rows
inductive V where
 | non | bl (b:Bool) | int (i:Int) | str (x:Str) | byt (b:Array UInt8) | flt (b:UInt64) | ref (a:Addr) | ty (n:String)
 deriving DecidableEq
noncomputable def RelV:V->Value->Prop
 | .non,u=>u = Value.none
 | .bl b,u=>u = Value.bool b
 | .int i,u=>∃ t,u = Value.int i t
 | .str x,u=>∃ t,u = Value.str x t
 | .byt b,u=>∃ t,u = Value.bytes b t
 | .flt b,u=>∃ t,u = Value.float b t
 | .ref a,u=>u = Value.ref a
 | .ty n,u=>u = Value.type n
noncomputable abbrev Vals:List V->List Value->Prop:=Paired RelV
theorem Vals.length {xs:List V} {us:List Value} (r:Vals xs us):xs.length = us.length:=Paired.length r
theorem Vals.get:∀ {xs:List V} {us:List Value} {i:Nat} {x:V},Vals xs us->xs[i]? = some x->∃ u,us[i]? = some u/\RelV x u
 | _,_,_,_,.nil,e=>by simp at e
 | _,_,0,_,.cons r _,e=>by simp at e; subst e; exact ⟨_,rfl,r⟩
 | _,_,i + 1,x,.cons _ t,e=>by
  obtain ⟨u,h1,h2⟩:=Vals.get (i:=i) (x:=x) t (by simpa using e)
  exact ⟨u,by simpa using h1,h2⟩
theorem Vals.set {x:V} {u:Value} (r:RelV x u):∀ {xs:List V} {us:List Value} (i:Nat),Vals xs us->Vals (xs.set i x) (us.set i u)
 | _,_,_,.nil=>.nil
 | _,_,0,.cons _ t=>.cons r t
 | _,_,i + 1,.cons q t=>.cons q (Vals.set r i t)
theorem Vals.append:∀ {xs ys:List V} {us ws:List Value},Vals xs us->Vals ys ws->Vals (xs ++ ys) (us ++ ws)
 | _,_,_,_,.nil,s=>s
 | _,_,_,_,.cons r t,s=>.cons r (Vals.append t s)
theorem Vals.take:∀ {xs:List V} {us:List Value} (n:Nat),Vals xs us->Vals (xs.take n) (us.take n)
 | _,_,0,_=>.nil
 | _,_,_ + 1,.nil=>.nil
 | _,_,n + 1,.cons r t=>.cons r (Vals.take n t)
theorem Vals.drop:∀ {xs:List V} {us:List Value} (n:Nat),Vals xs us->Vals (xs.drop n) (us.drop n)
 | _,_,0,r=>r
 | _,_,_ + 1,.nil=>.nil
 | _,_,n + 1,.cons _ t=>Vals.drop n t
noncomputable def qb:Option V->Option Value->Prop
 | some v,some u=>RelV v u
 | none,none=>True
 | _,_=>False
noncomputable def KV {κ:Type} : List (κ × V)->List (κ × Value)->Prop:=Paired fun (p:κ × V) (q:κ × Value)=>p.1 = q.1/\RelV p.2 q.2
noncomputable def kV:Key->V
 | .inl i=>.int i
 | .inr x=>.str x
inductive HO where
  | lst (xs:List V)
  | tup (xs:List V)
  | dK (kvs:List (Key × V))
  | set (S:Int->Bool) (n:Nat)
  | ins (C dx:Addr) (fs:List (Str × V))
  | own (x:Addr)
  | xd (fs:List (Str × V))
  | met (f x:Addr)
  | rng (lo hi:Int)
  | frz (o:Obj) (u:HO)
  | tbl (ps:Array Value)
  | ext (φ:Heap->Prop)
noncomputable abbrev Hp:=Addr->Option HO
noncomputable def upd (H:Hp) (a:Addr) (o:HO):Hp:=fun b=>if b = a then some o else H b
theorem bD {H:Hp} {a:Addr} {o:HO} : upd H a o a = some o:=by unfold upd; rw [if_pos rfl]
theorem bG {H:Hp} {a b:Addr} {o:HO} (h:b ≠ a):upd H a o b = H b:=by unfold upd; rw [if_neg h]
theorem oF {H:Hp} {a:Addr} {o u:HO} : upd (upd H a o) a u = upd H a u:=by
 funext b; unfold upd; split <;> rfl
theorem eF {H:Hp} {a b:Addr} {o u:HO} (h:H a = some o) (h':H b = some u) (d:o ≠ u):a ≠ b:=by
 intro e; subst e; rw [h] at h'; exact d (Option.some.inj h')
theorem bB {H:Hp} {a b:Addr} {o:HO} (h:H a = some o) (h':H b = none):a ≠ b:=by
 intro e; subst e; rw [h] at h'; cases h'
section
variable (P:Program) (w:World)
noncomputable def cQ (H:Hp) (h:Heap) (a:Addr):HO->Prop
 | .lst xs=>xs.length <= sizeLine/\∃ (its:List Value) (n:Nat),Vals xs its/\h.get? a = some { cls:=.type "list",data:=.seq its.toArray n }
 | .tup xs=>xs.length <= sizeLine/\∃ its:List Value,Vals xs its/\IsTup h a its.toArray
 | .dK kvs=>kvs.length <= sizeLine/\(a == sysModules) = false/\∃ vs,KV kvs vs/\h.DictOf (iR P w) a vs
 | .set S n=>h.SetOf (intKind P w) a S n
 | .ins C dx fs=>H dx = some (.own a)/\fs.length <= 1000/\dx ≠ a/\h.get? a = some (PySem.W.instObj C dx) /\
   ∃ mA,h.Ns1 dx mA/\(∀ f,qb (fs.lookup f) (mA f))/\PySem.Within mA (fs.map (·.1))
 | .own _=>∃ o,h.get? a = some o
 | .xd fs=>∃ mA,h.Ns1 a mA/\∀ f,qb (fs.lookup f) (mA f)
 | .rng lo hi=>∃ t u v,h.get? a = some { cls:=.type "range",data:=.fields #[.int lo t,.int hi u,.int 1 v] }
 | .frz o u=>h.get? a = some o/\cQ H h a u
 | .tbl ps=>h.get? a = some { cls:=.none,data:=.fields ps }
 | .met f x=>h.get? a = some (PySem.W.methodObj (.ref f) (.ref x))
 | .ext φ=>φ h/\(∃ o,h.get? a = some o)/\∀ h1 h2:Heap,φ h1->(∀ o,h1.get? a = some o->h2.get? a = some o)->φ h2
noncomputable def HOk (H:Hp) (h:Heap):Prop:=∀ a o,H a = some o->cQ P w H h a o
end
section
variable {P:Program} {w:World} {H H':Hp} {h h':Heap} {a:Addr} {o:HO}
theorem cQ.lt (x:cQ P w H h a o):a < h.objs.size:=by
 cases o with
 | lst xs=>obtain ⟨_,_,_,_,e⟩:=x; exact aH e
 | tup xs=>obtain ⟨_,_,_,p⟩:=x; exact p.lt
 | dK kvs=>obtain ⟨_,_,_,_,o,_,_,e,_⟩:=x; exact aH e
 | set S n=>obtain ⟨o,_,_,_,e,_⟩:=x; exact aH e
 | ins C dx fs=>obtain ⟨_,_,_,e,_⟩:=x; exact aH e
 | own y=>obtain ⟨_,e⟩:=x; exact aH e
 | xd fs=>obtain ⟨_,⟨_,_,_,e,_⟩,_⟩:=x; exact aH e
 | rng lo hi=>obtain ⟨_,_,_,e⟩:=x; exact aH e
 | frz ob u=>obtain ⟨e,_⟩:=x; exact aH e
 | tbl ps=>exact aH (show h.get? a = some _ from x)
 | met f y=>exact aH (show h.get? a = some _ from x)
 | ext φ=>obtain ⟨_,⟨_,e⟩,_⟩:=x; exact aH e
theorem cQ.stay (x:cQ P w H h a o) (k:∀ b u,(b = a\/H b = some (.own a))->h.get? b = some u->h'.get? b = some u)
  (ho:∀ b,H b = some (.own a)->H' b = some (.own a)) (ht:∀ b xs,H b = some (.tup xs)->H' b = some (.tup xs)):cQ P w H' h' a o:=by
 induction o with
 | lst xs=>obtain ⟨z,its,n,r,e⟩:=x; exact ⟨z,its,n,r,k _ _ (.inl rfl) e⟩
 | tup xs=>obtain ⟨z,its,r,ob,e,c⟩:=x; exact ⟨z,its,r,ob,k _ _ (.inl rfl) e,c⟩
 | dK kvs=>obtain ⟨z,y,vs,r,ob,es,ep,e,c⟩:=x; exact ⟨z,y,vs,r,ob,es,ep,k _ _ (.inl rfl) e,c⟩
 | set S n=>obtain ⟨ob,es,ep,t,e,c⟩:=x; exact ⟨ob,es,ep,t,k _ _ (.inl rfl) e,c⟩
 | ins C dx fs =>
  obtain ⟨d,z,ne,e,mA,⟨od,es,ep,e2,c⟩,r⟩:=x
  exact ⟨ho _ d,z,ne,k _ _ (.inl rfl) e,mA,⟨od,es,ep,k _ _ (.inr d) e2,c⟩,r⟩
 | own y=>obtain ⟨ob,e⟩:=x; exact ⟨ob,k _ _ (.inl rfl) e⟩
 | xd fs=>obtain ⟨mA,⟨od,es,ep,e,c⟩,r⟩:=x; exact ⟨mA,⟨od,es,ep,k _ _ (.inl rfl) e,c⟩,r⟩
 | rng lo hi=>obtain ⟨t,u,v,e⟩:=x; exact ⟨t,u,v,k _ _ (.inl rfl) e⟩
 | frz ob u ih=>obtain ⟨e,q⟩:=x; exact ⟨k _ _ (.inl rfl) e,ih q⟩
 | tbl ps =>
  have e:h.get? a = some { cls:=.none,data:=.fields ps }:=x
  show h'.get? a = some { cls:=.none,data:=.fields ps }
  exact k a _ (.inl rfl) e
 | met f y =>
  have e:h.get? a = some (PySem.W.methodObj (.ref f) (.ref y)):=x
  show h'.get? a = some (PySem.W.methodObj (.ref f) (.ref y))
  exact k a _ (.inl rfl) e
 | ext φ=>obtain ⟨p,⟨o,e⟩,st⟩:=x; exact ⟨st _ _ p fun o q=>k _ _ (.inl rfl) q,⟨o,k _ _ (.inl rfl) e⟩,st⟩
theorem HOk.lt (x:HOk P w H h) (e:H a = some o):a < h.objs.size:=(x a o e).lt
theorem HOk.fresh (x:HOk P w H h) (e:h.objs.size <= a):H a = none:=by
 cases q:H a with
 | none=>rfl
 | some u=>exact absurd (aQ (x.lt q) e) (Nat.lt_irrefl _)
theorem HOk.kept (x:HOk P w H h) (k:∀ b u,h.get? b = some u->h'.get? b = some u):HOk P w H h':=fun a o e =>
 (x a o e).stay (fun b u _ q=>k b u q) (fun _ q=>q) fun _ _ q=>q
theorem HOk.laid (x:HOk P w H h) (k:∀ b u,h.get? b = some u->h'.get? b = some u) (hp:h.objs.size <= a) (new:cQ P w (upd H a o) h' a o):HOk P w (upd H a o) h':=fun b u e=>by
 have hn:=x.fresh hp
 by_cases hb:b = a
 .subst hb; rw [bD] at e; cases e; exact new
 .rw [bG hb] at e
  exact (x b u e).stay (fun c v _ q=>k c v q) (fun c q=>by rw [bG (bB q hn)]; exact q) fun c xs q=>by rw [bG (bB q hn)]; exact q
end
noncomputable def Rd (H:Hp) (a:Addr) (u:HO):Prop:=H a = some u\/∃ o,H a = some (.frz o u)
theorem Rd.ok {P:Program} {w:World} {H:Hp} {h:Heap} {a:Addr} {u:HO} (r:Rd H a u) (x:HOk P w H h):cQ P w H h a u:=by
 rcases r with r | ⟨o,r⟩
 .exact x a u r
 .obtain ⟨_,q⟩:=x a _ r
  exact q
noncomputable def Mut:Option HO->Prop
 | some (.lst _)=>True
 | some (.dK _)=>True
 | some (.set _ _)=>True
 | some (.ins _ _ _)=>True
 | some (.ext _)=>True
 | _=>False
section
variable {P:Program} {w:World} {H:Hp} {h h':Heap} {x e:Addr} {o':HO}
theorem HOk.write (ok:HOk P w H h) (mu:Mut (H x)) (he:e = x\/H e = some (.own x)) (k:∀ b u,b ≠ e->h.get? b = some u->h'.get? b = some u) (heo:∃ u,h'.get? e = some u)
  (new:cQ P w (upd H x o') h' x o'):HOk P w (upd H x o') h':=fun b u q=>by
 have nown:∀ c y,H c = some (.own y)->c ≠ x:=fun c y r z=>by subst z; rw [r] at mu; exact mu
 have ntup:∀ c xs,H c = some (.tup xs)->c ≠ x:=fun c xs r z=>by subst z; rw [r] at mu; exact mu
 by_cases hb:b = x
 .subst hb; rw [bD] at q; cases q; exact new
 .rw [bG hb] at q
  by_cases hbe:b = e
  .have q':H b = some (.own x):=by
    rcases he with z | z
    .exact absurd (hbe.trans z) hb
    .rw [hbe]; exact z
   rw [q] at q'; cases q'
   obtain ⟨v,hv⟩:=heo
   exact ⟨v,by rw [hbe]; exact hv⟩
  .refine (ok b u q).stay (fun c v hc r=>k c v ?_ r) (fun c r=>by rw [bG (nown c b r)]; exact r) fun c xs r=>by rw [bG (ntup c xs r)]; exact r
   rcases hc with rfl | hc
   .exact hbe
   .rintro rfl
    rcases he with z | z
    .exact nown c b hc z
    .rw [hc] at z; cases z; exact hb rfl
end
structure Un (fs ex:List Addr) (H H':Hp) (h h':Heap):Prop where
 keep:∀ b o,h.get? b = some o->H b = none->b ∉ fs->b ∉ ex->h'.get? b = some o
 slot:∀ b o,h.get? b = some o->H b = none->b ∈ fs->b ∉ ex->∃ sl,h'.get? b = some { o with slots:=sl }
 free:∀ b o,h.get? b = some o->H b = none->b ∉ ex->H' b = none
 there:∀ b o,h.get? b = some o->b ∉ ex->∃ o',h'.get? b = some o'
 tups:∀ b xs,H b = some (.tup xs)->H' b = some (.tup xs)
 frzs:∀ b o u,H b = some (.frz o u)->H' b = some (.frz o u)
 tbls:∀ b ps,H b = some (.tbl ps)->∃ more,H' b = some (.tbl (ps ++ more))
section
variable {fs fs' ex ex':List Addr} {H H1 H2:Hp} {h h1 h2 h':Heap} {a x e:Addr} {o:HO}
theorem Un.any (u:Un fs ex H H1 h h1) {b:Addr} {ob:Obj} (q:h.get? b = some ob) (n:H b = none) (hx:b ∉ ex):∃ sl,h1.get? b = some { ob with slots:=sl }:=by
 by_cases hb:b ∈ fs
 .exact u.slot b ob q n hb hx
 .exact ⟨ob.slots,u.keep b ob q n hb hx⟩
theorem Un.kept (k:∀ b u,h.get? b = some u->h'.get? b = some u):Un fs ex H H h h' :=
 ⟨fun b ob q _ _ _=>k b ob q,fun b ob q _ _ _=>⟨ob.slots,k b ob q⟩,fun _ _ _ n _=>n,fun b ob q _=>⟨ob,k b ob q⟩,fun _ _ q=>q,fun _ _ _ q=>q,fun _ ps q=>⟨#[],by rw [q]; simp⟩⟩
theorem Un.refl:Un fs ex H H h h:=Un.kept fun _ _ q=>q
theorem Un.laid (k:∀ b u,h.get? b = some u->h'.get? b = some u) (hp:h.objs.size <= a) (hn:H a = none):Un fs ex H (upd H a o) h h' where
 keep:=fun b u q _ _ _=>k b u q
 slot:=fun b u q _ _ _=>⟨u.slots,k b u q⟩
 free:=fun b u q n _=>by rw [bG (aP (aQ (aH q) hp))]; exact n
 there:=fun b u q _=>⟨u,k b u q⟩
 tups:=fun b xs q=>by rw [bG (bB q hn)]; exact q
 frzs:=fun b u xs q=>by rw [bG (bB q hn)]; exact q
 tbls:=fun b ps q=>⟨#[],by rw [bG (bB q hn),q]; simp⟩
theorem Un.write (mu:Mut (H x)) (he:e = x\/H e = some (.own x)) (k:∀ b u,b ≠ e->h.get? b = some u->h'.get? b = some u) (heo:∃ u,h'.get? e = some u):Un fs ex H (upd H x o) h h':=by
 have hx:∀ b,H b = none->b ≠ x:=fun b n z=>by subst z; rw [n] at mu; exact mu
 have hb:∀ b,H b = none->b ≠ e:=fun b n z=>by
  subst z
  rcases he with r | r
  .exact hx b n r
  .rw [n] at r; cases r
 have hm:∀ b u,H b = some u->¬ Mut (some u)->b ≠ x:=fun b u q nm z=>by subst z; rw [q] at mu; exact nm mu
 refine ⟨fun b u q n _ _=>k b u (hb b n) q,fun b u q n _ _=>⟨u.slots,k b u (hb b n) q⟩,fun b u q n _=>by rw [bG (hx b n)]; exact n,fun b u q _=>?_,
  fun b xs q=>by rw [bG (hm b _ q fun z=>z)]; exact q,fun b u xs q=>by rw [bG (hm b _ q fun z=>z)]; exact q,fun b ps q=>⟨#[],by rw [bG (hm b _ q fun z=>z),q]; simp⟩⟩
 by_cases hbe:b = e
 .subst hbe; exact heo
 .exact ⟨u,k b u hbe q⟩
end
noncomputable def trk (h:Heap) (H:Hp):List Addr:=(List.range h.objs.size).filter fun a=>(H a).isSome
noncomputable def Dd (h:Heap) (H:Hp):Heap:=PySem.W.hideAll h (trk h H)
theorem NZ (h:Heap) (H:Hp):(Dd h H).objs.size = h.objs.size:=PySem.W.hideAll_size _ _
theorem Rn {h:Heap} {H:Hp} {b:Addr} {o:Obj} (e:h.get? b = some o) (n:H b = none):(Dd h H).get? b = some o :=
 PySem.W.hideAll_get _ e fun hm=>by
  have q:(H b).isSome = true:=(List.mem_filter.mp hm).2
  rw [n] at q; simp at q
theorem Vr {h:Heap} {H:Hp} {b:Addr} {o:Obj} (e:(Dd h H).get? b = some o):h.get? b = some o/\H b = none:=by
 have e':h.get? b = some o:=PySem.W.of_hideAll (trk h H) e
 refine ⟨e',?_⟩
 cases q:H b with
 | none=>rfl
 | some x =>
  have hm:b ∈ trk h H:=List.mem_filter.mpr ⟨List.mem_range.mpr (aH e'),by simp [q]⟩
  have z:(Dd h H).get? b = none:=PySem.W.hideAll_none (trk h H) hm
  rw [z] at e; cases e
noncomputable def Va (g h:Heap) (L:Addr):List (Addr × Obj):=(List.range h.objs.size).filterMap fun a=>if a = L\/(g.get? a).isSome = true then none else (h.get? a).map fun o=>(a,o)
noncomputable def rest (g h:Heap) (L d:Addr):List (Addr × Obj):=(Va g h L).filter fun p=>decide (p.1 ≠ d)
end L2
namespace L2
open PySem PySem.Spec PyProof.Rows
structure Mod (K:Frag) (mg:Str->Option Value) (base:Heap):Prop where
 kin:K.In base
 glob:base.Ns mainGlobals mg
 blt:∃ mb,base.Ns builtinsNs mb/\∀ x:Str,x ≠ "__name__" -> mb x = bootBuiltins x
 nolimit:base.NoLimit
structure Cx where
 prog:Program
 w:World
 K:Frag
 mg:Str->Option Value
 base:Heap
 A:Around
 N:List Str
 s₀:Shared
 H₀:Hp
 env:Env
 outer:List Env
 stack:List Env
 ex:List Addr
 fn:Str->Bool
 calm:Bool
 pn:List (Addr × Obj)
 xe:Value->Shared->Prop
noncomputable def frs (l:List Env):List Addr:=l.filterMap (·.frame)
noncomputable abbrev Cx.fs (X:Cx):List Addr:=frs X.outer
noncomputable def Vis (sc:Scope) (x:Str):Prop:=sc.names.lookup x = some .local\/sc.names.lookup x = some .cell\/sc.names.lookup x = some .free
noncomputable def Loc (sc:Scope) (x:Str):Prop:=sc.names.lookup x = some .local\/sc.names.lookup x = some .cell
noncomputable def Look (env:Env) (h:Heap) (m:Str->Option Value) (x:Str) (u:Value):Prop :=
 (env.kindOf x = some .local/\m x = some u)\/((env.kindOf x = some .cell\/env.kindOf x = some .free)/\∃ c,env.cells.lookup x = some c/\h.IsCell c (some u))
structure Cx.Ok (X:Cx):Prop where
 mod:Mod X.K X.mg X.base
 kind:X.env.scope.kind = .function
 glob:X.env.globals = mainGlobals
 blt:X.env.builtins = builtinsNs
 above:X.s₀.heap.objs.size <= X.env.locals
 inj:∀ x y c,X.env.cells.lookup x = some c->X.env.cells.lookup y = some c->x = y
 has:∀ x,(X.env.kindOf x = some .cell\/X.env.kindOf x = some .free)->∃ c,X.env.cells.lookup x = some c
 cab:∀ x c,X.fn x = true->X.env.cells.lookup x = some c->X.s₀.heap.objs.size <= c
 hd:X.calm = true->X.A.handled = none
 frames:X.A.frames = some X.stack
 stk:X.stack = X.outer\/(X.stack = X.env :: X.outer/\X.env.frame = some X.env.locals)
 exf:∀ b ∈ X.ex,b ≠ X.env.locals/\∀ x c,X.env.cells.lookup x = some c->c ≠ b
 bs:∀ b o,X.base.get? b = some o->X.s₀.heap.get? b = some o/\X.H₀ b = none
 bsz:X.base.objs.size <= X.s₀.heap.objs.size
 noex:∀ b o,X.base.get? b = some o->b ∉ X.ex
 exfs:∀ b ∈ X.ex,b ∉ X.fs
 funs:X.s₀.heap.FunFrames X.base X.outer
 frf:∀ b ∈ X.fs,X.H₀ b = none
structure Inv (X:Cx) (pins:List (Addr × Obj)) (σ:List (Option V)) (H:Hp) (s:Shared):Prop where
 ok:X.Ok
 os:s.os = X.s₀.os
 bare:AllBare s.gens
 base:Un X.fs X.ex X.H₀ H X.s₀.heap s.heap
 loc:∃ m,s.heap.Ns X.env.locals m/\∀ (i:Nat) (x:Str) (v:V),X.N[i]? = some x->σ[i]? = some (some v)->Vis X.env.scope x->∃ u,RelV v u/\Look X.env s.heap m x u
 cell:∀ x c,X.env.cells.lookup x = some c->∃ v,s.heap.IsCell c v
 free:H X.env.locals = none
 freeC:∀ x c,X.env.cells.lookup x = some c->H c = none
 pin:∀ p ∈ X.pn ++ pins,s.heap.get? p.1 = some p.2/\H p.1 = none/\p.1 ≠ X.env.locals/\p.1 ∉ X.fs/\∀ v,p.2.data ≠ .cell v
 hok:HOk X.prog X.w H s.heap
 len:σ.length = X.N.length
section
variable {X:Cx} {pins:List (Addr × Obj)} {σ:List (Option V)} {H H':Hp} {s:Shared} {h':Heap}
theorem Cx.Ok.nofr (ok:X.Ok) {b:Addr} {o:Obj} (e:X.base.get? b = some o):b ∉ X.fs:=fun hb=>by
 have:=(ok.funs.mem hb).1
 rw [e] at this; cases this
theorem Inv.bs (I:Inv X pins σ H s):∀ b o,X.base.get? b = some o->s.heap.get? b = some o/\H b = none:=fun b o e =>
 ⟨I.base.keep b o (I.ok.bs b o e).1 (I.ok.bs b o e).2 (I.ok.nofr e) (I.ok.noex b o e),I.base.free b o (I.ok.bs b o e).1 (I.ok.bs b o e).2 (I.ok.noex b o e)⟩
theorem Inv.bk (I:Inv X pins σ H s):∀ b o,X.base.get? b = some o->s.heap.get? b = some o:=fun b o e=>(I.bs b o e).1
theorem Inv.mod (I:Inv X pins σ H s):Mod X.K X.mg X.base:=I.ok.mod
theorem Inv.kIn (I:Inv X pins σ H s):X.K.In s.heap:=I.ok.mod.kin.keeps I.bk
theorem Inv.fr (I:Inv X pins σ H s):∃ m,Fr X.base X.env.locals s.heap m :=
 let ⟨m,hn,_⟩:=I.loc
 ⟨m,hn,I.bk,aK I.ok.bsz I.ok.above⟩
theorem Inv.lt (I:Inv X pins σ H s):X.env.locals < s.heap.objs.size:=let ⟨_,hn,_⟩:=I.loc; hn.lt
theorem Inv.sz (I:Inv X pins σ H s):X.s₀.heap.objs.size <= s.heap.objs.size:=aK I.ok.above (Nat.le_of_lt I.lt)
theorem Inv.nofs (I:Inv X pins σ H s) {a:Addr} (h:s.heap.objs.size <= a):a ∉ X.fs:=fun hb=>by
 obtain ⟨_,o,ho,_⟩:=I.ok.funs.mem hb
 exact absurd (aQ (aH ho) (aK I.sz h)) (Nat.lt_irrefl _)
theorem Inv.cne (I:Inv X pins σ H s):∀ x c,X.env.cells.lookup x = some c->c ≠ X.env.locals:=fun x c e z=>by
 obtain ⟨v,o,ho,hd⟩:=I.cell x c e
 obtain ⟨m,⟨o',es,ep,ho',hd',_⟩,_⟩:=I.loc
 rw [z,ho'] at ho; cases ho; rw [hd'] at hd; cases hd
theorem Inv.funs (I:Inv X pins σ H s):s.heap.FunFrames X.base X.outer:=by
 have all:∀ (l:List Env),(∀ b ∈ frs l,b ∈ X.fs)->X.s₀.heap.FunFrames X.base l->s.heap.FunFrames X.base l:=by
  intro l
  induction l with
  | nil=>intro _ _; trivial
  | cons env r ih =>
   intro hs hl
   obtain ⟨hk,⟨L,o,hf,hn,ho,hd⟩,hr⟩:=hl
   have hL:L ∈ X.fs:=hs L (by unfold frs; rw [List.filterMap_cons,hf]; exact aM)
   obtain ⟨sl,e⟩:=I.base.slot L o ho (I.ok.frf L hL) hL fun z=>I.ok.exfs L z hL
   exact ⟨hk,⟨L,_,hf,hn,e,hd⟩,ih (fun b hb=>hs b (by unfold frs; rw [List.filterMap_cons,hf]; exact aG _ hb)) hr⟩
 exact all X.outer (fun _ hb=>hb) I.ok.funs
theorem Inv.stack (I:Inv X pins σ H s):s.heap.FunFrames X.base X.stack:=by
 rcases I.ok.stk with e | ⟨e,hf⟩
 .rw [e]; exact I.funs
 .rw [e]
  obtain ⟨m,hn,_⟩:=I.loc
  refine .cons (by rw [I.ok.kind]; decide) hf hn ?_ I.funs
  exact Heap.get?_none_of_le (aK I.ok.bsz I.ok.above)
theorem Inv.stkSub (I:Inv X pins σ H s):∀ b ∈ frs X.stack,b ∈ X.env.locals :: X.fs:=fun b hb=>by
 rcases I.ok.stk with e | ⟨e,hf⟩
 .rw [e] at hb; exact aG _ hb
 .rw [e] at hb
  unfold frs at hb
  rw [List.filterMap_cons,hf] at hb
  exact hb
theorem Inv.stkFree (I:Inv X pins σ H s):∀ b ∈ frs X.stack,H b = none:=fun b hb=>by
 rcases List.mem_cons.mp (I.stkSub b hb) with e | hb
 .rw [e]; exact I.free
 .obtain ⟨_,o,ho,_⟩:=I.ok.funs.mem hb
  exact I.base.free b o ho (I.ok.frf b hb) fun z=>I.ok.exfs b z hb
theorem Inv.step {g':Array GenState} {t':Nat} {d':Drawn} {ch:List Addr} (I:Inv X pins σ H s)
  (hch:∀ b ∈ ch,(b ∈ X.ex\/X.s₀.heap.objs.size <= b)/\b ≠ X.env.locals/\(∀ x c,X.env.cells.lookup x = some c->c ≠ b)/\∀ p ∈ X.pn ++ pins,p.1 ≠ b)
  (keep:∀ b o,b ≠ X.env.locals->b ∉ X.fs->b ∉ ch->s.heap.get? b = some o->H b = none->h'.get? b = some o)
  (slot:∀ b o,b ≠ X.env.locals->b ∈ X.fs->b ∉ ch->s.heap.get? b = some o->H b = none->∃ sl,h'.get? b = some { o with slots:=sl }) (free:∀ b o,b ∉ ch->s.heap.get? b = some o->H b = none->H' b = none)
  (there:∀ b o,b ∉ ch->s.heap.get? b = some o->∃ o',h'.get? b = some o')
  (tups:∀ b xs,H b = some (.tup xs)->H' b = some (.tup xs)) (frzs:∀ b o u,H b = some (.frz o u)->H' b = some (.frz o u)) (tbls:∀ b ps,H b = some (.tbl ps)->∃ more,H' b = some (.tbl (ps ++ more)))
  (ns:∀ m,s.heap.Ns X.env.locals m->h'.Ns X.env.locals m) (hok:HOk X.prog X.w H' h') (hg:AllBare g') :
  Inv X pins σ H' { s with heap:=h',gens:=g',drawn:=d',toks:=t' }:=by
 have neL:∀ b o,X.s₀.heap.get? b = some o->b ≠ X.env.locals:=fun b o e=>aP (aQ (aH e) I.ok.above)
 have neC:∀ b o,X.s₀.heap.get? b = some o->b ∉ X.ex->b ∉ ch:=fun b o e hx hb=>by
  rcases (hch b hb).1 with z | z
  .exact hx z
  .exact absurd (aQ (aH e) z) (Nat.lt_irrefl _)
 have cellK:∀ x c,X.env.cells.lookup x = some c->∀ v,s.heap.IsCell c v->h'.IsCell c v:=fun x c e v ⟨o,ho,hd⟩=>by
  have nch:c ∉ ch:=fun z=>(hch c z).2.2.1 x c e rfl
  by_cases hc:c ∈ X.fs
  .obtain ⟨sl,q⟩:=slot c o (I.cne x c e) hc nch ho (I.freeC x c e)
   exact ⟨_,q,hd⟩
  .exact ⟨o,keep c o (I.cne x c e) hc nch ho (I.freeC x c e),hd⟩
 refine ⟨I.ok,I.os,hg,⟨fun b o e n hb hx=>?_,fun b o e n hb hx=>?_,fun b o e n hx=>?_,fun b o e hx=>?_,fun b xs e=>tups b xs (I.base.tups b xs e),fun b o xs e=>frzs b o xs (I.base.frzs b o xs e),fun b ps e=>?_⟩,?_,fun x c e=>?_,?_,fun x c e=>?_,fun p hp=>?_,hok,I.len⟩
 .exact keep b o (neL b o e) hb (neC b o e hx) (I.base.keep b o e n hb hx) (I.base.free b o e n hx)
 .obtain ⟨sl,e1⟩:=I.base.slot b o e n hb hx
  obtain ⟨sl',e2⟩:=slot b _ (neL b o e) hb (neC b o e hx) e1 (I.base.free b o e n hx)
  exact ⟨sl',e2⟩
 .obtain ⟨o',e1⟩:=I.base.there b o e hx
  exact free b o' (neC b o e hx) e1 (I.base.free b o e n hx)
 .obtain ⟨o',e1⟩:=I.base.there b o e hx
  exact there b o' (neC b o e hx) e1
 .obtain ⟨m1,e1⟩:=I.base.tbls b ps e
  obtain ⟨m2,e2⟩:=tbls b _ e1
  exact ⟨m1 ++ m2,by rw [e2,Array.append_assoc]⟩
 .obtain ⟨m,hn,hl⟩:=I.loc
  refine ⟨m,ns m hn,fun i x v e1 e2 e3=>?_⟩
  obtain ⟨u,r,l⟩:=hl i x v e1 e2 e3
  refine ⟨u,r,?_⟩
  rcases l with l | ⟨k,c,e,z⟩
  .exact .inl l
  .exact .inr ⟨k,c,e,cellK x c e _ z⟩
 .obtain ⟨v,z⟩:=I.cell x c e
  exact ⟨v,cellK x c e v z⟩
 .obtain ⟨m,⟨o,_,_,ho,_⟩,_⟩:=I.loc
  exact free _ o (fun z=>(hch _ z).2.1 rfl) ho I.free
 .obtain ⟨v,o,ho,hd⟩:=I.cell x c e
  exact free c o (fun z=>(hch c z).2.2.1 x c e rfl) ho (I.freeC x c e)
 .obtain ⟨e,n,ne,nf,d⟩:=I.pin p hp
  have nch:p.1 ∉ ch:=fun z=>(hch p.1 z).2.2.2 p hp rfl
  exact ⟨keep p.1 p.2 ne nf nch e n,free p.1 p.2 nch e n,ne,nf,d⟩
theorem Inv.un {t':Nat} (I:Inv X pins σ H s) (u:Un X.fs [] H H' s.heap h') (hok:HOk X.prog X.w H' h'):Inv X pins σ H' { s with heap:=h',toks:=t' }:=by
 obtain ⟨m,⟨o,es,ep,ho,r⟩,_⟩:=id I.loc
 obtain ⟨sl,hL⟩:=u.any ho I.free (by simp)
 exact I.step (g':=s.gens) (d':=s.drawn) (ch:=[]) (fun _ z=>nomatch z) (fun b o _ hb _ e n=>u.keep b o e n hb (by simp)) (fun b o _ hb _ e n=>u.slot b o e n hb (by simp)) (fun b o _ e n=>u.free b o e n (by simp)) (fun b o _ e=>u.there b o e (by simp)) u.tups u.frzs u.tbls (fun m' hm=>by
  obtain ⟨o',es',ep',ho',r'⟩:=hm
  rw [ho] at ho'; cases ho'
  exact ⟨_,es',ep',hL,r'⟩) hok I.bare
theorem Inv.call {g':Array GenState} {t':Nat} {d':Drawn} {ch:List Addr} (I:Inv X pins σ H s) (u:Un (frs X.stack) ch H H' s.heap h') (hok:HOk X.prog X.w H' h') (hg:AllBare g')
  (hch:∀ b ∈ ch,(b ∈ X.ex\/X.s₀.heap.objs.size <= b)/\b ≠ X.env.locals/\(∀ x c,X.env.cells.lookup x = some c->c ≠ b)/\∀ p ∈ X.pn ++ pins,p.1 ≠ b) :
  Inv X pins σ H' { s with heap:=h',gens:=g',drawn:=d',toks:=t' }:=by
 obtain ⟨m,⟨o,es,ep,ho,r⟩,_⟩:=id I.loc
 obtain ⟨sl,hL⟩:=u.any ho I.free fun z=>(hch _ z).2.1 rfl
 exact I.step (ch:=ch) hch (fun b o hL hb hc e n=>u.keep b o e n (fun z=>(List.mem_cons.mp (I.stkSub b z)).elim hL hb) hc) (fun b o _ _ hc e n=>u.any e n hc) (fun b o hc e n=>u.free b o e n hc) (fun b o hc e=>u.there b o e hc) u.tups u.frzs u.tbls (fun m' hm=>by
  obtain ⟨o',es',ep',ho',r'⟩:=hm
  rw [ho] at ho'; cases ho'
  exact ⟨_,es',ep',hL,r'⟩) hok hg
theorem Inv.turned {t':Nat} {it:Addr} (I:Inv X pins σ H s) (k:∀ b o,b ≠ it->s.heap.get? b = some o->h'.get? b = some o) (hn:H it = none) (hL:it ≠ X.env.locals)
  (h1:it ∈ X.ex\/X.s₀.heap.objs.size <= it) (h2:∀ x c,X.env.cells.lookup x = some c->c ≠ it) (h3:∀ p ∈ X.pn ++ pins,p.1 ≠ it):Inv X pins σ H { s with heap:=h',toks:=t' }:=by
 have nit:∀ b u,H b = some u->b ≠ it:=fun b u e z=>by rw [z,hn] at e; cases e
 refine I.step (g':=s.gens) (d':=s.drawn) (ch:=[it]) (fun b hb=>?_) (fun b o _ _ hc e _=>k b o (fun z=>hc (by simp [z])) e) (fun b o _ _ hc e _=>⟨o.slots,k b o (fun z=>hc (by simp [z])) e⟩) (fun _ _ _ _ n=>n)
  (fun b o hc e=>⟨o,k b o (fun z=>hc (by simp [z])) e⟩) (fun _ _ e=>e) (fun _ _ _ e=>e) (fun b ps e=>⟨#[],by rw [e]; simp⟩) (fun m hm=>?_) (fun b u e=>?_) I.bare
 .have e:b = it:=by simpa using hb
  subst e
  exact ⟨h1,hL,h2,h3⟩
 .obtain ⟨o,es,ep,ho,r⟩:=hm
  exact ⟨o,es,ep,k _ o (Ne.symm hL) ho,r⟩
 .refine (I.hok b u e).stay (fun c v hc q=>k c v ?_ q) (fun _ q=>q) fun _ _ q=>q
  rcases hc with z | z
  .rw [z]; exact nit b u e
  .exact nit c _ z
theorem Inv.tok (I:Inv X pins σ H s) (t:Nat):Inv X pins σ H { s with toks:=t }:=I.un (h':=s.heap) (t':=t) Un.refl I.hok
theorem Inv.kept {t':Nat} (I:Inv X pins σ H s) (k:∀ b u,s.heap.get? b = some u->h'.get? b = some u):Inv X pins σ H { s with heap:=h',toks:=t' }:=I.un (Un.kept k) (I.hok.kept k)
theorem Inv.laid {a:Addr} {o:HO} {t':Nat} (I:Inv X pins σ H s) (k:∀ b u,s.heap.get? b = some u->h'.get? b = some u) (hp:s.heap.objs.size <= a) (new:cQ X.prog X.w (upd H a o) h' a o) :
  Inv X pins σ (upd H a o) { s with heap:=h',toks:=t' }:=I.un (Un.laid k hp (I.hok.fresh hp)) (I.hok.laid k hp new)
theorem Inv.write {x e:Addr} {o:HO} {t':Nat} (I:Inv X pins σ H s) (mu:Mut (H x)) (he:e = x\/H e = some (.own x)) (k:∀ b u,b ≠ e->s.heap.get? b = some u->h'.get? b = some u) (heo:∃ u,h'.get? e = some u)
  (new:cQ X.prog X.w (upd H x o) h' x o):Inv X pins σ (upd H x o) { s with heap:=h',toks:=t' }:=I.un (Un.write mu he k heo) (I.hok.write mu he k heo new)
theorem Inv.pins_of {pins':List (Addr × Obj)} (I:Inv X pins σ H s) (h:∀ p ∈ pins',s.heap.get? p.1 = some p.2/\H p.1 = none/\p.1 ≠ X.env.locals/\p.1 ∉ X.fs/\∀ v,p.2.data ≠ .cell v):Inv X pins' σ H s :=
 ⟨I.ok,I.os,I.bare,I.base,I.loc,I.cell,I.free,I.freeC,fun p hp=>(List.mem_append.mp hp).elim (fun z=>I.pin p (List.mem_append_left _ z)) (h p),I.hok,I.len⟩
theorem yu {N:List Str} (hN:N.Nodup) {i j:Nat} {x:Str} (a:N[i]? = some x) (b:N[j]? = some x):i = j:=by
 obtain ⟨h1,e1⟩:=ao.mp a
 obtain ⟨h2,e2⟩:=ao.mp b
 exact (List.getElem_inj hN).mp (e1.trans e2.symm)
theorem Nj {M:Model} {A:Around} {E:Value->Shared->Prop} {i:Nat} {x:Str} {v:V} {u:Value} {Q:Unit->Shared->Prop} (I:Inv X pins σ H s) (hN:X.N.Nodup) (hi:X.N[i]? = some x) (hx:Loc X.env.scope x) (r:RelV v u)
  (h:∀ s',Inv X pins (σ.set i (some v)) H s'->(∃ a,Heap.SameBut a s.heap s'.heap/\(a = X.env.locals\/X.env.cells.lookup x = some a))->Q () s') (hf:X.fn x = true\/X.env.scope.names.lookup x = some .local):wpAny M A (storeName X.env x u) Q E s:=by
 obtain ⟨m,hn,hl⟩:=id I.loc
 have hcls:(X.env.scope.kind == .class || (X.env.scope.kind == .module && X.env.locals != X.env.globals)) = false:=by rw [I.ok.kind]; rfl
 have hiσ:i < σ.length:=by rw [I.len]; exact (ao.mp hi).1
 have cne:=I.cne
 have tracked:∀ {a:Addr} {h':Heap},(∃ o,s.heap.get? a = some o/\H a = none)->Heap.SameBut a s.heap h'->HOk X.prog X.w H h':=fun {a h'} ha hs b ob e=>by
  obtain ⟨_,_,hfree⟩:=ha
  refine (I.hok b ob e).stay (fun c w' hc q=>(hs.2 c ?_).trans q) (fun _ q=>q) fun _ _ q=>q
  rintro rfl
  rcases hc with rfl | hc
  .rw [hfree] at e; cases e
  .rw [hfree] at hc; cases hc
 rcases hx with hk | hk
 .refine wpAny_storeName_local hk hn (fun h' hn' hs=>?_) hcls
  obtain ⟨oL,_,_,hoL,_⟩:=id hn
  refine h _ ⟨I.ok,I.os,I.bare,⟨fun b o e n hb hx=>?_,fun b o e n hb hx=>?_,I.base.free,fun b o e hx=>?_,I.base.tups,I.base.frzs,I.base.tbls⟩,⟨_,hn',fun j y v' e1 e2 e3=>?_⟩,fun y c e=>?_,I.free,I.freeC,fun p hp=>?_,tracked ⟨oL,hoL,I.free⟩ hs,by simpa using I.len⟩ ⟨_,hs,.inl rfl⟩
  .exact (hs.2 b (aP (aQ (aH e) I.ok.above))).trans (I.base.keep b o e n hb hx)
  .obtain ⟨sl,e1⟩:=I.base.slot b o e n hb hx
   exact ⟨sl,(hs.2 b (aP (aQ (aH e) I.ok.above))).trans e1⟩
  .obtain ⟨o',e1⟩:=I.base.there b o e hx
   exact ⟨o',(hs.2 b (aP (aQ (aH e) I.ok.above))).trans e1⟩
  .by_cases hj:j = i
   .subst hj
    rw [hi] at e1; cases e1
    rw [List.getElem?_set_self hiσ] at e2
    cases e2
    exact ⟨u,r,.inl ⟨hk,by simp⟩⟩
   .rw [List.getElem?_set_ne (Ne.symm hj)] at e2
    obtain ⟨u',r',q⟩:=hl j y v' e1 e2 e3
    refine ⟨u',r',?_⟩
    rcases q with ⟨k,e⟩ | ⟨k,c,e,z⟩
    .refine .inl ⟨k,?_⟩
     have:y ≠ x:=fun e=>hj (yu hN e1 (e ▸ hi))
     simp [this,e]
    .exact .inr ⟨k,c,e,z.sameBut hs (cne y c e)⟩
  .obtain ⟨w',z⟩:=I.cell y c e
   exact ⟨w',z.sameBut hs (cne y c e)⟩
  .obtain ⟨e,n,ne,nf,d⟩:=I.pin p hp
   exact ⟨(hs.2 p.1 ne).trans e,n,ne,nf,d⟩
 .have hfn:X.fn x = true:=by
   rcases hf with z | z
   .exact z
   .rw [z] at hk; cases hk
  obtain ⟨c,hc⟩:=I.ok.has x (.inl hk)
  obtain ⟨w',z⟩:=I.cell x c hc
  refine wpAny_storeName_cell I.ok.kind hk hc z (fun h' hc' hs=>?_)
  obtain ⟨oc,hoc,hocd⟩:=id z
  refine h { s with heap:=h' } ⟨I.ok,I.os,I.bare,⟨fun b o e n hb hx=>?_,fun b o e n hb hx=>?_,I.base.free,fun b o e hx=>?_,I.base.tups,I.base.frzs,I.base.tbls⟩,⟨m,hn.sameBut hs (Ne.symm (cne x c hc)),fun j y v' e1 e2 e3=>?_⟩,fun y c' e=>?_,I.free,I.freeC,fun p hp=>?_,tracked ⟨oc,hoc,I.freeC x c hc⟩ hs,by simpa using I.len⟩ ⟨c,hs,.inr hc⟩
  .exact (hs.2 b (aP (aQ (aH e) (I.ok.cab x c hfn hc)))).trans (I.base.keep b o e n hb hx)
  .obtain ⟨sl,e1⟩:=I.base.slot b o e n hb hx
   exact ⟨sl,(hs.2 b (aP (aQ (aH e) (I.ok.cab x c hfn hc)))).trans e1⟩
  .obtain ⟨o',e1⟩:=I.base.there b o e hx
   exact ⟨o',(hs.2 b (aP (aQ (aH e) (I.ok.cab x c hfn hc)))).trans e1⟩
  .by_cases hj:j = i
   .subst hj
    rw [hi] at e1; cases e1
    rw [List.getElem?_set_self hiσ] at e2
    cases e2
    exact ⟨u,r,.inr ⟨.inl hk,c,hc,hc'⟩⟩
   .rw [List.getElem?_set_ne (Ne.symm hj)] at e2
    obtain ⟨u',r',q⟩:=hl j y v' e1 e2 e3
    refine ⟨u',r',?_⟩
    rcases q with q | ⟨k,c',e,z'⟩
    .exact .inl q
    .refine .inr ⟨k,c',e,z'.sameBut hs ?_⟩
     rintro rfl
     exact hj (yu hN e1 (I.ok.inj _ _ _ e hc ▸ hi))
  .by_cases hcc:c' = c
   .subst hcc; exact ⟨_,hc'⟩
   .obtain ⟨w2,z2⟩:=I.cell y c' e
    exact ⟨w2,z2.sameBut hs hcc⟩
  .obtain ⟨e,n,ne,nf,d⟩:=I.pin p hp
   refine ⟨(hs.2 p.1 ?_).trans e,n,ne,nf,d⟩
   intro q
   rw [q,hoc] at e
   have q':oc = p.2:=Option.some.inj e
   exact d w' (by rw [<- q']; exact hocd)
theorem pL {M:Model} {A:Around} {E:Value->Shared->Prop} {i:Nat} {x:Str} {v:V} {u:Value} {Q:Unit->Shared->Prop} (I:Inv X pins σ H s) (hN:X.N.Nodup) (hi:X.N[i]? = some x) (hx:Loc X.env.scope x) (r:RelV v u)
  (h:∀ s',Inv X pins (σ.set i (some v)) H s'->Q () s') (hf:X.fn x = true\/X.env.scope.names.lookup x = some .local:=by first | exact .inl rfl | exact .inr rfl | assumption):wpAny M A (storeName X.env x u) Q E s :=
 Nj I hN hi hx r (fun s' I' _=>h s' I') hf
theorem Inv.call' {s':Shared} {ch:List Addr} (I:Inv X pins σ H s) (ho:s'.os = s.os) (u:Un (frs X.stack) ch H H' s.heap s'.heap) (hok:HOk X.prog X.w H' s'.heap) (hg:AllBare s'.gens)
  (hch:∀ b ∈ ch,(b ∈ X.ex\/X.s₀.heap.objs.size <= b)/\b ≠ X.env.locals/\(∀ x c,X.env.cells.lookup x = some c->c ≠ b)/\∀ p ∈ X.pn ++ pins,p.1 ≠ b):Inv X pins σ H' s':=by
 obtain ⟨h',g',d',t',o'⟩:=s'
 have e:o' = s.os:=ho
 subst e
 exact I.call (g':=g') (t':=t') (d':=d') u hok hg hch
end
noncomputable abbrev XK:=Value->Option Addr->Hp->Prop
noncomputable abbrev St:=List (Option V)
noncomputable abbrev VK:=V->Hp->Prop
noncomputable abbrev TE:=St->Hp->VK->Prop
noncomputable abbrev TT:=St->Hp->(Bool->Hp->Prop)->Prop
noncomputable abbrev TA:=St->Hp->(List V->Hp->Prop)->Prop
structure Ends where
 nx:St->Hp->Prop
 rt:VK
 bk:St->Hp->Prop:=fun _ _=>False
 ct:St->Hp->Prop:=fun _ _=>False
noncomputable abbrev TS:=Ends->St->Hp->Prop
noncomputable def EP (X:Cx) (pins:List (Addr × Obj)) (σ:St) (Q:VK) (u:Value) (s':Shared):Prop:=∃ v H',Inv X pins σ H' s'/\RelV v u/\Q v H'
noncomputable def TP (X:Cx) (pins:List (Addr × Obj)) (σ:St) (Q:Bool->Hp->Prop) (b:Bool) (s':Shared):Prop:=∃ H',Inv X pins σ H' s'/\Q b H'
noncomputable def AP (X:Cx) (pins:List (Addr × Obj)) (σ:St) (Q:List V->Hp->Prop) (us:List Value) (s':Shared):Prop:=∃ vs H',Inv X pins σ H' s'/\Vals vs us/\Q vs H'
noncomputable def SP (X:Cx) (pins:List (Addr × Obj)) (D:Ends) (f:Flow) (s':Shared):Prop :=
 match f with
 | .next=>∃ σ' H',Inv X pins σ' H' s'/\D.nx σ' H'
 | .brk=>∃ σ' H',Inv X pins σ' H' s'/\D.bk σ' H'
 | .cont=>∃ σ' H',Inv X pins σ' H' s'/\D.ct σ' H'
 | .ret u=>∃ v σ' H',Inv X pins σ' H' s'/\RelV v u/\D.rt v H'
noncomputable def PE (X:Cx) (e:Expr) (t:TE):Prop :=
 ∀ (pins:List (Addr × Obj)) (s:Shared) (σ:St) (H:Hp) (Q:VK),Inv X pins σ H s->t σ H Q->wpAny (model X.prog X.w) X.A (eval e X.env) (EP X pins σ Q) X.xe s
noncomputable def PT (X:Cx) (e:Expr) (t:TT):Prop :=
 ∀ (pins:List (Addr × Obj)) (s:Shared) (σ:St) (H:Hp) (Q:Bool->Hp->Prop),Inv X pins σ H s->t σ H Q->wpAny (model X.prog X.w) X.A (isTrue e X.env (eval e X.env)) (TP X pins σ Q) X.xe s
noncomputable def PW (X:Cx) (e:Expr) (t:TT):Prop :=
 ∀ (whole:Sem Value) (pins:List (Addr × Obj)) (s:Shared) (σ:St) (H:Hp) (Q:Bool->Hp->Prop),Inv X pins σ H s->t σ H Q->wpAny (model X.prog X.w) X.A (isTrue e X.env whole) (TP X pins σ Q) X.xe s
theorem PW.pt {X:Cx} {e:Expr} {t:TT} (h:PW X e t):PT X e t:=h _
noncomputable def PA (X:Cx) (es:List Expr) (t:TA):Prop :=
 ∀ (pos:Pos) (pins:List (Addr × Obj)) (s:Shared) (σ:St) (H:Hp) (Q:List V->Hp->Prop),Inv X pins σ H s->t σ H Q->wpAny (model X.prog X.w) X.A (spliced (backTo pos (starEach es X.env))) (AP X pins σ Q) X.xe s
noncomputable def PS (X:Cx) (st:Stmt) (t:TS):Prop :=
 ∀ (pins:List (Addr × Obj)) (s:Shared) (σ:St) (H:Hp) (D:Ends),Inv X pins σ H s->t D σ H->wpAny (model X.prog X.w) X.A (exec st X.env) (SP X pins D) X.xe s
noncomputable def PSs (X:Cx) (st:List Stmt) (t:TS):Prop :=
 ∀ (pins:List (Addr × Obj)) (s:Shared) (σ:St) (H:Hp) (D:Ends),Inv X pins σ H s->t D σ H->wpAny (model X.prog X.w) X.A (execs st X.env) (SP X pins D) X.xe s
theorem thn {α:Type} {t:Sem α} {Q Q':α->Shared->Prop} {M:Model} {A:Around} {E:Value->Shared->Prop} {s:Shared} (h:wpAny M A t Q E s) (hQ:∀ a s,Q a s->Q' a s):wpAny M A t Q' E s:=wpAny_mono h hQ fun _ _ x=>x
end L2
namespace L2
open PySem PySem.Spec PyProof.Rows
section
variable {X:Cx}
noncomputable def sV (i:Nat):TE:=fun σ H Q=>∃ v,σ[i]? = some (some v)/\Q v H
noncomputable def tC (v:V):TE:=fun _ H Q=>Q v H
theorem Xg {i:Nat} {x:Str} {pos:Pos} (hN:X.N[i]? = some x) (hv:Vis X.env.scope x) (hd:(x == ("__debug__" : Str)) = false:=by decide) (hcd:(x == ("__classdict__" : Str)) = false:=by decide):PE X (.Name x pos) (sV i):=by
 intro pins s σ H Q I h
 obtain ⟨v,e,h⟩:=h
 obtain ⟨m,hn,hl⟩:=I.loc
 obtain ⟨u,r,l⟩:=hl i x v hN e hv
 have fin:EP X pins σ Q u s:=⟨v,H,I,r,h⟩
 rcases l with ⟨hk,hm⟩ | ⟨hk,c,hc,hcell⟩
 .exact wpAny_Name (wpAny_loadName_local I.ok.kind hk hn hm fin) hd
 .rcases hk with hk | hk
  .exact wpAny_Name (wpAny_loadName_cell I.ok.kind hk hc hcell fin) hd
  .exact wpAny_Name (wpAny_loadName_free I.ok.kind hk hc hcell fin hcd) hd
theorem bF {i j pos} : PE X (.Constant (.int i) j pos) (tC (.int i)):=fun _ _ _ H _ I h=>wpAny_Constant_int ⟨.int i,H,I.tok _,⟨_,rfl⟩,h⟩
theorem iJ {b j pos} : PE X (.Constant (.bool b) j pos) (tC (.bl b)):=fun _ _ _ H _ I h=>Constant_bool ⟨.bl b,H,I,rfl,h⟩
theorem iY {j pos} : PE X (.Constant .none j pos) (tC .non):=fun _ _ _ H _ I h=>Constant_none ⟨.non,H,I,rfl,h⟩
theorem fG {x j pos} : PE X (.Constant (.str x) j pos) (tC (.str x)):=fun _ _ _ H _ I h=>Calls.Constant_str ⟨.str x,H,I.tok _,⟨_,rfl⟩,h⟩
noncomputable def Gl (X:Cx) (x:Str):Prop:=X.env.kindOf x = some .globalImplicit
theorem lH {E:Value->Shared->Prop} {pins:List (Addr × Obj)} {s:Shared} {σ:St} {H:Hp} {x:Str} {u:Value} {pos:Pos} {Q:Value->Shared->Prop} (I:Inv X pins σ H s) (hg:Gl X x) (hm:X.mg x = some u) (h:Q u s)
  (hd:(x == ("__debug__" : Str)) = false:=by decide):wpAny (model X.prog X.w) X.A (eval (.Name x pos) X.env) Q E s :=
 Calls.Name_function_global I.ok.kind hg (Calls.loadGlobal_global (by rw [I.ok.glob]; exact I.mod.glob.keeps I.bk) hm h) hd
theorem vV {E:Value->Shared->Prop} {pins:List (Addr × Obj)} {s:Shared} {σ:St} {H:Hp} {x:Str} {u:Value} {pos:Pos} {Q:Value->Shared->Prop} (I:Inv X pins σ H s) (hg:Gl X x) (hm:X.mg x = none) (hv:bootBuiltins x = some u) (h:Q u s)
  (hn:x ≠ "__name__" := by decide) (hd:(x == ("__debug__" : Str)) = false:=by decide):wpAny (model X.prog X.w) X.A (eval (.Name x pos) X.env) Q E s:=by
 obtain ⟨mb,h1,h2⟩:=I.mod.blt
 exact Calls.Name_function_global I.ok.kind hg (Calls.loadGlobal_builtin (by rw [I.ok.glob]; exact I.mod.glob.keeps I.bk) hm (by rw [I.ok.blt]; exact h1.keeps I.bk) ((h2 x hn).trans hv) h) hd
theorem Cv {x:Str} {v:V} {u:Value} {pos:Pos} (hg:Gl X x) (hm:X.mg x = some u) (r:RelV v u) (hd:(x == ("__debug__" : Str)) = false:=by decide):PE X (.Name x pos) (tC v) :=
 fun _ _ _ H _ I h=>lH I hg hm ⟨v,H,I,r,h⟩ hd
theorem j9 {x:Str} {v:V} {u:Value} {pos:Pos} (hg:Gl X x) (hm:X.mg x = none) (hv:bootBuiltins x = some u) (r:RelV v u) (hn:x ≠ "__name__" := by decide) (hd:(x == ("__debug__" : Str)) = false:=by decide):PE X (.Name x pos) (tC v) :=
 fun _ _ _ H _ I h=>vV I hg hm hv ⟨v,H,I,r,h⟩ hn hd
variable {a b:Expr} {ta tb:TE} {pos:Pos}
noncomputable def PC (X:Cx) (op:CmpOp) (a b:Expr) (t:TE):Prop :=
 ∀ (pins:List (Addr × Obj)) (s:Shared) (σ:St) (H:Hp) (Q:VK),Inv X pins σ H s->t σ H Q ->
  wpAny (model X.prog X.w) X.A (eval a X.env) (fun v s₁=>wpAny (model X.prog X.w) X.A (eval b X.env) (fun u s₂=>wpAny (model X.prog X.w) X.A (compareOp op v u) (EP X pins σ Q) X.xe s₂) X.xe s₁) X.xe s
noncomputable def tB (t:TE):TT:=fun σ H Q=>t σ H fun x H1=>∃ c,x = .bl c/\Q c H1
theorem I_ {op:CmpOp} {t:TE} (h:PC X op a b t) (h1:behindInMarks op b = false:=by rfl):PT X (.Compare a [op] [b] pos) (tB t):=by
 intro pins s σ H Q I hw
 refine wpAny_isTrue_Compare1 (thn (h pins s σ H _ I hw) fun v s1 h1=>thn h1 fun u s2 h2=>thn h2 fun c s3 ⟨x,H1,I1,r1,q1⟩=>?_) h1
 obtain ⟨d,rfl,q⟩:=q1
 cases r1
 exact wpAny_truthy_bool ⟨H1,I1,q⟩
variable {tA tB':TT} {rest:List Expr}
noncomputable def Ra (t u:TT):TT:=fun σ H Q=>t σ H fun c H1=>if c = true then u σ H1 Q else Q false H1
noncomputable def tOr (t u:TT):TT:=fun σ H Q=>t σ H fun c H1=>if c = true then Q true H1 else u σ H1 Q
noncomputable def V9 (t:TT):TT:=fun σ H Q=>t σ H fun c H1=>Q (!c) H1
theorem pw_and1 (ha:PT X a tA):PW X (.BoolOp .And [a] pos) tA:=by
 intro wh pins s σ H Q I h
 refine isTrue_and (thn (ha pins s σ H Q I h) fun c s1 e=>?_)
 cases c with
 | true=>exact isTrue_and_nil e
 | false=>exact e
theorem pw_or1 (ha:PT X a tA):PW X (.BoolOp .Or [a] pos) tA:=by
 intro wh pins s σ H Q I h
 refine isTrue_or (thn (ha pins s σ H Q I h) fun c s1 e=>?_)
 cases c with
 | false=>exact isTrue_or_nil e
 | true=>exact e
theorem pw_and (ha:PT X a tA) (hb:PW X (.BoolOp .And (b :: rest) pos) tB'):PW X (.BoolOp .And (a :: b :: rest) pos) (Ra tA tB'):=by
 intro wh pins s σ H Q I h
 refine isTrue_and (thn (ha pins s σ H _ I h) fun c s1 ⟨H1,I1,q1⟩=>?_)
 cases c with
 | true=>exact hb wh pins s1 σ H1 Q I1 q1
 | false=>exact ⟨H1,I1,q1⟩
theorem pw_or (ha:PT X a tA) (hb:PW X (.BoolOp .Or (b :: rest) pos) tB'):PW X (.BoolOp .Or (a :: b :: rest) pos) (tOr tA tB'):=by
 intro wh pins s σ H Q I h
 refine isTrue_or (thn (ha pins s σ H _ I h) fun c s1 ⟨H1,I1,q1⟩=>?_)
 cases c with
 | true=>exact ⟨H1,I1,q1⟩
 | false=>exact hb wh pins s1 σ H1 Q I1 q1
theorem dD (ha:PT X a tA):PT X (.UnaryOp .Not a pos) (V9 tA):=by
 intro pins s σ H Q I h
 exact isTrue_not (ha pins s σ H (fun c H1=>Q (!c) H1) I h)
noncomputable def Ml (ta tb:TE):TE:=fun σ H Q=>ta σ H fun x H1=>∃ c,x = .bl c/\if c = true then tb σ H1 Q else Q (.bl false) H1
noncomputable def X7 (ta tb:TE):TE:=fun σ H Q=>ta σ H fun x H1=>∃ c,x = .bl c/\if c = true then Q (.bl true) H1 else tb σ H1 Q
noncomputable def Lw (ta:TE):TE:=fun σ H Q=>ta σ H fun x H1=>∃ c,x = .bl c/\Q (.bl (!c)) H1
theorem JM {op} {t:TE} (h:PE X a t):PE X (.BoolOp op [a] pos) t:=fun pins s σ H Q I hw=>BoolOp_one (h pins s σ H Q I hw)
theorem JL (ha:PE X a ta) (hb:PE X (.BoolOp .And (b :: rest) pos) tb):PE X (.BoolOp .And (a :: b :: rest) pos) (Ml ta tb):=by
 intro pins s σ H Q I h
 refine BoolOp_and (thn (ha pins s σ H _ I h) fun v s1 ⟨x,H1,I1,r1,q1⟩=>?_)
 obtain ⟨c,rfl,q1⟩:=q1
 cases r1
 refine wpAny_truthy_bool ?_
 cases c with
 | true=>exact hb pins s1 σ H1 Q I1 q1
 | false=>exact ⟨.bl false,H1,I1,rfl,q1⟩
theorem XR (ha:PE X a ta):PE X (.UnaryOp .Not a pos) (Lw ta):=by
 intro pins s σ H Q I h
 refine UnaryOp_ (thn (ha pins s σ H _ I h) fun v s1 ⟨x,H1,I1,r1,q1⟩=>?_)
 obtain ⟨c,rfl,q1⟩:=q1
 cases r1
 exact not_of (wpAny_truthy_bool ⟨.bl (!c),H1,I1,rfl,q1⟩)
noncomputable def tIf (t:TT) (ta tb:TE):TE:=fun σ H Q=>t σ H fun c H1=>if c = true then ta σ H1 Q else tb σ H1 Q
theorem Rb {c:Expr} (hc:PT X c tA) (ha:PE X a ta) (hb:PE X b tb):PE X (.IfExp c a b pos) (tIf tA ta tb):=by
 intro pins s σ H Q I h
 refine wpAny_IfExp (thn (hc pins s σ H _ I h) fun d s1 ⟨H1,I1,q1⟩=>?_)
 cases d with
 | true=>exact ha pins s1 σ H1 Q I1 q1
 | false=>exact hb pins s1 σ H1 Q I1 q1
end
end L2
namespace L2
open PySem PySem.Spec PyProof.Rows
noncomputable def SqL (K:Frag) (H:Hp) (a:Addr) (xs:List V):Prop :=
 Rd H a (.lst xs) \/
  ∃ (o:Obj) (its:Array Value) (n:Nat),K.lookup a = some o/\o.cls = .type "list" /\ o.dict = none/\o.data = .seq its n/\its.size <= sizeLine/\Vals xs its.toList
noncomputable def SqT (K:Frag) (H:Hp) (a:Addr) (xs:List V):Prop :=
 Rd H a (.tup xs) \/
  ∃ (o:Obj) (its:Array Value) (n:Nat),K.lookup a = some o/\o.cls = .type "tuple" /\ o.data = .seq its n/\its.size <= sizeLine/\Vals xs its.toList
noncomputable def acq:Value->Option V
 | .none=>some .non
 | .bool b=>some (.bl b)
 | .int i _=>some (.int i)
 | .str x _=>some (.str x)
 | .bytes b _=>some (.byt b)
 | .float b _=>some (.flt b)
 | .ref a=>some (.ref a)
 | .type n=>some (.ty n)
 | _=>none
theorem RelV.abs {x:V} {u:Value} (r:RelV x u):acq u = some x:=by
 cases x with
 | non=>cases r; rfl
 | bl _=>cases r; rfl
 | int _=>obtain ⟨t,rfl⟩:=r; rfl
 | str _=>obtain ⟨t,rfl⟩:=r; rfl
 | byt _=>obtain ⟨t,rfl⟩:=r; rfl
 | flt _=>obtain ⟨t,rfl⟩:=r; rfl
 | ref _=>cases r; rfl
 | ty _=>cases r; rfl
theorem RelV.inj {x y:V} {u:Value} (r:RelV x u) (q:RelV y u):x = y:=Option.some.inj (r.abs.symm.trans q.abs)
theorem Vals.inj:∀ {xs ys:List V} {us:List Value},Vals xs us->Vals ys us->xs = ys
 | _,_,_,.nil,.nil=>rfl
 | _,_,_,.cons r t,.cons r' t'=>by rw [r.inj r',Vals.inj t t']
section
variable {X:Cx} {pins:List (Addr × Obj)} {σ:St} {H:Hp} {s:Shared} {a:Addr} {xs ys:List V}
theorem SqL.of {K:Frag} (h:H a = some (.lst xs)):SqL K H a xs:=.inl (.inl h)
theorem SqT.of {K:Frag} (h:H a = some (.tup xs)):SqT K H a xs:=.inl (.inl h)
theorem Inv.list (I:Inv X pins σ H s) (h:SqL X.K H a xs):∃ its:List Value,Vals xs its/\PlainL s.heap a its.toArray/\xs.length <= sizeLine:=by
 rcases h with h | ⟨o,its,n,hk,hc,hd,hs,hz,r⟩
 .obtain ⟨z,its,n,r,e⟩:=h.ok I.hok
  exact ⟨its,r,⟨_,n,e,rfl,rfl,rfl⟩,z⟩
 .refine ⟨its.toList,r,⟨o,n,I.kIn a o hk,hc,hd,by simpa using hs⟩,?_⟩
  have e:=r.length
  simp only [Array.length_toList] at e
  omega
theorem Inv.tuple (I:Inv X pins σ H s) (h:SqT X.K H a xs):∃ its:List Value,Vals xs its/\IsTup s.heap a its.toArray/\xs.length <= sizeLine:=by
 rcases h with h | ⟨o,its,n,hk,hc,hs,hz,r⟩
 .obtain ⟨z,its,r,p⟩:=h.ok I.hok
  exact ⟨its,r,p,z⟩
 .refine ⟨its.toList,r,⟨o,I.kIn a o hk,hc,n,by simpa using hs⟩,?_⟩
  have e:=r.length
  simp only [Array.length_toList] at e
  omega
theorem Inv.list_inj (I:Inv X pins σ H s) (h:SqL X.K H a xs) (h':SqL X.K H a ys):xs = ys:=by
 obtain ⟨its,r,⟨o,n,e,_,_,d⟩,_⟩:=I.list h
 obtain ⟨its',r',⟨o',n',e',_,_,d'⟩,_⟩:=I.list h'
 rw [e] at e'; cases e'
 rw [d] at d'
 injection d' with d1 _
 have:its = its':=by simpa using congrArg Array.toList d1
 subst this
 exact r.inj r'
end
noncomputable abbrev Cx.wish (X:Cx) (E:Value->Shared->Prop):Cx:={ X with xe:=E }
noncomputable abbrev Cx.nox (X:Cx):Cx:=X.wish fun _ _=>False
theorem Cx.Ok.wish {X:Cx} (ok:X.Ok) (E:Value->Shared->Prop):(X.wish E).Ok :=
 ⟨ok.mod,ok.kind,ok.glob,ok.blt,ok.above,ok.inj,ok.has,ok.cab,ok.hd,ok.frames,ok.stk,ok.exf,ok.bs,ok.bsz,ok.noex,ok.exfs,ok.funs,ok.frf⟩
theorem Cx.Ok.unwish {X:Cx} {E:Value->Shared->Prop} (ok:(X.wish E).Ok):X.Ok :=
 ⟨ok.mod,ok.kind,ok.glob,ok.blt,ok.above,ok.inj,ok.has,ok.cab,ok.hd,ok.frames,ok.stk,ok.exf,ok.bs,ok.bsz,ok.noex,ok.exfs,ok.funs,ok.frf⟩
section
variable {X:Cx} {pins:List (Addr × Obj)} {σ:St} {H:Hp} {s:Shared} {E:Value->Shared->Prop}
theorem Inv.wish (I:Inv X pins σ H s) (E:Value->Shared->Prop):Inv (X.wish E) pins σ H s:=⟨I.ok.wish E,I.os,I.bare,I.base,I.loc,I.cell,I.free,I.freeC,I.pin,I.hok,I.len⟩
theorem Inv.unwish (I:Inv (X.wish E) pins σ H s):Inv X pins σ H s:=⟨I.ok.unwish,I.os,I.bare,I.base,I.loc,I.cell,I.free,I.freeC,I.pin,I.hok,I.len⟩
theorem SP.unwish {D:Ends} {f:Flow} {s':Shared} (h:SP (X.wish E) pins D f s'):SP X pins D f s':=by
 cases f with
 | next=>obtain ⟨σ',H',I,q⟩:=h; exact ⟨σ',H',I.unwish,q⟩
 | brk=>obtain ⟨σ',H',I,q⟩:=h; exact ⟨σ',H',I.unwish,q⟩
 | cont=>obtain ⟨σ',H',I,q⟩:=h; exact ⟨σ',H',I.unwish,q⟩
 | ret u=>obtain ⟨v,σ',H',I,r,q⟩:=h; exact ⟨v,σ',H',I.unwish,r,q⟩
theorem PSs.nox {st:List Stmt} {t:TS} (h:PSs X.nox st t):PSs X st t:=fun pins s σ H D I hw =>
 wpAny_mono (h pins s σ H D (I.wish _) hw) (fun _ _ q=>q.unwish) fun _ _ z=>False.elim z
end
section
variable {X:Cx} {st:Stmt} {rest:List Stmt} {t u:TS} {e:Expr} {te:TE} {pos:Pos}
noncomputable def wG:TS:=fun D σ H=>D.nx σ H
noncomputable def o9 (t u:TS):TS:=fun D σ H=>t { D with nx:=u D } σ H
theorem bW:PSs X [] wG:=fun _ _ σ H _ I h=>wpAny_execs_nil ⟨σ,H,I,h⟩
theorem bH (h1:PS X st t) (h2:PSs X rest u):PSs X (st :: rest) (o9 t u):=by
 intro pins s σ H D I h
 refine wpAny_execs_cons (thn (h1 pins s σ H { D with nx:=u D } I h) fun f s1 q=>?_)
 cases f with
 | next =>
  obtain ⟨σ',H',I',q⟩:=q
  exact h2 pins s1 σ' H' D I' q
 | ret v=>exact q
 | brk=>exact q
 | cont=>exact q
theorem bI (h1:PS X st t):PSs X [st] t:=by
 intro pins s σ H D I h
 refine wpAny_execs_cons (thn (h1 pins s σ H D I h) fun f s1 q=>?_)
 cases f with
 | next=>exact wpAny_execs_nil q
 | ret v=>exact q
 | brk=>exact q
 | cont=>exact q
theorem Inv.quiet {pins:List (Addr × Obj)} {σ:St} {H:Hp} {s:Shared} (I:Inv X pins σ H s):interactive X.env = false:=by simp [interactive,I.ok.kind]
noncomputable def La (te:TE):TS:=fun D σ H=>te σ H fun _ H1=>D.nx σ H1
theorem cM (he:PE X e te) (hs:swapsWith e none pos.line X.env = pure false:=by rfl):PS X (.Expr e pos) (La te):=by
 intro pins s σ H D I h
 exact wpAny_Expr_any (thn (he pins s σ H _ I h) fun v s1 ⟨x,H1,I1,r1,q1⟩=>⟨σ,H1,I1,q1⟩) I.quiet hs
noncomputable def Ka (te:TE):TS:=fun D σ H=>te σ H D.rt
theorem bU (he:PE X e te):PS X (.Return (some e) pos) (Ka te):=by
 intro pins s σ H D I h
 exact wpAny_Return_some (thn (he pins s σ H _ I h) fun v s1 ⟨x,H1,I1,r1,q1⟩=>⟨x,σ,H1,I1,r1,q1⟩)
noncomputable def QL:TS:=fun D _ H=>D.rt .non H
noncomputable def zX (c:TT) (t u:TS):TS:=fun D σ H=>c σ H fun b H1=>if b = true then t D σ H1 else u D σ H1
theorem cF {c:Expr} {a b:List Stmt} {tc:TT} (hc:PT X c tc) (ha:PSs X a t) (hb:PSs X b u):PS X (.If c a b pos) (zX tc t u):=by
 intro pins s σ H D I h
 refine wpAny_If (thn (hc pins s σ H _ I h) fun d s1 ⟨H1,I1,q1⟩=>?_)
 cases d with
 | true=>exact ha pins s1 σ H1 D I1 q1
 | false=>exact hb pins s1 σ H1 D I1 q1
noncomputable def XQ:TS:=fun _ _ _=>False
theorem mC:PS X st XQ:=fun _ _ _ _ _ _ h=>h.elim
end
noncomputable abbrev TG:=V->St->Hp->(St->Hp->Prop)->Prop
noncomputable abbrev TGs:=List V->St->Hp->(St->Hp->Prop)->Prop
noncomputable def PG (X:Cx) (target:Expr) (t:TG):Prop :=
 ∀ (pins:List (Addr × Obj)) (s:Shared) (σ:St) (H:Hp) (v:V) (u:Value) (Q:St->Hp->Prop),Inv X pins σ H s->RelV v u->t v σ H Q ->
  wpAny (model X.prog X.w) X.A (assign target X.env u) (fun _ s'=>∃ σ' H',Inv X pins σ' H' s'/\Q σ' H') X.xe s
noncomputable def PGs (X:Cx) (ts:List Expr) (t:TGs):Prop :=
 ∀ (pins:List (Addr × Obj)) (s:Shared) (σ:St) (H:Hp) (vs:List V) (us:List Value) (Q:St->Hp->Prop),Inv X pins σ H s->Vals vs us->t vs σ H Q ->
  wpAny (model X.prog X.w) X.A (assignInOrder ((assignEach ts X.env).map (·.2)) us) (fun _ s'=>∃ σ' H',Inv X pins σ' H' s'/\Q σ' H') X.xe s
noncomputable abbrev W6:=V->V->V->Hp->(Hp->Prop)->Prop
noncomputable def aaI (X:Cx) (t:W6):Prop :=
 ∀ (pins:List (Addr × Obj)) (s:Shared) (σ:St) (H:Hp) (o i v:V) (ov iv u:Value) (Q:Hp->Prop),Inv X pins σ H s->RelV o ov->RelV i iv->RelV v u->t o i v H Q ->
  wpAny (model X.prog X.w) X.A (setItem ov iv u) (fun _ s'=>∃ H',Inv X pins σ H' s'/\Q H') X.xe s
section
variable {X:Cx} {pos:Pos}
noncomputable def dI (i:Nat):TG:=fun v σ H Q=>Q (σ.set i (some v)) H
theorem cD {i:Nat} {x:Str} (hN:X.N.Nodup) (hi:X.N[i]? = some x) (hx:Loc X.env.scope x) (hf:X.fn x = true\/X.env.scope.names.lookup x = some .local:=by first | exact .inl rfl | exact .inr rfl | assumption):PG X (.Name x pos) (dI i):=by
 intro pins s σ H v u Q I r h
 exact wpAny_assign_Name (pL I hN hi hx r (fun s' I'=>⟨_,H,I',h⟩) hf)
noncomputable def Vj:TGs:=fun vs σ H Q=>vs = []/\Q σ H
noncomputable def Lk (t:TG) (u:TGs):TGs:=fun vs σ H Q=>∃ v r,vs = v :: r/\t v σ H fun σ' H'=>u r σ' H' Q
theorem gQ:PGs X [] Vj:=by
 intro pins s σ H vs us Q I r h
 obtain ⟨e,h⟩:=h
 subst e
 cases r
 exact assignInOrder_nil ⟨σ,H,I,h⟩
theorem cC {e:Expr} {es:List Expr} {t:TG} {u:TGs} (h1:PG X e t) (h2:PGs X es u)
  (hs:(assignEach (e :: es) X.env).map (·.2) = assign e X.env :: (assignEach es X.env).map (·.2):=by rfl):PGs X (e :: es) (Lk t u):=by
 intro pins s σ H vs us Q I r h
 obtain ⟨v,vr,e1,h⟩:=h
 subst e1
 cases r with
 | cons r rr =>
  rw [hs]
  refine assignInOrder_cons (thn (h1 pins s σ H _ _ _ I r h) fun _ s1 ⟨σ1,H1,I1,q1⟩=>?_)
  exact h2 pins s1 σ1 H1 _ _ Q I1 rr q1
noncomputable def Ud (K:Frag) (n:Nat) (t:TGs):TG:=fun v σ H Q=>∃ a xs,v = .ref a/\SqT K H a xs/\xs.length = n/\t xs σ H Q
theorem X3 {es:List Expr} {k:Nat} {t:TGs} {n:Nat} (hc:X.calm = true) (h:PGs X es t)
  (hn:(assignEach es X.env).length = n:=by rfl) (hst:(assignEach es X.env).findIdx? (·.1) = none:=by rfl):PG X (.Tuple es k pos) (Ud X.K n t):=by
 intro pins s σ H v u Q I r hw
 obtain ⟨a,xs,e1,hq,hl,hw⟩:=hw
 subst e1
 cases r
 obtain ⟨its,rv,ht,hz⟩:=I.tuple hq
 refine assign_Tuple_tuple (I.ok.hd hc) ht (by simp [hn,<- hl,rv.length]) hst fun h' hx=>?_
 have I1:Inv X pins σ H { s with heap:=h' }:=I.kept (t':=s.toks) fun b o e=>hx b o (aP (aH e)) e
 exact h pins _ σ H xs _ Q I1 (by simpa using rv) hw
noncomputable def TV (to ti:TE) (t:W6):TG:=fun v σ H Q=>to σ H fun o H1=>ti σ H1 fun i H2=>t o i v H2 fun H3=>Q σ H3
theorem Jp {o i:Expr} {to ti:TE} {t:W6} (ho:PE X o to) (hi:PE X i ti) (hs:aaI X t)
  (ha:∀ v,assign (.Subscript o i pos) X.env v = (do
   let ov <- holding [v] (eval o X.env)
   let iv <- holding [v,ov] (eval i X.env)
   standAt pos
   holding [v,ov,iv] (setItem ov iv v)
   release [v,ov,iv] []):=by intro _; rfl):PG X (.Subscript o i pos) (TV to ti t):=by
 intro pins s σ H v u Q I r h
 rw [ha]
 refine wpAny_bind (wpAny_holding (thn (ho pins s σ H _ I h) fun ov s1 ⟨x,H1,I1,r1,q1⟩=>?_))
 refine wpAny_bind (wpAny_holding (thn (hi pins s1 σ H1 _ I1 q1) fun iv s2 ⟨y,H2,I2,r2,q2⟩=>?_))
 refine wpAny_bind (wpAny_standAt (wpAny_bind (wpAny_holding (thn (hs pins s2 σ H2 x y v ov iv u _ I2 r1 r2 r q2) fun _ s3 ⟨H3,I3,q3⟩=>?_))))
 exact wpAny_release ⟨σ,H3,I3,q3⟩
noncomputable def Aq (te:TE) (g:TG):TS:=fun D σ H=>te σ H fun x H1=>g x σ H1 D.nx
theorem qj {tg e:Expr} {te:TE} {g:TG} (he:PE X e te) (hg:PG X tg g) (hs:swapsWithSole [tg] e pos.line X.env = pure false:=by rfl) (hw:swappedStores [tg] e X.env = pure none:=by rfl)
  (h1:(assignEach [tg] X.env).map (·.2) = [assign tg X.env]:=by rfl):PS X (.Assign [tg] e pos) (Aq te g):=by
 intro pins s σ H D I h
 refine wpAny_Assign_stores (thn (he pins s σ H _ I h) fun v s1 ⟨x,H1,I1,r1,q1⟩=>?_) hs hw
 rw [h1]
 exact thn (hg pins s1 σ H1 x v _ I1 r1 q1) fun _ s2 q=>q
theorem bV {i:Nat} {x:Str} {e:Expr} {te:TE} {pos':Pos} (hN:X.N.Nodup) (hi:X.N[i]? = some x) (hx:Loc X.env.scope x) (he:PE X e te) (hs:swapsWith e (some (.Name x pos')) pos.line X.env = pure false:=by rfl) (hf:X.fn x = true\/X.env.scope.names.lookup x = some .local:=by first | exact .inl rfl | exact .inr rfl | assumption) :
  PS X (.Assign [.Name x pos'] e pos) (Aq te (dI i)):=by
 intro pins s σ H D I h
 refine wpAny_Assign_Name (thn (he pins s σ H _ I h) fun v s1 ⟨y,H1,I1,r1,q1⟩=>?_) hs
 exact pL I1 hN hi hx r1 (fun s2 I2=>⟨_,H1,I2,q1⟩) hf
noncomputable def U4 (i j:Nat) (ta:TA):TS:=fun D σ H=>ta σ H fun vs H1=>∃ v w,vs = [v,w]/\D.nx ((σ.set i (some v)).set j (some w)) H1
theorem XJ {i j:Nat} {x y:Str} {a b:Expr} {ta:TA} {px py pt:Pos} {kt k2 pt2} (hc:X.calm = true) (hN:X.N.Nodup) (hi:X.N[i]? = some x) (hj:X.N[j]? = some y) (hij:i ≠ j)
  (hx:X.env.scope.names.lookup x = some .local) (hy:X.env.scope.names.lookup y = some .local) (ha:PA X [a,b] ta)
  (hw:swappedStores [.Tuple [.Name x px,.Name y py] kt pt] (.Tuple [a,b] k2 pt2) X.env = pure (some [x,y]))
  (hs:swapsWithSole [.Tuple [.Name x px,.Name y py] kt pt] (.Tuple [a,b] k2 pt2) pos.line X.env = pure false:=by rfl) :
  PS X (.Assign [.Tuple [.Name x px,.Name y py] kt pt] (.Tuple [a,b] k2 pt2) pos) (U4 i j ta):=by
 intro pins s σ H D I h
 rw [exec_Assign_arm]
 refine wpAny_bind (wpAny_standAt ?_)
 rw [hs]
 refine wpAny_bind (wpAny_pure ?_)
 rw [if_neg (by decide)]
 refine wpAny_bind (Tuple_ (thn (ha _ pins s σ H _ I h) fun us s1 ⟨vs,H1,I1,r1,q1⟩=>?_))
 obtain ⟨v,w,e1,q1⟩:=q1
 subst e1
 obtain ⟨u1,u2,rfl,rv,rw'⟩ : ∃ u1 u2,us = [u1,u2]/\RelV v u1/\RelV w u2:=by
  cases r1 with
  | cons p q =>
   cases q with
   | cons p' q' =>
    cases q'
    exact ⟨_,_,rfl,p,p'⟩
 refine wpAny_newObj_type ?_ (by show 2 <= sizeLine; decide)
 have I2:Inv X pins σ H1 { s1 with heap:=s1.heap.push { cls:=.type "tuple",data:=.seq [u1,u2].toArray } }:=I1.kept (t':=s1.toks) fun b o e=>aF _ e
 rw [hw]
 refine wpAny_bind (wpAny_pure ?_)
 show wpAny (model X.prog X.w) X.A (do rule "assign.swapped-stores"; let items <- unpackItems (.ref s1.heap.objs.size) 2 none; assignInOrder [fun v=>bindName X.env y v,fun v=>bindName X.env x v] items.reverse; pure Flow.next) _ _ _
 refine wpAny_bind (wpAny_rule (wpAny_bind (unpackItems_tuple (items:=#[u1,u2]) (I.ok.hd hc) (IsTup.new s1.heap _) fun h' hx'=>?_)))
 have I3:=I2.kept (h':=h') (t':=s1.toks) fun b o e=>hx' b o (aP (aH e)) e
 show wpAny _ _ (assignInOrder [fun v=>bindName X.env y v,fun v=>bindName X.env x v] [u2,u1] >>= fun _=>pure Flow.next) _ _ _
 refine wpAny_bind (assignInOrder_cons (wpAny_bindName (pL I3 hN hj (.inl hy) rw' (fun s2 I4=>?_) (.inr hy))))
 refine assignInOrder_cons (wpAny_bindName (pL I4 hN hi (.inl hx) rv (fun s3 I5=>assignInOrder_nil (wpAny_pure ?_)) (.inr hx)))
 rw [List.set_comm _ _ (Ne.symm hij)] at I5
 exact ⟨_,H1,I5,q1⟩
end
section
variable {X:Cx} {pos:Pos}
noncomputable def Sx (c:TT) (tb:TS):TS:=fun D σ H=>∃ W:Nat->St->Hp->Prop,(∃ m,W m σ H)/\∀ m σ H,W m σ H ->
 c σ H fun b H1=>if b = true then ∃ N:St->Hp->Prop,(∀ σ' H',N σ' H'->∃ m',m' < m/\W m' σ' H')/\tb { D with nx:=N,ct:=N,bk:=D.nx } σ H1 else D.nx σ H1
theorem HD {c:Expr} {body:List Stmt} {tc:TT} {tb:TS} (hp:PassesOwn (model X.prog X.w) X.A X.env X.xe) (hc:PT X c tc) (hb:PSs X body tb):PS X (.While c body [] pos) (Sx tc tb):=by
 intro pins s σ H D I h
 obtain ⟨W,⟨m0,w0⟩,turn⟩:=h
 refine wpAny_While (codeAny_whileLoop (fun n s'=>∃ σ' H',Inv X pins σ' H' s'/\W n σ' H') ?_ m0 ⟨σ,H,I,w0⟩)
 rintro n s1 ⟨σ1,H1,I1,w1⟩
 refine wpAny_passesOwn hp (thn (hc pins s1 σ1 H1 _ I1 (turn n σ1 H1 w1)) fun b s2 ⟨H2,I2,q2⟩=>?_)
 cases b with
 | true =>
  obtain ⟨N,hN,q2⟩:=q2
  rw [if_pos rfl]
  refine wpAny_passesOwn hp (thn (hb pins s2 σ1 H2 _ I2 q2) fun f s3 q3=>?_)
  cases f with
  | next =>
   obtain ⟨σ3,H3,I3,n3⟩:=q3
   obtain ⟨m',hm,w3⟩:=hN σ3 H3 n3
   exact ⟨m',hm,σ3,H3,I3,w3⟩
  | cont =>
   obtain ⟨σ3,H3,I3,n3⟩:=q3
   obtain ⟨m',hm,w3⟩:=hN σ3 H3 n3
   exact ⟨m',hm,σ3,H3,I3,w3⟩
  | brk=>exact q3
  | ret v=>exact q3
 | false =>
  rw [if_neg bw]
  exact wpAny_execs_nil ⟨σ1,H2,I2,q2⟩
end
structure It where
 go:Nat->Hp->Prop
 yld:Nat->Hp->V->Hp->Prop
 stop:Nat->Hp->Prop
noncomputable def wU (X:Cx) (pins:List (Addr × Obj)) (H:Hp) (b:Addr):Prop :=
 H b = none/\b ≠ X.env.locals/\b ∉ X.fs/\(b ∈ X.ex\/X.s₀.heap.objs.size <= b)/\(∀ x c,X.env.cells.lookup x = some c->c ≠ b)/\∀ p ∈ X.pn ++ pins,p.1 ≠ b
theorem Inv.fpOk {X:Cx} {pins:List (Addr × Obj)} {σ:St} {H H':Hp} {s:Shared} {b:Addr} (I:Inv X pins σ H s) (hb:s.heap.objs.size <= b) (hn:H' b = none):wU X pins H' b:=by
 refine ⟨hn,Nat.ne_of_gt (aQ I.lt hb),I.nofs hb,.inr (aK I.sz hb),fun x c e z=>?_,fun p hp z=>?_⟩
 .obtain ⟨v,q⟩:=I.cell x c e
  exact absurd (aQ q.lt (by rw [z]; exact hb)) (Nat.lt_irrefl _)
 .exact absurd (aQ (aH (I.pin p hp).1) (by rw [z]; exact hb)) (Nat.lt_irrefl _)
structure Turn (P:Program) (w:World) (K:Frag) (tg:Expr) (J:It) (fp:List Addr) (it:Addr) (tn:Nat->Heap->Prop):Prop where
 mem:it ∈ fp
 obj:∀ i h,tn i h->∀ b ∈ fp,∃ o,h.get? b = some o/\∀ v,o.data ≠ .cell v
 keep:∀ i h h',tn i h->(∀ b ∈ fp,∀ o,h.get? b = some o->h'.get? b = some o)->tn i h'
 item:∀ (X:Cx),X.prog = P->X.w = w->X.K = K->X.calm = true->∀ (i:Nat) (pins:List (Addr × Obj)) (s:Shared) (σ:St) (H:Hp) (E:Value->Shared->Prop),Inv X pins σ H s->(∀ b ∈ fp,wU X pins H b)->tn i s.heap->J.go i H ->
  wpAny (model P w) X.A (pyNext (.ref it)) (fun r s1=>∃ u,r = some u /\
   wpAny (model P w) X.A (letOwnedTupleGo tg (.ref it) u) (fun _ s2=>∃ x H',Inv X pins σ H' s2/\RelV x u/\J.yld i H x H'/\tn (i + 1) s2.heap/\∀ b ∈ fp,H' b = none) E s1) E s
 done:∀ (X:Cx),X.prog = P->X.w = w->X.K = K->X.calm = true->∀ (i:Nat) (pins:List (Addr × Obj)) (s:Shared) (σ:St) (H:Hp) (E:Value->Shared->Prop),Inv X pins σ H s->(∀ b ∈ fp,wU X pins H b)->tn i s.heap->J.stop i H ->
  wpAny (model P w) X.A (pyNext (.ref it)) (fun r s1=>r = none/\Inv X pins σ H s1) E s
 self:∀ (A:Around) (i:Nat) (s:Shared) (Q:Value->Shared->Prop) (E:Value->Shared->Prop),tn i s.heap->Q (.ref it) s->wpAny (model P w) A (pyIter (.ref it)) Q E s
noncomputable abbrev TI:=St->Hp->(It->Hp->Prop)->Prop
noncomputable def PIE (X:Cx) (pins:List (Addr × Obj)) (σ:St) (tg:Expr) (R:It->Hp->Prop) (itv:Value) (s2:Shared):Prop :=
 ∃ (it:Addr) (fp:List Addr) (tn:Nat->Heap->Prop) (J:It) (H':Hp),itv = .ref it/\Inv X pins σ H' s2/\Turn X.prog X.w X.K tg J fp it tn/\tn 0 s2.heap/\(∀ b ∈ fp,wU X pins H' b)/\R J H'
noncomputable def PI (X:Cx) (tg iter:Expr) (wi:TI):Prop :=
 ∀ (pins:List (Addr × Obj)) (s:Shared) (σ:St) (H:Hp) (R:It->Hp->Prop),Inv X pins σ H s->wi σ H R ->
  wpAny (model X.prog X.w) X.A (eval iter X.env) (fun v s1=>wpAny (model X.prog X.w) X.A (pyIter v) (PIE X pins σ tg R) X.xe s1) X.xe s
theorem Mj {M:Model} {A:Around} {E:Value->Shared->Prop} {s:Shared} {tg:Expr} {it:Addr} {u:Value} {o:Obj} {n:String} {vs:Array Value} {Q:Unit->Shared->Prop} (ho:s.heap.get? it = some o) (hc:o.cls = .type n) (hd:o.data = .fields vs)
    (hn : ["enumerate", "zip", "dict_itemiterator", "dict_reverseitemiterator", "odict_iterator", "itertools.zip_longest", "itertools.pairwise"].contains n = false) (hQ:Q () s):wpAny M A (letOwnedTupleGo tg (.ref it) u) Q E s:=by
  unfold letOwnedTupleGo
  cases tg <;> first
    | exact wpAny_pure hQ
    | (cases u <;> first
        | exact wpAny_pure hQ
        | (refine wpAny_bind (wpAny_load ho ?_)
           rw [hc,hd]
           show wpAny M A (if (["enumerate", "zip", "dict_itemiterator", "dict_reverseitemiterator", "odict_iterator", "itertools.zip_longest", "itertools.pairwise"].contains n && vs[0]? == some (rawInt _)) = true then _ else _) Q E s
           rw [if_neg (by intro h; rw [hn,Bool.false_and] at h; cases h)]
           exact wpAny_pure hQ))
noncomputable def Itl (K:Frag) (a:Addr):It :=
 ⟨fun i H=>∃ xs x,SqL K H a xs/\xs[i]? = some x,fun i H x H'=>H' = H/\∀ xs,SqL K H a xs->xs[i]? = some x,fun i H=>∃ xs,SqL K H a xs/\xs.length <= i⟩
noncomputable def Itr (lo:Int) (n:Nat):It:=⟨fun i _=>i < n,fun i H x H'=>H' = H/\x = .int (lo + i),fun i _=>n <= i⟩
theorem Ny {P:Program} {w:World} {K:Frag} {tg:Expr} (a it:Addr):Turn P w K tg (Itl K a) [it] it (fun i h=>h.IsListIter it a i) where
 mem:=by simp
 obj:=fun i h st b hb=>by
  have e:b = it:=by simpa using hb
  subst e
  obtain ⟨o,e,c,d⟩:=st
  exact ⟨o,e,fun v z=>by rw [d] at z; cases z⟩
 keep:=fun i h h' st k=>st.at fun o e=>k it (by simp) o e
 item:=by
  intro X hP hw hK hc i pins s σ H E I hf st hg
  subst hP hw hK
  obtain ⟨xs,x,hq,hx⟩:=hg
  obtain ⟨its,rv,p,hz⟩:=I.list hq
  obtain ⟨u,hu,ru⟩:=rv.get hx
  obtain ⟨f0,f1,f2,f3,f4,f5⟩:=hf it (by simp)
  refine wpAny_pyNext_list_item st p.isList (x:=u) (by simpa using hu) fun h' st' sb=>?_
  have I1:Inv X pins σ H { s with heap:=h' }:=I.turned (t':=s.toks) (fun b o hb e=>(sb.2 b hb).trans e) f0 f1 f3 f4 f5
  obtain ⟨o,e,c,d⟩:=id st'
  exact ⟨u,rfl,Mj (s:={ s with heap:=h' }) e c d (by decide) ⟨x,H,I1,ru,⟨rfl,fun ys hy=>by rw [I.list_inj hy hq]; exact hx⟩,st',fun b hb=>(hf b hb).1⟩⟩
 done:=by
  intro X hP hw hK hc i pins s σ H E I hf st hg
  subst hP hw hK
  obtain ⟨xs,hq,hx⟩:=hg
  obtain ⟨its,rv,p,hz⟩:=I.list hq
  obtain ⟨f0,f1,f2,f3,f4,f5⟩:=hf it (by simp)
  have hl:=rv.length
  exact wpAny_pyNext_list_end (I.ok.hd hc) st p.isList (by simp; omega) fun h' eb=>⟨rfl,I.turned (t':=s.toks) (fun b o hb e=>eb b o hb e) f0 f1 f3 f4 f5⟩
 self:=fun _ _ _ _ _ st h=>wpAny_pyIter_listiter st h
theorem Jq {P:Program} {w:World} {K:Frag} {tg:Expr} (it:Addr) (lo:Int) (n:Nat):Turn P w K tg (Itr lo n) [it] it (fun i h=>IsRangeIter h it (lo + (i:Nat) * 1) ((n:Int) - (i:Nat)) 1) where
 mem:=by simp
 obj:=fun i h st b hb=>by
  have e:b = it:=by simpa using hb
  subst e
  exact ⟨_,st,fun v z=>by
   have z':Data.fields _ = Data.cell v:=z
   cases z'⟩
 keep:=fun i h h' st k=>k it (by simp) _ st
 item:=by
  intro X hP hw hK hc i pins s σ H E I hf st hg
  subst hP hw hK
  obtain ⟨f0,f1,f2,f3,f4,f5⟩:=hf it (by simp)
  have W:=Walks.range (prog:=X.prog) (w:=X.w) (I.ok.hd hc) it lo 1 n
  refine W.item i s _ _ hg st fun v h' tk hv st' kk=>?_
  obtain ⟨t,rfl⟩:=hv
  have I1:Inv X pins σ H { s with heap:=h',toks:=tk }:=I.turned (fun b o hb e=>kk b o (by simpa using hb) e) f0 f1 f3 f4 f5
  refine ⟨_,rfl,Mj (s:={ s with heap:=h',toks:=tk }) (n := "range_iterator") st' rfl rfl (by decide) ⟨.int (lo + i),H,I1,⟨t,?_⟩,⟨rfl,rfl⟩,st',fun b hb=>(hf b hb).1⟩⟩
  rw [Int.mul_one]
 done:=by
  intro X hP hw hK hc i pins s σ H E I hf st hg
  subst hP hw hK
  obtain ⟨f0,f1,f2,f3,f4,f5⟩:=hf it (by simp)
  exact wpAny_pyNext_range_end (I.ok.hd hc) st (by have:n <= i:=hg; omega) fun h' eb=>⟨rfl,I.turned (t':=s.toks) (fun b o hb e=>eb b o hb e) f0 f1 f3 f4 f5⟩
 self:=fun _ _ _ _ _ st h=>wpAny_pyIter_rangeiter st h
end L2
namespace L2
open PySem PySem.Spec PyProof.Rows
section
variable {X:Cx} {tg:Expr}
noncomputable def zV (K:Frag) (tl:TE):TI:=fun σ H R=>tl σ H fun x H1=>∃ a,x = .ref a/\(∃ xs,SqL K H1 a xs)/\R (Itl K a) H1
theorem dw {l:Expr} {tl:TE} (hl:PE X l tl):PI X tg l (zV X.K tl):=by
 intro pins s σ H R I h
 refine thn (hl pins s σ H _ I h) fun v s1 ⟨x,H1,I1,r1,q1⟩=>?_
 obtain ⟨a,e,⟨xs,hq⟩,q⟩:=q1
 subst e
 cases r1
 obtain ⟨its,rv,p,hz⟩:=I1.list hq
 refine wpAny_pyIter_list p.isList ?_
 refine ⟨s1.heap.objs.size,[s1.heap.objs.size],_,_,H1,rfl,I1.kept (t':=s1.toks) fun b o e=>aF _ e,Ny a _,⟨_,aW _ rfl,rfl,rfl⟩,fun b hb=>?_,q⟩
 have e:b = s1.heap.objs.size:=by simpa using hb
 subst e
 exact I1.fpOk (aD _) (I1.hok.fresh (aD _))
theorem OJ {pins:List (Addr × Obj)} {σ:St} {H:Hp} {s:Shared} {R:It->Hp->Prop} {E:Value->Shared->Prop} {lo hi:Int} {t u v:Tok} {tk:Nat} (I:Inv X pins σ H s) (h1 : -(2 ^ 62) <= lo) (h2:lo < 2 ^ 62) (h3 : -(2 ^ 62) <= hi) (h4:hi < 2 ^ 62)
  (q:R (Itr lo (hi - lo).toNat) H):wpAny (model X.prog X.w) X.A (pyIter (.ref s.heap.objs.size)) (PIE X pins σ tg R) E { s with heap:=s.heap.push { cls:=.type "range",data:=.fields #[.int lo t,.int hi u,.int 1 v] },toks:=tk }:=by
 refine wpAny_pyIter_range (IsRange.new ..) (small_one h1 h2 h3 h4) ?_
 have I1:Inv X pins σ H { s with heap:=s.heap.push { cls:=.type "range",data:=.fields #[.int lo t,.int hi u,.int 1 v] },toks:=tk }:=I.kept fun b o e=>aF _ e
 refine ⟨(s.heap.push { cls:=.type "range",data:=.fields #[.int lo t,.int hi u,.int 1 v] }).objs.size,[(s.heap.push { cls:=.type "range",data:=.fields #[.int lo t,.int hi u,.int 1 v] }).objs.size],_,_,H,rfl,
  I1.kept (t':=tk) fun b o e=>aF _ e,Jq _ lo (hi - lo).toNat,?_,fun b hb=>?_,q⟩
 .have e1:lo + ((0:Nat):Int) * 1 = lo:=by simp
  have e2:(((hi - lo).toNat:Nat):Int) - ((0:Nat):Int) = Builtin.Range.rangeSize lo hi 1:=by rw [rangeSize_one]; split <;> omega
  show IsRangeIter _ _ (lo + ((0:Nat):Int) * 1) ((((hi - lo).toNat:Nat):Int) - ((0:Nat):Int)) 1
  rw [e1,e2]
  exact aW _ rfl
 .have e:b = (s.heap.push { cls:=.type "range",data:=.fields #[.int lo t,.int hi u,.int 1 v] }).objs.size:=by simpa using hb
  subst e
  exact I1.fpOk (aD _) (I1.hok.fresh (aD _))
noncomputable def Mg (ta:TA):TI:=fun σ H R=>ta σ H fun vs H1=>∃ j:Int,vs = [.int j]/\-(2 ^ 62) <= j/\j < 2 ^ 62/\R (Itr 0 j.toNat) H1
theorem iB {a:Expr} {ta:TA} {p pos:Pos} (hg:Gl X "range") (hm:X.mg "range" = none) (ha:PA X [a] ta) (hs:starEach [a] X.env = [(false,eval a X.env)]:=by rfl):PI X tg (.Call (.Name "range" p) [a] [] pos) (Mg ta):=by
 intro pins s σ H R I h
 refine Call_ (vV I hg hm boot_range (PyProof.Rows.callWith_type1 (thn (ha pos pins s σ H _ I h) fun us s1 ⟨vs,H1,I1,r1,q1⟩=>?_) hs rfl))
 obtain ⟨j,e,q1,q2,q⟩:=q1
 subst e
 cases r1 with
 | cons r rr =>
  cases rr
  obtain ⟨t,rfl⟩:=r
  exact call_range_1 (OJ I1 (by omega) (by omega) q1 q2 (by simpa using q))
noncomputable def Mr (wi:TI) (g:TG) (tb:TS):TS:=fun D σ H=>wi σ H fun J H1=>∃ W:Nat->Nat->St->Hp->Prop,(∃ m,W 0 m σ H1)/\∀ i m σ H,W i m σ H ->
 (J.stop i H/\D.nx σ H)\/(J.go i H/\∃ N:St->Hp->Prop,(∀ σ' H',N σ' H'->∃ m',m' < m/\W (i + 1) m' σ' H')/\∀ x H',J.yld i H x H'->g x σ H' fun σ2 H2=>tb { D with nx:=N,ct:=N,bk:=D.nx } σ2 H2)
noncomputable def zL (fp:List Addr) (h:Heap):List (Addr × Obj):=fp.filterMap fun b=>(h.get? b).map fun o=>(b,o)
theorem lU {fp:List Addr} {h:Heap} {b:Addr} {o:Obj} (hb:b ∈ fp) (e:h.get? b = some o):(b,o) ∈ zL fp h:=List.mem_filterMap.mpr ⟨b,hb,by rw [e]; rfl⟩
theorem Mp {fp:List Addr} {h:Heap} {p:Addr × Obj} (hp:p ∈ zL fp h):p.1 ∈ fp/\h.get? p.1 = some p.2:=by
 obtain ⟨b,hb,e⟩:=List.mem_filterMap.mp hp
 cases q:h.get? b with
 | none=>rw [q] at e; cases e
 | some o =>
  rw [q] at e
  have e':(b,o) = p:=Option.some.inj e
  subst e'
  exact ⟨hb,q⟩
theorem Inv.pinned {pins:List (Addr × Obj)} {σ:St} {H:Hp} {s:Shared} {fp:List Addr} (I:Inv X pins σ H s) (hf:∀ b ∈ fp,wU X pins H b) (ho:∀ b ∈ fp,∃ o,s.heap.get? b = some o/\∀ v,o.data ≠ .cell v):Inv X (pins ++ zL fp s.heap) σ H s :=
 I.pins_of fun p hp=>(List.mem_append.mp hp).elim (fun z=>I.pin p (aO _ z)) fun z=>by
  obtain ⟨hb,e⟩:=Mp z
  obtain ⟨f0,f1,f2,_⟩:=hf p.1 hb
  obtain ⟨o,e',d⟩:=ho p.1 hb
  rw [e] at e'; cases e'
  exact ⟨e,f0,f1,f2,d⟩
theorem Inv.unpinned {pins pl:List (Addr × Obj)} {σ:St} {H:Hp} {s:Shared} (I:Inv X (pins ++ pl) σ H s):Inv X pins σ H s:=I.pins_of fun p hp=>I.pin p (aO _ (List.mem_append_left _ hp))
theorem kO {iter:Expr} {body:List Stmt} {wi:TI} {g:TG} {tb:TS} {pos:Pos} (hp:PassesOwn (model X.prog X.w) X.A X.env X.xe) (hc:X.calm = true) (hi:PI X tg iter wi) (hg:PG X tg g) (hb:PSs X body tb)
  (hs:∀ x,foldedSetIterable iter X.env x = pure x:=by intro _; rfl):PS X (.For tg iter body [] pos) (Mr wi g tb):=by
 intro pins s σ H D I h
 refine wpAny_For (thn (hi pins s σ H _ I h) fun v s1 h1=>thn h1 fun itv s2 h2=>?_) hs
 obtain ⟨it,fp,tn,J,H2,e,I2,T,st2,f2,W,⟨m0,w0⟩,turn⟩:=h2
 subst e
 -- what stays true of the iterator's objects through the loop
 have stat:∀ {H':Hp},(∀ b ∈ fp,H' b = none)->∀ b ∈ fp,wU X pins H' b:=fun hn b hb=>⟨hn b hb,(f2 b hb).2⟩
 refine codeAny_forLoop_any (fun n s'=>∃ i σ' H',Inv X pins σ' H' s'/\tn i s'.heap/\(∀ b ∈ fp,H' b = none)/\W i n σ' H') ?_ m0 ⟨0,σ,H2,I2,st2,fun b hb=>(f2 b hb).1,w0⟩
 rintro n s3 ⟨i,σ3,H3,I3,st3,fr3,w3⟩
 rcases turn i n σ3 H3 w3 with ⟨stop,qn⟩ | ⟨go,N,hN,step⟩
 .refine wpAny_passesOwn hp (thn (T.done X rfl rfl rfl hc i pins s3 σ3 H3 X.xe I3 (stat fr3) st3 stop) fun r s4 ⟨hr,I4⟩=>?_)
  subst hr
  exact wpAny_execs_nil ⟨σ3,H3,I4,qn⟩
 .refine wpAny_passesOwn hp (thn (T.item X rfl rfl rfl hc i pins s3 σ3 H3 X.xe I3 (stat fr3) st3 go) fun r s4 ⟨u,hr,h4⟩=>?_)
  subst hr
  refine wpAny_passesOwn hp (thn h4 fun _ s5 ⟨x,H5,I5,r5,y5,st5,fr5⟩=>?_)
  have I5':=I5.pinned (stat fr5) (T.obj _ _ st5)
  refine wpAny_passesOwn hp (thn (hg _ s5 σ3 H5 x u _ I5' r5 (step x H5 y5)) fun _ s6 ⟨σ6,H6,I6,q6⟩=>?_)
  refine wpAny_passesOwn hp (thn (hb _ s6 σ6 H6 _ I6 q6) fun f s7 q7=>?_)
  have again:∀ {σ7:St} {H7:Hp},Inv X (pins ++ zL fp s5.heap) σ7 H7 s7->N σ7 H7->∃ m,m < n/\∃ i σ' H',Inv X pins σ' H' s7/\tn i s7.heap/\(∀ b ∈ fp,H' b = none)/\W i m σ' H':=fun {σ7 H7} I7 n7=>by
   obtain ⟨m',hm,w7⟩:=hN σ7 H7 n7
   refine ⟨m',hm,i + 1,σ7,H7,I7.unpinned,T.keep _ _ _ st5 fun b hb o e=>(I7.pin (b,o) (aO _ (aO _ (lU hb e)))).1,fun b hb=>?_,w7⟩
   obtain ⟨o,e,d⟩:=T.obj _ _ st5 b hb
   exact (I7.pin (b,o) (aO _ (aO _ (lU hb e)))).2.1
  cases f with
  | next=>obtain ⟨σ7,H7,I7,n7⟩:=q7; exact again I7 n7
  | cont=>obtain ⟨σ7,H7,I7,n7⟩:=q7; exact again I7 n7
  | brk=>obtain ⟨σ7,H7,I7,q7⟩:=q7; exact ⟨σ7,H7,I7.unpinned,q7⟩
  | ret v=>obtain ⟨x7,σ7,H7,I7,r7,q7⟩:=q7; exact ⟨x7,σ7,H7,I7.unpinned,r7,q7⟩
end
theorem Gr {c:TT} {tb:TS} {D:Ends} {σ:St} {H:Hp} (Pv:St->Hp->Prop) (μ:St->Hp->Nat) (h0:Pv σ H)
  (hs:∀ σ H,Pv σ H->c σ H fun b H1=>if b = true then tb { D with nx:=fun σ' H'=>Pv σ' H'/\μ σ' H' < μ σ H,ct:=fun σ' H'=>Pv σ' H'/\μ σ' H' < μ σ H,bk:=D.nx } σ H1 else D.nx σ H1)
  (mono:∀ σ H Q Q',(∀ b H1,Q b H1->Q' b H1)->c σ H Q->c σ H Q'):Sx c tb D σ H:=by
 refine ⟨fun m σ H=>m = μ σ H/\Pv σ H,⟨_,rfl,h0⟩,?_⟩
 rintro m σ H ⟨rfl,p⟩
 refine mono σ H _ _ (fun b H1 q=>?_) (hs σ H p)
 cases b with
 | true=>exact ⟨_,fun σ' H' ⟨p',l⟩=>⟨_,l,rfl,p'⟩,q⟩
 | false=>exact q
end L2
namespace L2
open PySem PySem.Spec PyProof.Rows
noncomputable abbrev R2:=V->V->Hp->VK->Prop
noncomputable def OpR (X:Cx) (f:Value->Value->Sem Value) (r:R2):Prop :=
 ∀ (pins:List (Addr × Obj)) (s:Shared) (σ:St) (H:Hp) (x y:V) (v u:Value) (Q:VK),Inv X pins σ H s->RelV x v->RelV y u->r x y H Q ->
  wpAny (model X.prog X.w) X.A (f v u) (EP X pins σ Q) X.xe s
noncomputable def UnR (X:Cx) (f:Value->Sem Value) (r:V->Hp->VK->Prop):Prop :=
 ∀ (pins:List (Addr × Obj)) (s:Shared) (σ:St) (H:Hp) (x:V) (v:Value) (Q:VK),Inv X pins σ H s->RelV x v->r x H Q ->
  wpAny (model X.prog X.w) X.A (f v) (EP X pins σ Q) X.xe s
noncomputable def dU (X:Cx) (f:Value) (r:List V->Hp->VK->Prop):Prop :=
 ∀ (pins:List (Addr × Obj)) (s:Shared) (σ:St) (H:Hp) (xs:List V) (us:List Value) (Q:VK),Inv X pins σ H s->Vals xs us->r xs H Q ->
  wpAny (model X.prog X.w) X.A (call f us) (EP X pins σ Q) X.xe s
noncomputable def ac8 (X:Cx) (r:V->Hp->(Bool->Hp->Prop)->Prop):Prop :=
 ∀ (pins:List (Addr × Obj)) (s:Shared) (σ:St) (H:Hp) (x:V) (v:Value) (Q:Bool->Hp->Prop),Inv X pins σ H s->RelV x v->r x H Q ->
  wpAny (model X.prog X.w) X.A (truthy v) (TP X pins σ Q) X.xe s
noncomputable def tOp (r:R2) (ta tb:TE):TE:=fun σ H Q=>ta σ H fun x H1=>tb σ H1 fun y H2=>r x y H2 Q
noncomputable def tUn (r:V->Hp->VK->Prop) (ta:TE):TE:=fun σ H Q=>ta σ H fun x H1=>r x H1 Q
noncomputable def rI (C:Int->Int->Prop) (g:Int->Int->V):R2:=fun x y H Q=>∃ i j,x = .int i/\y = .int j/\C i j/\Q (g i j) H
noncomputable def rI0 (g:Int->Int->V):R2:=fun x y H Q=>∃ i j,x = .int i/\y = .int j/\Q (g i j) H
noncomputable def rU (g:Int->V):V->Hp->VK->Prop:=fun x H Q=>∃ i,x = .int i/\Q (g i) H
section
variable {X:Cx} {a b c:Expr} {ta tb tc:TE} {pos:Pos}
theorem Xm (ha:PE X a ta) (hb:PE X b tb) {pins:List (Addr × Obj)} {s:Shared} {σ:St} {H:Hp} {R:V->V->Hp->Prop} (I:Inv X pins σ H s)
  (h:ta σ H fun x H1=>tb σ H1 fun y H2=>R x y H2) {Q:Value->Shared->Prop} {f:Value->Value->Sem Value}
  (hf:∀ v u s2 x y H2,Inv X pins σ H2 s2->RelV x v->RelV y u->R x y H2->wpAny (model X.prog X.w) X.A (f v u) Q X.xe s2) :
  wpAny (model X.prog X.w) X.A (eval a X.env) (fun v s₁=>wpAny (model X.prog X.w) X.A (eval b X.env) (fun u s₂=>wpAny (model X.prog X.w) X.A (f v u) Q X.xe s₂) X.xe s₁) X.xe s:=by
 refine thn (ha pins s σ H _ I h) fun v s1 ⟨x,H1,I1,r1,q1⟩=>?_
 refine thn (hb pins s1 σ H1 _ I1 q1) fun u s2 ⟨y,H2,I2,r2,q2⟩=>?_
 exact hf v u s2 x y H2 I2 r1 r2 q2
theorem bN {op:Operator} {r:R2} (ho:OpR X (binaryOp op) r) (ha:PE X a ta) (hb:PE X b tb):PE X (.BinOp a op b pos) (tOp r ta tb):=by
 intro pins s σ H Q I h
 exact wpAny_BinOp (Xm ha hb I h fun v u s2 x y H2 I2 rx ry q=>ho pins s2 σ H2 x y v u Q I2 rx ry q)
theorem Bw {op:UnaryOp} {r:V->Hp->VK->Prop} (ho:UnR X (unaryOp op) r) (ha:PE X a ta):PE X (.UnaryOp op a pos) (tUn r ta):=by
 intro pins s σ H Q I h
 exact UnaryOp_ (thn (ha pins s σ H _ I h) fun v s1 ⟨x,H1,I1,r1,q1⟩=>ho pins s1 σ H1 x v Q I1 r1 q1)
theorem opI {f:Value->Value->Sem Value} {C:Int->Int->Prop} {g:Int->Int->Int}
  (rule:∀ (i j:Int) (t u:Tok) (s:Shared) (Q:Value->Shared->Prop) (E:Value->Shared->Prop),C i j->Q (.int (g i j) s.toks) { s with toks:=s.toks + 1 }->wpAny (model X.prog X.w) X.A (f (.int i t) (.int j u)) Q E s) :
  OpR X f (rI C fun i j=>.int (g i j)):=by
 intro pins s σ H x y v u Q I rx ry h
 obtain ⟨i,j,rfl,rfl,hc,q⟩:=h
 obtain ⟨t,rfl⟩:=rx
 obtain ⟨t',rfl⟩:=ry
 exact rule i j t t' s _ _ hc ⟨.int (g i j),H,I.tok _,⟨_,rfl⟩,q⟩
theorem Z4 {f:Value->Value->Sem Value} {g:Int->Int->Int}
  (rule:∀ (i j:Int) (t u:Tok) (s:Shared) (Q:Value->Shared->Prop) (E:Value->Shared->Prop),Q (.int (g i j) s.toks) { s with toks:=s.toks + 1 }->wpAny (model X.prog X.w) X.A (f (.int i t) (.int j u)) Q E s) :
  OpR X f (rI0 fun i j=>.int (g i j)):=by
 intro pins s σ H x y v u Q I rx ry h
 obtain ⟨i,j,rfl,rfl,q⟩:=h
 obtain ⟨t,rfl⟩:=rx
 obtain ⟨t',rfl⟩:=ry
 exact rule i j t t' s _ _ ⟨.int (g i j),H,I.tok _,⟨_,rfl⟩,q⟩
theorem TX {f:Value->Value->Sem Value} {g:Int->Int->Bool}
  (rule:∀ (i j:Int) (t u:Tok) (s:Shared) (Q:Value->Shared->Prop) (E:Value->Shared->Prop),Q (.bool (g i j)) s->wpAny (model X.prog X.w) X.A (f (.int i t) (.int j u)) Q E s) :
  OpR X f (rI0 fun i j=>.bl (g i j)):=by
 intro pins s σ H x y v u Q I rx ry h
 obtain ⟨i,j,rfl,rfl,q⟩:=h
 obtain ⟨t,rfl⟩:=rx
 obtain ⟨t',rfl⟩:=ry
 exact rule i j t t' s _ _ ⟨.bl (g i j),H,I,rfl,q⟩
noncomputable def Z5 (i j:Int):Prop:=0 <= j/\j <= 1000000/\i.natAbs < 2 ^ 64
noncomputable def Xk (i j:Int):Prop:=(-(2 ^ 64) < i/\i < 2 ^ 64)\/(-(2 ^ 64) < j/\j < 2 ^ 64)
theorem Xk.ok {i j:Int} (h:Xk i j):IntMulOk i j:=by
 rcases h with ⟨h1,h2⟩ | ⟨h1,h2⟩
 .exact .of_left (intBits_le_64 h1 h2)
 .exact .of_right (intBits_le_64 h1 h2)
theorem cR:OpR X (binaryOp .Add) (rI0 fun i j=>.int (i + j)):=Z4 fun _ _ _ _ _ _ _ q=>add_int q
theorem vH:OpR X (binaryOp .Sub) (rI0 fun i j=>.int (i - j)):=Z4 fun _ _ _ _ _ _ _ q=>sub_int q
theorem Js:OpR X (binaryOp .Mult) (rI Xk fun i j=>.int (i * j)):=opI fun _ _ _ _ _ _ _ hc q=>mul_int q hc.ok
theorem cH:OpR X (binaryOp .Mod) (rI (fun _ j=>0 < j) fun i j=>.int (i % j)):=opI fun i j _ _ _ _ _ hc q=>by
 have h1:(0:Int) < j:=hc
 exact mod_int' (by omega) (by rw [aV i (by omega)]; exact q)
theorem g_:OpR X (binaryOp .Mod) (rI (fun _ j=>j ≠ 0) fun i j=>.int (i.fmod j)):=opI fun _ _ _ _ _ _ _ hc q=>mod_int' hc q
theorem Fd:OpR X (binaryOp .Pow) (rI Z5 fun i j=>.int (i ^ j.toNat)):=opI fun _ _ _ _ _ _ _ hc q=>pow_int_small hc.1 hc.2.1 hc.2.2 q
theorem unI {f:Value->Sem Value} {g:Int->Int}
  (rule:∀ (i:Int) (t:Tok) (s:Shared) (Q:Value->Shared->Prop) (E:Value->Shared->Prop),Q (.int (g i) s.toks) { s with toks:=s.toks + 1 }->wpAny (model X.prog X.w) X.A (f (.int i t)) Q E s) :
  UnR X f (rU fun i=>.int (g i)):=by
 intro pins s σ H x v Q I rx h
 obtain ⟨i,rfl,q⟩:=h
 obtain ⟨t,rfl⟩:=rx
 exact rule i t s _ _ ⟨.int (g i),H,I.tok _,⟨_,rfl⟩,q⟩
theorem vY:UnR X (unaryOp .USub) (rU fun i=>.int (-i)):=unI fun _ _ _ _ _ q=>neg_int q
end
noncomputable def JC:V->V->Bool
 | .non,.non=>true | .non,.int _=>true | .int _,.non=>true | .non,.bl _=>true | .bl _,.non=>true | .non,.str _=>true | .str _,.non=>true
 | .int _,.int _=>true | .bl _,.bl _=>true | .str _,.str _=>true | .byt _,.byt _=>true
 | .int _,.str _=>true | .str _,.int _=>true | .bl _,.str _=>true | .str _,.bl _=>true
 | _,_=>false
noncomputable def rEq:R2:=fun x y H Q=>JC x y = true/\Q (.bl (decide (x = y))) H
noncomputable def rNe:R2:=fun x y H Q=>JC x y = true/\Q (.bl (!decide (x = y))) H
theorem Lh {i j:Int} : decide (V.int i = V.int j) = (i == j):=by
 rw [Bool.eq_iff_iff]
 simp
theorem QW {i j:Bool} : decide (V.bl i = V.bl j) = (i == j):=by
 rw [Bool.eq_iff_iff]
 simp
theorem Ku {i j:Str} : decide (V.str i = V.str j) = (i == j):=by
 rw [Bool.eq_iff_iff]
 simp
theorem K4 {i j:Array UInt8} : decide (V.byt i = V.byt j) = (i.toList == j.toList):=by
 rw [Bool.eq_iff_iff]
 cases i
 cases j
 simp
section
variable {X:Cx} {a b c:Expr} {ta tb tc:TE} {pos:Pos}
theorem cJ {pins:List (Addr × Obj)} {σ:St} {H:Hp} {s:Shared} {Q:VK} {k k':Bool} (I:Inv X pins σ H s) (q:Q (.bl k) H) (e:k = k'):EP X pins σ Q (.bool k') s:=by
 subst e
 exact ⟨.bl k,H,I,rfl,q⟩
theorem kj:OpR X (compareOp .Eq) rEq:=by
 intro pins s σ H x y v u Q I rx ry h
 obtain ⟨hs,q⟩:=h
 cases x with
 | non =>
  cases rx
  cases y with
  | non=>cases ry; exact PySem.EqNone.eq_none_none (cJ I q (by simp))
  | bl j=>cases ry; exact PySem.EqNone.eq_none_bool (cJ I q (by simp))
  | int j=>obtain ⟨t',rfl⟩:=ry; exact PySem.EqNone.eq_none_int (cJ I q (by simp))
  | str j=>obtain ⟨t',rfl⟩:=ry; exact PySem.EqNone.eq_none_str (cJ I q (by simp))
  | _=>exact absurd (show false = true from hs) bw
 | bl i =>
  cases rx
  cases y with
  | non=>cases ry; exact PySem.EqNone.eq_bool_none (cJ I q (by simp))
  | bl j=>cases ry; exact eq_bool (cJ I q QW)
  | str j=>obtain ⟨t',rfl⟩:=ry; exact PySem.EqMixed.eq_bool_str (cJ I q (by simp))
  | _=>exact absurd (show false = true from hs) bw
 | int i =>
  obtain ⟨t,rfl⟩:=rx
  cases y with
  | non=>cases ry; exact PySem.EqNone.eq_int_none (cJ I q (by simp))
  | int j=>obtain ⟨t',rfl⟩:=ry; exact eq_int (cJ I q Lh)
  | str j=>obtain ⟨t',rfl⟩:=ry; exact PySem.EqMixed.eq_int_str (cJ I q (by simp))
  | _=>exact absurd (show false = true from hs) bw
 | str i =>
  obtain ⟨t,rfl⟩:=rx
  cases y with
  | non=>cases ry; exact PySem.EqNone.eq_str_none (cJ I q (by simp))
  | bl j=>cases ry; exact PySem.EqMixed.eq_str_bool (cJ I q (by simp))
  | int j=>obtain ⟨t',rfl⟩:=ry; exact PySem.EqMixed.eq_str_int (cJ I q (by simp))
  | str j=>obtain ⟨t',rfl⟩:=ry; exact eq_str (cJ I q Ku)
  | _=>exact absurd (show false = true from hs) bw
 | byt i =>
  obtain ⟨t,rfl⟩:=rx
  cases y with
  | byt j=>obtain ⟨t',rfl⟩:=ry; exact PySem.W.eq_bytes (cJ I q K4)
  | _=>exact absurd (show false = true from hs) bw
 | _=>cases y <;> exact absurd (show false = true from hs) bw
theorem zA:OpR X (compareOp .NotEq) rNe:=by
 intro pins s σ H x y v u Q I rx ry h
 obtain ⟨hs,q⟩:=h
 cases x with
 | non =>
  cases rx
  cases y with
  | non=>cases ry; exact PySem.EqNone.ne_none_none (cJ I q (by simp))
  | bl j=>cases ry; exact PySem.EqNone.ne_none_bool (cJ I q (by simp))
  | int j=>obtain ⟨t',rfl⟩:=ry; exact PySem.EqNone.ne_none_int (cJ I q (by simp))
  | str j=>obtain ⟨t',rfl⟩:=ry; exact PySem.EqNone.ne_none_str (cJ I q (by simp))
  | _=>exact absurd (show false = true from hs) bw
 | bl i =>
  cases rx
  cases y with
  | non=>cases ry; exact PySem.EqNone.ne_bool_none (cJ I q (by simp))
  | bl j=>cases ry; exact ne_bool (cJ I q (congrArg not QW))
  | str j=>obtain ⟨t',rfl⟩:=ry; exact PySem.EqMixed.ne_bool_str (cJ I q (by simp))
  | _=>exact absurd (show false = true from hs) bw
 | int i =>
  obtain ⟨t,rfl⟩:=rx
  cases y with
  | non=>cases ry; exact PySem.EqNone.ne_int_none (cJ I q (by simp))
  | int j=>obtain ⟨t',rfl⟩:=ry; exact ne_int (cJ I q (congrArg not Lh))
  | str j=>obtain ⟨t',rfl⟩:=ry; exact PySem.EqMixed.ne_int_str (cJ I q (by simp))
  | _=>exact absurd (show false = true from hs) bw
 | str i =>
  obtain ⟨t,rfl⟩:=rx
  cases y with
  | non=>cases ry; exact PySem.EqNone.ne_str_none (cJ I q (by simp))
  | bl j=>cases ry; exact PySem.EqMixed.ne_str_bool (cJ I q (by simp))
  | int j=>obtain ⟨t',rfl⟩:=ry; exact PySem.EqMixed.ne_str_int (cJ I q (by simp))
  | str j=>obtain ⟨t',rfl⟩:=ry; exact ne_str (cJ I q (congrArg not Ku))
  | _=>exact absurd (show false = true from hs) bw
 | byt i =>
  obtain ⟨t,rfl⟩:=rx
  cases y with
  | byt j=>obtain ⟨t',rfl⟩:=ry; exact PySem.W.ne_bytes (cJ I q (congrArg not K4))
  | _=>exact absurd (show false = true from hs) bw
 | _=>cases y <;> exact absurd (show false = true from hs) bw
theorem u_:OpR X (compareOp .Lt) (rI0 fun i j=>.bl (decide (i < j))):=TX fun _ _ _ _ _ _ _ q=>lt_int q
theorem Gz:OpR X (compareOp .LtE) (rI0 fun i j=>.bl (decide (i <= j))):=TX fun _ _ _ _ _ _ _ q=>le_int q
theorem BK:OpR X (compareOp .Gt) (rI0 fun i j=>.bl (decide (j < i))):=TX fun _ _ _ _ _ _ _ q=>gt_int q
theorem W2:OpR X (compareOp .GtE) (rI0 fun i j=>.bl (decide (j <= i))):=TX fun _ _ _ _ _ _ _ q=>ge_int q
theorem Ri:OpR X (compareOp .Is) (fun x y H Q=>y = .non/\Q (.bl (decide (x = .non))) H):=by
 intro pins s σ H x y v u Q I rx ry h
 obtain ⟨rfl,q⟩:=h
 cases ry
 refine is_none_gen (cJ I q ?_)
 cases x <;> first
  | (cases rx; rfl)
  | (obtain ⟨t,rfl⟩:=rx; rfl)
theorem TY:OpR X (compareOp .IsNot) (fun x y H Q=>y = .non/\Q (.bl (!decide (x = .non))) H):=by
 intro pins s σ H x y v u Q I rx ry h
 obtain ⟨rfl,q⟩:=h
 cases ry
 refine isnot_none_gen (cJ I q ?_)
 cases x <;> first
  | (cases rx; rfl)
  | (obtain ⟨t,rfl⟩:=rx; rfl)
theorem cj (b:Expr) {op:CmpOp} (h:op ≠ .In:=by decide) (h2:op ≠ .NotIn:=by decide):behindInMarks op b = false:=by
 have e1:(op == CmpOp.In) = false:=by cases op <;> first | rfl | exact absurd rfl h
 have e2:(op == CmpOp.NotIn) = false:=by cases op <;> first | rfl | exact absurd rfl h2
 cases b <;> simp [behindInMarks,e1,e2]
theorem qW {op:CmpOp} {r:R2} (ho:OpR X (compareOp op) r) (ha:PE X a ta) (hb:PE X b tb) (hm:behindInMarks op b = false):PE X (.Compare a [op] [b] pos) (tOp r ta tb):=by
 intro pins s σ H Q I h
 exact wpAny_Compare1 (Xm ha hb I h fun v u s2 x y H2 I2 rx ry q=>ho pins s2 σ H2 x y v u Q I2 rx ry q) hm
noncomputable def ux (t:TE):TT:=fun σ H Q=>t σ H fun x H'=>∃ k,x = .bl k/\Q k H'
theorem bZ {op:CmpOp} {r:R2} (ho:OpR X (compareOp op) r) (ha:PE X a ta) (hb:PE X b tb) (hm:behindInMarks op b = false):PT X (.Compare a [op] [b] pos) (ux (tOp r ta tb)):=by
 intro pins s σ H Q I h
 refine wpAny_isTrue_Compare1 (thn (ha pins s σ H _ I h) fun v s1 ⟨x,H1,I1,r1,q1⟩=>thn (hb pins s1 σ H1 _ I1 q1) fun u s2 ⟨y,H2,I2,r2,q2⟩ =>
  thn (ho pins s2 σ H2 x y v u _ I2 r1 r2 q2) fun c s3 ⟨z,H3,I3,r3,k,e,q3⟩=>?_) hm
 subst e
 cases r3
 exact wpAny_truthy_bool ⟨H3,I3,q3⟩
noncomputable def xO (r r':R2) (ta tb tc:TE):TE:=fun σ H Q=>ta σ H fun x H1=>tb σ H1 fun y H2=>r x y H2 fun z H3=>∃ k,z = .bl k /\
 (if k = true then tc σ H3 fun w' H4=>r' y w' H4 Q else Q (.bl false) H3)
theorem GJ {op op':CmpOp} {r r':R2} (ho:OpR X (compareOp op) r) (ho':OpR X (compareOp op') r') (ha:PE X a ta) (hb:PE X b tb) (hc:PE X c tc)
  (hm:lastMarks [op,op'] [b,c] = false:=by with_unfolding_all rfl):PE X (.Compare a [op,op'] [b,c] pos) (xO r r' ta tb tc):=by
 intro pins s σ H Q I h
 refine Compare_chain (thn (ha pins s σ H _ I h) fun v s1 ⟨x,H1,I1,r1,q1⟩=>chain_link (thn (hb pins s1 σ H1 _ I1 q1) fun u s2 ⟨y,H2,I2,r2,q2⟩ =>
  thn (ho pins s2 σ H2 x y v u _ I2 r1 r2 q2) fun d s3 ⟨z,H3,I3,r3,k,e,q3⟩=>?_)) hm
 subst e
 cases r3
 refine wpAny_truthy_bool ?_
 cases k with
 | false=>exact ite_ff ⟨.bl false,H3,I3,rfl,q3⟩
 | true=>exact ite_tt (chain_last (thn (hc pins s3 σ H3 _ I3 q3) fun w' s4 ⟨z',H4,I4,r4,q4⟩=>ho' pins s4 σ H4 y z' u w' Q I4 r2 r4 q4))
theorem Gu {op op':CmpOp} {r r':R2} (ho:OpR X (compareOp op) r) (ho':OpR X (compareOp op') r') (ha:PE X a ta) (hb:PE X b tb) (hc:PE X c tc)
  (hm:lastMarks [op,op'] [b,c] = false:=by with_unfolding_all rfl):PT X (.Compare a [op,op'] [b,c] pos) (ux (xO r r' ta tb tc)):=by
 intro pins s σ H Q I h
 refine isTrue_chain (thn (ha pins s σ H _ I h) fun v s1 ⟨x,H1,I1,r1,q1⟩=>test_link (thn (hb pins s1 σ H1 _ I1 q1) fun u s2 ⟨y,H2,I2,r2,q2⟩ =>
  thn (ho pins s2 σ H2 x y v u _ I2 r1 r2 q2) fun d s3 ⟨z,H3,I3,r3,k,e,q3⟩=>?_)) hm
 subst e
 cases r3
 refine wpAny_truthy_bool ?_
 cases k with
 | false =>
  obtain ⟨k',e',q'⟩:=q3
  cases e'
  exact ite_ff ⟨H3,I3,q'⟩
 | true =>
  refine ite_tt (test_last (thn (hc pins s3 σ H3 _ I3 q3) fun w' s4 ⟨z',H4,I4,r4,q4⟩=>thn (ho' pins s4 σ H4 y z' u w' _ I4 r2 r4 q4) fun d' s5 ⟨z2,H5,I5,r5,k2,e2,q5⟩=>?_))
  subst e2
  cases r5
  exact wpAny_truthy_bool ⟨H5,I5,q5⟩
noncomputable def Zk (K:Frag) (x:V) (H:Hp) (k:Bool):Prop :=
 match x with
 | .non=>k = false
 | .bl b=>k = b
 | .int i=>k = (i != 0)
 | .str y=>y.length <= sizeLine/\k = ((y.length:Int) != 0)
 | .byt y=>y.size <= sizeLine/\k = ((y.size:Int) != 0)
 | .ref p=>(∃ xs,SqL K H p xs/\k = !xs.isEmpty)\/(∃ xs,SqT K H p xs/\k = !xs.isEmpty)\/∃ kvs,H p = some (.dK kvs)/\k = !kvs.isEmpty
 | _=>False
theorem Jl {κ:Type} {kvs:List (κ × V)} {vs:List (κ × Value)} (r:KV kvs vs):(!vs.isEmpty) = !kvs.isEmpty:=by
 cases r <;> rfl
theorem yJ {xs:List V} {its:List Value} (r:Vals xs its):(!its.toArray.isEmpty) = !xs.isEmpty:=by
 cases r <;> simp
theorem qP:(sizeLine:Nat) < 2 ^ 63:=by rw [sizeLine_eq]; decide
theorem Yu:ac8 X (fun x H Q=>∃ k,Zk X.K x H k/\Q k H):=by
 intro pins s σ H x v Q I rx h
 obtain ⟨k,e,q⟩:=h
 have hl:=qP
 have hs:sizeLine = 16777216:=sizeLine_eq
 cases x with
 | non =>
  cases rx
  have e':k = false:=e
  subst e'
  exact truthy_none ⟨H,I,q⟩
 | bl b =>
  cases rx
  have e':k = b:=e
  subst e'
  exact wpAny_truthy_bool ⟨H,I,q⟩
 | int i =>
  obtain ⟨t,rfl⟩:=rx
  have e':k = (i != 0):=e
  subst e'
  exact PySem.P.truthy_int ⟨H,I,q⟩
 | str y =>
  obtain ⟨t,rfl⟩:=rx
  obtain ⟨hy,e'⟩ : y.length <= sizeLine/\k = ((y.length:Int) != 0):=e
  subst e'
  exact PySem.P.truthy_str (by omega) ⟨H,I.tok _,q⟩
 | byt y =>
  obtain ⟨t,rfl⟩:=rx
  obtain ⟨hy,e'⟩ : y.size <= sizeLine/\k = ((y.size:Int) != 0):=e
  subst e'
  exact PySem.W.truthy_bytes (by omega) ⟨H,I.tok _,q⟩
 | ref p =>
  cases rx
  have e':(∃ xs,SqL X.K H p xs/\k = !xs.isEmpty)\/(∃ xs,SqT X.K H p xs/\k = !xs.isEmpty)\/∃ kvs,H p = some (.dK kvs)/\k = !kvs.isEmpty:=e
  rcases e' with ⟨xs,hx,e'⟩ | ⟨xs,hx,e'⟩ | ⟨kvs,hx,e'⟩
  .subst e'
   obtain ⟨its,r,pl,hz⟩:=I.list hx
   have hlen:=r.length
   exact wpAny_truthy_list pl.isList (by simp only [aX]; omega) ⟨H,I.tok _,by rw [yJ r]; exact q⟩
  .subst e'
   obtain ⟨its,r,pl,hz⟩:=I.tuple hx
   have hlen:=r.length
   exact truthy_tuple pl (by simp only [aX]; omega) ⟨H,I.tok _,by rw [yJ r]; exact q⟩
  .subst e'
   obtain ⟨hz,hS,vs,r,m⟩ : kvs.length <= sizeLine/\(p == sysModules) = false/\∃ vs,KV kvs vs/\s.heap.DictOf (iR X.prog X.w) p vs:=I.hok p _ hx
   have hlen:kvs.length = vs.length:=Paired.length r
   exact wpAny_truthy_dict hS m (by omega) ⟨H,I.tok _,by rw [Jl r]; exact q⟩
 | _=>exact (show False from e).elim
theorem JG:OpR X (binaryOp .Add) (fun x y H Q=>∃ i j,x = .str i/\y = .str j/\i.length + j.length <= sizeLine/\Q (.str (i ++ j)) H):=by
 intro pins s σ H x y v u Q I rx ry h
 obtain ⟨i,j,rfl,rfl,hz,q⟩:=h
 obtain ⟨t,rfl⟩:=rx
 obtain ⟨t',rfl⟩:=ry
 exact add_str (fun t' tk=>⟨.str (i ++ j),H,I.tok _,⟨_,rfl⟩,q⟩) hz
theorem vals1 {x:V} {us:List Value} (r:Vals [x] us):∃ u,us = [u]/\RelV x u:=by
 cases r with
 | cons r1 r2=>cases r2; exact ⟨_,rfl,r1⟩
theorem qC:dU X (.builtin "abs") (fun xs H Q=>∃ i,xs = [.int i]/\Q (.int (if i < 0 then -i else i)) H):=by
 intro pins s σ H xs us Q I r h
 obtain ⟨i,rfl,q⟩:=h
 obtain ⟨u,rfl,t,rfl⟩:=vals1 r
 exact call_abs_int fun u tk=>⟨.int (if i < 0 then -i else i),H,I.tok _,⟨_,rfl⟩,q⟩
theorem Bq:dU X (.type "int") (fun xs H Q=>(∃ i,xs = [.int i]/\Q (.int i) H)\/∃ k,xs = [.bl k]/\Q (.int (if k then 1 else 0)) H):=by
 intro pins s σ H xs us Q I r h
 rcases h with ⟨i,rfl,q⟩ | ⟨k,rfl,q⟩
 .obtain ⟨u,rfl,t,rfl⟩:=vals1 r
  exact call_int_int ⟨.int i,H,I,⟨_,rfl⟩,q⟩
 .obtain ⟨u,rfl,r1⟩:=vals1 r
  cases r1
  exact call_int_bool ⟨.int (if k then 1 else 0),H,I.tok _,⟨_,rfl⟩,q⟩
end
end L2
namespace L2
open PySem PySem.Spec PyProof.Rows
structure JD (h:Heap) (x dx C:Addr) (mA:Str->Option Value):Prop where
 obj:h.get? x = some (PySem.W.instObj C dx)
 ns:h.Ns1 dx mA
 ne:dx ≠ x
theorem Ce {h:Heap} {dx:Addr} {mA:Str->Option Value} (n:h.Ns1 dx mA):∃ od,h.get? dx = some od/\∀ name,PySem.W.lookIn name od = some (mA name):=by
 obtain ⟨o,es,ep,ho,hd,hk,_,hm⟩:=n
 refine ⟨o,ho,fun name=>?_⟩
 have e:=hm name
 unfold nsFind findBy at e
 rw [<- Array.find?_toList] at e
 unfold PySem.W.lookIn
 rw [hd]
 dsimp only
 split
 .rename_i y q
  rw [q] at e
  exact congrArg some e
 .rename_i q
  rw [q] at e
  have a:es.toList.any (·.refKey) = false:=by
   rw [List.any_eq_false]
   intro y hy
   obtain ⟨z,t,hkey⟩:=hk y (Array.mem_toList_iff.mp hy)
   simp [DictEntry.refKey,hkey]
  have a':¬ es.toList.any (·.refKey) = true:=by rw [a]; exact bw
  rw [if_neg a']
  exact congrArg some e
theorem JD.look {h:Heap} {x dx C:Addr} {mA:Str->Option Value} (I:JD h x dx C mA):∃ od,PySem.W.InstAt h x (PySem.W.instObj C dx) C (some od)/\∀ name,PySem.W.lookIn name od = some (mA name) :=
 let ⟨od,ho,hl⟩:=Ce I.ns
 ⟨od,⟨I.obj,rfl,rfl,ho⟩,hl⟩
section
variable {prog:Program} {w:World} {A:Around} {E:Value->Shared->Prop} {s:Shared} {K:Frag} {x dx C f:Addr} {mA:Str->Option Value} {name:Str} {v:Value}
theorem get_map {expr:Bool} {Q:Value->Shared->Prop} (X:K.In s.heap) (I:JD s.heap x dx C mA) (hg:PySem.W.plainGet K C name = true) (hh:PySem.W.hasDictIn K C = true)
  (ha:PySem.W.findIn K (.ref C) name = some none) (hv:mA name = some v) (hv':PySem.W.handedIn v = true) (h:Q v { s with toks:=s.toks + 1 }) :
  wpAny (model prog w) A (getAttr (.ref x) name expr) Q E s:=by
 obtain ⟨od,J,hl⟩:=I.look
 exact PySem.W.get_value X J (PySem.W.plainGet_of hg).1 (PySem.W.findObj_own hh ha rfl (by rw [hl,hv])) hv' h
theorem Qc {pl:Sem Bool} {Q:Value × List Value->Shared->Prop} (X:K.In s.heap) (I:JD s.heap x dx C mA) (hg:PySem.W.plainGet K C name = true)
  (hf:PySem.W.findIn K (.ref C) name = some (some (.ref f))) (ht:PySem.W.isFn K (.ref f) = true) (hv:mA name = none) (h:Q (.ref f,[.ref x]) s) :
  wpAny (model prog w) A (getMethod (.ref x) name pl) Q E s:=by
 obtain ⟨od,J,hl⟩:=I.look
 exact PySem.W.method_fn X J (PySem.W.plainGet_of hg).1 (PySem.W.plainGet_of hg).2 hf (beq_iff_eq.mp ht) (by show (PySem.W.lookIn name od).map (·.isSome) = some false; rw [hl,hv]; rfl) h
theorem Wc {ns:List Str} {Q:Unit->Shared->Prop} (X:K.In s.heap) (I:JD s.heap x dx C mA)
  (hs:PySem.W.findIn K (.ref C) "__setattr__" = some (some (.builtin "object.__setattr__"))) (hp:PySem.W.plainOver K C = true) (ht:PySem.W.takerIn K C name = some none) (hh:PySem.W.hasDictIn K C = true)
  (hw:PySem.Within mA ns) (hsz:ns.length <= sizeLine)
  (h:∀ h',JD h' x dx C (fun y=>if y = name then some v else mA y)->Heap.SameBut dx s.heap h'->Q () { s with heap:=h',toks:=s.toks + 2 }) :
  wpAny (model prog w) A (setAttr (.ref x) name v) Q E s:=by
 obtain ⟨od,J,hl⟩:=I.look
 refine PySem.W.set_plain X J hs (PySem.W.osa_open (s:={ s with toks:=s.toks + 1 }) (r:=none) X J hp ht fun b=>?_)
 obtain ⟨cd,hc,hd'⟩:=PySem.W.any_some hh
 have hx:s.heap.get? x = some ⟨.ref C,some dx,.plain,#[]⟩:=I.obj
 refine wpAny_bind (wpAny_pure (wpAny_bind (wpAny_bind (wpAny_loadPart hx (wpAny_bind (PySem.W.Looks.here (s:={ s with toks:=s.toks + 1 }) (PySem.W.looks_clsIn X hc) ?_))))))
 rw [hd']
 refine wpAny_pure (a:=some dx) (wpAny_bind (wpAny_pure (wpAny_bind ?_)))
 refine wpAny_nsSet1 (s:={ s with toks:=s.toks + 1 }) I.ns fun h' hn2 hs2=>?_
 obtain ⟨oD,esD,epD,hoD,hdD,hcD⟩:=hn2.count (PySem.Within.cons name v hw)
 refine wpAny_bind (wpAny_lookBehind hoD (by rw [hdD]; exact pastItsLine_dict (aK hcD (by rw [List.length_cons]; omega))) ?_)
 exact wpAny_pure (h _ ⟨(hs2.2 _ (Ne.symm I.ne)).trans I.obj,hn2,I.ne⟩ hs2)
theorem O_ {R:Result->Shared->Prop} {vs:List Value} {kw:List (Str × Value)} (X:K.In s.heap) (hm:PySem.W.makesIn K C = true)
  (hi:PySem.W.findIn K (.ref C) "__init__" = some (some (.ref f))) (hf:PySem.W.typeIn K (.ref f) = some (.type "function"))
  (h:codeAny (model prog w) (A.under (.builtin "type.__call__" ⟨.ref C :: vs,kw⟩)) (.call (.ref f) ⟨.ref (s.heap.objs.size + 1) :: vs,kw⟩) (PySem.W.InitBack (s.heap.objs.size + 1) R)
   { s with heap:=(s.heap.push PySem.W.emptyDict).push (PySem.W.instObj C s.heap.objs.size) }) :
  codeAny (model prog w) A (.call (.ref C) ⟨vs,kw⟩) R s:=by
 obtain ⟨hh,g,d,t,os⟩:=s
 exact PySem.W.make_core (PySem.W.makes_of X hm) (PySem.W.looks_findIn X hi) (fun self=>PySem.W.bind_fn X self hf) (.inl rfl) h
end
noncomputable def ji (f:Str) (v:V):List (Str × V)->List (Str × V)
 | []=>[(f,v)]
 | (g,x) :: r=>if g = f then (g,v) :: r else (g,x) :: ji f v r
theorem wH (f g:Str) (v:V):∀ fs:List (Str × V),(ji f v fs).lookup g = if g = f then some v else fs.lookup g
 | []=>by
  show List.lookup g [(f,v)] = _
  by_cases h:g = f
  .have hb:(g == f) = true:=beq_iff_eq.mpr h
   simp only [List.lookup,hb,if_pos h]
  .have hb:(g == f) = false:=beq_eq_false_iff_ne.mpr h
   simp only [List.lookup,hb,if_neg h]
 | (k,x) :: r=>by
  have ih:=wH f g v r
  rw [show ji f v ((k,x) :: r) = (if k = f then (k,v) :: r else (k,x) :: ji f v r) from rfl]
  by_cases hk:k = f
  .rw [if_pos hk]
   by_cases h:g = k
   .have hb:(g == k) = true:=beq_iff_eq.mpr h
    simp only [List.lookup,hb,if_pos (h.trans hk)]
   .have hb:(g == k) = false:=beq_eq_false_iff_ne.mpr h
    simp only [List.lookup,hb,if_neg (fun e:g = f=>h (e.trans hk.symm))]
  .rw [if_neg hk]
   by_cases h:g = k
   .have hb:(g == k) = true:=beq_iff_eq.mpr h
    simp only [List.lookup,hb,if_neg (fun e:g = f=>hk (h.symm.trans e))]
   .have hb:(g == k) = false:=beq_eq_false_iff_ne.mpr h
    simp only [List.lookup,hb]
    exact ih
theorem vX (f:Str) (v:V):∀ fs:List (Str × V),f ∈ (ji f v fs).map (·.1)/\∀ g,g ∈ fs.map (·.1)->g ∈ (ji f v fs).map (·.1)
 | []=>⟨by simp [ji],fun g h=>by simp at h⟩
 | (k,x) :: r=>by
  obtain ⟨i1,i2⟩:=vX f v r
  rw [show ji f v ((k,x) :: r) = (if k = f then (k,v) :: r else (k,x) :: ji f v r) from rfl]
  by_cases hk:k = f
  .rw [if_pos hk]
   subst hk
   exact ⟨by simp,fun g h=>by simpa using h⟩
  .rw [if_neg hk]
   refine ⟨?_,fun g h=>?_⟩
   .rw [List.map_cons]
    exact aG _ i1
   .rw [List.map_cons] at h ⊢
    rcases List.mem_cons.mp h with e | e
    .exact List.mem_cons.mpr (.inl e)
    .exact aG _ (i2 g e)
theorem wD (f:Str) (v:V):∀ fs:List (Str × V),(ji f v fs).length <= fs.length + 1
 | []=>by simp [ji]
 | (k,x) :: r=>by
  have ih:=wD f v r
  rw [show ji f v ((k,x) :: r) = (if k = f then (k,v) :: r else (k,x) :: ji f v r) from rfl]
  by_cases hk:k = f
  .rw [if_pos hk,List.length_cons,List.length_cons]; omega
  .rw [if_neg hk,List.length_cons,List.length_cons]; omega
theorem qb.some_of {v:V} {o:Option Value} (r:qb (some v) o):∃ u,o = some u/\RelV v u:=by
 cases o with
 | none=>exact (show False from r).elim
 | some u=>exact ⟨u,rfl,r⟩
theorem qb.none_of {o:Option Value} (r:qb none o):o = none:=by
 cases o with
 | none=>rfl
 | some u=>exact (show False from r).elim
theorem BL {v:V} {u:Value} (r:RelV v u):PySem.W.handedIn u = true:=by
 cases v with
 | non=>cases (show u = Value.none from r); rfl
 | bl b=>cases (show u = Value.bool b from r); rfl
 | int i=>obtain ⟨t,e⟩:=(show ∃ t,u = Value.int i t from r); cases e; rfl
 | str x=>obtain ⟨t,e⟩:=(show ∃ t,u = Value.str x t from r); cases e; rfl
 | byt b=>obtain ⟨t,e⟩:=(show ∃ t,u = Value.bytes b t from r); cases e; rfl
 | flt b=>obtain ⟨t,e⟩:=(show ∃ t,u = Value.float b t from r); cases e; rfl
 | ref a=>cases (show u = Value.ref a from r); rfl
 | ty n=>cases (show u = Value.type n from r); rfl
section
variable {P:Program} {w:World} {H H':Hp} {h h':Heap} {a C dx:Addr} {fs fs':List (Str × V)}
theorem xq (hok:HOk P w H h) (e:H a = some (.ins C dx fs)):∃ mA,JD h a dx C mA/\(∀ f,qb (fs.lookup f) (mA f))/\PySem.Within mA (fs.map (·.1))/\fs.length <= 1000/\H dx = some (.own a):=by
 obtain ⟨d,z,ne,ob,mA,n,r,q⟩:=(show cQ P w H h a (.ins C dx fs) from hok a _ e)
 exact ⟨mA,⟨ob,n,ne⟩,r,q,z,d⟩
end
structure Cls (K:Frag) (C:Addr):Prop where
 pg:PySem.W.plainGet K C Str.empty = true
 hd:PySem.W.hasDictIn K C = true
 po:PySem.W.plainOver K C = true
 sa:PySem.W.findIn K (.ref C) "__setattr__" = some (some (.builtin "object.__setattr__"))
theorem Cls.get {K:Frag} {C:Addr} (c:Cls K C) (f:Str):PySem.W.plainGet K C f = true:=c.pg
noncomputable def b_ (K:Frag) (C:Addr) (f:Str):Prop:=PySem.W.findIn K (.ref C) f = some none
theorem b_.taker {K:Frag} {C:Addr} {f:Str} (n:b_ K C f):PySem.W.takerIn K C f = some none:=by
 unfold PySem.W.takerIn
 rw [show PySem.W.findIn K (.ref C) f = some none from n]
 rfl
structure Meth (K:Frag) (C:Addr) (m:Str) (f:Addr):Prop where
 at_:PySem.W.findIn K (.ref C) m = some (some (.ref f))
 fn:PySem.W.isFn K (.ref f) = true
 kp:PySem.W.keepIn K (.ref f) = true
section
variable {X:Cx} {pins:List (Addr × Obj)} {σ:St} {H:Hp} {s:Shared} {a C dx:Addr} {fs:List (Str × V)} {f:Str} {v:V} {A:Around} {E:Value->Shared->Prop}
theorem Jc {b:Bool} {Q:Value->Shared->Prop} (I:Inv X pins σ H s) (e:H a = some (.ins C dx fs)) (c:Cls X.K C) (n:b_ X.K C f) (l:fs.lookup f = some v)
  (h:∀ u s',Inv X pins σ H s'->RelV v u->Q u s'):wpAny (model X.prog X.w) A (getAttr (.ref a) f b) Q E s:=by
 obtain ⟨mA,O,r,_,_,_⟩:=xq I.hok e
 obtain ⟨u,hu,ru⟩:=qb.some_of (v:=v) (o:=mA f) (by rw [<- l]; exact r f)
 exact get_map I.kIn O (c.get f) c.hd n hu (BL ru) (h u _ (I.tok _) ru)
theorem zP {m:Str} {g:Addr} {pl:Sem Bool} {Q:Value × List Value->Shared->Prop} (I:Inv X pins σ H s) (e:H a = some (.ins C dx fs)) (c:Cls X.K C) (k:Meth X.K C m g) (l:fs.lookup m = none)
  (h:Q (.ref g,[.ref a]) s):wpAny (model X.prog X.w) A (getMethod (.ref a) m pl) Q E s:=by
 obtain ⟨mA,O,r,_,_,_⟩:=xq I.hok e
 have hn:mA m = none:=qb.none_of (by rw [<- l]; exact r m)
 exact Qc I.kIn O (c.get m) k.at_ k.fn hn h
theorem JB {y:V} {u:Value} {Q:Unit->Shared->Prop} (I:Inv X pins σ H s) (e:H a = some (.ins C dx fs)) (c:Cls X.K C) (n:b_ X.K C f) (hl:fs.length < 1000) (ry:RelV y u)
  (h:∀ s',Inv X pins σ (upd H a (.ins C dx (ji f y fs))) s'->Q () s'):wpAny (model X.prog X.w) A (setAttr (.ref a) f u) Q E s:=by
 obtain ⟨mA,O,r,wi,_,ho⟩:=xq I.hok e
 have hz:(fs.map (·.1)).length <= sizeLine:=by rw [ak,sizeLine_eq]; omega
 refine Wc I.kIn O c.sa c.po n.taker c.hd wi hz fun h' O' sb=>h _ ?_
 have hd:∃ o,h'.get? dx = some o:=let ⟨o,_,_,e',_⟩:=O'.ns; ⟨o,e'⟩
 refine I.write (x:=a) (e:=dx) (by rw [e]; exact True.intro) (.inr ho) (fun b q hb z=>(sb.2 b hb).trans z) hd ?_
 refine ⟨by rw [bG O.ne]; exact ho,?_,O.ne,O'.obj,_,O'.ns,fun g=>?_,fun g hg=>?_⟩
 .have:=wD f y fs; omega
 .show qb ((ji f y fs).lookup g) (if g = f then some u else mA g)
  rw [wH]
  by_cases q:g = f
  .rw [if_pos q,if_pos q]; exact ry
  .rw [if_neg q,if_neg q]; exact r g
 .by_cases q:g = f
  .rw [q]; exact (vX f y fs).1
  .refine (vX f y fs).2 g (wi g fun z=>hg ?_)
   show (if g = f then some u else mA g) = none
   rw [if_neg q]; exact z
theorem Inv.made (I:Inv X pins σ H s):Inv X pins σ (upd (upd H s.heap.objs.size (.own (s.heap.objs.size + 1))) (s.heap.objs.size + 1) (.ins C s.heap.objs.size []))
  { s with heap:=(s.heap.push PySem.W.emptyDict).push (PySem.W.instObj C s.heap.objs.size) }:=by
 have e1:(s.heap.push PySem.W.emptyDict).get? s.heap.objs.size = some PySem.W.emptyDict:=aW s.heap rfl
 have e2:((s.heap.push PySem.W.emptyDict).push (PySem.W.instObj C s.heap.objs.size)).get? (s.heap.objs.size + 1) = some (PySem.W.instObj C s.heap.objs.size):=by
  have:=aW (s.heap.push PySem.W.emptyDict) (o:=PySem.W.instObj C s.heap.objs.size) rfl
  rwa [Heap.size_push] at this
 have e3:(s.heap.push PySem.W.emptyDict).Ns s.heap.objs.size (fun _=>none):=⟨PySem.W.emptyDict,#[],_,e1,rfl,(fun e he=>absurd he (by simp)),fun _=>rfl⟩
 have I1:=I.laid (a:=s.heap.objs.size) (o:=.own (s.heap.objs.size + 1)) (h':=s.heap.push PySem.W.emptyDict) (t':=s.toks) (fun b u q=>aF _ q) (aD _) ⟨_,e1⟩
 refine I1.laid (a:=s.heap.objs.size + 1) (o:=.ins C s.heap.objs.size []) (t':=s.toks) (fun b u q=>aF _ q) (Nat.le_of_eq (Heap.size_push _ _)) ?_
 have ne:s.heap.objs.size ≠ s.heap.objs.size + 1:=aP (Nat.lt_succ_self _)
 refine ⟨by rw [bG ne,bD],aZ _,ne,e2,fun _=>none,(Heap.Ns1.of_empty e3).at fun o q=>aF _ q,fun _=>True.intro,fun y hy=>absurd rfl hy⟩
theorem KN {prog:Program} {w:World} {env:Env} {e:Expr} {f:Str} {pos:Pos} {s:Shared} {Q:Value->Shared->Prop} (hb:attributeBase e f env (eval e env) = eval e env)
  (h:wpAny (model prog w) A (eval e env) (fun o s₁=>wpAny (model prog w) A (getAttr o f true) Q E s₁) E s):wpAny (model prog w) A (eval (.Attribute e f pos) env) Q E s :=
 Attribute_any_ h (by rw [arm_eval_Attribute,hb])
end
noncomputable def Sy (K:Frag) (ta:TE) (f:Str):TE:=fun σ H Q=>ta σ H fun x H1=>∃ a C dx fs v,x = .ref a/\H1 a = some (.ins C dx fs)/\Cls K C/\b_ K C f/\fs.lookup f = some v/\Q v H1
noncomputable def Vi (K:Frag) (ta tv:TE) (f:Str):TS:=fun D σ H=>tv σ H fun y H1=>ta σ H1 fun x H2=>∃ a C dx fs,x = .ref a/\H2 a = some (.ins C dx fs)/\Cls K C/\b_ K C f/\fs.length < 1000 /\
 D.nx σ (upd H2 a (.ins C dx (ji f y fs)))
section
variable {X:Cx} {o e value:Expr} {f:Str} {pos pos' tpos:Pos} {ta tv:TE}
theorem pK (he:PE X e ta) (hb:attributeBase e f X.env (eval e X.env) = eval e X.env):PE X (.Attribute e f pos) (Sy X.K ta f):=by
 intro pins s σ H Q I h
 refine KN hb (thn (he pins s σ H _ I h) fun u s1 h=>?_)
 obtain ⟨x,H1,I1,rx,a,C,dx,fs,v,rfl,ea,c,n,l,q⟩:=h
 obtain rfl:u = Value.ref a:=rx
 exact Jc I1 ea c n l fun u' s2 I2 ru=>⟨v,H1,I2,ru,q⟩
theorem qK (ha:PE X o ta) (hv:PE X value tv) (hs:swapsWith value (some (.Attribute o f pos')) pos.line X.env = pure false):PS X (.Assign [.Attribute o f pos'] value pos) (Vi X.K ta tv f):=by
 intro pins s σ H D I h
 refine plainObj_wpAny_Assign_Attribute (thn (hv pins s σ H _ I h) fun u s1 ⟨y,H1,I1,ry,q⟩=>thn (ha pins s1 σ H1 _ I1 q) fun ov s2 h=>?_) hs
 obtain ⟨x,H2,I2,rx,a,C,dx,fs,rfl,ea,c,n,l,q2⟩:=h
 obtain rfl:ov = Value.ref a:=rx
 exact JB I2 ea c n l ry fun s3 I3=>⟨σ,_,I3,q2⟩
end
section
variable {X:Cx} {pins:List (Addr × Obj)} {σ:St} {H:Hp} {s:Shared} {A:Around} {E:Value->Shared->Prop} {Q:Value->Shared->Prop} {c:Value} {b:Bool}
inductive wg (K:Frag) (H:Hp):V->Value->Prop where
 | non:wg K H .non (.type "NoneType")
 | bl (x:Bool):wg K H (.bl x) (.type "bool")
 | int (i:Int):wg K H (.int i) (.type "int")
 | str (x:Str):wg K H (.str x) (.type "str")
 | flt (x:UInt64):wg K H (.flt x) (.type "float")
 | lst {a:Addr} {xs:List V} (e:H a = some (.lst xs)):wg K H (.ref a) (.type "list")
 | frz {a:Addr} {o:Obj} {xs:List V} (e:H a = some (.frz o (.lst xs))):wg K H (.ref a) (.type "list")
 | tup {a:Addr} {xs:List V} (e:H a = some (.tup xs)):wg K H (.ref a) (.type "tuple")
 | dK {a:Addr} {kvs:List (Key × V)} (e:H a = some (.dK kvs)):wg K H (.ref a) (.type "dict")
 | ins {a C dx:Addr} {fs:List (Str × V)} (e:H a = some (.ins C dx fs)) (cl:Cls K C) (ha:PySem.W.findIn K (.ref C) "__class__" = some (some (.builtin "object.__class__")))
   (hn:PySem.W.specialIn K (.builtin "object.__class__") "__get__" = some (some (.builtin "getset_descriptor.__get__"))) (htk:PySem.W.takesIn K (.builtin "object.__class__") = some true)
   (hm:PySem.W.mroIn K C (.type "object") = some true):wg K H (.ref a) (.ref C)
theorem Mu {x:V} {u t:Value} (I:Inv X pins σ H s) (rx:RelV x u) (ty:wg X.K H x t) (e:PySem.W.kitOne X.K t c = some b) (h:∀ tk,Q (.bool b) { s with toks:=tk }) :
  wpAny (model X.prog X.w) A (call (.builtin "isinstance") [u,c]) Q E s:=by
 cases ty with
 | non=>cases (show u = Value.none from rx); exact PySem.W.kia_one PySem.W.kitx_none I.kIn True.intro e (fun z=>nomatch z) h
 | bl y=>cases (show u = Value.bool y from rx); exact PySem.W.kia_one PySem.W.kitx_bool I.kIn True.intro e (fun z=>nomatch z) h
 | int i=>obtain ⟨t,q⟩:=(show ∃ t,u = Value.int i t from rx); cases q; exact PySem.W.kia_one PySem.W.kitx_int I.kIn True.intro e (fun z=>nomatch z) h
 | str y=>obtain ⟨t,q⟩:=(show ∃ t,u = Value.str y t from rx); cases q; exact PySem.W.kia_one PySem.W.kitx_str I.kIn True.intro e (fun z=>nomatch z) h
 | flt y=>obtain ⟨t,q⟩:=(show ∃ t,u = Value.float y t from rx); cases q; exact PySem.W.kia_one PySem.W.kitx_float I.kIn True.intro e (fun z=>nomatch z) h
 | @lst a xs ea =>
  cases (show u = Value.ref a from rx)
  obtain ⟨_,_,n,_,h1⟩:=(show cQ X.prog X.w H s.heap a (.lst xs) from I.hok a _ ea)
  exact PySem.W.kia_one PySem.W.kitx_list I.kIn ⟨_,h1,rfl⟩ e (fun z=>nomatch z) h
 | @frz a ob xs ea =>
  cases (show u = Value.ref a from rx)
  obtain ⟨_,_,_,n,_,h1⟩:=(show cQ X.prog X.w H s.heap a (.frz ob (.lst xs)) from I.hok a _ ea)
  exact PySem.W.kia_one PySem.W.kitx_list I.kIn ⟨_,h1,rfl⟩ e (fun z=>nomatch z) h
 | @tup a xs ea =>
  cases (show u = Value.ref a from rx)
  obtain ⟨_,_,_,p⟩:=(show cQ X.prog X.w H s.heap a (.tup xs) from I.hok a _ ea)
  obtain ⟨o,h1,h2,_⟩:=p
  exact PySem.W.kia_one PySem.W.kitx_tuple I.kIn ⟨o,h1,h2⟩ e (fun z=>nomatch z) h
 | @dK a kvs ea =>
  cases (show u = Value.ref a from rx)
  obtain ⟨_,_,vs,_,p⟩:=(show cQ X.prog X.w H s.heap a (.dK kvs) from I.hok a _ ea)
  obtain ⟨o,es,ep,h1,h2,_⟩:=p
  exact PySem.W.kia_one PySem.W.kitx_dict I.kIn ⟨o,h1,h2.1⟩ e (fun z=>nomatch z) h
 | @ins a C dx fs ea cl ha hn htk hm =>
  cases (show u = Value.ref a from rx)
  obtain ⟨mA,O,_⟩:=xq I.hok ea
  obtain ⟨od,J,_⟩:=O.look
  exact PySem.W.kia_one (PySem.W.kitx_own (cl.get _) cl.hd ha hn htk hm) I.kIn J e (fun z=>nomatch z) h
end
end L2
namespace L2
open PySem PySem.Spec PyProof.Rows
structure fQ (k:Nat) (A:Around):Prop where
 hd:A.handled = none
 dp:A.depth + 3 * k + 5 < recursionLimit
 un:A.units + 16 * k + 200 < cLine
theorem fQ.mono {j k:Nat} {A:Around} (r:fQ k A) (h:j <= k):fQ j A:=⟨r.hd,by have:=r.dp; omega,by have:=r.un; omega⟩
theorem fQ.deeper {k:Nat} {A:Around} (r:fQ (k + 1) A) (env:Env):fQ k (A.deeper env) :=
 ⟨r.hd,by have:=r.dp; show A.depth + 1 + 3 * k + 5 < _; omega,by have:=r.un; show A.units + 3 + 16 * k + 200 < _; omega⟩
theorem Jt {A:Around} {C:Addr} {us:List Value} {kw:List (Str × Value)} : (A.under (.builtin "type.__call__" ⟨.ref C :: us,kw⟩)).depth = A.depth + 1:=by
 first | rfl | simp [Around.under,Code.weight,Code.isCreation,Code.isGuard,Code.isCaller,Code.frames,Code.isFrame,guardIds]
theorem JH {A:Around} {C:Addr} {us:List Value} {kw:List (Str × Value)} : (A.under (.builtin "type.__call__" ⟨.ref C :: us,kw⟩)).units = A.units + 1:=by
 first | rfl | simp [Around.under,Code.cUnits,Code.frames,Code.isFrame]
theorem fQ.make {k:Nat} {A:Around} (r:fQ (k + 1) A) (C:Addr) (us:List Value) (kw:List (Str × Value)):fQ k (A.under (.builtin "type.__call__" ⟨.ref C :: us,kw⟩)) :=
 ⟨r.hd,by have:=r.dp; rw [Jt]; omega,by have:=r.un; rw [JH]; omega⟩
theorem fQ.depth {k:Nat} {A:Around} (r:fQ k A):A.depth < recursionLimit:=by have:=r.dp; omega
theorem fQ.units {k:Nat} {A:Around} (r:fQ k A):A.units + 64 < cLine:=by have:=r.un; omega
noncomputable def sX:TA:=fun _ H Q=>Q [] H
noncomputable def mU (ta:TE) (tr:TA):TA:=fun σ H Q=>ta σ H fun x H1=>tr σ H1 fun xs H2=>Q (x :: xs) H2
section
variable {X:Cx} {e:Expr} {es:List Expr} {te:TE} {t:TA} {pos:Pos}
theorem bC:PA X [] sX:=fun _ _ _ _ H Q I h=>Calls.spliced_nil ⟨[],H,I,.nil,h⟩
theorem bA (ha:PE X e te) (hr:PA X es t) (hs:starEach (e :: es) X.env = (false,eval e X.env) :: starEach es X.env:=by rfl):PA X (e :: es) (mU te t):=by
 intro pos pins s σ H Q I h
 rw [hs]
 show wpAny _ _ (spliced ((false,eval e X.env) :: backTo pos (starEach es X.env))) _ _ s
 refine Calls.spliced_cons (thn (ha pins s σ H _ I h) fun u s1 ⟨x,H1,I1,r1,q1⟩=>?_)
 exact thn (hr pos pins s1 σ H1 _ I1 q1) fun us s2 ⟨xs,H2,I2,r2,q2⟩=>⟨x :: xs,H2,I2,.cons r1 r2,q2⟩
noncomputable def Vk (t:TA):TE:=fun σ H Q=>t σ H fun xs H1=>xs.length <= sizeLine/\∀ p,H1 p = none->Q (.ref p) (upd H1 p (.tup xs))
noncomputable def Qj (t:TA):TE:=fun σ H Q=>t σ H fun xs H1=>xs.length <= sizeLine/\∀ p,H1 p = none->Q (.ref p) (upd H1 p (.lst xs))
theorem cU {x1} (h:PA X es t):PE X (.Tuple es x1 pos) (Vk t):=by
 intro pins s σ H Q I hq
 refine wpAny_Tuple_spliced (thn (h pos pins s σ H _ I hq) fun us s1 ⟨xs,H1,I1,r,z,q⟩=>⟨by rw [<- r.length]; exact z,?_⟩)
 have hf:H1 s1.heap.objs.size = none:=I1.hok.fresh (aD _)
 refine ⟨.ref s1.heap.objs.size,upd H1 s1.heap.objs.size (.tup xs),I1.laid (t':=s1.toks) (fun b u e=>aF _ e) (aD _) ?_,rfl,q _ hf⟩
 exact ⟨z,us,r,⟨_,aW _ rfl,rfl,_,rfl⟩⟩
theorem iD (h:PA X es t):PE X (.List es pos) (Qj t):=by
 intro pins s σ H Q I hq
 refine wpAny_List_spliced (thn (h pos pins s σ H _ I hq) fun us s1 ⟨xs,H1,I1,r,z,q⟩=>⟨by rw [<- r.length]; exact z,?_⟩)
 have hf:H1 s1.heap.objs.size = none:=I1.hok.fresh (aD _)
 refine ⟨.ref s1.heap.objs.size,upd H1 s1.heap.objs.size (.lst xs),I1.laid (t':=s1.toks) (fun b u e=>aF _ e) (aD _) ?_,rfl,q _ hf⟩
 exact ⟨z,us,0,r,aW _ rfl⟩
end
noncomputable abbrev Sp:=List V->Hp->VK->XK->Prop
noncomputable abbrev CXT:=List Env->Hp->Shared->XK->Value->Shared->Prop
structure Iz (P:Program) (w:World) (K:Frag) (mg:Str->Option Value) (base:Heap) (A:Around) (outer:List Env) (s:Shared) (H:Hp):Prop where
 frames:A.frames = some outer
 mod:Mod K mg base
 bs:∀ b o,base.get? b = some o->s.heap.get? b = some o/\H b = none
 bsz:base.objs.size <= s.heap.objs.size
 funs:s.heap.FunFrames base outer
 frf:∀ b ∈ frs outer,H b = none
 hok:HOk P w H s.heap
 bare:AllBare s.gens
noncomputable def CE (outer:List Env) (P:Program) (w:World) (H:Hp) (s:Shared) (Q:VK) (u:Value) (s':Shared):Prop :=
 ∃ v H',s'.os = s.os/\AllBare s'.gens/\Un (frs outer) [] H H' s.heap s'.heap/\HOk P w H' s'.heap/\RelV v u/\Q v H'
noncomputable def CR (CX:CXT) (outer:List Env) (P:Program) (w:World) (H:Hp) (s:Shared) (Q:VK) (E:XK) (r:Result) (s':Shared):Prop :=
 match r with
 | .ok (.ret u)=>CE outer P w H s Q u s'
 | .ok _=>False
 | .error e=>CX outer H s E e s'
structure cB (P:Program) (w:World) (K:Frag) (mg:Str->Option Value) (base:Heap) (CX:CXT) (k:Nat) (f:Addr) (fd:FuncData) (ps:List Str) (sp:Sp):Prop where
 len:∀ vs H Q E,sp vs H Q E->vs.length = ps.length
 run:∀ (A:Around) (outer:List Env) (s:Shared) (H:Hp) (args:Args) (us:List Value) (vs:List V) (Q:VK) (E:XK),fQ k A->Iz P w K mg base A outer s H->BindsTo s fd args (ps.zip us)->Vals vs us->sp vs H Q E ->
  codeAny (model P w) A (.call (.ref f) args) (CR CX outer P w H s Q E) s
theorem Iz.make {P:Program} {w:World} {K:Frag} {mg:Str->Option Value} {base:Heap} {A:Around} {outer:List Env} {s:Shared} {H:Hp} (e:Iz P w K mg base A outer s H) (C:Addr) (us:List Value) (kw:List (Str × Value)) :
  Iz P w K mg base (A.under (.builtin "type.__call__" ⟨.ref C :: us,kw⟩)) outer s H:=⟨by first | exact e.frames | (simpa [Around.under,Code.envs,Code.isFrame,pushEnvs] using e.frames),e.mod,e.bs,e.bsz,e.funs,e.frf,e.hok,e.bare⟩
section
variable {X:Cx} {pins:List (Addr × Obj)} {σ:St} {H:Hp} {s s':Shared}
theorem Inv.env0 (I:Inv X pins σ H s):Iz X.prog X.w X.K X.mg X.base X.A X.stack s H :=
 ⟨I.ok.frames,I.ok.mod,I.bs,aK I.ok.bsz I.sz,I.stack,I.stkFree,I.hok,I.bare⟩
theorem Inv.after {Q:VK} {u:Value} (I:Inv X pins σ H s) (h:CE X.stack X.prog X.w H s Q u s'):EP X pins σ Q u s':=by
 obtain ⟨v,H',os,bare,un,hok,r,q⟩:=h
 obtain ⟨hh,g,d,t,os'⟩:=s'
 obtain rfl:os' = s.os:=os
 exact ⟨v,H',I.call (h':=hh) (g':=g) (d':=d) (t':=t) (ch:=[]) un hok bare (fun b z=>absurd z (by simp)),r,q⟩
end
noncomputable def aaC (sp:Sp) (dvs:List V) (E:XK) (t:TA):TE:=fun σ H Q=>t σ H fun vs H1=>sp (vs ++ dvs) H1 Q E
noncomputable def Wz (C:Addr) (m:Str) (sp:Sp) (dvs:List V) (E:XK) (ta:TE) (t:TA):TE:=fun σ H Q=>ta σ H fun x H1=>∃ a dx fs,x = .ref a/\H1 a = some (.ins C dx fs)/\fs.lookup m = none /\
 t σ H1 fun vs H2=>sp (x :: (vs ++ dvs)) H2 Q E
noncomputable def Binds (K:Frag) (fd:FuncData) (ps:List Str) (ds:List Value):Prop :=
 ∀ (s:Shared) (us:List Value),K.In s.heap->(us ++ ds).length = ps.length->BindsTo s fd ⟨us,[]⟩ (ps.zip (us ++ ds))
theorem Binds.all {K:Frag} {fd:FuncData} {ps:List Str} (h:∀ us:List Value,us.length = ps.length->bindArgs fd ⟨us,[]⟩ = pure (ps.zip us)):Binds K fd ps []:=fun s us _ hl=>by
 rw [List.append_nil] at hl ⊢
 exact .of_eq (h us hl)
noncomputable def Passes (CX:CXT) (X:Cx) (E:XK):Prop:=∀ (pins:List (Addr × Obj)) (σ:St) (H:Hp) (s:Shared) (e:Value) (s':Shared),Inv X pins σ H s->CX X.stack H s E e s'->X.xe e s'
section
variable {X:Cx} {CX:CXT} {k:Nat} {f C:Addr} {fd:FuncData} {ps:List Str} {sp:Sp} {dvs:List V} {ds:List Value} {E:XK} {x m:Str} {p pos apos:Pos} {e o:Expr} {es:List Expr} {ta:TE} {t:TA}
theorem Jj {pins:List (Addr × Obj)} {σ:St} {H:Hp} {s:Shared} {Q:VK} {us:List Value} {vs:List V} (F:cB X.prog X.w X.K X.mg X.base CX k f fd ps sp) (hr:fQ k X.A) (hb:Binds X.K fd ps ds) (hd:Vals dvs ds) (hx:Passes CX X E)
  (I:Inv X pins σ H s) (r:Vals vs us) (h:sp (vs ++ dvs) H Q E):wpAny (model X.prog X.w) X.A (call (.ref f) us) (EP X pins σ Q) X.xe s:=by
 have r2:Vals (vs ++ dvs) (us ++ ds):=r.append hd
 have hl:(us ++ ds).length = ps.length:=by rw [<- r2.length]; exact F.len _ _ _ _ h
 refine wpAny_call (codeAny_mono (F.run X.A X.stack s H ⟨us,[]⟩ (us ++ ds) (vs ++ dvs) Q E hr I.env0 (hb s us I.kIn hl) r2 h) fun r s' hq=>?_)
 cases r with
 | error e=>exact hx pins σ H s e s' I hq
 | ok fl =>
  cases fl with
  | ret u=>exact I.after hq
  | next=>exact False.elim hq
  | brk=>exact False.elim hq
  | cont=>exact False.elim hq
theorem Vz (F:cB X.prog X.w X.K X.mg X.base CX k f fd ps sp) (hr:fQ k X.A) (hg:Gl X x) (hm:X.mg x = some (.ref f)) (hk:PySem.W.keepIn X.K (.ref f) = true) (hb:Binds X.K fd ps ds) (hd:Vals dvs ds) (hx:Passes CX X E)
  (ha:PA X (e :: es) t) (hdb:(x == ("__debug__" : Str)) = false:=by decide) (he:starEach (e :: es) X.env = (false,eval e X.env) :: starEach es X.env:=by rfl) (hpl:(backTo pos (starEach es X.env)).any (·.1) = false:=by rfl) :
  PE X (.Call (.Name x p) (e :: es) [] pos) (aaC sp dvs E t):=by
 intro pins s σ H Q I h
 refine wpAny_Call_Name_kw (lH I hg hm ?_ hdb)
 refine PySem.W.callWith_K (h₀:=X.base) I.ok.mod.kin hk (thn (ha pos pins s σ H _ I h) fun us s1 ⟨vs,H1,I1,r,q⟩=>⟨I1.kIn,?_⟩) he hpl
 exact Jj F hr hb hd hx I1 r q
theorem Ur {pl:Sem Bool} (he:PE X o ta) (c:Cls X.K C) (hm:Meth X.K C m f) (F:cB X.prog X.w X.K X.mg X.base CX k f fd ps sp) (hr:fQ k X.A) (hb:Binds X.K fd ps ds) (hd:Vals dvs ds) (hx:Passes CX X E) (ha:PA X (e :: es) t)
  (hst:starEach (e :: es) X.env = (false,eval e X.env) :: starEach es X.env:=by rfl) (hpl:(backTo pos (starEach es X.env)).any (·.1) = false:=by rfl)
  (ht:eval (.Call (.Attribute o m apos) (e :: es) [] pos) X.env = (do
   let ov <- eval o X.env
   standAt apos.atName
   let (f,first) <- holding [ov] (getMethod ov m pl)
   callWith pos f first (backTo pos (starEach (e :: es) X.env)) (backToKw pos (keywordEach [] X.env))):=by rfl) :
  PE X (.Call (.Attribute o m apos) (e :: es) [] pos) (Wz C m sp dvs E ta t):=by
 intro pins s σ H Q I h
 refine PySem.W.methodCall_KW (pl:=pl) (thn (he pins s σ H _ I h) fun u s1 ⟨x,H1,I1,rx,a,dx,fs,ex,ea,l,q⟩=>?_) ht
 subst ex
 obtain rfl:u = Value.ref a:=rx
 refine zP I1 ea c hm l ?_
 refine PySem.W.callWith_K (first:=[.ref a]) (h₀:=X.base) I.ok.mod.kin hm.kp (thn (ha pos pins s1 σ H1 _ I1 q) fun us s2 ⟨vs,H2,I2,r,q2⟩=>⟨I2.kIn,?_⟩) hst hpl
 exact Jj (us:=.ref a :: us) (vs:=.ref a :: vs) F hr hb hd hx I2 (.cons rfl r) q2
theorem Qn {pl:Sem Bool} (he:PE X o ta) (c:Cls X.K C) (hm:Meth X.K C m f) (F:cB X.prog X.w X.K X.mg X.base CX k f fd ps sp) (hr:fQ k X.A) (hb:Binds X.K fd ps ds) (hd:Vals dvs ds) (hx:Passes CX X E)
  (ht:eval (.Call (.Attribute o m apos) [] [] pos) X.env = (do
   let ov <- eval o X.env
   standAt apos.atName
   let (f,first) <- holding [ov] (getMethod ov m pl)
   callWith pos f first (backTo pos (starEach [] X.env)) (backToKw pos (keywordEach [] X.env))):=by rfl) :
  PE X (.Call (.Attribute o m apos) [] [] pos) (Wz C m sp dvs E ta sX):=by
 intro pins s σ H Q I h
 refine PySem.W.methodCall_KW (pl:=pl) (thn (he pins s σ H _ I h) fun u s1 ⟨x,H1,I1,rx,a,dx,fs,ex,ea,l,q⟩=>?_) ht
 subst ex
 obtain rfl:u = Value.ref a:=rx
 refine zP I1 ea c hm l ?_
 exact PySem.W.callWith_K0 (first:=[.ref a]) I1.kIn hm.kp (Jj (us:=[.ref a]) (vs:=[.ref a]) F hr hb hd hx I1 (.cons rfl .nil) q)
structure Mk (K:Frag) (C f:Addr):Prop where
 makes:PySem.W.makesIn K C = true
 init:PySem.W.findIn K (.ref C) "__init__" = some (some (.ref f))
 fn:PySem.W.isFn K (.ref f) = true
 kp:PySem.W.keepIn K (.ref C) = true
end
section
variable {X:Cx} {CX:CXT} {k:Nat} {f C:Addr} {fd:FuncData} {ps ks:List Str} {sp:Sp} {E:XK} {x m:Str} {p pos apos kpos:Pos} {e o:Expr} {es:List Expr} {kws:List Keyword} {te ta:TE} {t tk:TA} {nm:Option Str}
variable {g:List Value->List Value->List Value} {gV:List V->List V->List V}
end
structure bT (N P:List Str) (sc:Scope):Prop where
 kind:sc.kind = .function
 co:sc.isCoroutine = false
 gen:sc.isGenerator = false
 nd:N.Nodup
 pre:N.take P.length = P
 par:∀ x ∈ P,sc.names.lookup x = some .local\/sc.names.lookup x = some .cell
 nofree:∀ y ∈ sc.names,y.2 ≠ .free
theorem B_ {kindOf:Str->Option NameKind} {x:Str} : ∀ {binds:List (Str × Value)} {m:Str->Option Value},(∀ v,(x,v) ∉ binds)->bindL kindOf binds m x = m x
 | [],_,_=>rfl
 | (n,v) :: r,m,h=>by
  unfold bindL
  rw [B_ fun w hw=>h w (aG _ hw)]
  split
  .have:x ≠ n:=by rintro rfl; exact h v aM
   simp [this]
  .rfl
theorem Cm {kindOf:Str->Option NameKind} {x:Str} : ∀ {binds:List (Str × Value)} {m:Str->Option Value},(∀ v,(x,v) ∉ binds)->bindC kindOf binds m x = m x
 | [],_,_=>rfl
 | (n,v) :: r,m,h=>by
  unfold bindC
  rw [Cm fun w hw=>h w (aG _ hw)]
  split
  .rfl
  .have:x ≠ n:=by rintro rfl; exact h v aM
   simp [this]
theorem Bu {kindOf:Str->Option NameKind} {x:Str} {v:Value} : ∀ {P:List Str} {vs:List Value} {i:Nat} {m:Str->Option Value},P.Nodup->P[i]? = some x->vs[i]? = some v->kindOf x = some .local ->
  bindL kindOf (P.zip vs) m x = some v
 | [],_,_,_,_,h,_,_=>by simp at h
 | _ :: _,[],_,_,_,_,h,_=>by simp at h
 | p :: P,w :: vs,0,m,nd,h1,h2,hk=>by
  simp at h1 h2; subst h1; subst h2
  show bindL kindOf ((p,w) :: P.zip vs) m p = _
  unfold bindL
  rw [B_ fun v hv=>(List.nodup_cons.mp nd).1 (List.of_mem_zip hv).1,if_pos hk]
  simp
 | p :: P,w :: vs,i + 1,m,nd,h1,h2,hk=>by
  show bindL kindOf ((p,w) :: P.zip vs) m x = _
  unfold bindL
  exact Bu (i:=i) (List.nodup_cons.mp nd).2 (by simpa using h1) (by simpa using h2) hk
theorem BR {kindOf:Str->Option NameKind} {x:Str} {v:Value} : ∀ {P:List Str} {vs:List Value} {i:Nat} {m:Str->Option Value},P.Nodup->P[i]? = some x->vs[i]? = some v->kindOf x ≠ some .local ->
  bindC kindOf (P.zip vs) m x = some v
 | [],_,_,_,_,h,_,_=>by simp at h
 | _ :: _,[],_,_,_,_,h,_=>by simp at h
 | p :: P,w :: vs,0,m,nd,h1,h2,hk=>by
  simp at h1 h2; subst h1; subst h2
  show bindC kindOf ((p,w) :: P.zip vs) m p = _
  unfold bindC
  rw [Cm fun v hv=>(List.nodup_cons.mp nd).1 (List.of_mem_zip hv).1,if_neg hk]
  simp
 | p :: P,w :: vs,i + 1,m,nd,h1,h2,hk=>by
  show bindC kindOf ((p,w) :: P.zip vs) m x = _
  unfold bindC
  exact BR (i:=i) (List.nodup_cons.mp nd).2 (by simpa using h1) (by simpa using h2) hk
noncomputable def start (N:List Str) (vs:List V):St:=vs.map some ++ List.replicate (N.length - vs.length) none
noncomputable def yX (CX:CXT) (P:Program) (w:World) (K:Frag) (mg:Str->Option Value) (base:Heap) (N:List Str) (qual:Str) (scope:Scope) (f:Addr) (cd:Value) (A:Around) (outer:List Env) (s:Shared) (H:Hp) (E:XK):Cx where
 prog:=P
 w:=w
 K:=K
 mg:=mg
 base:=base
 A:=A.deeper (envOfC qual scope s.heap.objs.size f cd)
 N:=N
 s₀:=s
 H₀:=H
 env:=envOfC qual scope s.heap.objs.size f cd
 outer:=outer
 stack:=envOfC qual scope s.heap.objs.size f cd :: outer
 ex:=[]
 calm:=true
 fn:=fun _=>true
 pn:=[]
 xe:=fun e s'=>wpAny (model P w) (A.deeper (envOfC qual scope s.heap.objs.size f cd)) (leaving (envOfC qual scope s.heap.objs.size f cd) e) (fun _ s''=>CX outer H s E e s'') (fun e' s''=>CX outer H s E e' s'') s'
theorem G9 {sc:Scope} {n:Nat} {x:Str} (h:sc.names.lookup x = some .cell):∃ c,(cellsFrom n sc.names []).lookup x = some c:=by
 have q:=PySem.W.cellsFrom_some sc.names n [] (.inl h)
 exact Option.isSome_iff_exists.mp q
theorem M8 {CX:CXT} {P:Program} {w:World} {K:Frag} {mg:Str->Option Value} {base:Heap} {N ps:List Str} {qual:Str} {scope:Scope} {f:Addr} {cd:Value} {A:Around} {outer:List Env} {s s1:Shared} {H:Hp} {E:XK} {us:List Value} {vs:List V}
  (S:bT N ps scope) (hd:A.handled = none) (e0:Iz P w K mg base A outer s H) (hl:vs.length = ps.length) (r:Vals vs us)
  (x:InCallC s s.heap.objs.size (bindL (envOfC qual scope s.heap.objs.size f cd).kindOf (ps.zip us) fun _=>none) (cellsFrom (s.heap.objs.size + 1) scope.names []) (bindC (envOfC qual scope s.heap.objs.size f cd).kindOf (ps.zip us) fun _=>none) s1) :
  Inv (yX CX P w K mg base N qual scope f cd A outer s H E) [] (start N vs) H s1:=by
 have hpl:ps.length <= N.length:=by have:=congrArg List.length S.pre; rw [aY] at this; omega
 obtain ⟨h1,tk,rfl,hk⟩:=x.done
 have noA:∀ b:Addr,b ∉ (yX CX P w K mg base N qual scope f cd A outer s H E).ex:=fun b z=>absurd (show b ∈ ([] : List Addr) from z) (by simp)
 refine ⟨⟨e0.mod,S.kind,rfl,rfl,aD _,fun y z c h1 h2=>?_,fun y hy=>?_,fun y c _ h=>?_,fun _=>hd,Around.frames_deeper e0.frames,.inr ⟨rfl,rfl⟩,fun b z=>absurd z (noA b),e0.bs,e0.bsz,fun b _ _=>noA b,fun b z=>absurd z (noA b),e0.funs,e0.frf⟩,
  rfl,e0.bare,Un.kept hk,⟨_,x.toInCall.ns,fun i y v h1 h2 h3=>?_⟩,fun y c h=>⟨_,x.cell y c h⟩,e0.hok.fresh (aD _),fun y c h=>?_,fun p hp=>absurd (show p ∈ ([] : List (Addr × Obj)) from hp) (by simp),e0.hok.kept hk,?_⟩
 .exact name_of_addr x.apart (PySem.mem_of_lookup h1) (PySem.mem_of_lookup h2)
 .have hy:scope.names.lookup y = some .cell\/scope.names.lookup y = some .free:=hy
  rcases hy with hy | hy
  .exact G9 hy
  .exact absurd rfl (S.nofree _ (PySem.mem_of_lookup hy))
 .exact Nat.le_of_lt (x.above y c (PySem.mem_of_lookup h))
 .have hi:i < vs.length:=by
   unfold start at h2
   by_cases hi:i < vs.length
   .exact hi
   .rw [aB (by simpa using hi)] at h2
    rw [List.getElem?_replicate] at h2
    split at h2 <;> cases h2
  have ha:vs[i]? = some v:=by
   unfold start at h2
   rw [aC (by simpa using hi),aq] at h2
   cases e:vs[i]? with
   | none=>rw [e] at h2; cases h2
   | some a=>rw [e] at h2; cases h2; rfl
  obtain ⟨u,hu,rv⟩:=r.get ha
  have hp:ps[i]? = some y:=by
   rw [<- S.pre,List.getElem?_take_of_lt (by omega)]; exact h1
  have ndP:ps.Nodup:=by rw [<- S.pre]; exact S.nd.sublist (List.take_sublist _ _)
  refine ⟨u,rv,?_⟩
  rcases S.par y (aA hp) with k | k
  .exact .inl ⟨k,Bu ndP hp hu k⟩
  .obtain ⟨c,e⟩:=G9 (n:=s.heap.objs.size + 1) k
   refine .inr ⟨.inl k,c,e,?_⟩
   have q:=x.cell y c e
   rw [BR ndP hp hu (by show scope.names.lookup y ≠ _; rw [k]; decide)] at q
   exact q
 .exact e0.hok.fresh (Nat.le_of_lt (x.above y c (PySem.mem_of_lookup h)))
 .unfold start
  show _ = N.length
  rw [au,ak,aL]
  omega
theorem W0 {CX:CXT} {P:Program} {w:World} {K:Frag} {mg:Str->Option Value} {base:Heap} {k:Nat} {f:Addr} {name qual:Str} {params:Arguments} {body:List Stmt} {scope:Scope} {dV kV doc pm cdv ct oc:Value} {an od:Option Addr}
  {osl:Array (Option Value)} {N ps:List Str} {sp:Sp} (lk:K.lookup f = some ⟨oc,od,.func (PySem.W.fnOf name qual params body scope dV kV doc pm an cdv ct),osl⟩) (hcd:PySem.W.codeIn K cdv qual = true) (S:bT N ps scope)
  (len:∀ vs H Q E,sp vs H Q E->vs.length = ps.length)
  (hbody:∀ (A:Around) (outer:List Env) (s:Shared) (H:Hp) (vs:List V) (Q:VK) (E:XK),fQ k (A.deeper (envOfC qual scope s.heap.objs.size f cdv))->sp vs H Q E ->
   ∃ t,PSs (yX CX P w K mg base N qual scope f cdv A outer s H E) body t/\t { nx:=fun _ H'=>Q .non H',rt:=Q } (start N vs) H) :
  cB P w K mg base CX (k + 1) f (PySem.W.fnOf name qual params body scope dV kV doc pm an cdv ct) ps sp:=by
 refine ⟨len,fun A outer s H args us vs Q E hr e0 hb r hsp=>?_⟩
 have hl:=len _ _ _ _ hsp
 have KX:K.In s.heap:=e0.mod.kin.keeps fun b o e=>(e0.bs b o e).1
 have lim:s.heap.NoLimit:=e0.mod.nolimit.keeps fun b o e=>(e0.bs b o e).1
 have hkind:∀ y ∈ ps.zip us,scope.names.lookup y.1 = some .local\/(scope.names.lookup y.1 = some .cell/\((cellsFrom (s.heap.objs.size + 1) scope.names []).lookup y.1).isSome = true):=fun ⟨n,v⟩ hy=>by
  rcases S.par n (List.of_mem_zip hy).1 with q | q
  .exact .inl q
  .exact .inr ⟨q,PySem.W.cellsFrom_some _ _ _ (.inl q)⟩
 refine codeAny_call_function hr.depth (KX _ _ lk) rfl S.co S.gen rfl (PySem.W.codeRec_of KX hcd) (hb _ _ _ _ ?_)
 refine wpAny_newFunctionEnv_cells S.kind hkind fun env he s1 x=>?_
 subst he
 refine ⟨lim.keeps x.toInCall.keep,codeAny_func ?_⟩
 obtain ⟨t,ht,hq⟩:=hbody A outer s H vs Q E (hr.deeper _) hsp
 have I:Inv (yX CX P w K mg base N qual scope f cdv A outer s H E) [] (start N vs) H s1:=M8 S hr.hd e0 hl r x
 refine wpAny_mono (ht [] s1 (start N vs) H _ I hq) (fun fl s' hs=>?_) fun e s' hs=>hs
 have fin:∀ {σ':St} {H':Hp} {v:V} {u:Value},Inv (yX CX P w K mg base N qual scope f cdv A outer s H E) [] σ' H' s'->RelV v u->Q v H'->CE outer P w H s Q u s' :=
  fun {σ' H' v u} J rv q=>⟨v,H',J.os,J.bare,J.base,J.hok,rv,q⟩
 cases fl with
 | ret u =>
  obtain ⟨v,σ',H',J,rv,q⟩:=hs
  exact fin J rv q
 | next =>
  obtain ⟨σ',H',J,q⟩:=hs
  exact fin (v:=V.non) (u:=Value.none) J rfl q
 | brk =>
  obtain ⟨_,_,_,q⟩:=hs
  exact False.elim q
 | cont =>
  obtain ⟨_,_,_,q⟩:=hs
  exact False.elim q
end L2
namespace L2
open PySem PySem.Spec PyProof.Rows
section
variable {X:Cx} {x:Str} {p pos:Pos} {e:Expr} {es:List Expr} {t:TA} {id T:String} {r:List V->Hp->VK->Prop}
noncomputable def tCB (r:List V->Hp->VK->Prop) (t:TA):TE:=fun σ H Q=>t σ H fun vs H1=>r vs H1 Q
theorem bO (hc:dU X (.builtin id) r) (hg:Gl X x) (hm:X.mg x = none) (hv:bootBuiltins x = some (.builtin id)) (ha:PA X (e :: es) t) (hn:x ≠ "__name__" := by decide) (hdb:(x == ("__debug__" : Str)) = false:=by decide)
  (he:starEach (e :: es) X.env = (false,eval e X.env) :: starEach es X.env:=by rfl) (hpl:(backTo pos (starEach es X.env)).any (·.1) = false:=by rfl):PE X (.Call (.Name x p) (e :: es) [] pos) (tCB r t):=by
 intro pins s σ H Q I h
 refine wpAny_Call_Name_kw (vV I hg hm hv ?_ hn hdb)
 exact PyProof.Rows.callWith_builtin1 (thn (ha pos pins s σ H _ I h) fun us s1 ⟨vs,H1,I1,r1,q1⟩=>hc pins s1 σ H1 vs us Q I1 r1 q1) he hpl
theorem jM (hc:dU X (.type T) r) (hg:Gl X x) (hm:X.mg x = none) (hv:bootBuiltins x = some (.type T)) (ha:PA X (e :: es) t) (hn:x ≠ "__name__" := by decide) (hdb:(x == ("__debug__" : Str)) = false:=by decide)
  (he:starEach (e :: es) X.env = (false,eval e X.env) :: starEach es X.env:=by rfl) (hpl:(backTo pos (starEach es X.env)).any (·.1) = false:=by rfl):PE X (.Call (.Name x p) (e :: es) [] pos) (tCB r t):=by
 intro pins s σ H Q I h
 refine wpAny_Call_Name_kw (vV I hg hm hv ?_ hn hdb)
 exact PyProof.Rows.callWith_type1 (thn (ha pos pins s σ H _ I h) fun us s1 ⟨vs,H1,I1,r1,q1⟩=>hc pins s1 σ H1 vs us Q I1 r1 q1) he hpl
end
end L2
namespace HT
open PySem PyProof.Rows
section
open PySem.SeqAt
open PySem.AutoSeq1 (wpAny_loadPart')
open PySem.MeetsSeq PySem.MeetsSeq2 PySem.MeetsSeq3
end
section
variable {prog:Program} {w:World} {A:Around} {E:Value->Shared->Prop} {s:Shared}
noncomputable def sIx (n d:Nat):Option Int->Nat
 | none=>d
 | some v=>if v < 0 then (v + (n:Int)).toNat else min v.toNat n
theorem mQ (n d k:Nat):sIx n d (some (k:Int)) = min k n:=by
 show (if (k:Int) < 0 then ((k:Int) + (n:Int)).toNat else min (k:Int).toNat n) = min k n
 rw [if_neg (by omega),Int.toNat_natCast]
theorem X6 (n d:Nat) (hd:d <= n) (o:Option Int):sIx n d o <= n:=by
 cases o with
 | none=>exact hd
 | some v =>
  show (if v < 0 then (v + (n:Int)).toNat else min v.toNat n) <= n
  by_cases hv:v < 0
  .rw [if_pos hv]; omega
  .rw [if_neg hv]; exact Nat.min_le_right _ _
end
end HT
namespace L2
open PySem PySem.Spec PyProof.Rows
noncomputable abbrev TO:=St->Hp->(Option Int->Hp->Prop)->Prop
noncomputable def PO (X:Cx) (e:Option Expr) (t:TO):Prop :=
 ∀ (pins:List (Addr × Obj)) (s:Shared) (σ:St) (H:Hp) (Q:Option Int->Hp->Prop),Inv X pins σ H s->t σ H Q ->
  wpAny (model X.prog X.w) X.A (evalPart e X.env) (fun u s'=>∃ o H',Inv X pins σ H' s'/\IsPart u o/\Q o H') X.xe s
noncomputable def xH:TO:=fun _ H Q=>Q none H
noncomputable def Ls (t:TE):TO:=fun σ H Q=>t σ H fun x H1=>∃ i,x = .int i/\Q (some i) H1
theorem intsAre_of {ns:List Int} : ∀ {us:List Value},Vals (ns.map V.int) us->IntsAre us ns:=by
 induction ns with
 | nil=>intro us r; rw [List.map_nil] at r; cases r; exact .nil
 | cons n ns ih =>
  intro us r
  rw [List.map_cons] at r
  cases r with
  | cons r1 r2 =>
   obtain ⟨t,e⟩:=r1
   subst e
   exact .cons n t (ih r2)
section
variable {X:Cx} {e:Expr} {te:TE} {lo hi:Option Expr} {tl th:TO} {pos p2:Pos}
theorem uM:PO X none xH:=by
 intro pins s σ H Q I h
 rw [evalPart_none]
 exact wpAny_pure ⟨none,H,I,.none,h⟩
theorem fB (h:PE X e te):PO X (some e) (Ls te):=by
 intro pins s σ H Q I hw
 rw [evalPart_some]
 refine thn (h pins s σ H _ I hw) fun u s1 ⟨x,H1,I1,r1,q1⟩=>?_
 obtain ⟨i,rfl,q⟩:=q1
 obtain ⟨t,rfl⟩:=r1
 exact ⟨some i,H1,I1,.int i t,q⟩
noncomputable def SlR (X:Cx) (r:V->Option Int->Option Int->Hp->VK->Prop):Prop :=
 ∀ (pins:List (Addr × Obj)) (s:Shared) (σ:St) (H:Hp) (x:V) (v vl vu:Value) (lo hi:Option Int) (sl:Addr) (Q:VK),Inv X pins σ H s->RelV x v->s.heap.IsSliceOf sl vl vu .none->IsPart vl lo->IsPart vu hi->r x lo hi H Q ->
  ∃ T id,typeLookup (.type T) "__getitem__" = pure (some (.builtin id))/\s.TypeIs v T/\wpAny (model X.prog X.w) X.A (getItem v (.ref sl)) (EP X pins σ Q) X.xe s
noncomputable def tSl (r:V->Option Int->Option Int->Hp->VK->Prop) (te:TE) (tl th:TO):TE:=fun σ H Q=>te σ H fun x H1=>tl σ H1 fun l H2=>th σ H2 fun u H3=>r x l u H3 Q
theorem iI {r:V->Option Int->Option Int->Hp->VK->Prop} (hr:SlR X r) (he:PE X e te) (hl:PO X lo tl) (hu:PO X hi th):PE X (.Subscript e (.Slice lo hi none p2) pos) (tSl r te tl th):=by
 intro pins s σ H Q I h
 refine Subscript_ (thn (he pins s σ H _ I h) fun v s1 ⟨x,H1,I1,r1,q1⟩=>?_)
 refine wpAny_Slice (thn (hl pins s1 σ H1 _ I1 q1) fun vl s2 ⟨l,H2,I2,pl,q2⟩=>thn (hu pins s2 σ H2 _ I2 q2) fun vu s3 ⟨u,H3,I3,pu,q3⟩=>?_)
 rw [evalPart_none]
 refine wpAny_pure ?_
 have I4:Inv X pins σ H3 { s3 with heap:=s3.heap.push { cls:=.type "slice",data:=.fields #[vl,vu,.none] } }:=I3.kept (t':=s3.toks) fun b ob q=>aF _ q
 obtain ⟨T,id,hT,ht,hg⟩:=hr pins { s3 with heap:=s3.heap.push { cls:=.type "slice",data:=.fields #[vl,vu,.none] } } σ H3 x v vl vu l u s3.heap.objs.size Q I4 r1 (Heap.IsSliceOf.new ..) pl pu q3
 show wpAny (model X.prog X.w) X.A (subscriptTail e (.Slice lo hi none p2) v (.ref s3.heap.objs.size)) (EP X pins σ Q) X.xe { s3 with heap:=s3.heap.push { cls:=.type "slice",data:=.fields #[vl,vu,.none] } }
 exact tail_any (ops:=[.ref s3.heap.objs.size,v]) ht hT hg (by with_unfolding_all rfl)
noncomputable def mO (xs:List V) (lo hi:Option Int):List V:=(xs.drop (HT.sIx xs.length 0 lo)).take (HT.sIx xs.length xs.length hi - HT.sIx xs.length 0 lo)
theorem wB (xs:List V) (lo hi:Option Int):(mO xs lo hi).length <= xs.length:=by
 unfold mO
 rw [aY,List.length_drop]
 omega
end
end L2
namespace L2
open PySem PySem.Spec PyProof.Rows
noncomputable def ixN (n:Nat) (i:Int):Option Nat:=if 0 <= i then (if i < n then some i.toNat else none) else if -(n:Int) <= i then some (i + n).toNat else none
noncomputable def atI {α:Type} (xs:List α) (i:Int):Option α:=(ixN xs.length i).bind fun j=>xs[j]?
theorem Lq {n:Nat} {i:Int} {j:Nat} (h:ixN n i = some j):seqIndex? i n = some j/\j < n/\-(n:Int) <= i/\i < n:=by
 unfold ixN at h
 by_cases h0:0 <= i
 .rw [if_pos h0] at h
  by_cases h1:i < n
  .rw [if_pos h1] at h
   have e:i.toNat = j:=Option.some.inj h
   exact ⟨by rw [seqIndex_of h0 h1,e],by omega,by omega,h1⟩
  .rw [if_neg h1] at h; cases h
 .rw [if_neg h0] at h
  by_cases h1 : -(n:Int) <= i
  .rw [if_pos h1] at h
   have e:(i + n).toNat = j:=Option.some.inj h
   exact ⟨by rw [seqIndex_neg (by omega) h1,e],by omega,h1,by omega⟩
  .rw [if_neg h1] at h; cases h
theorem Fj {α:Type} {xs:List α} {i:Int} {v:α} (h:atI xs i = some v):∃ j,seqIndex? i xs.length = some j/\xs[j]? = some v/\j < xs.length/\-(xs.length:Int) <= i/\i < xs.length:=by
 unfold atI at h
 cases e:ixN xs.length i with
 | none=>rw [e] at h; cases h
 | some j =>
  rw [e] at h
  obtain ⟨h1,h2,h3,h4⟩:=Lq e
  exact ⟨j,h1,h,h2,h3,h4⟩
theorem bR {α:Type} {xs:List α} {j:Nat} {v:α} (h:xs[j]? = some v):atI xs (j:Int) = some v:=by
 have hj:j < xs.length:=(ao.mp h).1
 have e:ixN xs.length (j:Int) = some j:=by
  unfold ixN
  rw [if_pos (by omega),if_pos (by omega)]; simp
 unfold atI; rw [e]; exact h
noncomputable def Kq (b:Expr):Prop:=∀ o i,subscripted b false o i = operate [o,i] (getItem o i)
noncomputable def IxR (X:Cx) (r:R2):Prop :=
 ∀ (value slice:Expr) (pins:List (Addr × Obj)) (s:Shared) (σ:St) (H:Hp) (x y:V) (v u:Value) (Q:VK),Inv X pins σ H s->RelV x v->RelV y u->r x y H Q ->
  subscripted slice false v u = operate [v,u] (getItem v u)->wpAny (model X.prog X.w) X.A (subscriptTail value slice v u) (EP X pins σ Q) X.xe s
noncomputable def MtR (X:Cx) (id:String) (r:V->List V->Hp->VK->Prop):Prop :=
 ∀ (pins:List (Addr × Obj)) (s:Shared) (σ:St) (H:Hp) (x:V) (xs:List V) (v:Value) (us:List Value) (Q:VK),Inv X pins σ H s->RelV x v->Vals xs us->r x xs H Q ->
  wpAny (model X.prog X.w) X.A (call (.builtin id) (v :: us)) (EP X pins σ Q) X.xe s
section
variable {X:Cx} {a b:Expr} {ta tb:TE} {pos:Pos}
theorem bQ {r:R2} (hr:IxR X r) (ha:PE X a ta) (hb:PE X b tb) (hs:Kq b):PE X (.Subscript a b pos) (tOp r ta tb):=by
 intro pins s σ H Q I h
 exact Subscript_ (Xm ha hb I h fun v u s2 x y H2 I2 rx ry q=>hr a b pins s2 σ H2 x y v u Q I2 rx ry q (hs _ _))
noncomputable def Vp (K:Frag):R2:=fun x y H Q=>∃ p xs i v,x = .ref p/\y = .int i/\SqL K H p xs/\atI xs i = some v/\Q v H
noncomputable def VP (K:Frag):R2:=fun x y H Q=>∃ p xs i v,x = .ref p/\y = .int i/\SqT K H p xs/\atI xs i = some v/\Q v H
noncomputable def U9:R2:=fun x y H Q=>∃ z i c,x = .str z/\y = .int i/\z.length <= sizeLine/\atI z.cps.toList i = some c/\Q (.str ⟨#[c]⟩) H
theorem Vh:IxR X (Vp X.K):=by
 intro value slice pins s σ H x y v u Q I rx ry h hs
 obtain ⟨p,xs,i,z,rfl,rfl,hq,he,q⟩:=h
 cases rx
 obtain ⟨t,rfl⟩:=ry
 obtain ⟨its,r,pl,hz⟩:=I.list hq
 obtain ⟨j,h1,h2,h3,h4,h5⟩:=Fj he
 obtain ⟨w,ew,rw'⟩:=r.get h2
 have hl:=r.length
 have hn:=qP
 have fin:EP X pins σ Q w s:=⟨z,H,I,rw',q⟩
 by_cases h0:0 <= i
 .have hj:i.toNat = j:=by
   rw [seqIndex_of h0 h5] at h1
   exact Option.some.inj h1
  exact item_listR pl.isList h0 (by omega) (by rw [hj]; simpa using ew) fin hs
 .have hj:(i + (its.toArray.size:Int)).toNat = j:=by
   rw [seqIndex_neg (by omega) h4] at h1
   rw [aX,<- hl]
   exact Option.some.inj h1
  exact subscriptTail_builtinR (x:=w) pl.isList.typeIs slot_list_getitem.lookup
   (wpAny_getItem_list_neg (Q:=fun r s'=>r = w/\EP X pins σ Q r s') pl.isList (by omega) (by rw [aX] <;> omega) (by omega) (by rw [hj]; simpa using ew) ⟨rfl,fin⟩) hs
theorem fL:IxR X (VP X.K):=by
 intro value slice pins s σ H x y v u Q I rx ry h hs
 obtain ⟨p,xs,i,z,rfl,rfl,hq,he,q⟩:=h
 cases rx
 obtain ⟨t,rfl⟩:=ry
 obtain ⟨its,r,pl,hz⟩:=I.tuple hq
 obtain ⟨j,h1,h2,h3,h4,h5⟩:=Fj he
 obtain ⟨w,ew,rw'⟩:=r.get h2
 have hl:=r.length
 have hn:=qP
 have fin:EP X pins σ Q w s:=⟨z,H,I,rw',q⟩
 exact subscriptTail_builtinR (x:=w) pl.typeIs slot_tuple_getitem.lookup
  (getItem_tuple (j:=j) (Q:=fun r s'=>r = w/\EP X pins σ Q r s') pl (by omega) (by omega) (by rw [aX,<- hl]; exact h1) (by simpa using ew) ⟨rfl,fin⟩) hs
theorem Jm:IxR X U9:=by
 intro value slice pins s σ H x y v u Q I rx ry h hs
 obtain ⟨z,i,c,rfl,rfl,hz,he,q⟩:=h
 obtain ⟨t,rfl⟩:=rx
 obtain ⟨t',rfl⟩:=ry
 obtain ⟨j,h1,h2,h3,h4,h5⟩:=Fj he
 have hl:z.cps.toList.length = z.length:=by simp [Str.length]
 rw [hl] at h1 h4 h5
 have hn:=qP
 exact tail_any (typeIs_str s z t) slot_str_getitem.lookup (getItem_str (c:=c) (by
  have e1:decide (i < -(2 ^ 63:Int)) = false:=decide_eq_false (by omega)
  have e2:decide (i >= 2 ^ 63) = false:=decide_eq_false (by omega)
  rw [e1,e2,Bool.or_false]) (by rw [h1]; simpa using h2) ⟨.str ⟨#[c]⟩,H,I.tok _,⟨_,rfl⟩,q⟩) hs
theorem I9 (its:List Value) (n j:Nat) (u:Value):Obj.mapSeq (·.setIfInBounds j u) { cls:=.type "list",data:=.seq its.toArray n } = { cls:=.type "list",data:=.seq (its.set j u).toArray n }:=by
 simp [Obj.mapSeq]
theorem Inv.lst {pins:List (Addr × Obj)} {σ:St} {H:Hp} {s:Shared} {p:Addr} {xs:List V} (I:Inv X pins σ H s) (h:H p = some (.lst xs)) :
  ∃ (its:List Value) (n:Nat),Vals xs its/\s.heap.get? p = some { cls:=.type "list",data:=.seq its.toArray n }/\xs.length <= sizeLine:=by
 obtain ⟨z,its,n,r,e⟩:=I.hok p _ h
 exact ⟨its,n,r,e,z⟩
theorem Inv.lstUpd {pins:List (Addr × Obj)} {σ:St} {H:Hp} {s:Shared} {p:Addr} {xs ys:List V} {its its':List Value} {n n':Nat} {f:Obj->Obj} (I:Inv X pins σ H s) (h:H p = some (.lst xs))
  (ho:s.heap.get? p = some { cls:=.type "list",data:=.seq its.toArray n }) (hf:f { cls:=.type "list",data:=.seq its.toArray n } = { cls:=.type "list",data:=.seq its'.toArray n' }) (r:Vals ys its') (hz:ys.length <= sizeLine) (t:Nat) :
  Inv X pins σ (upd H p (.lst ys)) { s with heap:=s.heap.update p f,toks:=t }:=by
 have e:(s.heap.update p f).get? p = some { cls:=.type "list",data:=.seq its'.toArray n' }:=by
  rw [Heap.get?_update_self f ho (by rw [hf] <;> rfl),hf]
 refine I.write (x:=p) (e:=p) (by rw [h]; trivial) (.inl rfl) (fun b u hb q=>(Heap.get?_update_other _ _ (Ne.symm hb)).trans q) ⟨_,e⟩ ?_
 exact ⟨hz,its',n',r,e⟩
noncomputable def KR:V->V->V->Hp->(Hp->Prop)->Prop:=fun o i v H Q=>∃ p xs k j,o = .ref p/\i = .int k/\H p = some (.lst xs)/\ixN xs.length k = some j/\Q (upd H p (.lst (xs.set j v)))
theorem set_list:aaI X KR:=by
 intro pins s σ H o i v ov iv u Q I ro ri rv h
 obtain ⟨p,xs,k,j,rfl,rfl,hp,hj,q⟩:=h
 cases ro
 obtain ⟨t,rfl⟩:=ri
 obtain ⟨its,n,r,ho,hz⟩:=I.lst hp
 obtain ⟨h1,h2,h3,h4⟩:=Lq hj
 have hl:=r.length
 have hn:=qP
 have I':Inv X pins σ (upd H p (.lst (xs.set j v))) { s with heap:=s.heap.update p (Obj.mapSeq (·.setIfInBounds j u)) } :=
  I.lstUpd hp ho (I9 its n j u) (r.set rv j) (by rw [List.length_set]; exact hz) s.toks
 by_cases h0:0 <= k
 .have hk:k.toNat = j:=by
   rw [seqIndex_of h0 h4] at h1
   exact Option.some.inj h1
  exact PySem.W.ki_setAt ho h0 (by omega) (by rw [aX,<- hl]; exact h4) (by rw [hk]; exact ⟨_,I',q⟩)
 .have hk:(k + (its.toArray.size:Int)).toNat = j:=by
   rw [seqIndex_neg (by omega) h3] at h1
   rw [aX,<- hl]
   exact Option.some.inj h1
  exact PySem.W.ki_setBack ho (by omega) (by rw [aX,<- hl]; exact h3) (by omega) (by rw [hk]; exact ⟨_,I',q⟩)
theorem Ga (lo hi:Option Int) (n:Nat):(sliceBounds lo hi none n).1 = ((HT.sIx n 0 lo:Nat):Int)/\(sliceBounds lo hi none n).2.1 = ((HT.sIx n n hi:Nat):Int)/\(sliceBounds lo hi none n).2.2 = 1:=by
 refine ⟨?_,?_,rfl⟩
 .cases lo with
  | none=>simp [sliceBounds,HT.sIx]
  | some i =>
   simp only [sliceBounds,HT.sIx,Option.getD_none,show (1:Int) > 0 by decide,if_true]
   by_cases h:i < 0
   .simp only [h,if_true] <;> omega
   .simp only [h,if_false] <;> omega
 .cases hi with
  | none=>simp [sliceBounds,HT.sIx]
  | some i =>
   simp only [sliceBounds,HT.sIx,Option.getD_none,show (1:Int) > 0 by decide,if_true]
   by_cases h:i < 0
   .simp only [h,if_true] <;> omega
   .simp only [h,if_false] <;> omega
theorem z7 (its:List Value) (lo hi:Option Int):slicePick its.toArray lo hi none = ((its.drop (HT.sIx its.length 0 lo)).take (HT.sIx its.length its.length hi - HT.sIx its.length 0 lo)).toArray:=by
 obtain ⟨h1,h2,h3⟩:=Ga lo hi its.toArray.size
 unfold slicePick
 rw [h1,h2,h3]
 simp only [sliceRange_one,pick_run,aX] <;> rfl
noncomputable def Wu (K:Frag):V->Option Int->Option Int->Hp->VK->Prop:=fun x lo hi H Q=>∃ a xs,x = .ref a/\SqL K H a xs/\∀ p,H p = none->Q (.ref p) (upd H p (.lst (mO xs lo hi)))
theorem oO:SlR X (Wu X.K):=by
 intro pins s σ H x v vl vu lo hi sl Q I rx hs pl pu h
 obtain ⟨a,xs,rfl,hx,q⟩:=h
 cases rx
 obtain ⟨its,r,ht,hz⟩:=I.list hx
 have hlen:=r.length
 refine ⟨"list",_,slot_list_getitem.lookup,ht.isList.typeIs,?_⟩
 refine wpAny_getItem_list_slice ht.isList hs pl pu .none (by simp) ?_ (by rw [aX] <;> omega)
 rw [z7,<- hlen]
 refine ⟨.ref s.heap.objs.size,_,I.laid (t':=s.toks) (o:=.lst (mO xs lo hi)) (fun b ob q=>aF _ q) (aD _) ?_,rfl,q _ (I.hok.fresh (aD _))⟩
 exact ⟨aK (wB xs lo hi) hz,_,0,(r.drop (HT.sIx xs.length 0 lo)).take (HT.sIx xs.length xs.length hi - HT.sIx xs.length 0 lo),aW _ rfl⟩
noncomputable def mV:V->Bool
 | .non=>true
 | .bl _=>true
 | .int _=>true
 | .str _=>true
 | _=>false
noncomputable def eqV:V->V->Bool
 | .non,.non=>true
 | .bl a,.bl b=>a == b
 | .bl a,.int b=>(if a then 1 else 0) == b
 | .int a,.bl b=>a == (if b then 1 else 0)
 | .int a,.int b=>a == b
 | .str a,.str b=>a == b
 | _,_=>false
theorem Xr {A:Around} {s:Shared} {y x:V} {u v:Value} (ry:RelV y u) (rx:RelV x v) (fy:mV y = true) (fx:mV x = true):SeqAt.EqAt A s u v (eqV y x):=by
 cases y with
 | non =>
  cases ry
  cases x with
  | non=>cases rx; exact SeqAt.EqAt.same _
  | bl b=>cases rx; exact SeqAt.EqAt.none_bool b
  | int b=>obtain ⟨t,rfl⟩:=rx; exact SeqAt.EqAt.none_int b t
  | str b=>obtain ⟨t,rfl⟩:=rx; exact SeqAt.EqAt.none_str b t
  | _=>exact absurd (show false = true from fx) bw
 | bl a =>
  cases ry
  cases x with
  | non=>cases rx; exact SeqAt.EqAt.bool_none a
  | bl b=>cases rx; exact SeqAt.EqAt.bool_bool a b
  | int b=>obtain ⟨t,rfl⟩:=rx; exact SeqAt.EqAt.bool_int a b t
  | str b=>obtain ⟨t,rfl⟩:=rx; exact SeqAt.EqAt.bool_str a b t
  | _=>exact absurd (show false = true from fx) bw
 | int a =>
  obtain ⟨t',rfl⟩:=ry
  cases x with
  | non=>cases rx; exact SeqAt.EqAt.int_none a t'
  | bl b=>cases rx; exact SeqAt.EqAt.int_bool a t' b
  | int b=>obtain ⟨t,rfl⟩:=rx; exact SeqAt.EqAt.int_int a t' b t
  | str b=>obtain ⟨t,rfl⟩:=rx; exact SeqAt.EqAt.int_str a t' b t
  | _=>exact absurd (show false = true from fx) bw
 | str a =>
  obtain ⟨t',rfl⟩:=ry
  cases x with
  | non=>cases rx; exact SeqAt.EqAt.str_none a t'
  | bl b=>cases rx; exact SeqAt.EqAt.str_bool a t' b
  | int b=>obtain ⟨t,rfl⟩:=rx; exact SeqAt.EqAt.str_int a t' b t
  | str b=>obtain ⟨t,rfl⟩:=rx; exact SeqAt.EqAt.str_str a t' b t
  | _=>exact absurd (show false = true from fx) bw
 | _=>exact absurd (show false = true from fy) bw
noncomputable def eqU (x:V) (u:Value):Bool:=match u with
 | .none=>eqV .non x
 | .bool b=>eqV (.bl b) x
 | .int i _=>eqV (.int i) x
 | .str z _=>eqV (.str z) x
 | _=>false
theorem Q_ {x y:V} {u:Value} (r:RelV y u) (f:mV y = true):eqU x u = eqV y x:=by
 cases y with
 | non=>cases r; rfl
 | bl b=>cases r; rfl
 | int i=>obtain ⟨t,rfl⟩:=r; rfl
 | str z=>obtain ⟨t,rfl⟩:=r; rfl
 | _=>exact absurd (show false = true from f) bw
theorem Dm {x:V} : ∀ {xs:List V} {us:List Value},Vals xs us->xs.all mV = true->us.any (eqU x) = xs.any fun y=>eqV y x
 | _,_,.nil,_=>rfl
 | y :: xs,u :: us,.cons r t,f=>by
  rw [List.all_cons,Bool.and_eq_true] at f
  rw [List.any_cons,List.any_cons,Q_ r f.1,Dm t f.2]
theorem zJ {A:Around} {s:Shared} {x:V} {v:Value} (rx:RelV x v) (fx:mV x = true):∀ {xs:List V} {us:List Value},Vals xs us->xs.all mV = true->∀ u ∈ us,SeqAt.EqAt A s u v (eqU x u)
 | _,_,.nil,_=>fun u hu=>by cases hu
 | y :: xs,u :: us,.cons r t,f=>fun u' hu=>by
  rw [List.all_cons,Bool.and_eq_true] at f
  rcases List.mem_cons.mp hu with rfl | hu
  .rw [Q_ r f.1]; exact Xr r rx f.1 fx
  .exact zJ rx fx t f.2 u' hu
noncomputable def inV (x:V) (xs:List V):Bool:=xs.any fun y=>eqV y x
noncomputable def rIn (K:Frag) (neg:Bool):R2:=fun x y H Q=>∃ p xs,y = .ref p/\(SqL K H p xs\/SqT K H p xs)/\mV x = true/\xs.all mV = true/\Q (.bl (if neg then !inV x xs else inV x xs)) H
theorem Mz:OpR X (compareOp .In) (rIn X.K false):=by
 intro pins s σ H x y v u Q I rx ry h
 obtain ⟨p,xs,rfl,hq,fx,fs,q⟩:=h
 cases ry
 rcases hq with hq | hq
 .obtain ⟨its,r,pl,hz⟩:=I.list hq
  refine SeqAt.in_listAt (eqU x) pl.isList (fun w hw=>zJ rx fx r fs w (by simpa using hw)) ⟨.bl _,H,I,rfl,?_⟩
  rw [show its.toArray.any (eqU x) = its.any (eqU x) by simp,Dm r fs]
  exact q
 .obtain ⟨its,r,pl,hz⟩:=I.tuple hq
  refine SeqAt.in_tupleAt (eqU x) pl (fun w hw=>zJ rx fx r fs w (by simpa using hw)) ⟨.bl _,H,I,rfl,?_⟩
  rw [show its.toArray.any (eqU x) = its.any (eqU x) by simp,Dm r fs]
  exact q
theorem vh:dU X (.builtin "len") (fun xs H Q=>∃ p ys,xs = [.ref p]/\(SqL X.K H p ys\/SqT X.K H p ys)/\Q (.int ys.length) H):=by
 intro pins s σ H xs us Q I r h
 obtain ⟨p,ys,rfl,hq,q⟩:=h
 obtain ⟨u,rfl,rx⟩:=vals1 r
 cases rx
 have hn:=qP
 rcases hq with hq | hq
 .obtain ⟨its,r',pl,hz⟩:=I.list hq
  have hlen:=r'.length
  exact Calls.call_len_list pl.isList (by simp only [aX] <;> omega) ⟨.int ys.length,H,I.tok _,⟨s.toks + 1,by rw [aX,hlen]⟩,q⟩
 .obtain ⟨its,r',pl,hz⟩:=I.tuple hq
  have hlen:=r'.length
  exact len_tuple pl (by simp only [aX] <;> omega) ⟨.int ys.length,H,I.tok _,⟨s.toks + 1,by rw [aX,hlen]⟩,q⟩
theorem DG:dU X (.builtin "len") (fun xs H Q=>∃ z,xs = [.str z]/\z.length <= sizeLine/\Q (.int z.length) H):=by
 intro pins s σ H xs us Q I r h
 obtain ⟨z,rfl,hz,q⟩:=h
 obtain ⟨u,rfl,t,rfl⟩:=vals1 r
 have hn:=qP
 exact len_str (by omega) ⟨.int z.length,H,I.tok _,⟨_,rfl⟩,q⟩
theorem dU.or {f:Value} {r r':List V->Hp->VK->Prop} (h:dU X f r) (h':dU X f r'):dU X f (fun xs H Q=>r xs H Q\/r' xs H Q):=by
 intro pins s σ H xs us Q I rs q
 rcases q with q | q
 .exact h pins s σ H xs us Q I rs q
 .exact h' pins s σ H xs us Q I rs q
theorem Gi:dU X (.type "list") (fun xs H Q=>∃ p ys,xs = [.ref p]/\(SqL X.K H p ys\/SqT X.K H p ys)/\∀ l,H l = none->Q (.ref l) (upd H l (.lst ys))):=by
 intro pins s σ H xs us Q I r h
 obtain ⟨p,ys,rfl,hq,q⟩:=h
 obtain ⟨u,rfl,rx⟩:=vals1 r
 cases rx
 have fin:∀ (its:List Value),Vals ys its->ys.length <= sizeLine->∀ (h':Heap) (c':Nat),(∀ b o',s.heap.get? b = some o'->h'.get? b = some o') ->
   h'.get? s.heap.objs.size = some { cls:=.type "list",dict:=none,data:=.seq its.toArray c',slots:=#[] }->EP X pins σ Q (.ref s.heap.objs.size) { s with heap:=h' }:=fun its r' hz h' c' kp e =>
  ⟨.ref s.heap.objs.size,_,I.laid (t':=s.toks) kp (aD _) (show cQ X.prog X.w _ h' _ (.lst ys) from ⟨hz,its,c',r',e⟩),rfl,q _ (I.hok.fresh (aD _))⟩
 rcases hq with hq | hq
 .obtain ⟨its,r',pl,hz⟩:=I.list hq
  have hlen:=r'.length
  obtain ⟨o,ho,hc,n,hd⟩:=pl.isList
  exact call_list_seq p (.inl rfl) ho hc hd (fun h' c' kp e=>fin its r' hz h' c' kp e) (by simp only [aX] <;> omega)
 .obtain ⟨its,r',pl,hz⟩:=I.tuple hq
  have hlen:=r'.length
  obtain ⟨o,ho,hc,n,hd⟩:=pl
  exact call_list_seq p (.inr rfl) ho hc hd (fun h' c' kp e=>fin its r' hz h' c' kp e) (by simp only [aX] <;> omega)
theorem z6:dU X (.type "tuple") (fun xs H Q=>∃ p ys,xs = [.ref p]/\((SqL X.K H p ys/\∀ l,H l = none->Q (.ref l) (upd H l (.tup ys)))\/(SqT X.K H p ys/\Q (.ref p) H))):=by
 intro pins s σ H xs us Q I r h
 obtain ⟨p,ys,rfl,h⟩:=h
 obtain ⟨u,rfl,rx⟩:=vals1 r
 cases rx
 rcases h with ⟨hq,q⟩ | ⟨hq,q⟩
 .obtain ⟨its,r',pl,hz⟩:=I.list hq
  have hlen:=r'.length
  refine call_tuple_list pl.isList (fun h' kp=>?_) (by simp only [aX] <;> omega)
  have I1:Inv X pins σ H { s with heap:=h' }:=I.kept (t':=s.toks) kp
  have I2:Inv X pins σ (upd H h'.objs.size (.tup ys)) { s with heap:=h'.push { cls:=.type "tuple",data:=.seq its.toArray } } :=
   I1.laid (t':=s.toks) (fun b o e=>aF _ e) (aD _) (show cQ X.prog X.w _ _ _ (.tup ys) from ⟨hz,its,r',IsTup.new _ _⟩)
  exact ⟨.ref h'.objs.size,_,I2,rfl,q _ (I1.hok.fresh (aD _))⟩
 .obtain ⟨its,r',pl,hz⟩:=I.tuple hq
  exact call_tuple_same pl ⟨.ref p,H,I,rfl,q⟩
noncomputable def tyV (K:Frag) (T:String) (x:V) (H:Hp):Prop:=match x with
 | .str _=>T = "str"
 | .int _=>T = "int"
 | .ref p=>(T = "list" /\ ∃ xs,SqL K H p xs)\/(T = "tuple" /\ ∃ o,K.lookup p = some o/\o.cls = .type "tuple" /\ o.dict = none) \/
   (T = "dict" /\ (∃ kvs,H p = some (.dK kvs)))\/(T = "set" /\ ∃ S n,H p = some (.set S n))
 | _=>False
theorem QK {pins:List (Addr × Obj)} {σ:St} {H:Hp} {s:Shared} {T:String} {x:V} {v:Value} (I:Inv X pins σ H s) (r:RelV x v) (ty:tyV X.K T x H) :
  s.TypeIs v T/\∀ a,v = .ref a->∃ ob,s.heap.get? a = some ob/\ob.dict = none:=by
 cases x with
 | str z =>
  obtain ⟨t,rfl⟩:=r
  cases (show T = "str" from ty)
  exact ⟨typeIs_str s z t,fun _ e=>nomatch e⟩
 | int i =>
  obtain ⟨t,rfl⟩:=r
  cases (show T = "int" from ty)
  exact ⟨typeIs_int s i t,fun _ e=>nomatch e⟩
 | ref p =>
  cases r
  rcases ty with ⟨rfl,xs,hq⟩ | ⟨rfl,o,hk,hc,hd⟩ | ⟨rfl,hk⟩ | ⟨rfl,S,n,hk⟩
  .obtain ⟨its,_,pl,_⟩:=I.list hq
   refine ⟨pl.isList.typeIs,fun a e=>?_⟩
   cases e
   obtain ⟨o,n,e,c,hd,_⟩:=pl
   exact ⟨o,e,hd⟩
  .refine ⟨⟨o,I.kIn p o hk,hc⟩,fun a e=>?_⟩
   cases e
   exact ⟨o,I.kIn _ o hk,hd⟩
  .have z:∃ o,s.heap.get? p = some o/\o.ExactDict:=by
    obtain ⟨kvs,hk⟩:=hk
    obtain ⟨_,_,_,_,o,_,_,e,ex,_⟩:=I.hok p _ hk
    exact ⟨o,e,ex⟩
   obtain ⟨o,e,ex⟩:=z
   refine ⟨⟨o,e,ex.1⟩,fun a e2=>?_⟩
   cases e2
   exact ⟨o,e,ex.2.1⟩
  .obtain ⟨o,_,_,_,e,ex,_⟩:=I.hok p _ hk
   refine ⟨⟨o,e,ex.1⟩,fun a e2=>?_⟩
   cases e2
   exact ⟨o,e,ex.2.1⟩
 | _=>exact False.elim ty
noncomputable def acy (K:Frag) (T:String) (r:V->List V->Hp->VK->Prop) (to:TE):TE:=fun σ H Q=>to σ H fun x H1=>tyV K T x H1/\r x [] H1 Q
noncomputable def tBM (K:Frag) (T:String) (r:V->List V->Hp->VK->Prop) (to:TE) (t:TA):TE:=fun σ H Q=>to σ H fun x H1=>tyV K T x H1/\t σ H1 fun xs H2=>r x xs H2 Q
variable {o e:Expr} {es:List Expr} {to:TE} {t:TA} {name:Str} {apos cpos:Pos} {T id:String} {r:V->List V->Hp->VK->Prop}
theorem Yl (pa:PlainAttrs T) (slot:Slot T name id) (hty:typeOf (.builtin id) = pure (.type "method_descriptor")) (hm:MtR X id r) (ho:PE X o to)
  (hbase:attributeBase o name X.env (eval o X.env) = eval o X.env:=by rfl) (hline:(apos.endLine == cpos.line) = true:=by rfl):PE X (.Call (.Attribute o name apos) [] [] cpos) (acy X.K T r to):=by
 intro pins s σ H Q I h
 refine wpAny_Call_method0_late hbase hline (thn (ho pins s σ H _ I h) fun v s1 ⟨x,H1,I1,r1,ty,q1⟩=>?_)
 obtain ⟨h1,h2⟩:=QK I1 r1 ty
 exact ⟨T,id,pa,slot,hty,h1,h2,Calls.callWith_builtin rfl (PySem.evalArgs_none (hm pins s1 σ H1 x [] v [] Q I1 r1 .nil q1))⟩
theorem WK (pa:PlainAttrs T) (slot:Slot T name id) (hty:typeOf (.builtin id) = pure (.type "method_descriptor")) (hm:MtR X id r) (ho:PE X o to) (ha:PA X (e :: es) t)
  (hbase:attributeBase o name X.env (eval o X.env) = eval o X.env:=by rfl)
  (hfew:((backTo cpos (starEach (e :: es) X.env)).all (fun x=>!x.1) && (backToKw cpos (keywordEach [] X.env)).all (fun x=>x.1.isSome)
   && decide ((e :: es).length + ([] : List Keyword).length + (if ([] : List Keyword).isEmpty then 0 else 1) < 30)) = true:=by rfl)
  (hline:(apos.endLine == cpos.line) = true:=by rfl) (hs:starEach (e :: es) X.env = (false,eval e X.env) :: starEach es X.env:=by rfl) (hplain:(backTo cpos (starEach es X.env)).any (·.1) = false:=by rfl) :
  PE X (.Call (.Attribute o name apos) (e :: es) [] cpos) (tBM X.K T r to t):=by
 intro pins s σ H Q I h
 refine wpAny_Call_method_late hbase hfew hline rfl (thn (ho pins s σ H _ I h) fun v s1 ⟨x,H1,I1,r1,ty,q1⟩=>?_)
 obtain ⟨h1,h2⟩:=QK I1 r1 ty
 refine ⟨T,id,pa,slot,hty,h1,h2,?_⟩
 have hA:=ha cpos pins s1 σ H1 _ I1 q1
 rw [hs] at hA ⊢
 refine Calls.callWith_builtin (by show (false || (backTo cpos (starEach es X.env)).any (·.1)) = false; rw [hplain] <;> rfl) (Calls.evalArgs_plain ?_)
 exact thn hA fun us s2 ⟨vs,H2,I2,r2,q2⟩=>hm pins s2 σ H2 x vs v us Q I2 r1 r2 q2
/- xs.append(e),list.index on a module's tuple .. are MtR facts of 06m -/
end
end L2
namespace L2
open PySem PySem.Spec PyProof.Rows
noncomputable def MtM (X:Cx) (id:String) (r:V->List V->Hp->VK->Prop):Prop :=
 ∀ (pins:List (Addr × Obj)) (s:Shared) (σ:St) (H:Hp) (x:V) (xs:List V) (v:Value) (us:List Value) (Q:VK),Inv X pins σ H s->RelV x v->Vals xs us->r x xs H Q ->
  wpAny (model X.prog X.w) X.A (call (.builtin id) (v :: us)) (EP X pins σ Q) X.xe s
theorem Vals.one:∀ {x:V} {us:List Value},Vals [x] us->∃ u,us = [u]/\RelV x u
 | _,_,.cons r .nil=>⟨_,rfl,r⟩
theorem Vals.two {x y:V} {us:List Value} (h:Vals [x,y] us):∃ u v,us = [u,v]/\RelV x u/\RelV y v:=by
 cases h with | cons r t=>cases t with | cons q t=>cases t; exact ⟨_,_,rfl,r,q⟩
theorem Vals.zero:∀ {us:List Value},Vals [] us->us = []
 | _,.nil=>rfl
theorem Vals.eraseIdx:∀ {xs:List V} {us:List Value} (i:Nat),Vals xs us->Vals (xs.eraseIdx i) (us.eraseIdx i)
 | _,_,_,.nil=>.nil
 | _,_,0,.cons _ t=>t
 | _,_,i + 1,.cons r t=>.cons r (Vals.eraseIdx i t)
theorem BX {α:Type} : ∀ (l:List α) (i:Nat),(l.eraseIdx i).length <= l.length
 | [],_=>aD _
 | _ :: _,0=>Nat.le_succ _
 | _ :: r,i + 1=>Nat.succ_le_succ (BX r i)
section
variable {X:Cx} {pins:List (Addr × Obj)} {σ:St} {H:Hp} {s:Shared} {l b:Addr} {xs ys zs:List V}
theorem Inv.lset {its its':List Value} {n:Nat} {f:Array Value->Array Value} {t':Nat} (I:Inv X pins σ H s) (hH:H l = some (.lst xs))
  (e:s.heap.get? l = some { cls:=.type "list",data:=.seq its.toArray n }) (hf:f its.toArray = its'.toArray) (hv:Vals ys its') (hz:ys.length <= sizeLine) :
  Inv X pins σ (upd H l (.lst ys)) { s with heap:=s.heap.update l (Obj.mapSeq f),toks:=t' }:=by
 have q:=PySem.IsL.update e f
 rw [hf] at q
 refine I.write (x:=l) (e:=l) (by rw [hH]; exact trivial) (.inl rfl) (fun b' u hb hu=>(Heap.get?_update_other s.heap (Obj.mapSeq f) (Ne.symm hb)).trans hu) ⟨_,q⟩ ?_
 exact ⟨hz,its',_,hv,q⟩
theorem Inv.lnew {its:List Value} {t':Nat} (I:Inv X pins σ H s) (hv:Vals ys its) (hz:ys.length <= sizeLine) :
  Inv X pins σ (upd H s.heap.objs.size (.lst ys)) { s with heap:=s.heap.push { cls:=.type "list",data:=.seq its.toArray },toks:=t' } :=
 I.laid (fun _ _ q=>aF _ q) (aD _) ⟨hz,its,0,hv,aW _ rfl⟩
theorem Inv.fresh (I:Inv X pins σ H s):H s.heap.objs.size = none:=I.hok.fresh (aD _)
theorem Inv.lstM (I:Inv X pins σ H s) (hH:H l = some (.lst xs)):xs.length <= sizeLine/\∃ (its:List Value) (n:Nat),Vals xs its/\xs.length = its.length/\s.heap.get? l = some { cls:=.type "list",data:=.seq its.toArray n }:=by
 obtain ⟨z,its,n,r,e⟩:=I.hok l _ hH
 exact ⟨z,its,n,r,r.length,e⟩
end
section
variable {X:Cx}
noncomputable def U6:V->List V->Hp->VK->Prop:=fun x vs H Q=>∃ l xs y,x = .ref l/\vs = [y]/\H l = some (.lst xs)/\xs.length < sizeLine/\Q .non (upd H l (.lst (xs ++ [y])))
theorem Cg:MtM X "list.append" U6:=by
 intro pins s σ H x vs v us Q I rx rv h
 obtain ⟨l,xs,y,rfl,rfl,hH,hz,q⟩:=h
 cases rx
 obtain ⟨u,rfl,ru⟩:=rv.one
 obtain ⟨z,its,n,r,hl,e⟩:=I.lstM hH
 refine call_meets F.slot_list_append ⟨_,e,rfl⟩ F.entry_list_append (F.args_list_append_2 _ _) (PySem.list_append l its.toArray n u (by rw [aX]; omega)) ⟨e,?_⟩
 refine ⟨.non,_,I.lset (its':=its ++ [u]) hH e (by simp) (r.append (.cons ru .nil)) ?_,rfl,q⟩
 rw [au,List.length_singleton]
 omega
noncomputable def W3:V->List V->Hp->VK->Prop:=fun x vs H Q=>∃ l xs,x = .ref l/\vs = []/\H l = some (.lst xs)/\Q .non (upd H l (.lst []))
theorem R4:MtM X "list.clear" W3:=by
 intro pins s σ H x vs v us Q I rx rv h
 obtain ⟨l,xs,rfl,rfl,hH,q⟩:=h
 cases rx
 have hus:=rv.zero
 subst hus
 obtain ⟨z,its,n,r,hl,e⟩:=I.lstM hH
 refine call_meets F.slot_list_clear ⟨_,e,rfl⟩ F.entry_list_clear (F.args_list_clear_1 _) (AutoSeq1.list_clear_list_0 l its.toArray n (by rw [aX]; omega)) ⟨e,?_⟩
 exact ⟨.non,_,I.lset (its':=[]) (ys:=[]) hH e rfl .nil (aZ _),rfl,q⟩
noncomputable def VR:R2:=fun x y H Q=>∃ l b xs zs,x = .ref l/\y = .ref b/\H l = some (.lst xs)/\H b = some (.lst zs)/\xs.length + zs.length <= sizeLine/\∀ p,H p = none->Q (.ref p) (upd H p (.lst (xs ++ zs)))
theorem Ip:OpR X (binaryOp .Add) VR:=by
 intro pins s σ H x y v u Q I rx ry h
 obtain ⟨l,b,xs,zs,rfl,rfl,hH,hB,hz,q⟩:=h
 cases rx
 cases ry
 obtain ⟨z,its,n,r,hl,e⟩:=I.lstM hH
 obtain ⟨z2,its2,n2,r2,hl2,e2⟩:=I.lstM hB
 refine PySem.P.add_list e e2 ?_ (by rw [aX,aX]; omega)
 have ea:its.toArray ++ its2.toArray = (its ++ its2).toArray:=by simp
 rw [ea]
 exact ⟨.ref _,_,I.lnew (t':=s.toks) (r.append r2) (by rw [au]; omega),rfl,q _ I.fresh⟩
theorem uh {pins:List (Addr × Obj)} {s:Shared} {σ:St} {H:Hp} {l:Addr} {xs:List V} {i:Int} {t:Tok} {k:Nat} {Q:Unit->Shared->Prop} (I:Inv X pins σ H s) (hH:H l = some (.lst xs))
  (h1 : -(2 ^ 63) <= i) (h2:i < 2 ^ 63) (hk:seqIndex? i xs.length = some k) (h:∀ s',Inv X pins σ (upd H l (.lst (xs.eraseIdx k))) s'->Q () s') :
  wpAny (model X.prog X.w) X.A (delItem (.ref l) (.int i t)) Q X.xe s:=by
 obtain ⟨z,its,n,r,hl,e⟩:=I.lstM hH
 refine PySem.P.delItem_list (k:=k) e (fitsIndex_both h1 h2) (by rw [aX,<- hl]; exact hk) (h _ ?_) (by rw [aX]; omega)
 refine I.lset (its':=its.eraseIdx k) (t':=s.toks) hH e ?_ (r.eraseIdx k) ?_
 .show its.toArray.eraseIdxIfInBounds k = (its.eraseIdx k).toArray
  rw [List.eraseIdxIfInBounds_toArray]
 .have:=BX xs k
  omega
end
section
variable {prog:Program} {w:World} {A:Around} {E:Value->Shared->Prop} {s:Shared}
end
section
variable {X:Cx}
end
end L2
namespace Att
open PySem PySem.W PySem.Calls PyProof.Rows
theorem wN {P:Params} {h:Heap} : ∀ (ns:List Int) (vs:List Value),WellAll P h vs (ns.map WData.int)->IntsAre vs ns:=by
 intro ns
 induction ns with
 | nil =>
  intro vs w
  rw [List.map_nil] at w
  cases w
  exact .nil
 | cons n ns ih =>
  intro vs w
  rw [List.map_cons] at w
  cases w with
  | cons a b =>
   cases a
   exact .cons _ _ (ih _ b)
theorem Nm {l:OpenLaw} {n:Nat} (hn:l.most = some n) {P:Params} {h:Heap} {args:List WData} {vals:List Value}
  (hpre:l.row.toRowW.claim.pre args = true) (hwl:WellAll P h vals args) :
  ∃ a vs ns,vals = [Value.ref a]/\args = [WData.list (ns.map WData.int)]/\h.get? a = some { cls:=.type "list",data:=.seq vs.toArray }/\IntsAre vs ns/\ns.length <= n:=by
 have hsh:WShape.hasAll [] args [.list .int] = true:=(pre_splitW hpre).1
 have hc:l.pre.holds [] { args:=args } = true:=(pre_splitW hpre).2
 obtain ⟨d,r,rfl,h1,h2⟩:=hasAllW_cons hsh
 obtain rfl:=hasAllW_nil h2
 obtain ⟨xs,rfl,h3⟩:=hasW_list h1
 obtain ⟨ns,rfl⟩:=items_int h3
 have hlen:ns.length <= n:=by
  unfold OpenLaw.pre at hc
  have h4:(WTm.not (.lt (.lit (.int (n:Int))) (.len (.arg 0)))).holds [] { args:=[.list (ns.map .int)] } = true:=by
   have h4:=(holds_andW hc).1
   rw [hn] at h4
   exact h4
  have h5:=condW_of h4 (w_not (w_lt w_lit (w_len_list (w_arg rfl))))
  rw [ak] at h5
  refine Nat.le_of_not_lt fun q=>?_
  have q':(n:Int) < ((ns.length:Nat):Int):=by omega
  first
   | (rw [decide_eq_true q'] at h5; exact absurd h5 (by decide))
   | (simp at h5; omega)
 cases hwl with
 | cons w1 w2 =>
  cases w2
  cases w1 with
  | list ho hall=>exact ⟨_,_,ns,rfl,rfl,ho,wN ns _ hall,hlen⟩
theorem Np (l:OpenLaw) (args:List WData):l.row.toRowW.claim.post args (.bool true) args = true :=
 postW_of (r:=l.row.toRowW) (X:=(true == true))
  (show WShape.has [] (.bool true) .bool = true by first | rfl | decide | simp [WShape.has,WShape.arms,WShape.armsAll])
  (show (WTm.eq .res (.lit (.bool true))).value [] { args:=args,res:=some (.bool true),after:=args } = some (.bool (true == true)) from w_eq_bool (w_res rfl) w_lit) rfl
theorem Gs {l:OpenLaw} {n:Nat} {q:Program} {loose:List Str} {XP:(Str->Option Value)->Heap->Prop} {YP:World->Heap->Prop} {d:DefRec}
  (hn:l.most = some n) (hdf:d.params.defaults = [])
  (call:∀ (w:World) (s₀ s₁:Shared) (mg mb:Str->Option Value) (fa:Addr) (o:Obj) (pm cd doc:Value) (a:Addr) (vs:List Value) (ns:List Int),
   Ground q loose [] XP w s₀ mg mb s₁.heap->YP w s₁.heap ->
   s₁.heap.get? fa = some o->o.data = .func (docDef d.name d.params d.body d.scope pm cd doc)->s₁.heap.CodeRec cd d.name->mg d.name = some (.ref fa) ->
   s₁.heap.get? a = some { cls:=.type "list",data:=.seq vs.toArray }->IntsAre vs ns->ns.length <= n->s₁.gens = #[] ->
   codeAny (model l.prog w) callerA (.call (.ref fa) ⟨[.ref a],[]⟩) (fun r s'=>r = .ok (.ret (.bool true))/\OldK s₁.heap s'.heap/\s'.os = s₁.os/\AllBare s'.gens) s₁) :
  WalkO q loose XP YP l.row.toRowW d [] (fun f vs=>PySem.call f vs):=by
 intro w s₀ s₁ mg mb G Y fa o pm cd doc dV kV ho hd hcd hD hmg hg args vals as hpre hlay hrd hwl hlo
 obtain rfl:dV = .none:=Dflts.none hD hdf
 obtain rfl:kV = .none:=Dflts.noKw hD
 obtain ⟨a,vs,ns,rfl,rfl,hobj,hints,hlen⟩:=Nm hn hpre hwl
 refine enter_call (codeAny_mono (call w s₀ s₁ mg mb fa o pm cd doc a vs ns G Y ho (fd_plain hd) hcd hmg hobj hints hlen hg) fun r s' hq=>?_)
 obtain ⟨rfl,h2,h3,h4⟩:=hq
 exact ⟨.inl ⟨.bool true,.bool true,[],rfl,fun _=>rfl,.bool true,Np l _,fun _=>⟨List.Pairwise.nil,fun _ hm=>(nomatch hm)⟩⟩,h2,h3,h4⟩
section
variable {prog:Program} {w:World} {A:Around} {E:Value->Shared->Prop} {s:Shared} {K:Frag}
end
end Att
namespace L2
open PySem PySem.Spec PyProof.Rows
theorem vL:∀ {vs:List Value} {ns:List Int},IntsAre vs ns->Vals (ns.map V.int) vs
 | _,_,.nil=>.nil
 | _,_,.cons n t h=>.cons ⟨t,rfl⟩ (vL h)
noncomputable def Only (H:Hp):Prop:=∀ b,H b = none\/∃ o xs,H b = some (.frz o (.lst xs))
theorem Rf {P:Program} {w:World} {K:Frag} {mg mb:Str->Option Value} {CX:CXT} {k:Nat} {fa a:Addr} {fd:FuncData} {x:Str} {sp:Sp} {s₁:Shared} {vs:List Value} {ns:List Int}
  (KX:K.In s₁.heap) (hns:s₁.heap.Ns mainGlobals mg) (hb:s₁.heap.Ns builtinsNs mb) (hbb:∀ x:Str,x ≠ "__name__" -> mb x = bootBuiltins x) (hlim:s₁.heap.NoLimit) (hg:s₁.gens = #[])
  (ha:s₁.heap.get? a = some { cls:=.type "list",data:=.seq vs.toArray }) (hi:IntsAre vs ns) (hl:ns.length <= sizeLine) (hr:fQ k callerA)
  (F:∀ base:Heap,K.In base->base.Ns mainGlobals mg->cB P w K mg base CX k fa fd [x] sp) (hbind:∀ (s:Shared) (u:Value),BindsTo s fd ⟨[u],[]⟩ [(x,u)])
  (hsp:∀ H:Hp,Only H->SqL K H a (ns.map V.int)->sp [.ref a] H (fun v _=>v = .bl true) fun _ _ _=>False)
  (hCX:∀ H e s',CX [] H s₁ (fun _ _ _=>False) e s'->False) :
  codeAny (model P w) callerA (.call (.ref fa) ⟨[.ref a],[]⟩) (fun r s'=>r = .ok (.ret (.bool true))/\OldK s₁.heap s'.heap/\s'.os = s₁.os/\AllBare s'.gens) s₁:=by
 have rv:=vL hi
 have lenV:=hi.length
 -- from an abstract heap in which nothing but the script may be tracked
 have core:∀ H:Hp,Only H->SqL K H a (ns.map V.int)->HOk P w H s₁.heap->(∀ b,H b ≠ none->b = a)->(H a ≠ none->K.lookup a = none) ->
   codeAny (model P w) callerA (.call (.ref fa) ⟨[.ref a],[]⟩) (fun r s'=>r = .ok (.ret (.bool true))/\OldK s₁.heap s'.heap/\s'.os = s₁.os/\AllBare s'.gens) s₁:=by
  intro H hO hS hok hA hK
  have base_of:∀ {b:Addr} {o:Obj},s₁.heap.get? b = some o->H b = none->(Dd s₁.heap H).get? b = some o:=fun e n=>Rn e n
  have noA:∀ {b:Addr} {o:Obj} {es:Array DictEntry} {ep:Nat},s₁.heap.get? b = some o->o.data = .dict es ep->H b = none:=fun {b o es ep} e d=>by
   cases q:H b with
   | none=>rfl
   | some u =>
    have e':b = a:=hA b (by rw [q]; simp)
    subst e'
    rw [ha] at e; cases e
    have d':Data.seq vs.toArray _ = Data.dict es ep:=d
    cases d'
  have nsK:∀ {b:Addr} {m:Str->Option Value},s₁.heap.Ns b m->(Dd s₁.heap H).Ns b m:=fun {b m} ⟨o,es,ep,e,d,r⟩=>⟨o,es,ep,base_of e (noA e d),d,r⟩
  have hKb:K.In (Dd s₁.heap H):=fun b o e=>base_of (KX b o e) (by
   cases q:H b with
   | none=>rfl
   | some u =>
    have e':b = a:=hA b (by rw [q]; simp)
    subst e'
    rw [hK (by rw [q]; simp)] at e; cases e)
  have hM:Mod K mg (Dd s₁.heap H):=⟨hKb,nsK hns,⟨mb,nsK hb,hbb⟩,let ⟨mc,h1,h2⟩:=hlim; ⟨mc,nsK h1,h2⟩⟩
  have e0:Iz P w K mg (Dd s₁.heap H) callerA [] s₁ H:=⟨rfl,hM,fun b o e=>Vr e,Nat.le_of_eq (NZ _ _),trivial,fun b hb=>absurd (show b ∈ ([] : List Addr) from hb) (by simp),hok,.of_eq hg⟩
  refine codeAny_mono ((F _ hKb (nsK hns)).run callerA [] s₁ H ⟨[.ref a],[]⟩ [.ref a] [.ref a] _ _ hr e0 (hbind s₁ (.ref a)) (.cons rfl .nil) (hsp H hO hS)) fun r s' h=>?_
  cases r with
  | error e=>exact (hCX H e s' h).elim
  | ok fl =>
   cases fl with
   | next=>exact False.elim h
   | brk=>exact False.elim h
   | cont=>exact False.elim h
   | ret u =>
    obtain ⟨v,H',os,bare,un,hok',r',q⟩:=h
    have q':v = .bl true:=q
    subst q'
    obtain rfl:u = Value.bool true:=r'
    refine ⟨rfl,OldK.of_keep fun b o e=>?_,os,bare⟩
    cases q:H b with
    | none=>exact un.keep b o e q (by intro z; exact absurd (show b ∈ ([] : List Addr) from z) (by simp)) (by simp)
    | some u =>
     rcases hO b with z | ⟨ob,xs,z⟩
     .rw [q] at z; cases z
     .have z2:=un.frzs b ob _ z
      obtain ⟨e1,_⟩:=hok b _ z
      obtain ⟨e2,_⟩:=hok' b _ z2
      rw [e] at e1; cases e1
      exact e2
 cases hk:K.lookup a with
 | some o =>
  -- the script is one of the module's own objects
  have e:=KX a o hk
  rw [ha] at e
  cases e
  refine core (fun _=>none) (fun _=>.inl rfl) (.inr ⟨_,vs.toArray,_,hk,rfl,rfl,rfl,by rw [aX,lenV]; exact hl,by simpa using rv⟩) (fun b u z=>by have z':(none:Option HO) = some u:=z; cases z') (fun b z=>absurd rfl z) fun z=>absurd rfl z
 | none =>
  refine core (fun b=>if b = a then some (.frz { cls:=.type "list",data:=.seq vs.toArray } (.lst (ns.map V.int))) else none) (fun b=>?_) (.inl (.inr ⟨{ cls:=.type "list",data:=.seq vs.toArray },if_pos rfl⟩)) (fun b u z=>?_) (fun b z=>?_) fun _=>hk
  .by_cases hb:b = a
   .exact .inr ⟨_,_,if_pos hb⟩
   .exact .inl (if_neg hb)
  .by_cases hb:b = a
   .have z':=(if_pos hb).symm.trans z
    cases z'
    subst hb
    exact ⟨ha,by rw [ak]; exact hl,vs,_,rv,ha⟩
   .have z':=(if_neg hb).symm.trans z
    cases z'
  .by_cases hb:b = a
   .exact hb
   .exact absurd (if_neg hb) z
end L2
namespace L2
open PySem PySem.Spec PyProof.Rows
noncomputable abbrev KOf {K:Frag} {h:Heap} (_:K.In h):Frag:=K
theorem KJ {l:PySem.W.OpenLaw} {n k:Nat} {q:Program} {loose:List Str} {XP:(Str->Option Value)->Heap->Prop} {YP:World->Heap->Prop} {d:DefRec} {K:Params->Frag} {CX:World->CXT} {sp:World->Sp} {x:Str}
  (hn:l.most = some n) (hn2:n <= sizeLine) (hdf:d.params.defaults = []) (hr:fQ k callerA)
  (hY:∀ (w:World) (h:Heap),YP w h->(K w.params).In h)
  (F:∀ (w:World) (mg:Str->Option Value) (fa:Addr) (h:Heap),(K w.params).In h->h.Ns mainGlobals mg->mg d.name = some (.ref fa) ->
   ∃ fd:FuncData,(∀ (s:Shared) (u:Value),BindsTo s fd ⟨[u],[]⟩ [(x,u)]) /\
    ∀ base:Heap,(K w.params).In base->base.Ns mainGlobals mg->cB l.prog w (K w.params) mg base (CX w) k fa fd [x] (sp w))
  (hsp:∀ (w:World) (H:Hp) (a:Addr) (ns:List Int),ns.length <= n->Only H->SqL (K w.params) H a (ns.map V.int)->sp w [.ref a] H (fun v _=>v = .bl true) fun _ _ _=>False)
  (hCX:∀ (w:World) (H:Hp) (s:Shared) (e:Value) (s':Shared),CX w [] H s (fun _ _ _=>False) e s'->False) :
  PySem.W.WalkO q loose XP YP l.row.toRowW d [] (fun f vs=>PySem.call f vs):=by
 refine Att.Gs hn hdf fun w s₀ s₁ mg mb fa o pm cd doc a vs ns G Y ho hd hcd hmg hobj hints hlen hg=>?_
 have KX:=hY w _ Y
 obtain ⟨fd,hb,hF⟩:=F w mg fa _ KX G.T.g hmg
 exact Rf KX G.T.g G.T.b G.T.builtins G.T.nolimit hg hobj hints (aK hlen hn2) hr hF hb (fun H hO hS=>hsp w H a ns hlen hO hS) fun H e s'=>hCX w H s₁ e s'
end L2
/- THE LAST THEOREM (shape; LID,My.* are yours):
   My.Adr: a structure of the addresses that your layer names (classes,functions); My.Txt K t: a structure (Prop) of the equations over K;
   My.txt_mk : {K} {implicit addresses ..} (e1:nsIn K mainGlobals "law" = some (some (.ref f))) (e2:K.lookup f = some ⟨oc,od,.func (fnOf "law" "law" params body scope dV kV doc pm an cdv ct),sl⟩) (e3:codeIn K cdv "law" = true) .. : ∃ t,My.Txt K t
set_option maxRecDepth 100000 in
set_option maxHeartbeats 0 in
theorem PySem.Challenge.cw_LID_holds : PySem.Challenge.rw_LID.Holds := by
 w_on; o_law; k_head; (case hw=>w_witness2)
 k_fill
 refine L2.KJ (l:=PySem.Challenge.rw_LID) (n:=63) (k:=40) (x := "script") (CX:=fun w=>..) (sp:=fun _=>My.acV) rfl (by decide) rfl ⟨rfl,by decide,by decide⟩ (fun w h Y=>PySem.W.kIn_of Y) ?F ?S ?C
 case F =>
  intro w mg fa h KX G hmg
  have T:∃ t,My.Txt (L2.KOf KX) t:=by
   dsimp only [L2.KOf]                          -- K must stand as «<heap const> w.params» for k_is
   refine' My.txt_mk ?e1 ?e2 ?e3 ..
   (case e1=>PySem.W.k_is)                    -- in the order: a name -> its address -> its object -> its parts
   (case e2=>PySem.W.k_is)
   ..
  obtain ⟨t,T⟩:=T
  have e0:=hmg.symm.trans (PySem.W.mg_of KX G T.law)
  cases e0                                       -- fa is the law's own address
  exact ⟨_,fun s u=>.of_eq rfl,fun base kb nb=>My.law_fn T kb nb⟩     -- if «.of_eq rfl» comes too early: refine' ⟨_,?b,fun base kb nb=>My.law_fn T kb nb⟩; exact fun s u=>.of_eq rfl
 case S=>exact fun w H a ns hl hO hS=>..
 case C=>exact ..
(the tactic k_is has no namespace: write k_is) -/
namespace L2
open PySem PySem.Spec PyProof.Rows
noncomputable abbrev CX0:CXT:=fun _ _ _ _ _ _=>False
noncomputable abbrev E0:XK:=fun _ _ _=>False
theorem K9 {X:Cx} : Passes CX0 X E0:=fun _ _ _ _ _ _ _ h=>h.elim
structure Fun (K:Frag) (x qual:Str) (st:Stmt) (f:Addr) (fd:FuncData):Prop where
 ex:∃ (oc:Value) (od:Option Addr) (kV doc pm:Value) (an:Option Addr) (cdv ct:Value) (osl:Array (Option Value)),
  fd = PySem.W.fnOf x qual (iw st) (eG st) (bK st) .none kV doc pm an cdv ct/\K.lookup f = some ⟨oc,od,.func fd,osl⟩/\PySem.W.codeIn K cdv qual = true
 kp:PySem.W.keepIn K (.ref f) = true
section
variable {P:Program} {w:World} {K:Frag} {mg:Str->Option Value} {base:Heap}
theorem Fun.ok {x qual:Str} {st:Stmt} {f:Addr} {fd:FuncData} {N ps:List Str} {k:Nat} {sp:Sp} (F:Fun K x qual st f fd) (S:bT N ps (bK st)) (len:∀ vs H Q E,sp vs H Q E->vs.length = ps.length)
  (hbody:∀ (cdv:Value) (A:Around) (outer:List Env) (s:Shared) (H:Hp) (vs:List V) (Q:VK) (E:XK),fQ k (A.deeper (envOfC qual (bK st) s.heap.objs.size f cdv))->sp vs H Q E ->
   ∃ t,PSs (yX CX0 P w K mg base N qual (bK st) f cdv A outer s H E).nox (eG st) t/\t { nx:=fun _ H'=>Q .non H',rt:=Q } (start N vs) H):cB P w K mg base CX0 (k + 1) f fd ps sp:=by
 obtain ⟨oc,od,kV,doc,pm,an,cdv,ct,osl,rfl,lk,hcd⟩:=F.ex
 refine W0 lk hcd S len fun A outer s H vs Q E hr hsp=>?_
 obtain ⟨t,h,q⟩:=hbody cdv A outer s H vs Q E hr hsp
 exact ⟨t,h.nox,q⟩
theorem PJ {x qual:Str} {st:Stmt} {f:Addr} {oc:Value} {od an:Option Addr} {osl:Array (Option Value)} {kV doc pm cdv ct:Value} (l:K.lookup f = some ⟨oc,od,.func (PySem.W.fnOf x qual (iw st) (eG st) (bK st) .none kV doc pm an cdv ct),osl⟩)
  (c:PySem.W.codeIn K cdv qual = true) (k:PySem.W.keepIn K (.ref f) = true):Fun K x qual st f (PySem.W.fnOf x qual (iw st) (eG st) (bK st) .none kV doc pm an cdv ct):=⟨⟨oc,od,kV,doc,pm,an,cdv,ct,osl,rfl,l,c⟩,k⟩
end
theorem rH {A:Around} {k:Nat} (hr:fQ k A):A.units + 1 < cLine:=Nat.lt_of_le_of_lt (Nat.add_le_add_left (by decide:1 <= 64) _) hr.units
section
variable {X:Cx}
noncomputable def Yc (sc:Scope) (x:Str):Bool:=(sc.names.lookup x).any fun k=>k == .local || k == .cell || k == .free
theorem XD {sc:Scope} {x:Str} (h:Yc sc x = true):Vis sc x:=by
 unfold Yc at h
 unfold Vis
 cases e:sc.names.lookup x with
 | none=>rw [e] at h; cases h
 | some k=>rw [e] at h; cases k <;> first | exact .inl rfl | exact .inr (.inl rfl) | exact .inr (.inr rfl) | cases h
theorem pv (i:Nat) {x:Str} {pos:Pos} (hN:X.N[i]? = some x:=by rfl) (hv:Yc X.env.scope x = true:=by rfl) (hd:(x == ("__debug__" : Str)) = false:=by decide)
  (hcd:(x == ("__classdict__" : Str)) = false:=by decide):PE X (.Name x pos) (sV i):=Xg hN (XD hv) hd hcd
end
theorem VL {c A B:Prop} [Decidable c] (h1:c->A) (h2:¬ c->B):if c then A else B:=by
 by_cases h:c
 .rw [if_pos h]
  exact h1 h
 .rw [if_neg h]
  exact h2 h
noncomputable def Same (H H':Hp):Prop:=∀ b o,H b = some o->H' b = some o
theorem Same.refl (H:Hp):Same H H:=fun _ _ h=>h
theorem Same.trans {H H1 H2:Hp} (a:Same H H1) (b:Same H1 H2):Same H H2:=fun c o h=>b c o (a c o h)
theorem Same.free {H H':Hp} (e:Same H H') {l:Addr} (h:H' l = Option.none):H l = Option.none:=by
 cases q:H l with
 | none=>rfl
 | some o =>
  rw [e l o q] at h
  cases h
end L2
namespace L2
open PySem PySem.Spec PyProof.Rows
noncomputable def Bd (i:Int):Prop:=i.natAbs < 2 ^ 8000
theorem Bd.log2 {i:Int} (h:Bd i):i.natAbs.log2 < 8000:=by
 by_cases h0:i.natAbs = 0
 .rw [h0,Nat.log2_zero]; omega
 .exact (Nat.log2_lt h0).mpr h
theorem Bd.bits {i:Int} (h:Bd i):Builtin.Int.intBits i <= 2 ^ 20:=by
 have e:(2:Nat) ^ 20 = 1048576:=by decide
 have:=h.log2
 unfold Builtin.Int.intBits
 split
 .exact aZ _
 .omega
section
variable {X:Cx}
theorem fD:OpR X (binaryOp .Mult) (rI (fun i j=>Bd i/\Bd j) fun i j=>.int (i * j)):=opI fun _ _ _ _ _ _ _ hc q=>mul_int q (.of_bits hc.1.bits hc.2.bits)
theorem jh:OpR X (binaryOp .FloorDiv) (rI (fun _ j=>j ≠ 0/\Bd j) fun i j=>.int (i.fdiv j)):=opI fun _ _ _ _ _ _ _ hc q=>floordiv_int hc.1 q (.inl (PyProof.noPylong_of_log2 (by have:=hc.2.log2; omega)))
theorem Hx:dU X (.builtin "isinstance") (fun xs H Q=>∃ x c cv t b,xs = [x,c]/\((∃ T,c = .ty T/\cv = Value.type T)\/∃ C,c = .ref C/\cv = Value.ref C)/\wg X.K H x t/\PySem.W.kitOne X.K t cv = some b/\Q (.bl b) H):=by
 intro pins s σ H xs us Q I r h
 obtain ⟨x,c,cv,t,b,rfl,rc,ty,e,q⟩:=h
 obtain ⟨u,v,rfl,ru,rv⟩:=r.two
 have e2:v = cv:=by
  rcases rc with ⟨T,rfl,rfl⟩ | ⟨T,rfl,rfl⟩
  .exact rv
  .exact rv
 subst e2
 exact Mu I ru ty e fun tk=>⟨.bl b,H,I.tok _,rfl,q⟩
theorem Ik:dU X (.builtin "sorted") (fun xs H Q=>∃ l ns,xs = [.ref l]/\SqL X.K H l (ns.map V.int)/\ns.length < 64/\∀ (ms:List Int) p,H p = none->ms.Perm ns->ms.Pairwise (· <= ·)->Q (.ref p) (upd H p (.lst (ms.map V.int)))):=by
 intro pins s σ H xs us Q I r h
 obtain ⟨l,ns,rfl,hl,h64,q⟩:=h
 obtain ⟨u,rfl,ru⟩:=r.one
 cases ru
 obtain ⟨its,rv,p,hz⟩:=I.list hl
 have hI:=intsAre_of rv
 have hlen:its.length = ns.length:=by have:=rv.length; simpa using this.symm
 refine sorted_ints (vs:=its) p.isList hI (by omega) fun out ns' a1 a2 a3=>?_
 obtain ⟨e,he⟩:=sortedAll_at s.heap its out
 have hfr:H (s.heap.objs.size + 1) = none:=I.hok.fresh (Nat.le_succ _)
 refine ⟨.ref _,_,I.laid (a:=s.heap.objs.size + 1) (o:=.lst (ns'.map V.int)) (t':=s.toks) (fun b u e=>sortedAll_old e) (Nat.le_succ _) ?_,rfl,q ns' _ hfr a2 a3⟩
 refine ⟨?_,out.toList,e,vL a1,he⟩
 rw [ak,a2.length_eq]
 rw [ak] at hz
 exact hz
end
section
variable {prog:Program} {w:World} {A:Around} {E:Value->Shared->Prop} {s:Shared}
theorem Bo {it t:Addr} {items:Array Value} (hne:t ≠ it):∀ (n i:Nat) (s:Shared) (Q:List Value->Shared->Prop),s.heap.IsListIter it t i->PlainL s.heap t items->i + n <= items.size ->
  (∀ h',h'.IsListIter it t (i + n)->Heap.SameBut it s.heap h'->Q ((items.toList.drop i).take n) { s with heap:=h' })->wpAny (model prog w) A (draw (.ref it) n) Q E s
 | 0,i,s,Q,hit,_,_,hQ=>by
  show wpAny _ _ (pure []) Q E s
  exact wpAny_pure (by simpa using hQ s.heap hit (Heap.SameBut.refl ..))
 | n + 1,i,s,Q,hit,ht,hle,hQ=>by
  have hlt:i < items.size:=by omega
  show wpAny _ _ (pyNext (.ref it) >>= _) Q E s
  refine wpAny_bind (wpAny_pyNext_list_item hit ht.isList (x:=items[i]) (by simp [hlt]) fun h₁ hit₁ hs₁=>?_)
  have ht₁:PlainL h₁ t items:=by
   obtain ⟨o,k,e,r⟩:=ht
   exact ⟨o,k,(hs₁.2 t hne).trans e,r⟩
  refine wpAny_bind (wpAny_holding (Bo hne n (i + 1) _ _ hit₁ ht₁ (by omega) fun h₂ hit₂ hs₂=>wpAny_pure ?_))
  have hd:items.toList.drop i = items[i] :: items.toList.drop (i + 1):=by simp [List.drop_eq_getElem_cons,hlt]
  have:=hQ h₂ (by rw [show i + (n + 1) = i + 1 + n by omega]; exact hit₂) (hs₁.trans hs₂)
  rw [hd,List.take_succ_cons] at this
  exact this
theorem vK {t:Addr} {items:Array Value} {Q:List Value->Shared->Prop} (hh:A.handled = none) (ht:PlainL s.heap t items)
  (hQ:∀ h',Heap.ExtBut s.heap.objs.size s.heap h'->Q items.toList { s with heap:=h' }):wpAny (model prog w) A (unpackItems (.ref t) items.size none) Q E s:=by
 have hlt:t ≠ s.heap.objs.size:=by obtain ⟨o,_,ho,_⟩:=ht; exact aP (aH ho)
 unfold unpackItems
 refine wpAny_bind ?_
 .unfold notIterableAtAll
  refine wpAny_bind (wpAny_specialOf ht.isList.typeIs slot_list_iter.lookup ?_)
  refine wpAny_pure ?_
  simp only [Bool.false_eq_true,if_false]
  refine wpAny_bind (wpAny_holding (wpAny_pyIter_list ht.isList ?_))
  have ht0:PlainL (s.heap.push { cls:=.type "list_iterator",data:=.fields #[.ref t,.int 0 0] }) t items:=by
   obtain ⟨o,k,e,r⟩:=ht
   exact ⟨o,k,aF _ e,r⟩
  refine wpAny_bind (wpAny_holding (Bo hlt items.size 0 _ _ ⟨_,aW _ rfl,rfl,rfl⟩ ht0 (by omega) fun h₁ hit₁ hs₁=>?_))
  have hall:List.take items.size (List.drop 0 items.toList) = items.toList:=by
   rw [List.drop_zero]; exact aJ (by simp)
  rw [hall]
  rw [if_neg (by simp)]
  have ht₁:PlainL h₁ t items:=by
   obtain ⟨o,k,e,r⟩:=ht0
   exact ⟨o,k,(hs₁.2 t hlt).trans e,r⟩
  refine wpAny_bind (wpAny_holding (wpAny_pyNext_list_end hh hit₁ ht₁.isList (by simp) fun h₂ he₂=>?_))
  simp only [Option.isSome_none,Bool.false_eq_true,if_false]
  refine wpAny_pure (hQ h₂ fun b o hb e=>he₂ b o hb (hs₁.extBut b o hb (aF _ e)))
theorem uZ {env:Env} {elts:List Expr} {x1} {pos:Pos} {t:Addr} {items:Array Value} {Q:Unit->Shared->Prop} (hh:A.handled = none) (ht:PlainL s.heap t items)
  (hn:(assignEach elts env).length = items.size) (hstar:(assignEach elts env).findIdx? (·.1) = none)
  (h:∀ h',Heap.ExtBut s.heap.objs.size s.heap h'->wpAny (model prog w) A (assignInOrder ((assignEach elts env).map (·.2)) items.toList) Q E { s with heap:=h' }) :
  wpAny (model prog w) A (assign (.Tuple elts x1 pos) env (.ref t)) Q E s:=by
 rw [assign_Tuple]
 refine wpAny_bind (wpAny_standAt ?_)
 unfold unpack
 rw [hn,hstar]
 exact wpAny_bind (wpAny_holding (vK hh ht h))
end
section
variable {X:Cx} {pos:Pos}
noncomputable def Z0 (K:Frag) (n:Nat) (t:TGs):TG:=fun v σ H Q=>∃ a xs,v = .ref a/\SqL K H a xs/\xs.length = n/\t xs σ H Q
theorem V5 {es:List Expr} {k:Nat} {t:TGs} {n:Nat} (hc:X.calm = true) (h:PGs X es t)
  (hn:(assignEach es X.env).length = n:=by rfl) (hst:(assignEach es X.env).findIdx? (·.1) = none:=by rfl):PG X (.Tuple es k pos) (Z0 X.K n t):=by
 intro pins s σ H v u Q I r hw
 obtain ⟨a,xs,e1,hq,hl,hw⟩:=hw
 subst e1
 cases r
 obtain ⟨its,rv,ht,hz⟩:=I.list hq
 refine uZ (I.ok.hd hc) ht (by simp [hn,<- hl,rv.length]) hst fun h' hx=>?_
 have I1:Inv X pins σ H { s with heap:=h' }:=I.kept (t':=s.toks) fun b o e=>hx b o (aP (aH e)) e
 exact h pins _ σ H xs _ Q I1 (by simpa using rv) hw
end
theorem cQ.btw {P:Program} {w:World} {H H2 H':Hp} {h h':Heap} {a:Addr} {o:HO} (x:cQ P w H h a o) (y:cQ P w H' h' a o) (s1:Same H H2):cQ P w H2 h' a o:=by
 induction o with
 | ins C dx fs=>exact ⟨s1 dx _ x.1,y.2⟩
 | frz ob u ih=>exact ⟨y.1,ih x.2 y.2⟩
 | _=>exact y
noncomputable def Plus (H H2:Hp):Prop:=Same H H2/\∀ a o,H2 a = some o->H a = some o\/(∃ xs,o = .tup xs)\/∃ xs,o = .lst xs
theorem Plus.refl (H:Hp):Plus H H:=⟨Same.refl H,fun _ _ e=>.inl e⟩
theorem Plus.tup {H H1:Hp} {p:Addr} {xs:List V} (h:Plus H H1) (hp:H1 p = none):Plus H (upd H1 p (.tup xs)):=by
 refine ⟨fun b o e=>?_,fun a o e=>?_⟩
 .rw [bG (bB (h.1 b o e) hp)]; exact h.1 b o e
 .by_cases z:a = p
  .subst z; rw [bD] at e; cases e; exact .inr (.inl ⟨xs,rfl⟩)
  .rw [bG z] at e; exact h.2 a o e
theorem cB.forget {P:Program} {w:World} {K:Frag} {mg:Str->Option Value} {base:Heap} {CX:CXT} {k:Nat} {f:Addr} {fd:FuncData} {ps:List Str} {sp sp':Sp} (F:cB P w K mg base CX k f fd ps sp)
  (hs:∀ vs H Q E,sp' vs H Q E->∃ Q',sp vs H Q' E/\∀ v H',Q' v H'->∃ H2,Plus H H2/\Same H2 H'/\Q v H2):cB P w K mg base CX k f fd ps sp':=by
 refine ⟨fun vs H Q E h=>?_,fun A outer s H args us vs Q E hr e0 hb r h=>?_⟩
 .obtain ⟨Q',h',_⟩:=hs vs H Q E h
  exact F.len vs H Q' E h'
 obtain ⟨Q',h',hq⟩:=hs vs H Q E h
 refine codeAny_mono (F.run A outer s H args us vs _ E hr e0 hb r h') fun res s' hs=>?_
 cases res with
 | error e=>exact hs
 | ok fl =>
  cases fl with
  | ret u =>
   obtain ⟨v,H',ho,hbr,un,hok,rv,q'⟩:=hs
   obtain ⟨H2,⟨s1,cl⟩,s2,q⟩:=hq v H' q'
   have fr:∀ b,H' b = none->H2 b = none:=fun b e=>s2.free e
   refine ⟨v,H2,ho,hbr,⟨un.keep,un.slot,fun b o e n hx=>fr b (un.free b o e n hx),un.there,fun b xs e=>s1 b _ e,fun b o u e=>s1 b _ e,fun b ps e=>⟨#[],by rw [s1 b _ e]; simp⟩⟩,fun a o e=>?_,rv,q⟩
   have z:=hok a o (s2 a o e)
   rcases cl a o e with c | ⟨xs,rfl⟩ | ⟨xs,rfl⟩
   .exact (e0.hok a o c).btw z s1
   .exact z
   .exact z
  | next=>exact hs
  | brk=>exact hs
  | cont=>exact hs
theorem cB.clean {P:Program} {w:World} {K:Frag} {mg:Str->Option Value} {base:Heap} {CX:CXT} {k:Nat} {f:Addr} {fd:FuncData} {ps:List Str} {sp sp':Sp} (F:cB P w K mg base CX k f fd ps sp)
  (h:∀ vs H Q E,sp' vs H Q E->sp vs H (fun v H'=>Same H H'/\Q v H) E):cB P w K mg base CX k f fd ps sp' :=
 F.forget fun vs H Q E hs=>⟨_,h vs H Q E hs,fun v H' ⟨s,q⟩=>⟨H,Plus.refl H,s,q⟩⟩
theorem Same.upd {H:Hp} {p:Addr} {o:HO} (hp:H p = none):Same H (upd H p o):=fun b u e=>by
 rw [bG (bB e hp)]; exact e
theorem cB.cleanP {P:Program} {w:World} {K:Frag} {mg:Str->Option Value} {base:Heap} {CX:CXT} {k:Nat} {f:Addr} {fd:FuncData} {ps:List Str} {sp sp':Sp} (F:cB P w K mg base CX k f fd ps sp)
  (h:∀ vs H Q E,sp' vs H Q E->sp vs H (fun v H'=>Same H H'/\∃ p xs,H' p = some (.tup xs)/\H p = none/\Q v (upd H p (.tup xs))) E):cB P w K mg base CX k f fd ps sp' :=
 F.forget fun vs H Q E hs=>⟨_,h vs H Q E hs,fun v H' ⟨s,p,xs,e,z,q⟩=>by
  refine ⟨_,(Plus.refl H).tup (xs:=xs) z,fun b o y=>?_,q⟩
  by_cases c:b = p
  .subst c; rw [bD] at y; cases y; exact e
  .rw [bG c] at y; exact s b o y⟩
section
variable {X:Cx}
theorem IxR.imp {r r':R2} (h:IxR X r) (i:∀ x y H Q,r' x y H Q->r x y H Q):IxR X r':=by
 intro b pos pins s σ H x y v u Q I rx ry q hs
 exact h _ _ _ _ _ _ _ _ _ _ _ I rx ry (i _ _ _ _ q) hs
noncomputable def KC:R2:=fun x y H Q=>∃ p xs i v,x = .ref p/\y = .int i/\H p = some (.tup xs)/\atI xs i = some v/\Q v H
noncomputable def Ia:R2:=fun x y H Q=>∃ p xs i v,x = .ref p/\y = .int i/\H p = some (.lst xs)/\atI xs i = some v/\Q v H
theorem eN:IxR X KC:=fL.imp fun x y H Q ⟨p,xs,i,v,a,b,c,d⟩=>⟨p,xs,i,v,a,b,.of c,d⟩
theorem bM:IxR X Ia:=Vh.imp fun x y H Q ⟨p,xs,i,v,a,b,c,d⟩=>⟨p,xs,i,v,a,b,.of c,d⟩
theorem fV {α:Type} {x:α} {xs:List α} : atI (x :: xs) 0 = some x:=bR (j:=0) rfl
theorem eE {α:Type} {x y:α} {xs:List α} : atI (x :: y :: xs) 1 = some y:=bR (j:=1) rfl
theorem dU.imp {f:Value} {r r':List V->Hp->VK->Prop} (h:dU X f r) (i:∀ xs H Q,r' xs H Q->r xs H Q):dU X f r':=fun pins s σ H xs us Q I rx q=>h pins s σ H xs us Q I rx (i _ _ _ q)
noncomputable def Pj:List V->Hp->VK->Prop:=fun xs H Q=>∃ p ys,xs = [.ref p]/\H p = some (.tup ys)/\Q (.int ys.length) H
noncomputable def Lb:List V->Hp->VK->Prop:=fun xs H Q=>∃ p ys,xs = [.ref p]/\H p = some (.lst ys)/\Q (.int ys.length) H
theorem cA:dU X (.builtin "len") Lb:=vh.imp fun xs H Q ⟨p,ys,a,b,c⟩=>⟨p,ys,a,.inl (.of b),c⟩
noncomputable def tyS (H:Hp):V->Option String
 | .non=>some "NoneType"
 | .bl _=>some "bool"
 | .int _=>some "int"
 | .str _=>some "str"
 | .ref a=>match H a with
  | some (.lst _)=>some "list"
  | some (.tup _)=>some "tuple"
  | some (.dK _)=>some "dict"
  | _=>none
 | _=>none
theorem Xj {K:Frag} {H:Hp} {x:V} {t:String} (h:tyS H x = some t):wg K H x (.type t):=by
 cases x with
 | non=>cases h; exact .non
 | bl=>cases h; exact .bl _
 | int=>cases h; exact .int _
 | str=>cases h; exact .str _
 | byt=>cases h
 | flt=>cases h
 | ty=>cases h
 | ref a =>
  have h:(match H a with
   | some (.lst _)=>some "list"
   | some (.tup _)=>some "tuple"
   | some (.dK _)=>some "dict"
   | _=>none) = some t:=h
  split at h
  .cases h; exact .lst (by assumption)
  .cases h; exact .tup (by assumption)
  .cases h; exact .dK (by assumption)
  .cases h
noncomputable def HN (t T:String):Bool:=(t == T) || (t == "bool" && T == "int")
theorem Le {K:Frag} {t T:String} (ht:t ∈ ["NoneType", "bool", "int", "str", "list", "tuple", "dict"]) (hT:T ∈ ["bool", "int", "str", "list", "tuple", "dict"]):PySem.W.kitOne K (.type t) (.type T) = some (HN t T):=by
 simp only [List.mem_cons,List.not_mem_nil,or_false] at ht hT
 rcases ht with rfl | rfl | rfl | rfl | rfl | rfl | rfl <;> rcases hT with rfl | rfl | rfl | rfl | rfl | rfl <;> with_unfolding_all rfl
theorem O1 {H:Hp} {x:V} {t:String} (h:tyS H x = some t):t ∈ ["NoneType", "bool", "int", "str", "list", "tuple", "dict"]:=by
 cases x with
 | non=>cases h; decide
 | bl=>cases h; decide
 | int=>cases h; decide
 | str=>cases h; decide
 | byt=>cases h
 | flt=>cases h
 | ty=>cases h
 | ref a =>
  have h:(match H a with
   | some (.lst _)=>some "list"
   | some (.tup _)=>some "tuple"
   | some (.dK _)=>some "dict"
   | _=>none) = some t:=h
  split at h <;> cases h <;> decide
noncomputable def TQ:List V->Hp->VK->Prop:=fun xs H Q=>∃ x T t,xs = [x,.ty T]/\T ∈ ["bool", "int", "str", "list", "tuple", "dict"]/\tyS H x = some t/\Q (.bl (HN t T)) H
theorem jw:dU X (.builtin "isinstance") TQ:=Hx.imp fun xs H Q ⟨x,T,t,a,b,c,d⟩=>⟨x,.ty T,.type T,.type t,_,a,.inl ⟨T,rfl,rfl⟩,Xj c,Le (O1 c) b,d⟩
theorem PG.imp {e:Expr} {t t':TG} (h:PG X e t) (i:∀ v σ H Q,t' v σ H Q->t v σ H Q):PG X e t':=fun pins s σ H v u Q I r q=>h pins s σ H v u Q I r (i _ _ _ _ q)
noncomputable def K5 (n:Nat) (t:TGs):TG:=fun v σ H Q=>∃ a xs,v = .ref a/\H a = some (.tup xs)/\xs.length = n/\t xs σ H Q
noncomputable def Lj (n:Nat) (t:TGs):TG:=fun v σ H Q=>∃ a xs,v = .ref a/\H a = some (.lst xs)/\xs.length = n/\t xs σ H Q
theorem iT {es:List Expr} {k:Nat} {t:TGs} {n:Nat} {pos:Pos} (hc:X.calm = true) (h:PGs X es t) (hn:(assignEach es X.env).length = n:=by rfl) (hst:(assignEach es X.env).findIdx? (·.1) = none:=by rfl):PG X (.Tuple es k pos) (K5 n t) :=
 (X3 hc h hn hst).imp fun v σ H Q ⟨a,xs,e1,e2,e3⟩=>⟨a,xs,e1,.of e2,e3⟩
theorem Tw {es:List Expr} {k:Nat} {t:TGs} {n:Nat} {pos:Pos} (hc:X.calm = true) (h:PGs X es t) (hn:(assignEach es X.env).length = n:=by rfl) (hst:(assignEach es X.env).findIdx? (·.1) = none:=by rfl):PG X (.Tuple es k pos) (Lj n t) :=
 (V5 hc h hn hst).imp fun v σ H Q ⟨a,xs,e1,e2,e3⟩=>⟨a,xs,e1,.of e2,e3⟩
noncomputable def Mf:List V->Hp->VK->Prop:=fun xs H Q=>∃ l ns,xs = [.ref l]/\H l = some (.lst (ns.map V.int))/\ns.length < 64/\∀ (ms:List Int) p,H p = none->ms.Perm ns->ms.Pairwise (· <= ·)->Q (.ref p) (upd H p (.lst (ms.map V.int)))
theorem M4:dU X (.builtin "sorted") Mf:=Ik.imp fun xs H Q ⟨l,ns,a,b,c⟩=>⟨l,ns,a,.of b,c⟩
theorem FJ {H:Hp} : tyS H .non = some "NoneType" := rfl
theorem JW {H:Hp} {b:Bool} : tyS H (.bl b) = some "bool" := rfl
theorem uq {H:Hp} {i:Int} : tyS H (.int i) = some "int" := rfl
theorem DW {H:Hp} {x:Str} : tyS H (.str x) = some "str" := rfl
theorem j5 {H:Hp} {p:Addr} {xs:List V} (h:H p = some (.lst xs)):tyS H (.ref p) = some "list" := by
 show (match H p with
   | some (.lst _)=>some "list"
   | some (.tup _)=>some "tuple"
   | some (.dK _)=>some "dict"
   | _=>none) = _
 rw [h]
noncomputable def O6:V->Option Bool
 | .bl b=>some b
 | .int i=>some (i != 0)
 | .non=>some false
 | _=>none
theorem Ut {K:Frag} {x:V} {H:Hp} {k:Bool} (h:O6 x = some k):Zk K x H k:=by
 cases x <;> cases h <;> rfl
noncomputable def Wa (ta:TE):TT:=fun σ H Q=>ta σ H fun x H'=>∃ k,O6 x = some k/\Q k H'
theorem cX {a:Expr} {ta:TE} (ha:PE X a ta) (he:∀ whole,isTrue a X.env whole = (do let v <- whole; standAt a.pos; holding [v] (truthy v))):PT X a (Wa ta):=by
 intro pins s σ H Q I h
 exact isTrue_plain (thn (ha pins s σ H _ I h) fun v s1 ⟨x,H1,I1,r1,k,e,q1⟩=>Yu pins s1 σ H1 x v Q I1 r1 ⟨k,Ut e,q1⟩) (he _)
end
section
variable {X:Cx} {st:Stmt} {rest:List Stmt} {t u:TS}
end
noncomputable def OkF (P:Program) (w:World) (K:Frag) (mg:Str->Option Value) (base:Heap) (k:Nat) (x:Str) (ps:List Str) (sp:Sp):Prop :=
 ∃ f fd,cB P w K mg base CX0 k f fd ps sp/\Binds K fd ps []/\mg x = some (.ref f)/\PySem.W.keepIn K (.ref f) = true
noncomputable def dM (K:Frag) (mg:Str->Option Value) (x:Str) (st:Stmt) (ps:List Str):Prop :=
 ∃ f fd,Fun K x x st f fd/\(∀ us:List Value,us.length = ps.length->bindArgs fd ⟨us,[]⟩ = pure (ps.zip us))/\mg x = some (.ref f)
theorem dM.ok {P:Program} {w:World} {K:Frag} {mg:Str->Option Value} {base:Heap} {k:Nat} {x:Str} {st:Stmt} {ps:List Str} {sp:Sp} (h:dM K mg x st ps)
  (hf:∀ f fd,Fun K x x st f fd->cB P w K mg base CX0 k f fd ps sp):OkF P w K mg base k x ps sp:=by
 obtain ⟨f,fd,a,b,c⟩:=h
 exact ⟨f,fd,hf f fd a,.all b,c,a.kp⟩
theorem Wq {K:Frag} {h:Heap} {mg:Str->Option Value} {x:Str} {st:Stmt} {ps:List Str} {f:Addr} {oc:Value} {od an:Option Addr} {osl:Array (Option Value)} {kV doc pm cdv ct:Value} (X:K.In h) (G:h.Ns mainGlobals mg)
  (a:PySem.W.nsIn K mainGlobals x = some (some (.ref f))) (l:K.lookup f = some ⟨oc,od,.func (PySem.W.fnOf x x (iw st) (eG st) (bK st) .none kV doc pm an cdv ct),osl⟩)
  (c:PySem.W.codeIn K cdv x = true) (k:PySem.W.keepIn K (.ref f) = true)
  (hb:∀ (kV doc pm:Value) (an:Option Addr) (cdv ct:Value) (us:List Value),us.length = ps.length->bindArgs (PySem.W.fnOf x x (iw st) (eG st) (bK st) .none kV doc pm an cdv ct) ⟨us,[]⟩ = pure (ps.zip us)):dM K mg x st ps :=
 ⟨f,_,PJ l c k,hb kV doc pm an cdv ct,PySem.W.mg_of X G a⟩
noncomputable def K6 (K:Frag):Sp:=fun vs H Q _=>∃ (a:Addr) (ns:List Int),vs = [.ref a]/\SqL K H a (ns.map V.int)/\ns.length <= 63/\Only H/\∀ H',Q (.bl true) H'
theorem aat {l:PySem.W.OpenLaw} {k:Nat} {x:Str} {q:Program} {loose:List Str} {XP:(Str->Option Value)->Heap->Prop} {YP:World->Heap->Prop} {d:DefRec} {K:Params->Frag} (hn:l.most = some 63) (hdf:d.params.defaults = [])
  (hr:fQ k callerA) (hY:∀ (w:World) (h:Heap),YP w h->(K w.params).In h)
  (F:∀ (w:World) (mg:Str->Option Value) (fa:Addr) (h:Heap),(K w.params).In h->h.Ns mainGlobals mg->mg d.name = some (.ref fa) ->
   ∃ st,dM (K w.params) mg d.name st [x]/\∀ (base:Heap) (f:Addr) (fd:FuncData),Fun (K w.params) d.name d.name st f fd->cB l.prog w (K w.params) mg base CX0 k f fd [x] (K6 (K w.params))) :
  PySem.W.WalkO q loose XP YP l.row.toRowW d [] (fun f vs=>PySem.call f vs):=by
 refine L2.KJ (n:=63) (k:=k) (x:=x) (CX:=fun _=>CX0) (sp:=fun w=>K6 (K w.params)) hn (by decide) hdf hr hY (fun w mg fa h KX G hmg=>?_) (fun _ _ a ns hl hO hS=>⟨a,ns,rfl,hS,hl,hO,fun _=>rfl⟩) fun _ _ _ _ _ z=>z
 obtain ⟨st,⟨f,fd,hf,hb,hm⟩,ok⟩:=F w mg fa h KX G hmg
 rw [hm] at hmg
 have e:f = fa:=by injection hmg with z; injection z
 subst e
 exact ⟨fd,fun s u=>.of_eq (hb [u] rfl),fun base _ _=>ok base f fd hf⟩
section
variable {X:Cx} {p pos:Pos} {e:Expr} {es:List Expr} {t:TA} {x:Str} {k:Nat} {ps:List Str} {sp:Sp}
noncomputable def v9 (sp:Sp) (t:TA):TE:=fun σ H Q=>t σ H fun vs H1=>sp vs H1 Q E0
theorem bL (G:OkF X.prog X.w X.K X.mg X.base k x ps sp) (hr:fQ k X.A) (hg:Gl X x) (ha:PA X (e :: es) t) (hdb:(x == ("__debug__" : Str)) = false:=by decide)
  (he:starEach (e :: es) X.env = (false,eval e X.env) :: starEach es X.env:=by rfl) (hpl:(backTo pos (starEach es X.env)).any (·.1) = false:=by rfl):PE X (.Call (.Name x p) (e :: es) [] pos) (v9 sp t):=by
 obtain ⟨f,fd,F,b,hm,kp⟩:=G
 intro pins s σ H Q I h
 refine Vz F hr hg hm kp b .nil K9 ha hdb he hpl pins s σ H Q I ?_
 show t σ H fun vs H1=>sp (vs ++ []) H1 Q E0
 simp only [List.append_nil]
 exact h
end
theorem FT (a:Int):(if a < 0 then -a else a) = ((a.natAbs:Nat):Int):=by split <;> omega
theorem SJ {ms:List Int} {x y:Int} (h:ms.Perm [x,y]):ms = [x,y]\/ms = [y,x]:=by
 match ms,h.length_eq with
 | [l,k],_ =>
  have h1:l ∈ [x,y]:=h.mem_iff.mp (by simp)
  simp only [List.mem_cons,List.not_mem_nil,or_false] at h1
  rcases h1 with rfl | rfl
  .have h2:=(List.perm_cons l).mp h
   have h3:=h2.mem_iff.mp (aM)
   simp only [List.mem_cons,List.not_mem_nil,or_false] at h3
   exact .inl (by rw [h3])
  .have h2:=(List.perm_cons l).mp (h.trans (List.Perm.swap ..))
   have h3:=h2.mem_iff.mp (aM)
   simp only [List.mem_cons,List.not_mem_nil,or_false] at h3
   exact .inr (by rw [h3])
theorem t_ (a b:Nat):Int.fmod (a:Int) (b:Int) = ((a % b:Nat):Int):=by
 rw [aV _ (Int.natCast_nonneg b)]; rfl
theorem mj (a:Int) {b:Int} (h:0 < b):Int.fdiv a b = a / b:=Int.fdiv_eq_ediv_of_nonneg a (Int.le_of_lt h)
theorem Bd.div {a b:Int} (h:Bd a) (hb:0 < b):Bd (a / b):=by
 unfold Bd at *
 refine Nat.lt_of_le_of_lt ?_ h
 have e:=Int.mul_ediv_add_emod a b
 have r0:=Int.emod_nonneg a (show b ≠ 0 by omega)
 have r1:=Int.emod_lt_of_pos a hb
 generalize a / b = q at *
 generalize a % b = r at *
 rcases (by omega:q = 0\/1 <= q\/q <= -1) with z | z | z
 .subst z; simp
 .have:=Int.mul_le_mul_of_nonneg_right (show 1 <= b by omega) (show 0 <= q by omega)
  omega
 .have h1:b * (q + 1) <= 1 * (q + 1):=Int.mul_le_mul_of_nonpos_right (show 1 <= b by omega) (show q + 1 <= 0 by omega)
  rw [Int.mul_add] at h1
  omega
end L2
namespace L2
open PySem PySem.Spec PyProof.Rows
noncomputable def TrD (h base:Heap) (e:Addr) (cls:Value) (d:Option Addr) (fl:Value):Prop :=
 ∃ oe vs T oT ts,h.get? e = some oe/\(oe.cls = cls/\oe.dict = d)/\oe.data = .fields vs/\vs[1]? = some (.ref T)/\base.get? T = none/\T ≠ e/\h.get? T = some oT/\oT.data = .fields ts/\ts[3]? = some fl
noncomputable def oN (base:Heap) (l:List Env) (e:Addr) (cls:Value) (d:Option Addr) (fl:Value) (h:Heap):Prop :=
 base.StaysIn h/\base.get? e = none/\h.FunFrames base l/\TrD h base e cls d fl
theorem oN.first {base h:Heap} {l:List Env} {e:Addr} {cls fl:Value} {d:Option Addr} (x:oN base l e cls d fl h):∃ oe vs,h.get? e = some oe/\oe.cls = cls/\oe.dict = d/\oe.data = .fields vs :=
 let ⟨_,_,_,oe,vs,_,_,_,he,hc,hd,_⟩:=x; ⟨oe,vs,he,hc.1,hc.2,hd⟩
section
variable {M:Model} {A:Around} {E:Value->Shared->Prop} {s:Shared} {base:Heap} {env:Env} {outer l:List Env} {L e:Addr} {cls:Value} {d:Option Addr} {Q:Unit->Shared->Prop}
theorem xW (o:Obj) (f:Array Value->Array Value):(Obj.mapFields f o).dict = o.dict:=by
 unfold Obj.mapFields
 split <;> rfl
theorem P0 {oe:Obj} {vs:Array Value} {head:Value} {hadNext:Bool} (hfr:A.frames = some (env :: outer)) (hl:s.heap.FunFrames base (env :: outer)) (hf:env.frame = some L) (he:s.heap.get? e = some oe)
  (hkb:base.StaysIn s.heap) (hen:base.get? e = none) (hd:oe.data = .fields vs) (hsz:1 < vs.size) (h:∀ h',oN base (env :: outer) e oe.cls oe.dict (rawInt L) h'->s.heap.UpToSlots h'->Q () { s with heap:=h' }) :
  wpAny M A (do let a <- frameOf env; let pl <- entryPlaceOf L hadNext; let b <- EntryCells.newEntry head a .none (rawInt L) .none pl; setField (.ref e) 1 b) Q E s:=by
 have nofr:e ∉ (env :: outer).filterMap (·.frame):=fun z=>by
  obtain ⟨_,o,ho,hnf⟩:=hl.mem z
  rw [he] at ho; cases ho; exact hnf vs hd
 refine wpAny_bind (wpAny_frameOf_fun hfr hl hf fun g hg=>wpAny_bind (wpAny_entryPlaceOf fun pl hpl=>?_))
 unfold EntryCells.newEntry newFields
 refine wpAny_bind (wpAny_newObj_type ?_ (hpl.sizeOk5 _ _ _ _ _))
 have eg:g.get? e = some oe:=(hg.2.1 e nofr).trans he
 have kg:base.StaysIn g:=fun b o q=>(hg.2.1 b fun z=>by rw [(hl.mem z).1] at q; cases q).trans (hkb b o q)
 generalize ho':({ cls:=.type "traceback",dict:=none,data:=.fields ([head,.ref L,.none,rawInt L,.none] ++ (if pl.isEmpty then List.replicate 6 Value.none else pl)).toArray } : Obj) = ot
 have nTe:g.objs.size ≠ e:=Nat.ne_of_gt (aH eg)
 have e2:(g.push ot).get? e = some oe:=aF _ eg
 refine wpAny_setField e2 hd hsz (h _ ?_ ?_)
 all_goals
  have d3:=Obj.data_mapFields hd (·.setIfInBounds 1 (Value.ref g.objs.size))
  have e3:=Heap.get?_update_self (Obj.mapFields (·.setIfInBounds 1 (Value.ref g.objs.size))) e2 (Obj.isFreed_of_fields d3)
  have keep:∀ b o,b ≠ e->g.get? b = some o->((g.push ot).update e (Obj.mapFields (·.setIfInBounds 1 (Value.ref g.objs.size)))).get? b = some o:=fun b o nb q=>by
   rw [Heap.get?_update_other _ _ (Ne.symm nb)]; exact aF _ q
  have nr:∀ b o,s.heap.get? b = some o->(∀ ws,o.data ≠ .fields ws)->b ≠ e:=fun b o q nf z=>by
   rw [z,he] at q; cases q; exact nf vs hd
 .refine ⟨fun b o q=>keep b o (fun z=>by rw [z,hen] at q; cases q) (kg b o q),hen,hl.of_keeps fun b o q nf=>?_,?_⟩
  .obtain ⟨sl,z⟩:=hg.2.2 b o q
   exact ⟨_,keep b _ (nr b o q nf) z,rfl⟩
  .refine ⟨_,_,g.objs.size,ot,_,e3,⟨Obj.cls_mapFields _ _,xW _ _⟩,d3,by simp [hsz],kg.fresh,nTe,?_,by rw [<- ho'],?_⟩
   .rw [Heap.get?_update_other _ _ (Ne.symm nTe)]; exact aW g (by rw [<- ho']; rfl)
   .first | (simp; done) | (rcases hpl with rfl | ⟨_,_,_,_,_,_,_,rfl⟩ <;> simp)
 .intro b o q nf
  obtain ⟨sl,z⟩:=hg.2.2 b o q
  exact ⟨sl,keep b _ (nr b o q nf) z⟩
theorem JN {oe:Obj} {vs:Array Value} (hfr:A.frames = some (env :: outer)) (hl:s.heap.FunFrames base (env :: outer)) (hf:env.frame = some L) (he:s.heap.get? e = some oe)
  (hkb:base.StaysIn s.heap) (hen:base.get? e = none) (hd:oe.data = .fields vs) (h1:vs[1]? = some .none) (h:∀ h',oN base (env :: outer) e oe.cls oe.dict (rawInt L) h'->s.heap.UpToSlots h'->Q () { s with heap:=h' }) :
  wpAny M A (noteFrame (.ref e) env) Q E s:=by
 unfold noteFrame
 simp only [hf]
 refine wpAny_bind (wpAny_field he hd h1 ?_)
 rw [if_neg (by decide)]
 exact P0 hfr hl hf he hkb hen hd (Array.getElem?_eq_some_iff.mp h1).1 h
theorem BZ (hfr:A.frames = some (env :: outer)) (hf:env.frame = some L) (x:oN base (env :: outer) e cls d .none s.heap)
  (h:∀ h',oN base (env :: outer) e cls d (rawInt L) h'->s.heap.UpToSlots h'->Q () { s with heap:=h' }):wpAny M A (noteFrame (.ref e) env) Q E s:=by
 obtain ⟨hkb,hen,hl,oe,vs,T,oT,ts,he,⟨hc,hdd⟩,hd,h1,nT,nTe,hT,hdT,h3⟩:=x
 subst hc hdd
 unfold noteFrame
 simp only [hf]
 refine wpAny_bind (wpAny_field he hd h1 ?_)
 rw [if_pos (show (Value.ref T != Value.none) = true from by simp)]
 refine wpAny_bind (wpAny_field hT hdT h3 ?_)
 rw [if_neg (show ¬ ((Value.none == rawInt L) = true) from by simp [rawInt])]
 refine wpAny_bind (wpAny_setField hT hdT (Array.getElem?_eq_some_iff.mp h3).1 ?_)
 have other:∀ b,b ≠ T->(s.heap.update T (Obj.mapFields (·.setIfInBounds 3 Value.none))).get? b = s.heap.get? b:=fun b hb=>Heap.get?_update_other _ _ (Ne.symm hb)
 have nr:∀ b o,s.heap.get? b = some o->(∀ ws,o.data ≠ .fields ws)->b ≠ T:=fun b o q nf z=>by
  rw [z,hT] at q; cases q; exact nf ts hdT
 refine P0 (s:={ s with heap:=_ }) hfr (hl.of_keeps fun b o q nf=>⟨o,(other b (nr b o q nf)).trans q,rfl⟩) hf ((other e (Ne.symm nTe)).trans he)
  (fun b o q=>(other b fun z=>by rw [z,nT] at q; cases q).trans (hkb b o q)) hen hd (Array.getElem?_eq_some_iff.mp h1).1 fun h' y up=>h h' y fun b o q nf=>up b o ((other b (nr b o q nf)).trans q) nf
theorem K8 {fl:Value} (x:oN base l e cls d fl s.heap) (h:∀ h',oN base l e cls d .none h'->s.heap.UpToSlots h'->Q () { s with heap:=h' }):wpAny M A (setFlight (.ref e) none) Q E s:=by
 obtain ⟨hkb,hen,hl,oe,vs,T,oT,ts,he,hc,hd,h1,nT,nTe,hT,hdT,h3⟩:=x
 have z3:3 < ts.size:=(Array.getElem?_eq_some_iff.mp h3).1
 have other:∀ b,b ≠ T->(s.heap.update T (Obj.mapFields (·.setIfInBounds 3 ((none:Option Addr).elim Value.none fun f=>rawInt f)))).get? b = s.heap.get? b:=fun b hb=>Heap.get?_update_other _ _ (Ne.symm hb)
 have nr:∀ b o,s.heap.get? b = some o->(∀ ws,o.data ≠ .fields ws)->b ≠ T:=fun b o q nf z=>by
  rw [z,hT] at q; cases q; exact nf ts hdT
 unfold setFlight
 refine wpAny_bind (wpAny_field he hd h1 ?_)
 rw [if_pos (show (Value.ref T != Value.none) = true from by simp)]
 refine wpAny_setField hT hdT z3 (h _ ⟨fun b o q=>(other b fun z=>by rw [z,nT] at q; cases q).trans (hkb b o q),hen,hl.of_keeps fun b o q nf=>⟨o,(other b (nr b o q nf)).trans q,rfl⟩,?_⟩ fun b o q nf=>⟨o.slots,(other b (nr b o q nf)).trans q⟩)
 exact ⟨oe,vs,T,_,_,(other e (Ne.symm nTe)).trans he,hc,hd,h1,nT,nTe,Heap.get?_update_self _ hT (Obj.isFreed_of_fields (Obj.data_mapFields hdT _)),Obj.data_mapFields hdT _,by simp [z3]⟩
theorem oN.pop {fl:Value} {h:Heap} (x:oN base (env :: outer) e cls d fl h):oN base outer e cls d fl h:=⟨x.1,x.2.1,x.2.2.1.2.2,x.2.2.2⟩
theorem RB (hfr:A.frames = some (env :: outer)) (hf:env.frame = some L) (x:oN base (env :: outer) e cls d .none s.heap)
  (h:∀ h',oN base outer e cls d .none h'->s.heap.UpToSlots h'->Q () { s with heap:=h' }):wpAny M A (leaving env (.ref e)) Q E s:=by
 unfold leaving
 exact wpAny_bind (BZ hfr hf x fun h1 y up=>K8 y fun h2 z up2=>h h2 z.pop (up.trans up2))
theorem Ca {h0:Heap} {oe:Obj} {vs:Array Value} (hfr:A.frames = some (env :: outer)) (hf:env.frame = some L) (hkb:base.StaysIn h0) (hl:h0.FunFrames base (env :: outer)) (keeps:∀ b o,h0.get? b = some o->s.heap.get? b = some o)
  (new:h0.get? e = none) (he:s.heap.get? e = some oe) (hd:oe.data = .fields vs) (h1:vs[1]? = some .none)
  (h:∀ h',oN base outer e oe.cls oe.dict .none h'->s.heap.UpToSlots h'->Q () { s with heap:=h' }):wpAny M A (leaving env (.ref e)) Q E s:=by
 have hen:base.get? e = none:=by
  cases q:base.get? e with
  | none=>rfl
  | some o=>have:=hkb e o q; rw [new] at this; cases this
 unfold leaving
 exact wpAny_bind (JN hfr (hl.of_keeps fun b o q _=>⟨o,keeps b o q,rfl⟩) hf he (fun b o q=>keeps b o (hkb b o q)) hen hd h1 fun h1 y up=>K8 y fun h2 z up2=>h h2 z.pop (up.trans up2))
end
theorem cQ.there {P:Program} {w:World} {H:Hp} {h:Heap} {a:Addr} {o:HO} (x:cQ P w H h a o):∃ ob,h.get? a = some ob:=by
 cases o with
 | lst xs=>obtain ⟨_,_,_,_,e⟩:=x; exact ⟨_,e⟩
 | tup xs=>obtain ⟨_,_,_,o,e,_⟩:=x; exact ⟨_,e⟩
 | dK kvs=>obtain ⟨_,_,_,_,o,_,_,e,_⟩:=x; exact ⟨_,e⟩
 | set S n=>obtain ⟨o,_,_,_,e,_⟩:=x; exact ⟨_,e⟩
 | ins C dx fs=>obtain ⟨_,_,_,e,_⟩:=x; exact ⟨_,e⟩
 | own y=>exact x
 | xd fs=>obtain ⟨_,⟨_,_,_,e,_⟩,_⟩:=x; exact ⟨_,e⟩
 | rng lo hi=>obtain ⟨_,_,_,e⟩:=x; exact ⟨_,e⟩
 | frz ob u=>obtain ⟨e,_⟩:=x; exact ⟨_,e⟩
 | tbl ps=>exact ⟨_,(show h.get? a = some _ from x)⟩
 | met f y=>exact ⟨_,(show h.get? a = some _ from x)⟩
 | ext φ=>obtain ⟨_,e,_⟩:=x; exact e
structure Fly (P:Program) (w:World) (l:List Env) (H:Hp) (s:Shared) (a:Addr) (C:Value) (H':Hp) (s':Shared) (B:Heap) (d:Option Addr):Prop where
 os:s'.os = s.os
 bare:AllBare s'.gens
 new:s.heap.get? a = none
 un:Un (frs l) [] H H' s.heap s'.heap
 hok:HOk P w H' s'.heap
 frf:∀ b ∈ frs l,H' b = none
 fl:oN B l a C d .none s'.heap
 cov:∀ b o,s'.heap.get? b = some o->b ∉ frs l->((∃ u,s.heap.get? b = some u)\/∃ u,H' b = some u)->B.get? b = some o
section
variable {P:Program} {w:World} {l:List Env} {H H':Hp} {s s':Shared} {a:Addr} {C:Value} {B:Heap} {d:Option Addr} {h':Heap}
theorem Fly.trk (F:Fly P w l H s a C H' s' B d) {b:Addr} {u:HO} {o:Obj} (e:H' b = some u) (q:s'.heap.get? b = some o):B.get? b = some o :=
 F.cov b o q (fun z=>by rw [F.frf b z] at e; cases e) (.inr ⟨u,e⟩)
theorem Fly.hok' (F:Fly P w l H s a C H' s' B d) (k:∀ b o,B.get? b = some o->h'.get? b = some o):HOk P w H' h':=fun b u e =>
 (F.hok b u e).stay (fun c v hc q=>k c v (by
  rcases hc with z | z
  .subst z; exact F.trk e q
  .exact F.trk z q)) (fun _ q=>q) fun _ _ q=>q
theorem Fly.un' (F:Fly P w l H s a C H' s' B d) (k:∀ b o,B.get? b = some o->h'.get? b = some o) (up:s'.heap.UpToSlots h'):Un (frs l) [] H H' s.heap h':=by
 have nf:∀ b ∈ frs l,∀ o,s'.heap.get? b = some o->∀ vs,o.data ≠ .fields vs:=fun b hb o e=>by
  obtain ⟨_,o',e',d⟩:=F.fl.2.2.1.mem hb
  rw [e] at e'
  cases e'
  exact d
 refine ⟨fun b o q n hb hx=>k b o (F.cov b o (F.un.keep b o q n hb hx) hb (.inl ⟨o,q⟩)),fun b o q n hb hx=>?_,F.un.free,fun b o q hx=>?_,F.un.tups,F.un.frzs,F.un.tbls⟩
 .obtain ⟨sl,e⟩:=F.un.slot b o q n hb hx
  obtain ⟨sl',e'⟩:=up b _ e (nf b hb _ e)
  exact ⟨sl',e'⟩
 .obtain ⟨o',e⟩:=F.un.there b o q hx
  by_cases hb:b ∈ frs l
  .obtain ⟨sl',e'⟩:=up b _ e (nf b hb _ e)
   exact ⟨_,e'⟩
  .exact ⟨o',k b o' (F.cov b o' e hb (.inl ⟨o,q⟩))⟩
end
section
variable {X:Cx} {pins:List (Addr × Obj)} {σ:List (Option V)} {H H':Hp} {s s':Shared} {a:Addr} {C:Value} {B:Heap} {d:Option Addr} {h':Heap}
theorem Inv.flown (I:Inv X pins σ H s) (F:Fly X.prog X.w X.stack H s a C H' s' B d) (k:∀ b o,B.get? b = some o->h'.get? b = some o) (up:s'.heap.UpToSlots h'):Inv X pins σ H' { s' with heap:=h' } :=
 I.call' (s':={ s' with heap:=h' }) (ch:=[]) F.os (F.un' k up) (F.hok' k) F.bare fun _ z=>nomatch z
theorem Inv.old (I:Inv X pins σ H s) (hx:X.ex = []) {b:Addr} {o:Obj} (e:X.s₀.heap.get? b = some o):(∃ u,s.heap.get? b = some u)/\b ≠ X.env.locals:=by
 obtain ⟨u,q⟩:=I.base.there b o e (by rw [hx]; simp)
 exact ⟨⟨u,q⟩,aP (aQ (aH e) I.ok.above)⟩
theorem Inv.nostk (I:Inv X pins σ H s) {b:Addr} (h1:b ≠ X.env.locals) (h2:b ∉ X.fs):b ∉ frs X.stack:=fun z=>by
 rcases List.mem_cons.mp (I.stkSub b z) with e | e
 .exact h1 e
 .exact h2 e
theorem Inv.flyOut (I:Inv X pins σ H s) (hx:X.ex = []) (F:Fly X.prog X.w X.stack H s a C H' s' B d) (fl:oN B X.outer a C d .none h') (up:s'.heap.UpToSlots h') :
  Fly X.prog X.w X.outer X.H₀ X.s₀ a C H' { s' with heap:=h' } B d:=by
 have J:=I.flown F fl.1 up
 refine ⟨J.os,J.bare,?_,by have:=J.base; rw [hx] at this; exact this,J.hok,fun b hb=>?_,fl,fun b o e hb hc=>?_⟩
 .cases q:X.s₀.heap.get? a with
  | none=>rfl
  | some o =>
   obtain ⟨⟨u,z⟩,_⟩:=I.old hx q
   rw [F.new] at z; cases z
 .obtain ⟨_,o,ho,_⟩:=I.ok.funs.mem hb
  exact J.base.free b o ho (I.ok.frf b hb) fun z=>I.ok.exfs b z hb
 .rcases hc with ⟨u,q⟩ | ⟨u,q⟩
  .obtain ⟨⟨v,z⟩,n⟩:=I.old hx q
   obtain ⟨o',e'⟩:=F.un.there b v z (by simp)
   have y:=F.cov b o' e' (I.nostk n hb) (.inl ⟨v,z⟩)
   have e2:=fl.1 b o' y
   rw [show ({ s' with heap:=h' } : Shared).heap.get? b = h'.get? b from rfl,e2] at e
   cases e
   exact y
  .obtain ⟨o',e'⟩:=(F.hok b u q).there
   have y:=F.trk q e'
   have e2:=fl.1 b o' y
   rw [show ({ s' with heap:=h' } : Shared).heap.get? b = h'.get? b from rfl,e2] at e
   cases e
   exact y
theorem Inv.flyNew (I:Inv X pins σ H s) (hx:X.ex = []) {h1:Heap} {t:Nat} (keeps:∀ b o,s.heap.get? b = some o->h1.get? b = some o) (new:s.heap.get? a = none) (hB:B = PySem.W.hideAll s.heap (frs X.stack)) (fl:oN B X.outer a C d .none h') (up:h1.UpToSlots h') :
  Fly X.prog X.w X.outer X.H₀ X.s₀ a C H { s with heap:=h',toks:=t } B d:=by
 have inB:∀ b o,s.heap.get? b = some o->b ∉ frs X.stack->B.get? b = some o:=fun b o e n=>by rw [hB]; exact PySem.W.hideAll_get _ e n
 have trk:∀ b u o,H b = some u->s.heap.get? b = some o->B.get? b = some o:=fun b u o e q=>inB b o q fun z=>by
  rw [I.stkFree b z] at e; cases e
 have up2:s.heap.UpToSlots h':=(Heap.UpToSlots.of_keeps keeps).trans up
 have nf:∀ b ∈ frs X.stack,∀ o,s.heap.get? b = some o->∀ vs,o.data ≠ .fields vs:=fun b hb o e=>by
  obtain ⟨_,o',e',d⟩:=I.stack.mem hb
  rw [e] at e'
  cases e'
  exact d
 have hok:HOk X.prog X.w H h':=fun b u e=>(I.hok b u e).stay (fun c v hc q=>fl.1 c v (by
  rcases hc with z | z
  .subst z; exact trk c u v e q
  .exact trk c _ v z q)) (fun _ q=>q) fun _ _ q=>q
 have un:Un (frs X.stack) [] H H s.heap h':=by
  refine ⟨fun b o q n hb _=>fl.1 b o (inB b o q hb),fun b o q n hb _=>up2 b o q (nf b hb o q),fun _ _ _ n _=>n,fun b o q _=>?_,fun _ _ q=>q,fun _ _ _ q=>q,fun _ ps q=>⟨#[],by rw [q]; simp⟩⟩
  by_cases hb:b ∈ frs X.stack
  .obtain ⟨sl,e⟩:=up2 b o q (nf b hb o q)
   exact ⟨_,e⟩
  .exact ⟨o,fl.1 b o (inB b o q hb)⟩
 have J:Inv X pins σ H { s with heap:=h',toks:=t }:=I.call' (s':={ s with heap:=h',toks:=t }) (ch:=[]) rfl un hok I.bare fun _ z=>nomatch z
 refine ⟨J.os,J.bare,?_,by have:=J.base; rw [hx] at this; exact this,J.hok,fun b hb=>?_,fl,fun b o e hb hc=>?_⟩
 .cases q:X.s₀.heap.get? a with
  | none=>rfl
  | some o =>
   obtain ⟨⟨u,z⟩,_⟩:=I.old hx q
   rw [new] at z; cases z
 .obtain ⟨_,o,ho,_⟩:=I.ok.funs.mem hb
  exact J.base.free b o ho (I.ok.frf b hb) fun z=>I.ok.exfs b z hb
 .rcases hc with ⟨u,q⟩ | ⟨u,q⟩
  .obtain ⟨⟨v,z⟩,n⟩:=I.old hx q
   have y:=inB b v z (I.nostk n hb)
   have e2:=fl.1 b v y
   rw [show ({ s with heap:=h',toks:=t } : Shared).heap.get? b = h'.get? b from rfl,e2] at e
   cases e
   exact y
  .obtain ⟨o',e'⟩:=(I.hok b u q).there
   have y:=trk b u o' q e'
   have e2:=fl.1 b o' y
   rw [show ({ s with heap:=h',toks:=t } : Shared).heap.get? b = h'.get? b from rfl,e2] at e
   cases e
   exact y
end
noncomputable def CXO (P:Program) (w:World):CXT:=fun l H s E e s'=>∃ a C d H' B,e = .ref a/\Fly P w l H s a C H' s' B d/\E C d H'
noncomputable def Aa (X:Cx) (Ex:Value->Option Addr->L2.St->Hp->Prop):Prop :=
 ∀ pins σ H s a C H' s' B d,Inv X pins σ H s->Fly X.prog X.w X.stack H s a C H' s' B d->Ex C d σ H'->X.xe (.ref a) s'
noncomputable def WL (X:Cx) (Ex:Value->Option Addr->L2.St->Hp->Prop):Prop :=
 ∀ pins σ H s a C vs h1,Inv X pins σ H s->Heap.MadeExcOf s.heap h1 a C vs->Ex C none σ H->X.xe (.ref a) { s with heap:=h1 }
section
variable {P:Program} {w:World} {K:Frag} {mg:Str->Option Value} {base:Heap} {N:List Str} {qual:Str} {scope:Scope} {f:Addr} {cd:Value} {A:Around} {outer:List Env} {s:Shared} {H:Hp} {E:XK}
theorem fK:Aa (yX (CXO P w) P w K mg base N qual scope f cd A outer s H E) (fun C d _ H'=>E C d H'):=by
 intro pins σ H1 s1 a C H' s' B d I F q
 show wpAny _ _ (leaving _ (.ref a)) _ _ _
 refine RB (outer:=outer) I.ok.frames rfl F.fl fun h' fl up=>?_
 exact ⟨a,C,d,H',B,rfl,I.flyOut rfl F fl up,q⟩
theorem pG:WL (yX (CXO P w) P w K mg base N qual scope f cd A outer s H E) (fun C d _ H'=>E C d H'):=by
 intro pins σ H1 s1 a C vs h1 I M q
 show wpAny _ _ (leaving _ (.ref a)) _ _ _
 have hin:∀ env ∈ (envOfC qual scope s.heap.objs.size f cd :: outer),∀ b,env.frame = some b->b ∈ frs (envOfC qual scope s.heap.objs.size f cd :: outer):=fun env he b hb=>List.mem_filterMap.mpr ⟨env,he,hb⟩
 obtain ⟨t,he,_,_⟩:=M.there
 refine Ca (base:=PySem.W.hideAll s1.heap (frs (envOfC qual scope s.heap.objs.size f cd :: outer))) (h0:=s1.heap) (outer:=outer) I.ok.frames rfl (fun b o q=>PySem.W.of_hideAll _ q) (PySem.W.funFrames_hide I.stack hin) M.keeps M.new he rfl rfl fun h' fl up=>?_
 exact ⟨a,C,none,H1,_,rfl,I.flyNew rfl M.keeps M.new rfl fl up,q⟩
end
section
variable {P:Program} {w:World} {K:Frag} {mg:Str->Option Value} {base:Heap}
theorem Fun.okX {x qual:Str} {st:Stmt} {f:Addr} {fd:FuncData} {N ps:List Str} {k:Nat} {sp:Sp} (F:Fun K x qual st f fd) (S:bT N ps (bK st)) (len:∀ vs H Q E,sp vs H Q E->vs.length = ps.length)
  (hbody:∀ (cdv:Value) (A:Around) (outer:List Env) (s:Shared) (H:Hp) (vs:List V) (Q:VK) (E:XK),fQ k (A.deeper (envOfC qual (bK st) s.heap.objs.size f cdv))->sp vs H Q E ->
   ∃ t,PSs (yX (CXO P w) P w K mg base N qual (bK st) f cdv A outer s H E) (eG st) t/\t { nx:=fun _ H'=>Q .non H',rt:=Q } (L2.start N vs) H):cB P w K mg base (CXO P w) (k + 1) f fd ps sp:=by
 obtain ⟨oc,od,kV,doc,pm,an,cdv,ct,osl,rfl,lk,hcd⟩:=F.ex
 exact W0 lk hcd S len fun A outer s H vs Q E hr hsp=>hbody cdv A outer s H vs Q E hr hsp
noncomputable def OkX (P:Program) (w:World) (K:Frag) (mg:Str->Option Value) (base:Heap) (k:Nat) (x:Str) (ps:List Str) (sp:Sp):Prop :=
 ∃ f fd,cB P w K mg base (CXO P w) k f fd ps sp/\Binds K fd ps []/\mg x = some (.ref f)/\PySem.W.keepIn K (.ref f) = true
theorem dM.okX {k:Nat} {x:Str} {st:Stmt} {ps:List Str} {sp:Sp} (h:dM K mg x st ps)
  (hf:∀ f fd,Fun K x x st f fd->cB P w K mg base (CXO P w) k f fd ps sp):OkX P w K mg base k x ps sp:=by
 obtain ⟨f,fd,a,b,c⟩:=h
 exact ⟨f,fd,hf f fd a,.all b,c,a.kp⟩
end
section
variable {X:Cx} {p pos:Pos} {e:Expr} {es:List Expr} {t:TA} {x:Str} {k:Nat} {ps:List Str} {sp:Sp} {Ex:Value->Option Addr->L2.St->Hp->Prop}
noncomputable def vN (sp:Sp) (Ex:Value->Option Addr->L2.St->Hp->Prop) (t:TA):TE:=fun σ H Q=>t σ H fun vs H1=>sp vs H1 Q fun C d H'=>Ex C d σ H'
theorem fU (G:OkX X.prog X.w X.K X.mg X.base k x ps sp) (hr:fQ k X.A) (hg:Gl X x) (hx:Aa X Ex) (ha:PA X (e :: es) t) (hdb:(x == ("__debug__" : Str)) = false:=by decide)
  (he:starEach (e :: es) X.env = (false,eval e X.env) :: starEach es X.env:=by rfl) (hpl:(backTo pos (starEach es X.env)).any (·.1) = false:=by rfl):PE X (.Call (.Name x p) (e :: es) [] pos) (vN sp Ex t):=by
 obtain ⟨f,fd,F,hb,hm,kp⟩:=G
 intro pins s σ H Q I h
 refine wpAny_Call_Name_kw (lH I hg hm ?_ hdb)
 refine PySem.W.callWith_K (h₀:=X.base) I.ok.mod.kin kp (thn (ha pos pins s σ H _ I h) fun us s1 ⟨vs,H1,I1,r,q⟩=>⟨I1.kIn,?_⟩) he hpl
 have hl:us.length = ps.length:=by rw [<- r.length]; exact F.len _ _ _ _ q
 have hb':=hb s1 us I1.kIn (by simpa using hl)
 simp only [List.append_nil] at hb'
 refine wpAny_call (codeAny_mono (F.run X.A X.stack s1 H1 ⟨us,[]⟩ us vs Q _ hr I1.env0 hb' r q) fun r s' hq=>?_)
 cases r with
 | error e =>
  obtain ⟨a,C,d,H',B,rfl,Fl,q'⟩:=hq
  exact hx pins σ H1 s1 a C H' s' B d I1 Fl q'
 | ok fl =>
  cases fl with
  | ret u=>exact I1.after hq
  | next=>exact False.elim hq
  | brk=>exact False.elim hq
  | cont=>exact False.elim hq
end
abbrev bmV:List Value:=[.type "ValueError",.type "Exception",.type "BaseException",.type "object"]
noncomputable def Cr (K:Frag) (C:Addr):Prop:=PySem.W.excIn K C bmV "ValueError.__new__" = true
theorem KD {K:Frag} {h:Heap} {C:Addr} (X:K.In h) (q:Cr K C):∃ bm N nm qn bs hdct sn sub ab col dd k0 k1 k2 k3 k5 mN,h.get? C = some (excClassObj nm qn C N bs bm hdct sn sub ab col dd k0 k1 k2 k3 k5 "ValueError.__new__") /\
  h.Ns N mN/\mN "__init__" = none/\OwnTail h bmV bm:=by
 unfold Cr PySem.W.excIn at q
 split at q
 .rename_i dd cd sl ho
  split at q
  .rename_i C' bm k0 k1 k2 k3 n k5 hm hs
   simp only [Bool.and_eq_true,beq_iff_eq,Bool.not_eq_true'] at q
   obtain ⟨⟨⟨⟨⟨rfl,rfl⟩,hdel⟩,ht⟩,hok⟩,hni⟩:=q
   obtain ⟨nm,bs,mro,ns,qn,hd,sn,sub,ab,col,del⟩:=cd
   dsimp only at hm hdel hok hni
   subst hm hdel
   have hsl:sl = #[k0,k1,k2,k3,some (.builtin "ValueError.__new__"),k5]:=by
    obtain ⟨l⟩:=sl
    simp only at hs
    rw [hs]
   subst hsl
   exact ⟨bm,ns,nm,qn,bs,hd,sn,sub,ab,col,dd,k0,k1,k2,k3,k5,_,X _ _ ho,.of_isNs (PySem.W.isNs_of_in X hok),PySem.W.nsMap_none_of_in X hok hni,PySem.W.tail_of_in X ht⟩
  .cases q
 .cases q
section
variable {X:Cx} {x:Str} {np cpos pos:Pos} {e₀:Expr} {rest:List Expr} {ta:TA} {C:Addr} {Ex:Value->Option Addr->L2.St->Hp->Prop}
noncomputable def Ez (C:Addr) (Ex:Value->Option Addr->L2.St->Hp->Prop) (ta:TA):TS:=fun _ σ H=>ta σ H fun vs H1=>vs.length <= sizeLine/\Ex (.ref C) none σ H1
theorem qw (hc:X.calm = true) (hg:Gl X x) (hm:X.mg x = some (.ref C)) (q:Cr X.K C) (hx:WL X Ex) (ha:PA X (e₀ :: rest) ta) (hd:(x == ("__debug__" : Str)) = false:=by decide)
  (he:starEach (e₀ :: rest) X.env = (false,eval e₀ X.env) :: starEach rest X.env:=by rfl) (hplain:(backTo cpos (starEach rest X.env)).any (·.1) = false:=by rfl) :
  PS X (.Raise (some (.Call (.Name x np) (e₀ :: rest) [] cpos)) none pos) (Ez C Ex ta):=by
 intro pins s σ H D I h
 obtain ⟨tl,N,nm,qn,bs,hdct,sn,sub,ab,col,dd,k0,k1,k2,k3,k5,mN,hC,hN,hni,T⟩:=KD I.ok.mod.kin q
 have FB:=PySem.F.excBase_ValueError
 refine wpAny_Raise_call_subT (C:=C) (nm:=nm) (q:=qn) (N:=N) (bs:=bs) (bm:=tl) (hdct:=hdct) (sn:=sn) (sub:=sub) (ab:=ab) (col:=col) (dd:=dd) (k0:=k0) (k1:=k1) (k2:=k2) (k3:=k3) (k5:=k5)
  FB (mN:=mN) (T.hasType FB.hasBase) (I.ok.hd hc) (by rw [he]; show (false || (backTo cpos (starEach rest X.env)).any (·.1)) = false; rw [hplain]; rfl) hni (lH I hg hm ⟨rfl,?_⟩ hd)
 have h2:=ha cpos pins s σ H _ I h
 rw [he] at h2 ⊢
 exact Calls.evalArgs_plain (wpAny_mono h2 (fun us s₂ ⟨vs,H1,I1,r,hl,ex⟩=>⟨rfl,by rw [<- r.length]; exact hl,I1.bk _ _ hC,hN.keeps I1.bk,T.keeps I1.bk,fun h' e M=>hx pins σ H1 s₂ e _ us h' I1 M ex⟩) fun _ _ y=>y)
end
noncomputable abbrev Cx.tryc (X:Cx) (pn:List (Addr × Obj)) (E:Value->Shared->Prop):Cx:={ X with pn:=pn,xe:=E }
noncomputable abbrev Cx.marked (X:Cx) (a:Addr) (E:Value->Shared->Prop):Cx:={ X with A:=X.A.mark (some (.ref a)),calm:=false,xe:=E }
section
variable {X:Cx} {pins pins' pn:List (Addr × Obj)} {σ:L2.St} {H H':Hp} {s:Shared} {E:Value->Shared->Prop} {a:Addr}
theorem Cx.Ok.tryc (ok:X.Ok):(X.tryc pn E).Ok:=⟨ok.mod,ok.kind,ok.glob,ok.blt,ok.above,ok.inj,ok.has,ok.cab,ok.hd,ok.frames,ok.stk,ok.exf,ok.bs,ok.bsz,ok.noex,ok.exfs,ok.funs,ok.frf⟩
theorem Cx.Ok.untry (ok:(X.tryc pn E).Ok):X.Ok:=⟨ok.mod,ok.kind,ok.glob,ok.blt,ok.above,ok.inj,ok.has,ok.cab,ok.hd,ok.frames,ok.stk,ok.exf,ok.bs,ok.bsz,ok.noex,ok.exfs,ok.funs,ok.frf⟩
theorem Inv.tryc (I:Inv X pins σ H s):Inv (X.tryc (X.pn ++ pins) E) [] σ H s:=⟨I.ok.tryc,I.os,I.bare,I.base,I.loc,I.cell,I.free,I.freeC,fun p hp=>I.pin p (by simpa using hp),I.hok,I.len⟩
theorem Inv.untry (I:Inv (X.tryc (X.pn ++ pins) E) pins' σ H s):Inv X pins σ H s:=⟨I.ok.untry,I.os,I.bare,I.base,I.loc,I.cell,I.free,I.freeC,fun p hp=>I.pin p (List.mem_append_left _ hp),I.hok,I.len⟩
theorem Cx.Ok.marked (ok:X.Ok):(X.marked a E).Ok:=⟨ok.mod,ok.kind,ok.glob,ok.blt,ok.above,ok.inj,ok.has,ok.cab,fun z=>(nomatch z),ok.frames,ok.stk,ok.exf,ok.bs,ok.bsz,ok.noex,ok.exfs,ok.funs,ok.frf⟩
theorem Inv.marked (I:Inv X pins σ H s):Inv (X.marked a E) pins σ H s:=⟨I.ok.marked,I.os,I.bare,I.base,I.loc,I.cell,I.free,I.freeC,I.pin,I.hok,I.len⟩
theorem Inv.unmarked (ok:X.Ok) (I:Inv (X.marked a E) pins σ H s):Inv X pins σ H s:=⟨ok,I.os,I.bare,I.base,I.loc,I.cell,I.free,I.freeC,I.pin,I.hok,I.len⟩
theorem Inv.track {o:HO} (I:Inv X pins σ H s) (hn:H a = none) (ha:X.s₀.heap.get? a = none) (hL:a ≠ X.env.locals) (hC:∀ x c,X.env.cells.lookup x = some c->c ≠ a) (hp:∀ p ∈ X.pn ++ pins,p.1 ≠ a)
  (ok:cQ X.prog X.w (upd H a o) s.heap a o):Inv X pins σ (upd H a o) s:=by
 have ne:∀ b u,H b = some u->b ≠ a:=fun b u e=>bB e hn
 have ne0:∀ b u,X.s₀.heap.get? b = some u->b ≠ a:=fun b u e z=>by rw [z,ha] at e; cases e
 refine ⟨I.ok,I.os,I.bare,⟨I.base.keep,I.base.slot,fun b ob e n hx=>by rw [bG (ne0 b ob e)]; exact I.base.free b ob e n hx,I.base.there,fun b xs e=>?_,fun b ob u e=>?_,fun b ps e=>?_⟩,I.loc,I.cell,by rw [bG hL.symm]; exact I.free,fun x c e=>by rw [bG (hC x c e)]; exact I.freeC x c e,fun p q=>?_,fun b u e=>?_,I.len⟩
 .have z:=I.base.tups b xs e
  rw [bG (ne b _ z)]; exact z
 .have z:=I.base.frzs b ob u e
  rw [bG (ne b _ z)]; exact z
 .obtain ⟨m,z⟩:=I.base.tbls b ps e
  exact ⟨m,by rw [bG (ne b _ z)]; exact z⟩
 .obtain ⟨h1,h2,h3⟩:=I.pin p q
  exact ⟨h1,by rw [bG (hp p q)]; exact h2,h3⟩
 .by_cases z:b = a
  .subst z; rw [bD] at e; cases e; exact ok
  .rw [bG z] at e
   exact (I.hok b u e).stay (fun _ _ _ q=>q) (fun c q=>by rw [bG (ne c _ q)]; exact q) fun c xs q=>by rw [bG (ne c _ q)]; exact q
theorem Inv.unname {M:Model} {A:Around} {E:Value->Shared->Prop} {i:Nat} {n:Str} {pos:Pos} {Q:Unit->Shared->Prop} (I:Inv X pins σ H s) (hN:X.N.Nodup) (hi:X.N[i]? = some n) (hk:X.env.scope.names.lookup n = some .local)
  (h:∀ s',Inv X pins (σ.set i none) H s'->Q () s'):wpAny M A (do bindName X.env n .none; unbindBehindTheSuite X.env n pos) Q E s:=by
 obtain ⟨m,hn,hl⟩:=id I.loc
 have hcls:(X.env.scope.kind == .class || (X.env.scope.kind == .module && X.env.locals != X.env.globals)) = false:=by rw [I.ok.kind]; rfl
 have cne:=I.cne
 have hiσ:i < σ.length:=by rw [I.len]; exact (ao.mp hi).1
 refine wpAny_nameGoes_keeps hk hn hcls fun h' v hn' hs=>?_
 have hok:HOk X.prog X.w H h':=fun b ob e=>(I.hok b ob e).stay (fun c w' hc q=>(hs.2 c (by
  rintro rfl
  rcases hc with rfl | hc
  .rw [I.free] at e; cases e
  .rw [I.free] at hc; cases hc)).trans q) (fun _ q=>q) fun _ _ q=>q
 refine h _ ⟨I.ok,I.os,I.bare,⟨fun b o e n' hb hx=>?_,fun b o e n' hb hx=>?_,I.base.free,fun b o e hx=>?_,I.base.tups,I.base.frzs,I.base.tbls⟩,⟨_,hn',fun j y v' e1 e2 e3=>?_⟩,fun y c e=>?_,I.free,I.freeC,fun p hp=>?_,hok,by simpa using I.len⟩
 .exact (hs.2 b (aP (aQ (aH e) I.ok.above))).trans (I.base.keep b o e n' hb hx)
 .obtain ⟨sl,e1⟩:=I.base.slot b o e n' hb hx
  exact ⟨sl,(hs.2 b (aP (aQ (aH e) I.ok.above))).trans e1⟩
 .obtain ⟨o',e1⟩:=I.base.there b o e hx
  exact ⟨o',(hs.2 b (aP (aQ (aH e) I.ok.above))).trans e1⟩
 .by_cases hj:j = i
  .subst hj
   rw [List.getElem?_set_self hiσ] at e2
   cases e2
  .rw [List.getElem?_set_ne (Ne.symm hj)] at e2
   obtain ⟨u',r',q⟩:=hl j y v' e1 e2 e3
   refine ⟨u',r',?_⟩
   rcases q with ⟨k,e⟩ | ⟨k,c,e,z⟩
   .refine .inl ⟨k,?_⟩
    have:y ≠ n:=fun e=>hj (yu hN e1 (e ▸ hi))
    simp [this,e]
   .exact .inr ⟨k,c,e,z.sameBut hs (cne y c e)⟩
 .obtain ⟨w',z⟩:=I.cell y c e
  exact ⟨w',z.sameBut hs (cne y c e)⟩
 .obtain ⟨e,n',ne,nf,d⟩:=I.pin p hp
  exact ⟨(hs.2 p.1 ne).trans e,n',ne,nf,d⟩
end
noncomputable def XO (a C:Addr) (d:Option Addr):HO:=.ext fun h=>∃ o,h.get? a = some o/\o.cls = .ref C/\o.dict = d/\∃ vs,o.data = .fields vs
theorem GC {M:Model} {A:Around} {E:Value->Shared->Prop} {K:Frag} {h:Heap} {g:Array GenState} {d:Drawn} {t:Nat} {os:OsState} {a C D:Addr} {oe:Obj} {Q:Bool->Shared->Prop} {b:Bool} (X:K.In h)
  (qD:PySem.W.mroIn K D (.type "BaseException") = some true) (tyD:PySem.W.typeIn K (.ref D) = some (.type "type")) (he:h.get? a = some oe) (hc:oe.cls = .ref C) (qS:PySem.W.mroIn K C (.ref D) = some b)
  (hq:Q b ⟨h,g,d,t,os⟩):wpAny M A (excMatches (.ref a) (.ref D)) Q E ⟨h,g,d,t,os⟩:=by
 have l1:PySem.W.Looks M h (isInstance (.ref D) (.type "tuple")) false:=(PySem.W.looks_typeIn X tyD).andThen (PySem.W.Looks.of_pure tc_notTuple)
 have l2:PySem.W.Looks M h (isType (.ref D)) true:=by
  obtain ⟨cdD,hcD,_⟩:=Option.bind_eq_some_iff.mp qD
  unfold PySem.W.clsIn at hcD
  split at hcD
  .rename_i c' d' cd' sl' ho
   intro A' Q' E' s' k q
   unfold isType loadHead
   exact wpAny_bind (wpAny_loadPart (k _ _ (X _ _ ho)) (wpAny_pure q))
  .cases hcD
 have l3:PySem.W.Looks M h (isSubtype (.ref D) (.type "BaseException")) true:=PySem.W.looks_mroIn X qD
 have l4:PySem.W.Looks M h (isSubtype (.ref C) (.ref D)) b:=PySem.W.looks_mroIn X qS
 have l5:PySem.W.Looks M h (typeOf (.ref a)) (.ref C):=by
  intro A' Q' E' s' k q
  rw [<- hc] at q
  unfold typeOf
  exact wpAny_bind (wpAny_loadPart (k _ _ he) (wpAny_pure q))
 unfold excMatches
 refine wpAny_bind (l1.at ?_)
 simp only [Bool.false_eq_true,if_false]
 refine wpAny_bind (wpAny_pure ?_)
 simp only [List.forIn_cons,List.forIn_nil]
 unfold isExcClass
 refine wpAny_bind (wpAny_bind (wpAny_bind (wpAny_bind (l2.at ?_))))
 simp only [if_true]
 refine l3.at ?_
 simp only [Bool.not_true,Bool.false_eq_true,if_false]
 refine wpAny_pure (wpAny_pure (wpAny_bind (l5.at ?_)))
 refine wpAny_bind (wpAny_bind (wpAny_bind (l4.at ?_)))
 cases b with
 | true =>
  simp only [if_true]
  exact wpAny_pure (wpAny_pure (wpAny_pure hq))
 | false =>
  simp only [Bool.false_eq_true,if_false]
  exact wpAny_pure (wpAny_pure (wpAny_pure hq))
section
variable {X:Cx} {pos hpos np:Pos} {body suite:List Stmt} {b₀:Stmt} {n Dn:Str} {D:Addr} {i:Nat} {tb:(Value->Option Addr->L2.St->Hp->Prop)->TS} {th:TS}
noncomputable def Ends.unset (R:Ends) (i:Nat):Ends:={ nx:=fun σ H=>R.nx (σ.set i none) H,rt:=R.rt,bk:=fun σ H=>R.bk (σ.set i none) H,ct:=fun σ H=>R.ct (σ.set i none) H }
noncomputable def Gf (K:Frag) (D:Addr) (i:Nat) (tb:(Value->Option Addr->L2.St->Hp->Prop)->TS) (th:TS):TS:=fun R σ H =>
 ∃ Ex:Value->Option Addr->L2.St->Hp->Prop,tb Ex R σ H/\∀ C' d σ' H',Ex C' d σ' H'->∃ C,C' = .ref C/\PySem.W.mroIn K C (.ref D) = some true /\
  ∀ a,H' a = none->th (R.unset i) (σ'.set i (some (.ref a))) (upd H' a (XO a C d))
theorem RJ (hN:X.N.Nodup) (hi:X.N[i]? = some n) (hln:X.env.scope.names.lookup n = some .local) (hgD:Gl X Dn) (hmD:X.mg Dn = some (.ref D)) (qD:PySem.W.mroIn X.K D (.type "BaseException") = some true)
  (tyD:PySem.W.typeIn X.K (.ref D) = some (.type "type")) (hst:X.stack = X.env :: X.outer) (hfr:X.env.frame = some X.env.locals) (hex:X.ex = [])
  (hb:∀ pn' E' Ex,Aa (X.tryc pn' E') Ex->PSs (X.tryc pn' E') body (tb Ex)) (hh:∀ a E',PSs (X.marked a E') (b₀ :: suite) th) (hdb:(Dn == ("__debug__" : Str)) = false:=by decide) :
  PS X (.Try body [.ExceptHandler (some (.Name Dn np)) (some n) (b₀ :: suite) hpos] [] [] pos) (Gf X.K D i tb th):=by
 intro pins s σ H R I h
 obtain ⟨Ex,h1,h2⟩:=h
 refine wpAny_Try_except ?_
 have ends:∀ {Y:Cx} {pn:List (Addr × Obj)} {f:Flow} {s':Shared},(∀ {σ':L2.St} {H':Hp},Inv Y pn σ' H' s'->Inv X pins σ' H' s')->SP Y pn R f s'->SP X pins R f s':=fun {Y pn f s'} k q=>by
  cases f with
  | next=>obtain ⟨σ',H',J,z⟩:=q; exact ⟨σ',H',k J,z⟩
  | brk=>obtain ⟨σ',H',J,z⟩:=q; exact ⟨σ',H',k J,z⟩
  | cont=>obtain ⟨σ',H',J,z⟩:=q; exact ⟨σ',H',k J,z⟩
  | ret u=>obtain ⟨v,σ',H',J,z⟩:=q; exact ⟨v,σ',H',k J,z⟩
 refine wpAny_mono (hb (X.pn ++ pins) _ Ex ?_ [] s σ H R I.tryc h1) (fun f s1 q=>?_) fun _ _ z=>z
 rotate_left
 .have q':=ends (fun J=>J.untry) q
  cases f with
  | next=>exact wpAny_execs_nil q'
  | brk=>exact q'
  | cont=>exact q'
  | ret u=>exact q'
 intro pins' σ1 H1 s1 a C' H' s' B d J F ex
 have J0:Inv X pins σ1 H1 s1:=J.untry
 obtain ⟨C,rfl,qS,k⟩:=h2 C' d σ1 H' ex
 have F0:Fly X.prog X.w X.stack H1 s1 a (.ref C) H' s' B d:=F
 have fl0:oN B (X.env :: X.outer) a (.ref C) d .none s'.heap:=by rw [<- hst]; exact F0.fl
 show wpAny _ _ (noteFrame (.ref a) X.env) _ _ _
 refine BZ (outer:=X.outer) (L:=X.env.locals) (I.ok.frames.trans (by rw [hst])) hfr fl0 fun h₄ hheld₄ sm₄=>?_
 refine K8 hheld₄ fun h₅ fl₅ sm₅=>?_
 have J5:Inv X pins σ1 H' { s' with heap:=h₅ }:=J0.flown F0 fl₅.1 (sm₄.trans sm₅)
 obtain ⟨oe,vs,he,hcls,_,hd⟩:=fl₅.first
 refine wpAny_handleBy_cons (codeAny_handlers_test ?_) (by intro q; cases q)
 refine lH (X:=X.marked a (fun _ _=>False)) J5.marked hgD hmD ?_ hdb
 refine GC (K:=X.K) J5.kIn qD tyD he hcls qS ?_
 show codeAny _ _ _ _ _
 refine codeAny_handlers_suite_as ?_
 refine K8 fl₅ fun h₆ fl₆ sm₆=>?_
 have J6:Inv X pins σ1 H' { s' with heap:=h₆ }:=J0.flown F0 fl₆.1 ((sm₄.trans sm₅).trans sm₆)
 obtain ⟨oe6,vs6,he6,hcls6,hda,hd6⟩:=fl₆.first
 have na:H' a = none:=by
  cases q:H' a with
  | none=>rfl
  | some u =>
   obtain ⟨o',e'⟩:=(F0.hok a u q).there
   have y:=F0.trk q e'
   rw [F0.fl.2.1] at y; cases y
 have ns:X.s₀.heap.get? a = none:=by
  cases q:X.s₀.heap.get? a with
  | none=>rfl
  | some o =>
   obtain ⟨⟨u,z⟩,_⟩:=J0.old hex q
   rw [F0.new] at z; cases z
 have nL:a ≠ X.env.locals:=fun z=>by
  obtain ⟨m,⟨o,es,ep,e,dd,_⟩,_⟩:=J6.loc
  rw [<- z] at e
  have e':h₆.get? a = some o:=e
  rw [he6] at e'; cases e'; rw [hd6] at dd; cases dd
 have nC:∀ x c,X.env.cells.lookup x = some c->c ≠ a:=fun x c e z=>by
  obtain ⟨v,o,e',dd⟩:=J6.cell x c e
  rw [z] at e'
  have e2:h₆.get? a = some o:=e'
  rw [he6] at e2; cases e2; rw [hd6] at dd; cases dd
 have nP:∀ p ∈ X.pn ++ pins,p.1 ≠ a:=fun p hp z=>by
  have:=(J0.pin p hp).1
  rw [z,F0.new] at this; cases this
 have okx:cQ X.prog X.w (upd H' a (XO a C d)) h₆ a (XO a C d):=⟨⟨oe6,he6,hcls6,hda,vs6,hd6⟩,⟨oe6,he6⟩,fun g1 g2 ⟨o,e1,e2⟩ kk=>⟨o,kk o e1,e2⟩⟩
 have J7:Inv X pins σ1 (upd H' a (XO a C d)) { s' with heap:=h₆ }:=J6.track na ns nL nC nP okx
 refine pL (X:=X.marked a (fun _ _=>False)) J7.marked hN hi (.inl hln) (v:=.ref a) rfl (fun s8 J8=>?_) (.inr hln)
 have J8':Inv X pins (σ1.set i (some (.ref a))) (upd H' a (XO a C d)) s8:=J8.unmarked I.ok
 refine wpAny_mono (hh a _ pins s8 _ _ _ J8'.marked (k a na)) (fun f s9 q=>?_) fun _ _ z=>z
 cases f with
 | next =>
  obtain ⟨σ',H2,J9,z⟩:=q
  exact (J9.unmarked I.ok).unname hN hi hln fun s10 J10=>⟨_,_,J10,z⟩
 | brk =>
  obtain ⟨σ',H2,J9,z⟩:=q
  exact (J9.unmarked I.ok).unname hN hi hln fun s10 J10=>⟨_,_,J10,z⟩
 | cont =>
  obtain ⟨σ',H2,J9,z⟩:=q
  exact (J9.unmarked I.ok).unname hN hi hln fun s10 J10=>⟨_,_,J10,z⟩
 | ret u =>
  obtain ⟨v,σ',H2,J9,rv,z⟩:=q
  exact (J9.unmarked I.ok).unname hN hi hln fun s10 J10=>⟨v,_,_,J10,rv,z⟩
end
end L2
namespace L2
open PySem PySem.Spec PyProof.Rows
structure wM (K:Frag) (C:Addr):Prop where
 ga:PySem.W.findIn K (.ref C) "__getattribute__" = some (some (.builtin "BaseException.__getattribute__"))
 gn:PySem.W.findIn K (.ref C) "__getattr__" = some none
 cl:PySem.W.findIn K (.ref C) "__class__" = some (some (.builtin "object.__class__"))
 mo:PySem.W.mroIn K C (.type "object") = some true
 mb:PySem.W.mroIn K C (.type "BaseException") = some true
section
variable {prog:Program} {w:World} {A:Around} {E:Value->Shared->Prop} {h:Heap} {g:Array GenState} {d:Drawn} {t:Nat} {os:OsState} {a C:Addr} {o:Obj} {K:Frag}
theorem gZ {M:Model} (hx:h.get? a = some o) (hc:o.cls = .ref C):PySem.W.Looks M h (typeOf (.ref a)) (.ref C):=by
 intro A' Q' E' s' k q
 rw [<- hc] at q
 unfold typeOf
 exact wpAny_bind (wpAny_loadPart (k _ _ hx) (wpAny_pure q))
theorem Ay {R:Result->Shared->Prop} (X:K.In h) (T:wM K C) (hx:h.get? a = some o) (hc:o.cls = .ref C) (hq:R (.ok (.ret (.ref C))) ⟨h,g,d,t,os⟩) :
  codeAny (model prog w) A (.call (.builtin "getset_descriptor.__get__") ⟨[.builtin "object.__class__",.ref a,.ref C],[]⟩) R ⟨h,g,d,t,os⟩:=by
 have hT5:(⟨h,g,d,t,os⟩ : Shared).TypeIs (.builtin "object.__class__") "getset_descriptor" := F.typeOf_object_class
 have LT:=gZ (M:=model prog w) hx hc
 have LO:PySem.W.Looks (model prog w) h (isSubtype (.ref C) (.type (".".intercalate ("object.__class__".cutAt '.').dropLast))) true:=by
  rw [F.owner_object_class]; exact PySem.W.looks_mroIn X T.mo
 refine codeAny_call_builtin F.slot_gs_get.plain F.entry_gs_get (F.slot_gs_get.check _ _ _ _ _ _ _ _ hT5 (F.args_gs_get _ _ _) ?_)
 repeat (any_goals (first | assumption | with_reducible refine LT.at ?_ | with_reducible refine LO.at ?_ | (with_reducible refine wpAny_loadPart_at hx ?_; rw [hc]) | wp_step))
 refine ⟨Code.quiet_builtin _ (by decide +kernel),codeAny_builtin F.entry_object_class ?_⟩
 repeat (any_goals (first | assumption | with_reducible refine LT.at ?_ | (with_reducible refine wpAny_loadPart_at hx ?_; rw [hc]) | wp_step))
theorem wO {tk:Tok} {Q:Fin->Shared->Prop} (X:K.In h) (T:wM K C) (hx:h.get? a = some o) (hc:o.cls = .ref C) (hq:Q (.done (.ret (.ref C))) ⟨h,g,d,t,os⟩) :
  wpAny (model prog w) A (Builtin.«object.__getattribute__» ⟨[.ref a,.str "__class__" tk],[]⟩) Q E ⟨h,g,d,t,os⟩:=by
 have hT5:(⟨h,g,d,t,os⟩ : Shared).TypeIs (.builtin "object.__class__") "getset_descriptor" := F.typeOf_object_class
 have f5:=F.typeOf_object_class
 have f6:=F.slot_gs_get.lookup
 have f7:=F.slot_gs_set.lookup
 have LT:=gZ (M:=model prog w) hx hc
 have LC:=PySem.W.looks_findIn (M:=model prog w) X T.cl
 repeat (any_goals (first | assumption | with_reducible refine LT.at ?_ | with_reducible refine LC.at ?_ | (with_reducible refine wpAny_loadPart_at hx ?_; rw [hc]) | wp_step))
 refine Ay X T hx hc ?_
 repeat (any_goals (first | assumption | wp_step))
theorem tO {M:Model} {nameV:Value} {Q:Unit->Shared->Prop} (X:K.In h) (T:wM K C) (hx:h.get? a = some o) (hc:o.cls = .ref C) (hq:Q () ⟨h,g,d,t,os⟩) :
  wpAny M A (checkBuiltinCall "BaseException.__getattribute__" ⟨[.ref a,nameV],[]⟩) Q E ⟨h,g,d,t,os⟩:=by
 have hk:builtinKind "BaseException.__getattribute__" = some .slot:=by decide +kernel
 have hsplit:splitId "BaseException.__getattribute__" = some ("BaseException", "__getattribute__"):=by decide +kernel
 have ha:=F.args_bexc_ga (.ref a) nameV
 have LT:=gZ (M:=M) hx hc
 have LB:=PySem.W.looks_mroIn (M:=M) X T.mb
 simp only [checkBuiltinCall,hk,hsplit]
 refine wpAny_bind ?_
 unfold isInstance
 repeat (first | with_reducible refine LT.at ?_ | with_reducible refine LB.at ?_ | (with_reducible refine wpAny_loadPart_at hx ?_; rw [hc]) | wp_step)
 exact hq
theorem Gb {tk:Tok} {Q:Value->Shared->Prop} (X:K.In h) (T:wM K C) (hx:h.get? a = some o) (hc:o.cls = .ref C) (hq:Q (.ref C) ⟨h,g,d,t,os⟩) :
  wpAny (model prog w) A (getAttrBy (.ref a) (.str "__class__" tk) false) Q E ⟨h,g,d,t,os⟩:=by
 have f3:=F.excAttr_ValueError.ga.bind (.ref a)
 have hx2:(Value.builtin "BaseException.__getattribute__" == Value.builtin "object.__getattribute__") = false:=by decide +kernel
 have hx1:(onTheHeap (Value.ref C) && Value.builtin "BaseException.__getattribute__" == Value.builtin "object.__getattribute__") = false:=by rw [hx2]; exact Bool.and_false _
 have LT:=gZ (M:=model prog w) hx hc
 have LG:=PySem.W.looks_findIn (M:=model prog w) X T.ga
 have LN:=PySem.W.looks_findIn (M:=model prog w) X T.gn
 repeat (any_goals (first | assumption | with_reducible refine LT.at ?_ | with_reducible refine LG.at ?_ | with_reducible refine LN.at ?_ | (with_reducible refine wpAny_loadPart_at hx ?_; rw [hc]) | wp_step))
 refine codeAny_call_builtin F.excAttr_ValueError.ga.plain F.entry_bexc_ga (tO X T hx hc (wO X T hx hc ?_))
 repeat (any_goals (first | assumption | wp_step))
theorem zN {Q:Option Value->Shared->Prop} (X:K.In h) (T:wM K C) (hx:h.get? a = some o) (hc:o.cls = .ref C) (hq:Q (some (.ref C)) ⟨h,g,d,t + 1,os⟩) :
  wpAny (model prog w) A (getAttr? (.ref a) "__class__") Q E ⟨h,g,d,t,os⟩:=by
 unfold getAttr? getAttrBy?
 repeat (any_goals (first | assumption | with_reducible apply Gb X T hx hc | wp_step))
end
end L2
namespace L2
open PySem PySem.Spec PyProof.Rows
noncomputable def v8 (cells:List (Str × Addr)):List (Str × NameKind)->List (Str × Addr)->List (Str × Addr)
 | [],acc=>acc
 | (n,k) :: r,acc=>v8 cells r (if k == .free then (n,(cells.lookup n).getD 0) :: acc else acc)
theorem Kf {scope:Scope} {env:Env} (h:∀ y ∈ scope.names,y.2 = .free->∃ c,env.cells.lookup y.1 = some c):closureFor scope env = pure (v8 env.cells scope.names []):=by
 unfold closureFor
 have go:∀ (l:List (Str × NameKind)) (acc:List (Str × Addr)),(∀ y ∈ l,y.2 = .free->∃ c,env.cells.lookup y.1 = some c) ->
   (forIn l acc (fun (x:Str × NameKind) (r:List (Str × Addr))=>if (x.2 == NameKind.free) = true then (do let a <- cellOf env x.1; pure (ForInStep.yield ((x.1,a) :: r))) else pure (ForInStep.yield r)):Sem (List (Str × Addr))) = pure (v8 env.cells l acc):=by
  intro l
  induction l with
  | nil=>intro acc _; rfl
  | cons y r ih =>
   intro acc hy
   obtain ⟨n,k⟩:=y
   rw [List.forIn_cons]
   by_cases hk:k = .free
   .subst hk
    obtain ⟨c,hc⟩:=hy (n,.free) aM rfl
    have e1:cellOf env n = pure c:=by unfold cellOf; rw [show env.cells.lookup n = some c from hc]
    simp only [beq_self_eq_true,if_true,e1,pure_bind]
    rw [ih _ fun z hz=>hy z (aG _ hz)]
    show pure _ = pure (v8 env.cells r (if (NameKind.free == NameKind.free) = true then (n,(env.cells.lookup n).getD 0) :: acc else acc))
    rw [show env.cells.lookup n = some c from hc]
    rfl
   .have hb:(k == NameKind.free) = false:=by simpa using hk
    simp only [hb,Bool.false_eq_true,if_false,pure_bind]
    rw [ih _ fun z hz=>hy z (aG _ hz)]
    show pure _ = pure (v8 env.cells r (if (k == NameKind.free) = true then (n,(env.cells.lookup n).getD 0) :: acc else acc))
    rw [hb]
    rfl
 have e:=go scope.names [] h
 show (forIn scope.names [] (fun (x:Str × NameKind) (r:List (Str × Addr))=>if (x.2 == NameKind.free) = true then (do let a <- cellOf env x.1; pure (ForInStep.yield ((x.1,a) :: r))) else pure (ForInStep.yield r)):Sem (List (Str × Addr))) >>= (fun cs=>pure cs) = _
 rw [e]
 rfl
theorem HX {cells:List (Str × Addr)} : ∀ {names:List (Str × NameKind)} {acc:List (Str × Addr)} {x:Str} {c:Addr},(∀ y ∈ names,y.2 = .free->∃ c,cells.lookup y.1 = some c)->(x,c) ∈ v8 cells names acc->(x,c) ∈ acc\/cells.lookup x = some c
 | [],_,_,_,_,h=>.inl h
 | (n,k) :: r,acc,x,c,hf,h=>by
  unfold v8 at h
  rcases HX (fun y hy=>hf y (aG _ hy)) h with z | z
  .by_cases hk:k = .free
   .subst hk
    simp only [beq_self_eq_true,if_true] at z
    rcases List.mem_cons.mp z with e | e
    .obtain ⟨c',hc'⟩:=hf (n,.free) aM rfl
     cases e
     rw [show cells.lookup n = some c' from hc']
     exact .inr rfl
    .exact .inl e
   .have hb:(k == NameKind.free) = false:=by simpa using hk
    simp only [hb,Bool.false_eq_true,if_false] at z
    exact .inl z
  .exact .inr z
theorem GK {cells:List (Str × Addr)} : ∀ {names:List (Str × NameKind)} {acc:List (Str × Addr)} {x:Str},((x,NameKind.free) ∈ names\/∃ c,(x,c) ∈ acc)->∃ c,(x,c) ∈ v8 cells names acc
 | [],_,_,h=>by
  rcases h with h | h
  .cases h
  .exact h
 | (n,k) :: r,acc,x,h=>by
  unfold v8
  refine GK ?_
  rcases h with h | ⟨c,h⟩
  .rcases List.mem_cons.mp h with e | e
   .cases e
    exact .inr ⟨_,by simp only [beq_self_eq_true,if_true]; exact aM⟩
   .exact .inl e
  .refine .inr ⟨c,?_⟩
   split
   .exact aG _ h
   .exact h
theorem lW {α:Type} {x:Str} {c:α} : ∀ {l:List (Str × α)},(x,c) ∈ l->∃ c',l.lookup x = some c'
 | (y,d) :: r,h=>by
  rw [List.lookup_cons]
  cases hb:x == y with
  | true=>exact ⟨d,rfl⟩
  | false =>
   rcases List.mem_cons.mp h with e | e
   .cases e; simp at hb
   .exact lW e
section
variable {X:Cx} {elt iter:Expr} {x:Str} {px pos:Pos} {scope:Scope} {wi:TI} {te:TE}
theorem Inv.nostk' {pins:List (Addr × Obj)} {σ:L2.St} {H:Hp} {s:Shared} (I:Inv X pins σ H s) {b:Addr} (h1:b ≠ X.env.locals) (h2:b ∉ X.fs):b ∉ frs X.stack:=fun z=>by
 rcases List.mem_cons.mp (I.stkSub b z) with e | e
 .exact h1 e
 .exact h2 e
theorem uO {env:Env} : ∀ {names:List (Str × NameKind)} {y:Str},(names.map fun (n,k)=>if (k == NameKind.free && env.scope.kind == .function && env.kindOf n == some .cell) then (n,NameKind.cell) else (n,k)).lookup y = some .cell \/
  (names.map fun (n,k)=>if (k == NameKind.free && env.scope.kind == .function && env.kindOf n == some .cell) then (n,NameKind.cell) else (n,k)).lookup y = some .free->(∀ z ∈ names,z.2 ≠ .cell)->(y,NameKind.free) ∈ names
 | [],y,h,_=>by rcases h with h | h <;> cases h
 | (n,k) :: r,y,h,hc=>by
  have ih:=@uO env r y
  simp only [List.map_cons] at h
  by_cases hcond:(k == NameKind.free && env.scope.kind == .function && env.kindOf n == some .cell) = true
  .rw [if_pos hcond] at h
   simp only [List.lookup_cons] at h
   cases hb:y == n with
   | true =>
    have hk:k = .free:=by
     simp only [Bool.and_eq_true,beq_iff_eq] at hcond
     exact hcond.1.1
    have:y = n:=by simpa using hb
    subst this hk
    exact aM
   | false =>
    rw [hb] at h
    exact aG _ (ih h fun z hz=>hc z (aG _ hz))
  .rw [if_neg hcond] at h
   simp only [List.lookup_cons] at h
   cases hb:y == n with
   | true =>
    rw [hb] at h
    have:y = n:=by simpa using hb
    subst this
    rcases h with h | h
    .exact absurd (Option.some.inj h) (hc (y,k) aM)
    .have:k = .free:=Option.some.inj h
     subst this
     exact aM
   | false =>
    rw [hb] at h
    exact aG _ (ih h fun z hz=>hc z (aG _ hz))
end
end L2
namespace L2
open PySem PySem.Spec PyProof.Rows
section
variable {X:Cx}
theorem ou {x:Str} {D:Addr} {pos:Pos} (hg:Gl X x) (hm:X.mg x = some (.ref D)) (hd:(x == ("__debug__" : Str)) = false:=by decide):PE X (.Name x pos) (tC (.ref D)):=Cv hg hm rfl hd
theorem R5 {K:Frag} {a C:Addr} (T:wM K C):PySem.W.KitX K (.ref a) (.ref C) (fun h=>∃ o,h.get? a = some o/\o.cls = .ref C) where
 ty:=fun M h _ ⟨o,e,c⟩=>gZ e c
 it:=fun M h Y _=>by
  obtain ⟨cdD,hcD,_⟩:=Option.bind_eq_some_iff.mp T.mo
  unfold PySem.W.clsIn at hcD
  split at hcD
  .rename_i c' d' cd' sl' ho
   intro A' Q' E' s' k q
   unfold isType loadHead
   exact wpAny_bind (wpAny_loadPart (k _ _ (Y _ _ ho)) (wpAny_pure q))
  .cases hcD
 ne:=fun h tp dd its n sl Y htp=>by
  obtain ⟨cdD,hcD,_⟩:=Option.bind_eq_some_iff.mp T.mo
  refine Bool.eq_false_iff.mpr fun q=>?_
  have e:C = tp:=Value.ref.inj (beq_iff_eq.mp q)
  subst e
  unfold PySem.W.clsIn at hcD
  split at hcD
  .rename_i c' d' cd' sl' ho
   have z:=(Y _ _ ho).symm.trans htp
   cases z
  .cases hcD
 ca:=fun {prog w A E Q s} Y ⟨o,e,c⟩ k=>by
  obtain ⟨h,g,d,t,os⟩:=s
  exact zN Y T e c k
noncomputable def Wx (K:Frag):List V->Hp->VK->Prop:=fun xs H Q=>∃ a C d c cv b,xs = [.ref a,c]/\H a = some (XO a C d)/\((∃ T,c = .ty T/\cv = Value.type T)\/∃ D,c = .ref D/\cv = Value.ref D)/\wM K C/\PySem.W.kitOne K (.ref C) cv = some b/\Q (.bl b) H
theorem Oa:dU X (.builtin "isinstance") (Wx X.K):=by
 intro pins s σ H xs us Q I r h
 obtain ⟨a,C,d,c,cv,b,rfl,ha,rc,T,e,q⟩:=h
 obtain ⟨u,v,rfl,ru,rv⟩:=r.two
 cases ru
 have e2:v = cv:=by
  rcases rc with ⟨T,rfl,rfl⟩ | ⟨T,rfl,rfl⟩
  .exact rv
  .exact rv
 subst e2
 obtain ⟨⟨o,e1,e2,_⟩,_⟩:=I.hok a _ ha
 exact PySem.W.kia_one (R5 T) I.kIn ⟨o,e1,e2⟩ e (fun z=>nomatch z) fun tk=>⟨.bl b,H,I.tok _,rfl,q⟩
noncomputable def Py (neg:Bool):R2:=fun x y H Q=>∃ b,y = .bl b/\Q (.bl (if neg then !decide (x = .bl b) else decide (x = .bl b))) H
theorem VH {x:V} {v:Value} {b:Bool} (rx:RelV x v):plainIs v (.bool b) = true/\(v == Value.bool b) = decide (x = .bl b):=by
 cases x with
 | bl c =>
  cases (show v = Value.bool c from rx)
  refine ⟨rfl,?_⟩
  by_cases e:c = b
  .subst e; simp
  .rw [decide_eq_false (by intro z; injection z with z; exact e z)]
   exact beq_eq_false_iff_ne.mpr fun z=>by injection z with z; exact e z
 | non=>cases (show v = Value.none from rx); exact ⟨rfl,rfl⟩
 | ref a=>cases (show v = Value.ref a from rx); exact ⟨rfl,rfl⟩
 | ty n=>cases (show v = Value.type n from rx); exact ⟨rfl,rfl⟩
 | int i=>obtain ⟨t,rfl⟩:=rx; exact ⟨rfl,rfl⟩
 | str i=>obtain ⟨t,rfl⟩:=rx; exact ⟨rfl,rfl⟩
 | byt i=>obtain ⟨t,rfl⟩:=rx; exact ⟨rfl,rfl⟩
 | flt i=>obtain ⟨t,rfl⟩:=rx; exact ⟨rfl,rfl⟩
theorem Kl:OpR X (compareOp .IsNot) (Py true):=by
 intro pins s σ H x y v u Q I rx ry h
 obtain ⟨b,rfl,q⟩:=h
 cases ry
 obtain ⟨hp,he⟩:=VH (b:=b) rx
 exact wpAny_isNot_plain hp (cJ I q (by rw [he]; rfl))
noncomputable def eqF:List V->List V->Bool
 | [],[]=>true
 | x :: xs,y :: ys=>eqV x y && eqF xs ys
 | _,_=>false
noncomputable def eqH (H:Hp) (x y:V):Option Bool :=
 match x,y with
 | .ref a,.ref b=>match H a,H b with
  | some (.tup xs),some (.tup ys)=>if xs.all mV && ys.all mV then some (eqF xs ys) else none
  | some (.lst xs),some (.lst ys)=>if xs.all mV && ys.all mV then some (eqF xs ys) else none
  | some (.lst _),some (.tup _)=>some false
  | some (.tup _),some (.lst _)=>some false
  | _,_=>none
 | .ref a,y=>if mV y then (match H a with
  | some (.tup _)=>some false
  | some (.lst _)=>some false
  | _=>none) else none
 | x,.ref b=>if mV x then (match H b with
  | some (.tup _)=>some false
  | some (.lst _)=>some false
  | _=>none) else none
 | x,y=>if JC x y then some (decide (x = y)) else none
noncomputable def W9:R2:=fun x y H Q=>∃ k,eqH H x y = some k/\Q (.bl k) H
theorem Inv.tupIs {pins:List (Addr × Obj)} {σ:L2.St} {H:Hp} {s:Shared} {a:Addr} {xs:List V} (I:Inv X pins σ H s) (h:H a = some (.tup xs)):∃ its,Vals xs its/\IsTup s.heap a its.toArray/\s.heap.IsTuple a its.toArray:=by
 obtain ⟨its,rv,ht,_⟩:=I.tuple (SqT.of h)
 exact ⟨its,rv,ht,ht⟩
theorem Inv.lstIs {pins:List (Addr × Obj)} {σ:L2.St} {H:Hp} {s:Shared} {a:Addr} {xs:List V} (I:Inv X pins σ H s) (h:H a = some (.lst xs)):∃ its,Vals xs its/\s.heap.IsList a its.toArray:=by
 obtain ⟨its,rv,ht,_⟩:=I.list (SqL.of h)
 exact ⟨its,rv,ht.isList⟩
theorem vg:Aa X (fun _ _ _ _=>False):=fun _ _ _ _ _ _ _ _ _ _ _ _ z=>z.elim
noncomputable def IsX (H:Hp) (a C:Addr):Prop:=∃ d,H a = some (XO a C d)
noncomputable def QM (C D:Addr) (b:Bool):List V->Hp->VK->Prop:=fun xs H Q=>∃ a,xs = [.ref a,.ref D]/\IsX H a C/\Q (.bl b) H
noncomputable def QG (C:Addr) (T:String) (b:Bool):List V->Hp->VK->Prop:=fun xs H Q=>∃ a,xs = [.ref a,.ty T]/\IsX H a C/\Q (.bl b) H
theorem wV:bootBuiltins "ValueError" = some (.type "ValueError"):=by decide +kernel
end
end L2
namespace L2
open PySem PySem.Spec PyProof.Rows
noncomputable def Jf (tk tv:TE):TE:=fun σ H Q=>∀ p,H p = none->tk σ (upd H p (.dK [])) fun x H1=>∃ i,x = .int i/\tv σ H1 fun y H2=>H2 p = some (.dK [])/\Q (.ref p) (upd H2 p (.dK [(.inl i,y)]))
open PySem.SeqAt in
section
variable {X:Cx}
structure PEB (X:Cx) (e:Expr) (t:TE):Prop where
 out:PE X e t
structure PAB (X:Cx) (es:List Expr) (t:TA):Prop where
 out:PA X es t
structure PSB (X:Cx) (st:Stmt) (t:TS):Prop where
 out:PS X st t
structure Wf (X:Cx) (b:List Stmt) (t:TS):Prop where
 out:PSs X b t
theorem rA {i j pos} : PEB X (.Constant (.int i) j pos) (tC (.int i)):=⟨bF⟩
theorem Uv {es:List Expr} {t:TA} {pos:Pos} (h:PAB X es t):PEB X (.List es pos) (Qj t):=⟨iD h.out⟩
theorem Uw:PAB X [] sX:=⟨bC⟩
theorem Bx {c:Const} {k:Nat} {p:Pos} {es:List Expr} {te:TE} {t:TA} (ha:PEB X (.Constant c k p) te) (hr:PAB X es t):PAB X (.Constant c k p :: es) (mU te t):=⟨bA ha.out hr.out rfl⟩
theorem U0 {i:Nat} {x:Str} {e:Expr} {te:TE} {pos pos':Pos} (hN:X.N.Nodup) (hi:X.N[i]? = some x) (hx:Loc X.env.scope x) (he:PEB X e te) (hs:swapsWith e (some (.Name x pos')) pos.line X.env = pure false:=by rfl) (hf:X.fn x = true\/X.env.scope.names.lookup x = some .local:=by first | exact .inl rfl | exact .inr rfl | assumption) :
  PSB X (.Assign [.Name x pos'] e pos) (Aq te (dI i)):=⟨bV hN hi hx he.out hs hf⟩
theorem cg {st:Stmt} {rest:List Stmt} {t u:TS} (h1:PSB X st t) (h2:Wf X rest u):Wf X (st :: rest) (o9 t u):=⟨bH h1.out h2.out⟩
end
section
variable {P:Program} {w:World} {K:Frag} {mg:Str->Option Value} {base:Heap}
theorem Fun.okB {x qual:Str} {st:Stmt} {f:Addr} {fd:FuncData} {N ps:List Str} {k:Nat} {sp:Sp} (F:Fun K x qual st f fd) (S:bT N ps (bK st)) (len:∀ vs H Q E,sp vs H Q E->vs.length = ps.length)
  (hbody:∀ (cdv:Value) (A:Around) (outer:List Env) (s:Shared) (H:Hp) (vs:List V) (Q:VK) (E:XK),fQ k (A.deeper (envOfC qual (bK st) s.heap.objs.size f cdv))->sp vs H Q E ->
   ∃ t,Wf (yX CX0 P w K mg base N qual (bK st) f cdv A outer s H E).nox (eG st) t/\t { nx:=fun _ H'=>Q .non H',rt:=Q } (L2.start N vs) H):cB P w K mg base CX0 (k + 1) f fd ps sp :=
 F.ok S len fun cdv A outer s H vs Q E hr hsp=>let ⟨t,h1,h2⟩:=hbody cdv A outer s H vs Q E hr hsp; ⟨t,h1.out,h2⟩
end
end L2
namespace L2
open PySem PySem.Spec PyProof.Rows
mutual
inductive Shows (H:Hp):V->PyData->Prop
 | non:Shows H .non .none
 | bl (b:Bool):Shows H (.bl b) (.bool b)
 | int (i:Int):Shows H (.int i) (.int i)
 | str (x:Str):Shows H (.str x) (.str x)
 | lst {a:Addr} {xs:List V} {ds:List PyData} : H a = some (.lst xs)->dN H xs ds->Shows H (.ref a) (.list ds)
 | tup {a:Addr} {xs:List V} {ds:List PyData} : H a = some (.tup xs)->dN H xs ds->Shows H (.ref a) (.tuple ds)
inductive dN (H:Hp):List V->List PyData->Prop
 | nil:dN H [] []
 | cons {x:V} {xs:List V} {d:PyData} {ds:List PyData} : Shows H x d->dN H xs ds->dN H (x :: xs) (d :: ds)
end
mutual
theorem Shows.same {H H':Hp} (S:Same H H'):∀ {x:V} {d:PyData},Shows H x d->Shows H' x d
 | _,_,.non=>.non
 | _,_,.bl b=>.bl b
 | _,_,.int i=>.int i
 | _,_,.str x=>.str x
 | _,_,.lst e h=>.lst (S _ _ e) (dN.same S h)
 | _,_,.tup e h=>.tup (S _ _ e) (dN.same S h)
theorem dN.same {H H':Hp} (S:Same H H'):∀ {xs:List V} {ds:List PyData},dN H xs ds->dN H' xs ds
 | _,_,.nil=>.nil
 | _,_,.cons h t=>.cons (Shows.same S h) (dN.same S t)
end
theorem dN.ints (H:Hp):∀ ns:List Int,dN H (ns.map V.int) (ns.map PyData.int)
 | []=>.nil
 | n :: ns=>.cons (.int n) (dN.ints H ns)
section
variable {X:Cx} {pins:List (Addr × Obj)} {σ:L2.St} {H:Hp} {s:Shared}
mutual
theorem Inv.reads (I:Inv X pins σ H s):∀ {x:V} {d:PyData} {v:Value},Shows H x d->RelV x v->∃ as,Reads s.heap v d as
 | _,_,_,.non,r=>by cases r; exact ⟨_,.none⟩
 | _,_,_,.bl b,r=>by cases r; exact ⟨_,.bool b⟩
 | _,_,_,.int i,r=>by obtain ⟨t,rfl⟩:=r; exact ⟨_,.int i t⟩
 | _,_,_,.str x,r=>by obtain ⟨t,rfl⟩:=r; exact ⟨_,.str x t⟩
 | _,_,_,.lst e h,r=>by
  cases r
  obtain ⟨its,rv,⟨o,ho,hc,n,hd⟩⟩:=I.lstIs e
  obtain ⟨as,q⟩:=Inv.readsAll I h rv
  exact ⟨_,.list ho hc hd q⟩
 | _,_,_,.tup e h,r=>by
  cases r
  obtain ⟨its,rv,_,⟨o,ho,hc,n,hd⟩⟩:=I.tupIs e
  obtain ⟨as,q⟩:=Inv.readsAll I h rv
  exact ⟨_,.tuple ho hc hd q⟩
theorem Inv.readsAll (I:Inv X pins σ H s):∀ {xs:List V} {ds:List PyData} {vs:List Value},dN H xs ds->Vals xs vs->∃ as,ReadsAll s.heap vs ds as
 | _,_,_,.nil,r=>by cases r; exact ⟨_,.nil⟩
 | _,_,_,.cons h t,r=>by
  cases r with
  | cons r1 r2 =>
   obtain ⟨a,q1⟩:=Inv.reads I h r1
   obtain ⟨b,q2⟩:=Inv.readsAll I t r2
   exact ⟨_,.cons q1 q2⟩
end
noncomputable def SQ (neg:Bool):R2:=fun x y H Q=>∃ d e,Shows H x d/\Shows H y e/\SeqAt.shaped d = true/\SeqAt.shaped e = true/\Q (.bl (if neg then !PyData.eqv d e else PyData.eqv d e)) H
theorem PK (hu:X.A.units + 64 < cLine):OpR X (compareOp .NotEq) (SQ true):=by
 intro pins s σ H x y v u Q I rx ry h
 obtain ⟨d,e,hd,he,sd,se,q⟩:=h
 obtain ⟨as,ra⟩:=I.reads hd rx
 obtain ⟨bs,rb⟩:=I.reads he ry
 exact SeqAt.compareNe_shaped ra rb sd se hu ⟨.bl _,H,I,rfl,q⟩
noncomputable def Kr:List V->Hp->VK->Prop:=fun xs H Q=>∃ (l:Addr) (ns:List Int),xs = [.ref l]/\H l = some (.lst (ns.map V.int))/\Q (.int ns.sum) H
theorem Bk (hc:X.calm = true):dU X (.builtin "sum") Kr:=by
 intro pins s σ H xs us Q I r h
 obtain ⟨l,ns,rfl,hl,q⟩:=h
 obtain ⟨u,rfl,ru⟩:=r.one
 cases ru
 obtain ⟨its,rv,p⟩:=I.lstIs hl
 have hI:=intsAre_of rv
 obtain ⟨xs,e⟩:=hI.allInts.items
 have hn:=hI.numsOf
 rw [show its = its.toArray.toList from rfl,e,nums_intItems] at hn
 rw [e] at p
 refine sum_intListG (I.ok.hd hc) p fun h' tk t' k=>⟨.int ns.sum,H,I.kept k,?_,q⟩
 rw [preSum_eq,aJ (by simp),hn]
 exact ⟨_,rfl⟩
noncomputable def Qm:List V->Hp->VK->Prop:=fun xs H Q=>∃ (l:Addr) (ns:List Int),xs = [.ref l]/\H l = some (.lst (ns.map V.int))/\0 < ns.length/\∀ M,M ∈ ns->(∀ a,a ∈ ns->a <= M)->Q (.int M) H
noncomputable def Qu:List V->Hp->VK->Prop:=fun xs H Q=>∃ (l:Addr) (ns:List Int),xs = [.ref l]/\H l = some (.lst (ns.map V.int))/\0 < ns.length/\∀ M,M ∈ ns->(∀ a,a ∈ ns->M <= a)->Q (.int M) H
noncomputable def XH (te ts:TE):TE:=fun σ H Q=>te σ H fun x H1=>ts σ H1 fun y H2=>y = .int (-1)/\∃ a xs,x = .ref a/\H2 a = some (.lst xs)/\∀ p,H2 p = none->Q (.ref p) (upd H2 p (.lst xs.reverse))
end
end L2
namespace L2
open PySem PySem.Spec PyProof.Rows
section
variable {K:Frag} {tl:TE} {ta:TA} {g:TG} {tb:TS} {D:Ends} {σ:L2.St} {H:Hp}
theorem NQ (h:tl σ H fun x H1=>∃ a xs,x = .ref a/\H1 a = some (.lst xs)/\∃ J:Nat->L2.St->Hp->Prop,J 0 σ H1 /\
   (∀ k x σ' H',xs[k]? = some x->J k σ' H'->H' a = some (.lst xs)->g x σ' H' fun σ2 H2=>tb { D with nx:=fun σ3 H3=>H3 a = some (.lst xs)/\J (k + 1) σ3 H3,ct:=fun σ3 H3=>H3 a = some (.lst xs)/\J (k + 1) σ3 H3,bk:=D.nx } σ2 H2) /\
   ∀ σ' H',J xs.length σ' H'->H' a = some (.lst xs)->D.nx σ' H') (hm:∀ (P Q:V->Hp->Prop),(∀ x H',P x H'->Q x H')->tl σ H P->tl σ H Q):Mr (zV K tl) g tb D σ H:=by
 refine hm _ _ ?_ h
 rintro x H1 ⟨a,xs,rfl,hx,J,j0,step,fin⟩
 refine ⟨a,rfl,⟨xs,.of hx⟩,fun k m σ' H'=>k <= xs.length/\m = xs.length - k/\H' a = some (.lst xs)/\J k σ' H',⟨_,aZ _,rfl,hx,j0⟩,?_⟩
 rintro k m σ' H' ⟨hk,rfl,hx',j⟩
 by_cases e:k = xs.length
 .subst e
  exact .inl ⟨⟨xs,.of hx',aD _⟩,fin σ' H' j hx'⟩
 .have hlt:k < xs.length:=by omega
  have e1:xs[k]? = some xs[k]:=aj hlt
  refine .inr ⟨⟨xs,_,.of hx',e1⟩,fun σ3 H3=>H3 a = some (.lst xs)/\J (k + 1) σ3 H3,fun σ3 H3 ⟨z1,z2⟩=>⟨xs.length - (k + 1),by omega,by omega,rfl,z1,z2⟩,?_⟩
  rintro x H'' ⟨rfl,y⟩
  exact step k x σ' H'' (y xs (.of hx')) j hx'
theorem Oc (h:ta σ H fun vs H1=>∃ n:Nat,vs = [.int n]/\n < 2 ^ 61/\∃ J:Nat->L2.St->Hp->Prop,J 0 σ H1 /\
   (∀ (k:Nat) σ' H',k < n->J k σ' H'->g (.int k) σ' H' fun σ2 H2=>tb { D with nx:=J (k + 1),ct:=J (k + 1),bk:=D.nx } σ2 H2)/\∀ σ' H',J n σ' H'->D.nx σ' H')
  (hm:∀ (P Q:List V->Hp->Prop),(∀ x H',P x H'->Q x H')->ta σ H P->ta σ H Q):Mr (Mg ta) g tb D σ H:=by
 refine hm _ _ ?_ h
 rintro x H1 ⟨n,rfl,hn,J,j0,step,fin⟩
 refine ⟨n,rfl,by omega,by omega,?_⟩
 rw [Int.toNat_natCast]
 refine ⟨fun k m σ' H'=>k <= n/\m = n - k/\J k σ' H',⟨_,aZ _,rfl,j0⟩,?_⟩
 rintro k m σ' H' ⟨hk,rfl,j⟩
 by_cases e:k = n
 .subst e
  exact .inl ⟨aD _,fin σ' H' j⟩
 .have hlt:k < n:=by omega
  refine .inr ⟨hlt,J (k + 1),fun σ3 H3 z=>⟨n - (k + 1),by omega,by omega,rfl,z⟩,?_⟩
  rintro x H'' ⟨rfl,rfl⟩
  rw [Int.zero_add]
  exact step k σ' H'' hlt j
end
end L2
namespace L2
open PySem PySem.Spec PyProof.Rows
section
variable {X:Cx}
noncomputable def tM (t:TE):TE:=fun σ H Q=>∃ R:VK,t σ H R/\∀ x H',R x H'->Q x H'
noncomputable def tMA (t:TA):TA:=fun σ H Q=>∃ R:List V->Hp->Prop,t σ H R/\∀ x H',R x H'->Q x H'
theorem PE.mono {a:Expr} {t:TE} (h:PE X a t):PE X a (tM t):=fun pins s σ H Q I ⟨R,h1,h2⟩ =>
 thn (h pins s σ H R I h1) fun v s' ⟨x,H',I',r,q⟩=>⟨x,H',I',r,h2 x H' q⟩
theorem PA.mono {es:List Expr} {t:TA} (h:PA X es t):PA X es (tMA t):=fun pos pins s σ H Q I ⟨R,h1,h2⟩ =>
 thn (h pos pins s σ H R I h1) fun v s' ⟨x,H',I',r,q⟩=>⟨x,H',I',r,h2 x H' q⟩
theorem PE.imp {a:Expr} {t t':TE} (h:PE X a t) (i:∀ σ H Q,t' σ H Q->t σ H Q):PE X a t':=fun pins s σ H Q I q=>h pins s σ H Q I (i σ H Q q)
theorem WM {t:TE} {σ:L2.St} {H:Hp} {Q:VK} (h:t σ H Q):tM t σ H Q:=⟨Q,h,fun _ _ q=>q⟩
theorem i_ {K:Frag} {tl:TE} {g:TG} {tb:TS} {D:Ends} {σ:L2.St} {H:Hp} (h:tl σ H fun x H1=>∃ a xs,x = .ref a/\H1 a = some (.lst xs)/\∃ J:Nat->L2.St->Hp->Prop,J 0 σ H1 /\
   (∀ k x σ' H',xs[k]? = some x->J k σ' H'->H' a = some (.lst xs)->g x σ' H' fun σ2 H2=>tb { D with nx:=fun σ3 H3=>H3 a = some (.lst xs)/\J (k + 1) σ3 H3,ct:=fun σ3 H3=>H3 a = some (.lst xs)/\J (k + 1) σ3 H3,bk:=D.nx } σ2 H2) /\
   ∀ σ' H',J xs.length σ' H'->H' a = some (.lst xs)->D.nx σ' H'):Mr (zV K (tM tl)) g tb D σ H :=
 NQ (WM h) fun _ _ i ⟨R,a,b⟩=>⟨R,a,fun x H' q=>i x H' (b x H' q)⟩
theorem qU {ta:TA} {g:TG} {tb:TS} {D:Ends} {σ:L2.St} {H:Hp} (h:ta σ H fun vs H1=>∃ n:Nat,vs = [.int n]/\n < 2 ^ 61/\∃ J:Nat->L2.St->Hp->Prop,J 0 σ H1 /\
   (∀ (k:Nat) σ' H',k < n->J k σ' H'->g (.int k) σ' H' fun σ2 H2=>tb { D with nx:=J (k + 1),ct:=J (k + 1),bk:=D.nx } σ2 H2)/\∀ σ' H',J n σ' H'->D.nx σ' H'):Mr (Mg (tMA ta)) g tb D σ H :=
 Oc (ta:=tMA ta) ⟨_,h,fun _ _ q=>q⟩ fun _ _ i ⟨R,a,b⟩=>⟨R,a,fun x H' q=>i x H' (b x H' q)⟩
noncomputable def V3 (to:TE) (t:TA):TE:=fun σ H Q=>to σ H fun x H1=>∃ l xs,x = .ref l/\H1 l = some (.lst xs)/\t σ H1 fun vs H2=>∃ y ys,vs = [y]/\H2 l = some (.lst ys)/\ys.length < sizeLine/\Q .non (upd H2 l (.lst (ys ++ [y])))
theorem qd {o e:Expr} {to:TE} {t:TA} {apos cpos:Pos} (ho:PE X o to) (ha:PA X [e] t) (hb:attributeBase o "append" X.env (eval o X.env) = eval o X.env:=by rfl)
  (hf:((backTo cpos (starEach [e] X.env)).all (fun x=>!x.1) && (backToKw cpos (keywordEach [] X.env)).all (fun x=>x.1.isSome) && decide ([e].length + ([] : List Keyword).length + (if ([] : List Keyword).isEmpty then 0 else 1) < 30)) = true:=by rfl)
  (hl:(apos.endLine == cpos.line) = true:=by rfl) (hs:starEach [e] X.env = (false,eval e X.env) :: starEach [] X.env:=by rfl) (hp:(backTo cpos (starEach [] X.env)).any (·.1) = false:=by rfl) :
  PE X (.Call (.Attribute o "append" apos) [e] [] cpos) (V3 to t):=by
 refine (WK PySem.F.plainAttrs_list PySem.F.slot_list_append PySem.F.type_list_append Cg ho.mono ha.mono hb hf hl hs hp).imp fun σ H Q h=>?_
 refine ⟨_,h,?_⟩
 rintro x H1 ⟨l,xs,rfl,hx,h2⟩
 refine ⟨.inl ⟨rfl,_,SqL.of hx⟩,_,h2,?_⟩
 rintro vs H2 ⟨y,ys,rfl,hy,hz,q⟩
 exact ⟨l,ys,y,rfl,rfl,hy,hz,q⟩
noncomputable def UW (to:TE):TE:=fun σ H Q=>to σ H fun x H1=>∃ l xs,x = .ref l/\H1 l = some (.lst xs)/\Q .non (upd H1 l (.lst []))
theorem X8 {o:Expr} {to:TE} {apos cpos:Pos} (ho:PE X o to) (hb:attributeBase o "clear" X.env (eval o X.env) = eval o X.env:=by rfl) (hl:(apos.endLine == cpos.line) = true:=by rfl) :
  PE X (.Call (.Attribute o "clear" apos) [] [] cpos) (UW to):=by
 refine (Yl PySem.F.plainAttrs_list PySem.F.slot_list_clear PySem.F.type_list_clear R4 ho.mono hb hl).imp fun σ H Q h=>?_
 refine ⟨_,h,?_⟩
 rintro x H1 ⟨l,xs,rfl,hx,q⟩
 exact ⟨.inl ⟨rfl,_,SqL.of hx⟩,l,xs,rfl,rfl,hx,q⟩
noncomputable def Fp:List V->Hp->VK->Prop:=fun xs H Q=>∃ p ys,xs = [.ref p]/\H p = some (.lst ys)/\∀ l,H l = none->Q (.ref l) (upd H l (.lst ys))
theorem sE:dU X (.type "list") Fp:=Gi.imp fun xs H Q ⟨p,ys,a,b,c⟩=>⟨p,ys,a,.inl (.of b),c⟩
end
mutual
theorem Iw:∀ ns:List Int,PyData.canLayAll0 (ns.map PyData.int) = true
 | []=>rfl
 | n :: ns=>by
  rw [List.map_cons]; unfold PyData.canLayAll0
  rw [Iw ns]; rfl
end
inductive FL (H:Hp):List V->List (Int × Int)->Prop
 | nil:FL H [] []
 | cons {p:Addr} {f:Int × Int} {xs:List V} {fs:List (Int × Int)} : H p = some (.tup [.int f.1,.int f.2])->FL H xs fs->FL H (.ref p :: xs) (f :: fs)
theorem FL.imp {H H':Hp} (h:∀ p a b,H p = some (.tup [.int a,.int b])->H' p = some (.tup [.int a,.int b])):∀ {xs:List V} {fs:List (Int × Int)},FL H xs fs->FL H' xs fs
 | _,_,.nil=>.nil
 | _,_,.cons e t=>.cons (h _ _ _ e) (FL.imp h t)
theorem FL.same {H H':Hp} (S:Same H H') {xs:List V} {fs:List (Int × Int)} (h:FL H xs fs):FL H' xs fs:=h.imp fun p _ _ e=>S p _ e
theorem FL.length {H:Hp} : ∀ {xs:List V} {fs:List (Int × Int)},FL H xs fs->xs.length = fs.length
 | _,_,.nil=>rfl
 | _,_,.cons _ t=>by rw [List.length_cons,List.length_cons,FL.length t]
theorem FL.get {H:Hp} {xs:List V} {fs:List (Int × Int)} {k:Nat} {x:V} (g:FL H xs fs) (h:xs[k]? = some x):∃ p f,x = .ref p/\fs[k]? = some f/\H p = some (.tup [.int f.1,.int f.2]):=by
 induction g generalizing k with
 | nil=>cases h
 | cons e t ih =>
  cases k with
  | zero=>cases h; exact ⟨_,_,rfl,rfl,e⟩
  | succ k=>exact ih h
theorem FL.append {H:Hp} : ∀ {xs ys:List V} {fs gs:List (Int × Int)},FL H xs fs->FL H ys gs->FL H (xs ++ ys) (fs ++ gs)
 | _,_,_,_,.nil,h=>h
 | _,_,_,_,.cons e t,h=>.cons e (FL.append t h)
theorem FL.one {H:Hp} {p:Addr} {a b:Int} (h:H p = some (.tup [.int a,.int b])):FL H [.ref p] [(a,b)]:=.cons (f:=(a,b)) h .nil
end L2
namespace L2
open PySem PySem.Spec PyProof.Rows
noncomputable def Its (x:Str):It:=⟨fun i _=>i < x.cps.size,fun i H v H'=>H' = H/\∃ c,x.cps[i]? = some c/\v = .str ⟨#[c]⟩,fun i _=>i = x.cps.size⟩
theorem G4 {P:Program} {w:World} {K:Frag} {tg:Expr} (it:Addr) (x:Str) (t:Tok) (ty:String) (hty : ["enumerate", "zip", "dict_itemiterator", "dict_reverseitemiterator", "odict_iterator", "itertools.zip_longest", "itertools.pairwise"].contains ty = false)
  (W:∀ A:Around,A.handled = none->Walks P w A it [it] [it] x.cps.size (SignAt x) (fun i h=>h.IsStrIter it ty x t i))
  (hself:∀ (A:Around) (i:Nat) (s:Shared) (Q:Value->Shared->Prop) (E:Value->Shared->Prop),s.heap.IsStrIter it ty x t i->Q (.ref it) s->wpAny (model P w) A (pyIter (.ref it)) Q E s):Turn P w K tg (Its x) [it] it (fun i h=>h.IsStrIter it ty x t i) where
 mem:=by simp
 obj:=fun i h st b hb=>by
  have e:b = it:=by simpa using hb
  subst e
  obtain ⟨o,ho,_,hd⟩:=st
  exact ⟨o,ho,fun v z=>by rw [hd] at z; cases z⟩
 keep:=fun i h h' st k=>let ⟨o,ho,r⟩:=st; ⟨o,k it (by simp) o ho,r⟩
 item:=by
  intro X hP hw hK hc i pins s σ H E I hf st hg
  subst hP hw hK
  obtain ⟨f0,f1,f2,f3,f4,f5⟩:=hf it (by simp)
  refine (W X.A (I.ok.hd hc)).item i s _ _ hg st fun v h' tk hv st' kk=>?_
  obtain ⟨c,u,hx,rfl⟩:=hv
  have I1:Inv X pins σ H { s with heap:=h',toks:=tk }:=I.turned (fun b o hb e=>kk b o (by simpa using hb) e) f0 f1 f3 f4 f5
  obtain ⟨o,ho,hcl,hd⟩:=id st'
  exact ⟨_,rfl,Mj (s:={ s with heap:=h',toks:=tk }) ho hcl hd hty ⟨.str ⟨#[c]⟩,H,I1,⟨u,rfl⟩,⟨rfl,c,hx,rfl⟩,st',fun b hb=>(hf b hb).1⟩⟩
 done:=by
  intro X hP hw hK hc i pins s σ H E I hf st hg
  subst hP hw hK
  obtain ⟨f0,f1,f2,f3,f4,f5⟩:=hf it (by simp)
  have hg':i = x.cps.size:=hg
  subst hg'
  exact (W X.A (I.ok.hd hc)).done s _ _ st fun h' tk kk=>⟨rfl,I.turned (fun b o hb e=>kk b o (by simpa using hb) e) f0 f1 f3 f4 f5⟩
 self:=hself
section
variable {X:Cx} {tg:Expr}
noncomputable def aap (te:TE):TI:=fun σ H R=>te σ H fun v H1=>∃ x,v = .str x/\R (Its x) H1
theorem W7 {l:Expr} {tl:TE} (hl:PE X l tl):PI X tg l (aap tl):=by
 intro pins s σ H R I h
 refine thn (hl pins s σ H _ I h) fun v s1 ⟨x,H1,I1,r1,y,ey,q⟩=>?_
 subst ey
 obtain ⟨t,rfl⟩:=r1
 have fp:∀ b ∈ [s1.heap.objs.size],wU X pins H1 b:=fun b hb=>by
  have e:b = s1.heap.objs.size:=by simpa using hb
  subst e
  exact I1.fpOk (aD _) (I1.hok.fresh (aD _))
 have k:∀ o:Obj,Inv X pins σ H1 { s1 with heap:=s1.heap.push o }:=fun o=>I1.kept (t':=s1.toks) fun b ob z=>aF _ z
 cases ha:y.cps.all (· < 128)
 .exact wpAny_pyIter_wide ha ⟨s1.heap.objs.size,[s1.heap.objs.size],_,Its y,H1,rfl,k _,G4 _ y t "str_iterator" (by decide) (fun A hA=>Walks.strWide hA _ y t) (fun A i s Q E st h=>wpAny_pyIter_striter_wide st h),⟨_,aW _ rfl,rfl,rfl⟩,fp,q⟩
 .exact wpAny_pyIter_ascii ha ⟨s1.heap.objs.size,[s1.heap.objs.size],_,Its y,H1,rfl,k _,G4 _ y t "str_ascii_iterator" (by decide) (fun A hA=>Walks.strAscii hA _ y t) (fun A i s Q E st h=>wpAny_pyIter_striter_ascii st h),⟨_,aW _ rfl,rfl,rfl⟩,fp,q⟩
end
noncomputable def zB (x:Str) (lo hi:Option Int):Str:=⟨((x.cps.toList.drop (HT.sIx x.length 0 lo)).take (HT.sIx x.length x.length hi - HT.sIx x.length 0 lo)).toArray⟩
theorem strIdx (lo hi:Option Int) (n:Nat):Builtin.Str.strSliceIndices lo hi 1 n = (List.range (HT.sIx n n hi - HT.sIx n 0 lo)).map (HT.sIx n 0 lo + ·):=by
 rw [<- sliceRange_one]
 unfold Builtin.Str.strSliceIndices
 have h1:∀ (o:Option Int) (d:Nat),d <= n->(match o with
   | none=>(d:Int)
   | some i=>(let i:=if i < 0 then i + (n:Int) else i; if (1:Int) > 0 then max 0 (min i n) else max (-1) (min i (n - 1)))) = ((HT.sIx n d o:Nat):Int):=by
  intro o d hd
  cases o with
  | none=>rfl
  | some i =>
   simp only [HT.sIx,show (1:Int) > 0 by decide,if_true]
   by_cases h:i < 0
   .simp only [h,if_true] <;> omega
   .simp only [h,if_false] <;> omega
 have e1:=h1 lo 0 (aZ _)
 have e2:=h1 hi n (aD _)
 simp only [show (1:Int) > 0 by decide,if_true] at e1 e2 ⊢
 rw [<- e1,<- e2]
 rfl
theorem Uk (x:Str) (lo hi:Option Int):(⟨((Builtin.Str.strSliceIndices lo hi 1 x.length).filterMap (x.cps[·]?)).toArray⟩ : Str) = zB x lo hi:=by
 rw [strIdx,pick_run]; rfl
theorem Jw (x:Str) (lo hi:Option Int) (h:(Builtin.Str.strSliceIndices lo hi 1 x.length).length = x.length):zB x lo hi = x:=by
 rw [strIdx,ak,List.length_range] at h
 have h2:=HT.X6 x.length x.length (aD _) hi
 unfold zB
 have hx:x.length = x.cps.size:=rfl
 have e:x.cps.toList.length = x.length:=by simp [hx]
 by_cases z:x.length = 0
 .have:x.cps.toList = []:=List.length_eq_zero_iff.mp (by omega)
  rw [this]
  obtain ⟨⟨l⟩⟩:=x
  simp at this
  subst this
  simp
 .have e0:HT.sIx x.length 0 lo = 0:=by omega
  rw [e0,List.drop_zero,aJ (by omega)]
noncomputable def VB:V->Option Int->Option Int->Hp->VK->Prop:=fun x lo hi H Q=>∃ y,x = .str y/\y.length <= sizeLine/\Q (.str (zB y lo hi)) H
theorem part_of {v:Value} {o:Option Int} (h:IsPart v o):∃ l:Option (Int × Tok),v = partValue l/\l.map (·.1) = o:=by
 cases h with
 | none=>exact ⟨none,rfl,rfl⟩
 | int i t=>exact ⟨some (i,t),rfl,rfl⟩
theorem SN {X:Cx} : SlR X VB:=by
 intro pins s σ H x v vl vu lo hi sl Q I rx hs pl pu h
 obtain ⟨y,rfl,hz,q⟩:=h
 obtain ⟨t,rfl⟩:=rx
 obtain ⟨l,rfl,el⟩:=part_of pl
 obtain ⟨u,rfl,eu⟩:=part_of pu
 refine ⟨"str",_,F.slot_str_getitem.lookup,typeIs_str s y t,wpAny_getItem_str_slice (l:=l) (u:=u) (st:=none) hs rfl ?_⟩
 unfold sliceMade slicePicked
 rw [el,eu]
 split
 .rename_i hw
  have hw':=(Bool.and_eq_true_iff.mp hw).2
  rw [beq_iff_eq] at hw'
  have e:=Jw y lo hi hw'
  rw [e] at q
  exact ⟨.str y,H,I,⟨t,rfl⟩,q⟩
 .have e:=Uk y lo hi
  refine ⟨?_,.str (zB y lo hi),H,I.tok _,⟨s.toks,?_⟩,q⟩
  .refine aK ?_ hz
   refine aK (Nat.le_of_eq (congrArg Str.length e)) ?_
   show ((y.cps.toList.drop _).take _).toArray.size <= y.cps.size
   rw [aX,aY,List.length_drop,Array.length_toList]
   omega
  .rw [<- e]; rfl
end L2
namespace L2
open PySem PySem.Spec PyProof.Rows
noncomputable def Iv (tk tv:TE):TE:=fun σ H Q=>∀ p,H p = none->tk σ (upd H p (.dK [])) fun x H1=>∃ i,x = .str i/\tv σ H1 fun y H2=>H2 p = some (.dK [])/\Q (.ref p) (upd H2 p (.dK [(.inr i,y)]))
section
variable {X:Cx}
noncomputable def LK:R2:=fun x y H Q=>∃ i j,x = .str i/\y = .str j/\i.length + j.length <= sizeLine/\Q (.str (i ++ j)) H
theorem Lg:OpR X (binaryOp .Add) LK:=JG
noncomputable def Vn:R2:=fun x y H Q=>∃ i j,x = .str i/\y = .str j/\Q (.bl (!decide (j.cps.toList < i.cps.toList))) H
theorem Qd:OpR X (compareOp .LtE) Vn:=by
 intro pins s σ H x y v u Q I rx ry h
 obtain ⟨i,j,rfl,rfl,q⟩:=h
 obtain ⟨t,rfl⟩:=rx
 obtain ⟨t',rfl⟩:=ry
 exact PySem.P.le_str (cJ I q rfl)
noncomputable def Xf (neg:Bool):R2:=fun x y H Q=>∃ i j,x = .str i/\y = .str j/\∃ c,i = ⟨#[c]⟩/\Q (.bl (if neg then !decide (c ∈ j.cps.toList) else decide (c ∈ j.cps.toList))) H
theorem OpR.imp {f:Value->Value->Sem Value} {r r':R2} (h:OpR X f r) (i:∀ x y H Q,r' x y H Q->r x y H Q):OpR X f r':=fun pins s σ H x y v u Q I rx ry q=>h pins s σ H x y v u Q I rx ry (i _ _ _ _ q)
noncomputable def Ph:List V->Hp->VK->Prop:=fun xs H Q=>∃ x n,xs = [.str x]/\x.length <= 640/\PySem.intText? x = some n/\Q (.int n) H
theorem Ci:∀ {bs:List Bool} {us:List Value},Vals (bs.map V.bl) us->∀ (i:Nat) (v:Value),us[i]? = some v->∃ b,bs[i]? = some b/\v = .bool b
 | [],_,.nil,i,v,h=>by cases i <;> cases h
 | b :: bs,_,.cons r t,0,v,h=>by
  rw [List.getElem?_cons_zero] at h
  cases h
  exact ⟨b,rfl,r⟩
 | b :: bs,_,.cons r t,i + 1,v,h=>by
  rw [List.getElem?_cons_succ] at h
  exact Ci t i v h
noncomputable def Ma:List V->Hp->VK->Prop:=fun xs H Q=>∃ (l:Addr) (bs:List Bool),xs = [.ref l]/\H l = some (.lst (bs.map V.bl))/\Q (.bl (bs.all id)) H
theorem o8:∀ bs:List Bool,((List.range bs.length).all fun i=>(bs[i]?).getD true) = bs.all id
 | []=>rfl
 | b :: bs=>by
  rw [List.length_cons,List.range_succ_eq_map,List.all_cons,List.all_map,List.all_cons]
  have:=o8 bs
  simp only [Function.comp_def,List.getElem?_cons_succ,List.getElem?_cons_zero,Option.getD_some,id] at this ⊢
  rw [this]
theorem Nt (hc:X.calm = true):dU X (.builtin "all") Ma:=by
 intro pins s σ H xs us Q I r h
 obtain ⟨l,bs,rfl,hl,q⟩:=h
 obtain ⟨u,rfl,ru⟩:=r.one
 cases ru
 obtain ⟨its,rv,p⟩:=I.lstIs hl
 have hlt:l < s.heap.objs.size:=by obtain ⟨_,e,_⟩:=p; exact aH e
 refine call_all_walk (wpAny_pyIter_list p ?_)
 refine ⟨s.heap.objs.size,[s.heap.objs.size,l],[s.heap.objs.size],its.toArray.size,_,_,fun i=>(bs[i]?).getD true,rfl,Walks.list (A:=X.A.in1) (I.ok.hd hc) _ l (aP hlt) its.toArray,
  ⟨⟨_,aW _ rfl,rfl,rfl⟩,p.push _⟩,fun i v s' Q' E' hP hQ=>?_,fun h' tk hk=>?_⟩
 .obtain ⟨b,e,rfl⟩:=Ci rv i v (by simpa using hP)
  simp only [e,Option.getD_some] at hQ
  exact wpAny_truthy_bool hQ
 .have e:((List.range its.toArray.size).all fun i=>(bs[i]?).getD true) = bs.all id:=by
   rw [aX,<- rv.length,ak]; exact o8 bs
  refine ⟨.bl (bs.all id),H,I.kept (t':=tk) fun b o q=>hk b o (fun hm=>?_) (aF _ q),?_,q⟩
  .rw [List.mem_singleton.mp hm] at q
   exact Nat.lt_irrefl _ (aH q)
  .rw [e]; rfl
noncomputable def Cq:V->List V->Hp->VK->Prop:=fun x vs H Q=>∃ a b,x = .str a/\vs = [.str b]/\Q (.bl (decide (0 + b.length <= a.length) && Builtin.Str.subAt a b 0)) H
noncomputable def Y7:List Nat->Int
 | i :: _=>(i:Int)
 | []=>-1
noncomputable def QC:V->List V->Hp->VK->Prop:=fun x vs H Q=>∃ a b,x = .str a/\vs = [.str b]/\Q (.int (Y7 (Builtin.Str.occurrences a b 0 a.length 1))) H
noncomputable def Kc:V->List V->Hp->VK->Prop:=fun x vs H Q=>∃ a b,x = .str a/\vs = [.str b]/\1 <= b.length/\a.length < sizeLine/\∀ p,H p = none->Q (.ref p) (upd H p (.lst ((Txt.split a b).map V.str)))
noncomputable def tSM (r:V->List V->Hp->VK->Prop) (to:TE) (t:TA):TE:=fun σ H Q=>to σ H fun x H1=>(∃ y,x = .str y)/\t σ H1 fun vs H2=>r x vs H2 Q
theorem aa1 {o e:Expr} {to:TE} {t:TA} {name:Str} {id:String} {r:V->List V->Hp->VK->Prop} {apos cpos:Pos} (slot:Slot "str" name id) (hty:typeOf (.builtin id) = pure (.type "method_descriptor")) (hm:MtM X id r) (ho:PE X o to) (ha:PA X [e] t)
  (hb:attributeBase o name X.env (eval o X.env) = eval o X.env:=by rfl)
  (hf:((backTo cpos (starEach [e] X.env)).all (fun x=>!x.1) && (backToKw cpos (keywordEach [] X.env)).all (fun x=>x.1.isSome) && decide ([e].length + ([] : List Keyword).length + (if ([] : List Keyword).isEmpty then 0 else 1) < 30)) = true:=by rfl)
  (hl:(apos.endLine == cpos.line) = true:=by rfl) (hs:starEach [e] X.env = (false,eval e X.env) :: starEach [] X.env:=by rfl) (hp:(backTo cpos (starEach [] X.env)).any (·.1) = false:=by rfl) :
  PE X (.Call (.Attribute o name apos) [e] [] cpos) (tSM r to t):=by
 refine (WK PySem.F.plainAttrs_str slot hty hm ho.mono ha hb hf hl hs hp).imp fun σ H Q h=>?_
 refine ⟨_,h,?_⟩
 rintro x H1 ⟨⟨y,rfl⟩,h2⟩
 exact ⟨rfl,h2⟩
theorem R6 {x:Str} {v:V} {pos:Pos} (hg:Gl X x) (hm:∃ u,X.mg x = some u/\RelV v u) (hd:(x == ("__debug__" : Str)) = false:=by decide):PE X (.Name x pos) (tC v):=by
 obtain ⟨u,h1,h2⟩:=hm
 exact Cv hg h1 h2 hd
noncomputable def Rq:R2:=fun x y H Q=>∃ i n,x = .str i/\y = .int n/\i.length = 1/\0 <= n/\n <= 1000/\∀ z:Str,z.length <= n.toNat + 1->Q (.str z) H
theorem UG {a b:Expr} {ta tb:TE} {pos:Pos} (ha:PEB X a ta) (hb:PE X b tb) (hs:Kq b):PEB X (.Subscript a b pos) (tOp Ia ta tb):=⟨bQ bM ha.out hb hs⟩
theorem uU {st:Stmt} {t:TS} (h1:PSB X st t):Wf X [st] t:=⟨bI h1.out⟩
end
theorem cB.calm {P:Program} {w:World} {K:Frag} {mg:Str->Option Value} {base:Heap} {k:Nat} {f:Addr} {fd:FuncData} {ps:List Str} {sp:Sp} (F:cB P w K mg base (CXO P w) k f fd ps sp) :
  cB P w K mg base CX0 k f fd ps (fun vs H Q _=>sp vs H Q fun _ _ _=>False):=by
 refine ⟨fun vs H Q E h=>F.len _ _ _ _ h,fun A outer s H args us vs Q E hr e0 hb r h=>?_⟩
 refine codeAny_mono (F.run A outer s H args us vs Q _ hr e0 hb r h) fun res s' hs=>?_
 cases res with
 | error e =>
  obtain ⟨_,_,_,_,_,_,_,z⟩:=hs
  exact z.elim
 | ok fl =>
  cases fl with
  | ret u=>exact hs
  | next=>exact hs
  | brk=>exact hs
  | cont=>exact hs
theorem OkX.calm {P:Program} {w:World} {K:Frag} {mg:Str->Option Value} {base:Heap} {k:Nat} {x:Str} {ps:List Str} {sp:Sp} (F:OkX P w K mg base k x ps sp) :
  OkF P w K mg base k x ps (fun vs H Q _=>sp vs H Q fun _ _ _=>False):=let ⟨f,fd,a,b⟩:=F; ⟨f,fd,a.calm,b⟩
end L2
namespace L2
open PySem PySem.Spec PyProof.Rows
noncomputable def hid (y:Str):Str:=Str.ofString "?" ++ y
noncomputable def Cp (xs:List Str) (N:List Str):List Str:=N.map fun y=>if y ∈ xs then hid y else y
noncomputable def Cx.compG (X:Cx) (N':List Str) (scope:Scope) (xs:List Str) (C:Addr) (s₀:Shared) (H₀:Hp) (ex:List Addr) (pn:List (Addr × Obj)):Cx :=
 { X with env:=compEnvC scope (v8 X.env.cells scope.names []) C X.env,N:=xs ++ N',s₀:=s₀,H₀:=H₀,outer:=X.stack,ex:=ex,fn:=fun _=>false,pn:=pn,xe:=fun _ _=>False }
noncomputable def PTs (X:Cx) (ifs:List Expr) (tc:TT):Prop:=∀ (pins:List (Addr × Obj)) (s:Shared) (σ:L2.St) (H:Hp) (Q:Bool->Hp->Prop),Inv X pins σ H s->tc σ H Q ->
 wpAny (model X.prog X.w) X.A (forIn ifs true fun c r=>if r = true then do let ok <- isTrue c X.env (eval c X.env); pure (ForInStep.yield ok) else pure (ForInStep.yield r)) (fun b s'=>∃ H',Inv X pins σ H' s'/\Q b H') X.xe s
noncomputable def HY:TT:=fun _ H Q=>Q true H
theorem dB {X:Cx} : PTs X [] HY:=fun _ _ _ H _ I q=>wpAny_tests_nil ⟨H,I,q⟩
theorem Ul {X:Cx} {c:Expr} {tc:TT} (h:PT X c tc):PTs X [c] tc:=fun pins s σ H Q I q=>wpAny_tests_one (h pins s σ H Q I q)
noncomputable def jg (wi:TI) (n:Nat) (gt:TG) (tc:TT) (te:TE):TE:=fun σ H Q=>wi σ H fun J H1=>∀ D,H1 D = none->∃ W:Nat->Nat->List V->Hp->Prop,(∃ m,W 0 m [] (upd H1 D (.lst [])))/\∀ i m ys Hc,W i m ys Hc ->
 (J.stop i Hc/\Q (.ref D) Hc)\/(J.go i Hc/\∀ x H',J.yld i Hc x H'->∀ pre:L2.St,pre.length = n->gt x (pre ++ σ) H' fun σ2 H2=>∃ pre':L2.St,pre'.length = n/\σ2 = pre' ++ σ/\tc σ2 H2 fun b H3 =>
  match b with
  | true=>te σ2 H3 fun y H4=>ys.length < sizeLine/\H4 D = some (.lst ys)/\∃ m',m' < m/\W (i + 1) m' (ys ++ [y]) (upd H4 D (.lst (ys ++ [y])))
  | false=>∃ m',m' < m/\W (i + 1) m' ys H3)
section
variable {X:Cx} {elt iter:Expr} {pos:Pos} {scope:Scope} {wi:TI} {te:TE}
theorem xR {use:Option (Value->Sem Unit)} {post:Value->Shared->Prop} {Qv:VK} {pins:List (Addr × Obj)} {s:Shared} {σ:L2.St} {H:Hp} {pp:Pos} {xs N':List Str} {tg:Expr} {ifs:List Expr} {gt:TG} {tc:TT} (hc:X.calm = true) (hsh:Cp xs X.N = N') (hN:(xs ++ N').Nodup) (hkind:scope.kind = .function) (hcell:∀ y ∈ scope.names,y.2 ≠ .cell) (hnames:∀ y ∈ scope.names,y.2 = .local->scope.names.lookup y.1 = some .local)
  (hfree:∀ y ∈ scope.names,y.2 = .free->X.env.kindOf y.1 = some .cell\/X.env.kindOf y.1 = some .free) (hloc:∀ y ∈ X.N,y ∉ xs->(relabel scope X.env).names.lookup y ≠ some .local) (hq:∀ y ∈ X.N,y ∈ xs->(relabel scope X.env).names.lookup (hid y) = none) (hi:PI X tg iter wi)
  (hg:∀ C s₀ H₀ ex pn,PG (X.compG N' scope xs C s₀ H₀ ex pn) tg gt) (ht:∀ C s₀ H₀ ex pn,PTs (X.compG N' scope xs C s₀ H₀ ex pn) ifs tc) (he:∀ C s₀ H₀ ex pn,PE (X.compG N' scope xs C s₀ H₀ ex pn) elt te) (hs:∀ z,foldedSetIterable iter X.env z = pure z) (I:Inv X pins σ H s) (h:jg wi xs.length gt tc te σ H Qv)
  (endC:∀ (C D:Addr) (Hc:Hp) (s6:Shared) (m:Str->Option Value) (fl:Flow),s6.heap.Ns C m->Inv X pins σ Hc s6->wU X pins Hc C->Qv (.ref D) Hc->compPost (model X.prog X.w) X.A X.xe use post (.ref D) C (.ok fl) s6) :
  wpAny (model X.prog X.w) X.A (comprehension (.ListComp elt [⟨tg,iter,ifs,0⟩] scope pos) scope X.env pp (newList []) false (eval iter X.env) use) post X.xe s:=by
 have hfr:∀ y ∈ scope.names,y.2 = .free->∃ c,X.env.cells.lookup y.1 = some c:=fun y hy e=>I.ok.has y.1 (hfree y hy e)
 refine wpAny_comprehension_free (use:=use) (Q:=post) rfl hs (Kf hfr) hkind hnames (thn (hi pins s σ H _ I h) fun v s1 h1=>thn h1 fun itv s2 h2=>?_)
 obtain ⟨it,fp,tn,J,H2,e,I2,T,st2,f2,R⟩:=h2
 subst e
 have nD:H2 s2.heap.objs.size = none:=I2.hok.fresh (aD _)
 obtain ⟨W,⟨m0,w0⟩,turn⟩:=R s2.heap.objs.size nD
 refine wpAny_newObj_type ?_ (by show 0 <= sizeLine; exact aZ _)
 have I3:Inv X pins σ (upd H2 s2.heap.objs.size (.lst [])) { s2 with heap:=s2.heap.push { cls:=.type "list",dict:=none,data:=.seq ([] : List Value).toArray } }:=I2.lnew (t':=s2.toks) (ys:=[]) (its:=[]) .nil (aZ _)
 have oldT:∀ b o,s2.heap.get? b = some o->(s2.heap.push { cls:=.type "list",dict:=none,data:=.seq ([] : List Value).toArray }).get? b = some o:=fun b o e=>aF _ e
 generalize hs3:({ s2 with heap:=s2.heap.push { cls:=.type "list",dict:=none,data:=.seq ([] : List Value).toArray } } : Shared) = s3 at I3 ⊢
 have st3:tn 0 s3.heap:=T.keep _ _ _ st2 fun b _ o e=>by rw [<- hs3]; exact oldT b o e
 generalize hH3:upd H2 s2.heap.objs.size (.lst []) = H3 at I3 w0
 have f3:∀ b ∈ fp,wU X pins H3 b:=fun b hb=>by
  obtain ⟨a1,a2⟩:=f2 b hb
  refine ⟨?_,a2⟩
  obtain ⟨o,e,_⟩:=T.obj _ _ st2 b hb
  rw [<- hH3,bG (aP (aH e))]
  exact a1
 refine wpAny_newFunctionEnv hcell (by intro y hy; simp at hy) (fun g hns hsb=>?_) hkind
 have kg:∀ b o,s3.heap.get? b = some o->g.get? b = some o:=fun b o e=>(hsb.2 b (aP (aH e))).trans (aF _ e)
 have clm:∀ {y:Str} {c:Addr},(v8 X.env.cells scope.names []).lookup y = some c->X.env.cells.lookup y = some c:=fun {y c} e=>by
  rcases HX hfr (PySem.mem_of_lookup e) with z | z
  .cases z
  .exact z
 have kinds:∀ {y:Str},((relabel scope X.env).names.lookup y = some .cell\/(relabel scope X.env).names.lookup y = some .free)->(X.env.kindOf y = some .cell\/X.env.kindOf y = some .free)/\∃ c,(v8 X.env.cells scope.names []).lookup y = some c:=fun {y} e=>by
  have z:=uO e hcell
  obtain ⟨c,hc'⟩:=GK (cells:=X.env.cells) (acc:=[]) (.inl z)
  exact ⟨hfree _ z rfl,lW hc'⟩
 have lt3:∀ b ∈ fp,b < s3.heap.objs.size:=fun b hb=>by
  obtain ⟨o,e,_⟩:=T.obj _ _ st3 b hb
  exact aH e
 have nst:∀ b ∈ fp,b ∉ frs X.stack:=fun b hb=>I3.nostk' (f3 b hb).2.1 (f3 b hb).2.2.1
 generalize hX:X.compG N' scope xs s3.heap.objs.size s3 H3 fp (X.pn ++ pins) = Y
 have ok':Y.Ok:=by
  subst hX
  exact ⟨I3.ok.mod,hkind,I3.ok.glob,I3.ok.blt,aD _,fun y z c h1 h2=>I3.ok.inj y z c (clm h1) (clm h2),fun y hy=>(kinds hy).2,fun _ _ z=>(nomatch z),I3.ok.hd,I3.ok.frames,.inl rfl,
   fun b hb=>⟨aP (lt3 b hb),fun y c e=>(f3 b hb).2.2.2.2.1 y c (clm e)⟩,I3.bs,aK I3.ok.bsz I3.sz,fun b o e hb=>by
    rcases (f3 b hb).2.2.2.1 with z | z
    .exact I3.ok.noex b o e z
    .exact absurd (aQ (aQ (aH e) I3.ok.bsz) z) (Nat.lt_irrefl _),nst,I3.stack,I3.stkFree⟩
 have J4:∀ tk,Inv Y [] (List.replicate xs.length none ++ σ) H3 { s3 with heap:=g,toks:=tk }:=fun tk=>by
  subst hX
  refine ⟨ok',rfl,I3.bare,Un.kept kg,⟨_,hns,fun i y v e1 e2 e3=>?_⟩,fun y c e=>?_,I3.hok.fresh (aD _),fun y c e=>I3.freeC y c (clm e),fun p hp=>?_,I3.hok.kept kg,?_⟩
  .by_cases hin:i < xs.length
   .rw [aC (by rw [aL]; exact hin),List.getElem?_replicate,if_pos hin] at e2
    cases e2
   .obtain ⟨j,rfl⟩ : ∃ j,i = xs.length + j:=⟨i - xs.length,by omega⟩
    have e0:N'[j]? = some y:=by
     have e1:(xs ++ N')[xs.length + j]? = some y:=e1
     rw [aB (by omega)] at e1
     rw [show xs.length + j - xs.length = j by omega] at e1
     exact e1
    have e2':σ[j]? = some (some v):=by
     rw [aB (by rw [aL]; omega),aL] at e2
     rw [show xs.length + j - xs.length = j by omega] at e2
     exact e2
    rw [<- hsh] at e0
    obtain ⟨y0,e1',ey⟩ : ∃ y0,X.N[j]? = some y0/\(if y0 ∈ xs then hid y0 else y0) = y:=by
     unfold Cp at e0
     rw [aq] at e0
     cases hz:X.N[j]? with
     | none=>rw [hz] at e0; cases e0
     | some y0=>rw [hz] at e0; exact ⟨y0,rfl,Option.some.inj e0⟩
    have e3:(relabel scope X.env).names.lookup y = some .local\/(relabel scope X.env).names.lookup y = some .cell\/(relabel scope X.env).names.lookup y = some .free:=e3
    have ne:¬ y0 ∈ xs:=fun z=>by
     rw [if_pos z] at ey
     subst ey
     rw [hq y0 (aA e1') z] at e3
     rcases e3 with z | z | z <;> cases z
    rw [if_neg ne] at ey
    subst ey
    have e3':(relabel scope X.env).names.lookup y0 = some .cell\/(relabel scope X.env).names.lookup y0 = some .free:=by
     rcases e3 with z | z
     .exact absurd z (hloc y0 (aA e1') ne)
     .exact z
    obtain ⟨kd,c,hcl⟩:=kinds e3'
    obtain ⟨m,_,hl⟩:=I3.loc
    obtain ⟨u,r,lk⟩:=hl j y0 v e1' e2' (.inr kd)
    refine ⟨u,r,.inr ⟨e3',c,hcl,?_⟩⟩
    rcases lk with ⟨k1,_⟩ | ⟨_,c',q1,o,q2,q3⟩
    .exfalso
     have k1':X.env.kindOf y0 = some .local:=k1
     rcases kd with k2 | k2 <;> rw [k1'] at k2 <;> cases k2
    .rw [clm hcl] at q1
     cases q1
     exact ⟨o,kg _ _ q2,q3⟩
  .obtain ⟨v,o,q2,q3⟩:=I3.cell y c (clm e)
   exact ⟨v,o,kg _ _ q2,q3⟩
  .have hp':p ∈ X.pn ++ pins:=by simpa [Cx.compG] using hp
   obtain ⟨a1,a2,a3,a4,a5⟩:=I3.pin p hp'
   exact ⟨kg _ _ a1,a2,aP (aH a1),I3.nostk' a3 a4,a5⟩
  .show (List.replicate xs.length none ++ σ).length = (xs ++ N').length
   have hln:N'.length = X.N.length:=by rw [<- hsh]; unfold Cp; rw [ak]
   rw [au,aL,au,I3.len,hln]
 have fpY:∀ {Hc:Hp},(∀ b ∈ fp,Hc b = none)->∀ b ∈ fp,wU Y [] Hc b:=fun {Hc} hn b hb=>by
  subst hX
  exact ⟨hn b hb,aP (lt3 b hb),nst b hb,.inl hb,fun y c e=>(f3 b hb).2.2.2.2.1 y c (clm e),fun p hp=>(f3 b hb).2.2.2.2.2 p (by simpa [Cx.compG] using hp)⟩
 have loop:∀ s4:Shared,s4 = { s3 with heap:=g,toks:=s3.toks + ([] : List (Str × Value)).length } ->
   codeAny (model X.prog X.w) X.A (.compLoop (.ListComp elt [⟨tg,iter,ifs,0⟩] scope pos) 0 (.ref it) (.ref s2.heap.objs.size) Y.env) (compPost (model X.prog X.w) X.A X.xe use post (.ref s2.heap.objs.size) s3.heap.objs.size) s4:=by
  rintro s4 rfl
  have YP:Y.prog = X.prog/\Y.w = X.w/\Y.K = X.K/\Y.calm = X.calm/\Y.A = X.A/\Y.env.locals = s3.heap.objs.size:=by subst hX; exact ⟨rfl,rfl,rfl,rfl,rfl,rfl⟩
  obtain ⟨y1,y2,y3,y4,y5,y6⟩:=YP
  have he':PE Y elt te:=by subst hX; exact he _ _ _ _ _
  have hg':PG Y tg gt:=by subst hX; exact hg _ _ _ _ _
  have ht':PTs Y ifs tc:=by subst hX; exact ht _ _ _ _ _
  have xeY:Y.xe = fun _ _=>False:=by subst hX; rfl
  have yb:∀ {Hc:Hp} {w':L2.St} {pn:List (Addr × Obj)} {s':Shared},Inv Y pn w' Hc s'->Un (frs X.stack) fp H3 Hc s3.heap s'.heap:=fun {Hc w' pn s'} Z=>by
   have:=Z.base
   subst hX
   exact this
  have yos:∀ {Hc:Hp} {w':L2.St} {pn:List (Addr × Obj)} {s':Shared},Inv Y pn w' Hc s'->s'.os = s3.os:=fun {Hc w' pn s'} Z=>by
   have:=Z.os
   subst hX
   exact this
  refine codeAny_loop rfl (fun n s'=>∃ i ys Hc,∃ w':L2.St,w'.length = xs.length/\Inv Y [] (w' ++ σ) Hc s'/\tn i s'.heap/\(∀ b ∈ fp,Hc b = none)/\W i n ys Hc) (fun n s5 hI=>?_) m0 ⟨0,[],H3,List.replicate xs.length none,aL,J4 _,T.keep _ _ _ st3 fun b _ o e=>kg b o e,fun b hb=>(f3 b hb).1,w0⟩
  obtain ⟨i,ys,Hc,w',hw',Z,stc,frc,wc⟩:=hI
  show wpAny _ _ ((compTurn (.ListComp elt [⟨tg,iter,ifs,0⟩] scope pos) 0 (.ref it) (.ref s2.heap.objs.size) Y.env).onRaise (fun z=>do noteFrame z Y.env; theTreesLotGoes z)) _ _ s5
  refine wpAny_noted (wpAny_noRaise ?_)
  rw [compTurn_list]
  show wpAny (model X.prog X.w) X.A _ _ _ _
  rcases turn i n ys Hc wc with ⟨stop,qn⟩ | ⟨go,step⟩
  .have hd:=T.done Y y1 y2 y3 (y4.trans hc) i [] s5 (w' ++ σ) Hc (fun _ _=>False) Z (fpY frc) stc stop
   rw [y5] at hd
   refine wpAny_bind (wpAny_standAt (wpAny_bind (thn hd fun r s6 ⟨hr,Z6⟩=>?_)))
   subst hr
   refine wpAny_pure ?_
   obtain ⟨m,hn6,_⟩:=Z6.loc
   rw [y6] at hn6
   have u6:=yb Z6
   have hok:HOk X.prog X.w Hc s6.heap:=by
    have z:=Z6.hok
    rw [y1,y2] at z
    exact z
   have cn:Hc s3.heap.objs.size = none:=by
    have z:=Z6.free
    rw [y6] at z
    exact z
   have I6:Inv X pins σ Hc s6:=I3.call' (s':=s6) (ch:=fp) (yos Z6) u6 hok Z6.bare fun b hb=>⟨(f3 b hb).2.2.2.1,(f3 b hb).2.1,(f3 b hb).2.2.2.2.1,(f3 b hb).2.2.2.2.2⟩
   have fC:wU X pins Hc s3.heap.objs.size:=I3.fpOk (aD _) cn
   exact endC _ _ Hc s6 m _ hn6 I6 fC qn
  .have hd:=T.item Y y1 y2 y3 (y4.trans hc) i [] s5 (w' ++ σ) Hc (fun _ _=>False) Z (fpY frc) stc go
   rw [y5] at hd
   refine wpAny_bind (wpAny_standAt (wpAny_bind (thn hd fun r s6 ⟨u,hr,h6⟩=>?_)))
   subst hr
   refine wpAny_bind (thn h6 fun _ s7 ⟨xv,H7,Z7,r7,yl,st7,fr7⟩=>?_)
   have Z7':=Z7.pinned (fpY fr7) (T.obj _ _ st7)
   have hst:=hg' _ s7 _ H7 xv u _ Z7' r7 (step xv H7 yl w' hw')
   rw [y1,y2,y5,xeY] at hst
   refine wpAny_bind (thn hst fun _ s8 ⟨σ8,H8,Z8,pre,hpre,e8,q8⟩=>?_)
   subst e8
   have hte:=ht' _ s8 _ H8 _ Z8 q8
   rw [y1,y2,y5,xeY] at hte
   have fin:∀ {m':Nat} {ys':List V} {H9:Hp} {s9:Shared},Inv Y ([] ++ zL fp s7.heap) (pre ++ σ) H9 s9->m' < n->W (i + 1) m' ys' H9->∃ m,m < n/\∃ i ys Hc,∃ w':L2.St,w'.length = xs.length/\Inv Y [] (w' ++ σ) Hc s9/\tn i s9.heap/\(∀ b ∈ fp,Hc b = none)/\W i m ys Hc:=fun {m' ys' H9 s9} Z9 hm' w9 =>
    ⟨m',hm',i + 1,ys',H9,pre,hpre,Z9.unpinned,T.keep _ _ _ st7 fun b hb o e=>(Z9.pin (b,o) (aO _ (aO _ (lU hb e)))).1,fun b hb=>by
     obtain ⟨o,e,_⟩:=T.obj _ _ st7 b hb
     exact (Z9.pin (b,o) (aO _ (aO _ (lU hb e)))).2.1,w9⟩
   refine wpAny_bind (thn hte fun ok s9 ⟨H9,Z9,q9⟩=>?_)
   cases ok with
   | false =>
    obtain ⟨m',hm',w9⟩:=q9
    exact wpAny_pure ⟨rfl,fin Z9 hm' w9⟩
   | true =>
    have hel:=he' _ s9 _ H9 _ Z9 q9
    rw [y1,y2,y5,xeY] at hel
    refine wpAny_bind (wpAny_bind (thn hel fun ev s10 ⟨yv,H10,Z10,r10,hz,hD10,m',hm',w10⟩=>?_))
    have hap:=Cg (X:=Y) _ s10 _ H10 (.ref s2.heap.objs.size) [yv] (.ref s2.heap.objs.size) [ev] (fun _ Hf=>Hf = upd H10 s2.heap.objs.size (.lst (ys ++ [yv]))) Z10 rfl (.cons r10 .nil) ⟨_,ys,yv,rfl,rfl,hD10,hz,rfl⟩
    rw [y1,y2,y5,xeY] at hap
    refine wpAny_bind (thn hap fun av s11 ⟨_,H11,Z11,_,e11⟩=>?_)
    subst e11
    exact wpAny_pure (wpAny_pure ⟨rfl,fin Z11 hm' w10⟩)
 have henv:Y.env = compEnvC scope (v8 X.env.cells scope.names []) s3.heap.objs.size X.env:=by subst hX; rfl
 rw [henv] at loop
 exact codeAny_compStart_list (loop _ rfl) (T.self _ 0 _ _ _ (T.keep _ _ _ st3 fun b _ o e=>kg b o e) (loop _ rfl))
theorem Qg {xs N':List Str} {tg:Expr} {ifs:List Expr} {gt:TG} {tc:TT} (hc:X.calm = true) (hsh:Cp xs X.N = N') (hN:(xs ++ N').Nodup) (hkind:scope.kind = .function) (hcell:∀ y ∈ scope.names,y.2 ≠ .cell) (hnames:∀ y ∈ scope.names,y.2 = .local->scope.names.lookup y.1 = some .local)
  (hfree:∀ y ∈ scope.names,y.2 = .free->X.env.kindOf y.1 = some .cell\/X.env.kindOf y.1 = some .free) (hloc:∀ y ∈ X.N,y ∉ xs->(relabel scope X.env).names.lookup y ≠ some .local) (hq:∀ y ∈ X.N,y ∈ xs->(relabel scope X.env).names.lookup (hid y) = none) (hi:PI X tg iter wi)
  (hg:∀ C s₀ H₀ ex pn,PG (X.compG N' scope xs C s₀ H₀ ex pn) tg gt) (ht:∀ C s₀ H₀ ex pn,PTs (X.compG N' scope xs C s₀ H₀ ex pn) ifs tc) (he:∀ C s₀ H₀ ex pn,PE (X.compG N' scope xs C s₀ H₀ ex pn) elt te) (hs:∀ z,foldedSetIterable iter X.env z = pure z:=by intro _; rfl) :
  PE X (.ListComp elt [⟨tg,iter,ifs,0⟩] scope pos) (jg wi xs.length gt tc te):=by
 intro pins s σ H Q I h
 rw [eval_ListComp]
 exact xR hc hsh hN hkind hcell hnames hfree hloc hq hi hg ht he hs I h fun C D Hc s6 m fl hn I6 fC q=>⟨m,hn,fun h' hs'=>⟨.ref D,Hc,I6.turned (it:=C) (h':=h') (t':=s6.toks) (fun b o hb e=>(hs'.2 b hb).trans e) fC.1 fC.2.1 fC.2.2.2.1 fC.2.2.2.2.1 fC.2.2.2.2.2,rfl,q⟩⟩
end
end L2
namespace L2
open PySem PySem.Spec PyProof.Rows
section
variable {X:Cx} {k:Nat} {f C:Addr} {fd:FuncData} {ps:List Str} {sp:Sp} {dvs:List V} {ds:List Value} {x m:Str} {p pos apos:Pos} {e o:Expr} {es:List Expr} {ta:TE} {t:TA} {Ex:Value->Option Addr->L2.St->Hp->Prop}
noncomputable def Xp (C:Addr) (sp:Sp) (dvs:List V) (Ex:Value->Option Addr->L2.St->Hp->Prop) (t:TA):TE:=fun σ H Q=>t σ H fun vs H1=>∀ x dx,H1 x = none->H1 dx = none->dx ≠ x->sp (.ref x :: (vs ++ dvs)) (upd (upd H1 dx (.own x)) x (.ins C dx [])) (fun v H2=>v = .non/\Q (.ref x) H2) fun C d H'=>Ex C d σ H'
theorem V_ {pins:List (Addr × Obj)} {σ:St} {H:Hp} {s:Shared} {Q:VK} {us:List Value} {vs:List V} (F:cB X.prog X.w X.K X.mg X.base (CXO X.prog X.w) k f fd ps sp) (hr:fQ k X.A) (hb:Binds X.K fd ps ds) (hd:Vals dvs ds) (hx:Aa X Ex)
  (I:Inv X pins σ H s) (r:Vals vs us) (h:sp (vs ++ dvs) H Q fun C d H'=>Ex C d σ H'):wpAny (model X.prog X.w) X.A (call (.ref f) us) (EP X pins σ Q) X.xe s:=by
 have r2:Vals (vs ++ dvs) (us ++ ds):=r.append hd
 have hl:(us ++ ds).length = ps.length:=by rw [<- r2.length]; exact F.len _ _ _ _ h
 refine wpAny_call (codeAny_mono (F.run X.A X.stack s H ⟨us,[]⟩ (us ++ ds) (vs ++ dvs) Q _ hr I.env0 (hb s us I.kIn hl) r2 h) fun r s' hq=>?_)
 cases r with
 | error e =>
  obtain ⟨a,C,d,H',B,rfl,Fl,q'⟩:=hq
  exact hx pins σ H s a C H' s' B d I Fl q'
 | ok fl =>
  cases fl with
  | ret u=>exact I.after hq
  | next=>exact False.elim hq
  | brk=>exact False.elim hq
  | cont=>exact False.elim hq
theorem Nb {pins:List (Addr × Obj)} {σ:St} {H:Hp} {s:Shared} {Q:VK} {us:List Value} {vs:List V} (M:Mk X.K C f) (F:cB X.prog X.w X.K X.mg X.base (CXO X.prog X.w) k f fd ps sp) (hr:fQ (k + 1) X.A) (hb:Binds X.K fd ps ds) (hd:Vals dvs ds)
  (hx:Aa X Ex) (I:Inv X pins σ H s) (r:Vals vs us)
  (h:∀ x dx,H x = none->H dx = none->dx ≠ x->sp (.ref x :: (vs ++ dvs)) (upd (upd H dx (.own x)) x (.ins C dx [])) (fun v H2=>v = .non/\Q (.ref x) H2) fun C d H'=>Ex C d σ H') :
  wpAny (model X.prog X.w) X.A (call (.ref C) us) (EP X pins σ Q) X.xe s:=by
 have hq:=h (s.heap.objs.size + 1) s.heap.objs.size (I.hok.fresh (Nat.le_succ _)) (I.hok.fresh (aD _)) (aP (Nat.lt_succ_self _))
 have I2:=Inv.made (C:=C) I
 have r2:Vals (V.ref (s.heap.objs.size + 1) :: (vs ++ dvs)) (Value.ref (s.heap.objs.size + 1) :: (us ++ ds)):=.cons rfl (r.append hd)
 have hl:(Value.ref (s.heap.objs.size + 1) :: us ++ ds).length = ps.length:=by
  have e:=r2.length
  rw [F.len _ _ _ _ hq] at e
  exact e.symm
 refine wpAny_call (O_ (f:=f) I.kIn M.makes M.init (beq_iff_eq.mp M.fn) (codeAny_mono (F.run _ X.stack _ _ ⟨Value.ref (s.heap.objs.size + 1) :: us,[]⟩ (Value.ref (s.heap.objs.size + 1) :: (us ++ ds)) _ _ _ (hr.make C us [])
  (I2.env0.make C us []) (hb _ (Value.ref (s.heap.objs.size + 1) :: us) I2.kIn hl) r2 hq) fun r s' hq'=>?_))
 cases r with
 | error e =>
  obtain ⟨a,C,d,H',B,rfl,Fl,q'⟩:=hq'
  exact hx pins σ _ _ a C H' s' B d I2 Fl q'
 | ok fl =>
  cases fl with
  | ret u =>
   obtain ⟨v,H',I3,rv,ev,q3⟩:=I2.after hq'
   subst ev
   exact ⟨rv,⟨V.ref (s.heap.objs.size + 1),H',I3,rfl,q3⟩⟩
  | next=>exact False.elim hq'
  | brk=>exact False.elim hq'
  | cont=>exact False.elim hq'
theorem Qy (M:Mk X.K C f) (F:cB X.prog X.w X.K X.mg X.base (CXO X.prog X.w) k f fd ps sp) (hr:fQ (k + 1) X.A) (hg:Gl X x) (hm:X.mg x = some (.ref C)) (hb:Binds X.K fd ps ds) (hd:Vals dvs ds) (hx:Aa X Ex)
  (ha:PA X (e :: es) t) (hdb:(x == ("__debug__" : Str)) = false:=by decide) (he:starEach (e :: es) X.env = (false,eval e X.env) :: starEach es X.env:=by rfl) (hpl:(backTo pos (starEach es X.env)).any (·.1) = false:=by rfl) :
  PE X (.Call (.Name x p) (e :: es) [] pos) (Xp C sp dvs Ex t):=by
 intro pins s σ H Q I h
 refine wpAny_Call_Name_kw (lH I hg hm ?_ hdb)
 refine PySem.W.callWith_K (h₀:=X.base) I.ok.mod.kin M.kp (thn (ha pos pins s σ H _ I h) fun us s1 ⟨vs,H1,I1,r,q⟩=>⟨I1.kIn,?_⟩) he hpl
 exact Nb M F hr hb hd hx I1 r q
end
end L2
namespace L2
open PySem PySem.Spec PyProof.Rows
structure jL (K:Frag) (B:Addr) (m:Str) (f:Addr):Prop where
 ga:PySem.W.specialIn K (.ref B) "__getattribute__" = some (some (.builtin "type.__getattribute__"))
 rd:PySem.W.readsIn K B (.type "type") = true
 at_:PySem.W.findCls K (.ref B) (.type "type") m = some (.val (.ref f))
 hd:PySem.W.handedIn (.ref f) = true
 kp:PySem.W.keepIn K (.ref f) = true
section
variable {X:Cx} {k:Nat} {f B:Addr} {fd:FuncData} {ps:List Str} {sp:Sp} {dvs:List V} {ds:List Value} {x m:Str} {p pos apos:Pos} {e:Expr} {es:List Expr} {t:TA} {Ex:Value->Option Addr->L2.St->Hp->Prop}
theorem jL.get {pins:List (Addr × Obj)} {σ:L2.St} {H:Hp} {s:Shared} {pl:Sem Bool} {A:Around} {E:Value->Shared->Prop} {Q:Value × List Value->Shared->Prop} (c:jL X.K B m f) (I:Inv X pins σ H s) (h:∀ t,Q (.ref f,[]) { s with toks:=t }) :
  wpAny (model X.prog X.w) A (getMethod (.ref B) m pl) Q E s :=
 PySem.W.method_cls I.kIn c.ga (PySem.W.cls_value I.kIn c.rd c.at_ c.hd (h _))
theorem PB {pl:Sem Bool} (c:jL X.K B m f) (F:cB X.prog X.w X.K X.mg X.base (CXO X.prog X.w) k f fd ps sp) (hr:fQ k X.A) (hg:Gl X x) (hm:X.mg x = some (.ref B)) (hb:Binds X.K fd ps []) (hx:Aa X Ex) (ha:PA X (e :: es) t) (hdb:(x == ("__debug__" : Str)) = false:=by decide)
  (hst:starEach (e :: es) X.env = (false,eval e X.env) :: starEach es X.env:=by rfl) (hpl:(backTo pos (starEach es X.env)).any (·.1) = false:=by rfl)
  (ht:eval (.Call (.Attribute (.Name x p) m apos) (e :: es) [] pos) X.env = (do
   let ov <- eval (.Name x p) X.env
   standAt apos.atName
   let (f,first) <- holding [ov] (getMethod ov m pl)
   callWith pos f first (backTo pos (starEach (e :: es) X.env)) (backToKw pos (keywordEach [] X.env))):=by rfl) :
  PE X (.Call (.Attribute (.Name x p) m apos) (e :: es) [] pos) (vN sp Ex t):=by
 intro pins s σ H Q I h
 refine PySem.W.methodCall_KW (pl:=pl) (lH I hg hm (c.get I fun tk=>?_) hdb) ht
 refine PySem.W.callWith_K (first:=[]) (h₀:=X.base) I.ok.mod.kin c.kp (thn (ha pos pins _ σ H _ (I.tok tk) h) fun us s2 ⟨vs,H2,I2,r,q2⟩=>⟨I2.kIn,?_⟩) hst hpl
 exact V_ (us:=us) (vs:=vs) F hr hb .nil hx I2 r (by rw [List.append_nil]; exact q2)
end
end L2
namespace L2
open PySem PySem.Spec PyProof.Rows
section
variable {κ:Type} [DecidableEq κ]
noncomputable def mL (kvs:List (κ × V)) (k:κ):Option V:=(kvs.find? fun kv=>decide (kv.1 = k)).map (·.2)
noncomputable def putK (kvs:List (κ × V)) (k:κ) (v:V):List (κ × V) :=
 if (kvs.any fun kv=>decide (kv.1 = k)) = true then kvs.map (fun kv=>if kv.1 = k then (kv.1,v) else kv) else kvs ++ [(k,v)]
theorem xQ {p:κ × V} {r:List (κ × V)} {k:κ} (e:p.1 = k):mL (p :: r) k = some p.2:=by simp [mL,List.find?_cons,e]
theorem yR {p:κ × V} {r:List (κ × V)} {k:κ} (e:¬ p.1 = k):mL (p :: r) k = mL r k:=by simp [mL,List.find?_cons,e]
theorem G8 (kvs:List (κ × V)) (k:κ) (v:V):(putK kvs k v).length <= kvs.length + 1:=by
 unfold putK
 split
 .rw [ak]; omega
 .rw [au,List.length_cons,List.length_nil]; omega
theorem qb.isSome_eq {o:Option V} {u:Option Value} (r:qb o u):o.isSome = u.isSome:=by
 cases o with
 | none=>cases u with
  | none=>rfl
  | some _=>exact (show False from r).elim
 | some _=>cases u with
  | none=>exact (show False from r).elim
  | some _=>rfl
theorem qb.getD {o:Option V} {u:Option Value} {d:V} {d':Value} (r:qb o u) (rd:RelV d d'):RelV (o.getD d) (u.getD d'):=by
 cases o with
 | none=>cases u with
  | none=>exact rd
  | some _=>exact (show False from r).elim
 | some _=>cases u with
  | none=>exact (show False from r).elim
  | some _=>exact r
theorem KV.val {kvs:List (κ × V)} {vs:List (κ × Value)} (r:KV kvs vs) (k:κ):qb (mL kvs k) (valueAt vs k):=by
 unfold KV at r
 induction r with
 | nil=>exact True.intro
 | @cons p q ps qs h t ih =>
  obtain ⟨h1,h2⟩:=h
  by_cases e:p.1 = k
  .have e':q.1 = k:=h1.symm.trans e
   have b:valueAt (q :: qs) k = some q.2:=by simp [valueAt,List.find?_cons,e']
   rw [xQ e,b]; exact h2
  .have e':¬ q.1 = k:=fun z=>e (h1.trans z)
   have b:valueAt (q :: qs) k = valueAt qs k:=by simp [valueAt,List.find?_cons,e']
   rw [yR e,b]; exact ih
theorem KV.any {kvs:List (κ × V)} {vs:List (κ × Value)} (r:KV kvs vs) (k:κ):(kvs.any fun kv=>decide (kv.1 = k)) = vs.any fun kv=>decide (kv.1 = k):=by
 unfold KV at r
 induction r with
 | nil=>rfl
 | cons h t ih=>rw [List.any_cons,List.any_cons,ih,h.1]
theorem KV.repl {kvs:List (κ × V)} {vs:List (κ × Value)} (r:KV kvs vs) (k:κ) {y:V} {u:Value} (ry:RelV y u) :
  KV (kvs.map fun kv=>if kv.1 = k then (kv.1,y) else kv) (vs.map fun kv=>if kv.1 = k then (kv.1,u) else kv):=by
 unfold KV at r ⊢
 induction r with
 | nil=>exact .nil
 | @cons p q ps qs h t ih =>
  rw [List.map_cons,List.map_cons]
  refine .cons ?_ ih
  obtain ⟨h1,h2⟩:=h
  by_cases e:p.1 = k
  .rw [if_pos e,if_pos (h1.symm.trans e)]; exact ⟨h1,ry⟩
  .rw [if_neg e,if_neg (fun z=>e (h1.trans z))]; exact ⟨h1,h2⟩
theorem KV.put {kvs:List (κ × V)} {vs:List (κ × Value)} (r:KV kvs vs) (k:κ) {y:V} {u:Value} (ry:RelV y u):KV (putK kvs k y) (stored vs k u):=by
 unfold putK stored
 rw [r.any k]
 by_cases e:(vs.any fun kv=>decide (kv.1 = k)) = true
 .rw [if_pos e,if_pos e]; exact r.repl k ry
 .rw [if_neg e,if_neg e]; exact Paired.snoc r ⟨rfl,ry⟩
theorem KV.length {kvs:List (κ × V)} {vs:List (κ × Value)} (r:KV kvs vs):kvs.length = vs.length:=Paired.length r
end
theorem GX {P:Program} {w:World} {k:Key} {u:Value} (r:RelV (kV k) u):(iR P w).is k u = true:=by
 cases k with
 | inl i=>obtain ⟨t,e⟩:=(show ∃ t,u = Value.int i t from r); subst e; exact Hr P w i t
 | inr x=>obtain ⟨t,e⟩:=(show ∃ t,u = Value.str x t from r); subst e; exact Hl P w x t
section
variable {P:Program} {w:World} {H:Hp} {h:Heap} {a:Addr}
theorem aaz {u:HO} (ok:HOk P w H h) (e:Rd H a u):cQ P w H h a u:=e.ok ok
theorem zW {kvs:List (Key × V)} (ok:HOk P w H h) (e:Rd H a (.dK kvs)):kvs.length <= sizeLine/\(a == sysModules) = false/\∃ vs,KV kvs vs/\h.DictOf (iR P w) a vs :=
 show cQ P w H h a (.dK kvs) from aaz ok e
theorem Z1 {kvs:List (Key × V)} (ok:HOk P w H h) (e:H a = some (.dK kvs)):kvs.length <= sizeLine/\(a == sysModules) = false/\∃ vs,KV kvs vs/\h.DictOf (iR P w) a vs:=zW ok (.inl e)
end
noncomputable def qJ (H:Hp) (a:Addr) (y:V) (r:Option V):Prop :=
 (∃ kvs k,Rd H a (.dK kvs)/\y = kV k/\r = mL kvs k)\/False
noncomputable def Ir (H:Hp) (a:Addr) (y v:V) (H':Hp):Prop :=
 (∃ kvs k,H a = some (.dK kvs)/\y = kV k/\kvs.length < sizeLine/\H' = upd H a (.dK (putK kvs k v)))\/False
theorem qJ.k {H:Hp} {a:Addr} {kvs:List (Key × V)} {k:Key} (e:H a = some (.dK kvs)):qJ H a (kV k) (mL kvs k):=.inl ⟨kvs,k,.inl e,rfl,rfl⟩
theorem Ir.k {H:Hp} {a:Addr} {kvs:List (Key × V)} {k:Key} {v:V} (e:H a = some (.dK kvs)) (hl:kvs.length < sizeLine):Ir H a (kV k) v (upd H a (.dK (putK kvs k v))):=.inl ⟨kvs,k,e,rfl,hl,rfl⟩
section
variable {X:Cx} {pins:List (Addr × Obj)} {σ:St} {H:Hp} {s:Shared} {a:Addr} {y v:V} {u r:Value} {o:Option V} {A:Around} {E:Value->Shared->Prop}
theorem Inv.big (I:Inv X pins σ H s):sysModules < s.heap.objs.size:=by
 have h:mainGlobals < s.heap.objs.size:=(I.mod.glob.keeps I.bk).lt
 exact Nat.lt_trans (by decide) h
theorem Nq {Q:Value->Shared->Prop} (hu:A.units + 1 < cLine) (I:Inv X pins σ H s) (g:qJ H a y (some v)) (ry:RelV y u) (h:∀ w' s',Inv X pins σ H s'->RelV v w'->Q w' s') :
  wpAny (model X.prog X.w) A (getItem (.ref a) u) Q E s:=by
 rcases g with ⟨kvs,k,e,ey,l⟩ | hF
 .subst ey
  obtain ⟨z,hd,vs,rel,dd⟩:=zW I.hok e
  obtain ⟨w',hw,rw'⟩:=qb.some_of (v:=v) (o:=valueAt vs k) (by rw [l]; exact rel.val k)
  exact wpAny_getItem_of (GX ry) dd.mapOf hw (h w' _ (I.tok _) rw')
 .exact hF.elim
theorem adf {Q:Value->Shared->Prop} (hu:A.units + 1 < cLine) (I:Inv X pins σ H s) (g:qJ H a y o) (ry:RelV y u) (h:∀ s',Inv X pins σ H s'->Q (.bool o.isSome) s') :
  wpAny (model X.prog X.w) A (compareOp .In u (.ref a)) Q E s:=by
 rcases g with ⟨kvs,k,e,ey,l⟩ | hF
 .subst ey
  obtain ⟨z,hd,vs,rel,dd⟩:=zW I.hok e
  refine wpAny_in_of (GX ry) hd dd.mapOf ?_
  rw [<- (rel.val k).isSome_eq,<- l]
  exact h _ (I.tok _)
 .exact hF.elim
theorem Vb {Q:Value->Shared->Prop} (hu:A.units + 1 < cLine) (I:Inv X pins σ H s) (g:qJ H a y o) (ry:RelV y u) (h:∀ s',Inv X pins σ H s'->Q (.bool (!o.isSome)) s') :
  wpAny (model X.prog X.w) A (compareOp .NotIn u (.ref a)) Q E s:=by
 rcases g with ⟨kvs,k,e,ey,l⟩ | hF
 .subst ey
  obtain ⟨z,hd,vs,rel,dd⟩:=zW I.hok e
  refine wpAny_notIn_of (GX ry) hd dd.mapOf ?_
  rw [<- (rel.val k).isSome_eq,<- l]
  exact h _ (I.tok _)
 .exact hF.elim
theorem T9 {h':Heap} {t':Nat} {ob:HO} (I:Inv X pins σ H s) (mu:Mut (H a)) (hs:Heap.SameBut a s.heap h') (he:∃ q,h'.get? a = some q) (new:cQ X.prog X.w (upd H a ob) h' a ob) :
  Inv X pins σ (upd H a ob) { s with heap:=h',toks:=t' } :=
 I.write (x:=a) (e:=a) mu (.inl rfl) (fun b q hb z=>(hs.2 b hb).trans z) he new
theorem Yw {P:Program} {w:World} {H':Hp} {h':Heap} {kvs:List (Key × V)} {vs:List (Key × Value)} (z:kvs.length <= sizeLine) (hd:(a == sysModules) = false) (rel:KV kvs vs) (dd:h'.DictOf (iR P w) a vs) :
  cQ P w H' h' a (.dK kvs):=⟨z,hd,vs,rel,dd⟩
theorem Nx {H':Hp} {Q:Unit->Shared->Prop} (hu:A.units + 1 < cLine) (I:Inv X pins σ H s) (g:Ir H a y v H') (ry:RelV y u) (rv:RelV v r) (h:∀ s',Inv X pins σ H' s'->Q () s') :
  wpAny (model X.prog X.w) A (setItem (.ref a) u r) Q E s:=by
 rcases g with ⟨kvs,k,e,ey,l,eH⟩ | hF
 .subst ey eH
  obtain ⟨z,hd,vs,rel,dd⟩:=Z1 I.hok e
  have hz:vs.length <= sizeLine:=by rw [<- rel.length]; exact z
  have hl:(putK kvs k v).length <= sizeLine:=by have:=G8 kvs k v; omega
  refine wpAny_setItem_pairs (hsz:=hz) (GX ry) dd fun h' dd' hs=>h _ ?_
  have he:∃ q,h'.get? a = some q:=let ⟨q,_,_,hq,_⟩:=dd'; ⟨q,hq⟩
  exact T9 I (by rw [e]; exact True.intro) hs he (Yw hl hd (rel.put k rv) dd')
 .exact hF.elim
end
section
variable {X:Cx} {pins:List (Addr × Obj)} {σ:St} {H:Hp} {s:Shared} {a:Addr} {kvs:List (Key × V)} {k:Key} {u:Value} {A:Around} {E:Value->Shared->Prop}
end
noncomputable def abo (i:Expr):Prop:=∀ ov iv,subscripted i false ov iv = operate [ov,iv] (getItem ov iv)
theorem Ue {prog:Program} {w:World} {A:Around} {E:Value->Shared->Prop} {s:Shared} {env:Env} {value slice:Expr} {pos:Pos} {T id:String} {Q:Value->Shared->Prop}
  (hl:typeLookup (.type T) "__getitem__" = pure (some (.builtin id))) (hs:abo slice)
  (h:wpAny (model prog w) A (eval value env) (fun o s₁=>wpAny (model prog w) A (eval slice env) (fun i s₂=>s₂.TypeIs o T/\wpAny (model prog w) A (getItem o i) Q E s₂) E s₁) E s) :
  wpAny (model prog w) A (eval (.Subscript value slice pos) env) Q E s:=by
 refine Subscript_ (wpAny_mono h (fun o s₁ h₁=>wpAny_mono h₁ (fun i s₂ h₂=>?_) fun _ _ x=>x) fun _ _ x=>x)
 obtain ⟨hT,h₂⟩:=h₂
 unfold subscriptTail
 refine wpAny_bind ?_
 rw [getitemInPython_of_ne hT.not_modules]
 refine wpAny_bind (wpAny_specialOf hT hl ?_)
 have fin:wpAny (model prog w) A (subscripted slice false o i) (fun r s₃=>wpAny (model prog w) A (letTemporaryGo value o r >>= fun _=>pure r) Q E s₃) E s₂:=by
  rw [hs o i]
  exact wpAny_operating (wpAny_mono h₂ (fun r s₃ h₃=>wpAny_bind (wpAny_letTemporaryGo (wpAny_pure h₃))) fun _ _ x=>x)
 first
  | exact wpAny_pure (wpAny_bind fin)
  | exact wpAny_bind (wpAny_pure (wpAny_bind fin))
  | exact wpAny_bind fin
theorem Gm {X:Cx} {pins:List (Addr × Obj)} {σ:St} {H:Hp} {s:Shared} {a:Addr} {y:V} {o:Option V} (I:Inv X pins σ H s) (g:qJ H a y o):s.TypeIs (.ref a) "dict" := by
 rcases g with ⟨kvs,k,e,_,_⟩ | hF
 .obtain ⟨_,_,vs,_,dd⟩:=zW I.hok e
  exact dd.typeIs
 .exact hF.elim
noncomputable def KQ (td ty:TE):TE:=fun σ H Q=>td σ H fun x H1=>ty σ H1 fun y H2=>∃ a v,x = .ref a/\qJ H2 a y (some v)/\Q v H2
noncomputable def Wh (ty td:TE):TE:=fun σ H Q=>ty σ H fun y H1=>td σ H1 fun x H2=>∃ a o,x = .ref a/\qJ H2 a y o/\Q (.bl o.isSome) H2
noncomputable def w6 (ty td:TE):TE:=fun σ H Q=>ty σ H fun y H1=>td σ H1 fun x H2=>∃ a o,x = .ref a/\qJ H2 a y o/\Q (.bl (!o.isSome)) H2
noncomputable def Lf (td ty tv:TE):TS:=fun D σ H=>tv σ H fun v H1=>td σ H1 fun x H2=>ty σ H2 fun y H3=>∃ a H4,x = .ref a/\Ir H3 a y v H4/\D.nx σ H4
section
variable {X:Cx} {o i e value:Expr} {pos pos' tpos:Pos} {td ty tv:TE}
theorem Ei (hu:X.A.units + 1 < cLine) (ho:PE X o td) (hi:PE X i ty) (hs:abo i):PE X (.Subscript o i pos) (KQ td ty):=by
 intro pins s σ H Q I h
 refine Ue PySem.F.slot_dict_getitem.lookup hs (thn (ho pins s σ H _ I h) fun u s1 ⟨x,H1,I1,rx,q1⟩=>thn (hi pins s1 σ H1 _ I1 q1) fun iv s2 ⟨y,H2,I2,ry,a,v,ex,g,q2⟩=>?_)
 subst ex
 obtain rfl:u = Value.ref a:=rx
 exact ⟨Gm I2 g,Nq hu I2 g ry fun w' s3 I3 rw'=>⟨v,H2,I3,rw',q2⟩⟩
theorem O5 (hu:X.A.units + 1 < cLine) (hi:PE X i ty) (ho:PE X o td):PC X .In i o (Wh ty td):=by
 intro pins s σ H Q I h
 refine thn (hi pins s σ H _ I h) fun iv s1 ⟨y,H1,I1,ry,q1⟩=>thn (ho pins s1 σ H1 _ I1 q1) fun u s2 ⟨x,H2,I2,rx,a,ov,ex,g,q2⟩=>?_
 subst ex
 obtain rfl:u = Value.ref a:=rx
 exact adf hu I2 g ry fun s3 I3=>⟨.bl ov.isSome,H2,I3,rfl,q2⟩
theorem M6 (hu:X.A.units + 1 < cLine) (hi:PE X i ty) (ho:PE X o td):PC X .NotIn i o (w6 ty td):=by
 intro pins s σ H Q I h
 refine thn (hi pins s σ H _ I h) fun iv s1 ⟨y,H1,I1,ry,q1⟩=>thn (ho pins s1 σ H1 _ I1 q1) fun u s2 ⟨x,H2,I2,rx,a,ov,ex,g,q2⟩=>?_
 subst ex
 obtain rfl:u = Value.ref a:=rx
 exact Vb hu I2 g ry fun s3 I3=>⟨.bl (!ov.isSome),H2,I3,rfl,q2⟩
theorem Dj (hu:X.A.units + 1 < cLine) (ho:PE X o td) (hi:PE X i ty) (hv:PE X value tv) (hs:swapsWith value (some (.Subscript o i pos')) pos.line X.env = pure false) :
  PS X (.Assign [.Subscript o i pos'] value pos) (Lf td ty tv):=by
 intro pins s σ H D I h
 refine wpAny_Assign_Subscript (thn (hv pins s σ H _ I h) fun r s1 ⟨v,H1,I1,rv,q1⟩=>thn (ho pins s1 σ H1 _ I1 q1) fun u s2 ⟨x,H2,I2,rx,q2⟩=>thn (hi pins s2 σ H2 _ I2 q2) fun iv s3 ⟨y,H3,I3,ry,a,H4,ex,g,q3⟩=>?_) hs
 subst ex
 obtain rfl:u = Value.ref a:=rx
 exact Nx hu I3 g ry rv fun s4 I4=>⟨σ,H4,I4,q3⟩
end
theorem Pr {P:Program} {w:World} {H:Hp} (h:Heap) (hb:sysModules < h.objs.size):cQ P w H (h.push { cls:=.type "dict",data:=.dict #[] }) h.objs.size (.dK []) :=
 ⟨aZ _,beq_eq_false_iff_ne.mpr (Ne.symm (aP hb)),[],.nil,Heap.DictOf.new h⟩
noncomputable def Df:TE:=fun _ H Q=>∀ p,H p = none->Q (.ref p) (upd H p (.dK []))
section
variable {X:Cx} {pos:Pos}
theorem yx:PE X (.Dict [] [] pos) Df:=fun pins s σ H Q I h =>
 wpAny_Dict_empty ⟨.ref s.heap.objs.size,_,I.laid (a:=s.heap.objs.size) (o:=.dK []) (t':=s.toks) (fun _ _ q=>aF _ q) (aD _) (Pr s.heap I.big),rfl,h _ (I.hok.fresh (aD _))⟩
end
structure M2 (X:Cx) (o:Expr) (m:Str) (apos:Pos) (e f:Expr) (cpos:Pos):Prop where
 base:attributeBase o m X.env (eval o X.env) = eval o X.env
 few:((backTo cpos (starEach [e,f] X.env)).all (fun x=>!x.1) && (backToKw cpos (keywordEach [] X.env)).all (fun x=>x.1.isSome)
  && decide (([e,f] : List Expr).length + ([] : List Keyword).length + (if ([] : List Keyword).isEmpty then 0 else 1) < 30)) = true
 line:(apos.endLine == cpos.line) = true
 trees:backTo cpos (starEach [e,f] X.env) = [(false,eval e X.env),(false,eval f X.env)]
noncomputable def IsD (H:Hp) (a:Addr):Prop:=(∃ kvs,Rd H a (.dK kvs))\/False
theorem Xh {X:Cx} {pins:List (Addr × Obj)} {σ:St} {H:Hp} {s:Shared} {a:Addr} (I:Inv X pins σ H s) (d:IsD H a) :
  s.TypeIs (.ref a) "dict" /\ (∀ b,Value.ref a = .ref b->∃ ob,s.heap.get? b = some ob/\ob.dict = none)/\(a == sysModules) = false:=by
 rcases d with ⟨kvs,e⟩ | hF
 .obtain ⟨_,hd,vs,_,dd⟩:=zW I.hok e
  refine ⟨dd.typeIs,fun b q=>?_,hd⟩
  cases q
  obtain ⟨ob,_,_,h1,h2,_⟩:=dd
  exact ⟨ob,h1,h2.2.1⟩
 .exact hF.elim
section
variable {X:Cx} {pins:List (Addr × Obj)} {σ:St} {H:Hp} {s:Shared} {a:Addr} {y d:V} {u r:Value} {o:Option V} {A:Around} {E:Value->Shared->Prop}
theorem Xb {Q:Value->Shared->Prop} (hu:A.units + 1 < cLine) (I:Inv X pins σ H s) (g:qJ H a y o) (ry:RelV y u) (rd:RelV d r) (h:∀ w' s',Inv X pins σ H s'->RelV (o.getD d) w'->Q w' s') :
  wpAny (model X.prog X.w) A (call (.builtin "dict.get") [.ref a,u,r]) Q E s:=by
 rcases g with ⟨kvs,k,e,ey,l⟩ | hF
 .subst ey
  obtain ⟨z,hd,vs,rel,dd⟩:=zW I.hok e
  refine call_meetsIn PySem.F.slot_dict_get dd.typeIs PySem.F.entry_dict_get (PySem.F.args_dict_get_3 _ _ _) (meets_dict_get_default (iR X.prog X.w) a (GX ry) hd r) ⟨_,dd.mapOf,h _ _ (I.tok _) ?_⟩
  rw [l]
  exact (rel.val k).getD rd
 .exact hF.elim
end
noncomputable def Dq (td ty tx:TE):TE:=fun σ H Q=>td σ H fun x H1=>∃ a,x = .ref a/\IsD H1 a/\ty σ H1 fun y H2=>tx σ H2 fun z H3=>∃ o,qJ H3 a y o/\Q (o.getD z) H3
section
variable {X:Cx} {o e f:Expr} {apos cpos:Pos} {td ty tx:TE}
theorem Qq (hu:X.A.units + 1 < cLine) (ho:PE X o td) (he:PE X e ty) (hf:PE X f tx) (m:M2 X o "get" apos e f cpos):PE X (.Call (.Attribute o "get" apos) [e,f] [] cpos) (Dq td ty tx):=by
 intro pins s σ H Q I h
 refine wpAny_Call_method m.base m.few m.line PySem.F.plainAttrs_dict PySem.F.slot_dict_get PySem.F.type_dict_get (thn (ho pins s σ H _ I h) fun u s1 ⟨x,H1,I1,rx,a,ex,d,q1⟩=>?_)
 subst ex
 obtain rfl:u = Value.ref a:=rx
 obtain ⟨t1,t2,_⟩:=Xh I1 d
 refine ⟨t1,t2,?_⟩
 rw [m.trees]
 refine Calls.callWith_builtin rfl (Calls.evalArgs_plain (Calls.spliced_cons (thn (he pins s1 σ H1 _ I1 q1) fun iv s2 ⟨y,H2,I2,ry,q2⟩ =>
  Calls.spliced_cons (thn (hf pins s2 σ H2 _ I2 q2) fun fv s3 ⟨z,H3,I3,rz,ov,g,q3⟩=>Calls.spliced_nil ?_))))
 exact Xb hu I3 g ry rz fun w' s4 I4 rw'=>⟨_,H3,I4,rw',q3⟩
end
section
variable {X:Cx} {pins:List (Addr × Obj)} {σ:St} {H:Hp} {s:Shared} {a:Addr} {kvs:List (Key × V)} {A:Around} {E:Value->Shared->Prop}
end
section
variable {X:Cx} {pins:List (Addr × Obj)} {σ:St} {H:Hp} {s:Shared} {a:Addr} {y:V} {u:Value} {A:Around} {E:Value->Shared->Prop}
end
section
variable {κ:Type} [DecidableEq κ]
end
end L2
namespace L2
open PySem PySem.Spec PyProof.Rows
noncomputable def Itk (a:Addr) (o:Obj) (kvs:List (Key × V)):It:=⟨fun i H=>H a = some (.frz o (.dK kvs))/\i < kvs.length,fun i H v H'=>H' = H/\∃ k y,kvs[i]? = some (k,y)/\v = kV k,fun i H=>H a = some (.frz o (.dK kvs))/\i = kvs.length⟩
theorem abH {P:Program} {w:World} {k:Key} {u:Value} (h:(iR P w).is k u = true):RelV (kV k) u:=by
 have h:vC k u = true:=h
 cases k with
 | inl i =>
  cases u <;> simp [vC,Value.isInt] at h
  .subst h; exact ⟨_,rfl⟩
 | inr x =>
  cases u <;> simp [vC,Value.isStrOf] at h
  .subst h; exact ⟨_,rfl⟩
theorem KV.at {κ:Type} {kvs:List (κ × V)} {vs:List (κ × Value)} (r:KV kvs vs):∀ {i:Nat} {k:κ} {y:V},kvs[i]? = some (k,y)->∃ u,vs[i]? = some (k,u)/\RelV y u:=by
 unfold KV at r
 induction r with
 | nil=>intro i k y h; cases h
 | @cons p q ps qs h t ih =>
  intro i k y e
  cases i with
  | zero =>
   rw [List.getElem?_cons_zero] at e
   cases e
   obtain ⟨q1,q2⟩:=q
   obtain ⟨h1,h2⟩:=h
   cases h1
   exact ⟨q2,rfl,h2⟩
  | succ i =>
   rw [List.getElem?_cons_succ] at e ⊢
   exact ih e
theorem MK {P:Program} {w:World} {K:Frag} {tg:Expr} (it a:Addr) (o:Obj) (kvs:List (Key × V)) (vs:List (Key × Value)) (ep:Nat) (rel:KV kvs vs) (hD:∀ h:Heap,h.get? a = some o->h.DictAt (iR P w) a vs ep) :
  Turn P w K tg (Itk a o kvs) [it] it (fun i h=>h.IsKeyIter it a i vs.length ep) where
 mem:=by simp
 obj:=fun i h st b hb=>by
  have e:b = it:=by simpa using hb
  subst e
  obtain ⟨o,ho,_,hd⟩:=st
  exact ⟨o,ho,fun v z=>by rw [hd] at z; cases z⟩
 keep:=fun i h h' st k=>let ⟨o,ho,r⟩:=st; ⟨o,k it (by simp) o ho,r⟩
 item:=by
  intro X hP hw hK hc i pins s σ H E I hf st hg
  subst hP hw hK
  obtain ⟨hg,hlt⟩:=hg
  obtain ⟨ho,_⟩:=(show cQ X.prog X.w H s.heap a (.frz o (.dK kvs)) from I.hok a _ hg)
  obtain ⟨f0,f1,f2,f3,f4,f5⟩:=hf it (by simp)
  obtain ⟨⟨k,y⟩,hx⟩ : ∃ p,kvs[i]? = some p:=⟨kvs[i],by simp [hlt]⟩
  obtain ⟨u,hu,ru⟩:=rel.at hx
  refine wpAny_pyNext_dict_item st (hD _ ho) hu fun key h' hkey st' sb=>?_
  have I1:Inv X pins σ H { s with heap:=h' }:=I.turned (t':=s.toks) (fun b ob hb e=>(sb.2 b hb).trans e) f0 f1 f3 f4 f5
  obtain ⟨oi,e,c,d⟩:=id st'
  exact ⟨key,rfl,Mj (s:={ s with heap:=h' }) e c d (by decide) ⟨kV k,H,I1,abH hkey,⟨rfl,k,y,hx,rfl⟩,st',fun b hb=>(hf b hb).1⟩⟩
 done:=by
  intro X hP hw hK hc i pins s σ H E I hf st hg
  subst hP hw hK
  obtain ⟨hg,rfl⟩:=hg
  obtain ⟨ho,_⟩:=(show cQ X.prog X.w H s.heap a (.frz o (.dK kvs)) from I.hok a _ hg)
  obtain ⟨f0,f1,f2,f3,f4,f5⟩:=hf it (by simp)
  have hl:=rel.length
  exact wpAny_pyNext_dict_end (I.ok.hd hc) st (hD _ ho) (by simp; omega) fun h' eb=>⟨rfl,I.turned (t':=s.toks) (fun b ob hb e=>eb b ob hb e) f0 f1 f3 f4 f5⟩
 self:=fun _ _ _ _ _ st h=>wpAny_pyIter_keyiter st h
section
variable {X:Cx} {tg:Expr}
noncomputable def WY (te:TE):TI:=fun σ H R=>te σ H fun x H1=>∃ a kvs,x = .ref a/\H1 a = some (.dK kvs)/\∀ o,R (Itk a o kvs) (upd H1 a (.frz o (.dK kvs)))
theorem Vx {l:Expr} {tl:TE} (hl:PE X l tl):PI X tg l (WY tl):=by
 intro pins s σ H R I h
 refine thn (hl pins s σ H _ I h) fun v s1 ⟨x,H1,I1,r1,a,kvs,ex,ha,q⟩=>?_
 subst ex
 cases r1
 have ok:=(show cQ X.prog X.w H1 s1.heap a (.dK kvs) from I1.hok a _ ha)
 obtain ⟨z,hd,vs,rel,o,es,ep,e,ex,ed,ek,epr,en⟩:=ok
 have hD:∀ h:Heap,h.get? a = some o->h.DictAt (iR X.prog X.w) a vs ep:=fun h e=>⟨o,es,e,ex,ed,ek,epr,en⟩
 have I2:Inv X pins σ (upd H1 a (.frz o (.dK kvs))) s1:=by
  have:=I1.write (x:=a) (e:=a) (o:=.frz o (.dK kvs)) (h':=s1.heap) (t':=s1.toks) (by rw [ha]; exact True.intro) (.inl rfl) (fun b u hb z=>z) ⟨o,e⟩ ⟨e,z,hd,vs,rel,o,es,ep,e,ex,ed,ek,epr,en⟩
  exact this
 refine wpAny_pyIter_dict hd (hD _ e) ?_
 refine ⟨s1.heap.objs.size,[s1.heap.objs.size],_,Itk a o kvs,_,rfl,I2.kept (t':=s1.toks) fun b ob z=>aF _ z,MK _ a o kvs vs ep rel hD,⟨_,aW _ rfl,rfl,rfl⟩,fun b hb=>?_,q o⟩
 have e:b = s1.heap.objs.size:=by simpa using hb
 subst e
 exact I2.fpOk (aD _) (I2.hok.fresh (aD _))
noncomputable def tMG (g:TG):TG:=fun v σ H Q=>∃ R:L2.St->Hp->Prop,g v σ H R/\∀ σ' H',R σ' H'->Q σ' H'
noncomputable def tMT (t:TT):TT:=fun σ H Q=>∃ R:Bool->Hp->Prop,t σ H R/\∀ b H',R b H'->Q b H'
theorem PG.mono {e:Expr} {g:TG} (h:PG X e g):PG X e (tMG g):=fun pins s σ H v u Q I r ⟨R,h1,h2⟩=>thn (h pins s σ H v u R I r h1) fun _ s' ⟨σ',H',I',q⟩=>⟨σ',H',I',h2 σ' H' q⟩
theorem PTs.mono {ifs:List Expr} {t:TT} (h:PTs X ifs t):PTs X ifs (tMT t):=fun pins s σ H Q I ⟨R,h1,h2⟩=>thn (h pins s σ H R I h1) fun b s' ⟨H',I',q⟩=>⟨H',I',h2 b H' q⟩
noncomputable def wC (n:Nat) (gt:TG) (tc:TT) (te:TE) (x:V) (σ:L2.St) (H:Hp) (Y:VK) (No:Hp->Prop):Prop:=∀ pre:L2.St,pre.length = n->gt x (pre ++ σ) H fun σ2 H2=>∃ pre':L2.St,pre'.length = n/\σ2 = pre' ++ σ/\tc σ2 H2 fun b H3 =>
 match b with
 | true=>te σ2 H3 Y
 | false=>No H3
theorem wC.weak {n:Nat} {gt:TG} {tc:TT} {te:TE} {x:V} {σ:L2.St} {H:Hp} {Y Y':VK} {No No':Hp->Prop} (h:wC n gt tc te x σ H Y No) (h1:∀ y H',Y y H'->Y' y H') (h2:∀ H',No H'->No' H'):wC n (tMG gt) (tMT tc) (tM te) x σ H Y' No':=fun pre hp =>
 ⟨_,h pre hp,fun σ2 H2 ⟨pre',e1,e2,q⟩=>⟨pre',e1,e2,_,q,fun b H3 z=>match b,z with
  | true,z=>⟨_,z,h1⟩
  | false,z=>h2 H3 z⟩⟩
theorem qp {K:Frag} {tl te:TE} {gt:TG} {tc:TT} {n:Nat} {σ:L2.St} {H:Hp} {Q:VK} (h:tl σ H fun x H1=>∃ a xs,x = .ref a/\H1 a = some (.lst xs)/\xs.length <= sizeLine/\∀ D,H1 D = none->∃ J:Nat->List V->Hp->Prop,J 0 [] (upd H1 D (.lst [])) /\
   (∀ k x ys Hc,xs[k]? = some x->J k ys Hc->ys.length <= k->Hc a = some (.lst xs)->wC n gt tc te x σ Hc (fun y H2=>H2 D = some (.lst ys)/\H2 a = some (.lst xs)/\J (k + 1) (ys ++ [y]) (upd H2 D (.lst (ys ++ [y])))) fun H2=>H2 a = some (.lst xs)/\J (k + 1) ys H2) /\
   ∀ ys Hc,J xs.length ys Hc->ys.length <= xs.length->Q (.ref D) Hc):jg (zV K (tM tl)) n (tMG gt) (tMT tc) (tM te) σ H Q:=by
 refine ⟨_,h,?_⟩
 rintro x H1 ⟨a,xs,rfl,hx,hz,rest⟩
 refine ⟨a,rfl,⟨xs,.of hx⟩,fun D hD=>?_⟩
 obtain ⟨J,j0,step,fin⟩:=rest D hD
 have ne:a ≠ D:=bB hx hD
 refine ⟨fun k m ys Hc=>k <= xs.length/\m = xs.length - k/\ys.length <= k/\Hc a = some (.lst xs)/\J k ys Hc,⟨_,aZ _,rfl,aZ _,(bG ne).trans hx,j0⟩,?_⟩
 rintro k m ys Hc ⟨hk,rfl,hy,hx',j⟩
 by_cases e:k = xs.length
 .subst e
  exact .inl ⟨⟨xs,.of hx',aD _⟩,fin ys Hc j hy⟩
 .have hlt:k < xs.length:=by omega
  refine .inr ⟨⟨xs,_,.of hx',aj hlt⟩,?_⟩
  rintro x H'' ⟨rfl,y⟩
  refine (step k x ys H'' (y xs (.of hx')) j hy hx').weak ?_ ?_
  .rintro yv H2 ⟨z1,z2,z3⟩
   refine ⟨by omega,z1,xs.length - (k + 1),by omega,by omega,rfl,?_,?_,z3⟩
   .rw [au]; simp; omega
   .rw [bG ne]; exact z2
  .rintro H2 ⟨z2,z3⟩
   exact ⟨xs.length - (k + 1),by omega,by omega,rfl,by omega,z2,z3⟩
theorem Ho {tl te:TE} {gt:TG} {tc:TT} {n:Nat} {σ:L2.St} {H:Hp} {Q:VK} (h:tl σ H fun x H1=>∃ a kvs,x = .ref a/\H1 a = some (.dK kvs)/\kvs.length <= sizeLine/\∀ o D,upd H1 a (.frz o (.dK kvs)) D = none->∃ J:Nat->List V->Hp->Prop,J 0 [] (upd (upd H1 a (.frz o (.dK kvs))) D (.lst [])) /\
   (∀ i k y ys Hc,kvs[i]? = some (k,y)->J i ys Hc->ys.length <= i->Hc a = some (.frz o (.dK kvs))->wC n gt tc te (kV k) σ Hc (fun y H2=>H2 D = some (.lst ys)/\H2 a = some (.frz o (.dK kvs))/\J (i + 1) (ys ++ [y]) (upd H2 D (.lst (ys ++ [y])))) fun H2=>H2 a = some (.frz o (.dK kvs))/\J (i + 1) ys H2) /\
   ∀ ys Hc,J kvs.length ys Hc->ys.length <= kvs.length->Q (.ref D) Hc):jg (WY (tM tl)) n (tMG gt) (tMT tc) (tM te) σ H Q:=by
 refine ⟨_,h,?_⟩
 rintro x H1 ⟨a,kvs,rfl,hx,hz,rest⟩
 refine ⟨a,kvs,rfl,hx,fun o D hD=>?_⟩
 obtain ⟨J,j0,step,fin⟩:=rest o D hD
 have ne:a ≠ D:=bB bD hD
 refine ⟨fun k m ys Hc=>k <= kvs.length/\m = kvs.length - k/\ys.length <= k/\Hc a = some (.frz o (.dK kvs))/\J k ys Hc,⟨_,aZ _,rfl,aZ _,(bG ne).trans bD,j0⟩,?_⟩
 rintro k m ys Hc ⟨hk,rfl,hy,hx',j⟩
 by_cases e:k = kvs.length
 .subst e
  exact .inl ⟨⟨hx',rfl⟩,fin ys Hc j hy⟩
 .have hlt:k < kvs.length:=by omega
  refine .inr ⟨⟨hx',hlt⟩,?_⟩
  rintro x H'' ⟨rfl,kk,yy,hkk,rfl⟩
  refine (step k kk yy ys H'' hkk j hy hx').weak ?_ ?_
  .rintro yv H2 ⟨z1,z2,z3⟩
   refine ⟨by omega,z1,kvs.length - (k + 1),by omega,by omega,rfl,?_,?_,z3⟩
   .rw [au]; simp; omega
   .rw [bG ne]; exact z2
  .rintro H2 ⟨z2,z3⟩
   exact ⟨kvs.length - (k + 1),by omega,by omega,rfl,by omega,z2,z3⟩
end
end L2
namespace L2
open PySem PySem.Spec PyProof.Rows
theorem Same.tup {K:Frag} {H H':Hp} {a:Addr} {xs:List V} (e:Same H H') (h:SqT K H a xs):SqT K H' a xs:=by
 rcases h with (h | ⟨o,h⟩) | h
 .exact .inl (.inl (e _ _ h))
 .exact .inl (.inr ⟨o,e _ _ h⟩)
 .exact .inr h
theorem SqT.updO {K:Frag} {H:Hp} {a l:Addr} {xs:List V} {o u:HO} (h:SqT K H a xs) (hl:H l = some o) (h1:∀ ys,o ≠ .tup ys) (h2:∀ ob ys,o ≠ .frz ob (.tup ys)):SqT K (upd H l u) a xs:=by
 rcases h with (h | ⟨ob,h⟩) | h
 .exact .inl (.inl ((bG (eF h hl (fun z=>h1 xs z.symm))).trans h))
 .exact .inl (.inr ⟨ob,(bG (eF h hl (fun z=>h2 ob xs z.symm))).trans h⟩)
 .exact .inr h
mutual
inductive jD (K:Frag) (H:Hp):V->PyData->Prop
 | non:jD K H .non .none
 | bl (b:Bool):jD K H (.bl b) (.bool b)
 | int (i:Int):jD K H (.int i) (.int i)
 | str (x:Str):jD K H (.str x) (.str x)
 | lst {a:Addr} {xs:List V} {ds:List PyData} : H a = some (.lst xs)->cI K H xs ds->jD K H (.ref a) (.list ds)
 | tup {a:Addr} {xs:List V} {ds:List PyData} : SqT K H a xs->cI K H xs ds->jD K H (.ref a) (.tuple ds)
inductive cI (K:Frag) (H:Hp):List V->List PyData->Prop
 | nil:cI K H [] []
 | cons {x:V} {xs:List V} {d:PyData} {ds:List PyData} : jD K H x d->cI K H xs ds->cI K H (x :: xs) (d :: ds)
end
mutual
theorem jD.same {K:Frag} {H H':Hp} (S:Same H H'):∀ {x:V} {d:PyData},jD K H x d->jD K H' x d
 | _,_,.non=>.non
 | _,_,.bl b=>.bl b
 | _,_,.int i=>.int i
 | _,_,.str x=>.str x
 | _,_,.lst e h=>.lst (S _ _ e) (cI.same S h)
 | _,_,.tup e h=>.tup (S.tup e) (cI.same S h)
theorem cI.same {K:Frag} {H H':Hp} (S:Same H H'):∀ {xs:List V} {ds:List PyData},cI K H xs ds->cI K H' xs ds
 | _,_,.nil=>.nil
 | _,_,.cons h t=>.cons (jD.same S h) (cI.same S t)
end
theorem cI.ints (K:Frag) (H:Hp):∀ ns:List Int,cI K H (ns.map V.int) (ns.map PyData.int)
 | []=>.nil
 | n :: ns=>.cons (.int n) (cI.ints K H ns)
section
variable {X:Cx} {pins:List (Addr × Obj)} {σ:L2.St} {H:Hp} {s:Shared}
mutual
theorem Inv.readsK (I:Inv X pins σ H s):∀ {x:V} {d:PyData} {v:Value},jD X.K H x d->RelV x v->∃ as,Reads s.heap v d as
 | _,_,_,.non,r=>by cases r; exact ⟨_,.none⟩
 | _,_,_,.bl b,r=>by cases r; exact ⟨_,.bool b⟩
 | _,_,_,.int i,r=>by obtain ⟨t,rfl⟩:=r; exact ⟨_,.int i t⟩
 | _,_,_,.str x,r=>by obtain ⟨t,rfl⟩:=r; exact ⟨_,.str x t⟩
 | _,_,_,.lst e h,r=>by
  cases r
  obtain ⟨its,rv,⟨o,ho,hc,n,hd⟩⟩:=I.lstIs e
  obtain ⟨as,q⟩:=Inv.readsAllK I h rv
  exact ⟨_,.list ho hc hd q⟩
 | _,_,_,.tup e h,r=>by
  cases r
  obtain ⟨its,rv,⟨o,ho,hc,n,hd⟩,_⟩:=I.tuple e
  obtain ⟨as,q⟩:=Inv.readsAllK I h rv
  exact ⟨_,.tuple ho hc hd q⟩
theorem Inv.readsAllK (I:Inv X pins σ H s):∀ {xs:List V} {ds:List PyData} {vs:List Value},cI X.K H xs ds->Vals xs vs->∃ as,ReadsAll s.heap vs ds as
 | _,_,_,.nil,r=>by cases r; exact ⟨_,.nil⟩
 | _,_,_,.cons h t,r=>by
  cases r with
  | cons r1 r2 =>
   obtain ⟨a,q1⟩:=Inv.readsK I h r1
   obtain ⟨b,q2⟩:=Inv.readsAllK I t r2
   exact ⟨_,.cons q1 q2⟩
end
noncomputable def Rw (K:Frag) (neg:Bool):R2:=fun x y H Q=>∃ d e,jD K H x d/\jD K H y e/\SeqAt.shaped d = true/\SeqAt.shaped e = true/\Q (.bl (if neg then !PyData.eqv d e else PyData.eqv d e)) H
theorem Xe (hu:X.A.units + 64 < cLine):OpR X (compareOp .NotEq) (Rw X.K true):=by
 intro pins s σ H x y v u Q I rx ry h
 obtain ⟨d,e,hd,he,sd,se,q⟩:=h
 obtain ⟨as,ra⟩:=I.readsK hd rx
 obtain ⟨bs,rb⟩:=I.readsK he ry
 exact SeqAt.compareNe_shaped ra rb sd se hu ⟨.bl _,H,I,rfl,q⟩
end
section
variable {X:Cx}
noncomputable def Ly (K:Frag):List V->Hp->VK->Prop:=fun xs H Q=>∃ p ys,xs = [.ref p]/\SqT K H p ys/\Q (.int ys.length) H
theorem M_:dU X (.builtin "len") (Ly X.K):=vh.imp fun xs H Q ⟨p,ys,a,b,c⟩=>⟨p,ys,a,.inr b,c⟩
noncomputable def wY (K:Frag):List V->Hp->VK->Prop:=fun xs H Q=>∃ p T ys,xs = [.ref p,.ty T]/\T ∈ ["bool", "int", "str", "list", "tuple", "dict"]/\SqT K H p ys/\Q (.bl (HN "tuple" T)) H
theorem Gn:dU X (.builtin "isinstance") (wY X.K):=by
 intro pins s σ H xs us Q I r h
 obtain ⟨p,T,ys,rfl,hT,hp,q⟩:=h
 obtain ⟨u,v,rfl,ru,rv⟩:=r.two
 cases ru
 cases rv
 obtain ⟨its,rvs,⟨o,ho,hc,n,hd⟩,_⟩:=I.tuple hp
 refine PySem.W.kia_one (PySem.W.kitx_tuple (a:=p)) I.kIn ⟨o,ho,hc⟩ (Le (K:=X.K) (t := "tuple") (by decide) hT) (fun z=>nomatch z) fun tk=>⟨.bl _,H,I.tok _,rfl,q⟩
end
end L2
namespace L2
open PySem PySem.Spec PyProof.Rows
noncomputable def OkI (P:Program) (w:World) (K:Frag) (mg:Str->Option Value) (base:Heap) (CX:CXT) (k:Nat) (f:Addr) (ps:List Str) (sp:Sp):Prop:=∃ fd,cB P w K mg base CX k f fd ps sp/\Binds K fd ps []
noncomputable def oY (K:Frag) (x qual:Str) (st:Stmt) (ps:List Str) (f:Addr):Prop:=∃ fd,Fun K x qual st f fd/\∀ us:List Value,us.length = ps.length->bindArgs fd ⟨us,[]⟩ = pure (ps.zip us)
theorem oY.ok {P:Program} {w:World} {K:Frag} {mg:Str->Option Value} {base:Heap} {CX:CXT} {k:Nat} {x qual:Str} {st:Stmt} {ps:List Str} {f:Addr} {sp:Sp} (h:oY K x qual st ps f) (hf:∀ fd,Fun K x qual st f fd->cB P w K mg base CX k f fd ps sp):OkI P w K mg base CX k f ps sp :=
 let ⟨fd,a,b⟩:=h; ⟨fd,hf fd a,.all b⟩
theorem Uy {K:Frag} {x qual:Str} {st:Stmt} {ps:List Str} {f:Addr} {oc:Value} {od an:Option Addr} {osl:Array (Option Value)} {kV doc pm cdv ct:Value}
  (l:K.lookup f = some ⟨oc,od,.func (PySem.W.fnOf x qual (iw st) (eG st) (bK st) .none kV doc pm an cdv ct),osl⟩) (c:PySem.W.codeIn K cdv qual = true) (k:PySem.W.keepIn K (.ref f) = true)
  (hb:∀ (kV doc pm:Value) (an:Option Addr) (cdv ct:Value) (us:List Value),us.length = ps.length->bindArgs (PySem.W.fnOf x qual (iw st) (eG st) (bK st) .none kV doc pm an cdv ct) ⟨us,[]⟩ = pure (ps.zip us)):oY K x qual st ps f :=
 ⟨_,PJ l c k,hb kV doc pm an cdv ct⟩
section
variable {X:Cx} {k:Nat} {f C B:Addr} {ps:List Str} {sp:Sp} {x m:Str} {p pos apos:Pos} {e o:Expr} {es:List Expr} {ta:TE} {t:TA} {Ex:Value->Option Addr->L2.St->Hp->Prop}
theorem PE.any {ι:Sort _} {R:ι->Prop} {a:Expr} {ts:ι->TE} (h:∀ i,R i->PE X a (ts i)):PE X a (fun σ H Q=>∃ i,R i/\ts i σ H Q):=fun pins s σ H Q I ⟨i,r,q⟩=>h i r pins s σ H Q I q
noncomputable def Es (C:Addr) (sp:Sp) (Ex:Value->Option Addr->L2.St->Hp->Prop) (t:TA):TE:=fun σ H Q=>t σ H fun vs H1=>∀ x dx,H1 x = none->H1 dx = none->dx ≠ x->sp (.ref x :: vs) (upd (upd H1 dx (.own x)) x (.ins C dx [])) (fun v H2=>v = .non/\Q (.ref x) H2) fun E d H'=>Ex E d σ H'
theorem qy (M:Mk X.K C f) (G:OkI X.prog X.w X.K X.mg X.base (CXO X.prog X.w) k f ps sp) (hr:fQ (k + 1) X.A) (hg:Gl X x) (hm:X.mg x = some (.ref C)) (hx:Aa X Ex) (ha:PA X (e :: es) t) (hdb:(x == ("__debug__" : Str)) = false:=by decide)
  (he:starEach (e :: es) X.env = (false,eval e X.env) :: starEach es X.env:=by rfl) (hpl:(backTo pos (starEach es X.env)).any (·.1) = false:=by rfl):PE X (.Call (.Name x p) (e :: es) [] pos) (Es C sp Ex t):=by
 obtain ⟨fd,F,hb⟩:=G
 refine (Qy M F hr hg hm hb .nil hx ha.mono hdb he hpl).imp fun σ H Q h=>⟨_,h,fun vs H1 q x dx h1 h2 h3=>?_⟩
 rw [List.append_nil]
 exact q x dx h1 h2 h3
noncomputable def zj (C:Addr) (m:Str) (sp:Sp) (ta:TE) (t:TA):TE:=fun σ H Q=>ta σ H fun x H1=>∃ a dx fs,x = .ref a/\H1 a = some (.ins C dx fs)/\fs.lookup m = none/\t σ H1 fun vs H2=>sp (x :: vs) H2 Q E0
theorem zE {pl:Sem Bool} (he:PE X o ta) (c:Cls X.K C) (hm:Meth X.K C m f) (G:OkI X.prog X.w X.K X.mg X.base CX0 k f ps sp) (hr:fQ k X.A) (ha:PA X (e :: es) t)
  (hst:starEach (e :: es) X.env = (false,eval e X.env) :: starEach es X.env:=by rfl) (hpl:(backTo pos (starEach es X.env)).any (·.1) = false:=by rfl)
  (ht:eval (.Call (.Attribute o m apos) (e :: es) [] pos) X.env = (do
   let ov <- eval o X.env
   standAt apos.atName
   let (f,first) <- holding [ov] (getMethod ov m pl)
   callWith pos f first (backTo pos (starEach (e :: es) X.env)) (backToKw pos (keywordEach [] X.env))):=by rfl) :
  PE X (.Call (.Attribute o m apos) (e :: es) [] pos) (zj C m sp ta t):=by
 obtain ⟨fd,F,hb⟩:=G
 refine (Ur (pl:=pl) he.mono c hm F hr hb .nil K9 ha.mono hst hpl ht).imp fun σ H Q h=>⟨_,h,?_⟩
 rintro x H1 ⟨a,dx,fs,h1,h2,h3,h4⟩
 refine ⟨a,dx,fs,h1,h2,h3,_,h4,fun vs H2 q=>?_⟩
 show sp (x :: (vs ++ [])) H2 Q E0
 rw [List.append_nil]
 exact q
theorem qY {pl:Sem Bool} (he:PE X o ta) (c:Cls X.K C) (hm:Meth X.K C m f) (G:OkI X.prog X.w X.K X.mg X.base CX0 k f ps sp) (hr:fQ k X.A)
  (ht:eval (.Call (.Attribute o m apos) [] [] pos) X.env = (do
   let ov <- eval o X.env
   standAt apos.atName
   let (f,first) <- holding [ov] (getMethod ov m pl)
   callWith pos f first (backTo pos (starEach [] X.env)) (backToKw pos (keywordEach [] X.env))):=by rfl) :
  PE X (.Call (.Attribute o m apos) [] [] pos) (zj C m sp ta sX):=by
 obtain ⟨fd,F,hb⟩:=G
 refine (Qn (pl:=pl) he.mono c hm F hr hb .nil K9 ht).imp fun σ H Q h=>⟨_,h,?_⟩
 rintro x H1 ⟨a,dx,fs,h1,h2,h3,h4⟩
 exact ⟨a,dx,fs,h1,h2,h3,h4⟩
theorem uL {pl:Sem Bool} (c:jL X.K B m f) (G:OkI X.prog X.w X.K X.mg X.base (CXO X.prog X.w) k f ps sp) (hr:fQ k X.A) (hg:Gl X x) (hm:X.mg x = some (.ref B)) (hx:Aa X Ex) (ha:PA X (e :: es) t) (hdb:(x == ("__debug__" : Str)) = false:=by decide)
  (hst:starEach (e :: es) X.env = (false,eval e X.env) :: starEach es X.env:=by rfl) (hpl:(backTo pos (starEach es X.env)).any (·.1) = false:=by rfl)
  (ht:eval (.Call (.Attribute (.Name x p) m apos) (e :: es) [] pos) X.env = (do
   let ov <- eval (.Name x p) X.env
   standAt apos.atName
   let (f,first) <- holding [ov] (getMethod ov m pl)
   callWith pos f first (backTo pos (starEach (e :: es) X.env)) (backToKw pos (keywordEach [] X.env))):=by rfl) :
  PE X (.Call (.Attribute (.Name x p) m apos) (e :: es) [] pos) (vN sp Ex t):=by
 obtain ⟨fd,F,hb⟩:=G
 exact PB (pl:=pl) c F hr hg hm hb hx ha hdb hst hpl ht
theorem jB {D:Addr} {pos:Pos} (hg:Gl X x) (hm:X.mg x = some (.ref D)) (hd:(x == ("__debug__" : Str)) = false:=by decide):PE X (.Name x pos) (tC (.ref D)):=Cv hg hm rfl hd
end
theorem Ky {X:Cx} {K:Frag} (e:X.K = K) (hu:X.A.units + 64 < cLine):OpR X (compareOp .NotEq) (Rw K true):=e ▸ Xe hu
end L2
namespace L2
open PySem PySem.Spec PyProof.Rows
theorem Bm {h:Heap} {o ob:Obj} {b:Addr} (e:(h.push o).get? b = some ob) (hs:b ≠ h.objs.size):h.get? b = some ob:=by
 obtain ⟨e1,e2⟩:=Heap.get?_some_iff.mp e
 refine Heap.get?_some_iff.mpr ⟨?_,e2⟩
 cases h
 simpa [Heap.push,Array.getElem?_push,hs] using e1
section
variable {X:Cx}
end
section
variable {ta:TA} {te:TE} {σ:L2.St} {H:Hp} {Q:VK}
end
section
variable {X:Cx}
theorem G5:∀ {ys:List Str} {vs:List Value},Vals (ys.map V.str) vs->StrsAre vs ys
 | [],_,h=>by cases h; exact .nil
 | y :: ys,_,h=>by
  rw [List.map_cons] at h
  cases h with
  | cons a b =>
   obtain ⟨t,rfl⟩:=a
   exact .cons y t (G5 b)
noncomputable def rJoin:V->List V->Hp->VK->Prop:=fun x vs H Q=>∃ a l ys,x = .str a/\vs = [.ref l]/\H l = some (.lst (ys.map V.str))/\(ys.map (·.length)).sum + ys.length * a.length <= 16777216/\Q (.str (Txt.join a ys)) H
theorem Ve:MtM X "str.join" rJoin:=by
 intro pins s σ H x vs v us Q I rx rv h
 obtain ⟨a,l,ys,rfl,rfl,hl,hz,q⟩:=h
 obtain ⟨t,rfl⟩:=rx
 obtain ⟨u,rfl,ru⟩:=rv.one
 cases ru
 obtain ⟨_,its,n,r,_,e⟩:=I.lstM hl
 exact join_list ⟨_,e,rfl,n,rfl⟩ (by simpa using G5 r) hz fun t' k=>⟨.str _,H,I.tok _,⟨_,rfl⟩,q⟩
structure Hu (K:Frag) (C:Addr):Prop where
 ha:PySem.W.findIn K (.ref C) "__class__" = some (some (.builtin "object.__class__"))
 hn:PySem.W.specialIn K (.builtin "object.__class__") "__get__" = some (some (.builtin "getset_descriptor.__get__"))
 tk:PySem.W.takesIn K (.builtin "object.__class__") = some true
 hm:PySem.W.mroIn K C (.type "object") = some true
noncomputable def Rh (K:Frag):List V->Hp->VK->Prop:=fun xs H Q=>∃ a D C dx fs b,xs = [.ref a,.ref D]/\H a = some (.ins C dx fs)/\Cls K C/\Hu K C/\PySem.W.kitOne K (.ref C) (.ref D) = some b/\Q (.bl b) H
noncomputable def R8:List V->Hp->VK->Prop:=fun xs H Q=>∃ i j,xs = [.int i,.int j]/\Q (.int (if j < i then j else i)) H
noncomputable def Q8:List V->Hp->VK->Prop:=fun xs H Q=>∃ i j,xs = [.int i,.int j]/\Q (.int (if j > i then j else i)) H
end
end L2
namespace L2
open PySem PySem.Spec PyProof.Rows
section
variable {X:Cx} {elt iter:Expr} {pos:Pos} {scope:Scope} {wi:TI} {te:TE}
theorem Ow {i0:Nat} {y0:Str} {py spos:Pos} {xs N':List Str} {tg:Expr} {ifs:List Expr} {gt:TG} {tc:TT} (hc:X.calm = true) (hsh:Cp xs X.N = N') (hN:(xs ++ N').Nodup) (hkind:scope.kind = .function) (hcell:∀ y ∈ scope.names,y.2 ≠ .cell) (hnames:∀ y ∈ scope.names,y.2 = .local->scope.names.lookup y.1 = some .local)
  (hfree:∀ y ∈ scope.names,y.2 = .free->X.env.kindOf y.1 = some .cell\/X.env.kindOf y.1 = some .free) (hloc:∀ y ∈ X.N,y ∉ xs->(relabel scope X.env).names.lookup y ≠ some .local) (hq:∀ y ∈ X.N,y ∈ xs->(relabel scope X.env).names.lookup (hid y) = none) (hi:PI X tg iter wi)
  (hg:∀ C s₀ H₀ ex pn,PG (X.compG N' scope xs C s₀ H₀ ex pn) tg gt) (ht:∀ C s₀ H₀ ex pn,PTs (X.compG N' scope xs C s₀ H₀ ex pn) ifs tc) (he:∀ C s₀ H₀ ex pn,PE (X.compG N' scope xs C s₀ H₀ ex pn) elt te) (hgy:PG X (.Name y0 py) (dI i0)) (hsw:swapsWith (.ListComp elt [⟨tg,iter,ifs,0⟩] scope pos) (some (.Name y0 py)) spos.line X.env = pure true) (hs:∀ z,foldedSetIterable iter X.env z = pure z:=by intro _; rfl) :
  PS X (.Assign [.Name y0 py] (.ListComp elt [⟨tg,iter,ifs,0⟩] scope pos) spos) (Aq (jg wi xs.length gt tc te) (dI i0)):=by
 intro pins s σ H D0 I h
 have h:jg wi xs.length gt tc te σ H (fun x H1=>dI i0 x σ H1 D0.nx):=h
 rw [exec_Assign_Name_used _ _ _ _ hsw]
 refine wpAny_bind (wpAny_standAt (wpAny_bind ?_))
 show wpAny _ X.A (comprehension (.ListComp elt [⟨tg,iter,ifs,0⟩] scope pos) scope X.env _ (newList []) false (eval iter X.env) (some (assign (.Name y0 py) X.env)) >>= fun _=>_) _ _ s
 refine wpAny_bind (wpAny_mono (xR (use:=some (assign (.Name y0 py) X.env)) (post:=fun _ s'=>SP X pins D0 .next s') hc hsh hN hkind hcell hnames hfree hloc hq hi hg ht he hs I h fun C D Hc s6 m fl hn6 I6 fC qn=>?_) (fun _ s' hq=>wpAny_pure (wpAny_pure hq)) fun _ _ e=>e)
 obtain ⟨oc,es,ep,ho,hdat,_⟩:=id hn6
 have I7:=I6.pinned (fp:=[C]) (fun b hb=>by rw [List.mem_singleton.mp hb]; exact fC) fun b hb=>by
  rw [List.mem_singleton.mp hb]
  exact ⟨oc,ho,fun v z=>by rw [hdat] at z; cases z⟩
 show wpAny _ X.A (assign (.Name y0 py) X.env _) _ _ s6
 refine thn (hgy _ s6 σ Hc (.ref D) _ D0.nx I7 rfl qn) fun _ s7 ⟨σ7,H7,Z7,q7⟩=>?_
 have pn7:=Z7.pin (C,oc) (aO _ (aO _ (lU (by simp) ho)))
 refine ⟨m,hn6.at' fun o e=>?_,fun h' hs'=>⟨σ7,H7,Z7.unpinned.turned (it:=C) (h':=h') (t':=s7.toks) (fun b o hb e=>(hs'.2 b hb).trans e) pn7.2.1 fC.2.1 fC.2.2.2.1 fC.2.2.2.2.1 fC.2.2.2.2.2,q7⟩⟩
 rw [ho] at e
 cases e
 exact pn7.1
theorem QH {te:TE} {x:V} {σ:L2.St} {H:Hp} {Y:VK} {No:Hp->Prop} (h:te (some x :: σ) H Y):wC 1 (dI 0) HY te x σ H Y No:=fun pre hp=>by
 obtain ⟨u,rfl⟩:=List.length_eq_one_iff.mp hp
 exact ⟨[some x],rfl,rfl,h⟩
theorem dz {K:Frag} {tl te:TE} {σ:L2.St} {H:Hp} {Q:VK} (h:tl σ H fun x H1=>∃ a xs,x = .ref a/\H1 a = some (.lst xs)/\xs.length <= sizeLine/\∀ D,H1 D = none->∃ J:Nat->List V->Hp->Prop,J 0 [] (upd H1 D (.lst [])) /\
   (∀ k x ys Hc,xs[k]? = some x->J k ys Hc->ys.length = k->Hc a = some (.lst xs)->te (some x :: σ) Hc fun y H2=>H2 D = some (.lst ys)/\H2 a = some (.lst xs)/\J (k + 1) (ys ++ [y]) (upd H2 D (.lst (ys ++ [y])))) /\
   ∀ ys Hc,J xs.length ys Hc->ys.length = xs.length->Q (.ref D) Hc):jg (zV K (tM tl)) 1 (tMG (dI 0)) (tMT HY) (tM te) σ H Q:=by
 refine ⟨_,h,?_⟩
 rintro x H1 ⟨a,xs,rfl,hx,hz,rest⟩
 refine ⟨a,rfl,⟨xs,.of hx⟩,fun D hD=>?_⟩
 obtain ⟨J,j0,step,fin⟩:=rest D hD
 have ne:a ≠ D:=bB hx hD
 refine ⟨fun k m ys Hc=>k <= xs.length/\m = xs.length - k/\ys.length = k/\Hc a = some (.lst xs)/\J k ys Hc,⟨_,aZ _,rfl,rfl,(bG ne).trans hx,j0⟩,?_⟩
 rintro k m ys Hc ⟨hk,rfl,hy,hx',j⟩
 by_cases e:k = xs.length
 .subst e
  exact .inl ⟨⟨xs,.of hx',aD _⟩,fin ys Hc j hy⟩
 .have hlt:k < xs.length:=by omega
  refine .inr ⟨⟨xs,_,.of hx',aj hlt⟩,?_⟩
  rintro x H'' ⟨rfl,y⟩
  refine (QH (No:=fun _=>False) (step k x ys H'' (y xs (.of hx')) j hy hx')).weak ?_ (fun _ z=>z.elim)
  rintro yv H2 ⟨z1,z2,z3⟩
  refine ⟨by omega,z1,xs.length - (k + 1),by omega,by omega,rfl,?_,?_,z3⟩
  .rw [au,hy]; rfl
  .rw [bG ne]; exact z2
theorem Jy {te:TE} {σ:L2.St} {H:Hp} {Q:VK} {lo:Int} {n:Nat} (hn:n <= 64) (rest:∀ D,H D = none->∃ J:Nat->List V->Hp->Prop,J 0 [] (upd H D (.lst []))/\(∀ k ys Hc,k < n->J k ys Hc->ys.length = k->te (some (.int (lo + k)) :: σ) Hc fun y H2=>H2 D = some (.lst ys)/\J (k + 1) (ys ++ [y]) (upd H2 D (.lst (ys ++ [y]))))/\∀ ys Hc,J n ys Hc->ys.length = n->Q (.ref D) Hc) :
  ∀ D,H D = none->∃ W:Nat->Nat->List V->Hp->Prop,(∃ m,W 0 m [] (upd H D (.lst [])))/\∀ i m ys Hc,W i m ys Hc->((Itr lo n).stop i Hc/\Q (.ref D) Hc)\/((Itr lo n).go i Hc/\∀ x H',(Itr lo n).yld i Hc x H'->wC 1 (tMG (dI 0)) (tMT HY) (tM te) x σ H' (fun y H2=>ys.length < sizeLine/\H2 D = some (.lst ys)/\∃ m',m' < m/\W (i + 1) m' (ys ++ [y]) (upd H2 D (.lst (ys ++ [y])))) fun H3=>∃ m',m' < m/\W (i + 1) m' ys H3):=by
 intro D hD
 obtain ⟨J,j0,step,fin⟩:=rest D hD
 have hz:64 <= sizeLine:=by decide
 refine ⟨fun k m ys Hc=>k <= n/\m = n - k/\ys.length = k/\J k ys Hc,⟨_,aZ _,rfl,rfl,j0⟩,?_⟩
 rintro k m ys Hc ⟨hk,rfl,hy,j⟩
 by_cases e:k = n
 .subst e
  exact .inl ⟨aD _,fin ys Hc j hy⟩
 .have hlt:k < n:=by omega
  refine .inr ⟨hlt,?_⟩
  rintro x H'' ⟨rfl,rfl⟩
  refine (QH (No:=fun _=>False) (step k ys H'' hlt j hy)).weak ?_ (fun _ z=>z.elim)
  rintro yv H2 ⟨z1,z2⟩
  exact ⟨by omega,z1,n - (k + 1),by omega,by omega,rfl,by rw [au,hy]; rfl,z2⟩
theorem j_ {ta:TA} {te:TE} {σ:L2.St} {H:Hp} {Q:VK} (h:ta σ H fun vs H1=>∃ n:Nat,vs = [.int n]/\n <= 64/\∀ D,H1 D = none->∃ J:Nat->List V->Hp->Prop,J 0 [] (upd H1 D (.lst []))/\(∀ (k:Nat) ys Hc,k < n->J k ys Hc->ys.length = k->te (some (.int k) :: σ) Hc fun y H2=>H2 D = some (.lst ys)/\J (k + 1) (ys ++ [y]) (upd H2 D (.lst (ys ++ [y]))))/\∀ ys Hc,J n ys Hc->ys.length = n->Q (.ref D) Hc) :
  jg (Mg (tMA ta)) 1 (tMG (dI 0)) (tMT HY) (tM te) σ H Q:=by
 refine ⟨_,h,?_⟩
 rintro vs H1 ⟨n,rfl,hn,rest⟩
 refine ⟨n,rfl,by omega,by omega,?_⟩
 rw [Int.toNat_natCast]
 refine Jy hn fun D hD=>?_
 obtain ⟨J,j0,step,fin⟩:=rest D hD
 exact ⟨J,j0,fun k ys Hc h1 h2 h3=>by rw [Int.zero_add]; exact step k ys Hc h1 h2 h3,fin⟩
end
theorem cB.wild {P:Program} {w:World} {K:Frag} {mg:Str->Option Value} {base:Heap} {k:Nat} {f:Addr} {fd:FuncData} {ps:List Str} {sp:Sp} (F:cB P w K mg base CX0 k f fd ps sp):cB P w K mg base (CXO P w) k f fd ps sp:=by
 refine ⟨F.len,fun A outer s H args us vs Q E hr e0 hb r h=>?_⟩
 refine codeAny_mono (F.run A outer s H args us vs Q E hr e0 hb r h) fun res s' hs=>?_
 cases res with
 | error e=>exact False.elim hs
 | ok fl =>
  cases fl with
  | ret u=>exact hs
  | next=>exact hs
  | brk=>exact hs
  | cont=>exact hs
theorem OkF.wild {P:Program} {w:World} {K:Frag} {mg:Str->Option Value} {base:Heap} {k:Nat} {x:Str} {ps:List Str} {sp:Sp} (F:OkF P w K mg base k x ps sp):OkX P w K mg base k x ps sp:=let ⟨f,fd,a,b⟩:=F; ⟨f,fd,a.wild,b⟩
end L2
namespace L2
open PySem PySem.Spec PyProof.Rows
section
variable {X:Cx} {pins:List (Addr × Obj)} {σ:L2.St} {H:Hp} {s:Shared} {h':Heap}
theorem Inv.turnedL {t':Nat} {ch:List Addr} (I:Inv X pins σ H s) (k:∀ b o,b ∉ ch->s.heap.get? b = some o->h'.get? b = some o) (hf:∀ b ∈ ch,wU X pins H b):Inv X pins σ H { s with heap:=h',toks:=t' }:=by
 have nit:∀ b u,H b = some u->b ∉ ch:=fun b u e z=>by rw [(hf b z).1] at e; cases e
 refine I.step (g':=s.gens) (d':=s.drawn) (ch:=ch) (fun b hb=>⟨(hf b hb).2.2.2.1,(hf b hb).2.1,(hf b hb).2.2.2.2.1,(hf b hb).2.2.2.2.2⟩) (fun b o _ _ hc e _=>k b o hc e) (fun b o _ _ hc e _=>⟨o.slots,k b o hc e⟩) (fun _ _ _ _ n=>n) (fun b o hc e=>⟨o,k b o hc e⟩) (fun _ _ e=>e) (fun _ _ _ e=>e) (fun b ps e=>⟨#[],by rw [e]; simp⟩) (fun m hm=>?_) (fun b u e=>?_) I.bare
 .obtain ⟨o,es,ep,ho,r⟩:=hm
  exact ⟨o,es,ep,k _ o (fun z=>(hf _ z).2.1 rfl) ho,r⟩
 .refine (I.hok b u e).stay (fun c v hc q=>k c v ?_ q) (fun _ q=>q) fun _ _ q=>q
  rcases hc with z | z
  .rw [z]; exact nit b u e
  .exact nit c _ z
end
noncomputable def Itz (a b:Addr):It:=⟨fun i H=>∃ xs ys,H a = some (.lst xs)/\H b = some (.lst ys)/\i < xs.length/\i < ys.length,fun i H v H'=>∃ xs ys x y t,H a = some (.lst xs)/\H b = some (.lst ys)/\xs[i]? = some x/\ys[i]? = some y/\H t = none/\v = .ref t/\H' = upd H t (.tup [x,y]),fun i H=>∃ xs ys,H a = some (.lst xs)/\H b = some (.lst ys)/\(xs.length <= i\/ys.length <= i)⟩
theorem lO {h g:Heap} {a l:Addr} {i:Nat} (x:h.IsListIter a l i) (k:∀ o,h.get? a = some o->g.get? a = some o):g.IsListIter a l i:=let ⟨o,e,r⟩:=x; ⟨o,k o e,r⟩
theorem CJ {xs:List V} {vs:List Value} : Vals xs vs->∀ {i:Nat} {x:V},xs[i]? = some x->∃ u,vs[i]? = some u/\RelV x u:=by
 intro h
 induction h with
 | nil=>intro i x e; cases e
 | cons a b ih =>
  intro i x e
  cases i with
  | zero=>rw [List.getElem?_cons_zero] at e; cases e; exact ⟨_,rfl,a⟩
  | succ i=>rw [List.getElem?_cons_succ] at e ⊢; exact ih e
theorem O7 {P:Program} {w:World} {K:Frag} {elts:List Expr} {x1} {pos:Pos} (z TI TO i1 i2 l1 l2:Addr) (D:ZipApart z TI TO i1 i2 l1 l2) :
  Turn P w K (.Tuple elts x1 pos) (Itz l1 l2) [z,TI,TO,i1,i2] z (fun i h=>IsZip h z TI TO .none/\IsPair h TI (.ref i1) (.ref i2)/\(∃ p q,IsPair h TO p q)/\h.IsListIter i1 l1 i/\h.IsListIter i2 l2 i) where
 mem:=by simp
 obj:=by
  rintro i h ⟨s1,s2,⟨p,q,s3⟩,⟨o4,s4,_,d4⟩,⟨o5,s5,_,d5⟩⟩ b hb
  simp only [List.mem_cons,List.not_mem_nil,or_false] at hb
  rcases hb with rfl | rfl | rfl | rfl | rfl
  .exact ⟨_,s1,fun v e=>by cases e⟩
  .exact ⟨_,s2,fun v e=>by cases e⟩
  .exact ⟨_,s3,fun v e=>by cases e⟩
  .exact ⟨_,s4,fun v e=>by rw [d4] at e; cases e⟩
  .exact ⟨_,s5,fun v e=>by rw [d5] at e; cases e⟩
 keep:=fun i h h' ⟨s1,s2,⟨p,q,s3⟩,s4,s5⟩ k=>⟨k z (by simp) _ s1,k TI (by simp) _ s2,⟨p,q,k TO (by simp) _ s3⟩,lO s4 (k i1 (by simp)),lO s5 (k i2 (by simp))⟩
 item:=by
  intro X hP hw hK hc i pins s σ H E I hf st hg
  subst hP hw hK
  obtain ⟨s1,s2,⟨p,q,s3⟩,s4,s5⟩:=st
  obtain ⟨xs,ys,ha,hb,lt1,lt2⟩:=hg
  obtain ⟨_,it1,n1,rv1,le1,g1⟩:=I.lstM ha
  obtain ⟨_,it2,n2,rv2,le2,g2⟩:=I.lstM hb
  have ex:xs[i]? = some xs[i]:=aj lt1
  have ey:ys[i]? = some ys[i]:=aj lt2
  obtain ⟨u,hu,ru⟩:=CJ rv1 ex
  obtain ⟨v,hv,rv⟩:=CJ rv2 ey
  refine wpAny_pyNext_zip_item D s1 s2 s3 s4 s5 (xs:=it1.toArray) (ys:=it2.toArray) ⟨_,g1,rfl,n1,rfl⟩ ⟨_,g2,rfl,n2,rfl⟩ (x:=u) (y:=v) (by simpa using hu) (by simpa using hv) fun h' a1 a2 a3 a4 a5 a6 a7=>⟨_,rfl,?_⟩
  refine wpAny_letOwnedTupleGo_zip a1 fun h2 st2 sb=>?_
  have nt:H s.heap.objs.size = none:=I.fresh
  have I1:=I.laid (a:=s.heap.objs.size) (o:=.tup [xs[i],ys[i]]) (h':=s.heap.push { cls:=.type "tuple",data:=.seq #[u,v] }) (t':=s.toks) (fun b q z=>aF _ z) (aD _)
   ⟨(by show 2 <= sizeLine; decide),[u,v],.cons ru (.cons rv .nil),_,aW _ rfl,rfl,_,rfl⟩
  have nz:z ≠ s.heap.objs.size:=aP (aH s1)
  have nO:TO ≠ s.heap.objs.size:=aP (aH s3)
  have nI:TI ≠ s.heap.objs.size:=aP (aH s2)
  have n1':i1 ≠ s.heap.objs.size:=by obtain ⟨o,e,_⟩:=s4; exact aP (aH e)
  have n2':i2 ≠ s.heap.objs.size:=by obtain ⟨o,e,_⟩:=s5; exact aP (aH e)
  have fpn:∀ b ∈ [z,TI,TO,i1,i2],upd H s.heap.objs.size (.tup [xs[i],ys[i]]) b = none:=by
   intro b hb
   have f0:=(hf b hb).1
   simp only [List.mem_cons,List.not_mem_nil,or_false] at hb
   rcases hb with rfl | rfl | rfl | rfl | rfl
   .exact (bG nz).trans f0
   .exact (bG nI).trans f0
   .exact (bG nO).trans f0
   .exact (bG n1').trans f0
   .exact (bG n2').trans f0
  have I2:=I1.turnedL (ch:=[z,TO,i1,i2]) (h':=h2) (t':=s.toks) (fun b ob hb e=>by
   simp only [List.mem_cons,List.not_mem_nil,or_false,not_or] at hb
   obtain ⟨b1,b2,b3,b4⟩:=hb
   refine (sb.2 b b1).trans ?_
   by_cases hs:b = s.heap.objs.size
   .subst hs
    have e2:=aW s.heap (o:={ cls:=.type "tuple",data:=.seq #[u,v] }) rfl
    have e:(s.heap.push { cls:=.type "tuple",data:=.seq #[u,v] }).get? s.heap.objs.size = some ob:=e
    rw [e2] at e
    cases e
    exact a5
   .exact a7 b _ b1 b2 b3 b4 (Bm e hs)) fun b hb=>by
    have hb':b ∈ [z,TI,TO,i1,i2]:=by
     simp only [List.mem_cons,List.not_mem_nil,or_false] at hb ⊢
     rcases hb with h | h | h | h <;> simp [h]
    exact ⟨fpn b hb',(hf b hb').2⟩
  have mv:∀ c o,c ≠ z->h'.get? c = some o->h2.get? c = some o:=fun c o n e=>(sb.2 c n).trans e
  exact ⟨.ref _,_,I2,rfl,⟨xs,ys,_,_,_,ha,hb,ex,ey,nt,rfl,rfl⟩,⟨st2,mv _ _ D.TIz (a7 _ _ D.TIz D.TITO D.TIi1 D.TIi2 s2),⟨_,_,mv _ _ D.TOz a2⟩,lO a3 fun o e=>mv _ _ D.i1z e,lO a4 fun o e=>mv _ _ D.i2z e⟩,fpn⟩
 done:=by
  intro X hP hw hK hc i pins s σ H E I hf st hg
  subst hP hw hK
  obtain ⟨s1,s2,⟨p,q,s3⟩,s4,s5⟩:=st
  obtain ⟨xs,ys,ha,hb,lt⟩:=hg
  obtain ⟨_,it1,n1,rv1,le1,g1⟩:=I.lstM ha
  obtain ⟨_,it2,n2,rv2,le2,g2⟩:=I.lstM hb
  refine wpAny_pyNext_zip_end (I.ok.hd hc) D s1 s2 s3 s4 s5 (xs:=it1.toArray) (ys:=it2.toArray) ⟨_,g1,rfl,n1,rfl⟩ ⟨_,g2,rfl,n2,rfl⟩ (by simp; omega) fun h' k=>⟨rfl,I.turnedL (ch:=[z,TO,i1,i2]) (t':=s.toks) (fun b ob hb e=>?_) fun b hb=>?_⟩
  .simp only [List.mem_cons,List.not_mem_nil,or_false,not_or] at hb
   exact k b ob hb.1 hb.2.1 hb.2.2.1 hb.2.2.2 e
  .exact hf b (by
    simp only [List.mem_cons,List.not_mem_nil,or_false] at hb ⊢
    rcases hb with h | h | h | h <;> simp [h])
 self:=fun _ _ _ _ _ ⟨s1,_⟩ h=>wpAny_pyIter_zip s1 h
section
variable {X:Cx}
theorem Mw (n l1 l2:Nat) (h1:l1 < n) (h2:l2 < n):ZipApart (n + 4) (n + 2) (n + 3) n (n + 1) l1 l2:=by
 constructor <;> first | exact aP (by omega) | exact Nat.ne_of_gt (by omega)
theorem Ui (n b:Nat) (h:b = n + 4\/b = n + 2\/b = n + 3\/b = n\/b = n + 1):n <= b:=by omega
theorem boot_zip:bootBuiltins "zip" = some (.type "zip"):=by decide +kernel
noncomputable def aa9 (ta:TA):TI:=fun σ H R=>ta σ H fun vs H1=>∃ a b xs ys,vs = [.ref a,.ref b]/\H1 a = some (.lst xs)/\H1 b = some (.lst ys)/\R (Itz a b) H1
theorem Yq {a b:Expr} {ta:TA} {elts:List Expr} {x1} {p pos tpos:Pos} (hg:Gl X "zip") (hm:X.mg "zip" = none) (ha:PA X [a,b] ta) (hs:starEach [a,b] X.env = [(false,eval a X.env),(false,eval b X.env)]:=by rfl) (hs2:starEach [b] X.env = [(false,eval b X.env)]:=by rfl) :
  PI X (.Tuple elts x1 tpos) (.Call (.Name "zip" p) [a,b] [] pos) (aa9 ta):=by
 intro pins s σ H R I h
 refine Call_ (vV I hg hm boot_zip (PyProof.Rows.callWith_type1 (thn (ha pos pins s σ H _ I h) fun us s1 ⟨vs,H1,I1,r1,q1⟩=>?_) (by rw [hs,hs2]) (by rw [hs2]; rfl)))
 obtain ⟨l1,l2,xs,ys,e,h1,h2,q⟩:=q1
 subst e
 obtain ⟨u,v,rfl,ru,rv⟩:=r1.two
 cases ru
 cases rv
 obtain ⟨_,it1,n1,rv1,le1,g1⟩:=I1.lstM h1
 obtain ⟨_,it2,n2,rv2,le2,g2⟩:=I1.lstM h2
 have z1:=aH g1
 have z2:=aH g2
 refine call_zip_2 (xs:=it1.toArray) (ys:=it2.toArray) ⟨_,g1,rfl,n1,rfl⟩ ⟨_,g2,rfl,n2,rfl⟩ fun h' a1 a2 a3 a4 a5 a6 a7=>?_
 refine wpAny_pyIter_zip a1 ?_
 refine ⟨_,[s1.heap.objs.size + 4,s1.heap.objs.size + 2,s1.heap.objs.size + 3,s1.heap.objs.size,s1.heap.objs.size + 1],_,Itz l1 l2,H1,rfl,I1.kept (t':=s1.toks) fun b ob e=>a7 b ob e,O7 _ _ _ _ _ l1 l2 (Mw _ _ _ z1 z2),⟨a1,a2,⟨_,_,a3⟩,a4,a5⟩,fun b hb=>?_,q⟩
 have hb':s1.heap.objs.size <= b:=by
  simp only [List.mem_cons,List.not_mem_nil,or_false] at hb
  exact Ui _ _ hb
 exact I1.fpOk hb' (I1.hok.fresh hb')
end
theorem Ja {ta:TA} {te:TE} {gt:TG} {tc:TT} {n:Nat} {σ:L2.St} {H:Hp} {Q:VK} (h:ta σ H fun vs H1=>∃ a b xs ys,vs = [.ref a,.ref b]/\H1 a = some (.lst xs)/\H1 b = some (.lst ys)/\xs.length = ys.length/\xs.length <= 64/\∀ D,H1 D = none->∃ J:Nat->List V->Hp->Prop,J 0 [] (upd H1 D (.lst [])) /\
   (∀ k x y zs Hc t,xs[k]? = some x->ys[k]? = some y->J k zs Hc->zs.length <= k->Hc t = none->Hc a = some (.lst xs)->Hc b = some (.lst ys)->wC n gt tc te (.ref t) σ (upd Hc t (.tup [x,y])) (fun v H2=>H2 D = some (.lst zs)/\H2 a = some (.lst xs)/\H2 b = some (.lst ys)/\J (k + 1) (zs ++ [v]) (upd H2 D (.lst (zs ++ [v])))) fun H2=>H2 a = some (.lst xs)/\H2 b = some (.lst ys)/\J (k + 1) zs H2) /\
   ∀ zs Hc,J xs.length zs Hc->zs.length <= xs.length->Q (.ref D) Hc):jg (aa9 (tMA ta)) n (tMG gt) (tMT tc) (tM te) σ H Q:=by
 refine ⟨_,h,?_⟩
 rintro vs H1 ⟨a,b,xs,ys,rfl,hx,hy,hl,h64,rest⟩
 refine ⟨a,b,xs,ys,rfl,hx,hy,fun D hD=>?_⟩
 obtain ⟨J,j0,step,fin⟩:=rest D hD
 have na:a ≠ D:=bB hx hD
 have nb:b ≠ D:=bB hy hD
 have z64:64 <= sizeLine:=by decide
 refine ⟨fun k m zs Hc=>k <= xs.length/\m = xs.length - k/\zs.length <= k/\Hc a = some (.lst xs)/\Hc b = some (.lst ys)/\J k zs Hc,⟨_,aZ _,rfl,aZ _,(bG na).trans hx,(bG nb).trans hy,j0⟩,?_⟩
 rintro k m zs Hc ⟨hk,rfl,hz,ha',hb',j⟩
 by_cases e:k = xs.length
 .subst e
  exact .inl ⟨⟨xs,ys,ha',hb',.inl (aD _)⟩,fin zs Hc j hz⟩
 .have hlt:k < xs.length:=by omega
  refine .inr ⟨⟨xs,ys,ha',hb',hlt,by omega⟩,?_⟩
  rintro v H'' ⟨xs',ys',x,y,t,e1,e2,e3,e4,e5,rfl,rfl⟩
  rw [ha'] at e1
  rw [hb'] at e2
  cases e1
  cases e2
  refine (step k x y zs Hc t e3 e4 j hz e5 ha' hb').weak ?_ ?_
  .rintro yv H2 ⟨z1,z2,z3,z4⟩
   refine ⟨by omega,z1,xs.length - (k + 1),by omega,by omega,rfl,?_,(bG na).trans z2,(bG nb).trans z3,z4⟩
   rw [au]; simp; omega
  .rintro H2 ⟨z2,z3,z4⟩
   exact ⟨xs.length - (k + 1),by omega,by omega,rfl,by omega,z2,z3,z4⟩
end L2
namespace L2
open PySem PySem.Spec PyProof.Rows
section
variable {X:Cx} {elt iter:Expr} {pos:Pos} {scope:Scope} {wi:TI} {te:TE}
end
end L2
namespace L2
open PySem PySem.Spec PyProof.Rows
end L2
namespace L2
open PySem PySem.Spec PyProof.Rows
section
variable {X:Cx}
end
end L2
namespace L2
open PySem PySem.Spec PyProof.Rows
noncomputable def Ite (l:Addr):It:=⟨fun i H=>∃ xs,H l = some (.lst xs)/\i < xs.length,fun i H v H'=>∃ xs x t,H l = some (.lst xs)/\xs[i]? = some x/\H t = none/\v = .ref t/\H' = upd H t (.tup [.int i,x]),fun i H=>∃ xs,H l = some (.lst xs)/\xs.length <= i⟩
theorem M7 {P:Program} {w:World} {K:Frag} {elts:List Expr} {x1} {pos:Pos} (e it l:Addr) (hne:e ≠ it) :
  Turn P w K (.Tuple elts x1 pos) (Ite l) [e,it] e (fun i h=>(∃ old,IsEnum h e it ((i:Nat):Int) old)/\h.IsListIter it l i) where
 mem:=by simp
 obj:=by
  rintro i h ⟨⟨old,s1⟩,⟨o4,s4,_,d4⟩⟩ b hb
  simp only [List.mem_cons,List.not_mem_nil,or_false] at hb
  rcases hb with rfl | rfl
  .exact ⟨_,s1,fun v e=>by cases e⟩
  .exact ⟨_,s4,fun v e=>by rw [d4] at e; cases e⟩
 keep:=fun i h h' ⟨⟨old,s1⟩,s4⟩ k=>⟨⟨old,k e (by simp) _ s1⟩,lO s4 (k it (by simp))⟩
 item:=by
  intro X hP hw hK hc i pins s σ H E I hf st hg
  subst hP hw hK
  obtain ⟨⟨old,s1⟩,s4⟩:=st
  obtain ⟨xs,ha,lt1⟩:=hg
  obtain ⟨_,it1,n1,rv1,le1,g1⟩:=I.lstM ha
  have ex:xs[i]? = some xs[i]:=aj lt1
  obtain ⟨u,hu,ru⟩:=CJ rv1 ex
  refine wpAny_pyNext_enum_item s1 s4 (items:=it1.toArray) ⟨_,g1,rfl,n1,rfl⟩ (x:=u) (by simpa using hu) hne fun h' a1 a3 a5 a6 a7=>⟨_,rfl,?_⟩
  refine wpAny_letOwnedTupleGo_enum a1 fun h2 st2 sb=>?_
  have nt:H s.heap.objs.size = none:=I.fresh
  have I1:=I.laid (a:=s.heap.objs.size) (o:=.tup [.int i,xs[i]]) (h':=s.heap.push { cls:=.type "tuple",data:=.seq #[.int i s.toks,u] }) (t':=s.toks + 1) (fun b q z=>aF _ z) (aD _)
   ⟨(by show 2 <= sizeLine; decide),[.int i s.toks,u],.cons ⟨_,rfl⟩ (.cons ru .nil),_,aW _ rfl,rfl,_,rfl⟩
  have nz:e ≠ s.heap.objs.size:=aP (aH s1)
  have n1':it ≠ s.heap.objs.size:=by obtain ⟨o,e,_⟩:=s4; exact aP (aH e)
  have fpn:∀ b ∈ [e,it],upd H s.heap.objs.size (.tup [.int i,xs[i]]) b = none:=by
   intro b hb
   have f0:=(hf b hb).1
   simp only [List.mem_cons,List.not_mem_nil,or_false] at hb
   rcases hb with rfl | rfl
   .exact (bG nz).trans f0
   .exact (bG n1').trans f0
  have I2:=I1.turnedL (ch:=[e,it]) (h':=h2) (t':=s.toks + 1) (fun b ob hb z=>by
   simp only [List.mem_cons,List.not_mem_nil,or_false,not_or] at hb
   obtain ⟨b1,b3⟩:=hb
   refine (sb.2 b b1).trans ?_
   by_cases hs:b = s.heap.objs.size
   .subst hs
    have e2:=aW s.heap (o:={ cls:=.type "tuple",data:=.seq #[.int i s.toks,u] }) rfl
    have z:(s.heap.push { cls:=.type "tuple",data:=.seq #[.int i s.toks,u] }).get? s.heap.objs.size = some ob:=z
    rw [e2] at z
    cases z
    exact a5
   .exact a7 b _ b1 b3 (Bm z hs)) fun b hb=>⟨fpn b hb,(hf b hb).2⟩
  have mv:∀ c o,c ≠ e->h'.get? c = some o->h2.get? c = some o:=fun c o n z=>(sb.2 c n).trans z
  exact ⟨.ref _,_,I2,rfl,⟨xs,_,_,ha,ex,nt,rfl,rfl⟩,⟨⟨_,by rw [Int.natCast_add]; exact st2⟩,lO a3 fun o z=>mv _ _ (fun y=>hne y.symm) z⟩,fpn⟩
 done:=by
  intro X hP hw hK hc i pins s σ H E I hf st hg
  subst hP hw hK
  obtain ⟨⟨old,s1⟩,s4⟩:=st
  obtain ⟨xs,ha,lt⟩:=hg
  obtain ⟨_,it1,n1,rv1,le1,g1⟩:=I.lstM ha
  have hl:=rv1.length
  refine wpAny_pyNext_enum_end (I.ok.hd hc) s1 s4 (items:=it1.toArray) ⟨_,g1,rfl,n1,rfl⟩ (by simp; omega) fun h' k=>⟨rfl,I.turnedL (ch:=[e,it]) (t':=s.toks) (fun b ob hb z=>?_) hf⟩
  simp only [List.mem_cons,List.not_mem_nil,or_false,not_or] at hb
  exact k b ob hb.2 z
 self:=fun _ _ _ _ _ ⟨⟨_,s1⟩,_⟩ h=>wpAny_pyIter_enum s1 h
section
variable {X:Cx}
noncomputable def WR (ta:TA):TI:=fun σ H R=>ta σ H fun vs H1=>∃ a xs,vs = [.ref a]/\H1 a = some (.lst xs)/\R (Ite a) H1
theorem Vc {a:Expr} {ta:TA} {elts:List Expr} {x1} {p pos tpos:Pos} (hg:Gl X "enumerate") (hm:X.mg "enumerate" = none) (ha:PA X [a] ta) (hs:starEach [a] X.env = [(false,eval a X.env)]:=by rfl) :
  PI X (.Tuple elts x1 tpos) (.Call (.Name "enumerate" p) [a] [] pos) (WR ta):=by
 intro pins s σ H R I h
 refine Call_ (vV I hg hm boot_enumerate (PyProof.Rows.callWith_type1 (thn (ha pos pins s σ H _ I h) fun us s1 ⟨vs,H1,I1,r1,q1⟩=>?_) (by rw [hs]; rfl) (by rfl)))
 obtain ⟨l1,xs,e,h1,q⟩:=q1
 subst e
 obtain ⟨u,rfl,ru⟩:=r1.one
 cases ru
 obtain ⟨_,it1,n1,rv1,le1,g1⟩:=I1.lstM h1
 refine call_enumerate_list (items:=it1.toArray) ⟨_,g1,rfl,n1,rfl⟩ fun h' a1 a2 a3 a7=>?_
 refine wpAny_pyIter_enum a1 ?_
 refine ⟨_,[s1.heap.objs.size + 1,s1.heap.objs.size],_,Ite l1,H1,rfl,I1.kept (t':=s1.toks) fun b ob e=>a7 b ob e,M7 _ _ l1 (Nat.succ_ne_self _),⟨⟨_,a1⟩,a2⟩,fun b hb=>?_,q⟩
 have hb':s1.heap.objs.size <= b:=by
  simp only [List.mem_cons,List.not_mem_nil,or_false] at hb
  rcases hb with z | z
  .rw [z]; exact Nat.le_succ _
  .rw [z]; exact aD _
 exact I1.fpOk hb' (I1.hok.fresh hb')
end
theorem IW {ta:TA} {g:TG} {tb:TS} {D:Ends} {σ:L2.St} {H:Hp} (h:ta σ H fun vs H1=>∃ a xs,vs = [.ref a]/\H1 a = some (.lst xs)/\∃ J:Nat->L2.St->Hp->Prop,J 0 σ H1 /\
   (∀ (k:Nat) x σ' H' t,xs[k]? = some x->J k σ' H'->H' a = some (.lst xs)->H' t = none->g (.ref t) σ' (upd H' t (.tup [.int k,x])) fun σ2 H2=>tb { D with nx:=fun σ3 H3=>H3 a = some (.lst xs)/\J (k + 1) σ3 H3,ct:=fun σ3 H3=>H3 a = some (.lst xs)/\J (k + 1) σ3 H3,bk:=D.nx } σ2 H2) /\
   ∀ σ' H',J xs.length σ' H'->H' a = some (.lst xs)->D.nx σ' H'):Mr (WR (tMA ta)) g tb D σ H:=by
 refine ⟨_,h,?_⟩
 rintro vs H1 ⟨a,xs,rfl,hx,J,j0,step,fin⟩
 refine ⟨a,xs,rfl,hx,fun k m σ' H'=>k <= xs.length/\m = xs.length - k/\H' a = some (.lst xs)/\J k σ' H',⟨_,aZ _,rfl,hx,j0⟩,?_⟩
 rintro k m σ' H' ⟨hk,rfl,ha',j⟩
 by_cases e:k = xs.length
 .subst e
  exact .inl ⟨⟨xs,ha',aD _⟩,fin σ' H' j ha'⟩
 .have hlt:k < xs.length:=by omega
  refine .inr ⟨⟨xs,ha',hlt⟩,fun σ3 H3=>H3 a = some (.lst xs)/\J (k + 1) σ3 H3,fun σ3 H3 ⟨z1,z3⟩=>⟨xs.length - (k + 1),by omega,by omega,rfl,z1,z3⟩,?_⟩
  rintro v H'' ⟨xs',x,t,e1,e3,e5,rfl,rfl⟩
  rw [ha'] at e1
  cases e1
  exact step k x σ' H' t e3 j ha' e5
end L2
namespace L2
open PySem PySem.Spec PyProof.Rows
end L2
namespace L2
open PySem PySem.Spec PyProof.Rows
section
variable {X:Cx}
noncomputable def abw:List V->Hp->VK->Prop:=fun xs H Q=>∃ p kvs,xs = [.ref p]/\H p = some (.dK kvs)/\Q (.int kvs.length) H
theorem BW:dU X (.builtin "len") abw:=by
 intro pins s σ H xs us Q I r h
 obtain ⟨p,kvs,rfl,hq,q⟩:=h
 obtain ⟨u,rfl,rx⟩:=vals1 r
 cases rx
 obtain ⟨z,y,vs,kv,d⟩:=(show cQ X.prog X.w H s.heap p (.dK kvs) from I.hok p _ hq)
 have hl:=qP
 have hlen:kvs.length = vs.length:=kv.length
 exact call_len_dict y d (by omega) ⟨.int kvs.length,H,I.tok _,⟨_,by rw [hlen]⟩,q⟩
theorem Tt {e:Expr} {ta:TE} {f:Str} {pos:Pos} {K':Frag} (hK:X.K = K') (he:PE X e ta) (hb:attributeBase e f X.env (eval e X.env) = eval e X.env):PE X (.Attribute e f pos) (Sy K' ta f):=hK ▸ pK he hb
theorem LR (c:Nat):∀ (n:Nat) (acc:Array Nat),((List.replicate n #[c]).foldl (· ++ ·) acc).toList = acc.toList ++ List.replicate n c
 | 0,acc=>by simp
 | n + 1,acc=>by
  rw [List.replicate_succ,List.foldl_cons,LR c n,Array.toList_append,List.append_assoc]
  rfl
noncomputable def WX:R2:=fun x y H Q=>∃ c n,x = .str ⟨#[c]⟩/\y = .int n/\1 <= n/\n <= 1000/\∀ z:Str,z.cps.toList = List.replicate n.toNat c->Q (.str z) H
theorem VJ:OpR X (binaryOp .Mult) WX:=by
 intro pins s σ H x y v u Q I rx ry h
 obtain ⟨c,n,rfl,rfl,h0,h1,q⟩:=h
 obtain ⟨t,rfl⟩:=rx
 obtain ⟨t',rfl⟩:=ry
 have hi:(⟨#[c]⟩ : Str).length = 1:=rfl
 have made:∀ z:Str,z.cps.toList = List.replicate n.toNat c->(Made.str z).post (EP X pins σ Q) s:=fun z hz=>⟨by
  have:z.length = n.toNat:=by
   show z.cps.size = _
   rw [<- Array.length_toList,hz,aL]
  exact aK (show z.length <= 1001 by omega) (by decide),.str z,H,I.tok _,⟨_,rfl⟩,q z hz⟩
 refine PySem.P.mul_str ?_ (fun _ _=>?_) (fun _ _=>?_) ?_
 .rw [decide_eq_false (by omega),decide_eq_false (by omega)]; rfl
 .rw [hi]
  have:1 <= (2 ^ 63 - 1:Int) / n:=Int.le_ediv_of_mul_le (by omega) (by omega)
  omega
 .rw [hi]
  unfold Builtin.Str.tooLong
  exact decide_eq_false (by
   have:n.toNat <= 1000:=by omega
   have e:1000 <= sizeLine:=by decide
   omega)
 .split
  .omega
  .split
   .rename_i hc
    rw [hi] at hc
    have e:n.toNat = 1:=by
     simp at hc
     omega
    refine ⟨.str ⟨#[c]⟩,H,I,⟨t,rfl⟩,q _ ?_⟩
    rw [e]; rfl
   .refine made _ ?_
    show ((List.replicate n.toNat #[c]).foldl (· ++ ·) #[]).toList = _
    rw [LR]; rfl
theorem OkI.wild {P:Program} {w:World} {K:Frag} {mg:Str->Option Value} {base:Heap} {k:Nat} {f:Addr} {ps:List Str} {sp:Sp} (h:OkI P w K mg base CX0 k f ps sp):OkI P w K mg base (CXO P w) k f ps sp:=let ⟨fd,a,b⟩:=h; ⟨fd,a.wild,b⟩
end
end L2
namespace L2
open PySem PySem.Spec PyProof.Rows
section
variable {X:Cx} {p pos:Pos} {e:Expr} {es:List Expr} {t:TA} {tv:TE} {x:Str} {k:Nat} {ps:List Str} {sp:Sp} {f:Addr}
end
end L2
namespace L2
open PySem PySem.Spec PyProof.Rows
section
variable {prog:Program} {w:World} {A:Around} {E:Value->Shared->Prop} {h:Heap} {g:Array GenState} {d:Drawn} {t:Nat} {os:OsState} {nm q:Str} {C N:Addr} {bs bm bmB:List Value} {hdct:Bool} {sn:List Str} {sub:List Value} {ab:Bool} {col:Option Bool} {dd:Option Addr} {k0 k1 k2 k3 k5:Option Value} {B newId initId:String}
noncomputable abbrev Bv (h:Heap) (C:Addr) (us:List Value):Heap:=(h.push { cls:=.type "tuple",data:=.seq us.toArray }).push { cls:=.ref C,data:=.fields #[.ref h.objs.size,.none,.none,.none,.bool false,.none] }
theorem wA {us:List Value} (b:Addr) (o:Obj) (e:h.get? b = some o):(Bv h C us).get? b = some o:=aF _ (aF _ e)
theorem Ao (F:ExcBaseFacts B newId initId bmB) (T:OwnTail h bmB bm) {mN:Str->Option Value} {us:List Value} {fI:Addr} {oI:Obj} {Q:Fin->Shared->Prop} (hC:h.get? C = some (excClassObj nm q C N bs bm hdct sn sub ab col dd k0 k1 k2 k3 k5 newId)) (hn:h.Ns N mN) (hi:mN "__init__" = some (.ref fI)) (hf:h.get? fI = some oI) (hc:oI.cls = .type "function") (hl:us.length <= sizeLine)
  (hq:wpAny (model prog w) A (call (.ref fI) (.ref (h.objs.size + 1) :: us)) (fun r s'=>r = .none/\Q (.done (.ret (.ref (h.objs.size + 1)))) s') E ⟨Bv h C us,g,d,t,os⟩):wpAny (model prog w) A (Builtin.«type.__call__» ⟨.ref C :: us,[]⟩) Q E ⟨h,g,d,t,os⟩:=by
 have K:=wA (h:=h) (C:=C) (us:=us)
 have C1:=K _ _ hC
 have T1:=T.keeps K
 have at_:(Bv h C us).get? (h.objs.size + 1) = some { cls:=.ref C,data:=.fields #[.ref h.objs.size,.none,.none,.none,.bool false,.none] }:=by heap_get
 have isC:(Value.ref C :: bm).contains (.ref C) = true:=by simp
 repeat (first | with_reducible refine wpAny_loadPart_at hC ?_ | with_reducible refine wpAny_madeBy_exc hC ?_ | wp_step)
 refine codeAny_call_builtin_code (Code.quiet_builtin _ F.quiet) (wpAny_check_new_subT F T hC (codeAny_exc_new_subT F T hC ?_ hl))
 show wpAny _ _ _ _ _ _
 unfold isInstance
 repeat (first | with_reducible refine wpAny_loadPart_at at_ ?_ | (with_reducible refine wpAny_isSubtype_exc C1 ?_; rw [isC]) | wp_step)
 show wpAny _ _ (typeLookup (.ref C) _) _ _ _
 refine wpAny_typeLookup_tail C1 (hn.keeps K) T1 F.mroIs F.init.lookup ?_
 rw [hi]
 refine wpAny_holding (wpAny_bind ?_)
 unfold bindSpecial
 refine wpAny_bind (wpAny_typeOf (T := "function") ⟨_,K _ _ hf,hc⟩ ?_)
 rw [if_pos (by decide)]
 refine wpAny_pure (wpAny_bind (wpAny_mono hq (fun r s' ⟨e,z⟩=>?_) fun _ _ x=>x))
 subst e
 wp_walk
 exact z
theorem Q9 (F:ExcBaseFacts B newId initId bmB) (T:OwnTail h bmB bm) {mN:Str->Option Value} {us:List Value} {fI:Addr} {oI:Obj} {Q:Value->Shared->Prop} (hC:h.get? C = some (excClassObj nm q C N bs bm hdct sn sub ab col dd k0 k1 k2 k3 k5 newId)) (hn:h.Ns N mN) (hi:mN "__init__" = some (.ref fI)) (hf:h.get? fI = some oI) (hc:oI.cls = .type "function") (hl:us.length <= sizeLine)
  (hq:wpAny (model prog w) (A.under (.builtin "type.__call__" ⟨.ref C :: us,[]⟩)) (call (.ref fI) (.ref (h.objs.size + 1) :: us)) (fun r s'=>r = .none/\Q (.ref (h.objs.size + 1)) s') E ⟨Bv h C us,g,d,t,os⟩):wpAny (model prog w) A (call (.ref C) us) Q E ⟨h,g,d,t,os⟩:=by
 have a1:=tc_lookup
 have a2:=tc_bind (.ref C)
 have a3:(⟨h,g,d,t,os⟩ : Shared).TypeIs (.ref C) "type" := ⟨_,hC,rfl⟩
 refine wpAny_call (codeAny_of_tree ?_)
 show wpAny _ _ (callAny (.ref C) _) _ _ _
 repeat (any_goals (first | assumption | with_reducible refine wpAny_loadPart_at hC ?_ | wp_step))
 exact ⟨rfl,codeAny_call_builtin_at (Code.quiet_builtin _ (by decide +kernel)) entry_typeCall (wpAny_check_type_call_sub hC (Ao F T hC hn hi hf hc hl hq))⟩
end
end L2
namespace L2
open PySem PySem.Spec PyProof.Rows
noncomputable def FQ:List Value->Bool
 | .ref _ :: l=>FQ l
 | l=>l == bmV
theorem Jd {self:Value} {l:List Value} (h:FQ l = true):refuseLoop self "__setattr__" l = pure ():=by
 induction l with
 | nil=>cases h
 | cons x l ih =>
  cases x with
  | ref C=>rw [refuseLoop_ref]; exact ih h
  | type n =>
   have e:Value.type n :: l = bmV:=beq_iff_eq.mp h
   rw [e]
   exact PySem.F.store_ValueError.passes self
  | _=>exact absurd (beq_iff_eq.mp h) (by intro z; cases z)
structure PL (K:Frag) (C:Addr):Prop where
 cd:∃ cd,PySem.W.clsIn K C = some cd/\cd.hasDict = true/\FQ cd.mro = true
 sa:PySem.W.findIn K (.ref C) "__setattr__" = some (some (.builtin "object.__setattr__"))
 mo:PySem.W.mroIn K C (.type "object") = some true
section
variable {prog:Program} {w:World} {A:Around} {E:Value->Shared->Prop} {K:Frag} {s:Shared} {x C:Addr} {ox:Obj} {f:Str} {v:Value} {vs:Array Value}
theorem U_ {Q:Unit->Shared->Prop} (X:K.In s.heap) (S:PL K C) (n:b_ K C f) (hx:s.heap.get? x = some ox) (hc:ox.cls = .ref C) (hd:ox.dict = none) (hv:ox.data = .fields vs)
  (hq:∀ h' t',h'.Ns1 s.heap.objs.size (fun y=>if y = f then some v else none)->h'.get? x = some { ox with dict:=some s.heap.objs.size }->(∀ b,b ≠ x->b ≠ s.heap.objs.size->h'.get? b = s.heap.get? b)->Q () ⟨h',s.gens,s.drawn,t',s.os⟩):wpAny (model prog w) A (setAttr (.ref x) f v) Q E s:=by
 obtain ⟨cd,hcd,hdi,hm⟩:=S.cd
 have J:PySem.W.InstAt s.heap x ox C none:=⟨hx,hc,by unfold PySem.W.notCls; rw [hv],by rw [hd]; trivial⟩
 have SF:=PySem.F.store_object
 refine PySem.W.set_plain X J S.sa ?_
 have sub:PySem.W.Looks (model prog w) s.heap (isInstance (.ref x) (.type "object")) true:=J.type.andThen (PySem.W.looks_mroIn X S.mo)
 have lm:PySem.W.Looks (model prog w) s.heap (mroOf (.ref C)) cd.mro:=(PySem.W.looks_clsIn X hcd).andThen .now
 generalize hs1:({ s with toks:=s.toks + 1 } : Shared) = s1
 have e1:s1.heap = s.heap:=by rw [<- hs1]
 rw [<- e1] at sub lm X J
 refine codeAny_call_builtin SF.slot.plain SF.entry (@PySem.W.check_slot (model prog w) _ _ s1 "object.__setattr__" "object" "__setattr__" (.ref x) [.str f s.toks,v] [] _ SF.kind SF.split sub (SF.args (.ref x) (.str f s.toks) v) ?_)
 rw [PySem.W.osa_eq,refuse_eq]
 refine wpAny_bind (wpAny_bind (J.type.here (wpAny_bind (lm.here ?_))))
 rw [Jd hm]
 refine wpAny_pure (wpAny_bind (J.type.here (wpAny_bind ((PySem.W.looks_findIn X n).here (wpAny_bind (wpAny_pure ?_))))))
 have hx1:s1.heap.get? x = some ox:=by rw [e1]; exact hx
 obtain ⟨oc,odi,oda,osl⟩:=ox
 dsimp only at hc hd hv
 subst hc hd hv
 refine wpAny_bind (wpAny_pure (wpAny_bind (wpAny_bind (wpAny_loadPart hx1 (wpAny_bind ((PySem.W.looks_clsIn X hcd).here ?_))))))
 rw [hdi,if_neg (by simp),if_neg (by simp [typeHasDict])]
 have e0:=hs1
 obtain ⟨hp,gg,dr,tk,os⟩:=s1
 dsimp only at hx1 e1 ⊢
 cases e0
 have hxs:x ≠ s.heap.objs.size:=aP (aH hx)
 refine wpAny_bind (wpAny_alloc' (wpAny_bind (wpAny_update' (aF _ hx) (wpAny_pure ?_))))
 generalize hu:(s.heap.push { cls:=.type "dict",data:=.dict #[] }).update x _ = hU
 have q1:hU.get? s.heap.objs.size = some { cls:=.type "dict",data:=.dict #[] }:=by
  rw [<- hu]; exact (Heap.get?_update_ne _ _ _ _ hxs.symm).trans (Heap.get?_push_at rfl rfl)
 have q2:hU.get? x = some { cls:=.ref C,dict:=some s.heap.objs.size,data:=.fields vs,slots:=osl }:=by
  rw [<- hu]; exact Heap.get?_update_self _ (aF _ hx) rfl
 have q3:∀ b,b ≠ x->b ≠ s.heap.objs.size->hU.get? b = s.heap.get? b:=fun b n1 n2=>by
  rw [<- hu]; exact (Heap.get?_update_ne _ _ _ _ n1).trans (Heap.get?_push_ne _ _ _ n2)
 dsimp only
 unfold Builtin.ObjectAttr.storeInDict Builtin.ObjectAttr.newKeyGuard
 refine wpAny_bind (wpAny_pure (wpAny_bind (wpAny_nsSet1 (Heap.Ns1.of_empty ⟨_,#[],_,q1,rfl,fun _ z=>absurd z (by simp),fun _=>rfl⟩) fun h' hn hs=>?_)))
 obtain ⟨oD,esD,epD,hoD,hdD,hcD⟩:=hn.count (Within.cons f v Within.nil)
 refine wpAny_bind (wpAny_lookBehind hoD (by rw [hdD]; exact pastItsLine_dict (aK hcD (by rw [List.length_cons,List.length_nil,sizeLine_eq]; omega))) ?_)
 wp_walk
 exact hq h' _ hn ((hs.2 x hxs).trans q2) fun b n1 n2=>(hs.2 b n2).trans (q3 b n1 n2)
end
end L2
namespace L2
open PySem PySem.Spec PyProof.Rows
structure GR (K:Frag) (C HE fI:Addr):Prop where
 ex:∃ nm qn N bs sn sub ab col dd k0 k1 k2 k3 k5,K.lookup C = some (excClassObj nm qn C N bs (.ref HE :: bmV) true sn sub ab col dd k0 k1 k2 k3 k5 "ValueError.__new__")/\PySem.W.nsOkIn K N = true/\PySem.W.nsIn K N "__init__" = some (some (.ref fI))
 he:Cr K HE
 fn:∃ o,K.lookup fI = some o/\o.cls = .type "function"
 kp:PySem.W.keepIn K (.ref C) = true
theorem Vq {K:Frag} {h:Heap} {N:Addr} {m:Str->Option Value} {n:Str} {v:Value} (X:K.In h) (G:h.Ns N m) (e:PySem.W.nsIn K N n = some (some v)):m n = some v:=by
 obtain ⟨o,es,ep,ho,hd,_,hf⟩:=G
 rw [<- hf]
 unfold PySem.W.nsIn at e
 split at e
 .rename_i q
  cases (X _ _ q).symm.trans ho
  cases hd
  unfold nsFind findBy
  rw [<- Array.find?_toList]
  split at e
  .rename_i en he
   cases e
   rw [he]; rfl
  .split at e <;> cases e
 .cases e
theorem GR.obj {K:Frag} {h:Heap} {C HE fI:Addr} (q:GR K C HE fI) (X:K.In h):∃ nm qn N bs sn sub ab col dd k0 k1 k2 k3 k5 mN o,h.get? C = some (excClassObj nm qn C N bs (.ref HE :: bmV) true sn sub ab col dd k0 k1 k2 k3 k5 "ValueError.__new__") /\
  h.Ns N mN/\mN "__init__" = some (.ref fI)/\h.get? fI = some o/\o.cls = .type "function" /\ OwnTail h bmV (.ref HE :: bmV):=by
 obtain ⟨nm,qn,N,bs,sn,sub,ab,col,dd,k0,k1,k2,k3,k5,l,a,b⟩:=q.ex
 obtain ⟨o,lo,ho⟩:=q.fn
 obtain ⟨bm,N',nm',qn',bs',hd',sn',sub',ab',col',dd',k0',k1',k2',k3',k5',mN',hC,hN,hi,T⟩:=KD X q.he
 exact ⟨nm,qn,N,bs,sn,sub,ab,col,dd,k0,k1,k2,k3,k5,_,o,X _ _ l,.of_isNs (PySem.W.isNs_of_in X a),Vq X (.of_isNs (PySem.W.isNs_of_in X a)) b,X _ _ lo,ho,.own hC hN hi .base⟩
noncomputable abbrev Ig (C t:Addr) (d:Option Addr):Obj:={ cls:=.ref C,dict:=d,data:=.fields #[.ref t,.none,.none,.none,.bool false,.none] }
noncomputable def XN (a C:Addr) (d:Option Addr):HO:=.ext fun h=>∃ t,h.get? a = some (Ig C t d)
theorem Pg {P:Program} {w:World} {H:Hp} {h:Heap} {a C t:Addr} {d:Option Addr} (e:h.get? a = some (Ig C t d)):cQ P w H h a (XN a C d):=⟨⟨t,e⟩,⟨_,e⟩,fun _ _ ⟨u,z⟩ k=>⟨u,k _ z⟩⟩
theorem Lx {P:Program} {w:World} {H:Hp} {h:Heap} {a C:Addr} {d:Option Addr} (e:cQ P w H h a (XN a C d)):∃ t,h.get? a = some (Ig C t d):=e.1
theorem X4 {H:Hp} {a:Addr} {o:HO} (e:H a = some o):upd H a o = H:=by
 funext b; unfold upd; split
 .rename_i z; rw [z,e]
 .rfl
structure O8 (K:Frag) (B:Addr):Prop where
 ga:PySem.W.specialIn K (.ref B) "__getattribute__" = some (some (.builtin "type.__getattribute__"))
 rd:PySem.W.readsIn K B (.type "type") = true
 at_:PySem.W.findCls K (.ref B) (.type "type") "__init__" = some (.val (.builtin "ValueError.__init__"))
section
variable {X:Cx} {B C HE fI:Addr} {x:Str} {p pos apos:Pos} {e:Expr} {es:List Expr} {t:TA} {pins:List (Addr × Obj)} {σ:L2.St} {H:Hp} {s:Shared}
theorem init_exc {A:Around} {E:Value->Shared->Prop} {Q:Value->Shared->Prop} {a:Addr} {us:List Value} (I:Inv X pins σ H s) (q:GR X.K C HE fI) (ha:H a = some (XN a C none)) (hl:us.length <= sizeLine)
  (h:∀ s',Inv X pins σ H s'->Q .none s'):wpAny (model X.prog X.w) A (call (.builtin "ValueError.__init__") (.ref a :: us)) Q E s:=by
 obtain ⟨nm,qn,N,bs,sn,sub,ab,col,dd,k0,k1,k2,k3,k5,mN,o,hC,hN,hi,hf,hfc,T⟩:=q.obj I.kIn
 obtain ⟨u,hx⟩:=Lx (I.hok a _ ha)
 have F:=PySem.F.excBase_ValueError
 obtain ⟨hp,gs,dr,tk,os⟩:=s
 refine wpAny_call (codeAny_call_builtin F.init.plain F.initEntry (wpAny_check_init_subT F T hC hx rfl ?_))
 wp_walk
 refine h _ ?_
 have e1:(hp.push { cls:=.type "tuple",data:=.seq us.toArray }).get? a = some (Ig C u none):=aF _ hx
 have J:=I.write (x:=a) (e:=a) (o:=XN a C none) (t':=tk) (h':=(hp.push { cls:=.type "tuple",data:=.seq us.toArray }).update a (Obj.mapFields fun x=>x.setIfInBounds 0 (Value.ref hp.objs.size))) (by rw [ha]; trivial) (.inl rfl)
  (fun b v n z=>(Heap.get?_update_other _ _ (Ne.symm n)).trans (aF _ z)) ⟨_,Heap.get?_update_self _ e1 rfl⟩ (Pg (t:=hp.objs.size) (Heap.get?_update_self _ e1 rfl))
 rwa [X4 ha] at J
noncomputable def Yo (C:Addr) (t:TA):TE:=fun σ H Q=>t σ H fun vs H1=>∃ a ws,vs = .ref a :: ws/\H1 a = some (XN a C none)/\ws.length <= sizeLine/\Q .non H1
theorem Qe {pl:Sem Bool} (c:O8 X.K B) (q:GR X.K C HE fI) (hg:Gl X x) (hm:X.mg x = some (.ref B)) (ha:PA X (e :: es) t) (hdb:(x == ("__debug__" : Str)) = false:=by decide)
  (hst:starEach (e :: es) X.env = (false,eval e X.env) :: starEach es X.env:=by rfl) (hpl:(backTo pos (starEach es X.env)).any (·.1) = false:=by rfl)
  (ht:eval (.Call (.Attribute (.Name x p) "__init__" apos) (e :: es) [] pos) X.env = (do
   let ov <- eval (.Name x p) X.env
   standAt apos.atName
   let (f,first) <- holding [ov] (getMethod ov "__init__" pl)
   callWith pos f first (backTo pos (starEach (e :: es) X.env)) (backToKw pos (keywordEach [] X.env))):=by rfl) :
  PE X (.Call (.Attribute (.Name x p) "__init__" apos) (e :: es) [] pos) (Yo C t):=by
 intro pins s σ H Q I h
 refine PySem.W.methodCall_KW (pl:=pl) (lH I hg hm (PySem.W.method_cls I.kIn c.ga (PySem.W.cls_value I.kIn c.rd c.at_ (by decide) ?_)) hdb) ht
 show wpAny _ _ (callWith pos (.builtin "ValueError.__init__") [] (backTo pos (starEach (e :: es) X.env)) []) _ _ _
 have h2:=ha pos pins _ σ H _ (I.tok (s.toks + 1)) h
 rw [hst] at h2 ⊢
 refine PySem.W.callWith_of (P:=fun _=>True) (by show ((false || (backTo pos (starEach es X.env)).any (·.1)) || false) = false; rw [hpl]; rfl) (fun _ _=>⟨.machine,.inr (.inl rfl),.now⟩) (Calls.evalArgs_plain (thn h2 fun us s2 ⟨vs,H2,I2,r,a,ws,e1,e2,e3,e4⟩=>⟨trivial,?_⟩))
 subst e1
 cases r with
 | cons r1 r2 =>
  cases r1
  exact init_exc I2 q e2 (by rw [<- r2.length]; exact e3) fun s' J=>⟨.non,H2,J,rfl,e4⟩
end
end L2
namespace L2
open PySem PySem.Spec PyProof.Rows
section
variable {X:Cx} {pins:List (Addr × Obj)} {σ:L2.St} {H:Hp} {s:Shared} {a C HE fI:Addr} {f:Str} {v:V} {A:Around} {E:Value->Shared->Prop}
theorem Nr {u:Value} {Q:Unit->Shared->Prop} (I:Inv X pins σ H s) (e:H a = some (XN a C none)) (c:PL X.K C) (n:b_ X.K C f) (r:RelV v u)
  (h:∀ d s',H d = none->d ≠ a->Inv X pins σ (upd (upd H a (XN a C (some d))) d (.xd [(f,v)])) s'->Q () s'):wpAny (model X.prog X.w) A (setAttr (.ref a) f u) Q E s:=by
 obtain ⟨t,ha⟩:=Lx (I.hok a _ e)
 have nd:H s.heap.objs.size = none:=I.hok.fresh (aD _)
 have na:s.heap.objs.size ≠ a:=(aP (aH ha)).symm
 refine U_ I.kIn c n ha rfl rfl rfl fun h' t' hn hx ho=>h s.heap.objs.size _ nd na ?_
 have J:=I.write (x:=a) (e:=a) (o:=XN a C (some s.heap.objs.size)) (t':=t') (h':=h') (by rw [e]; trivial) (.inl rfl) (fun b w z q=>(ho b z (aP (aH q))).trans q) ⟨_,hx⟩ (Pg hx)
 refine J.track ((bG na).trans nd) (Heap.get?_none_of_le I.sz) (Nat.ne_of_gt I.lt) (fun x c q z=>?_) (fun p q z=>?_) ⟨_,hn,fun g=>?_⟩
 .obtain ⟨w,o,q',_⟩:=I.cell x c q
  rw [z] at q'
  exact Nat.lt_irrefl _ (aH q')
 .have q':=(I.pin p q).1
  rw [z] at q'
  exact Nat.lt_irrefl _ (aH q')
 .by_cases z:g = f
  .subst z
   simp [List.lookup]
   exact r
  .have:(g == f) = false:=by simp [z]
   simp [List.lookup,this,z]
   trivial
noncomputable def Zn (K:Frag) (ta tv:TE) (f:Str):TS:=fun D σ H=>tv σ H fun y H1=>ta σ H1 fun x H2=>∃ a C,x = .ref a/\H2 a = some (XN a C none)/\PL K C/\b_ K C f/\∀ d,H2 d = none->d ≠ a->D.nx σ (upd (upd H2 a (XN a C (some d))) d (.xd [(f,y)]))
theorem U5 {o value:Expr} {ta tv:TE} {pos pos':Pos} (ha:PE X o ta) (hv:PE X value tv) (hs:swapsWith value (some (.Attribute o f pos')) pos.line X.env = pure false):PS X (.Assign [.Attribute o f pos'] value pos) (Zn X.K ta tv f):=by
 intro pins s σ H D I h
 refine plainObj_wpAny_Assign_Attribute (thn (hv pins s σ H _ I h) fun u s1 ⟨y,H1,I1,ry,q⟩=>thn (ha pins s1 σ H1 _ I1 q) fun ov s2 ⟨x,H2,I2,rx,a,C,ex,ea,c,n,q2⟩=>?_) hs
 subst ex
 obtain rfl:ov = Value.ref a:=rx
 exact Nr I2 ea c n ry fun d s3 h1 h2 I3=>⟨σ,_,I3,q2 d h1 h2⟩
theorem Inv.madeE {us:List Value} (I:Inv X pins σ H s):Inv X pins σ (upd H (s.heap.objs.size + 1) (XN (s.heap.objs.size + 1) C none)) { s with heap:=Bv s.heap C us } :=
 I.laid (a:=s.heap.objs.size + 1) (o:=XN (s.heap.objs.size + 1) C none) (h':=Bv s.heap C us) (t':=s.toks) wA (Nat.le_succ _) (Pg (t:=s.heap.objs.size) (by heap_get))
theorem M9 {k:Nat} {fd:FuncData} {ps:List Str} {sp:Sp} {us:List Value} {vs:List V} {Q:Addr->Hp->Prop} (q:GR X.K C HE fI) (F:cB X.prog X.w X.K X.mg X.base CX0 k fI fd ps sp) (hr:fQ (k + 1) X.A) (hb:Binds X.K fd ps [])
  (I:Inv X pins σ H s) (r:Vals vs us) (hl:us.length <= sizeLine) (h:∀ x,H x = none->sp (.ref x :: vs) (upd H x (XN x C none)) (fun v H2=>v = .non/\Q x H2) E0) :
  wpAny (model X.prog X.w) X.A (call (.ref C) us) (fun u s'=>∃ a H',u = .ref a/\X.s₀.heap.objs.size <= a/\Inv X pins σ H' s'/\Q a H') X.xe s:=by
 obtain ⟨nm,qn,N,bs,sn,sub,ab,col,dd,k0,k1,k2,k3,k5,mN,o,hC,hN,hi,hf,hfc,T⟩:=q.obj I.kIn
 have hq:=h (s.heap.objs.size + 1) (I.hok.fresh (Nat.le_succ _))
 have I2:=I.madeE (C:=C) (us:=us)
 have r2:Vals (V.ref (s.heap.objs.size + 1) :: vs) (Value.ref (s.heap.objs.size + 1) :: us):=.cons rfl r
 have hl2:(Value.ref (s.heap.objs.size + 1) :: us ++ []).length = ps.length:=by
  rw [List.append_nil,<- r2.length]
  exact F.len _ _ _ _ hq
 have hb':=hb _ (Value.ref (s.heap.objs.size + 1) :: us) I2.kIn hl2
 rw [List.append_nil] at hb'
 have sz:=I.sz
 obtain ⟨hp,g,d,t,os⟩:=s
 refine Q9 PySem.F.excBase_ValueError T hC hN hi hf hfc hl (wpAny_call (codeAny_mono (F.run _ X.stack _ _ ⟨Value.ref (hp.objs.size + 1) :: us,[]⟩ _ _ _ E0 (hr.make C us []) (I2.env0.make C us []) hb' r2 hq) fun r s' hq'=>?_))
 cases r with
 | error e=>exact K9 pins σ _ _ e s' I2 hq'
 | ok fl =>
  cases fl with
  | ret u =>
   obtain ⟨v,H',I3,rv,ev,q3⟩:=I2.after hq'
   subst ev
   exact ⟨rv,hp.objs.size + 1,H',rfl,Nat.le_succ_of_le sz,I3,q3⟩
  | next=>exact False.elim hq'
  | brk=>exact False.elim hq'
  | cont=>exact False.elim hq'
end
end L2
namespace L2
open PySem PySem.Spec PyProof.Rows
noncomputable def out (H:Hp) (a:Addr):Hp:=fun b=>if b = a then none else H b
theorem Hs {H:Hp} {a:Addr} : out H a a = none:=by unfold out; rw [if_pos rfl]
theorem qR {H:Hp} {a b:Addr} (n:b ≠ a):out H a b = H b:=by unfold out; rw [if_neg n]
theorem Im {H:Hp} {a b:Addr} {o:HO} (e:out H a b = some o):b ≠ a/\H b = some o:=by
 by_cases z:b = a
 .subst z; rw [Hs] at e; cases e
 .exact ⟨z,by rw [qR z] at e; exact e⟩
section
variable {X:Cx} {pins:List (Addr × Obj)} {σ:L2.St} {H:Hp} {s:Shared} {a C:Addr} {B h':Heap} {d:Option Addr}
theorem Inv.flyMade (I:Inv X pins σ H s) (hx:X.ex = []) (e:H a = some (XN a C d)) (sz:X.s₀.heap.objs.size <= a) (hB:B = PySem.W.hideAll (s.heap.hide a) (frs X.stack)) (fl:oN B X.outer a (.ref C) d .none h') (up:s.heap.UpToSlots h') :
  Fly X.prog X.w X.outer X.H₀ X.s₀ a (.ref C) (out H a) { s with heap:=h' } B d:=by
 have inB:∀ b o,b ≠ a->s.heap.get? b = some o->b ∉ frs X.stack->B.get? b = some o:=fun b o n q m=>by rw [hB]; exact PySem.W.hideAll_get _ ((Heap.hide_ne _ n).trans q) m
 have ni:∀ b u,H b = some u->b ∉ frs X.stack:=fun b u q z=>by rw [I.stkFree b z] at q; cases q
 have trk:∀ b u o,b ≠ a->H b = some u->s.heap.get? b = some o->B.get? b = some o:=fun b u o n q r=>inB b o n r (ni b u q)
 have na:∀ b,H b = none->b ≠ a:=fun b q z=>by rw [z,e] at q; cases q
 have nf:∀ b ∈ frs X.stack,∀ o,s.heap.get? b = some o->∀ vs,o.data ≠ .fields vs:=fun b hb o q=>by
  obtain ⟨_,o',e',z⟩:=I.stack.mem hb
  rw [q] at e'
  cases e'
  exact z
 have hok:HOk X.prog X.w (out H a) h':=fun b u q=>by
  obtain ⟨n,q⟩:=Im q
  refine (I.hok b u q).stay (fun c v hc r=>?_) (fun c r=>?_) fun c xs r=>?_
  .rcases hc with z | z
   .subst z; exact fl.1 c v (trk c u v n q r)
   .exact fl.1 c v (trk c _ v (eF z e (by intro z; cases z)) z r)
  .rw [qR (eF r e (by intro z; cases z))]; exact r
  .rw [qR (eF r e (by intro z; cases z))]; exact r
 have un:Un (frs X.stack) [a] H (out H a) s.heap h':=by
  refine ⟨fun b o q n hb _=>fl.1 b o (inB b o (na b n) q hb),fun b o q n hb _=>up b o q (nf b hb o q),fun b o _ n _=>by rw [qR (na b n)]; exact n,fun b o q hb=>?_,fun b xs q=>?_,fun b o u q=>?_,fun b ps q=>⟨#[],?_⟩⟩
  .by_cases m:b ∈ frs X.stack
   .obtain ⟨sl,r⟩:=up b o q (nf b m o q)
    exact ⟨_,r⟩
   .exact ⟨o,fl.1 b o (inB b o (by simpa using hb) q m)⟩
  .rw [qR (eF q e (by intro z; cases z))]; exact q
  .rw [qR (eF q e (by intro z; cases z))]; exact q
  .rw [qR (eF q e (by intro z; cases z)),q]; simp
 have J:Inv X pins σ (out H a) { s with heap:=h' }:=I.call' (s':={ s with heap:=h' }) (ch:=[a]) rfl un hok I.bare fun b hb=>by
  obtain rfl:b = a:=by simpa using hb
  exact ⟨.inr sz,(fun z=>by have:=I.free; rw [<- z,e] at this; cases this),(fun x c q z=>by have:=I.freeC x c q; rw [z,e] at this; cases this),(fun p hp z=>by have:=(I.pin p hp).2.1; rw [z,e] at this; cases this)⟩
 have lta:∀ b o,X.s₀.heap.get? b = some o->b ≠ a:=fun b o q z=>Nat.lt_irrefl a (aQ (z ▸ aH q) sz)
 refine ⟨J.os,J.bare,Heap.get?_none_of_le sz,by have:=J.base; rw [hx] at this; exact this,J.hok,fun b hb=>?_,fl,fun b o q hb hc=>?_⟩
 .obtain ⟨_,o,ho,_⟩:=I.ok.funs.mem hb
  exact J.base.free b o ho (I.ok.frf b hb) fun z=>I.ok.exfs b z hb
 .have fin:∀ v,B.get? b = some v->B.get? b = some o:=fun v y=>by
   have e2:=fl.1 b v y
   rw [show ({ s with heap:=h' } : Shared).heap.get? b = h'.get? b from rfl,e2] at q
   cases q
   exact y
  rcases hc with ⟨u,r⟩ | ⟨u,r⟩
  .obtain ⟨⟨v,z⟩,n⟩:=I.old hx r
   exact fin v (inB b v (lta b u r) z (I.nostk n hb))
  .obtain ⟨n,r⟩:=Im r
   obtain ⟨o',e'⟩:=(I.hok b u r).there
   exact fin o' (trk b u o' n r e')
end
noncomputable def Qz (X:Cx) (Ex:Value->Option Addr->L2.St->Hp->Prop):Prop :=
 ∀ pins σ H s a C d,Inv X pins σ H s->H a = some (XN a C d)->X.s₀.heap.objs.size <= a->Ex (.ref C) d σ (out H a)->X.xe (.ref a) s
section
variable {P:Program} {w:World} {K:Frag} {mg:Str->Option Value} {base:Heap} {N:List Str} {qual:Str} {scope:Scope} {f:Addr} {cd:Value} {A:Around} {outer:List Env} {s:Shared} {H:Hp} {E:XK}
theorem Bt:Qz (yX (CXO P w) P w K mg base N qual scope f cd A outer s H E) (fun C d _ H'=>E C d H'):=by
 intro pins σ H1 s1 a C d I e sz q
 show wpAny _ _ (leaving _ (.ref a)) _ _ _
 have hin:∀ env ∈ (envOfC qual scope s.heap.objs.size f cd :: outer),∀ b,env.frame = some b->b ∈ frs (envOfC qual scope s.heap.objs.size f cd :: outer):=fun env he b hb=>List.mem_filterMap.mpr ⟨env,he,hb⟩
 obtain ⟨t,ha⟩:=Lx (I.hok a _ e)
 have fr:(s1.heap.hide a).FunFrames base (envOfC qual scope s.heap.objs.size f cd :: outer):=PySem.W.funFrames_hideAll (as:=[a]) I.stack fun env he b hb z=>by
  obtain rfl:b = a:=by simpa using hb
  have:=I.stkFree b (hin env he b z)
  rw [e] at this; cases this
 refine Ca (base:=PySem.W.hideAll (s1.heap.hide a) (frs (envOfC qual scope s.heap.objs.size f cd :: outer))) (h0:=s1.heap.hide a) (outer:=outer) I.ok.frames rfl (fun b o q=>PySem.W.of_hideAll _ q) (PySem.W.funFrames_hide fr hin) (fun b o q=>Heap.of_hide q) (Heap.hide_self _ _) ha rfl rfl fun h' fl up=>?_
 exact ⟨a,.ref C,d,out H1 a,_,rfl,I.flyMade rfl e sz rfl fl up,q⟩
end
section
variable {prog:Program} {w:World} {A:Around} {E:Value->Shared->Prop} {s:Shared} {env:Env} {nm qn:Str} {C N:Addr} {bs bm:List Value} {hd:Bool} {sn:List Str} {sub:List Value} {ab:Bool} {col:Option Bool} {dd:Option Addr} {k0 k1 k2 k3 k5:Option Value}
theorem N_ {x:Sem Value} {Q:Flow->Shared->Prop} (hb:bm.contains (.type "BaseException") = true) (hh:A.handled = none)
  (h:wpAny (model prog w) A x (fun v s1=>∃ a t d,v = .ref a/\s1.heap.get? C = some (excClassObj nm qn C N bs bm hd sn sub ab col dd k0 k1 k2 k3 k5 "ValueError.__new__")/\s1.heap.get? a = some (Ig C t d)/\E (.ref a) s1) E s):wpAny (model prog w) A (raiseStmt env (some x) none) Q E s:=by
 have hB:(Value.ref C :: bm).contains (.type "BaseException") = true:=by rw [List.contains_cons,hb,Bool.or_true]
 unfold raiseStmt
 refine wpAny_bind (wpAny_mono h (fun v s1 z=>?_) fun _ _ z=>z)
 obtain ⟨a,t,d,rfl,hC,ha,hE⟩:=z
 obtain ⟨hp,gs,dr,tk,os⟩:=s1
 repeat (first | with_reducible refine wpAny_loadPart_at ha ?_ | with_reducible refine wpAny_loadPart_at hC ?_ | (with_reducible refine wpAny_isSubtype_exc hC ?_; rw [hB]) | wp_step)
 exact wpAny_raiseNew_none hh hE
end
section
variable {X:Cx} {x:Str} {np cpos pos:Pos} {e₀:Expr} {rest:List Expr} {ta:TA} {C HE fI:Addr} {Ex:Value->Option Addr->L2.St->Hp->Prop} {k:Nat} {ps:List Str} {sp:Sp}
noncomputable def Ft (C:Addr) (sp:Sp) (Ex:Value->Option Addr->L2.St->Hp->Prop) (ta:TA):TS:=fun _ σ H=>ta σ H fun vs H1=>vs.length <= sizeLine/\∀ a,H1 a = none->sp (.ref a :: vs) (upd H1 a (XN a C none)) (fun v H2=>v = .non/\∃ d,H2 a = some (XN a C d)/\Ex (.ref C) d σ (out H2 a)) E0
theorem Bp (hc:X.calm = true) (hg:Gl X x) (hm:X.mg x = some (.ref C)) (q:GR X.K C HE fI) (G:OkI X.prog X.w X.K X.mg X.base CX0 k fI ps sp) (hr:fQ (k + 1) X.A) (hx:Qz X Ex) (ha:PA X (e₀ :: rest) ta) (hdb:(x == ("__debug__" : Str)) = false:=by decide)
  (he:starEach (e₀ :: rest) X.env = (false,eval e₀ X.env) :: starEach rest X.env:=by rfl) (hpl:(backTo cpos (starEach rest X.env)).any (·.1) = false:=by rfl) :
  PS X (.Raise (some (.Call (.Name x np) (e₀ :: rest) [] cpos)) none pos) (Ft C sp Ex ta):=by
 obtain ⟨fd,F,hb⟩:=G
 intro pins s σ H D I h
 obtain ⟨nm,qn,N,bs,sn,sub,ab,col,dd,k0,k1,k2,k3,k5,mN,o,hC,hN,hi,hf,hfc,T⟩:=q.obj I.ok.mod.kin
 rw [arm_exec_Raise]
 refine wpAny_bind (wpAny_standAt (N_ (C:=C) (nm:=nm) (qn:=qn) (N:=N) (bs:=bs) (bm:=.ref HE :: bmV) (hd:=true) (sn:=sn) (sub:=sub) (ab:=ab) (col:=col) (dd:=dd) (k0:=k0) (k1:=k1) (k2:=k2) (k3:=k3) (k5:=k5) (T.hasType (by decide)) (I.ok.hd hc) ?_))
 refine wpAny_bind (thn (Q:=fun u s1=>∃ a H' d,u = .ref a/\X.s₀.heap.objs.size <= a/\Inv X pins σ H' s1/\H' a = some (XN a C d)/\Ex (.ref C) d σ (out H' a)) ?_ fun u s1 ⟨a,H',d,e1,e2,I1,e3,e4⟩=>wpAny_bind (wpAny_standAt (wpAny_pure ?_)))
 .refine wpAny_Call_Name_kw (lH I hg hm ?_ hdb)
  refine PySem.W.callWith_K (h₀:=X.base) I.ok.mod.kin q.kp (thn (ha cpos pins s σ H _ I h) fun us s1 ⟨vs,H1,I1,r,hl,q1⟩=>⟨I1.kIn,?_⟩) he hpl
  exact thn (M9 (Q:=fun a H2=>∃ d,H2 a = some (XN a C d)/\Ex (.ref C) d σ (out H2 a)) q F hr hb I1 r (by show us.length <= _; rw [<- r.length]; exact hl) q1) fun u s2 ⟨a,H2,e1,e2,I2,d,e3,e4⟩=>⟨a,H2,d,e1,e2,I2,e3,e4⟩
 .obtain ⟨t,ht⟩:=Lx (I1.hok a _ e3)
  exact ⟨a,t,d,e1,I1.bk _ _ hC,ht,hx pins σ H' s1 a C d I1 e3 e2 e4⟩
end
end L2
namespace L2
open PySem PySem.Spec PyProof.Rows
section
variable {prog:Program} {w:World} {A:Around} {E:Value->Shared->Prop} {h:Heap} {g:Array GenState} {d:Drawn} {t:Nat} {os:OsState} {a C:Addr} {o:Obj} {od:Option Obj} {K:Frag} {f:Str} {u:Value}
theorem JV {tk:Tok} {fl b:Bool} {Q:Value->Shared->Prop} (X:K.In h) (T:wM K C) (J:PySem.W.InstAt h a o C od) (hx:h.get? a = some o) (hc:o.cls = .ref C) (hf:PySem.W.findObj K C od f = some (.value u)) (hh:PySem.W.handedIn u = true) (hq:Q u ⟨h,g,d,t,os⟩) :
  wpAny (model prog w) A (getAttrBy (.ref a) (.str f tk) fl b) Q E ⟨h,g,d,t,os⟩:=by
 have f3:=F.excAttr_ValueError.ga.bind (.ref a)
 have n2:(Value.builtin "BaseException.__getattribute__" == Value.builtin "object.__getattribute__") = false:=by decide +kernel
 have n1:(onTheHeap (Value.ref C) && Value.builtin "BaseException.__getattribute__" == Value.builtin "object.__getattribute__") = false:=by rw [n2]; exact Bool.and_false _
 have LT:=gZ (M:=model prog w) hx hc
 have LG:=PySem.W.looks_findIn (M:=model prog w) X T.ga
 have LN:=PySem.W.looks_findIn (M:=model prog w) X T.gn
 have LF:=PySem.W.looks_find (M:=model prog w) X J hf
 repeat (any_goals (first | assumption | with_reducible refine LT.at ?_ | with_reducible refine LG.at ?_ | with_reducible refine LN.at ?_ | (with_reducible refine wpAny_loadPart_at hx ?_; rw [hc]) | wp_step))
 rw [if_neg (show ¬ (b && onTheHeap (Value.builtin "BaseException.__getattribute__")) = true from by rw [show onTheHeap (Value.builtin "BaseException.__getattribute__") = false from rfl,Bool.and_false]; exact bw)]
 repeat (any_goals (first | assumption | wp_step))
 refine codeAny_call_builtin F.excAttr_ValueError.ga.plain F.entry_bexc_ga (tO X T hx hc ?_)
 repeat (any_goals (first | assumption | with_reducible refine LT.at ?_ | with_reducible refine LF.at ?_ | wp_step))
 show wpAny _ _ (handedOut u) _ _ _
 rw [PySem.W.handedOut_of hh]
 exact wpAny_pure hq
end
section
variable {X:Cx} {pins:List (Addr × Obj)} {σ:L2.St} {H:Hp} {s:Shared} {a d C:Addr} {fs:List (Str × V)} {f:Str} {v:V} {A:Around} {E:Value->Shared->Prop}
theorem Nz {b:Bool} {Q:Value->Shared->Prop} (I:Inv X pins σ H s) (e:H a = some (XO a C (some d))) (ed:H d = some (.xd fs)) (c:wM X.K C) (hh:PySem.W.hasDictIn X.K C = true) (n:b_ X.K C f) (l:fs.lookup f = some v)
  (h:∀ u s',Inv X pins σ H s'->RelV v u->Q u s'):wpAny (model X.prog X.w) A (getAttr (.ref a) f b) Q E s:=by
 obtain ⟨ox,hx,hc,hd,vs,hv⟩:=(I.hok a _ e).1
 obtain ⟨mA,hn,r⟩:=I.hok d _ ed
 obtain ⟨od,ho,hl⟩:=Ce hn
 obtain ⟨u,hu,ru⟩:=qb.some_of (v:=v) (o:=mA f) (by rw [<- l]; exact r f)
 have J:PySem.W.InstAt s.heap a ox C (some od):=⟨hx,hc,by unfold PySem.W.notCls; rw [hv],by rw [hd]; exact ho⟩
 have I2:=I.tok (s.toks + 1)
 have kI:=I.kIn
 obtain ⟨hp,g,dr,t,os⟩:=s
 unfold getAttr
 repeat (first | exact JV kI c J hx hc (PySem.W.findObj_own hh n rfl (by rw [hl,hu])) (BL ru) (h u _ I2 ru) | wp_step)
noncomputable def Wy (K:Frag) (ta:TE) (f:Str):TE:=fun σ H Q=>ta σ H fun x H1=>∃ a C d fs v,x = .ref a/\H1 a = some (XO a C (some d))/\H1 d = some (.xd fs)/\wM K C/\PySem.W.hasDictIn K C = true/\b_ K C f/\fs.lookup f = some v/\Q v H1
theorem Vd {e:Expr} {ta:TE} {pos:Pos} (he:PE X e ta) (hb:attributeBase e f X.env (eval e X.env) = eval e X.env):PE X (.Attribute e f pos) (Wy X.K ta f):=by
 intro pins s σ H Q I h
 refine KN hb (thn (he pins s σ H _ I h) fun u s1 ⟨x,H1,I1,rx,a,C,d,fs,v,ex,ea,ed,c,hd,n,l,q⟩=>?_)
 subst ex
 obtain rfl:u = Value.ref a:=rx
 exact Nz I1 ea ed c hd n l fun u' s2 I2 ru=>⟨v,H1,I2,ru,q⟩
end
end L2
namespace L2
open PySem PySem.Spec PyProof.Rows
theorem fsc {N P:List Str} {sc:Scope} (h1:sc.kind = .function:=by rfl) (h2:sc.isCoroutine = false:=by rfl) (h3:sc.isGenerator = false:=by rfl) (h4:N.Nodup/\(∀ x ∈ P,sc.names.lookup x = some .local\/sc.names.lookup x = some .cell)/\∀ y ∈ sc.names,y.2 ≠ .free:=by decide +kernel) (h5:N.take P.length = P:=by rfl):bT N P sc:=⟨h1,h2,h3,h4.1,h5,h4.2.1,h4.2.2⟩
noncomputable abbrev CK (sc scope:Scope) (N N' xs:List Str):Prop:=Cp xs N = N'/\(xs ++ N').Nodup/\(∀ y ∈ scope.names,y.2 ≠ .cell)/\(∀ y ∈ scope.names,y.2 = .local->scope.names.lookup y.1 = some .local)/\(∀ y ∈ scope.names,y.2 = .free->sc.names.lookup y.1 = some .cell\/sc.names.lookup y.1 = some .free) /\
 (∀ y ∈ N,y ∉ xs->(scope.names.map fun (n,k)=>if (k == NameKind.free && sc.kind == .function && sc.names.lookup n == some .cell) then (n,NameKind.cell) else (n,k)).lookup y ≠ some .local)/\∀ y ∈ N,y ∈ xs->(scope.names.map fun (n,k)=>if (k == NameKind.free && sc.kind == .function && sc.names.lookup n == some .cell) then (n,NameKind.cell) else (n,k)).lookup (hid y) = none
section
variable {X:Cx} {elt iter tg:Expr} {pos:Pos} {scope:Scope} {wi:TI} {te:TE} {ifs:List Expr} {gt:TG} {tc:TT}
theorem mJ (sc:Scope) (N N' xs:List Str) (hi:PI X tg iter wi) (hg:∀ {C s₀ H₀ ex pn},PG (X.compG N' scope xs C s₀ H₀ ex pn) tg gt) (ht:∀ {C s₀ H₀ ex pn},PTs (X.compG N' scope xs C s₀ H₀ ex pn) ifs tc) (he:∀ {C s₀ H₀ ex pn},PE (X.compG N' scope xs C s₀ H₀ ex pn) elt te)
  (hsc:X.env.scope = sc:=by rfl) (hNN:X.N = N:=by rfl) (hc:X.calm = true:=by rfl) (hk:scope.kind = .function:=by rfl) (h:CK sc scope N N' xs:=by decide +kernel) (hs:∀ z,foldedSetIterable iter X.env z = pure z:=by intro _; rfl):PE X (.ListComp elt [⟨tg,iter,ifs,0⟩] scope pos) (jg wi xs.length (tMG gt) (tMT tc) (tM te)) :=
 by
 subst hsc hNN
 exact Qg hc h.1 h.2.1 hk h.2.2.1 h.2.2.2.1 h.2.2.2.2.1 h.2.2.2.2.2.1 h.2.2.2.2.2.2 hi (fun _ _ _ _ _=>hg.mono) (fun _ _ _ _ _=>ht.mono) (fun _ _ _ _ _=>he.mono) hs
theorem Ih {i0:Nat} {y0:Str} {py spos:Pos} (sc:Scope) (N N' xs:List Str) (hi:PI X tg iter wi) (hg:∀ {C s₀ H₀ ex pn},PG (X.compG N' scope xs C s₀ H₀ ex pn) tg gt) (ht:∀ {C s₀ H₀ ex pn},PTs (X.compG N' scope xs C s₀ H₀ ex pn) ifs tc) (he:∀ {C s₀ H₀ ex pn},PE (X.compG N' scope xs C s₀ H₀ ex pn) elt te) (hgy:PG X (.Name y0 py) (dI i0))
  (hsc:X.env.scope = sc:=by rfl) (hNN:X.N = N:=by rfl) (hc:X.calm = true:=by rfl) (hk:scope.kind = .function:=by rfl) (h:CK sc scope N N' xs:=by decide +kernel) (hsw:swapsWith (.ListComp elt [⟨tg,iter,ifs,0⟩] scope pos) (some (.Name y0 py)) spos.line X.env = pure true:=by rfl) (hs:∀ z,foldedSetIterable iter X.env z = pure z:=by intro _; rfl) :
  PS X (.Assign [.Name y0 py] (.ListComp elt [⟨tg,iter,ifs,0⟩] scope pos) spos) (Aq (jg wi xs.length (tMG gt) (tMT tc) (tM te)) (dI i0)) :=
 by
 subst hsc hNN
 exact Ow hc h.1 h.2.1 hk h.2.2.1 h.2.2.2.1 h.2.2.2.2.1 h.2.2.2.2.2.1 h.2.2.2.2.2.2 hi (fun _ _ _ _ _=>hg.mono) (fun _ _ _ _ _=>ht.mono) (fun _ _ _ _ _=>he.mono) hgy hsw hs
theorem fW {N' xs:List Str} {C s₀ H₀ ex pn} {i:Nat} {x:Str} {p:Pos} (hN:(xs ++ N').Nodup:=by decide +kernel) (hi:(xs ++ N')[i]? = some x:=by rfl) (hx:Loc (X.compG N' scope xs C s₀ H₀ ex pn).env.scope x:=by exact Or.inl rfl) (hf:(X.compG N' scope xs C s₀ H₀ ex pn).fn x = true\/(X.compG N' scope xs C s₀ H₀ ex pn).env.scope.names.lookup x = some .local:=by exact Or.inr rfl):PG (X.compG N' scope xs C s₀ H₀ ex pn) (.Name x p) (dI i):=cD hN hi hx hf
end
theorem Hi {tl te:TE} {σ:L2.St} {H:Hp} {Q:VK} (p:Nat->Bool) (y:Str) (hl:∀ R:VK,R (.str y) H->tl σ H R) (hz:y.length <= sizeLine) (he:∀ (c:Nat) (Hc:Hp) (R:VK),R (.bl (p c)) Hc->te (some (.str ⟨#[c]⟩) :: σ) Hc R)
  (q:∀ D,H D = none->Q (.ref D) (upd H D (.lst ((y.cps.toList.map p).map V.bl)))):jg (aap (tM tl)) 1 (tMG (dI 0)) (tMT HY) (tM te) σ H Q:=by
 refine WM (hl _ ⟨y,rfl,fun D hD=>?_⟩)
 have hy:y.cps.size <= sizeLine:=hz
 refine ⟨fun k m ys Hc=>k <= y.cps.size/\m = y.cps.size - k/\ys = ((y.cps.toList.take k).map p).map V.bl/\Hc = upd H D (.lst ys),⟨_,aZ _,rfl,rfl,rfl⟩,?_⟩
 rintro k m ys Hc ⟨hk,rfl,rfl,rfl⟩
 by_cases e:k = y.cps.size
 .subst e
  refine .inl ⟨rfl,?_⟩
  rw [aJ (by simp)]
  exact q D hD
 .have hlt:k < y.cps.size:=by omega
  refine .inr ⟨hlt,?_⟩
  rintro x H'' ⟨rfl,c,hc,rfl⟩
  refine (QH (No:=fun _=>False) (he c _ (fun v H2=>v = .bl (p c)/\H2 = upd H D (.lst (((y.cps.toList.take k).map p).map V.bl))) ⟨rfl,rfl⟩)).weak ?_ fun _ z=>z.elim
  rintro v H2 ⟨rfl,rfl⟩
  refine ⟨?_,bD,y.cps.size - (k + 1),by omega,by omega,rfl,?_,?_⟩
  .rw [ak,ak,aY]
   simp only [Array.length_toList]
   omega
  .have e1:y.cps.toList.take (k + 1) = y.cps.toList.take k ++ [c]:=by
    rw [List.take_succ]
    have:y.cps.toList[k]? = some c:=by simpa using hc
    rw [this]; rfl
   rw [e1,bh,bh]; rfl
  .exact oF
theorem Y4 {K:Frag} {a:Addr} {i j:Int} {d:Option Addr} {n:Nat} {sl:Array (Option Value)} {t u:Tok} (l:K.lookup a = some ⟨.type "tuple",d,.seq #[.int i t,.int j u] n,sl⟩):∀ H,SqT K H a [.int i,.int j]:=fun H=>.inr ⟨_,_,_,l,rfl,rfl,(by show 2 <= sizeLine; decide),.cons ⟨_,rfl⟩ (.cons ⟨_,rfl⟩ .nil)⟩
theorem acB {K:Frag} {h:Heap} {mg:Str->Option Value} {x:Str} {i:Int} {t:Tok} (X:K.In h) (G:h.Ns mainGlobals mg) (l:PySem.W.nsIn K mainGlobals x = some (some (.int i t))):∃ u,mg x = some u/\RelV (.int i) u:=⟨_,PySem.W.mg_of X G l,_,rfl⟩
noncomputable def Lst:Nat->(List Value->Prop)->Prop
 | 0,P=>P []
 | n + 1,P=>∀ a,Lst n fun l=>P (a :: l)
theorem FP:∀ (n:Nat) {P:List Value->Prop},Lst n P->∀ us:List Value,us.length = n->P us
 | 0,_,h,[],_=>h
 | n + 1,_,h,a :: l,e=>FP n (h a) l (Nat.succ.inj e)
section
variable {K:Frag} {h:Heap} {mg:Str->Option Value} {x m qual:Str} {v:Value} {C f:Addr} {st:Stmt} {ps:List Str} {oc:Value} {od an:Option Addr} {osl:Array (Option Value)} {kV doc pm cdv ct:Value} {i j:Int} {d:Option Addr} {n:Nat} {sl:Array (Option Value)} {t u:Tok}
theorem q_c (X:K.In h:=by assumption) (G:h.Ns mainGlobals mg:=by assumption) (e:PySem.W.nsIn K mainGlobals x = some (some v):=by k_is):mg x = some v:=PySem.W.mg_of X G e
theorem q_z (X:K.In h:=by assumption) (G:h.Ns mainGlobals mg:=by assumption) (e:PySem.W.nsIn K mainGlobals x = some none:=by k_is):mg x = none:=PySem.W.mg_none_of X G e
theorem q_n (e:PySem.W.findIn K (.ref C) x = some none:=by k_is):b_ K C x:=e
theorem q_m (a:PySem.W.findIn K (.ref C) m = some (some (.ref f)):=by k_is) (b:PySem.W.isFn K (.ref f) = true:=by k_is) (c:PySem.W.keepIn K (.ref f) = true:=by k_is):Meth K C m f:=⟨a,b,c⟩
theorem q_M (a:PySem.W.makesIn K C = true:=by k_is) (b:PySem.W.findIn K (.ref C) "__init__" = some (some (.ref f)):=by k_is) (c:PySem.W.isFn K (.ref f) = true:=by k_is) (e:PySem.W.keepIn K (.ref C) = true:=by k_is):Mk K C f:=⟨a,b,c,e⟩
theorem q_4 (a:PySem.W.plainGet K C Str.empty = true:=by k_is) (b:PySem.W.hasDictIn K C = true:=by k_is) (c:PySem.W.plainOver K C = true:=by k_is) (e:PySem.W.findIn K (.ref C) "__setattr__" = some (some (.builtin "object.__setattr__")):=by k_is):Cls K C:=⟨a,b,c,e⟩
theorem q_I (a:PySem.W.findIn K (.ref C) "__class__" = some (some (.builtin "object.__class__")):=by k_is) (b:PySem.W.specialIn K (.builtin "object.__class__") "__get__" = some (some (.builtin "getset_descriptor.__get__")):=by k_is) (c:PySem.W.takesIn K (.builtin "object.__class__") = some true:=by k_is) (e:PySem.W.mroIn K C (.type "object") = some true:=by k_is):Hu K C:=⟨a,b,c,e⟩
theorem q_B (a:PySem.W.specialIn K (.ref C) "__getattribute__" = some (some (.builtin "type.__getattribute__")):=by k_is) (b:PySem.W.readsIn K C (.type "type") = true:=by k_is) (c:PySem.W.findCls K (.ref C) (.type "type") m = some (.val (.ref f)):=by k_is) (e:PySem.W.keepIn K (.ref f) = true:=by k_is):jL K C m f:=⟨a,b,c,rfl,e⟩
theorem q_x (e:PySem.W.excIn K C bmV "ValueError.__new__" = true:=by k_exc):Cr K C:=e
theorem q_g (X:K.In h:=by assumption) (G:h.Ns mainGlobals mg:=by assumption) (l:PySem.W.nsIn K mainGlobals x = some (some (.int i t)):=by k_is):∃ u,mg x = some u/\RelV (.int i) u:=acB X G l
theorem q_t (l:K.lookup C = some ⟨.type "tuple",d,.seq #[.int i t,.int j u] n,sl⟩:=by k_is):∀ H,SqT K H C [.int i,.int j]:=Y4 l
theorem q_f (N:Nat) (hb:∀ (kV doc pm:Value) (an:Option Addr) (cdv ct:Value),Lst N fun us=>bindArgs (PySem.W.fnOf x x (iw st) (eG st) (bK st) .none kV doc pm an cdv ct) ⟨us,[]⟩ = pure (ps.zip us)) (hN:ps.length = N:=by rfl) (X:K.In h:=by assumption) (G:h.Ns mainGlobals mg:=by assumption)
  (a:PySem.W.nsIn K mainGlobals x = some (some (.ref f)):=by k_is) (l:K.lookup f = some ⟨oc,od,.func (PySem.W.fnOf x x (iw st) (eG st) (bK st) .none kV doc pm an cdv ct),osl⟩:=by k_is)
  (c:PySem.W.codeIn K cdv x = true:=by k_is) (k:PySem.W.keepIn K (.ref f) = true:=by k_is):dM K mg x st ps:=Wq X G a l c k fun kV doc pm an cdv ct us e=>FP N (hb kV doc pm an cdv ct) us (e.trans hN)
theorem q_h (N:Nat) (hb:∀ (kV doc pm:Value) (an:Option Addr) (cdv ct:Value),Lst N fun us=>bindArgs (PySem.W.fnOf x qual (iw st) (eG st) (bK st) .none kV doc pm an cdv ct) ⟨us,[]⟩ = pure (ps.zip us)) (hN:ps.length = N:=by rfl)
  (l:K.lookup f = some ⟨oc,od,.func (PySem.W.fnOf x qual (iw st) (eG st) (bK st) .none kV doc pm an cdv ct),osl⟩:=by k_is) (c:PySem.W.codeIn K cdv qual = true:=by k_is) (k:PySem.W.keepIn K (.ref f) = true:=by k_is):oY K x qual st ps f:=Uy l c k fun kV doc pm an cdv ct us e=>FP N (hb kV doc pm an cdv ct) us (e.trans hN)
end
end L2
namespace L2
open PySem PySem.Spec PyProof.Rows
section
variable {K:Frag} {C HE fI:Addr} {nm qn:Str} {N:Addr} {bs sub:List Value} {sn:List Str} {ab:Bool} {col:Option Bool} {dd:Option Addr} {k0 k1 k2 k3 k5:Option Value} {o:Obj} {cd:ClassData}
theorem q_E (he:PySem.W.excIn K HE bmV "ValueError.__new__" = true:=by k_exc) (l:K.lookup C = some (excClassObj nm qn C N bs (.ref HE :: bmV) true sn sub ab col dd k0 k1 k2 k3 k5 "ValueError.__new__"):=by k_is) (n1:PySem.W.nsOkIn K N = true:=by kernel_rfl) (n2:PySem.W.nsIn K N "__init__" = some (some (.ref fI)):=by k_is)
  (lf:K.lookup fI = some o:=by k_is) (hf:o.cls = .type "function" := by rfl) (kp:PySem.W.keepIn K (.ref C) = true:=by k_is):GR K C HE fI:=⟨⟨nm,qn,N,bs,sn,sub,ab,col,dd,k0,k1,k2,k3,k5,l,n1,n2⟩,he,⟨o,lf,hf⟩,kp⟩
theorem q_S (a:PySem.W.clsIn K C = some cd:=by k_is) (b:cd.hasDict = true:=by rfl) (c:FQ cd.mro = true:=by rfl) (e:PySem.W.findIn K (.ref C) "__setattr__" = some (some (.builtin "object.__setattr__")):=by k_is) (m:PySem.W.mroIn K C (.type "object") = some true:=by k_is):PL K C:=⟨⟨cd,a,b,c⟩,e,m⟩
theorem q_b (a:PySem.W.specialIn K (.ref C) "__getattribute__" = some (some (.builtin "type.__getattribute__")):=by k_is) (b:PySem.W.readsIn K C (.type "type") = true:=by k_is) (c:PySem.W.findCls K (.ref C) (.type "type") "__init__" = some (.val (.builtin "ValueError.__init__")):=by k_is):O8 K C:=⟨a,b,c⟩
theorem q_5 (a:PySem.W.findIn K (.ref C) "__getattribute__" = some (some (.builtin "BaseException.__getattribute__")):=by k_is) (b:PySem.W.findIn K (.ref C) "__getattr__" = some none:=by k_is) (c:PySem.W.findIn K (.ref C) "__class__" = some (some (.builtin "object.__class__")):=by k_is) (e:PySem.W.mroIn K C (.type "object") = some true:=by k_is) (m:PySem.W.mroIn K C (.type "BaseException") = some true:=by k_is):wM K C:=⟨a,b,c,e,m⟩
end
end L2
namespace L2
open PySem PySem.Spec PyProof.Rows
section
variable {X:Cx} {k:Nat} {f C:Addr} {ps:List Str} {sp:Sp} {m:Str} {pos apos:Pos} {e o:Expr} {es:List Expr} {ta:TE} {t:TA} {Ex:Value->Option Addr->L2.St->Hp->Prop}
theorem RG {K':Frag} {f:Str} (hK:X.K = K') (he:PE X e ta) (hb:attributeBase e f X.env (eval e X.env) = eval e X.env):PE X (.Attribute e f pos) (Wy K' ta f):=by
 subst hK
 exact Vd he hb
theorem d9 {K':Frag} (hK:X.K = K'):dU X (.builtin "isinstance") (Wx K'):=by
 subst hK
 exact Oa
end
end L2
namespace L2
open PySem PySem.Spec PyProof.Rows
section
variable {X:Cx} {es:List Expr} {t:TA} {pos:Pos}
noncomputable def acF (t:TA):TE:=fun σ H Q=>t σ H fun xs H1=>xs.length <= sizeLine/\∀ p H',Same H1 H'->H1 p = none->H' p = some (.lst xs)->Q (.ref p) H'
noncomputable def ZK (t:TA):TE:=fun σ H Q=>t σ H fun xs H1=>xs.length <= sizeLine/\∀ p H',Same H1 H'->H1 p = none->H' p = some (.tup xs)->Q (.ref p) H'
theorem fH (h:PA X es t):PE X (.List es pos) (acF t):=(iD h.mono).imp fun σ H Q h=>⟨_,h,fun xs H1 z=>⟨z.1,fun p hp=>z.2 p _ (Same.upd hp) hp bD⟩⟩
theorem mX {k:Nat} (h:PA X es t):PE X (.Tuple es k pos) (ZK t):=(cU h.mono).imp fun σ H Q h=>⟨_,h,fun xs H1 z=>⟨z.1,fun p hp=>z.2 p _ (Same.upd hp) hp bD⟩⟩
noncomputable def aae:R2:=fun x y H Q=>∃ l b xs zs,x = .ref l/\y = .ref b/\H l = some (.lst xs)/\H b = some (.lst zs)/\xs.length + zs.length <= sizeLine/\∀ p H',Same H H'->H p = none->H' p = some (.lst (xs ++ zs))->Q (.ref p) H'
theorem w5:OpR X (binaryOp .Add) aae:=Ip.imp fun x y H Q ⟨l,b,xs,zs,e1,e2,h1,h2,z,q⟩=>⟨l,b,xs,zs,e1,e2,h1,h2,z,fun p hp=>q p _ (Same.upd hp) hp bD⟩
noncomputable def Xl:List V->Hp->VK->Prop:=fun xs H Q=>∃ p ys,xs = [.ref p]/\H p = some (.lst ys)/\∀ l H',Same H H'->H l = none->H' l = some (.lst ys)->Q (.ref l) H'
theorem yM:dU X (.type "list") Xl:=sE.imp fun xs H Q ⟨p,ys,a,b,c⟩=>⟨p,ys,a,b,fun l hl=>c l _ (Same.upd hl) hl bD⟩
noncomputable def aag:List V->Hp->VK->Prop:=fun xs H Q=>∃ p ys,xs = [.ref p]/\H p = some (.lst ys)/\∀ l H',Same H H'->H l = none->H' l = some (.tup ys)->Q (.ref l) H'
theorem MF:dU X (.type "tuple") aag:=z6.imp fun xs H Q ⟨p,ys,a,b,c⟩=>⟨p,ys,a,.inl ⟨.of b,fun l hl=>c l _ (Same.upd hl) hl bD⟩⟩
noncomputable def ac7:V->Option Int->Option Int->Hp->VK->Prop:=fun x lo hi H Q=>∃ a xs,x = .ref a/\H a = some (.lst xs)/\∀ p H',Same H H'->H p = none->H' p = some (.lst (mO xs lo hi))->Q (.ref p) H'
theorem Hj:SlR X ac7:=fun pins s σ H x v vl vu lo hi sl Q I rx hs pl pu ⟨a,xs,e,h,q⟩=>oO pins s σ H x v vl vu lo hi sl Q I rx hs pl pu ⟨a,xs,e,.of h,fun p hp=>q p _ (Same.upd hp) hp bD⟩
end
end L2
namespace Lv
noncomputable def MP (bs:List Nat):Nat:=bs.foldl Nat.lcm 1
theorem rO:∀ (bs:List Nat) (a m:Nat),bs.foldl Nat.lcm a ∣ m ↔ a ∣ m/\∀ b ∈ bs,b ∣ m
 | [],a,m=>by simp
 | b :: bs,a,m=>by
  rw [List.foldl_cons,rO bs,Nat.lcm_dvd_iff]
  simp only [List.mem_cons,forall_eq_or_imp,and_assoc]
theorem Ox {bs:List Nat} {m:Nat} : MP bs ∣ m ↔ ∀ b ∈ bs,b ∣ m:=by
 unfold MP
 rw [rO]
 simp
theorem Ql {bs:List Nat} {b:Nat} (h:b ∈ bs):b ∣ MP bs:=Ox.mp (Nat.dvd_refl _) b h
theorem rN:∀ (bs:List Nat) (a:Nat),0 < a->(∀ b ∈ bs,0 < b)->0 < bs.foldl Nat.lcm a
 | [],a,h,_=>h
 | b :: bs,a,h,hb=>rN bs _ (Nat.lcm_pos h (hb b aM)) fun c hc=>hb c (aG _ hc)
theorem QZ {bs:List Nat} (h:∀ b ∈ bs,0 < b):0 < MP bs:=rN bs 1 (by decide) h
end Lv
namespace Ac
noncomputable def lw (t b:Int):Int × Int:=(t / (Int.gcd t b:Nat),b / (Int.gcd t b:Nat))
theorem Qk {t b:Int} (hb:0 < b):(0:Int) < (Int.gcd t b:Nat):=by
 have:=Int.gcd_pos_of_ne_zero_right t (show b ≠ 0 by omega)
 omega
theorem kY {t b:Int} (hb:0 < b):0 < (lw t b).2:=Int.ediv_pos_of_pos_of_dvd hb (Int.le_of_lt (Qk hb)) (Int.gcd_dvd_right t b)
theorem vI {t b:Int} (hb:0 < b):Int.gcd (lw t b).1 (lw t b).2 = 1:=Int.gcd_ediv_gcd_ediv_gcd (by have:=Qk (t:=t) hb; omega)
theorem zc {t b:Int} (hb:0 < b):(lw t b).1 * b = t * (lw t b).2:=by
 have d1:=Int.gcd_dvd_left t b
 have d2:=Int.gcd_dvd_right t b
 have g0:=Qk (t:=t) hb
 unfold lw
 generalize hg:((Int.gcd t b:Nat):Int) = g at *
 obtain ⟨x,rfl⟩:=d1
 obtain ⟨y,rfl⟩:=d2
 show g * x / g * (g * y) = g * x * (g * y / g)
 rw [Int.mul_ediv_cancel_left _ (by omega),Int.mul_ediv_cancel_left _ (by omega),Int.mul_left_comm,Int.mul_assoc]
theorem HS (t b:Int):(lw t b).1.natAbs <= t.natAbs:=Int.natAbs_ediv_le_natAbs _ _
theorem Cj (t b:Int):(lw t b).2.natAbs <= b.natAbs:=Int.natAbs_ediv_le_natAbs _ _
theorem K1 {a b c:Int} (h:a ∣ b * c) (g:Int.gcd a b = 1):a ∣ c:=by
 refine Int.natAbs_dvd_natAbs.mp ((show Nat.Coprime a.natAbs b.natAbs from g).dvd_of_dvd_mul_left ?_)
 rw [<- Int.natAbs_mul]
 exact Int.natAbs_dvd_natAbs.mpr h
theorem uniq {x y u v:Int} (hy:0 < y) (hv:0 < v) (g1:Int.gcd x y = 1) (g2:Int.gcd u v = 1) (e:x * v = u * y):x = u/\y = v:=by
 have d1:y ∣ v:=by
  have h:y ∣ x * v:=⟨u,by rw [e,Int.mul_comm]⟩
  exact K1 h (by rw [Int.gcd_comm]; exact g1)
 have d2:v ∣ y:=by
  have h:v ∣ u * y:=⟨x,by rw [<- e,Int.mul_comm]⟩
  exact K1 h (by rw [Int.gcd_comm]; exact g2)
 have e2:y = v:=Int.dvd_antisymm (by omega) (by omega) d1 d2
 subst e2
 exact ⟨Int.eq_of_mul_eq_mul_right (by omega) e,rfl⟩
theorem Pb {t b x y:Int} (hb:0 < b) (hy:0 < y) (g:Int.gcd x y = 1) (e:x * b = t * y):x = (lw t b).1/\y = (lw t b).2:=by
 refine uniq hy (kY hb) g (vI hb) ?_
 have h:=zc (t:=t) hb
 have h1:x * (lw t b).2 * b = (lw t b).1 * y * b:=by
  rw [Int.mul_right_comm,e,Int.mul_right_comm _ y b,h,Int.mul_right_comm]
 exact Int.eq_of_mul_eq_mul_right (by omega) h1
theorem Ys {W x S z o:Int} (hS:0 < S) (ho:0 < o) (g:Int.gcd z o = 1) (e:z * ((lw W S).2 * (lw x S).2) = ((lw W S).1 * (lw x S).2 + (lw x S).1 * (lw W S).2) * o):z = (lw (W + x) S).1/\o = (lw (W + x) S).2:=by
  refine Pb hS ho g ?_
  have h1:=zc (t:=W) hS
  have h2:=zc (t:=x) hS
  have p1:=kY (t:=W) hS
  have p2:=kY (t:=x) hS
  generalize (lw W S).1 = a at *
  generalize (lw W S).2 = b at *
  generalize (lw x S).1 = c at *
  generalize (lw x S).2 = d at *
  have key:z * S * (b * d) = (W + x) * o * (b * d):=by
    calc z * S * (b * d) = z * (b * d) * S:=by rw [Int.mul_right_comm]
      _ = (a * d + c * b) * o * S:=by rw [e]
      _ = (a * S * d + c * S * b) * o:=by
        rw [Int.mul_right_comm,Int.add_mul,Int.mul_right_comm a d S,Int.mul_right_comm c b S]
      _ = (W * b * d + x * d * b) * o:=by rw [h1,h2]
      _ = (W + x) * o * (b * d):=by
        rw [Int.mul_assoc W,Int.mul_assoc x,Int.mul_comm d b,<- Int.add_mul,Int.mul_right_comm]
  exact Int.eq_of_mul_eq_mul_right (Int.ne_of_gt (Int.mul_pos p1 p2)) key
theorem Ed {x S z o:Int} (hS:0 < S) (ho:0 < o) (g:Int.gcd z o = 1) (e:z * (1 * (lw x S).2) = (1 * (lw x S).2 - (lw x S).1 * 1) * o):z = (lw (S - x) S).1/\o = (lw (S - x) S).2:=by
  refine Pb hS ho g ?_
  have h2:=zc (t:=x) hS
  have p2:=kY (t:=x) hS
  generalize (lw x S).1 = c at *
  generalize (lw x S).2 = d at *
  rw [Int.one_mul,Int.mul_one] at e
  have key:z * S * d = (S - x) * o * d:=by
    calc z * S * d = z * d * S:=by rw [Int.mul_right_comm]
      _ = (d - c) * o * S:=by rw [e]
      _ = (d * S - c * S) * o:=by rw [Int.mul_right_comm,Int.sub_mul]
      _ = (d * S - x * d) * o:=by rw [h2]
      _ = (S - x) * o * d:=by rw [Int.mul_comm d S,<- Int.sub_mul,Int.mul_right_comm]
  exact Int.eq_of_mul_eq_mul_right (Int.ne_of_gt p2) key
theorem qX {t b:Int} (hb:0 < b):((lw t b).1 = 0/\(lw t b).2 = 1) ↔ t = 0:=by
 have h:=zc (t:=t) hb
 have p:=kY (t:=t) hb
 constructor
 .rintro ⟨h1,h2⟩
  rw [h1,h2] at h
  omega
 .rintro rfl
  have g:=vI (t:=0) hb
  rw [Int.zero_mul] at h
  have h0:(lw 0 b).1 = 0:=by
   rcases Int.mul_eq_zero.mp h with z | z
   .exact z
   .omega
  rw [h0,Int.gcd_zero_left] at g
  exact ⟨h0,by omega⟩
theorem WQ {t b:Int} (hb:0 < b) (ht:0 <= t):0 <= (lw t b).1:=Int.ediv_nonneg ht (Int.le_of_lt (Qk hb))
theorem WT {t b:Int} (hb:0 < b) (ht:t <= b):(lw t b).1 <= (lw t b).2:=Int.ediv_le_ediv (Qk hb) ht
theorem Xd {b:Int} (hb:0 < b):(lw 1 b).1 = 1/\(lw 1 b).2 = b:=by
 have:=Pb (t:=1) (b:=b) (x:=1) (y:=b) hb hb (by rw [Int.gcd_comm]; simp) (by rw [Int.mul_comm])
 exact ⟨this.1.symm,this.2.symm⟩
section
variable {κ:Type} [DecidableEq κ]
noncomputable def look (acc:List (κ × Int)) (r:κ):Int:=((acc.find? fun g=>decide (g.1 = r)).map (·.2)).getD 0
noncomputable def put (acc:List (κ × Int)) (r:κ) (y:Int):List (κ × Int):=if (acc.any fun g=>decide (g.1 = r)) = true then acc.map (fun g=>if g.1 = r then (g.1,y) else g) else acc ++ [(r,y)]
noncomputable def ig (gs:List (κ × Int)):List (κ × Int):=gs.foldl (fun a g=>put a g.1 (look a g.1 + g.2)) []
theorem vO (gs:List (κ × Int)) (g:κ × Int):ig (gs ++ [g]) = put (ig gs) g.1 (look (ig gs) g.1 + g.2):=by
 unfold ig
 rw [List.foldl_append]; rfl
theorem Vf (acc:List (κ × Int)) (r:κ) (y:Int):(put acc r y).length <= acc.length + 1:=by
 unfold put
 split
 .rw [ak]; omega
 .rw [au]; simp
theorem Yb {acc:List (κ × Int)} (h:(acc.map (·.1)).Nodup) (r:κ) (y:Int):((put acc r y).map (·.1)).Nodup:=by
 unfold put
 split
 .have e:(acc.map (fun g=>if g.1 = r then (g.1,y) else g)).map (·.1) = acc.map (·.1):=by
   rw [List.map_map]
   refine List.map_congr_left fun g _=>?_
   show (if g.1 = r then (g.1,y) else g).1 = g.1
   split <;> rfl
  rw [e]; exact h
 .rename_i hn
  rw [bh]
  refine List.nodup_append.mpr ⟨h,by simp,?_⟩
  intro a ha b hb e
  subst e
  simp only [List.map_cons,List.map_nil,List.mem_singleton] at hb
  subst hb
  obtain ⟨g,hg,e⟩:=List.mem_map.mp ha
  exact hn (List.any_eq_true.mpr ⟨g,hg,decide_eq_true e⟩)
theorem GZ (acc:List (κ × Int)) (r:κ):look acc r = 0\/∃ g ∈ acc,look acc r = g.2:=by
 unfold look
 cases h:acc.find? fun g=>decide (g.1 = r) with
 | none=>exact .inl rfl
 | some g=>exact .inr ⟨g,List.mem_of_find?_eq_some h,rfl⟩
theorem Vy {acc:List (κ × Int)} {r:κ} {y:Int} {g:κ × Int} (h:g ∈ put acc r y):g.2 = y\/g ∈ acc:=by
 unfold put at h
 split at h
 .obtain ⟨g',hg,e⟩:=List.mem_map.mp h
  split at e
  .subst e; exact .inl rfl
  .subst e; exact .inr hg
 .rcases List.mem_append.mp h with h | h
  .exact .inr h
  .rw [List.mem_singleton.mp h]; exact .inl rfl
theorem yp (gs:List (κ × Int)):(∀ g ∈ gs,0 <= g.2)->((ig gs).map (·.1)).Nodup/\(ig gs).length <= gs.length/\∀ g ∈ ig gs,0 <= g.2/\g.2 <= (gs.map (·.2)).sum:=by
 suffices H:∀ (n:Nat) (gs:List (κ × Int)),gs.length = n->(∀ g ∈ gs,0 <= g.2)->((ig gs).map (·.1)).Nodup/\(ig gs).length <= gs.length/\(0 <= (gs.map (·.2)).sum)/\∀ g ∈ ig gs,0 <= g.2/\g.2 <= (gs.map (·.2)).sum from fun h=>let ⟨a,b,_,c⟩:=H _ gs rfl h; ⟨a,b,c⟩
 intro n
 induction n with
 | zero =>
  intro gs h _
  rw [List.eq_nil_of_length_eq_zero h]
  exact ⟨by simp [ig],by simp [ig],by simp,by simp [ig]⟩
 | succ n ih =>
  intro gs h hp
  obtain ⟨gs',g,rfl⟩ : ∃ gs' g,gs = gs' ++ [g]:=⟨gs.dropLast,gs.getLast (by intro e; rw [e] at h; cases h),(List.dropLast_concat_getLast _).symm⟩
  have hl:gs'.length = n:=by rw [au] at h; simpa using h
  obtain ⟨h1,h2,h3,h4⟩:=ih gs' hl fun g hg=>hp g (List.mem_append_left _ hg)
  have hg:=hp g (aO _ (by simp))
  rw [vO]
  have hs:((gs' ++ [g]).map (·.2)).sum = (gs'.map (·.2)).sum + g.2:=by simp
  rw [hs]
  have lk:0 <= look (ig gs') g.1/\look (ig gs') g.1 <= (gs'.map (·.2)).sum:=by
   rcases GZ (ig gs') g.1 with e | ⟨u,hu,e⟩
   .rw [e]; exact ⟨Int.le_refl _,h3⟩
   .rw [e]; exact h4 u hu
  refine ⟨Yb h1 _ _,?_,by omega,fun u hu=>?_⟩
  .have:=Vf (ig gs') g.1 (look (ig gs') g.1 + g.2)
   rw [au]
   simp only [List.length_cons,List.length_nil]
   omega
  .rcases Vy hu with e | hu
   .rw [e]; omega
   .have:=h4 u hu
    omega
theorem Wr {acc:List (κ × Int)} {r:κ} {y:Int} {g:κ × Int} (h:g ∈ put acc r y):g.1 = r\/g.1 ∈ acc.map (·.1):=by
 unfold put at h
 split at h
 .obtain ⟨g',hg,e⟩:=List.mem_map.mp h
  split at e
  .subst e; exact .inr (List.mem_map.mpr ⟨g',hg,rfl⟩)
  .subst e; exact .inr (List.mem_map.mpr ⟨_,hg,rfl⟩)
 .rcases List.mem_append.mp h with h | h
  .exact .inr (List.mem_map.mpr ⟨_,h,rfl⟩)
  .rw [List.mem_singleton.mp h]; exact .inl rfl
theorem RW (gs:List (κ × Int)):∀ g ∈ ig gs,g.1 ∈ gs.map (·.1):=by
 suffices H:∀ (n:Nat) (gs:List (κ × Int)),gs.length = n->∀ g ∈ ig gs,g.1 ∈ gs.map (·.1) from H _ gs rfl
 intro n
 induction n with
 | zero =>
  intro gs h g hg
  rw [List.eq_nil_of_length_eq_zero h] at hg
  simp [ig] at hg
 | succ n ih =>
  intro gs h u hu
  obtain ⟨gs',g,rfl⟩ : ∃ gs' g,gs = gs' ++ [g]:=⟨gs.dropLast,gs.getLast (by intro e; rw [e] at h; cases h),(List.dropLast_concat_getLast _).symm⟩
  have hl:gs'.length = n:=by rw [au] at h; simpa using h
  rw [vO] at hu
  rw [bh]
  rcases Wr hu with e | e
  .rw [e]; exact aO _ (by simp)
  .obtain ⟨v,hv,e⟩:=List.mem_map.mp e
   rw [<- e]
   exact List.mem_append_left _ (ih gs' hl v hv)
noncomputable def ways (gs:List (κ × Int)) (S:Int):List (κ × Int × Int):=((ig gs).filter fun g=>decide (0 < g.2)).map fun g=>(g.1,lw g.2 S)
theorem RM {gs:List (κ × Int)} (h:∀ g ∈ gs,0 <= g.2) (S:Int):(ways gs S).length <= gs.length:=by
 unfold ways
 rw [ak]
 exact aK (List.length_filter_le _ _) (yp gs h).2.1
theorem QJ {gs:List (κ × Int)} {S:Int} {g:κ × Int × Int} (h:g ∈ ways gs S):g.1 ∈ gs.map (·.1):=by
 unfold ways at h
 obtain ⟨u,hu,rfl⟩:=List.mem_map.mp h
 exact RW gs u (List.mem_filter.mp hu).1
theorem O4 {r:κ} : ways [(r,(1:Int))] 1 = [(r,(1,1))]:=by
 simp [ways,ig,put,look,lw]
end
end Ac
namespace K20
open PySem PyProof.Rows L2
local macro_rules | `(tactic| walk_at "rd")=>`(tactic| simp only [o9,zX,Ka,QL,tOp,tUn,rU,KC,Ia,VR,tSl,sV,tC,Ls,rI0,rI,Wu,Qj,Vk,mU,sX,tCB,v9,ux,V9,tOr,Ra,Lw,Ml,X7,Wa,Aq,U4,dI,Vj,Lk,K5,Lj,Pj,Lb,TQ,Mf,FJ,JW,uq,DW,HN,O6,rEq,rNe,JC,wG,La,vN,Jf,Ez,Gf,QM,QG,Py,W9,Ends.unset,V3,UW,Fp,TV,KR,Vp,SQ,Kr,Qm,Qu,XH,tSM,Iv,Es,zj,Sy,Vi,KQ,Dq,Wh,w6,Df,Lf,Rh,rJoin,R8,Q8,tB,VP,Ud,Rw,wY,Ly,LK,Vn,Xf,Ph,Ma,Cq,QC,Kc,Rq,xO,VB,U9,xH,V.str.injEq,
 L2.start,List.replicate_succ,List.replicate_zero,Nat.reduceSub,Nat.reduceAdd,List.map_cons,List.map_nil,List.length_cons,List.length_nil,List.cons_append,List.nil_append,List.append_nil,List.getElem?_cons_zero,List.getElem?_cons_succ,List.set_cons_zero,List.set_cons_succ,List.set_nil,Option.some.injEq,exists_eq_left',exists_eq_left,exists_and_left,exists_and_right,exists_eq_right,exists_eq,exists_eq',and_assoc,V.int.injEq,V.ref.injEq,V.bl.injEq,V.ty.injEq,List.cons.injEq,HO.tup.injEq,HO.lst.injEq,and_true,true_and,reduceCtorEq,fV,eE,bD,decide_true,decide_false,Bool.not_true,Bool.not_false,if_true,if_false,ite_true,ite_false,Bool.false_eq_true,List.mem_cons,String.reduceEq,or_true,true_or,or_false,false_or,beq_self_eq_true,Bool.or_true,Bool.true_or,Bool.or_false,Bool.false_or,Bool.and_true,Bool.and_false,Bool.true_and,Bool.false_and,String.reduceBEq,Int.reduceToNat,Int.reducePow,Int.reduceMul,Int.reduceSub,Int.reduceAdd,Int.reduceNeg,Int.reduceLE,Int.reduceLT,Int.reduceEq,ne_eq,not_false_eq_true,not_true_eq_false,Int.cast_ofNat_Int])
open PySem.NumText
noncomputable abbrev V4:Stmt:=top 0
noncomputable abbrev Q0:List Str:=["k"]
noncomputable abbrev Qf:Str := "_wall"
noncomputable abbrev sZ:Stmt:=top 13
noncomputable abbrev fu:List Str:=["thing"]
noncomputable abbrev fj:Str := "is_whole"
noncomputable abbrev Ju:List Str:=["thing"]
theorem G7:bT Ju fu (bK sZ):=fsc
noncomputable abbrev vG:Stmt:=top 14
noncomputable abbrev iV:List Str:=["one", "other"]
noncomputable abbrev iZ:Str := "divisor"
noncomputable abbrev Ms:List Str:=["one", "other", "left", "right", "rest"]
theorem jR:bT Ms iV (bK vG):=fsc
noncomputable abbrev DK:Stmt:=top 18
noncomputable abbrev lY:List Str:=["top", "bottom"]
noncomputable abbrev mH:Str := "ratio"
noncomputable abbrev U7:List Str:=["top", "bottom", "common"]
theorem xZ:bT U7 lY (bK DK):=fsc
noncomputable abbrev sG:Stmt:=top 19
noncomputable abbrev gG:List Str:=["thing"]
noncomputable abbrev gw:Str := "is_ratio"
noncomputable abbrev Jx:List Str:=["thing", "top", "bottom"]
theorem qG:bT Jx gG (bK sG):=fsc
noncomputable abbrev Jz:Stmt:=top 20
noncomputable abbrev uK:List Str:=["one", "other"]
noncomputable abbrev uV:Str := "plus"
noncomputable abbrev Yi:List Str:=["one", "other"]
theorem T_:bT Yi uK (bK Jz):=fsc
noncomputable abbrev DN:Stmt:=top 21
noncomputable abbrev qz:List Str:=["one", "other"]
noncomputable abbrev pB:Str := "minus"
noncomputable abbrev VD:List Str:=["one", "other"]
theorem QV:bT VD qz (bK DN):=fsc
noncomputable abbrev Dg:Stmt:=top 22
noncomputable abbrev nM:List Str:=["one", "other"]
noncomputable abbrev nQ:Str := "under"
noncomputable abbrev Tz:List Str:=["one", "other"]
theorem Sv:bT Tz nM (bK Dg):=fsc
noncomputable abbrev xJ:Stmt:=top 24
noncomputable abbrev pQ:List Str:=["fractions"]
noncomputable abbrev pY:Str := "level"
noncomputable abbrev Mh:List Str:=["fractions", "bottom", "one"]
theorem uX:bT Mh pQ (bK xJ):=fsc
noncomputable abbrev Dy:Stmt:=top 25
noncomputable abbrev pA:List Str:=["fractions"]
noncomputable abbrev pH:Str := "total"
noncomputable abbrev U3:List Str:=["fractions", "leveled"]
theorem GP:bT U3 pA (bK Dy):=fsc
noncomputable abbrev lF:Stmt:=top 27
noncomputable abbrev iQ:List Str:=["hall"]
noncomputable abbrev iM:Str := "first_plan"
noncomputable abbrev n_:List Str:=["hall"]
theorem Af:bT n_ iQ (bK lF):=fsc
noncomputable abbrev Jv:Stmt:=top 28
noncomputable abbrev tZ:List Str:=["thing", "many"]
noncomputable abbrev tY:Str := "fits"
noncomputable abbrev W5:List Str:=["thing", "many"]
theorem VN:bT W5 tZ (bK Jv):=fsc
noncomputable abbrev oV:Stmt:=top 29
noncomputable abbrev gk:List Str:=["hall", "plan"]
noncomputable abbrev gb:Str := "check_plan"
noncomputable abbrev CP:List Str:=["hall", "plan", "room", "thing"]
theorem m5:bT CP gk (bK oV):=fsc
noncomputable abbrev rm:Stmt:=top 32
noncomputable abbrev jd:List Str:=["thing"]
noncomputable abbrev jc:Str := "is_word"
noncomputable abbrev vQ:List Str:=["thing"]
theorem Jb:bT vQ jd (bK rm):=fsc
noncomputable abbrev nZ:Stmt:=top 34
noncomputable abbrev fZ:List Str:=["name", "pay"]
noncomputable abbrev gj:Str := "check_head"
noncomputable abbrev Fv:List Str:=["name", "pay"]
theorem Ad:bT Fv fZ (bK nZ):=fsc
noncomputable abbrev ju:Stmt:=top 35
noncomputable abbrev cV:List Str:=["room"]
noncomputable abbrev cT:Str := "check_room_name"
noncomputable abbrev vo:List Str:=["room"]
theorem sU:bT vo cV (bK ju):=fsc
noncomputable abbrev mD:Stmt:=top 36
noncomputable abbrev dX:List Str:=["chance"]
noncomputable abbrev dY:Str := "check_chance"
noncomputable abbrev zZ:List Str:=["chance"]
theorem wX:bT zZ dX (bK mD):=fsc
noncomputable abbrev j7:Stmt:=top 37
noncomputable abbrev gH:List Str:=["pairs"]
noncomputable abbrev gq:Str := "check_pairs"
noncomputable abbrev m_:List Str:=["pairs", "room", "chance"]
theorem lZ:bT m_ gH (bK j7):=fsc
noncomputable abbrev jX:Stmt:=top 38
noncomputable abbrev gM:List Str:=["pairs"]
noncomputable abbrev gJ:Str := "joined_ways"
noncomputable abbrev rR:List Str:=["pairs", "chances", "room", "chance"]
theorem jG:bT rR gM (bK jX):=fsc
noncomputable abbrev m7:Stmt:=top 45
noncomputable abbrev gC:List Str:=["share"]
noncomputable abbrev gK:Str := "check_share"
noncomputable abbrev Ab:List Str:=["share"]
theorem yN:bT Ab gC (bK m7):=fsc
noncomputable abbrev oA:Stmt:=top 46
noncomputable abbrev iH:List Str:=["rooms"]
noncomputable abbrev iK:Str := "numbers_of"
noncomputable abbrev El:List Str:=["rooms", "numbers", "room", "name"]
theorem j4:bT El iH (bK oA):=fsc
noncomputable abbrev k_:Stmt:=top 47
noncomputable abbrev eV:List Str:=["door", "numbers"]
noncomputable abbrev eX:Str := "numbered_ways"
noncomputable abbrev wQ:List Str:=["door", "numbers", "numbered", "name", "chance"]
theorem iu:bT wQ eV (bK k_):=fsc
noncomputable abbrev pq:Stmt:=top 48
noncomputable abbrev jF:List Str:=["doors", "numbers"]
noncomputable abbrev jr:Str := "offers_of"
noncomputable abbrev GQ:List Str:=["doors", "numbers", "taken", "told", "door"]
theorem lq:bT GQ jF (bK pq):=fsc
noncomputable abbrev JK:Stmt:=top 51
noncomputable abbrev rE:List Str:=["_law_script", "_law_k"]
noncomputable abbrev q_:Str := "_law_cell"
noncomputable abbrev Yn:List Str:=["_law_script", "_law_k"]
theorem Uo:bT Yn rE (bK JK):=fsc
noncomputable abbrev xM:Stmt:=top 52
noncomputable abbrev eY:List Str:=["_law_cell_here", "_law_many"]
noncomputable abbrev eU:Str := "_law_stream"
noncomputable abbrev Rj:List Str:=["_law_cell_here", "_law_many", "_law_found", "_law_number", "_law_digits", "_law_k"]
theorem jf:bT Rj eY (bK xM):=fsc
noncomputable abbrev QB:Stmt:=top 53
noncomputable abbrev xY:List Str:=["_law_one", "_law_other"]
noncomputable abbrev yQ:Str := "_law_gcd"
noncomputable abbrev Zw:List Str:=["_law_one", "_law_other", "_law_low", "_law_high"]
theorem Eb:bT Zw xY (bK QB):=fsc
noncomputable abbrev zR:Stmt:=top 54
noncomputable abbrev jT:List Str:=["_law_top", "_law_bottom"]
noncomputable abbrev jU:Str := "_law_ratio"
noncomputable abbrev Ss:List Str:=["_law_top", "_law_bottom", "_law_common"]
theorem BJ:bT Ss jT (bK zR):=fsc
noncomputable abbrev qZ:Stmt:=top 55
noncomputable abbrev qT:List Str:=["_law_cell_here", "_law_many"]
noncomputable abbrev qF:Str := "_law_names"
noncomputable abbrev oW:List Str:=["_law_cell_here", "_law_many", "_law_letters", "_law_xs", "_law_base", "_law_at", "_law_step"]
theorem nU:bT oW qT (bK qZ):=fsc
noncomputable abbrev Eo:Stmt:=top 56
noncomputable abbrev qe:List Str:=["_law_cell_here"]
noncomputable abbrev pN:Str := "_law_share"
noncomputable abbrev Uq:List Str:=["_law_cell_here", "_law_xs", "_law_bottom"]
theorem yG:bT Uq qe (bK Eo):=fsc
noncomputable abbrev OD:Stmt:=top 57
noncomputable abbrev zO:List Str:=["_law_cell_here", "_law_x", "_law_y"]
noncomputable abbrev xP:Str := "_law_pay"
noncomputable abbrev aaX:List Str:=["_law_cell_here", "_law_x", "_law_y"]
theorem Yj:bT aaX zO (bK OD):=fsc
noncomputable abbrev rW:Stmt:=top 58
noncomputable abbrev tU:List Str:=["_law_cell_here", "_law_many"]
noncomputable abbrev ug:Str := "_law_door"
noncomputable abbrev oE:List Str:=["_law_cell_here", "_law_many", "_law_xs", "_law_rooms", "_law_sort", "_law_pairs", "_law_bottom", "_law_part", "_law_weights"]
theorem iU:bT oE tU (bK rW):=fsc
noncomputable abbrev xg:Stmt:=top 59
noncomputable abbrev pZ:List Str:=["_law_script", "_law_at", "_law_many", "_law_most"]
noncomputable abbrev ql:Str := "_law_doors"
noncomputable abbrev Fo:List Str:=["_law_script", "_law_at", "_law_many", "_law_most", "_law_rooms", "_law_first", "_law_cells", "_law_cell_here", "_law_room", "_law_door_here"]
theorem lX:bT Fo pZ (bK xg):=fsc
noncomputable abbrev uI:Stmt:=top 60
noncomputable abbrev qM:List Str:=["_law_title", "_law_door_here", "_law_names_here"]
noncomputable abbrev pU:Str := "_law_built"
noncomputable abbrev vf:List Str:=["_law_title", "_law_door_here", "_law_names_here", "_law_told", "_law_sort", "_law_pay_here", "_law_pairs"]
theorem pP:bT vf qM (bK uI):=fsc
noncomputable abbrev Ds:Stmt:=top 61
noncomputable abbrev tQ:List Str:=["_law_cell_here", "_law_share_here", "_law_rooms"]
noncomputable abbrev tD:Str := "_law_hall"
noncomputable abbrev Kd:List Str:=["_law_cell_here", "_law_share_here", "_law_rooms", "_law_names_here", "_law_found", "_law_k", "_law_titles"]
theorem tH:bT Kd tQ (bK Ds):=fsc
noncomputable abbrev zM:Stmt:=top 62
noncomputable abbrev nR:List Str:=["_law_cell_here", "_law_rooms"]
noncomputable abbrev nY:Str := "_law_chosen"
noncomputable abbrev RK:List Str:=["_law_cell_here", "_law_rooms", "_law_xs", "_law_found", "_law_k"]
theorem rD:bT RK nR (bK zM):=fsc
noncomputable abbrev Jh:Stmt:=top 63
noncomputable abbrev uH:List Str:=["_law_cell_here"]
noncomputable abbrev uQ:Str := "_law_size"
noncomputable abbrev Xn:List Str:=["_law_cell_here", "_law_xs"]
theorem Kg:bT Xn uH (bK Jh):=fsc
noncomputable abbrev vR:Stmt:=top 64
noncomputable abbrev mF:List Str:=["_law_found", "_law_due"]
noncomputable abbrev lV:Str := "_law_is_plan"
noncomputable abbrev M5:List Str:=["_law_found", "_law_due", "_law_k"]
theorem zp:bT M5 mF (bK vR):=fsc
noncomputable abbrev R9:Stmt:=top 65
noncomputable abbrev yr:List Str:=["_law_cell_here", "_law_many"]
noncomputable abbrev zm:Str := "_law_odd"
noncomputable abbrev YC:List Str:=["_law_cell_here", "_law_many"]
theorem XM:bT YC yr (bK R9):=fsc
noncomputable abbrev yc:Stmt:=top 66
noncomputable abbrev nH:List Str:=["_law_cell_here", "_law_plan", "_law_rooms"]
noncomputable abbrev nG:Str := "_law_spoilt"
noncomputable abbrev QT:List Str:=["_law_cell_here", "_law_plan", "_law_rooms", "_law_xs", "_law_at", "_law_later", "_law_found", "_law_some"]
theorem jV:bT QT nH (bK yc):=fsc
noncomputable abbrev wu:Stmt:=top 67
noncomputable abbrev lR:List Str:=["_law_hall_here", "_law_plan"]
noncomputable abbrev mz:Str := "_law_refused"
noncomputable abbrev Mt:List Str:=["_law_hall_here", "_law_plan", "e", "_law_others"]
theorem oG:bT Mt lR (bK wu):=fsc
noncomputable abbrev Ht:Stmt:=top 68
noncomputable abbrev Jg:List Str:=["_law_script"]
noncomputable abbrev Ef:Str := "law"
noncomputable abbrev Ov:List Str:=["_law_script", "_law_rooms", "_law_hall_here", "_law_first", "_law_held", "_law_plan", "_law_handed", "_law_at", "_law_spoilt_here", "_law_word", "_law_room"]
theorem lQ:bT Ov Jg (bK Ht):=fsc
noncomputable abbrev qO:Stmt:=dj 39 0
noncomputable abbrev iy:List Str:=["self", "name", "pay"]
noncomputable abbrev tK:Str := "__init__"
noncomputable abbrev uz:Str := "Door.__init__"
noncomputable abbrev Hw:List Str:=["self", "name", "pay"]
theorem Dw:bT Hw iy (bK qO):=fsc
noncomputable abbrev qQ:Stmt:=dj 39 1
noncomputable abbrev jq:List Str:=["self"]
noncomputable abbrev vD:Str := "ways"
noncomputable abbrev uP:Str := "Door.ways"
noncomputable abbrev G3:List Str:=["self"]
theorem Di:bT G3 jq (bK qQ):=fsc
noncomputable abbrev vU:Stmt:=dj 39 2
noncomputable abbrev uE:List Str:=["self", "room"]
noncomputable abbrev vm:Str := "chance_to"
noncomputable abbrev uJ:Str := "Door.chance_to"
noncomputable abbrev qx:Stmt:=dj 40 0
noncomputable abbrev jx:List Str:=["self", "name", "pay", "room"]
noncomputable abbrev tV:Str := "__init__"
noncomputable abbrev vB:Str := "Sure.__init__"
noncomputable abbrev Hy:List Str:=["self", "name", "pay", "room"]
theorem Gh:bT Hy jx (bK qx):=fsc
noncomputable abbrev oR:Stmt:=dj 41 0
noncomputable abbrev d_:List Str:=["self", "name", "pay", "pairs"]
noncomputable abbrev rM:Str := "__init__"
noncomputable abbrev rF:Str := "Mixed.__init__"
noncomputable abbrev Cu:List Str:=["self", "name", "pay", "pairs"]
theorem Ak:bT Cu d_ (bK oR):=fsc
noncomputable abbrev qg:Stmt:=dj 42 0
noncomputable abbrev jt:List Str:=["self", "name", "pay", "chance", "room", "other"]
noncomputable abbrev ur:Str := "__init__"
noncomputable abbrev um:Str := "Toss.__init__"
noncomputable abbrev Ie:List Str:=["self", "name", "pay", "chance", "room", "other"]
theorem Fe:bT Ie jt (bK qg):=fsc
noncomputable abbrev mR:Stmt:=dj 43 0
noncomputable abbrev jK:List Str:=["self", "name", "pay", "rooms"]
noncomputable abbrev uR:Str := "__init__"
noncomputable abbrev tW:Str := "Even.__init__"
noncomputable abbrev qH:List Str:=["self", "name", "pay", "rooms"]
theorem Ey:bT qH jK (bK mR):=fsc
noncomputable abbrev mW:Stmt:=dj 49 0
noncomputable abbrev jl:List Str:=["self", "share", "rooms"]
noncomputable abbrev uW:Str := "__init__"
noncomputable abbrev uG:Str := "Hall.__init__"
noncomputable abbrev qm:List Str:=["self", "share", "rooms"]
theorem Ej:bT qm jl (bK mW):=fsc
noncomputable abbrev pX:Stmt:=dj 49 1
noncomputable abbrev fP:List Str:=["self"]
noncomputable abbrev uD:Str := "size"
noncomputable abbrev uf:Str := "Hall.size"
noncomputable abbrev Gy:List Str:=["self"]
theorem CN:bT Gy fP (bK pX):=fsc
noncomputable abbrev Dt:Stmt:=dj 49 2
noncomputable abbrev z_:List Str:=["self"]
noncomputable abbrev Ae:Str := "names"
noncomputable abbrev Ah:Str := "Hall.names"
noncomputable abbrev EY:Stmt:=dj 49 3
noncomputable abbrev Ai:List Str:=["self", "name"]
noncomputable abbrev z8:Str := "place"
noncomputable abbrev Am:Str := "Hall.place"
noncomputable abbrev jA:Stmt:=dj 49 4
noncomputable abbrev dO:List Str:=["self", "room"]
noncomputable abbrev mG:Str := "check_room"
noncomputable abbrev mq:Str := "Hall.check_room"
noncomputable abbrev tG:List Str:=["self", "room"]
theorem sy:bT tG dO (bK jA):=fsc
noncomputable abbrev yF:Stmt:=dj 49 5
noncomputable abbrev wL:List Str:=["self", "room", "name"]
noncomputable abbrev wK:Str := "door_at"
noncomputable abbrev wI:Str := "Hall.door_at"
noncomputable abbrev j6:Stmt:=dj 49 6
noncomputable abbrev eO:List Str:=["self", "room"]
noncomputable abbrev pC:Str := "offers"
noncomputable abbrev qL:Str := "Hall.offers"
noncomputable abbrev nj:List Str:=["self", "room"]
theorem yU:bT nj eO (bK j6):=fsc
noncomputable abbrev m6:Stmt:=dj 11 0
noncomputable abbrev gF:List Str:=["self", "room"]
noncomputable abbrev pI:Str := "__init__"
noncomputable abbrev qt:Str := "NoPlan.__init__"
noncomputable abbrev Aj:List Str:=["self", "room"]
theorem za:bT Aj gF (bK m6):=fsc
structure Adr where
 HallError:Addr
 NoNumber:Addr
 NoName:Addr
 NoChance:Addr
 NoShare:Addr
 NoText:Addr
 NoRow:Addr
 NoRoom:Addr
 NoDoor:Addr
 NoPlan:Addr
 Door:Addr
 Sure:Addr
 Mixed:Addr
 Toss:Addr
 Even:Addr
 Hall:Addr
 NOUGHT:Addr
 ONE:Addr
 Door_init:Addr
 Door_ways:Addr
 Door_chance_to:Addr
 Sure_init:Addr
 Mixed_init:Addr
 Toss_init:Addr
 Even_init:Addr
 Hall_init:Addr
 Hall_size:Addr
 Hall_names:Addr
 Hall_place:Addr
 Hall_check_room:Addr
 Hall_door_at:Addr
 Hall_offers:Addr
 NoPlan_init:Addr
structure Txt (K:Frag) (mg:Str->Option Value) (D:Adr):Prop where
 SX:mg "Door" = some (.ref D.Door)
 Xi:mg "Even" = some (.ref D.Even)
 Xo:mg "Hall" = some (.ref D.Hall)
 wF:mg "HallError" = some (.ref D.HallError)
 Gd:mg "Mixed" = some (.ref D.Mixed)
 vp:mg "NOUGHT" = some (.ref D.NOUGHT)
 sH:mg "NoChance" = some (.ref D.NoChance)
 S_:mg "NoDoor" = some (.ref D.NoDoor)
 zY:mg "NoName" = some (.ref D.NoName)
 zQ:mg "NoNumber" = some (.ref D.NoNumber)
 yh:mg "NoPlan" = some (.ref D.NoPlan)
 Ry:mg "NoRoom" = some (.ref D.NoRoom)
 Vt:mg "NoRow" = some (.ref D.NoRow)
 N6:mg "NoShare" = some (.ref D.NoShare)
 Rp:mg "NoText" = some (.ref D.NoText)
 Gp:mg "ONE" = some (.ref D.ONE)
 Yd:mg "Sure" = some (.ref D.Sure)
 Yh:mg "Toss" = some (.ref D.Toss)
 yO:Cr K D.NoChance
 G6:Cr K D.NoName
 Io:Cr K D.NoNumber
 Yx:Cr K D.NoShare
 HJ:PySem.W.mroIn K D.HallError (.type "BaseException") = some true
 GD:PySem.W.typeIn K (.ref D.HallError) = some (.type "type")
 Yt:PySem.W.mroIn K D.NoNumber (.ref D.HallError) = some true
 yt:∃ u,mg "LONGEST_WORD" = some u/\RelV (.int 8) u
 rB:∀ H,SqT K H D.NOUGHT [.int 0,.int 1]
 yw:∀ H,SqT K H D.ONE [.int 1,.int 1]
 abY:Mk K D.Door D.Door_init
 Rr:Cls K D.Door
 ab2:Hu K D.Door
 Ld:Meth K D.Door "chance_to" D.Door_chance_to
 Cz:Meth K D.Door "ways" D.Door_ways
 Ba:b_ K D.Door "leads"
 Fb:b_ K D.Door "name"
 Oq:b_ K D.Door "numbers"
 Og:b_ K D.Door "offered"
 Gk:b_ K D.Door "pay"
 Tf:b_ K D.Door "share"
 Ws:Mk K D.Sure D.Sure_init
 Ij:Cls K D.Sure
 abX:Hu K D.Sure
 Lp:Meth K D.Sure "chance_to" D.Door_chance_to
 FW:Meth K D.Sure "ways" D.Door_ways
 rP:b_ K D.Sure "leads"
 Ge:b_ K D.Sure "name"
 Oh:b_ K D.Sure "numbers"
 Oi:b_ K D.Sure "offered"
 G_:b_ K D.Sure "pay"
 Tq:b_ K D.Sure "share"
 O9:Mk K D.Mixed D.Mixed_init
 N8:Cls K D.Mixed
 Zq:Hu K D.Mixed
 Jr:Meth K D.Mixed "chance_to" D.Door_chance_to
 Az:Meth K D.Mixed "ways" D.Door_ways
 zT:b_ K D.Mixed "leads"
 Bg:b_ K D.Mixed "name"
 Nf:b_ K D.Mixed "numbers"
 MJ:b_ K D.Mixed "offered"
 Dv:b_ K D.Mixed "pay"
 Pk:b_ K D.Mixed "share"
 Uh:Mk K D.Toss D.Toss_init
 Px:Cls K D.Toss
 abZ:Hu K D.Toss
 KZ:Meth K D.Toss "chance_to" D.Door_chance_to
 Et:Meth K D.Toss "ways" D.Door_ways
 Ag:b_ K D.Toss "leads"
 DQ:b_ K D.Toss "name"
 Oo:b_ K D.Toss "numbers"
 Om:b_ K D.Toss "offered"
 Gq:b_ K D.Toss "pay"
 Ti:b_ K D.Toss "share"
 VG:Mk K D.Even D.Even_init
 Qt:Cls K D.Even
 ab1:Hu K D.Even
 Kw:Meth K D.Even "chance_to" D.Door_chance_to
 CZ:Meth K D.Even "ways" D.Door_ways
 Ar:b_ K D.Even "leads"
 Dc:b_ K D.Even "name"
 Ot:b_ K D.Even "numbers"
 Oj:b_ K D.Even "offered"
 GF:b_ K D.Even "pay"
 Te:b_ K D.Even "share"
 V1:Mk K D.Hall D.Hall_init
 tR:Cls K D.Hall
 ab0:Hu K D.Hall
 sW:Meth K D.Hall "check_room" D.Hall_check_room
 Ol:Meth K D.Hall "door_at" D.Hall_door_at
 Tj:Meth K D.Hall "names" D.Hall_names
 xX:Meth K D.Hall "offers" D.Hall_offers
 Tr:Meth K D.Hall "place" D.Hall_place
 DX:Meth K D.Hall "size" D.Hall_size
 Bj:b_ K D.Hall "leads"
 Fi:b_ K D.Hall "name"
 kE:b_ K D.Hall "numbers"
 oZ:b_ K D.Hall "offered"
 Hz:b_ K D.Hall "pay"
 Bh:b_ K D.Hall "share"
 xi_NoPlan:GR K D.NoPlan D.HallError D.NoPlan_init
 xs_NoPlan:PL K D.NoPlan
 xk_NoPlan:wM K D.NoPlan
 hd_NoPlan:PySem.W.hasDictIn K D.NoPlan = true
 sm_NoPlan:PySem.W.mroIn K D.NoPlan (.ref D.HallError) = some true
 pF:b_ K D.NoPlan "room"
 ki_NoPlan_NoChance:PySem.W.kitOne K (.ref D.NoPlan) (.ref D.NoChance) = some false
 ki_NoPlan_NoDoor:PySem.W.kitOne K (.ref D.NoPlan) (.ref D.NoDoor) = some false
 ki_NoPlan_NoName:PySem.W.kitOne K (.ref D.NoPlan) (.ref D.NoName) = some false
 ki_NoPlan_NoNumber:PySem.W.kitOne K (.ref D.NoPlan) (.ref D.NoNumber) = some false
 ki_NoPlan_NoPlan:PySem.W.kitOne K (.ref D.NoPlan) (.ref D.NoPlan) = some true
 ki_NoPlan_NoRoom:PySem.W.kitOne K (.ref D.NoPlan) (.ref D.NoRoom) = some false
 ki_NoPlan_NoRow:PySem.W.kitOne K (.ref D.NoPlan) (.ref D.NoRow) = some false
 ki_NoPlan_NoShare:PySem.W.kitOne K (.ref D.NoPlan) (.ref D.NoShare) = some false
 ki_NoPlan_NoText:PySem.W.kitOne K (.ref D.NoPlan) (.ref D.NoText) = some false
 ki_NoPlan_ValueError:PySem.W.kitOne K (.ref D.NoPlan) (.type "ValueError") = some true
 ib_HallError:O8 K D.HallError
 uF:jL K D.Door "__init__" D.Door_init
 Er:oY K tK uz qO iy D.Door_init
 Ux:jL K D.Door "ways" D.Door_ways
 Cy:oY K vD uP qQ jq D.Door_ways
 K_:jL K D.Door "chance_to" D.Door_chance_to
 Ko:oY K vm uJ vU uE D.Door_chance_to
 VF:jL K D.Sure "__init__" D.Sure_init
 Gg:oY K tV vB qx jx D.Sure_init
 rQ:jL K D.Mixed "__init__" D.Mixed_init
 Bf:oY K rM rF oR d_ D.Mixed_init
 Vm:jL K D.Toss "__init__" D.Toss_init
 Fw:oY K ur um qg jt D.Toss_init
 Vv:jL K D.Even "__init__" D.Even_init
 D_:oY K uR tW mR jK D.Even_init
 V8:jL K D.Hall "__init__" D.Hall_init
 Em:oY K uW uG mW jl D.Hall_init
 V6:jL K D.Hall "size" D.Hall_size
 Gj:oY K uD uf pX fP D.Hall_size
 Td:jL K D.Hall "names" D.Hall_names
 Tp:oY K Ae Ah Dt z_ D.Hall_names
 Tn:jL K D.Hall "place" D.Hall_place
 Tg:oY K z8 Am EY Ai D.Hall_place
 I8:jL K D.Hall "check_room" D.Hall_check_room
 sO:oY K mG mq jA dO D.Hall_check_room
 Od:jL K D.Hall "door_at" D.Hall_door_at
 Oe:oY K wK wI yF wL D.Hall_door_at
 Qs:jL K D.Hall "offers" D.Hall_offers
 yE:oY K pC qL j6 eO D.Hall_offers
 yS:oY K pI qt m6 gF D.NoPlan_init
 Du:mg "ValueError" = none
 H_:mg "abs" = none
 Zr:mg "all" = none
 JQ:mg "bool" = none
 HW:mg "enumerate" = none
 L_:mg "int" = none
 cu:mg "isinstance" = none
 dR:mg "len" = none
 vM:mg "list" = none
 lE:mg "range" = none
 O2:mg "sorted" = none
 Zm:mg "str" = none
 WW:mg "sum" = none
 Kh:mg "tuple" = none
 abU:mg "zip" = none
 ab3:dM K mg Qf V4 Q0
 Jk:dM K mg fj sZ fu
 Ng:dM K mg iZ vG iV
 Tv:dM K mg mH DK lY
 J1:dM K mg gw sG gG
 Yp:dM K mg uV Jz uK
 U8:dM K mg pB DN qz
 Wm:dM K mg nQ Dg nM
 Vg:dM K mg pY xJ pQ
 f_total:dM K mg pH Dy pA
 Ew:dM K mg iM lF iQ
 Xq:dM K mg tY Jv tZ
 DR:dM K mg gb oV gk
 N7:dM K mg jc rm jd
 FZ:dM K mg gj nZ fZ
 uo:dM K mg cT ju cV
 zf:dM K mg dY mD dX
 Aw:dM K mg gq j7 gH
 Ax:dM K mg gJ jX gM
 Av:dM K mg gK m7 gC
 DP:dM K mg iK oA iH
 wR:dM K mg eX k_ eV
 Hv:dM K mg jr pq jF
 X_:dM K mg q_ JK rE
 P_:dM K mg eU xM eY
 aaq:dM K mg yQ QB xY
 RQ:dM K mg jU zR jT
 Vw:dM K mg qF qZ qT
 Wb:dM K mg pN Eo qe
 Zo:dM K mg xP OD zO
 Xu:dM K mg ug rW tU
 Wn:dM K mg ql xg pZ
 Wj:dM K mg pU uI qM
 Xw:dM K mg tD Ds tQ
 Rt:dM K mg nY zM nR
 Yg:dM K mg uQ Jh uH
 Mx:dM K mg lV vR mF
 abx:dM K mg zm R9 yr
 Pn:dM K mg nG yc nH
 Nu:dM K mg mz wu lR
noncomputable def Fam (D:Adr) (C:Addr):Prop:=C = D.Door\/C = D.Sure\/C = D.Mixed\/C = D.Toss\/C = D.Even\/C = D.Hall
theorem Txt.cl {K:Frag} {mg:Str->Option Value} {D:Adr} (T:Txt K mg D):∀ C,Fam D C->Cls K C:=by
 rintro C (rfl | rfl | rfl | rfl | rfl | rfl)
 .exact T.Rr
 .exact T.Ij
 .exact T.N8
 .exact T.Px
 .exact T.Qt
 .exact T.tR
theorem Txt.zF {K:Frag} {mg:Str->Option Value} {D:Adr} (T:Txt K mg D):∀ C,Fam D C->b_ K C "leads" := by
 rintro C (rfl | rfl | rfl | rfl | rfl | rfl)
 .exact T.Ba
 .exact T.rP
 .exact T.zT
 .exact T.Ag
 .exact T.Ar
 .exact T.Bj
theorem Txt.xr {K:Frag} {mg:Str->Option Value} {D:Adr} (T:Txt K mg D):∀ C,Fam D C->b_ K C "name" := by
 rintro C (rfl | rfl | rfl | rfl | rfl | rfl)
 .exact T.Fb
 .exact T.Ge
 .exact T.Bg
 .exact T.DQ
 .exact T.Dc
 .exact T.Fi
theorem Txt.RT {K:Frag} {mg:Str->Option Value} {D:Adr} (T:Txt K mg D):∀ C,Fam D C->b_ K C "pay" := by
 rintro C (rfl | rfl | rfl | rfl | rfl | rfl)
 .exact T.Gk
 .exact T.G_
 .exact T.Dv
 .exact T.Gq
 .exact T.GF
 .exact T.Hz
noncomputable def cW (D:Adr) (C:Addr):Prop:=C = D.Hall
theorem cW.fam {D:Adr} {C:Addr} (h:cW D C):Fam D C:=by
 unfold cW at h
 unfold Fam
 simp [h]
theorem Txt.rZ {K:Frag} {mg:Str->Option Value} {D:Adr} (T:Txt K mg D):∀ C,cW D C->Meth K C "check_room" D.Hall_check_room:=by
 rintro C (rfl)
 .exact T.sW
noncomputable def c7 (D:Adr) (C:Addr):Prop:=C = D.Hall
theorem c7.fam {D:Adr} {C:Addr} (h:c7 D C):Fam D C:=by
 unfold c7 at h
 unfold Fam
 simp [h]
theorem Txt.pR {K:Frag} {mg:Str->Option Value} {D:Adr} (T:Txt K mg D):∀ C,c7 D C->Meth K C "offers" D.Hall_offers:=by
 rintro C (rfl)
 .exact T.xX
noncomputable def cZ (D:Adr) (C:Addr):Prop:=C = D.Hall
theorem cZ.fam {D:Adr} {C:Addr} (h:cZ D C):Fam D C:=by
 unfold cZ at h
 unfold Fam
 simp [h]
theorem Txt.oU {K:Frag} {mg:Str->Option Value} {D:Adr} (T:Txt K mg D):∀ C,cZ D C->Meth K C "size" D.Hall_size:=by
 rintro C (rfl)
 .exact T.DX
noncomputable def dF (D:Adr) (C:Addr):Prop:=C = D.Door\/C = D.Sure\/C = D.Mixed\/C = D.Toss\/C = D.Even
theorem dF.fam {D:Adr} {C:Addr} (h:dF D C):Fam D C:=by
 unfold dF at h
 unfold Fam
 rcases h with h | h | h | h | h <;> simp [h]
theorem Txt.CV {K:Frag} {mg:Str->Option Value} {D:Adr} (T:Txt K mg D):∀ C,dF D C->Meth K C "ways" D.Door_ways:=by
 rintro C (rfl | rfl | rfl | rfl | rfl)
 .exact T.Cz
 .exact T.FW
 .exact T.Az
 .exact T.Et
 .exact T.CZ
section
variable {P:Program} {w:World} {K:Frag} {mg:Str->Option Value} {base:Heap} {D:Adr}
theorem boot_abs:bootBuiltins "abs" = some (.builtin "abs"):=by decide +kernel
theorem K7:1 <= sizeLine:=by decide
theorem dh:2 <= sizeLine:=by decide
theorem V0 {n:Int} (h0:0 <= n) (h1:n <= 1000000):Z5 10 n:=⟨h0,h1,by decide⟩
theorem W8 {n:Nat} (h:n <= 64):n <= sizeLine:=aK h (by decide)
theorem Uc (ns:List Int) (k:Nat):atI (mO (ns.map V.int) (some (k:Int)) (some ((k:Int) + 1)) ++ [V.int 0]) 0 = some (V.int (ns.getD k 0)):=by
 unfold mO
 rw [show ((k:Int) + 1) = ((k + 1:Nat):Int) by omega,HT.mQ,HT.mQ,ak]
 refine bR (j:=0) ?_
 by_cases h:k < ns.length
 .rw [Nat.min_eq_left (Nat.le_of_lt h),Nat.min_eq_left (Nat.succ_le_of_lt h)]
  rw [show k + 1 - k = 1 by omega]
  rw [List.drop_eq_getElem_cons (by rw [ak]; exact h)]
  simp [List.getD,h]
 .have e1:min k ns.length = ns.length:=by omega
  have e2:min (k + 1) ns.length = ns.length:=by omega
  rw [e1,e2]
  simp [List.getD,List.getElem?_eq_none (Nat.le_of_not_lt h)]
theorem bY {t u:TS} {D:Ends} {σ:L2.St} {H:Hp} (h:∀ u',u' = u->o9 t u' D σ H):o9 t u D σ H:=h u rfl
theorem Br {a b c d:TS} {D:Ends} {σ:L2.St} {H:Hp} (h:∀ d',d' = d->o9 a (o9 b (o9 c d')) D σ H):o9 a (o9 b (o9 c d)) D σ H:=h d rfl
theorem yP {α:Type} : ∀ {l:List α},l.length = 2->∃ a b,l = [a,b]
 | [a,b],_=>⟨a,b,rfl⟩
theorem su {te:TE} {D:Ends} {σ:L2.St} {H:Hp} (h:te σ H D.rt):Ka te D σ H:=h
theorem dW {t u:TS} {D:Ends} {σ:L2.St} {H:Hp} (h:t { D with nx:=u D } σ H):o9 t u D σ H:=h
theorem d8 {te:TE} {g:TG} {u:TS} {D:Ends} {σ:L2.St} {H:Hp} (h:te σ H fun x H1=>g x σ H1 (u D)):o9 (Aq te g) u D σ H:=h
theorem IK {c:TT} {t u:TS} {D:Ends} {σ:L2.St} {H:Hp} (h:c σ H fun b H1=>if b = true then t D σ H1 else u D σ H1):zX c t u D σ H:=h
noncomputable def jj:Sp:=fun vs H Q _=>∃ x t,vs = [x]/\tyS H x = some t/\Q (.bl (t == "int")) H
theorem Gx (F:Fun K fj fj sZ f fd) (T:Txt K mg D):cB P w K mg base CX0 1 f fd fu jj:=by
 refine F.ok G7 (fun vs H Q E h=>?_) (fun cdv A outer s H vs Q E hr h=>?_)
 .obtain ⟨x,t,rfl,_⟩:=h
  rfl
 .obtain ⟨x,t,rfl,ht,q⟩:=h
  refine ⟨_,(bI (bU (JL (bO jw (by rfl) T.cu boot_isinstance (bA (pv 0) (bA (j9 (v:=.ty "int") (by rfl) T.L_ boot_int rfl) bC))) (JM (XR (bO jw (by rfl) T.cu boot_isinstance (bA (pv 0) (bA (j9 (v:=.ty "bool") (by rfl) T.JQ boot_bool rfl) bC)))))))),?_⟩
  walk_at "rd"
  rw [ht]
  walk_at "rd"
  have hm:=O1 ht
  simp only [List.mem_cons,List.not_mem_nil,or_false] at hm
  rcases hm with rfl | rfl | rfl | rfl | rfl | rfl | rfl <;> simpa using q
noncomputable def Ep:Sp:=fun vs H Q _=>∃ (a b:Int),vs = [.int a,.int b]/\Q (.int (Int.gcd a b:Nat)) H
theorem Yr (F:Fun K yQ yQ QB f fd) (T:Txt K mg D):cB P w K mg base CX0 1 f fd xY Ep:=by
 refine cB.clean (sp:=fun vs H Q _=>∃ (a b:Int),vs = [.int a,.int b]/\∀ H',Same H H'->Q (.int (Int.gcd a b:Nat)) H')
  (F.ok Eb (fun vs H Q E h=>?_) (fun cdv A outer s H vs Q E hr h=>?_)) fun vs H Q E ⟨a,b,h1,h4⟩=>⟨a,b,h1,fun H' S=>⟨S,h4⟩⟩
 .obtain ⟨a,b,rfl,_⟩:=h
  rfl
 .obtain ⟨a,b,rfl,q⟩:=h
  refine ⟨_,(bH (qj (bO M4 (by rfl) T.O2 boot_sorted (bA (iD (bA (bO qC (by rfl) T.H_ boot_abs (bA (pv 0) bC)) (bA (bO qC (by rfl) T.H_ boot_abs (bA (pv 1) bC)) bC))) bC)) (Tw (n:=2) rfl (cC (cD (i:=2) Eb.nd rfl (Or.inl rfl)) (cC (cD (i:=3) Eb.nd rfl (Or.inl rfl)) gQ))))
   (bH (HD PassesOwn.never (bZ BK (pv 2) bF (cj _))
    (bI (XJ (i:=2) (j:=3) rfl Eb.nd rfl rfl (by decide) rfl rfl (bA (bN g_ (pv 3) (pv 2)) (bA (pv 2) bC)) rfl)))
   (bI (bU (pv 3))))),?_⟩
  walk_at "rd"
  refine ⟨dh,fun p hp=>⟨[(a.natAbs:Int),(b.natAbs:Int)],?_,(by simp),fun ms p1 hp1 hm hs=>?_⟩⟩
  .rw [FT,FT]; rfl
  have S:Same H (upd (upd H p (HO.lst [V.int (if a < 0 then -a else a),V.int (if b < 0 then -b else b)])) p1 (HO.lst (ms.map V.int))):=(Same.upd hp).trans (Same.upd hp1)
  generalize upd (upd H p (HO.lst [V.int (if a < 0 then -a else a),V.int (if b < 0 then -b else b)])) p1 (HO.lst (ms.map V.int)) = H1 at S
  have hk:∃ l k:Nat,ms = [(l:Int),(k:Int)]/\Nat.gcd l k = Int.gcd a b:=by
   rcases SJ hm with rfl | rfl
   .exact ⟨_,_,rfl,rfl⟩
   .exact ⟨_,_,rfl,Nat.gcd_comm _ _⟩
  obtain ⟨l,k,rfl,hg⟩:=hk
  walk_at "rd"
  refine Gr (fun σ H2=>∃ l k:Nat,σ = [some (.int a),some (.int b),some (.int l),some (.int k)]/\H2 = H1/\Nat.gcd l k = Int.gcd a b)
   (fun σ _=>match σ with | [_,_,some (.int l),_]=>l.natAbs | _=>0) ⟨l,k,rfl,rfl,hg⟩ ?_ ?_
  .rintro σ H2 ⟨l,k,rfl,rfl,hg⟩
   walk_at "rd"
   by_cases hl:l = 0
   .subst hl
    simp only [Int.natCast_zero,Int.lt_irrefl,decide_false,Bool.false_eq_true,if_false]
    rw [show k = Int.gcd a b by rw [<- hg,Nat.gcd_zero_left]]
    exact q _ S
   .have hl':(0:Int) < l:=by omega
    rw [if_pos (decide_eq_true hl')]
    refine ⟨by omega,⟨k % l,t_ _ _,l,rfl,?_⟩,?_⟩
    .rw [<- Nat.gcd_rec]; exact hg
    .rw [t_]
     show (k % l) < l
     exact Nat.mod_lt _ (by omega)
  .intro σ H2 Q1 Q2 hq
   walk_at "rd"
   rintro ⟨v,h1,i,h2,h3⟩
   exact ⟨v,h1,i,h2,hq _ _ h3⟩
theorem Dl {a b:Int} (h:b ≠ 0):(0:Int) < (Int.gcd a b:Nat):=by
 have:=Int.gcd_pos_of_ne_zero_right a h
 omega
theorem JX {a b:Int} (h:b ≠ 0) (hb:Bd b):Bd (Int.gcd a b:Nat):=by
 unfold Bd at *
 refine Nat.lt_of_le_of_lt ?_ hb
 rw [Int.natAbs_natCast]
 exact Nat.le_of_dvd (by omega) (Int.gcd_dvd_natAbs_right a b)
noncomputable def gA:Sp:=fun vs H Q _=>∃ (a b:Int),vs = [.int a,.int b]/\Q (.int (Int.gcd a b:Nat)) H
noncomputable def adg (a b:Int) (H1:Hp) (σ:L2.St) (H:Hp):Prop:=∃ (l k:Nat) (z:Option V),σ = [some (.int a),some (.int b),some (.int l),some (.int k),z]/\H = H1/\Nat.gcd l k = Int.gcd a b
theorem JF (F:Fun K iZ iZ vG f fd) (T:Txt K mg D):cB P w K mg base CX0 1 f fd iV gA:=by
 refine F.ok jR (fun vs H Q E h=>?_) (fun cdv A outer s H vs Q E hr h=>?_)
 .obtain ⟨a,b,rfl,_⟩:=h
  rfl
 .obtain ⟨a,b,rfl,q⟩:=h
  refine ⟨_,(bH (bV (i:=2) jR.nd rfl (Or.inl rfl) (bO qC (by rfl) T.H_ boot_abs (bA (pv 0) bC)))
   (bH (bV (i:=3) jR.nd rfl (Or.inl rfl) (bO qC (by rfl) T.H_ boot_abs (bA (pv 1) bC)))
   (bH (HD PassesOwn.never (bZ zA (pv 3) bF (cj _))
    (bH (bV (i:=4) jR.nd rfl (Or.inl rfl) (bN g_ (pv 2) (pv 3)))
    (bH (bV (i:=2) jR.nd rfl (Or.inl rfl) (pv 3))
    (bI (bV (i:=3) jR.nd rfl (Or.inl rfl) (pv 4))))))
   (bI (bU (pv 2)))))),?_⟩
  walk_at "rd"
  rw [FT,FT]
  refine Gr (adg a b H) (fun σ _=>match σ with | [_,_,_,some (.int k),_]=>k.natAbs | _=>0) ⟨a.natAbs,b.natAbs,none,rfl,rfl,rfl⟩ ?_ ?_
  .rintro σ H2 ⟨l,k,z,rfl,rfl,hg⟩
   walk_at "rd"
   by_cases hl:k = 0
   .subst hl
    rw [if_neg (by simp)]
    rw [show l = Int.gcd a b by rw [<- hg,Nat.gcd_zero_right]]
    exact q
   .have hl':¬ ((k:Int) = 0):=by omega
    rw [if_pos (by simpa using hl)]
    refine ⟨by omega,⟨k,l % k,some (.int ((l % k:Nat):Int)),?_,rfl,?_⟩,?_⟩
    .rw [t_]
    .rw [Nat.gcd_comm,<- Nat.gcd_rec,Nat.gcd_comm]; exact hg
    .rw [t_]
     show (l % k) < k
     exact Nat.mod_lt _ (by omega)
  .intro σ H2 Q1 Q2 hq
   walk_at "rd"
   rintro ⟨v,h1,h2,h3⟩
   exact ⟨v,h1,h2,hq _ _ h3⟩
structure Low (t b x y:Int):Prop where
 pos:0 < y
 gcd:Int.gcd x y = 1
 eq:x * b = t * y
 lx:x.natAbs <= t.natAbs
 ly:y.natAbs <= b.natAbs
theorem zu {c q:Int} (h:c ≠ 0):Int.fdiv (c * q) c = q:=by
 rw [Int.fdiv_eq_ediv_of_dvd (Int.dvd_mul_right c q),Int.mul_ediv_cancel_left _ h]
theorem zH {c q:Int} (h:c ≠ 0):q.natAbs <= (c * q).natAbs:=by
 rw [Int.natAbs_mul]
 exact Nat.le_mul_of_pos_left _ (by omega)
theorem Qx {t b c:Int} (hb:b ≠ 0) (hc:c ≠ 0) (hg:c.natAbs = Int.gcd t b) (hs:0 < c * b):Low t b (Int.fdiv t c) (Int.fdiv b c):=by
 have d1:c ∣ t:=Int.natAbs_dvd.mp (by rw [hg]; exact Int.gcd_dvd_left t b)
 have d2:c ∣ b:=Int.natAbs_dvd.mp (by rw [hg]; exact Int.gcd_dvd_right t b)
 obtain ⟨x,rfl⟩:=d1
 obtain ⟨y,rfl⟩:=d2
 rw [zu hc,zu hc]
 refine ⟨?_,?_,?_,zH hc,zH hc⟩
 .rw [<- Int.mul_assoc] at hs
  have hp:0 < c * c:=by
   rcases Int.lt_or_lt_of_ne hc with z | z
   .exact Int.mul_pos_of_neg_of_neg z z
   .exact Int.mul_pos z z
  exact Int.pos_of_mul_pos_right hs hp
 .rw [Int.gcd_mul_left] at hg
  have hp:0 < c.natAbs:=by omega
  exact Nat.eq_of_mul_eq_mul_left hp (by rw [Nat.mul_one]; exact hg.symm)
 .rw [Int.mul_left_comm,Int.mul_assoc]
noncomputable def kh:Sp:=fun vs H Q _=>∃ (t b:Int),vs = [.int t,.int b]/\b ≠ 0/\Bd b/\∀ p x y,Low t b x y->H p = none->Q (.ref p) (upd H p (.tup [.int x,.int y]))
theorem Sw {i:Int} (h:Bd i):Bd (-i):=by unfold Bd at *; rw [Int.natAbs_neg]; exact h
theorem RX (F:Fun K mH mH DK f fd) (T:Txt K mg D) (cN:OkF P w K mg base 1 fj fu jj) (gP:OkF P w K mg base 1 iZ iV gA):cB P w K mg base CX0 2 f fd lY kh:=by
 refine F.ok xZ (fun vs H Q E h=>?_) (fun cdv A outer s H vs Q E hr h=>?_)
 .obtain ⟨t,b,rfl,_⟩:=h
  rfl
 .obtain ⟨t,b,rfl,hb,hbd,q⟩:=h
  refine ⟨_,(bH (cF (PW.pt (pw_or (dD (cX (bL cN (hr.mono (by decide)) (by rfl) (bA (pv 0) bC)) (fun _=>rfl))) (pw_or1 (dD (cX (bL cN (hr.mono (by decide)) (by rfl) (bA (pv 1) bC)) (fun _=>rfl))))))
    (bI mC)
    bW)
   (bH (cF (bZ kj (pv 1) bF (cj _))
    (bI mC)
    bW)
   (bH (bV (i:=2) xZ.nd rfl (Or.inl rfl) (bL gP (hr.mono (by decide)) (by rfl) (bA (pv 0) (bA (pv 1) bC))))
   (bH (cF (bZ u_ (pv 1) bF (cj _))
    (bI (bV (i:=2) xZ.nd rfl (Or.inl rfl) (Bw vY (pv 2))))
    bW)
   (bI (bU (cU (bA (bN jh (pv 0) (pv 2)) (bA (bN jh (pv 1) (pv 2)) bC))))))))),?_⟩
  unfold jj gA
  walk_at "rd"
  have g0:=Dl (a:=t) hb
  have g1:=JX (a:=t) hb hbd
  rw [if_neg (by simpa using hb)]
  refine VL (fun hn=>?_) fun hn=>?_
  .rw [decide_eq_true_eq] at hn
   refine ⟨by omega,Sw g1,by omega,Sw g1,dh,fun p hp=>q p _ _ (Qx hb (by omega) (by omega) ?_) hp⟩
   exact Int.mul_pos_of_neg_of_neg (by omega) hn
  .rw [decide_eq_true_eq] at hn
   refine ⟨by omega,g1,by omega,g1,dh,fun p hp=>q p _ _ (Qx hb (by omega) (by omega) ?_) hp⟩
   exact Int.mul_pos g0 (by omega)
noncomputable def nF:Sp:=fun vs H Q _=>∃ (p q:Addr) (x y u v:Int),vs = [.ref p,.ref q]/\SqT K H p [.int x,.int y]/\SqT K H q [.int u,.int v]/\Bd x/\Bd y/\Bd u/\Bd v/\Q (.bl (decide (x * v < u * y))) H
theorem R_ (F:Fun K nQ nQ Dg f fd):cB P w K mg base CX0 1 f fd nM (nF (K:=K)):=by
 refine F.ok Sv (fun vs H Q E h=>?_) (fun cdv A outer s H vs Q E hr h=>?_)
 .obtain ⟨p,q,x,y,u,v,rfl,_⟩:=h
  rfl
 .obtain ⟨p,q,x,y,u,v,rfl,hp,hq,bx,b_y,bu,bv,k⟩:=h
  refine ⟨_,(bI (bU (qW u_ (bN fD (bQ fL (pv 0) bF (fun _ _=>rfl)) (bQ fL (pv 1) bF (fun _ _=>rfl))) (bN fD (bQ fL (pv 1) bF (fun _ _=>rfl)) (bQ fL (pv 0) bF (fun _ _=>rfl))) (cj _)))),?_⟩
  walk_at "rd"
  exact ⟨_,hp,_,fV,_,hq,_,eE,_,rfl,_,rfl,bx,bv,_,hq,_,fV,_,hp,_,eE,_,rfl,_,rfl,bu,b_y,k⟩
noncomputable def qI (g:Int->Int->Int):Sp:=fun vs H Q _=>∃ (p q:Addr) (x y u v:Int),vs = [.ref p,.ref q]/\SqT K H p [.int x,.int y]/\SqT K H q [.int u,.int v]/\Bd x/\Bd y/\Bd u/\Bd v/\0 < y/\0 < v/\Bd (y * v) /\
 ∀ r z o,Low (g (x * v) (u * y)) (y * v) z o->H r = none->Q (.ref r) (upd H r (.tup [.int z,.int o]))
theorem Vo (F:Fun K uV uV Jz f fd) (lB:OkF P w K mg base 2 mH lY kh):cB P w K mg base CX0 3 f fd uK (qI (K:=K) fun a b=>a + b):=by
 refine F.ok T_ (fun vs H Q E h=>?_) (fun cdv A outer s H vs Q E hr h=>?_)
 .obtain ⟨p,q,x,y,u,v,rfl,_⟩:=h
  rfl
 .obtain ⟨p,q,x,y,u,v,rfl,hp,hq,bx,b_y,bu,bv,y0,v0,byv,k⟩:=h
  refine ⟨_,(bI (bU (bL lB (hr.mono (by decide)) (by rfl) (bA (bN cR (bN fD (bQ fL (pv 0) bF (fun _ _=>rfl)) (bQ fL (pv 1) bF (fun _ _=>rfl))) (bN fD (bQ fL (pv 1) bF (fun _ _=>rfl)) (bQ fL (pv 0) bF (fun _ _=>rfl)))) (bA (bN fD (bQ fL (pv 0) bF (fun _ _=>rfl)) (bQ fL (pv 1) bF (fun _ _=>rfl))) bC))))),?_⟩
  unfold kh
  walk_at "rd"
  exact ⟨_,hp,_,fV,_,hq,_,eE,_,rfl,_,rfl,bx,bv,_,hq,_,fV,_,hp,_,eE,_,rfl,_,rfl,bu,b_y,_,hp,_,eE,_,hq,_,eE,_,rfl,_,rfl,b_y,bv,Int.ne_of_gt (Int.mul_pos y0 v0),byv,fun r z o l hr=>k r z o l hr⟩
theorem Qi (F:Fun K pB pB DN f fd) (lB:OkF P w K mg base 2 mH lY kh):cB P w K mg base CX0 3 f fd qz (qI (K:=K) fun a b=>a - b):=by
 refine F.ok QV (fun vs H Q E h=>?_) (fun cdv A outer s H vs Q E hr h=>?_)
 .obtain ⟨p,q,x,y,u,v,rfl,_⟩:=h
  rfl
 .obtain ⟨p,q,x,y,u,v,rfl,hp,hq,bx,b_y,bu,bv,y0,v0,byv,k⟩:=h
  refine ⟨_,(bI (bU (bL lB (hr.mono (by decide)) (by rfl) (bA (bN vH (bN fD (bQ fL (pv 0) bF (fun _ _=>rfl)) (bQ fL (pv 1) bF (fun _ _=>rfl))) (bN fD (bQ fL (pv 1) bF (fun _ _=>rfl)) (bQ fL (pv 0) bF (fun _ _=>rfl)))) (bA (bN fD (bQ fL (pv 0) bF (fun _ _=>rfl)) (bQ fL (pv 1) bF (fun _ _=>rfl))) bC))))),?_⟩
  unfold kh
  walk_at "rd"
  exact ⟨_,hp,_,fV,_,hq,_,eE,_,rfl,_,rfl,bx,bv,_,hq,_,fV,_,hp,_,eE,_,rfl,_,rfl,bu,b_y,_,hp,_,eE,_,hq,_,eE,_,rfl,_,rfl,b_y,bv,Int.ne_of_gt (Int.mul_pos y0 v0),byv,fun r z o l hr=>k r z o l hr⟩
noncomputable def sS (c:Nat):Bool:=decide (c ∈ (Str.ofString "abcdefghijklmnopqrstuvwxyz").cps.toList)
noncomputable def je (l:List Nat):Bool:=decide (1 <= l.length) && decide (l.length <= 8) && l.all sS
theorem V7 (c:Nat):((!decide ([c] < [97])) && !decide ([122] < [c])) = sS c:=by
 have e:(Str.ofString "abcdefghijklmnopqrstuvwxyz").cps.toList = (List.range 26).map (97 + ·):=by decide +kernel
 have m:c ∈ (List.range 26).map (97 + ·) ↔ 97 <= c/\c <= 122:=by
  rw [List.mem_map]
  constructor
  .rintro ⟨i,h,rfl⟩
   have:=List.mem_range.mp h
   exact ⟨Nat.le_add_right ..,by omega⟩
  .exact fun h=>⟨c - 97,List.mem_range.mpr (by omega),by omega⟩
 have h1:([c] < [97]) ↔ c < 97:=by rw [List.cons_lt_cons_iff]; simp
 have h2:([122] < [c]) ↔ 122 < c:=by rw [List.cons_lt_cons_iff]; simp
 unfold sS
 rw [e,decide_eq_decide.mpr m,decide_eq_decide.mpr h1,decide_eq_decide.mpr h2]
 by_cases a:c < 97
 .rw [decide_eq_true a,decide_eq_false (p:=97 <= c/\c <= 122) (by omega)]; rfl
 .by_cases b:122 < c
  .rw [decide_eq_true b,decide_eq_false (p:=97 <= c/\c <= 122) (by omega)]; exact Bool.and_false _
  .rw [decide_eq_false a,decide_eq_false b,decide_eq_true ⟨by omega,by omega⟩]; rfl
noncomputable def o_:Sp:=fun vs H Q _=>∃ v,vs = [v]/\((∃ x:Str,v = .str x/\x.length <= 1000/\Q (.bl (je x.cps.toList)) H)\/∃ t,tyS H v = some t/\t ≠ "str" /\ Q (.bl false) H)
theorem J3 (F:Fun K jc jc rm f fd) (T:Txt K mg D):cB P w K mg base CX0 1 f fd jd o_:=by
 refine cB.clean (sp:=fun vs H Q _=>∃ v,vs = [v]/\((∃ x:Str,v = .str x/\x.length <= 1000/\∀ H',Same H H'->Q (.bl (je x.cps.toList)) H')\/∃ t,tyS H v = some t/\t ≠ "str" /\ ∀ H',Same H H'->Q (.bl false) H'))
  (F.ok Jb (fun vs H Q E h=>?_) (fun cdv A outer s H vs Q E hr h=>?_)) fun vs H Q E ⟨v,h1,h2⟩=>⟨v,h1,h2.imp (fun ⟨x,a,b,c⟩=>⟨x,a,b,fun H' S=>⟨S,c⟩⟩) fun ⟨t,a,b,c⟩=>⟨t,a,b,fun H' S=>⟨S,c⟩⟩⟩
 .obtain ⟨v,rfl,_⟩:=h
  rfl
 .obtain ⟨v,rfl,h⟩:=h
  refine ⟨_,(bH (cF (PW.pt (pw_or (dD (cX (bO jw (by rfl) T.cu boot_isinstance (bA (pv 0) (bA (j9 (v:=.ty "str") (by rfl) T.Zm boot_str rfl) bC))) (fun _=>rfl))) (pw_or1 (dD (Gu Gz Gz bF (bO DG (by rfl) T.dR PySem.boot_len (bA (pv 0) bC)) (R6 (by rfl) T.yt))))))
    (bI (bU iJ))
    bW)
   (bI (bU (bO (Nt rfl) (by rfl) T.Zr boot_all (bA (mJ (bK rm) vQ vQ ["sign"] (W7 ((pv 0)).mono) (fW (i:=0)) dB (GJ Qd Qd fG (pv 0) fG)) bC))))),?_⟩
  rcases h with ⟨x,rfl,hx,q⟩ | ⟨t,ht,hne,q⟩
  .have hz:x.length <= sizeLine:=aK hx (by decide)
   have hl:x.cps.toList.length = x.length:=Array.length_toList
   have ea:Str.ofString "a" = ⟨#[97]⟩:=by decide +kernel
   have ez:Str.ofString "z" = ⟨#[122]⟩:=by decide +kernel
   walk_at "rd"
   refine ⟨hz,?_⟩
   by_cases h1:1 <= x.length
   .rw [if_pos (decide_eq_true (by omega))]
    by_cases h2:x.length <= 8
    .rw [if_neg (by rw [decide_eq_true (by omega)]; decide)]
     refine Hi sS x (fun R h=>⟨_,rfl,h⟩) hz (fun c Hc R h=>?_) fun L hL=>⟨L,rfl,_,bD,?_⟩
     .simp only [o9,zX,Ka,QL,tOp,tUn,rU,KC,Ia,VR,tSl,sV,tC,Ls,rI0,rI,Wu,Qj,Vk,mU,sX,tCB,v9,ux,V9,tOr,Ra,Lw,Ml,X7,Wa,Aq,U4,dI,Vj,Lk,K5,Lj,Pj,Lb,TQ,Mf,FJ,JW,uq,DW,HN,O6,rEq,rNe,JC,wG,La,vN,Jf,Ez,Gf,QM,QG,Py,W9,Ends.unset,V3,UW,Fp,TV,KR,Vp,SQ,Kr,Qm,Qu,XH,tSM,Iv,Es,zj,Sy,Vi,KQ,Dq,Wh,w6,Df,Lf,Rh,rJoin,R8,Q8,tB,VP,Ud,Rw,wY,Ly,LK,Vn,Xf,Ph,Ma,Cq,QC,Kc,Rq,xO,VB,U9,xH,V.str.injEq,L2.start,List.replicate_succ,List.replicate_zero,Nat.reduceSub,Nat.reduceAdd,List.map_cons,List.map_nil,List.length_cons,List.length_nil,List.cons_append,List.nil_append,List.append_nil,List.getElem?_cons_zero,List.getElem?_cons_succ,List.set_cons_zero,List.set_cons_succ,List.set_nil,Option.some.injEq,exists_eq_left',exists_eq_left,exists_and_left,exists_and_right,exists_eq_right,exists_eq,exists_eq',and_assoc,V.int.injEq,V.ref.injEq,V.bl.injEq,V.ty.injEq,List.cons.injEq,HO.tup.injEq,HO.lst.injEq,and_true,true_and,reduceCtorEq,fV,eE,bD,decide_true,decide_false,Bool.not_true,Bool.not_false,if_true,if_false,ite_true,ite_false,Bool.false_eq_true,List.mem_cons,String.reduceEq,or_true,true_or,or_false,false_or,beq_self_eq_true,Bool.or_true,Bool.true_or,Bool.or_false,Bool.false_or,Bool.and_true,Bool.and_false,Bool.true_and,Bool.false_and,String.reduceBEq,Int.reduceToNat,Int.reducePow,Int.reduceMul,Int.reduceSub,Int.reduceAdd,Int.reduceNeg,Int.reduceLE,Int.reduceLT,Int.reduceEq,ne_eq,not_false_eq_true,not_true_eq_false,Int.cast_ofNat_Int,ea,ez]
      have:=V7 c
      rw [<- this] at h
      cases hd:(!decide ([c] < [97])) with
      | false=>rw [hd] at h; exact h
      | true=>rw [hd] at h; exact h
     .have ew:je x.cps.toList = (x.cps.toList.map sS).all id:=by
       unfold je
       rw [hl,decide_eq_true h1,decide_eq_true h2,List.all_map]; rfl
      rw [<- ew]
      exact q _ (Same.upd hL)
    .rw [if_pos (by rw [decide_eq_false (by omega)]; rfl)]
     have ew:je x.cps.toList = false:=by
      unfold je
      rw [hl,decide_eq_false h2,Bool.and_false]; rfl
     rw [ew] at q
     exact q _ (Same.refl _)
   .rw [if_neg (by rw [decide_eq_true_eq]; omega)]
    have ew:je x.cps.toList = false:=by
     unfold je
     rw [hl,decide_eq_false h1]; rfl
    rw [ew] at q
    exact q _ (Same.refl _)
  .simp only [o9,zX,Ka,QL,tOp,tUn,rU,KC,Ia,VR,tSl,sV,tC,Ls,rI0,rI,Wu,Qj,Vk,mU,sX,tCB,v9,ux,V9,tOr,Ra,Lw,Ml,X7,Wa,Aq,U4,dI,Vj,Lk,K5,Lj,Pj,Lb,TQ,Mf,FJ,JW,uq,DW,HN,O6,rEq,rNe,JC,wG,La,vN,Jf,Ez,Gf,QM,QG,Py,W9,Ends.unset,V3,UW,Fp,TV,KR,Vp,SQ,Kr,Qm,Qu,XH,tSM,Iv,Es,zj,Sy,Vi,KQ,Dq,Wh,w6,Df,Lf,Rh,rJoin,R8,Q8,tB,VP,Ud,Rw,wY,Ly,LK,Vn,Xf,Ph,Ma,Cq,QC,Kc,Rq,xO,VB,U9,xH,V.str.injEq,L2.start,List.replicate_succ,List.replicate_zero,Nat.reduceSub,Nat.reduceAdd,List.map_cons,List.map_nil,List.length_cons,List.length_nil,List.cons_append,List.nil_append,List.append_nil,List.getElem?_cons_zero,List.getElem?_cons_succ,List.set_cons_zero,List.set_cons_succ,List.set_nil,Option.some.injEq,exists_eq_left',exists_eq_left,exists_and_left,exists_and_right,exists_eq_right,exists_eq,exists_eq',and_assoc,V.int.injEq,V.ref.injEq,V.bl.injEq,V.ty.injEq,List.cons.injEq,HO.tup.injEq,HO.lst.injEq,and_true,true_and,reduceCtorEq,fV,eE,bD,decide_true,decide_false,Bool.not_true,Bool.not_false,if_true,if_false,ite_true,ite_false,Bool.false_eq_true,List.mem_cons,String.reduceEq,or_true,true_or,or_false,false_or,beq_self_eq_true,Bool.or_true,Bool.true_or,Bool.or_false,Bool.false_or,Bool.and_true,Bool.and_false,Bool.true_and,Bool.false_and,String.reduceBEq,Int.reduceToNat,Int.reducePow,Int.reduceMul,Int.reduceSub,Int.reduceAdd,Int.reduceNeg,Int.reduceLE,Int.reduceLT,Int.reduceEq,ne_eq,not_false_eq_true,not_true_eq_false,Int.cast_ofNat_Int,ht]
   rw [beq_eq_false_iff_ne.mpr hne]
   exact q _ (Same.refl _)
structure Fk (K:Frag) (H:Hp) (p:Addr) (x y:Int):Prop where
 at_:SqT K H p [.int x,.int y]
 pos:0 < y
 gcd:Int.gcd x y = 1
theorem Fk.same {K:Frag} {H H':Hp} {p:Addr} {x y:Int} (h:Fk K H p x y) (S:Same H H'):Fk K H' p x y:=⟨S.tup h.at_,h.pos,h.gcd⟩
noncomputable def eZ:Sp:=fun vs H Q _=>∃ p x y,vs = [.ref p]/\Fk K H p x y/\Q (.bl true) H
theorem Hq (F:Fun K gw gw sG f fd) (T:Txt K mg D) (cN:OkF P w K mg base 1 fj fu jj) (gP:OkF P w K mg base 1 iZ iV gA):cB P w K mg base CX0 2 f fd gG (eZ (K:=K)):=by
 refine F.ok qG (fun vs H Q E h=>?_) (fun cdv A outer s H vs Q E hr h=>?_)
 .obtain ⟨p,x,y,rfl,_⟩:=h
  rfl
 .obtain ⟨p,x,y,rfl,hf,q⟩:=h
  have hp:=hf.at_
  refine ⟨_,(bH (cF (PW.pt (pw_or (dD (cX (bO (jw.or Gn) (by rfl) T.cu boot_isinstance (bA (pv 0) (bA (j9 (v:=.ty "tuple") (by rfl) T.Kh boot_tuple rfl) bC))) (fun _=>rfl))) (pw_or1 (bZ zA (bO M_ (by rfl) T.dR PySem.boot_len (bA (pv 0) bC)) bF (cj _)))))
    (bI (bU iJ))
    bW)
   (bH (bV (i:=1) qG.nd rfl (Or.inl rfl) (bQ fL (pv 0) bF (fun _ _=>rfl)))
   (bH (bV (i:=2) qG.nd rfl (Or.inl rfl) (bQ fL (pv 0) bF (fun _ _=>rfl)))
   (bH (cF (PW.pt (pw_or (dD (cX (bL cN (hr.mono (by decide)) (by rfl) (bA (pv 1) bC)) (fun _=>rfl))) (pw_or1 (dD (cX (bL cN (hr.mono (by decide)) (by rfl) (bA (pv 2) bC)) (fun _=>rfl))))))
    (bI (bU iJ))
    bW)
   (bI (bU (JL (qW W2 (pv 2) bF (cj _)) (JM (qW kj (bL gP (hr.mono (by decide)) (by rfl) (bA (pv 1) (bA (pv 2) bC))) bF (cj _)))))))))),?_⟩
  unfold jj gA
  walk_at "rd"
  refine .inr ⟨⟨_,hp⟩,_,hp,?_⟩
  rw [if_neg (by simp)]
  refine ⟨_,hp,_,fV,_,hp,_,eE,_,uq,?_⟩
  rw [if_neg (by decide)]
  refine ⟨_,uq,?_⟩
  rw [if_neg (by decide)]
  have hy:=hf.pos
  refine ⟨y,rfl,?_⟩
  rw [if_pos (decide_eq_true (by omega))]
  refine ⟨x,rfl,y,rfl,?_⟩
  rw [hf.gcd]
  exact q
noncomputable def f9:Sp:=fun vs H Q _=>∃ (n:Str) (p:Addr) (x y:Int),vs = [.str n,.ref p]/\n.length <= 1000/\je n.cps.toList = true/\Fk K H p x y/\Q .non H
theorem Al (F:Fun K gj gj nZ f fd) (T:Txt K mg D) (gO:OkF P w K mg base 1 jc jd o_) (fM:OkF P w K mg base 2 gw gG (eZ (K:=K))):cB P w K mg base (CXO P w) 3 f fd fZ (f9 (K:=K)):=by
 refine F.okX Ad (fun vs H Q E h=>?_) (fun cdv A outer s H vs Q E hr h=>?_)
 .obtain ⟨n,p,x,y,rfl,_⟩:=h
  rfl
 .obtain ⟨n,p,x,y,rfl,hn,hw,hf,q⟩:=h
  refine ⟨_,(bH (cF (dD (cX (bL gO (hr.mono (by decide)) (by rfl) (bA (pv 0) bC)) (fun _=>rfl)))
    (bI (qw rfl (by rfl) T.zY T.G6 pG (bA fG bC)))
    bW)
   (bI (cF (dD (cX (bL fM (hr.mono (by decide)) (by rfl) (bA (pv 1) bC)) (fun _=>rfl)))
    (bI (qw rfl (by rfl) T.zQ T.Io pG (bA fG bC)))
    bW))),?_⟩
  unfold o_ eZ
  walk_at "rd"
  rw [hw]
  exact .inl ⟨hn,⟨x,y,hf⟩,q⟩
noncomputable def gR (D:Adr):Sp:=fun vs H Q _=>∃ (s dx C:Addr) (n:Str) (p:Addr) (x y:Int),vs = [.ref s,.str n,.ref p]/\H s = some (.ins C dx [])/\Fam D C/\n.length <= 1000/\je n.cps.toList = true/\Fk K H p x y /\
 ∀ l,upd H s (.ins C dx [("name",.str n),("pay",.ref p)]) l = none->Q .non (upd (upd H l (.lst [])) s (.ins C dx [("name",.str n),("pay",.ref p),("leads",.ref l)]))
theorem Fg (F:Fun K tK uz qO f fd) (T:Txt K mg D) (fY:OkX P w K mg base 3 gj fZ (f9 (K:=K))):cB P w K mg base (CXO P w) 4 f fd iy (gR (K:=K) D):=by
 refine F.okX Dw (fun vs H Q E h=>?_) (fun cdv A outer s H vs Q E hr h=>?_)
 .obtain ⟨s,dx,C,n,p,x,y,rfl,_⟩:=h
  rfl
 .obtain ⟨o,dx,C,n,p,x,y,rfl,ho,hC,hn,hw,hf,q⟩:=h
  refine ⟨_,(bH (cM (fU fY (hr.mono (by decide)) (by rfl) fK (bA (pv 1) (bA (pv 2) bC))))
   (bH (qK (pv 0) (pv 1) rfl)
   (bH (qK (pv 0) (pv 2) rfl)
   (bI (qK (pv 0) (iD bC) rfl))))),?_⟩
  unfold f9
  walk_at "rd"
  have cl:=T.cl C hC
  refine ⟨hn,hw,⟨x,y,hf⟩,C,dx,[],ho,cl,T.xr C hC,(by decide),C,dx,_,rfl,cl,T.RT C hC,(by show 1 < 1000; decide),aZ _,fun l hl=>?_⟩
  rw [oF] at hl ⊢
  have ne:o ≠ l:=bB bD hl
  refine ⟨C,dx,_,(bG ne).trans bD,cl,T.zF C hC,(by show 2 < 1000; decide),?_⟩
  have e:upd (upd (upd H o (.ins C dx (ji "pay" (.ref p) (ji "name" (.str n) [])))) l (.lst [])) o (.ins C dx (ji "leads" (.ref l) (ji "pay" (.ref p) (ji "name" (.str n) [])))) = upd (upd H l (.lst [])) o (.ins C dx [("name",.str n),("pay",.ref p),("leads",.ref l)]):=by
   funext b
   by_cases h1:b = o
   .subst h1; rw [bD,bD]; rfl
   .rw [bG h1,bG h1]
    by_cases h2:b = l
    .subst h2; rw [bD,bD]
    .rw [bG h2,bG h2,bG h1]
  rw [e]
  exact q l hl
noncomputable def gU:Sp:=fun vs H Q _=>∃ n:Str,vs = [.str n]/\n.length <= 1000/\je n.cps.toList = true/\Q .non H
theorem rY (F:Fun K cT cT ju f fd) (T:Txt K mg D) (gO:OkF P w K mg base 1 jc jd o_):cB P w K mg base (CXO P w) 2 f fd cV gU:=by
 refine F.okX sU (fun vs H Q E h=>?_) (fun cdv A outer s H vs Q E hr h=>?_)
 .obtain ⟨n,rfl,_⟩:=h
  rfl
 .obtain ⟨n,rfl,hn,hw,q⟩:=h
  refine ⟨_,(bI (cF (dD (cX (bL gO (hr.mono (by decide)) (by rfl) (bA (pv 0) bC)) (fun _=>rfl)))
    (bI (qw rfl (by rfl) T.zY T.G6 pG (bA fG bC)))
    bW)),?_⟩
  unfold o_
  walk_at "rd"
  rw [hw]
  exact .inl ⟨hn,q⟩
structure Ck (K:Frag) (H:Hp) (p:Addr) (x y:Int):Prop where
 fk:Fk K H p x y
 lo:0 <= x
 hi:x <= y
 by_:Bd y
noncomputable def lN:Sp:=fun vs H Q _=>∃ p x y,vs = [.ref p]/\Ck K H p x y/\Q .non H
theorem wW (F:Fun K dY dY mD f fd) (T:Txt K mg D) (fM:OkF P w K mg base 2 gw gG (eZ (K:=K))) (mY:OkF P w K mg base 1 nQ nM (nF (K:=K))):cB P w K mg base (CXO P w) 3 f fd dX (lN (K:=K)):=by
 refine F.okX wX (fun vs H Q E h=>?_) (fun cdv A outer s H vs Q E hr h=>?_)
 .obtain ⟨p,x,y,rfl,_⟩:=h
  rfl
 .obtain ⟨p,x,y,rfl,hc,q⟩:=h
  refine ⟨_,(bI (cF (PW.pt (pw_or (dD (cX (bL fM (hr.mono (by decide)) (by rfl) (bA (pv 0) bC)) (fun _=>rfl))) (pw_or (cX (bL mY (hr.mono (by decide)) (by rfl) (bA (pv 0) (bA (jB (by rfl) T.vp) bC))) (fun _=>rfl)) (pw_or1 (cX (bL mY (hr.mono (by decide)) (by rfl) (bA (jB (by rfl) T.Gp) (bA (pv 0) bC))) (fun _=>rfl))))))
    (bI (qw rfl (by rfl) T.sH T.yO pG (bA fG bC)))
    bW)),?_⟩
  unfold eZ nF
  walk_at "rd"
  have hy:=hc.fk.pos
  have lo:=hc.lo
  have hi:=hc.hi
  have by_:=hc.by_
  have bx:Bd x:=Nat.lt_of_le_of_lt (by omega:x.natAbs <= y.natAbs) by_
  have b0:Bd 0:=Nat.two_pow_pos 8000
  have b1:Bd 1:=Nat.one_lt_two_pow (by decide)
  refine ⟨⟨x,y,hc.fk⟩,x,y,hc.fk.at_,0,1,T.rB H,bx,by_,b0,b1,?_⟩
  rw [if_neg (by simp; omega)]
  refine ⟨1,1,T.yw H,x,y,hc.fk.at_,b1,b1,bx,by_,?_⟩
  rw [if_neg (by simp; omega)]
  exact q
noncomputable def lG (D:Adr):Sp:=fun vs H Q _=>∃ (s dx:Addr) (n m:Str) (p:Addr) (x y:Int),vs = [.ref s,.str n,.ref p,.str m]/\H s = some (.ins D.Sure dx [])/\n.length <= 1000/\je n.cps.toList = true/\m.length <= 1000/\je m.cps.toList = true/\Fk K H p x y /\
 ∀ t l H',H l = none->(∀ b o,b ≠ s->H b = some o->H' b = some o)->H' t = some (.tup [.str m,.ref D.ONE])->H' l = some (.lst [.ref t])->H' s = some (.ins D.Sure dx [("name",.str n),("pay",.ref p),("leads",.ref l)])->Q .non H'
theorem Dz (F:Fun K tV vB qx f fd) (T:Txt K mg D) (gY:OkI P w K mg base (CXO P w) 4 D.Door_init iy (gR (K:=K) D)) (iW:OkX P w K mg base 2 cT cV gU):cB P w K mg base (CXO P w) 5 f fd jx (lG (K:=K) D):=by
 refine F.okX Gh (fun vs H Q E h=>?_) (fun cdv A outer s H vs Q E hr h=>?_)
 .obtain ⟨s,dx,n,m,p,x,y,rfl,_⟩:=h
  rfl
 .obtain ⟨o,dx,n,m,p,x,y,rfl,ho,hn,hw,hm,hv,hf,q⟩:=h
  refine ⟨_,(bH (cM (uL T.uF gY (hr.mono (by decide)) (by rfl) T.SX fK (bA (pv 0) (bA (pv 1) (bA (pv 2) bC)))))
   (bH (cM (fU iW (hr.mono (by decide)) (by rfl) fK (bA (pv 3) bC)))
   (bI (qK (pv 0) (iD (bA (cU (bA (pv 3) (bA (jB (by rfl) T.Gp) bC))) bC)) rfl)))),?_⟩
  unfold gR gU
  walk_at "rd"
  refine ⟨dx,D.Sure,ho,(by simp [Fam]),hn,hw,⟨x,y,hf⟩,fun l hl=>⟨hm,hv,(by decide),fun t ht=>⟨(by decide),fun r hq=>?_⟩⟩⟩
  have ol:o ≠ l:=bB bD hl
  have ot:o ≠ t:=bB bD ht
  have lt:l ≠ t:=bB ((bG ol.symm).trans bD) ht
  have tr:t ≠ r:=bB bD hq
  have or_:o ≠ r:=bB ((bG ot).trans bD) hq
  refine ⟨D.Sure,dx,_,(bG or_).trans ((bG ot).trans bD),T.Ij,T.rP,(by show 3 < 1000; decide),?_⟩
  rw [bG ol.symm] at hl
  rw [bG ot.symm,bG lt.symm] at ht
  rw [bG tr.symm,bG or_.symm] at hq
  refine q t r _ ?_ (fun b u hb hu=>?_) ?_ ?_ bD
  .cases z:H r with
   | none=>rfl
   | some o' =>
    have bl:r ≠ l:=bB z hl
    rw [bG bl,z] at hq
    cases hq
  .have bl:b ≠ l:=bB hu hl
   have bt:b ≠ t:=bB hu ht
   have br:b ≠ r:=by
    intro e; subst e; rw [bG bl,hu] at hq; cases hq
   rw [bG hb,bG br,bG bt,bG hb,bG bl]; exact hu
  .rw [bG ot.symm,bG tr]; exact bD
  .rw [bG or_.symm]; exact bD
theorem Bd.sm {i:Int} (h:i.natAbs < 18446744073709551616):Bd i:=aQ h (aK (by decide:18446744073709551616 <= 2 ^ 64) (Nat.pow_le_pow_right (by decide) (by decide)))
noncomputable def dH:Sp:=fun vs H Q _=>∃ (c:Int) (n:Nat),vs = [.int c,.int n]/\n <= 100/\∀ (l:Addr) (xs:List Int) H',Same H H'->H l = none->H' l = some (.lst (xs.map V.int))->xs.length = n->(∀ x ∈ xs,0 <= x/\x < 2000000000)->Q (.ref l) H'
noncomputable def jS (c:Int) (n:Nat) (p:Addr) (H:Hp) (k:Nat) (σ:L2.St) (H':Hp):Prop:=∃ (xs:List Int) (m d:Int) (v:Option V),σ = [some (.int c),some (.int n),some (.ref p),some (.int m),some (.int d),v]/\(0 <= m/\m < 1999999973)/\0 <= d/\xs.length = k/\(∀ x ∈ xs,0 <= x/\x < 2000000000)/\Same H H'/\H' p = some (.lst (xs.map V.int))
theorem Nv (F:Fun K eU eU xM f fd) (T:Txt K mg D):cB P w K mg base CX0 1 f fd eY dH:=by
 refine F.ok jf (fun vs H Q E h=>?_) (fun cdv A outer s H vs Q E hr h=>?_)
 .obtain ⟨c,n,rfl,_⟩:=h
  rfl
 .obtain ⟨c,n,rfl,hn,q⟩:=h
  refine ⟨_,(bH (bV (i:=2) jf.nd rfl (Or.inl rfl) (iD bC))
   (bH (bV (i:=3) jf.nd rfl (Or.inl rfl) (bN cH (bN Js (bN cR (bN cH (pv 0) bF) bF) bF) bF))
   (bH (bV (i:=4) jf.nd rfl (Or.inl rfl) bF)
   (bH (cF (PW.pt (pw_or (bZ u_ (pv 0) bF (cj _)) (pw_or1 (bZ W2 (pv 0) (bN Fd bF bF) (cj _)))))
    (bI (bV (i:=4) jf.nd rfl (Or.inl rfl) (bO qC (by rfl) T.H_ boot_abs (bA (pv 0) bC))))
    bW)
   (bH (kO PassesOwn.never rfl (iB (by rfl) T.lE (bA (pv 1) bC).mono) (cD (i:=5) jf.nd rfl (Or.inl rfl))
    (bH (bV (i:=3) jf.nd rfl (Or.inl rfl) (bN cH (bN cR (bN cR (bN fD (pv 3) (bN cR (bN cH (pv 3) bF) bF)) (bN fD bF (pv 5))) bF) bF))
    (bH (cM (qd (pv 2) (bA (bQ bM (iD (bA (pv 3) (bA (bN cH (pv 4) bF) bC))) (jM Bq (by rfl) T.L_ boot_int (bA (qW BK (pv 4) bF (cj _)) bC)) (fun _ _=>rfl)) bC)))
    (bI (bV (i:=4) jf.nd rfl (Or.inl rfl) (bN jh (pv 4) bF))))))
   (bI (bU (pv 2)))))))),?_⟩
  refine Br fun R0 hR0=>?_
  walk_at "rd"
  refine ⟨aZ _,fun p hp=>⟨.inr (by constructor <;> decide),?_⟩⟩
  have m0:0 <= (c % 1999999973 + 31) * 765432101 % 1999999973/\(c % 1999999973 + 31) * 765432101 % 1999999973 < 1999999973:=⟨Int.emod_nonneg _ (by decide),Int.emod_lt_of_pos _ (by decide)⟩
  generalize (c % 1999999973 + 31) * 765432101 % 1999999973 = m at m0 ⊢
  have a0:0 <= (if c < 0 then -c else c):=by split <;> omega
  subst hR0
  refine bY fun R hR=>?_
  have loop:∀ d0:Int,0 <= d0->R { nx:=fun _ H'=>Q .non H',rt:=Q } [some (.int c),some (.int n),some (.ref p),some (.int m),some (.int d0),none] (upd H p (.lst [])):=by
   intro d0 a0
   subst hR
   have go:∀ d:Int,0 <= d->jS c n p H 0 [some (.int c),some (.int n),some (.ref p),some (.int m),some (.int d),none] (upd H p (.lst [])):=fun d hd=>⟨[],m,d,none,rfl,m0,hd,rfl,(by simp),Same.upd hp,bD⟩
   have fin:∀ (σ':L2.St) (H':Hp),jS c n p H n σ' H'->∃ v,σ'[2]? = some (some v)/\Q v H':=by
    rintro σ' H' ⟨xs,m,d,v,rfl,_,_,h1,h2,h3,h4⟩
    exact ⟨_,rfl,q p xs H' h3 hp h4 h1 h2⟩
   refine qU ?_
   walk_at "rd"
   refine ⟨n,rfl,Nat.lt_of_le_of_lt hn (by decide),jS c n p H,go _ a0,?_,fin⟩
   rintro k σ' H' hk ⟨xs,m,d,v,rfl,hm,hd,h1,h2,h3,h4⟩
   walk_at "rd"
   have b1:Bd m:=Bd.sm (by omega)
   have b2:Bd (m % 65521 + 40487):=Bd.sm (by omega)
   have b3:Bd (k:Int):=Bd.sm (by omega)
   have nx:0 <= (m * (m % 65521 + 40487) + 7 * k + 5) % 1999999973/\(m * (m % 65521 + 40487) + 7 * k + 5) % 1999999973 < 1999999973:=⟨Int.emod_nonneg _ (by decide),Int.emod_lt_of_pos _ (by decide)⟩
   generalize (m * (m % 65521 + 40487) + 7 * (k:Int) + 5) % 1999999973 = z at nx ⊢
   refine ⟨b1,b2,Bd.sm (by decide),b3,⟨_,h4⟩,(by decide),fun r hq=>.inr ?_⟩
   have pr:p ≠ r:=bB h4 hq
   have dd:0 <= d.fdiv 1000000:=by rw [Int.fdiv_eq_ediv_of_nonneg _ (by decide)]; omega
   have fin:∀ x:Int,0 <= x/\x < 2000000000->jS c n p H (k + 1) [some (.int c),some (.int n),some (.ref p),some (.int z),some (.int (d.fdiv 1000000)),some (.int k)] (upd (upd H' r (.lst [.int z,.int (d % 1000000)])) p (.lst (xs.map V.int ++ [.int x]))):=by
    intro x hx
    refine ⟨xs ++ [x],z,_,_,rfl,nx,dd,by simp [h1],?_,?_,?_⟩
    .intro y hy
     rcases List.mem_append.mp hy with hy | hy
     .exact h2 y hy
     .rw [List.mem_singleton.mp hy]; exact hx
    .intro b o hb
     have bp:b ≠ p:=bB hb hp
     have br:b ≠ r:=bB (h3 b o hb) hq
     rw [bG bp,bG br]; exact h3 b o hb
    .rw [bh]; exact bD
   by_cases h0:0 < d
   .rw [if_pos (decide_eq_true h0)]
    exact ⟨_,eE,_,(bG pr).trans h4,by rw [ak,h1]; exact aQ hk (aK hn (by decide)),Bd.sm (by decide),fin _ (by omega)⟩
   .rw [if_neg (by simp; omega)]
    exact ⟨_,fV,_,(bG pr).trans h4,by rw [ak,h1]; exact aQ hk (aK hn (by decide)),Bd.sm (by decide),fin _ (by omega)⟩
  clear hR
  walk_at "rd"
  refine VL (fun _=>loop _ a0) fun _=>⟨V0 (by decide) (by decide),VL (fun _=>loop _ a0) fun _=>loop 0 (by decide)⟩
noncomputable def W_ (H:Hp) (D:Adr) (s:Addr) (n:Str) (p l:Addr):Prop:=∃ C dx,Fam D C/\H s = some (.ins C dx [("name",.str n),("pay",.ref p),("leads",.ref l)])
noncomputable def lC (D:Adr):Sp:=fun vs H Q _=>∃ (s:Addr) (n:Str) (p l:Addr) (xs:List V),vs = [.ref s]/\W_ H D s n p l/\H l = some (.lst xs)/\xs.length <= 100/\∀ r,H r = none->Q (.ref r) (upd H r (.lst xs))
theorem CQ (F:Fun K vD uP qQ f fd) (T:Txt K mg D):cB P w K mg base CX0 1 f fd jq (lC D):=by
 refine F.ok Di (fun vs H Q E h=>?_) (fun cdv A outer s H vs Q E hr h=>?_)
 .obtain ⟨s,n,p,l,xs,rfl,_⟩:=h
  rfl
 .obtain ⟨o,n,p,l,xs,rfl,⟨C,dx,hC,ho⟩,hl,hz,q⟩:=h
  refine ⟨_,(bI (bU (jM sE (by rfl) T.vM boot_list (bA (pK (pv 0) rfl) bC)))),?_⟩
  walk_at "rd"
  exact ⟨C,dx,_,ho,T.cl C hC,T.zF C hC,_,rfl,l,rfl,xs,hl,q⟩
structure Nh (H:Hp) (xs:List V) (ws:List (Str × Addr)):Prop where
 len:xs.length = ws.length
 at_:∀ (k:Nat) (g:Str × Addr),ws[k]? = some g->∃ t,xs[k]? = some (.ref t)/\H t = some (.tup [.str g.1,.ref g.2])
theorem Nh.same {H H':Hp} {xs:List V} {ws:List (Str × Addr)} (h:Nh H xs ws) (S:Same H H'):Nh H' xs ws:=⟨h.len,fun k g e=>let ⟨t,a,b⟩:=h.at_ k g e; ⟨t,a,S _ _ b⟩⟩
noncomputable def cell (ns:List Int) (k:Int):Int:=ns.getD k.toNat 0
noncomputable def uT (K:Frag) (a:Addr) (ns:List Int):Sp:=fun vs H Q _=>∃ (k:Int),vs = [.ref a,.int k]/\SqL K H a (ns.map V.int)/\ns.length <= 63/\0 <= k/\Q (.int (cell ns k)) H
theorem Wk (F:Fun K q_ q_ JK f fd) (a:Addr) (ns:List Int):cB P w K mg base CX0 1 f fd rE (uT K a ns):=by
 refine cB.clean (sp:=fun vs H Q _=>∃ (k:Int),vs = [.ref a,.int k]/\SqL K H a (ns.map V.int)/\ns.length <= 63/\0 <= k/\∀ H',Same H H'->Q (.int (cell ns k)) H')
  (F.ok Uo (fun vs H Q E h=>?_) (fun cdv A outer s H vs Q E hr h=>?_)) fun vs H Q E ⟨k,h1,h2,h3,h4,h5⟩=>⟨k,h1,h2,h3,h4,fun H' S=>⟨S,h5⟩⟩
 .obtain ⟨k,rfl,_⟩:=h
  rfl
 .obtain ⟨k,rfl,hs,hl,hk,q⟩:=h
  refine ⟨_,(bI (bU (bQ bM (bN Ip (iI oO (pv 0) (fB (pv 1)) (fB (bN cR (pv 1) bF))) (iD (bA bF bC))) bF (fun _ _=>rfl)))),?_⟩
  walk_at "rd"
  refine ⟨_,hs,fun p hp=>⟨K7,fun p1 hp1=>?_⟩⟩
  have n1:p ≠ p1:=bB bD hp1
  refine ⟨_,(bG n1).trans bD,?_,fun p2 hp2=>⟨_,?_,q _ ?_⟩⟩
  .refine W8 ?_
   have:=wB (ns.map V.int) (some k) (some (k + 1))
   rw [ak] at this
   omega
  .have:=Uc ns k.toNat
   rw [Int.toNat_of_nonneg hk] at this
   exact this
  .exact ((Same.upd hp).trans (Same.upd hp1)).trans (Same.upd hp2)
structure Fq (f:Int × Int):Prop where
 pos:0 < f.2
 gcd:Int.gcd f.1 f.2 = 1
 sa:f.1.natAbs <= 10 ^ 40
 sb:f.2.natAbs <= 10 ^ 40
theorem Fq.ba {f:Int × Int} (h:Fq f):Bd f.1:=Nat.lt_of_le_of_lt h.sa (by decide +kernel)
theorem Fq.bb {f:Int × Int} (h:Fq f):Bd f.2:=Nat.lt_of_le_of_lt h.sb (by decide +kernel)
noncomputable def Qo (fs:List (Int × Int)):List Nat:=fs.map fun f=>f.2.natAbs
noncomputable def lvB (fs:List (Int × Int)):Nat:=Lv.MP (Qo fs)
noncomputable def lvT (fs:List (Int × Int)):List Int:=fs.map fun f=>f.1 * ((lvB fs:Nat) / f.2)
theorem tL {B:Nat} : ∀ (bs:List Nat) (a:Nat),0 < a->(∀ b ∈ bs,0 < b/\b <= B)->bs.foldl Nat.lcm a <= a * B ^ bs.length
  | [],a,_,_=>by simp
  | b :: bs,a,ha,hb=>by
    have h1:=hb b aM
    have h2:=tL bs (Nat.lcm a b) (Nat.lcm_pos ha h1.1) fun c hc=>hb c (aG _ hc)
    rw [List.foldl_cons,List.length_cons,Nat.pow_succ]
    refine aK h2 ?_
    have h3:Nat.lcm a b <= a * B:=aK (Nat.le_of_dvd (Nat.mul_pos ha h1.1) (Nat.lcm_dvd_mul a b)) (Nat.mul_le_mul_left a h1.2)
    calc Nat.lcm a b * B ^ bs.length <= a * B * B ^ bs.length:=Nat.mul_le_mul_right _ h3
      _ = a * (B ^ bs.length * B):=by rw [Nat.mul_assoc,Nat.mul_comm B]
theorem PX {fs:List (Int × Int)} (h:∀ f ∈ fs,Fq f):∀ b ∈ Qo fs,0 < b:=fun b hb=>by
 obtain ⟨f,hf,rfl⟩:=List.mem_map.mp hb
 have:=(h f hf).pos
 omega
theorem DY {fs:List (Int × Int)} (h:∀ f ∈ fs,Fq f):0 < lvB fs:=Lv.QZ (PX h)
theorem Yv {fs:List (Int × Int)} (h:∀ f ∈ fs,Fq f) (hz:fs.length <= 41):lvB fs <= (10 ^ 40) ^ 41:=by
 have h1:=tL (B:=10 ^ 40) (Qo fs) 1 (by decide) fun b hb=>by
  obtain ⟨f,hf,rfl⟩:=List.mem_map.mp hb
  have:=(h f hf).pos
  exact ⟨by omega,(h f hf).sb⟩
 rw [Nat.one_mul] at h1
 refine aK h1 (Nat.pow_le_pow_right (by decide) ?_)
 unfold Qo
 rw [ak]
 exact hz
theorem Ke {fs:List (Int × Int)} (h:∀ f ∈ fs,Fq f) (hz:fs.length <= 41):Bd (lvB fs:Nat):=by
 unfold Bd
 rw [Int.natAbs_natCast]
 exact Nat.lt_of_le_of_lt (Yv h hz) (by decide +kernel)
theorem Il {fs:List (Int × Int)} (h:∀ f ∈ fs,Fq f) (k:Nat):∀ f ∈ fs.take k,Fq f:=fun f hf=>h f (List.mem_of_mem_take hf)
theorem cG {α:Type} {l:List α} {k:Nat} {x:α} (h:l[k]? = some x):l.take (k + 1) = l.take k ++ [x]:=by
 rw [List.take_succ,h]; rfl
theorem Rk {fs:List (Int × Int)} {k:Nat} {f:Int × Int} (h:fs[k]? = some f):lvB (fs.take (k + 1)) = Nat.lcm (lvB (fs.take k)) f.2.natAbs:=by
 unfold lvB Lv.MP Qo
 rw [cG h,bh,List.foldl_append]; rfl
theorem Wo {n:Nat} {b:Int} (hb:0 < b) (hn:0 < n):Int.fdiv (n:Int) (Int.gcd (n:Int) b:Nat) * b = (Nat.lcm n b.natAbs:Nat):=by
 obtain ⟨m,rfl⟩ : ∃ m:Nat,b = m:=⟨b.toNat,by omega⟩
 have hg:0 < Nat.gcd n m:=Nat.gcd_pos_of_pos_left m hn
 rw [show Int.gcd (n:Int) (m:Int) = Nat.gcd n m from rfl,Int.natAbs_natCast,mj _ (by omega),<- Int.natCast_ediv,<- Int.natCast_mul]
 congr 1
 unfold Nat.lcm
 exact Nat.div_mul_right_comm (Nat.gcd_dvd_left n m) m
theorem Vu {fs:List (Int × Int)} {f:Int × Int} (hf:f ∈ fs) (hq:Fq f):f.2 ∣ (lvB fs:Nat):=by
 have h1:f.2.natAbs ∣ lvB fs:=Lv.Ql (List.mem_map.mpr ⟨f,hf,rfl⟩)
 have:=Int.natCast_dvd_natCast.mpr h1
 rwa [Int.natAbs_of_nonneg (Int.le_of_lt hq.pos)] at this
noncomputable def vA:Sp:=fun vs H Q _=>∃ (l:Addr) (xs:List V) (fs:List (Int × Int)),vs = [.ref l]/\H l = some (.lst xs)/\FL H xs fs/\(∀ f ∈ fs,Fq f)/\fs.length <= 41 /\
 ∀ D p,H D = none->upd H D (.lst ((lvT fs).map V.int)) p = none->Q (.ref p) (upd (upd H D (.lst ((lvT fs).map V.int))) p (.tup [.ref D,.int (lvB fs:Nat)]))
noncomputable def lJ (l:Addr) (fs:List (Int × Int)) (H1:Hp) (k:Nat) (σ:L2.St) (H:Hp):Prop:=∃ z,σ = [some (.ref l),some (.int (lvB (fs.take k):Nat)),z]/\H = H1
noncomputable def lK (fs:List (Int × Int)) (D:Addr) (H1:Hp) (k:Nat) (ys:List V) (H:Hp):Prop:=ys = ((lvT fs).take k).map V.int/\H = upd H1 D (.lst ys)
theorem RN (F:Fun K pY pY xJ f fd) (gP:OkF P w K mg base 1 iZ iV gA):cB P w K mg base CX0 2 f fd pQ vA:=by
 refine F.ok uX (fun vs H Q E h=>?_) (fun cdv A outer s H vs Q E hr h=>?_)
 .obtain ⟨l,xs,fs,rfl,_⟩:=h
  rfl
 .obtain ⟨l,xs,fs,rfl,hl,hf,hq,hz,q⟩:=h
  refine ⟨_,(bH (bV (i:=1) uX.nd rfl (Or.inr rfl) bF)
   (bH (kO PassesOwn.never rfl (dw ((pv 0)).mono) (cD (i:=2) uX.nd rfl (Or.inl rfl))
    (bI (bV (i:=1) uX.nd rfl (Or.inr rfl) (bN fD (bN jh (pv 1) (bL gP (hr.mono (by decide)) (by rfl) (bA (pv 1) (bA (bQ eN (pv 2) bF (fun _ _=>rfl)) bC)))) (bQ eN (pv 2) bF (fun _ _=>rfl))))))
   (bI (bU (cU (bA (mJ (bK xJ) Mh ["fractions", "bottom", "?one"] ["one"] (dw ((pv 0)).mono) (fW (i:=0)) dB (bN fD (bQ eN (pv 0) bF (fun _ _=>rfl)) (bN jh (pv 2) (bQ eN (pv 0) bF (fun _ _=>rfl))))) (bA (pv 1) bC))))))),?_⟩
  unfold gA
  walk_at "rd"
  have hx:xs.length <= 41:=by rw [hf.length]; exact hz
  refine i_ ⟨_,rfl,l,xs,rfl,hl,lJ l fs H,⟨none,rfl,rfl⟩,?_,?_⟩
  .rintro k x σ' H' hk ⟨z,rfl,rfl⟩ _
   obtain ⟨p,g,rfl,hg,hp⟩:=hf.get hk
   have hm:=aA hg
   have b0:=DY (Il hq k)
   have b1:=Ke (Il hq k) (by rw [aY]; omega)
   have g0:=Dl (a:=((lvB (fs.take k):Nat):Int)) (b:=g.2) (Int.ne_of_gt (hq g hm).pos)
   have g1:=JX (a:=((lvB (fs.take k):Nat):Int)) (b:=g.2) (Int.ne_of_gt (hq g hm).pos) (hq g hm).bb
   walk_at "rd"
   simp only [hp]
   walk_at "rd"
   refine ⟨by omega,g1,?_,(hq g hm).bb,hl,some (.ref p),?_,rfl⟩
   .rw [mj _ g0]
    exact b1.div g0
   .rw [Wo (hq g hm).pos b0,<- Rk hg]
  .rintro σ' H' ⟨z,rfl,rfl⟩ _
   walk_at "rd"
   have e0:fs.take xs.length = fs:=by rw [hf.length]; exact aN
   rw [e0]
   refine dz ⟨_,rfl,l,xs,rfl,hl,aK hx (by decide),fun D hD=>⟨lK fs D H',⟨rfl,rfl⟩,?_,?_⟩⟩
   .rintro k x ys Hc hk ⟨rfl,rfl⟩ _ ha
    obtain ⟨p,g,rfl,hg,hp⟩:=hf.get hk
    have hm:=aA hg
    have hpD:upd H' D (.lst (((lvT fs).take k).map V.int)) p = some (.tup [.int g.1,.int g.2]):=(bG (bB hp hD)).trans hp
    walk_at "rd"
    simp only [hpD]
    walk_at "rd"
    refine ⟨Int.ne_of_gt (hq g hm).pos,(hq g hm).bb,(hq g hm).ba,?_,ha,?_,oF⟩
    .rw [mj _ (hq g hm).pos]
     exact (Ke hq hz).div (hq g hm).pos
    .rw [mj _ (hq g hm).pos]
     have e1:(lvT fs)[k]? = some (g.1 * ((lvB fs:Nat) / g.2)):=by
      unfold lvT
      rw [aq,hg]; rfl
     rw [cG e1,bh]; rfl
   .rintro ys Hc ⟨rfl,rfl⟩ _
    have e2:(lvT fs).take xs.length = lvT fs:=by
     refine aJ ?_
     unfold lvT
     rw [ak,hf.length]
     exact aD _
    rw [e2]
    exact ⟨dh,fun p hp=>q D p hD hp⟩
noncomputable def ud:Sp:=fun vs H Q _=>∃ (l:Addr) (xs:List V) (fs:List (Int × Int)),vs = [.ref l]/\H l = some (.lst xs)/\FL H xs fs/\(∀ f ∈ fs,Fq f)/\fs.length <= 41 /\
 ∀ p x y,Low (lvT fs).sum (lvB fs:Nat) x y->H p = none->Q (.ref p) (upd H p (.tup [.int x,.int y]))
theorem RV (F:Fun K pH pH Dy f fd) (T:Txt K mg D) (Ec:OkF P w K mg base 2 pY pQ vA) (lB:OkF P w K mg base 2 mH lY kh):cB P w K mg base CX0 3 f fd pA ud:=by
 refine cB.cleanP (sp:=fun vs H Q _=>∃ (l:Addr) (xs:List V) (fs:List (Int × Int)),vs = [.ref l]/\H l = some (.lst xs)/\FL H xs fs/\(∀ f ∈ fs,Fq f)/\fs.length <= 41 /\
   ∀ p x y H',Low (lvT fs).sum (lvB fs:Nat) x y->Same H H'->H p = none->H' p = some (.tup [.int x,.int y])->Q (.ref p) H')
  (F.ok GP (fun vs H Q E h=>?_) (fun cdv A outer s H vs Q E hr h=>?_)) fun vs H Q E ⟨l,xs,fs,h1,h2,h3,h4,h5,h6⟩=>⟨l,xs,fs,h1,h2,h3,h4,h5,fun p x y H' l S e1 e2=>⟨S,p,_,e2,e1,h6 p x y l e1⟩⟩
 .obtain ⟨l,xs,fs,rfl,_⟩:=h
  rfl
 .obtain ⟨l,xs,fs,rfl,hl,hf,hq,hz,q⟩:=h
  refine ⟨_,(bH (bV (i:=1) GP.nd rfl (Or.inl rfl) (bL Ec (hr.mono (by decide)) (by rfl) (bA (pv 0) bC)))
   (bI (bU (bL lB (hr.mono (by decide)) (by rfl) (bA (bO (Bk rfl) (by rfl) T.WW boot_sum (bA (bQ eN (pv 1) bF (fun _ _=>rfl)) bC)) (bA (bQ eN (pv 1) bF (fun _ _=>rfl)) bC)))))),?_⟩
  unfold vA kh
  walk_at "rd"
  refine ⟨xs,hl,fs,hf,hq,hz,fun D p hD hp=>⟨lvT fs,(bG (bB bD hp)).trans bD,?_,Ke hq hz,fun p1 x y lw hp1=>?_⟩⟩
  .have:=DY hq
   omega
  .have S:=(Same.upd hD (o:=.lst ((lvT fs).map V.int))).trans (Same.upd hp (o:=.tup [.ref D,.int (lvB fs:Nat)]))
   exact q p1 x y _ lw (S.trans (Same.upd hp1)) (S.free hp1) bD
structure Pairs (H:Hp) (xs:List V) (ps:List (Str × Int × Int)):Prop where
 len:xs.length = ps.length
 at_:∀ (k:Nat) (g:Str × Int × Int),ps[k]? = some g->∃ t c:Addr,xs[k]? = some (.ref t)/\H t = some (.tup [.str g.1,.ref c])/\H c = some (.tup [.int g.2.1,.int g.2.2])
structure PN (g:Str × Int × Int):Prop where
 len:g.1.length <= 1000
 wd:je g.1.cps.toList = true
 pos:0 < g.2.2
 gcd:Int.gcd g.2.1 g.2.2 = 1
 lo:0 <= g.2.1
 hi:g.2.1 <= g.2.2
 fq:Fq g.2
noncomputable def jo:Sp:=fun vs H Q _=>∃ (l:Addr) (xs:List V) (ps:List (Str × Int × Int)),vs = [.ref l]/\H l = some (.lst xs)/\Pairs H xs ps/\(∀ g ∈ ps,PN g)/\ps.length <= 41/\(∀ x y,Low (lvT (ps.map (·.2))).sum (lvB (ps.map (·.2)):Nat) x y->x = 1/\y = 1)/\∀ H',Same H H'->Q .non H'
noncomputable def jP (l:Addr) (H:Hp) (_:Nat) (σ:L2.St) (H':Hp):Prop:=∃ u v,σ = [some (.ref l),u,v]/\H' = H
noncomputable def jQ (D1:Addr) (ps:List (Str × Int × Int)) (H:Hp) (k:Nat) (ys:List V) (Hc:Hp):Prop:=FL H ys ((ps.map (·.2)).take k)/\Hc = upd H D1 (.lst ys)
theorem zK (F:Fun K gq gq j7 f fd) (T:Txt K mg D) (iW:OkX P w K mg base 2 cT cV gU) (kW:OkX P w K mg base 3 dY dX (lN (K:=K))) (Qp:OkX P w K mg base 3 pH pA ud):cB P w K mg base (CXO P w) 4 f fd gH jo:=by
 refine F.okX lZ (fun vs H Q E h=>?_) (fun cdv A outer s H vs Q E hr h=>?_)
 .obtain ⟨l,xs,ps,rfl,_⟩:=h
  rfl
 .obtain ⟨l,xs,ps,rfl,hl,hp,hg,hz,h1,q⟩:=h
  refine ⟨_,(bH (kO PassesOwn.leaving rfl (dw ((pv 0)).mono) (iT (n:=2) rfl (cC (cD (i:=1) lZ.nd rfl (Or.inl rfl)) (cC (cD (i:=2) lZ.nd rfl (Or.inl rfl)) gQ)))
    (bH (cM (fU iW (hr.mono (by decide)) (by rfl) fK (bA (pv 1) bC)))
    (bI (cM (fU kW (hr.mono (by decide)) (by rfl) fK (bA (pv 2) bC))))))
   (bI (cF (bZ (Ky (K:=K) rfl hr.units) (fU Qp (hr.mono (by decide)) (by rfl) fK (bA (mJ (bK j7) m_ m_ ["pair"] (dw ((pv 0)).mono) (fW (i:=0)) dB (bQ eN (pv 0) bF (fun _ _=>rfl))) bC)) (jB (by rfl) T.Gp) (cj _))
    (bI (qw rfl (by rfl) T.sH T.yO pG (bA fG bC)))
    bW))),?_⟩
  unfold gU lN ud
  walk_at "rd"
  refine i_ ?_
  walk_at "rd"
  refine ⟨xs,hl,jP l H,⟨none,none,rfl,rfl⟩,?_,?_⟩
  .rintro k x σ' H' hk ⟨u,v,rfl,rfl⟩ _
   have lk:k < ps.length:=by rw [<- hp.len]; exact (ao.mp hk).1
   have e:ps[k]? = some ps[k]:=aj lk
   have ok:=hg _ (aR lk)
   obtain ⟨t,c,a,b,d⟩:=hp.at_ k _ e
   rw [hk] at a
   cases a
   exact ⟨t,rfl,_,b,rfl,_,_,rfl,_,_,rfl,rfl,_,rfl,_,rfl,ok.len,ok.wd,_,rfl,c,rfl,⟨_,_,⟨.of d,ok.pos,ok.gcd⟩,ok.lo,ok.hi,ok.fq.bb⟩,hl,_,_,rfl,rfl⟩
  .rintro σ' H' ⟨u,v,rfl,rfl⟩ _
   refine dz ?_
   walk_at "rd"
   refine ⟨xs,hl,by rw [hp.len]; exact aK hz (by decide),fun D1 hD=>⟨jQ D1 ps H',⟨.nil,rfl⟩,?_,?_⟩⟩
   .rintro k x ys Hc hk ⟨hf,rfl⟩ hy _
    have lk:k < ps.length:=by rw [<- hp.len]; exact (ao.mp hk).1
    have e:ps[k]? = some ps[k]:=aj lk
    obtain ⟨t,c,a,b,d⟩:=hp.at_ k _ e
    rw [hk] at a
    cases a
    walk_at "rd"
    refine ⟨_,(bG (bB b hD)).trans b,_,eE,(bG (bB hl hD)).trans hl,?_,oF⟩
    rw [List.take_succ,aq,e]
    exact hf.append (.one d)
   .rintro ys Hc ⟨hf,rfl⟩ hy
    have hk:(ps.map (·.2)).take xs.length = ps.map (·.2):=by rw [hp.len,<- ak (f:=fun g:Str × Int × Int=>g.2),aN]
    rw [hk] at hf
    refine ⟨ys,bD,_,hf.same (Same.upd hD),?_,by rw [ak]; exact hz,fun p x y lo hn=>?_⟩
    .intro g hm
     obtain ⟨g',hm',rfl⟩:=List.mem_map.mp hm
     exact (hg g' hm').fq
    .obtain ⟨rfl,rfl⟩:=h1 x y lo
     refine ⟨_,.tup (.of bD) (cI.ints K _ [1,1]),_,.tup (T.yw _) (cI.ints K _ [1,1]),rfl,rfl,?_⟩
     rw [if_neg (by decide)]
     exact q _ ((Same.upd hD).trans (Same.upd hn))
inductive DA (H:Hp) (S:Int):List (Key × V)->List (Str × Int)->Prop
 | nil:DA H S [] []
 | cons {n:Str} {W:Int} {c:Addr} {kvs:List (Key × V)} {acc:List (Str × Int)} (h:H c = some (.tup [.int (Ac.lw W S).1,.int (Ac.lw W S).2])) (t:DA H S kvs acc):DA H S ((.inr n,.ref c) :: kvs) ((n,W) :: acc)
theorem DA.imp {H H':Hp} {S:Int} (h:∀ c x y,H c = some (.tup [.int x,.int y])->H' c = some (.tup [.int x,.int y])):∀ {kvs:List (Key × V)} {acc:List (Str × Int)},DA H S kvs acc->DA H' S kvs acc
 | _,_,.nil=>.nil
 | _,_,.cons a t=>.cons (h _ _ _ a) (t.imp h)
theorem DA.len {H:Hp} {S:Int} : ∀ {kvs:List (Key × V)} {acc:List (Str × Int)},DA H S kvs acc->kvs.length = acc.length
 | _,_,.nil=>rfl
 | _,_,.cons _ t=>congrArg (· + 1) t.len
theorem DA.keys {H:Hp} {S:Int} : ∀ {kvs:List (Key × V)} {acc:List (Str × Int)},DA H S kvs acc->kvs.map (·.1) = (acc.map (·.1)).map Sum.inr
 | _,_,.nil=>rfl
 | _,_,.cons _ t=>by rw [List.map_cons,List.map_cons,List.map_cons,t.keys]
theorem DA.val {H:Hp} {S:Int} (r:Str):∀ {kvs:List (Key × V)} {acc:List (Str × Int)},DA H S kvs acc->(mL kvs (.inr r) = none/\Ac.look acc r = 0)\/∃ c,mL kvs (.inr r) = some (.ref c)/\H c = some (.tup [.int (Ac.lw (Ac.look acc r) S).1,.int (Ac.lw (Ac.look acc r) S).2])
 | _,_,.nil=>.inl ⟨rfl,rfl⟩
 | _,_,.cons (n:=n) (W:=W) (c:=c) (kvs:=kvs) (acc:=acc) h t=>by
  by_cases e:n = r
  .subst e
   refine .inr ⟨c,xQ rfl,?_⟩
   have:Ac.look ((n,W) :: acc) n = W:=by simp [Ac.look]
   rw [this]; exact h
  .have e1:mL ((Sum.inr n,V.ref c) :: kvs) (Sum.inr r:Key) = mL kvs (.inr r):=yR fun z=>e (Sum.inr.inj z)
   have e2:Ac.look ((n,W) :: acc) r = Ac.look acc r:=by simp [Ac.look,List.find?_cons,e]
   rw [e1,e2]
   exact t.val r
theorem DA.any {H:Hp} {S:Int} (r:Str):∀ {kvs:List (Key × V)} {acc:List (Str × Int)},DA H S kvs acc->(kvs.any fun kv=>decide (kv.1 = (.inr r:Key))) = acc.any fun g=>decide (g.1 = r)
 | _,_,.nil=>rfl
 | _,_,.cons (n:=n) _ t=>by
  rw [List.any_cons,List.any_cons,t.any r]
  congr 1
  by_cases e:n = r
  .subst e; rw [decide_eq_true rfl,decide_eq_true rfl]
  .rw [decide_eq_false e,decide_eq_false fun z=>e (Sum.inr.inj z)]
theorem DA.sets {H:Hp} {S y:Int} {c:Addr} {r:Str} (hc:H c = some (.tup [.int (Ac.lw y S).1,.int (Ac.lw y S).2])):∀ {kvs:List (Key × V)} {acc:List (Str × Int)},DA H S kvs acc->DA H S (kvs.map fun kv=>if kv.1 = (.inr r:Key) then (kv.1,.ref c) else kv) (acc.map fun g=>if g.1 = r then (g.1,y) else g)
 | _,_,.nil=>.nil
 | _,_,.cons (n:=n) (W:=W) (c:=c') h t=>by
  rw [List.map_cons,List.map_cons]
  by_cases e:n = r
  .subst e
   rw [if_pos rfl,if_pos rfl]
   exact .cons hc (t.sets hc)
  .rw [if_neg e,if_neg fun z=>e (Sum.inr.inj z)]
   exact .cons h (t.sets hc)
theorem DA.snoc {H:Hp} {S y:Int} {c:Addr} {r:Str} (hc:H c = some (.tup [.int (Ac.lw y S).1,.int (Ac.lw y S).2])):∀ {kvs:List (Key × V)} {acc:List (Str × Int)},DA H S kvs acc->DA H S (kvs ++ [(.inr r,.ref c)]) (acc ++ [(r,y)])
 | _,_,.nil=>.cons hc .nil
 | _,_,.cons h t=>.cons h (t.snoc hc)
theorem DA.put {H:Hp} {S y:Int} {c:Addr} {r:Str} {kvs:List (Key × V)} {acc:List (Str × Int)} (hc:H c = some (.tup [.int (Ac.lw y S).1,.int (Ac.lw y S).2])) (h:DA H S kvs acc):DA H S (putK kvs (.inr r) (.ref c)) (Ac.put acc r y):=by
 unfold putK Ac.put
 rw [h.any r]
 split
 .exact h.sets hc
 .exact h.snoc hc
theorem DA.get {H:Hp} {S:Int} : ∀ {kvs:List (Key × V)} {acc:List (Str × Int)} {i:Nat} {k:Key} {v:V},DA H S kvs acc->kvs[i]? = some (k,v)->∃ n W c,acc[i]? = some (n,W)/\k = .inr n/\v = .ref c/\H c = some (.tup [.int (Ac.lw W S).1,.int (Ac.lw W S).2])
 | _,_,_,_,_,.nil,e=>by simp at e
 | _,_,0,_,_,.cons h _,e=>by
  rw [List.getElem?_cons_zero] at e
  cases e
  exact ⟨_,_,_,rfl,rfl,rfl,h⟩
 | _,_,i + 1,_,_,.cons _ t,e=>t.get (by rw [List.getElem?_cons_succ] at e; exact e)
theorem KY:∀ {kvs:List (Key × V)} {i:Nat} {k:Key} {v:V},(kvs.map (·.1)).Nodup->kvs[i]? = some (k,v)->mL kvs k = some v
 | [],_,_,_,_,e=>by simp at e
 | p :: kvs,0,k,v,_,e=>by
  rw [List.getElem?_cons_zero] at e
  cases e
  exact xQ rfl
 | p :: kvs,i + 1,k,v,hn,e=>by
  rw [List.getElem?_cons_succ] at e
  rw [List.map_cons,List.nodup_cons] at hn
  rw [yR fun z=>hn.1 (by rw [z]; exact List.mem_map.mpr ⟨(k,v),aA e,rfl⟩)]
  exact KY hn.2 e
inductive WF (K:Frag) (H:Hp):List V->List (Str × Int × Int)->List (Str × Addr)->Prop
 | nil:WF K H [] [] []
 | cons {t c:Addr} {n:Str} {x y:Int} {xs:List V} {gs:List (Str × Int × Int)} {ws:List (Str × Addr)} (h1:H t = some (.tup [.str n,.ref c])) (h2:SqT K H c [.int x,.int y]) (r:WF K H xs gs ws):WF K H (.ref t :: xs) ((n,x,y) :: gs) ((n,c) :: ws)
theorem WF.imp {H H':Hp} (h:∀ t ys,H t = some (.tup ys)->H' t = some (.tup ys)) (h':∀ c xs,SqT K H c xs->SqT K H' c xs):∀ {xs:List V} {gs:List (Str × Int × Int)} {ws:List (Str × Addr)},WF K H xs gs ws->WF K H' xs gs ws
 | _,_,_,.nil=>.nil
 | _,_,_,.cons a b r=>.cons (h _ _ a) (h' _ _ b) (r.imp h h')
theorem WF.same {H H':Hp} (S:Same H H') {xs:List V} {gs:List (Str × Int × Int)} {ws:List (Str × Addr)} (h:WF K H xs gs ws):WF K H' xs gs ws:=h.imp (fun t ys e=>S _ _ e) fun c xs e=>S.tup e
theorem WF.updL {H:Hp} {l:Addr} {ys zs:List V} (hl:H l = some (.lst ys)) {xs:List V} {gs:List (Str × Int × Int)} {ws:List (Str × Addr)} (h:WF K H xs gs ws):WF K (upd H l (.lst zs)) xs gs ws :=
 h.imp (fun t us e=>(bG (eF e hl (by intro z; cases z))).trans e) fun c xs e=>e.updO hl (by intro ys z; cases z) (by intro ob ys z; cases z)
theorem WF.snoc {H:Hp} {t c:Addr} {n:Str} {x y:Int} (h1:H t = some (.tup [.str n,.ref c])) (h2:SqT K H c [.int x,.int y]):∀ {xs:List V} {gs:List (Str × Int × Int)} {ws:List (Str × Addr)},WF K H xs gs ws->WF K H (xs ++ [.ref t]) (gs ++ [(n,x,y)]) (ws ++ [(n,c)])
 | _,_,_,.nil=>.cons h1 h2 .nil
 | _,_,_,.cons a b r=>.cons a b (r.snoc h1 h2)
theorem WF.ways {H:Hp} : ∀ {xs:List V} {gs:List (Str × Int × Int)} {ws:List (Str × Addr)},WF K H xs gs ws->Nh H xs ws
 | _,_,_,.nil=>⟨rfl,fun k g e=>by simp at e⟩
 | _,_,_,.cons a b r=>⟨congrArg (· + 1) r.ways.len,fun k g e=>by
  cases k with
  | zero =>
   rw [List.getElem?_cons_zero] at e
   cases e
   exact ⟨_,rfl,a⟩
  | succ k =>
   rw [List.getElem?_cons_succ] at e ⊢
   exact r.ways.at_ k g e⟩
noncomputable def Lz (S:Int) (acc:List (Str × Int)):List (Str × Int × Int):=(acc.filter fun g=>decide (0 < g.2)).map fun g=>(g.1,Ac.lw g.2 S)
theorem xT {S:Int} {acc:List (Str × Int)} {i:Nat} {n:Str} {W:Int} (h:acc[i]? = some (n,W)):Lz S (acc.take (i + 1)) = Lz S (acc.take i) ++ if 0 < W then [(n,Ac.lw W S)] else []:=by
 unfold Lz
 rw [List.take_succ,h,List.filter_append,bh]
 congr 1
 show List.map _ (List.filter _ [(n,W)]) = _
 by_cases e:0 < W
 .rw [if_pos e,List.filter_cons,if_pos (decide_eq_true e)]; rfl
 .rw [if_neg e,List.filter_cons,if_neg (by simpa using e)]; rfl
structure PW (H:Hp) (xs:List V) (gs:List (Str × Int)) (S:Int):Prop where
 len:xs.length = gs.length
 at_:∀ (k:Nat) (g:Str × Int),gs[k]? = some g->∃ t c:Addr,xs[k]? = some (.ref t)/\H t = some (.tup [.str g.1,.ref c])/\H c = some (.tup [.int (Ac.lw g.2 S).1,.int (Ac.lw g.2 S).2])
theorem PW.imp {H H':Hp} (h':∀ t ys,H t = some (.tup ys)->H' t = some (.tup ys)) {xs:List V} {gs:List (Str × Int)} {S:Int} (h:PW H xs gs S):PW H' xs gs S:=⟨h.len,fun k g e=>let ⟨t,c,a,b,d⟩:=h.at_ k g e; ⟨t,c,a,h' _ _ b,h' _ _ d⟩⟩
theorem PW.same {H H':Hp} {xs:List V} {gs:List (Str × Int)} {S:Int} (h:PW H xs gs S) (T:Same H H'):PW H' xs gs S:=h.imp fun _ _ e=>T _ _ e
theorem PW.pairs {H:Hp} {xs:List V} {gs:List (Str × Int)} {S:Int} (h:PW H xs gs S):Pairs H xs (gs.map fun g=>(g.1,Ac.lw g.2 S)):=⟨by rw [h.len,ak],fun k g e=>by
 rw [aq] at e
 cases e0:gs[k]? with
 | none=>rw [e0] at e; cases e
 | some g0 =>
  rw [e0] at e
  cases e
  exact h.at_ k g0 e0⟩
structure Wt (gs:List (Str × Int)) (S:Int):Prop where
 pos:0 < S
 le:S <= 10 ^ 20
 len:gs.length <= 8
 wd:∀ g ∈ gs,g.1.length <= 1000/\je g.1.cps.toList = true
 lo:∀ g ∈ gs,0 <= g.2
 sum:(gs.map (·.2)).sum = S
theorem Mv {i:Int} (h:i.natAbs <= 10 ^ 20):Bd i:=Nat.lt_of_le_of_lt h (by decide +kernel)
theorem Li {gs:List (Str × Int)} : (∀ g ∈ gs,0 <= g.2)->0 <= (gs.map (·.2)).sum/\∀ g ∈ gs,g.2 <= (gs.map (·.2)).sum:=by
 induction gs with
 | nil=>intro _; exact ⟨by simp,by simp⟩
 | cons a gs ih =>
  intro h
  obtain ⟨h1,h2⟩:=ih fun g hg=>h g (aG _ hg)
  have h0:=h a aM
  rw [List.map_cons,List.sum_cons]
  refine ⟨by omega,fun g hg=>?_⟩
  rcases List.mem_cons.mp hg with rfl | hg
  .omega
  .have:=h2 g hg
   omega
theorem Wt.hi {gs:List (Str × Int)} {S:Int} (h:Wt gs S) {g:Str × Int} (hg:g ∈ gs):g.2 <= S:=by
 rw [<- h.sum]; exact (Li h.lo).2 g hg
theorem Wt.pair {gs:List (Str × Int)} {S:Int} (h:Wt gs S) {g:Str × Int} (hg:g ∈ gs):PN (g.1,Ac.lw g.2 S):=by
 have p:=h.pos
 have l:=h.le
 have lo:=h.lo g hg
 have hi:=h.hi hg
 have p2:=Ac.kY (t:=g.2) p
 have g1:=Ac.vI (t:=g.2) p
 exact ⟨(h.wd g hg).1,(h.wd g hg).2,p2,g1,Ac.WQ p lo,Ac.WT p hi,p2,g1,aK (Ac.HS _ _) (aK (by omega:g.2.natAbs <= 10 ^ 20) (by decide)),aK (Ac.Cj _ _) (aK (by omega:S.natAbs <= 10 ^ 20) (by decide))⟩
theorem Us (a b c d:Int):PyData.eqv (.tuple (List.map PyData.int [a,b])) (.tuple (List.map PyData.int [c,d])) = (decide (a = c) && decide (b = d)):=by
 simp [PyData.eqv,PyData.eqvAll]
 rfl
noncomputable def rC (K:Frag):Sp:=fun vs H Q _=>∃ (l:Addr) (xs:List V) (gs:List (Str × Int)) (S:Int),vs = [.ref l]/\H l = some (.lst xs)/\PW H xs gs S/\Wt gs S /\
 ∀ H' r ys ws,Same H H'->H r = none->H' r = some (.lst ys)->WF K H' ys (Ac.ways gs S) ws->Q (.ref r) H'
noncomputable def jJ (l d:Addr) (gs:List (Str × Int)) (S:Int) (H:Hp) (k:Nat) (σ:L2.St) (H':Hp):Prop:=∃ u v kvs,σ = [some (.ref l),some (.ref d),u,v]/\Same H H'/\H' d = some (.dK kvs)/\DA H' S kvs (Ac.ig (gs.take k))
noncomputable def jC (K:Frag) (acc:List (Str × Int)) (S:Int) (d D1:Addr) (u:HO) (H:Hp) (i:Nat) (ys:List V) (Hc:Hp):Prop:=Same (upd H d u) Hc/\Hc D1 = some (.lst ys)/\∃ ws,WF K Hc ys (Lz S (acc.take i)) ws
theorem yW (F:Fun K gJ gJ jX f fd) (T:Txt K mg D) (Uj:OkX P w K mg base 3 uV uK (qI (K:=K) (· + ·))):cB P w K mg base (CXO P w) 4 f fd gM (rC K):=by
 refine F.okX jG (fun vs H Q E h=>?_) (fun cdv A outer s H vs Q E hr h=>?_)
 .obtain ⟨l,xs,gs,S,rfl,_⟩:=h
  rfl
 .obtain ⟨l,xs,gs,S,rfl,hl,hp,W,q⟩:=h
  have p0:=W.pos
  have sle:=W.le
  refine ⟨_,(bH (bV (i:=1) jG.nd rfl (Or.inr rfl) yx)
   (bH (kO PassesOwn.leaving rfl (dw ((pv 0)).mono) (iT (n:=2) rfl (cC (cD (i:=2) jG.nd rfl (Or.inl rfl)) (cC (cD (i:=3) jG.nd rfl (Or.inl rfl)) gQ)))
    (bI (Dj (rH hr) (pv 1) (pv 2) (fU Uj (hr.mono (by decide)) (by rfl) fK (bA (Qq (rH hr) (pv 1) (pv 2) (jB (by rfl) T.vp) (by first | exact ⟨rfl,rfl,rfl,rfl,rfl⟩ | constructor <;> rfl)) (bA (pv 3) bC))) rfl)))
   (bI (bU (mJ (bK jX) rR ["pairs", "chances", "?room", "chance"] ["room"] (Vx ((pv 1)).mono) (fW (i:=0)) (Ul (bZ (Ky (K:=K) rfl hr.units) (Ei (rH hr) (pv 2) (pv 0) (fun _ _=>rfl)) (jB (by rfl) T.vp) (cj _))) (cU (bA (pv 0) (bA (Ei (rH hr) (pv 2) (pv 0) (fun _ _=>rfl)) bC)))))))),?_⟩
  unfold qI
  walk_at "rd"
  refine fun d hd=>i_ ?_
  walk_at "rd"
  have ld:l ≠ d:=bB hl hd
  refine ⟨xs,(bG ld).trans hl,jJ l d gs S H,⟨none,none,[],rfl,Same.upd hd,bD,.nil⟩,?_,?_⟩
  .rintro k x σ' H' hk ⟨u,v,kvs,rfl,S1,h1,da⟩ _
   have lk:k < gs.length:=by rw [<- hp.len]; exact (ao.mp hk).1
   have e:gs[k]? = some gs[k]:=aj lk
   have hm:=aR lk
   obtain ⟨t,c,a,b,cc⟩:=hp.at_ k _ e
   rw [hk] at a
   cases a
   generalize gs[k] = g at *
   obtain ⟨n,x⟩:=g
   have wx:=W.hi hm
   have wl:=W.lo _ hm
   have al:=Ac.yp (gs.take k) fun g hg=>W.lo g (List.mem_of_mem_take hg)
   have st:((gs.take k).map (·.2)).sum <= S:=by
    have e1:gs.map (·.2) = (gs.take k).map (·.2) ++ (gs.drop k).map (·.2):=by rw [<- bh,List.take_append_drop]
    have e2:=(Li (gs:=gs.drop k) fun g hg=>W.lo g (List.mem_of_mem_drop hg)).1
    have e3:=W.sum
    rw [e1,List.sum_append] at e3
    omega
   have look:0 <= Ac.look (Ac.ig (gs.take k)) n/\(Ac.look (Ac.ig (gs.take k)) n).natAbs <= 10 ^ 20:=by
    rcases Ac.GZ (Ac.ig (gs.take k)) n with e0 | ⟨g,hg,e0⟩
    .rw [e0]; exact ⟨Int.le_refl _,by decide⟩
    .rw [e0]
     have:=al.2.2 g hg
     omega
   obtain ⟨cq,hq,sq⟩ : ∃ cq,(mL kvs (.inr n)).getD (.ref D.NOUGHT) = .ref cq/\SqT K H' cq [.int (Ac.lw (Ac.look (Ac.ig (gs.take k)) n) S).1,.int (Ac.lw (Ac.look (Ac.ig (gs.take k)) n) S).2]:=by
    rcases da.val n with ⟨e1,e2⟩ | ⟨c',e1,e2⟩
    .rw [e1,e2,((Ac.qX p0).mpr rfl).1,((Ac.qX p0).mpr rfl).2]
     exact ⟨_,rfl,T.rB H'⟩
    .rw [e1]
     exact ⟨c',rfl,.of e2⟩
   walk_at "rd"
   have q1:=Ac.kY (t:=Ac.look (Ac.ig (gs.take k)) n) p0
   have q2:=Ac.kY (t:=x) p0
   have d1:=aK (Ac.HS (Ac.look (Ac.ig (gs.take k)) n) S) look.2
   have d2:=aK (Ac.Cj (Ac.look (Ac.ig (gs.take k)) n) S) (by omega:S.natAbs <= 10 ^ 20)
   have d3:=aK (Ac.HS x S) (by have:x <= S:=wx; have:0 <= x:=wl; omega:x.natAbs <= 10 ^ 20)
   have d4:=aK (Ac.Cj x S) (by omega:S.natAbs <= 10 ^ 20)
   have d5:Bd ((Ac.lw (Ac.look (Ac.ig (gs.take k)) n) S).2 * (Ac.lw x S).2):=by
    refine Nat.lt_of_le_of_lt (m:=10 ^ 20 * 10 ^ 20) ?_ (by decide +kernel)
    rw [Int.natAbs_mul]
    exact Nat.mul_le_mul d2 d4
   have hlen:kvs.length < sizeLine:=by
    have h9:9 < sizeLine:=by decide
    have:=al.2.1
    have:=W.len
    rw [da.len]
    rw [aY] at *
    omega
   refine ⟨_,S1 _ _ b,rfl,_,_,rfl,_,_,rfl,rfl,.inl ⟨kvs,.inl h1⟩,_,qJ.k (k:=.inr n) h1,cq,hq,c,rfl,_,_,sq,_,_,.of (S1 _ _ cc),Mv d1,Mv d2,Mv d3,Mv d4,q1,q2,d5,fun r z o lo hr=>?_⟩
   have rd:d ≠ r:=bB h1 hr
   refine ⟨_,Ir.k (k:=.inr n) ((bG rd).trans h1) hlen,(bG ld).trans ((bG (bB ‹H' l = some (HO.lst xs)› hr)).trans ‹H' l = some (HO.lst xs)›),_,_,_,rfl,?_,bD,?_⟩
   .intro b' o' e'
    rw [bG (bB e' hd),bG (bB (S1 _ _ e') hr)]
    exact S1 _ _ e'
   .obtain ⟨ez,eo⟩:=Ac.Ys p0 lo.pos lo.gcd lo.eq
    rw [cG e,Ac.vO]
    refine DA.put ?_ (da.imp fun c' x' y' e'=>?_)
    .rw [bG rd.symm,<- ez,<- eo]; exact bD
    .rw [bG (eF e' h1 (by intro z; cases z)),bG (bB e' hr)]; exact e'
  .rintro σ' H' ⟨u,v,kvs,rfl,S1,h1,da⟩ _
   refine Ho ?_
   have e8:gs.take xs.length = gs:=by rw [hp.len,aN]
   rw [e8] at da
   have al:=Ac.yp gs W.lo
   have nd:(kvs.map (·.1)).Nodup:=by
    rw [da.keys]
    exact al.1.map (f:=Sum.inr) (S:=(· ≠ ·)) fun a b h z=>h (Sum.inr.inj z)
   have hlen:kvs.length <= sizeLine:=by
    have h9:9 < sizeLine:=by decide
    have:=al.2.1
    have:=W.len
    rw [da.len]
    omega
   walk_at "rd"
   refine ⟨kvs,h1,hlen,fun o D1 hD1=>⟨jC K (Ac.ig gs) S d D1 (.frz o (.dK kvs)) H',⟨Same.upd hD1,bD,[],.nil⟩,?_,?_⟩⟩
   .rintro i k y ys Hc hi ⟨S2,hD,ws,wf⟩ hy hfr pre hpre
    obtain ⟨u0,rfl⟩:=List.length_eq_one_iff.mp hpre
    obtain ⟨nm,X,c,ea,rfl,rfl,hc⟩:=da.get hi
    have vv:=KY nd hi
    have hcd:c ≠ d:=eF hc h1 (by intro z; cases z)
    have hcc:Hc c = some (.tup [.int (Ac.lw X S).1,.int (Ac.lw X S).2]):=S2 _ _ ((bG hcd).trans hc)
    walk_at "rd"
    have dg:qJ Hc d (kV (.inr nm)) (some (.ref c)):=.inl ⟨kvs,.inr nm,.inr ⟨o,hfr⟩,rfl,vv.symm⟩
    refine ⟨[some (.str nm)],rfl,rfl,_,dg,_,.tup (.of hcc) (cI.ints K _ [_,_]),_,.tup (T.rB _) (cI.ints K _ [0,1]),rfl,rfl,?_⟩
    have X0:=(al.2.2 _ (aA ea)).1
    by_cases hX:X = 0
    .subst hX
     obtain ⟨e1,e2⟩:=(Ac.qX (b:=S) p0).mpr rfl
     rw [show PyData.eqv (.tuple (List.map PyData.int [(Ac.lw 0 S).1,(Ac.lw 0 S).2])) (.tuple (List.map PyData.int [0,1])) = true by rw [e1,e2]; rfl]
     refine ⟨hfr,S2,hD,ws,?_⟩
     rw [xT ea,if_neg (by decide),List.append_nil]
     exact wf
    .have e0:PyData.eqv (.tuple (List.map PyData.int [(Ac.lw X S).1,(Ac.lw X S).2])) (.tuple (List.map PyData.int [0,1])) = false:=by
      rw [Us]
      simp only [Bool.and_eq_false_iff,decide_eq_false_iff_not]
      by_cases h1:(Ac.lw X S).1 = 0
      .exact .inr fun h2=>hX ((Ac.qX p0).mp ⟨h1,h2⟩)
      .exact .inl h1
     rw [e0]
     refine ⟨_,dg,dh,fun p hp=>?_⟩
     have pD:D1 ≠ p:=bB hD hp
     have pd:d ≠ p:=bB hfr hp
     refine ⟨(bG pD).trans hD,(bG pd).trans hfr,?_,bD,ws ++ [(nm,c)],?_⟩
     .intro b' o' e'
      rw [bG (bB e' hD1),bG (bB (S2 _ _ e') hp)]
      exact S2 _ _ e'
     .rw [xT ea,if_pos (by omega)]
      exact WF.updL ((bG pD).trans hD) ((wf.same (Same.upd hp)).snoc bD (.of ((bG (bB hcc hp)).trans hcc)))
   .rintro ys Hc ⟨S2,hD,ws,wf⟩ _
    rw [da.len,aN] at wf
    refine q _ D1 ys ws ?_ ?_ hD wf
    .intro b o' e'
     exact S2 _ _ ((bG (bB e' hd)).trans (S1 _ _ e'))
    .cases z:H D1 with
     | none=>rfl
     | some o' =>
      have:=(bG (H:=H') (o:=.frz o (.dK kvs)) (bB z hd)).trans (S1 _ _ z)
      rw [this] at hD1
      cases hD1
theorem Pa {gs:List (Str × Int)} {S:Int} (W:Wt gs S):∀ (hs:List (Str × Int)) (L:Int),(∀ g ∈ hs,g ∈ gs/\(Ac.lw g.2 S).2 ∣ L)->((hs.map fun g=>(Ac.lw g.2 S).1 * (L / (Ac.lw g.2 S).2)).sum) * S = (hs.map (·.2)).sum * L
 | [],L,_=>by simp
 | g :: hs,L,h=>by
  have ih:=Pa W hs L fun g hg=>h g (aG _ hg)
  obtain ⟨hm,q,hq⟩:=h g aM
  have p:=Ac.kY (t:=g.2) W.pos
  have e:=Ac.zc (t:=g.2) W.pos
  rw [List.map_cons,List.sum_cons,List.map_cons,List.sum_cons,Int.add_mul,Int.add_mul,ih]
  congr 1
  generalize (Ac.lw g.2 S).1 = a at *
  generalize (Ac.lw g.2 S).2 = b at *
  rw [hq,Int.mul_ediv_cancel_left _ (Int.ne_of_gt p),Int.mul_right_comm,e,Int.mul_assoc]
theorem QS {gs:List (Str × Int)} {S:Int} (W:Wt gs S):∀ x y,Low (lvT ((gs.map fun g=>(g.1,Ac.lw g.2 S)).map (·.2))).sum (lvB ((gs.map fun g=>(g.1,Ac.lw g.2 S)).map (·.2)):Nat) x y->x = 1/\y = 1:=by
 intro x y lo
 have hq:∀ f ∈ ((gs.map fun g=>(g.1,Ac.lw g.2 S)).map (·.2)),Fq f:=by
  intro f hf
  obtain ⟨u,hu,rfl⟩:=List.mem_map.mp hf
  obtain ⟨g,hg,rfl⟩:=List.mem_map.mp hu
  exact (W.pair hg).fq
 have e0:(gs.map fun g=>(g.1,Ac.lw g.2 S)).map (·.2) = gs.map fun g=>Ac.lw g.2 S:=by rw [List.map_map]; rfl
 have bp:=DY hq
 have top:=Pa W gs (lvB ((gs.map fun g=>(g.1,Ac.lw g.2 S)).map (·.2)):Nat) fun g hg=>⟨hg,Vu (f:=Ac.lw g.2 S) (List.mem_map.mpr ⟨(g.1,Ac.lw g.2 S),List.mem_map.mpr ⟨g,hg,rfl⟩,rfl⟩) (W.pair hg).fq⟩
 have e1:(lvT ((gs.map fun g=>(g.1,Ac.lw g.2 S)).map (·.2))).sum = (gs.map fun g=>(Ac.lw g.2 S).1 * ((lvB ((gs.map fun g=>(g.1,Ac.lw g.2 S)).map (·.2)):Nat) / (Ac.lw g.2 S).2)).sum:=by
  unfold lvT
  rw [List.map_map,List.map_map]; rfl
 rw [<- e1,W.sum,Int.mul_comm S] at top
 have e2:=Int.eq_of_mul_eq_mul_right (Int.ne_of_gt W.pos) top
 rw [e2] at lo
 have h:=lo.eq
 rw [Int.mul_comm _ y] at h
 have e3:x = y:=Int.eq_of_mul_eq_mul_right (by omega) h
 subst e3
 have g:=lo.gcd
 have p:=lo.pos
 rw [Int.gcd_self] at g
 omega
noncomputable def Keep (s:Addr) (H H':Hp):Prop:=∀ b o,b ≠ s->H b = some o->H' b = some o
theorem Keep.tup {s C dx:Addr} {fs:List (Str × V)} {H H':Hp} (h:Keep s H H') (hs:H s = some (.ins C dx fs)):∀ t ys,H t = some (.tup ys)->H' t = some (.tup ys):=fun t ys e=>h t _ (eF e hs (by intro z; cases z)) e
theorem Keep.lst {s C dx:Addr} {fs:List (Str × V)} {H H':Hp} (h:Keep s H H') (hs:H s = some (.ins C dx fs)) {t:Addr} {ys:List V} (e:H t = some (.lst ys)):H' t = some (.lst ys):=h t _ (eF e hs (by intro z; cases z)) e
theorem Keep.free {s r:Addr} {o:HO} {H H':Hp} (h:Keep s H H') (hr:H' r = none) (hs:H' s = some o):H r = none:=by
 cases z:H r with
 | none=>rfl
 | some u =>
  have:=h r u (bB hs hr).symm z
  rw [hr] at this
  cases this
theorem WF.updI {H:Hp} {o C dx:Addr} {fs:List (Str × V)} {u:HO} (ho:H o = some (.ins C dx fs)) {xs:List V} {gs:List (Str × Int × Int)} {ws:List (Str × Addr)} (h:WF K H xs gs ws):WF K (upd H o u) xs gs ws :=
 h.imp (fun t us e=>(bG (eF e ho (by intro z; cases z))).trans e) fun c xs e=>e.updO ho (by intro ys z; cases z) (by intro ob ys z; cases z)
theorem PW.snoc {H:Hp} {xs:List V} {gs:List (Str × Int)} {S:Int} (h:PW H xs gs S) {t c:Addr} {g:Str × Int} (h1:H t = some (.tup [.str g.1,.ref c])) (h2:H c = some (.tup [.int (Ac.lw g.2 S).1,.int (Ac.lw g.2 S).2])):PW H (xs ++ [.ref t]) (gs ++ [g]) S:=by
 refine ⟨by rw [au,au,h.len]; rfl,fun k u e=>?_⟩
 by_cases hk:k < gs.length
 .rw [aC hk] at e
  rw [aC (by rw [h.len]; exact hk)]
  exact h.at_ k u e
 .rw [aB (by omega)] at e
  rw [aB (by rw [h.len]; omega),h.len]
  have e0:k - gs.length = 0:=by
   cases e1:k - gs.length with
   | zero=>rfl
   | succ m=>rw [e1] at e; simp at e
  rw [e0,List.getElem?_cons_zero] at e
  cases e
  rw [e0]
  exact ⟨t,c,rfl,h1,h2⟩
structure Kv (K:Frag) (H:Hp) (s C:Addr) (n:Str) (p:Addr) (ds:List (Str × Int × Int)) (ld:Addr) (ys:List V) (ws:List (Str × Addr)):Prop where
 at_:∃ dx,H s = some (.ins C dx [("name",.str n),("pay",.ref p),("leads",.ref ld)])
 hl:H ld = some (.lst ys)
 wf:WF K H ys ds ws
noncomputable def dG (K:Frag) (D:Adr):Sp:=fun vs H Q _=>∃ (s dx C:Addr) (n:Str) (p l:Addr) (x y:Int) (xs:List V) (gs:List (Str × Int)) (S:Int),vs = [.ref s,.str n,.ref p,.ref l]/\H s = some (.ins C dx [])/\Fam D C/\n.length <= 1000/\je n.cps.toList = true/\Fk K H p x y /\
 H l = some (.lst xs)/\PW H xs gs S/\Wt gs S/\∀ H' ld ys ws,H ld = none->Keep s H H'->Kv K H' s C n p (Ac.ways gs S) ld ys ws->Q .non H'
theorem A_ (F:Fun K rM rF oR f fd) (T:Txt K mg D) (gY:OkI P w K mg base (CXO P w) 4 D.Door_init iy (gR (K:=K) D)) (yD:OkX P w K mg base 4 gq gH jo)
  (yd:OkX P w K mg base 4 gJ gM (rC K)):cB P w K mg base (CXO P w) 5 f fd d_ (dG K D):=by
 refine F.okX Ak (fun vs H Q E h=>?_) (fun cdv A outer s H vs Q E hr h=>?_)
 .obtain ⟨s,dx,C,n,p,l,x,y,xs,gs,S,rfl,_⟩:=h
  rfl
 .obtain ⟨o,dx,C,n,p,l,x,y,xs,gs,S,rfl,ho,hC,hn,hw,hf,hl,hp,W,q⟩:=h
  refine ⟨_,(bH (cM (uL T.uF gY (hr.mono (by decide)) (by rfl) T.SX fK (bA (pv 0) (bA (pv 1) (bA (pv 2) bC)))))
   (bH (cM (fU yD (hr.mono (by decide)) (by rfl) fK (bA (pv 3) bC)))
   (bI (qK (pv 0) (fU yd (hr.mono (by decide)) (by rfl) fK (bA (pv 3) bC)) rfl)))),?_⟩
  unfold gR jo rC
  walk_at "rd"
  refine ⟨dx,C,ho,hC,hn,hw,⟨x,y,hf⟩,fun l0 h0=>?_⟩
  have ol:o ≠ l0:=bB bD h0
  rw [bG ol.symm] at h0
  have k1:Keep o H (upd (upd H l0 (.lst [])) o (.ins C dx [("name",.str n),("pay",.ref p),("leads",.ref l0)])):=fun b u hb e=>(bG hb).trans ((bG (bB e h0)).trans e)
  have o1:upd (upd H l0 (.lst [])) o (.ins C dx [("name",.str n),("pay",.ref p),("leads",.ref l0)]) o = some (.ins C dx [("name",.str n),("pay",.ref p),("leads",.ref l0)]):=bD
  generalize upd (upd H l0 (.lst [])) o (.ins C dx [("name",.str n),("pay",.ref p),("leads",.ref l0)]) = H1 at k1 o1 ⊢
  refine ⟨xs,k1.lst ho hl,_,(hp.imp (k1.tup ho)).pairs,?_,?_,QS W,fun H2 S2=>?_⟩
  .intro g hg
   obtain ⟨u,hu,rfl⟩:=List.mem_map.mp hg
   exact W.pair hu
  .rw [ak]
   exact aK W.len (by decide)
  .refine ⟨xs,S2 _ _ (k1.lst ho hl),gs,S,(hp.imp (k1.tup ho)).same S2,W,fun H3 r ys ws S3 hr3 hr hwf=>?_⟩
   have o3:=S3 _ _ (S2 _ _ o1)
   refine ⟨C,dx,_,o3,T.cl C hC,T.zF C hC,(by show 3 < 1000; decide),?_⟩
   refine q _ r ys ws (k1.free (S2.free hr3) o1) (fun b u hb e=>(bG hb).trans (S3 _ _ (S2 _ _ (k1 b u hb e)))) ⟨⟨dx,bD⟩,(bG (eF hr o3 (by intro z; cases z))).trans hr,hwf.updI o3⟩
noncomputable def lD (K:Frag) (D:Adr):Sp:=fun vs H Q _=>∃ (s dx:Addr) (n r1 r2:Str) (p c:Addr) (x y w S:Int),vs = [.ref s,.str n,.ref p,.ref c,.str r1,.str r2]/\H s = some (.ins D.Toss dx [])/\n.length <= 1000/\je n.cps.toList = true/\Fk K H p x y /\
 H c = some (.tup [.int (Ac.lw w S).1,.int (Ac.lw w S).2])/\Wt [(r1,w),(r2,S - w)] S/\∀ H' ld ys ws,H ld = none->Keep s H H'->Kv K H' s D.Toss n p (Ac.ways [(r1,w),(r2,S - w)] S) ld ys ws->Q .non H'
theorem Fz (F:Fun K ur um qg f fd) (T:Txt K mg D) (fY:OkX P w K mg base 3 gj fZ (f9 (K:=K))) (kW:OkX P w K mg base 3 dY dX (lN (K:=K))) (Rg:OkX P w K mg base 3 pB qz (qI (K:=K) (· - ·)))
  (cY:OkI P w K mg base (CXO P w) 5 D.Mixed_init d_ (dG K D)):cB P w K mg base (CXO P w) 6 f fd jt (lD K D):=by
 refine F.okX Fe (fun vs H Q E h=>?_) (fun cdv A outer s H vs Q E hr h=>?_)
 .obtain ⟨s,dx,n,r1,r2,p,c,x,y,w,S,rfl,_⟩:=h
  rfl
 .obtain ⟨o,dx,n,r1,r2,p,c,x,y,w,S,rfl,ho,hn,hw,hf,hc,W,q⟩:=h
  refine ⟨_,(bH (cM (fU fY (hr.mono (by decide)) (by rfl) fK (bA (pv 1) (bA (pv 2) bC))))
   (bH (cM (fU kW (hr.mono (by decide)) (by rfl) fK (bA (pv 3) bC)))
   (bI (cM (uL T.rQ cY (hr.mono (by decide)) (by rfl) T.Gd fK (bA (pv 0) (bA (pv 1) (bA (pv 2) (bA (iD (bA (cU (bA (pv 4) (bA (pv 3) bC))) (bA (cU (bA (pv 5) (bA (fU Rg (hr.mono (by decide)) (by rfl) fK (bA (jB (by rfl) T.Gp) (bA (pv 3) bC))) bC))) bC))) bC))))))))),?_⟩
  unfold f9 lN qI dG
  walk_at "rd"
  have p0:=W.pos
  have sle:=W.le
  have w0:0 <= w:=W.lo (r1,w) (by simp)
  have w1:w <= S:=W.hi (g:=(r1,w)) (by simp)
  have q2:=Ac.kY (t:=w) p0
  have b3:=Mv (aK (Ac.HS w S) (by omega:w.natAbs <= 10 ^ 20))
  have b4:=Mv (aK (Ac.Cj w S) (by omega:S.natAbs <= 10 ^ 20))
  have b1:Bd 1:=Bd.sm (by decide)
  refine ⟨hn,hw,⟨x,y,hf⟩,⟨_,_,⟨.of hc,q2,Ac.vI p0⟩,Ac.WQ p0 w0,Ac.WT p0 w1,b4⟩,dh,fun p1 h1=>⟨1,1,T.yw _,_,_,.of (Same.upd h1 _ _ hc),b1,b1,b3,b4,by decide,q2,by rw [Int.one_mul]; exact b4,fun r z o1 lo hr=>⟨dh,fun p2 h2=>⟨dh,fun p3 h3=>?_⟩⟩⟩⟩
  have T2:Same (upd H p1 (.tup [.str r1,.ref c])) (upd (upd H p1 (.tup [.str r1,.ref c])) r (.tup [.int z,.int o1])):=Same.upd hr
  have T3:Same (upd (upd H p1 (.tup [.str r1,.ref c])) r (.tup [.int z,.int o1])) (upd (upd (upd H p1 (.tup [.str r1,.ref c])) r (.tup [.int z,.int o1])) p2 (.tup [.str r2,.ref r])):=Same.upd h2
  have T4:Same (upd (upd (upd H p1 (.tup [.str r1,.ref c])) r (.tup [.int z,.int o1])) p2 (.tup [.str r2,.ref r])) (upd (upd (upd (upd H p1 (.tup [.str r1,.ref c])) r (.tup [.int z,.int o1])) p2 (.tup [.str r2,.ref r])) p3 (.lst [.ref p1,.ref p2])):=Same.upd h3
  have TS:Same H (upd (upd (upd (upd H p1 (.tup [.str r1,.ref c])) r (.tup [.int z,.int o1])) p2 (.tup [.str r2,.ref r])) p3 (.lst [.ref p1,.ref p2])):=(Same.upd h1).trans (T2.trans (T3.trans T4))
  have e1:=T4 _ _ (T3 _ _ (T2 p1 _ bD))
  have e2:=T4 _ _ (T3 r _ bD)
  have e3:=T4 p2 _ bD
  obtain ⟨ez,eo⟩:=Ac.Ed p0 lo.pos lo.gcd lo.eq
  generalize upd (upd (upd (upd H p1 (.tup [.str r1,.ref c])) r (.tup [.int z,.int o1])) p2 (.tup [.str r2,.ref r])) p3 (.lst [.ref p1,.ref p2]) = Hn at TS e1 e2 e3 ⊢
  refine ⟨dx,D.Toss,TS _ _ ho,(by simp [Fam]),hn,hw,⟨x,y,hf.same TS⟩,[(r1,w),(r2,S - w)],S,⟨rfl,fun k g e=>?_⟩,W,fun H' ld ys ws f k d=>q H' ld ys ws (TS.free f) (fun b u hb e=>k b u hb (TS b u e)) d⟩
  match k,e with
  | 0,e =>
   cases e
   exact ⟨p1,c,rfl,e1,TS _ _ hc⟩
  | 1,e =>
   cases e
   exact ⟨p2,r,rfl,e3,by rw [<- ez,<- eo]; exact e2⟩
  | k + 2,e=>cases e
noncomputable def jE (D1:Addr) (rs:List Str) (H:Hp) (k:Nat) (ys:List V) (Hc:Hp):Prop:=PW Hc ys ((rs.map fun r=>(r,(1:Int))).take k) rs.length/\Same H Hc/\Hc D1 = some (.lst ys)
noncomputable def lu (K:Frag) (D:Adr):Sp:=fun vs H Q _=>∃ (s dx:Addr) (n:Str) (p l:Addr) (x y:Int) (rs:List Str),vs = [.ref s,.str n,.ref p,.ref l]/\H s = some (.ins D.Even dx [])/\n.length <= 1000/\je n.cps.toList = true/\Fk K H p x y /\
 H l = some (.lst (rs.map V.str))/\Wt (rs.map fun r=>(r,(1:Int))) rs.length/\∀ H' ld ys ws,H ld = none->Keep s H H'->Kv K H' s D.Even n p (Ac.ways (rs.map fun r=>(r,(1:Int))) rs.length) ld ys ws->Q .non H'
theorem Ek (F:Fun K uR tW mR f fd) (T:Txt K mg D) (cY:OkI P w K mg base (CXO P w) 5 D.Mixed_init d_ (dG K D)):cB P w K mg base (CXO P w) 6 f fd jK (lu K D):=by
 refine F.okX Ey (fun vs H Q E h=>?_) (fun cdv A outer s H vs Q E hr h=>?_)
 .obtain ⟨s,dx,n,p,l,x,y,rs,rfl,_⟩:=h
  rfl
 .obtain ⟨o,dx,n,p,l,x,y,rs,rfl,ho,hn,hw,hf,hl,W,q⟩:=h
  refine ⟨_,(bI (cM (uL T.rQ cY (hr.mono (by decide)) (by rfl) T.Gd fK (bA (pv 0) (bA (pv 1) (bA (pv 2) (bA (mJ (bK mR) qH qH ["room"] (dw ((pv 3)).mono) (fW (i:=0)) dB (cU (bA (pv 0) (bA (cU (bA bF (bA (bO cA (by rfl) T.dR PySem.boot_len (bA (pv 4) bC)) bC))) bC)))) bC))))))),?_⟩
  unfold dG
  walk_at "rd"
  refine dz ?_
  walk_at "rd"
  have l8:=W.len
  rw [ak] at l8
  have p0:=W.pos
  have z9:9 < sizeLine:=by decide
  refine ⟨_,hl,by rw [ak]; omega,fun D1 hD=>⟨jE D1 rs H,⟨⟨rfl,fun k g e=>by simp at e⟩,Same.upd hD,bD⟩,?_,?_⟩⟩
  .rintro k x1 ys Hc hk ⟨pw,S1,hD1⟩ hy hlc
   rw [aq] at hk
   cases er:rs[k]? with
   | none=>rw [er] at hk; cases hk
   | some r =>
    rw [er] at hk
    cases hk
    refine ⟨_,hlc,dh,fun p1 hp1=>⟨dh,fun p2 hp2=>?_⟩⟩
    have T1:Same Hc (upd (upd Hc p1 (.tup [.int 1,.int (rs.map V.str).length])) p2 (.tup [.str r,.ref p1])):=(Same.upd hp1).trans (Same.upd hp2)
    have e1:upd (upd Hc p1 (.tup [.int 1,.int (rs.map V.str).length])) p2 (.tup [.str r,.ref p1]) p1 = some (.tup [.int 1,.int (rs.map V.str).length]):=Same.upd hp2 p1 _ bD
    have e2:upd (upd Hc p1 (.tup [.int 1,.int (rs.map V.str).length])) p2 (.tup [.str r,.ref p1]) p2 = some (.tup [.str r,.ref p1]):=bD
    generalize upd (upd Hc p1 (.tup [.int 1,.int (rs.map V.str).length])) p2 (.tup [.str r,.ref p1]) = Hn at T1 e1 e2 ⊢
    have nD:∀ t us,Hn t = some (.tup us)->upd Hn D1 (.lst (ys ++ [.ref p2])) t = some (.tup us):=fun t us e=>(bG (eF e (T1 _ _ hD1) (by intro z; cases z))).trans e
    refine ⟨T1 _ _ hD1,T1 _ _ hlc,?_,?_,bD⟩
    .rw [List.take_succ,aq,er]
     refine ((pw.same T1).imp nD).snoc (c:=p1) (nD _ _ e2) ?_
     obtain ⟨h1,h2⟩:=Ac.Xd p0
     show _ = some (HO.tup [.int (Ac.lw 1 (rs.length:Int)).1,.int (Ac.lw 1 (rs.length:Int)).2])
     rw [h1,h2,nD _ _ e1,ak]
    .intro b u e
     rw [bG (bB e hD)]
     exact T1 _ _ (S1 _ _ e)
  .rintro ys Hc ⟨pw,S1,hD1⟩ hy
   have ek:(rs.map fun r=>(r,(1:Int))).take (rs.map V.str).length = rs.map fun r=>(r,(1:Int)):=aJ (by rw [ak,ak]; exact aD _)
   rw [ek] at pw
   exact ⟨dx,D.Even,S1 _ _ ho,(by simp [Fam]),hn,hw,⟨x,y,hf.same S1⟩,ys,hD1,_,_,pw,W,fun H' ld ys ws f k d=>q H' ld ys ws (S1.free f) (fun b u hb e=>k b u hb (S1 b u e)) d⟩
noncomputable def Lt (x:Str):Prop:=x.cps.toList.all sS = true
theorem K3 (x y:Str):(x ++ y).cps.toList = x.cps.toList ++ y.cps.toList:=by
 show (x.cps ++ y.cps).toList = _
 rw [Array.toList_append]
theorem UL (x y:Str):(x ++ y).length = x.length + y.length:=by
 show (x.cps ++ y.cps).size = _
 rw [Array.size_append]; rfl
theorem QD {α:Type} {xs:List α} {i:Int} (h0:0 <= i) (h1:i < xs.length):∃ v,atI xs i = some v/\v ∈ xs:=by
 obtain ⟨n,rfl⟩:=Int.eq_ofNat_of_zero_le h0
 have hn:n < xs.length:=by omega
 exact ⟨xs[n],bR (aj hn),aR hn⟩
theorem Lt.one {i:Int} (h0:0 <= i) (h1:i < 26):∃ c,atI (Str.ofString "abcdefghijklmnopqrstuvwxyz").cps.toList i = some c/\Lt ⟨#[c]⟩:=by
 have l1:(Str.ofString "abcdefghijklmnopqrstuvwxyz").cps.toList.length = 26:=by decide +kernel
 obtain ⟨v,e,e2⟩:=QD (xs:=(Str.ofString "abcdefghijklmnopqrstuvwxyz").cps.toList) h0 (by rw [l1]; exact h1)
 refine ⟨v,e,?_⟩
 unfold Lt sS
 simp only [List.all_cons,List.all_nil,Bool.and_true,decide_eq_true_eq]
 exact e2
structure Wd (x:Str):Prop where
 lt:Lt x
 lo:1 <= x.length
 hi:x.length <= 8
theorem Wd.word {x:Str} (h:Wd x):je x.cps.toList = true:=by
 have l:=h.lt
 have lo:=h.lo
 have hi:=h.hi
 have hl:x.cps.toList.length = x.length:=Array.length_toList
 unfold Lt at l
 unfold je
 rw [l,hl,decide_eq_true lo,decide_eq_true hi]; rfl
theorem Lt.fold:∀ (ys:List Str) (acc:Array Nat),acc.toList.all sS = true->(∀ y ∈ ys,Lt y)->(ys.foldl (fun acc p=>acc ++ (Str.ofString "").cps ++ p.cps) acc).toList.all sS = true
 | [],acc,h,_=>h
 | y :: ys,acc,h,hy=>by
  rw [List.foldl_cons]
  refine Lt.fold ys _ ?_ fun z hz=>hy z (aG _ hz)
  have e0:(Str.ofString "").cps = #[]:=by decide +kernel
  have hy0:y.cps.toList.all sS = true:=hy y aM
  rw [e0,Array.append_empty,Array.toList_append,List.all_append,h,hy0]; rfl
theorem Lt.glued {ys:List Str} (h:∀ y ∈ ys,Lt y):Lt (Txt.join (Str.ofString "") ys):=by
 show ((ys.drop 1).foldl (fun acc p=>acc ++ (Str.ofString "").cps ++ p.cps) (ys.headD Str.empty).cps).toList.all sS = true
 refine Lt.fold _ _ ?_ fun y hy=>h y (List.mem_of_mem_drop hy)
 cases ys with
 | nil=>rfl
 | cons y ys=>exact h y aM
noncomputable def rK (ns:List Str) (o:Nat):List (Key × V):=(ns.zipIdx o).map fun g=>(.inr g.1,.int (g.2:Nat))
noncomputable abbrev vP (ns:List Str):List (Key × V):=rK ns 0
theorem zU {ns:List Str} {o:Nat} : (rK ns o).length = ns.length:=by unfold rK; rw [ak,List.length_zipIdx]
theorem vW {n:Str} {ns:List Str} {o:Nat} : rK (n :: ns) o = (.inr n,.int (o:Nat)) :: rK ns (o + 1):=by unfold rK; rw [List.zipIdx_cons]; rfl
theorem Ln {n:Str} : ∀ {ns:List Str} {o:Nat},n ∉ ns->mL (rK ns o) (.inr n) = none
 | [],_,_=>rfl
 | a :: ns,o,h=>by
  rw [vW]
  have ne:¬ (Sum.inr a:Key) = .inr n:=fun z=>h (by injection z with z; rw [z]; exact aM)
  unfold mL
  rw [List.find?_cons,decide_eq_false ne]
  exact Ln fun m=>h (aG _ m)
theorem Ii {n:Str} : ∀ {ns:List Str} {o k:Nat},ns.Nodup->ns[k]? = some n->mL (rK ns o) (.inr n) = some (.int ((o + k:Nat):Int))
 | [],_,_,_,h=>by simp at h
 | a :: ns,o,0,_,h=>by
  rw [List.getElem?_cons_zero] at h
  cases h
  rw [vW]
  unfold mL
  rw [List.find?_cons,decide_eq_true rfl]; rfl
 | a :: ns,o,k + 1,nd,h=>by
  rw [List.getElem?_cons_succ] at h
  obtain ⟨na,nd'⟩:=List.nodup_cons.mp nd
  have ne:¬ (Sum.inr a:Key) = .inr n:=fun z=>na (by injection z with z; rw [z]; exact aA h)
  have ih:=Ii (o:=o + 1) nd' h
  rw [vW]
  unfold mL at ih ⊢
  rw [List.find?_cons,decide_eq_false ne]
  rw [show o + (k + 1) = o + 1 + k by omega]
  exact ih
theorem Qa {n:Str} {ns:List Str} (h:n ∉ ns):putK (vP ns) (.inr n) (.int (ns.length:Nat)) = vP (ns ++ [n]):=by
 have a:((vP ns).any fun kv=>decide (kv.1 = .inr n)) = false:=by
  rw [List.any_eq_false]
  intro kv hk
  unfold vP rK at hk
  obtain ⟨g,hg,rfl⟩:=List.mem_map.mp hk
  have:g.1 ∈ ns:=by
   have:=List.mem_map_of_mem (f:=Prod.fst) hg
   rwa [List.zipIdx_map_fst] at this  
  intro z
  have z:(Sum.inr g.1:Key) = .inr n:=of_decide_eq_true z
  injection z with z
  exact h (z ▸ this)
 unfold putK
 rw [a,if_neg (by decide)]
 unfold vP rK
 rw [List.zipIdx_append,bh,Nat.zero_add]; rfl
structure Ks (H:Hp) (xs:List V) (ns:List Str):Prop where
 len:xs.length = ns.length
 at_:∀ (k:Nat) (n:Str),ns[k]? = some n->∃ t v,xs[k]? = some (.ref t)/\H t = some (.tup [.str n,v])
theorem zx {α:Type} {l:List α} {k:Nat} {a:α} (nd:l.Nodup) (e:l[k]? = some a):a ∉ l.take k:=by
 obtain ⟨lk,rfl⟩:=ao.mp e
 rw [<- List.take_append_drop k l,List.nodup_append] at nd
 intro z
 refine nd.2.2 _ z _ ?_ rfl
 rw [List.drop_eq_getElem_cons lk]
 exact aM
noncomputable def jm:Sp:=fun vs H Q _=>∃ (p:Addr) (x y:Int),vs = [.ref p]/\Fk K H p x y/\0 <= x/\x < y/\Bd x/\Bd y/\Q .non H
theorem zq (F:Fun K gK gK m7 f fd) (T:Txt K mg D) (fM:OkF P w K mg base 2 gw gG (eZ (K:=K))) (mY:OkF P w K mg base 1 nQ nM (nF (K:=K))):cB P w K mg base CX0 3 f fd gC (jm (K:=K)):=by
 refine F.ok yN (fun vs H Q E h=>?_) (fun cdv A outer s H vs Q E hr h=>?_)
 .obtain ⟨p,x,y,rfl,_⟩:=h
  rfl
 .obtain ⟨p,x,y,rfl,fk,x0,xy,bx,b_y,q⟩:=h
  refine ⟨_,(bI (cF (PW.pt (pw_or (dD (cX (bL fM (hr.mono (by decide)) (by rfl) (bA (pv 0) bC)) (fun _=>rfl))) (pw_or (cX (bL mY (hr.mono (by decide)) (by rfl) (bA (pv 0) (bA (jB (by rfl) T.vp) bC))) (fun _=>rfl)) (pw_or1 (dD (cX (bL mY (hr.mono (by decide)) (by rfl) (bA (pv 0) (bA (jB (by rfl) T.Gp) bC))) (fun _=>rfl)))))))
    (bI mC)
    bW)),?_⟩
  unfold eZ nF
  walk_at "rd"
  have hy:=fk.pos
  have b0:Bd 0:=Nat.two_pow_pos 8000
  have b1:Bd 1:=Nat.one_lt_two_pow (by decide)
  refine ⟨⟨x,y,fk⟩,x,y,fk.at_,0,1,T.rB H,bx,b_y,b0,b1,?_⟩
  rw [if_neg (by simp; omega)]
  refine ⟨x,y,fk.at_,1,1,T.yw H,bx,b_y,b1,b1,?_⟩
  rw [if_neg (by simp; omega)]
  exact q
noncomputable def j8:Sp:=fun vs H Q _=>∃ (l:Addr) (xs:List V) (rs:List Str),vs = [.ref l]/\H l = some (.lst xs)/\Ks H xs rs/\rs.Nodup/\(∀ g ∈ rs,Wd g)/\rs.length <= 20 /\
 ∀ d H',Same H H'->H d = none->H' d = some (.dK (vP rs))->Q (.ref d) H'
noncomputable def nJ (l d:Addr) (rs:List Str) (H:Hp) (k:Nat) (σ:L2.St) (H':Hp):Prop:=∃ u v,σ = [some (.ref l),some (.ref d),u,v]/\Same H H'/\H' d = some (.dK (vP (rs.take k)))
theorem Bb (F:Fun K iK iK oA f fd) (T:Txt K mg D) (gO:OkF P w K mg base 1 jc jd o_):cB P w K mg base CX0 2 f fd iH j8:=by
 refine F.ok j4 (fun vs H Q E h=>?_) (fun cdv A outer s H vs Q E hr h=>?_)
 .obtain ⟨l,xs,rs,rfl,_⟩:=h
  rfl
 .obtain ⟨l,xs,rs,rfl,hl,ra,nd,wd,n20,q⟩:=h
  refine ⟨_,(bH (bV (i:=1) j4.nd rfl (Or.inl rfl) yx)
   (bH (kO PassesOwn.never rfl (dw ((pv 0)).mono) (cD (i:=2) j4.nd rfl (Or.inl rfl))
    (bH (bV (i:=3) j4.nd rfl (Or.inl rfl) (bQ eN (pv 2) bF (fun _ _=>rfl)))
    (bH (cF (PW.pt (pw_or (dD (cX (bL gO (hr.mono (by decide)) (by rfl) (bA (pv 3) bC)) (fun _=>rfl))) (pw_or1 (I_ (O5 (rH hr) (pv 3) (pv 1))))))
     (bI mC)
     bW)
    (bI (Dj (rH hr) (pv 1) (pv 3) (bO BW (by rfl) T.dR PySem.boot_len (bA (pv 1) bC)) rfl)))))
   (bI (bU (pv 1))))),?_⟩
  unfold o_
  walk_at "rd"
  refine fun d hd=>i_ ?_
  walk_at "rd"
  have ld:l ≠ d:=bB hl hd
  refine ⟨xs,(bG ld).trans hl,nJ l d rs H,⟨none,none,rfl,Same.upd hd,bD⟩,?_,?_⟩
  .rintro k x σ' H' hk ⟨u,v,rfl,S1,h1⟩ hl'
   have lk:k < rs.length:=by rw [<- ra.len]; exact (ao.mp hk).1
   have e:rs[k]? = some rs[k]:=aj lk
   have hm:=aR lk
   obtain ⟨t,dv,a,b⟩:=ra.at_ k _ e
   rw [hk] at a
   cases a
   have hw:=wd _ hm
   have no:rs[k] ∉ rs.take k:=by exact zx nd e
   generalize rs[k] = n at *
   walk_at "rd"
   have l9:=hw.hi
   refine ⟨_,S1 _ _ b,_,fV,.inl ⟨n,rfl,aK l9 (by decide),?_⟩⟩
   rw [if_neg (by rw [hw.word]; decide)]
   refine ⟨_,qJ.k (k:=.inr n) h1,?_⟩
   rw [Ln no,if_neg (by decide)]
   have hlen:(vP (rs.take k)).length < sizeLine:=by
    have h9:21 < sizeLine:=by decide
    rw [zU,aY]
    omega
   refine ⟨d,_,rfl,h1,_,Ir.k (k:=.inr n) h1 hlen,(bG ld).trans hl',_,_,rfl,fun b' o' e'=>(bG (bB e' hd)).trans (S1 _ _ e'),?_⟩
   rw [bD,zU,Qa no,cG e]
  .rintro σ' H' ⟨u,v,rfl,S1,h1⟩ _
   rw [ra.len,aN] at h1
   walk_at "rd"
   exact q d H' S1 hd h1
structure NWs (ns:List Str) (H:Hp) (zs:List V) (ws:List (Str × Addr)):Prop where
 len:zs.length = ws.length
 at_:∀ (k:Nat) (g:Str × Addr),ws[k]? = some g->∃ t i,zs[k]? = some (.ref t)/\ns[i]? = some g.1/\H t = some (.tup [.int (i:Nat),.ref g.2])
theorem NWs.imp {ns:List Str} {H H':Hp} {zs:List V} {ws:List (Str × Addr)} (h':∀ t ys,H t = some (.tup ys)->H' t = some (.tup ys)) (h:NWs ns H zs ws):NWs ns H' zs ws:=⟨h.len,fun k g e=>let ⟨t,i,a,b,c⟩:=h.at_ k g e; ⟨t,i,a,b,h' _ _ c⟩⟩
theorem NWs.snoc {ns:List Str} {H:Hp} {zs:List V} {ws:List (Str × Addr)} {t:Addr} {i:Nat} {g:Str × Addr} (h:NWs ns H zs ws) (hi:ns[i]? = some g.1) (ht:H t = some (.tup [.int (i:Nat),.ref g.2])):NWs ns H (zs ++ [.ref t]) (ws ++ [g]):=by
 refine ⟨by rw [au,au,h.len]; rfl,fun k g' e=>?_⟩
 by_cases hk:k < ws.length
 .rw [aC hk] at e
  obtain ⟨t',i',a,b,c⟩:=h.at_ k g' e
  exact ⟨t',i',by rw [aC (by rw [h.len]; exact hk)]; exact a,b,c⟩
 .rw [aB (by omega)] at e
  have e0:k - ws.length = 0:=by
   have:=(ao.mp e).1
   simp at this; omega
  rw [e0] at e
  cases e
  refine ⟨t,i,?_,hi,ht⟩
  rw [aB (by rw [h.len]; omega),h.len,e0]; rfl
noncomputable def iz (D:Adr):Sp:=fun vs H Q _=>∃ (s n C dx p l:Addr) (nm:Str) (xs:List V) (ws:List (Str × Addr)) (ns:List Str),vs = [.ref s,.ref n]/\dF D C/\H s = some (.ins C dx [("name",.str nm),("pay",.ref p),("leads",.ref l)])/\H l = some (.lst xs)/\Nh H xs ws/\ws.length <= 100/\H n = some (.dK (vP ns))/\ns.Nodup/\(∀ g ∈ ws,g.1 ∈ ns) /\
 ∀ r H' zs,Same H H'->H r = none->H' r = some (.lst zs)->NWs ns H' zs ws->Q (.ref r) H'
noncomputable def nwJ (s n r:Addr) (ns:List Str) (ws:List (Str × Addr)) (H:Hp) (k:Nat) (σ:L2.St) (H':Hp):Prop:=∃ u v zs,σ = [some (.ref s),some (.ref n),some (.ref r),u,v]/\Same H H'/\H' r = some (.lst zs)/\NWs ns H' zs (ws.take k)
theorem wz (F:Fun K eX eX k_ f fd) (T:Txt K mg D) (pO:OkI P w K mg base CX0 1 D.Door_ways jq (lC D)):cB P w K mg base CX0 2 f fd eV (iz D):=by
 refine F.ok iu (fun vs H Q E h=>?_) (fun cdv A outer s H vs Q E hr h=>?_)
 .obtain ⟨d,n,C,dx,p,l,nm,xs,ws,ns,rfl,_⟩:=h
  rfl
 .obtain ⟨d,n,C,dx,p,l,nm,xs,ws,ns,rfl,hC,hs,hl,hw,n100,hn,nd,hin,q⟩:=h
  refine ⟨_,(bH (bV (i:=2) iu.nd rfl (Or.inl rfl) (iD bC))
   (bH (kO PassesOwn.never rfl (dw ((PE.any fun C (hC:dF D C)=>(qY (pv 0) (T.cl C hC.fam) (T.CV C hC) pO (hr.mono (by decide))))).mono) (iT (n:=2) rfl (cC (cD (i:=3) iu.nd rfl (Or.inl rfl)) (cC (cD (i:=4) iu.nd rfl (Or.inl rfl)) gQ)))
    (bH (cF (I_ (M6 (rH hr) (pv 3) (pv 1)))
     (bI mC)
     bW)
    (bI (cM (qd (pv 2) (bA (cU (bA (Ei (rH hr) (pv 1) (pv 3) (fun _ _=>rfl)) (bA (pv 4) bC))) bC))))))
   (bI (bU (pv 2))))),?_⟩
  unfold lC
  walk_at "rd"
  refine ⟨by decide,fun r hrn=>i_ ?_⟩
  walk_at "rd"
  have sr:∀ {b o},H b = some o->(upd H r (.lst [])) b = some o:=fun {b o} e=>(bG (bB e hrn)).trans e
  refine ⟨C,hC,dx,_,sr hs,rfl,nm,p,l,⟨C,dx,hC.fam,sr hs⟩,xs,sr hl,by rw [hw.len]; exact n100,fun r2 hr2=>⟨nwJ d n r ns ws H,?_,?_,?_⟩⟩
  .have rr:r ≠ r2:=bB bD hr2
   refine ⟨none,none,[],rfl,fun b o e=>(bG (bB (sr e) hr2)).trans (sr e),(bG rr).trans bD,rfl,fun k g e=>by simp at e⟩
  .rintro k x σ' H' hk ⟨u,v,zs,rfl,S1,h1,nw⟩ hx
   have lk:k < ws.length:=by rw [<- hw.len]; exact (ao.mp hk).1
   have e:ws[k]? = some ws[k]:=aj lk
   have hm:=hin _ (aR lk)
   obtain ⟨t,a,b⟩:=hw.at_ k _ e
   rw [hk] at a
   cases a
   generalize ws[k] = g at *
   obtain ⟨m,c⟩:=g
   obtain ⟨i,hi⟩:=aU hm
   walk_at "rd"
   have rr:r ≠ r2:=bB bD hr2
   have vl:mL (vP ns) (.inr m) = some (.int ((0 + i:Nat):Int)):=Ii nd hi
   have dg:qJ H' n (kV (.inr m)) (some (.int ((0 + i:Nat):Int))):=vl ▸ qJ.k (k:=.inr m) (S1 _ _ hn)
   refine ⟨_,S1 _ _ b,rfl,_,_,rfl,_,_,rfl,rfl,_,dg,?_⟩
   rw [if_neg (by simp)]
   refine ⟨⟨_,h1⟩,_,dg,dh,fun p hp=>?_⟩
   have rp:r ≠ p:=bB h1 hp
   have zl:zs.length < sizeLine:=by
    have h9:101 < sizeLine:=by decide
    rw [nw.len,aY]
    omega
   refine ⟨zs,(bG rp).trans h1,zl,(bG rr.symm).trans ((bG (bB hx hp)).trans hx),_,_,_,rfl,fun b' o' e'=>(bG (bB e' hrn)).trans ((bG (bB (S1 _ _ e') hp)).trans (S1 _ _ e')),bD,?_⟩
   rw [cG e]
   refine (nw.imp fun t ys e'=>?_).snoc hi ?_
   .rw [bG (eF e' h1 (by intro z; cases z)),bG (bB e' hp)]; exact e'
   .rw [bG rp.symm,bD,Nat.zero_add]
  .rintro σ' H' ⟨u,v,zs,rfl,S1,h1,nw⟩ hx
   rw [hw.len,aN] at nw
   walk_at "rd"
   exact q r H' zs S1 hrn h1 nw
noncomputable def del (as:List Addr) (H:Hp):Hp:=fun b=>if b ∈ as then none else H b
theorem iG {as:List Addr} {H:Hp} {b:Addr} {o:HO} (h:b ∉ as) (e:H b = some o):del as H b = some o:=by unfold del; rw [if_neg h]; exact e
theorem m9 {as:List Addr} {H:Hp} {b:Addr} {o:HO} (e:del as H b = some o):b ∉ as/\H b = some o:=by
 unfold del at e
 split at e
 .cases e
 .exact ⟨by assumption,e⟩
theorem zy {as:List Addr} {H:Hp} : Same (del as H) H:=fun b o e=>(m9 e).2
theorem uc {as:List Addr} {H H':Hp} (h:∀ b o,b ∉ as->H b = some o->H' b = some o):Same (del as H) (del as H'):=fun b o e=>let ⟨a,c⟩:=m9 e; iG a (h b o a c)
structure Dr where
 nm:Str
 p:Addr
 ws:List (Str × Addr)
noncomputable def Q6 (D:Adr) (H:Hp) (s:Addr) (g:Dr):Prop:=∃ C dx l xs,dF D C/\H s = some (.ins C dx [("name",.str g.nm),("pay",.ref g.p),("leads",.ref l)])/\H l = some (.lst xs)/\Nh H xs g.ws/\g.ws.length <= 100
theorem Q6.same {H H':Hp} {s:Addr} {g:Dr} (S:Same H H') (h:Q6 D H s g):Q6 D H' s g:=let ⟨C,dx,l,xs,a,b,c,d,e⟩:=h; ⟨C,dx,l,xs,a,S _ _ b,S _ _ c,d.same S,e⟩
structure rG (D:Adr) (H:Hp) (xs:List V) (gs:List Dr):Prop where
 len:xs.length = gs.length
 at_:∀ (k:Nat) (g:Dr),gs[k]? = some g->∃ s,xs[k]? = some (.ref s)/\Q6 D H s g
theorem rG.same {H H':Hp} {xs:List V} {gs:List Dr} (S:Same H H') (h:rG D H xs gs):rG D H' xs gs:=⟨h.len,fun k g e=>let ⟨s,a,b⟩:=h.at_ k g e; ⟨s,a,b.same S⟩⟩
structure o7 (ns:List Str) (H:Hp) (zs:List V) (gs:List Dr):Prop where
 len:zs.length = gs.length
 at_:∀ (k:Nat) (g:Dr),gs[k]? = some g->∃ t r ys,zs[k]? = some (.ref t)/\H t = some (.tup [.str g.nm,.ref g.p,.ref r])/\H r = some (.lst ys)/\NWs ns H ys g.ws
theorem o7.same {ns:List Str} {H H':Hp} {zs:List V} {gs:List Dr} (S:Same H H') (h:o7 ns H zs gs):o7 ns H' zs gs:=⟨h.len,fun k g e=>let ⟨t,r,ys,a,b,c,d⟩:=h.at_ k g e; ⟨t,r,ys,a,S _ _ b,S _ _ c,d.imp fun _ _ z=>S _ _ z⟩⟩
theorem o7.snoc {ns:List Str} {H:Hp} {zs ys:List V} {gs:List Dr} {t r:Addr} {g:Dr} (h:o7 ns H zs gs) (ht:H t = some (.tup [.str g.nm,.ref g.p,.ref r])) (hr:H r = some (.lst ys)) (hn:NWs ns H ys g.ws):o7 ns H (zs ++ [.ref t]) (gs ++ [g]):=by
 refine ⟨by rw [au,au,h.len]; rfl,fun k g' e=>?_⟩
 by_cases hk:k < gs.length
 .rw [aC hk] at e
  obtain ⟨t',r',ys',a,b⟩:=h.at_ k g' e
  exact ⟨t',r',ys',by rw [aC (by rw [h.len]; exact hk)]; exact a,b⟩
 .rw [aB (by omega)] at e
  have e0:k - gs.length = 0:=by
   have:=(ao.mp e).1
   simp at this; omega
  rw [e0] at e
  cases e
  refine ⟨t,r,ys,?_,ht,hr,hn⟩
  rw [aB (by rw [h.len]; omega),h.len,e0]; rfl
noncomputable def yI (ns:List Str):List (Key × V):=ns.map fun n=>(.inr n,.bl true)
theorem Vl {n:Str} {ns:List Str} (h:n ∉ ns):mL (yI ns) (.inr n) = none:=by
 unfold mL
 rw [List.find?_eq_none.mpr]
 .rfl
 .intro kv hk z
  unfold yI at hk
  obtain ⟨m,hm,rfl⟩:=List.mem_map.mp hk
  have z:(Sum.inr m:Key) = .inr n:=of_decide_eq_true z
  injection z with z
  exact h (z ▸ hm)
theorem Oz {n:Str} {ns:List Str} (h:n ∉ ns):putK (yI ns) (.inr n) (.bl true) = yI (ns ++ [n]):=by
 have a:((yI ns).any fun kv=>decide (kv.1 = .inr n)) = false:=by
  rw [List.any_eq_false]
  intro kv hk z
  unfold yI at hk
  obtain ⟨m,hm,rfl⟩:=List.mem_map.mp hk
  have z:(Sum.inr m:Key) = .inr n:=of_decide_eq_true z
  injection z with z
  exact h (z ▸ hm)
 unfold putK
 rw [a,if_neg (by decide)]
 unfold yI
 rw [bh]; rfl
noncomputable def Kz (H:Hp) (as:List Addr):Prop:=∀ a ∈ as,∃ u,H a = some u/\∀ ys,u ≠ .tup ys
noncomputable def lA (D:Adr):Sp:=fun vs H Q _=>∃ (l n:Addr) (xs:List V) (gs:List Dr) (ns:List Str),vs = [.ref l,.ref n]/\H l = some (.lst xs)/\rG D H xs gs/\gs.length <= 100/\(gs.map (·.nm)).Nodup/\H n = some (.dK (vP ns))/\ns.Nodup/\(∀ g ∈ gs,∀ z ∈ g.ws,z.1 ∈ ns) /\
 ∀ r H' zs,Same H H'->H r = none->H' r = some (.lst zs)->(∀ as,Kz H as->o7 ns (del as H') zs gs)->Q (.ref r) H'
noncomputable def oJ (l n d r:Addr) (ns:List Str) (gs:List Dr) (H:Hp) (k:Nat) (σ:L2.St) (H':Hp):Prop:=∃ u zs,σ = [some (.ref l),some (.ref n),some (.ref d),some (.ref r),u]/\Same H H'/\H' d = some (.dK (yI ((gs.take k).map (·.nm))))/\H' r = some (.lst zs)/\∀ as,Kz H as->o7 ns (del (d :: r :: as) H') zs (gs.take k)
theorem Dh (F:Fun K jr jr pq f fd) (T:Txt K mg D) (lg:OkF P w K mg base 2 eX eV (iz D)):cB P w K mg base CX0 3 f fd jF (lA D):=by
 refine F.ok lq (fun vs H Q E h=>?_) (fun cdv A outer s H vs Q E hr h=>?_)
 .obtain ⟨l,n,xs,gs,ns,rfl,_⟩:=h
  rfl
 .obtain ⟨l,n,xs,gs,ns,rfl,hl,dr,n100,ndg,hn,nd,hin,q⟩:=h
  refine ⟨_,(bH (bV (i:=2) lq.nd rfl (Or.inl rfl) yx)
   (bH (bV (i:=3) lq.nd rfl (Or.inl rfl) (iD bC))
   (bH (kO PassesOwn.never rfl (dw ((pv 0)).mono) (cD (i:=4) lq.nd rfl (Or.inl rfl))
    (bH (cF (I_ (O5 (rH hr) (pK (pv 4) rfl) (pv 2)))
     (bI mC)
     bW)
    (bH (Dj (rH hr) (pv 2) (pK (pv 4) rfl) iJ rfl)
    (bI (cM (qd (pv 3) (bA (cU (bA (pK (pv 4) rfl) (bA (pK (pv 4) rfl) (bA (bL lg (hr.mono (by decide)) (by rfl) (bA (pv 4) (bA (pv 1) bC))) bC)))) bC)))))))
   (bI (bU (pv 3)))))),?_⟩
  unfold iz
  walk_at "rd"
  refine fun d hd=>⟨by decide,fun r hrn=>i_ ?_⟩
  walk_at "rd"
  have dr0:d ≠ r:=bB bD hrn
  have hrn':H r = none:=(bG dr0.symm).symm.trans hrn
  have st:Same H (upd (upd H d (.dK [])) r (.lst [])):=fun b o e=>(bG (bB e hrn')).trans ((bG (bB e hd)).trans e)
  refine ⟨xs,st _ _ hl,oJ l n d r ns gs H,⟨none,[],rfl,st,(bG dr0).trans bD,bD,fun as _=>⟨rfl,fun k g e=>by simp at e⟩⟩,?_,?_⟩
  .rintro k x σ' H' hk ⟨u,zs,rfl,S1,h1,h2,of_⟩ hx
   have lk:k < gs.length:=by rw [<- dr.len]; exact (ao.mp hk).1
   have e:gs[k]? = some gs[k]:=aj lk
   have hm:=hin _ (aR lk)
   obtain ⟨t,a,b⟩:=dr.at_ k _ e
   rw [hk] at a
   cases a
   have no:gs[k].nm ∉ (gs.take k).map (·.nm):=by
    rw [List.map_take]
    exact zx ndg (by rw [aq,e]; rfl)
   generalize gs[k] = g at *
   obtain ⟨C,dx,ll,ys,hC,hs,hll,hw,w100⟩:=b.same S1
   walk_at "rd"
   refine ⟨C,dx,_,hs,T.cl C hC.fam,T.xr C hC.fam,_,rfl,_,qJ.k (k:=.inr g.nm) h1,?_⟩
   rw [Vl no,if_neg (by decide)]
   have hlen:(yI ((gs.take k).map (·.nm))).length < sizeLine:=by
    have h9:101 < sizeLine:=by decide
    unfold yI
    rw [ak,ak,aY]
    omega
   have up:∀ {b o},b ≠ d->H' b = some o->upd H' d (.dK (putK (yI ((gs.take k).map (·.nm))) (.inr g.nm) (.bl true))) b = some o:=fun {b o} h e=>(bG h).trans e
   have td:t ≠ d:=eF hs h1 (by intro z; cases z)
   have ld:ll ≠ d:=eF hll h1 (by intro z; cases z)
   have nd_:n ≠ d:=bB hn hd
   refine ⟨C,dx,_,hs,T.cl C hC.fam,T.xr C hC.fam,_,rfl,_,Ir.k (k:=.inr g.nm) h1 hlen,⟨zs,up dr0.symm h2⟩,C,dx,_,up td hs,T.cl C hC.fam,T.xr C hC.fam,_,rfl,C,dx,_,up td hs,T.cl C hC.fam,T.RT C hC.fam,_,rfl,C,hC,dx,g.p,ll,⟨g.nm,up td hs⟩,ys,up ld hll,g.ws,⟨hw.len,fun k g e=>let ⟨t,a,b⟩:=hw.at_ k g e; ⟨t,a,up (eF b h1 (by intro z; cases z)) b⟩⟩,w100,ns,up nd_ (S1 _ _ hn),nd,hm,?_⟩
   intro r3 H3 z3 S3 f3 e3 w3
   refine ⟨by decide,fun p hp=>?_⟩
   have lr:l ≠ r:=bB hl hrn'
   have ld0:l ≠ d:=bB hl hd
   have a1:=S3 _ _ (up dr0.symm h2)
   have a2:=S3 d _ bD
   have rp:r ≠ p:=bB a1 hp
   have dp:d ≠ p:=bB a2 hp
   have a3:=S3 _ _ (up ld0 hx)
   have zl:zs.length < sizeLine:=by
    have h9:101 < sizeLine:=by decide
    rw [(of_ [] (by intro a ha; cases ha)).len,aY]
    omega
   have r3p:r3 ≠ p:=bB e3 hp
   refine ⟨zs,(bG rp).trans a1,zl,(bG lr).trans ((bG (bB a3 hp)).trans a3),_,_,rfl,fun b o e'=>?_,?_,bD,?_⟩
   .have c:=S3 _ _ (up (bB e' hd) (S1 _ _ e'))
    rw [bG (bB e' hrn'),bG (bB c hp)]
    exact c
   .rw [bG dr0,bG dp,a2,Oz no,cG e,bh]; rfl
   .intro as has
    have r3n:r3 ∉ d :: r :: as:=by
     simp only [List.mem_cons,not_or]
     refine ⟨fun z=>(by rw [z,bD] at f3; cases f3),fun z=>(by rw [z,up dr0.symm h2] at f3; cases f3),fun z=>?_⟩
     obtain ⟨u,hu,_⟩:=has _ z
     rw [up (bB hu hd) (S1 _ _ hu)] at f3
     cases f3
    have asp:∀ a ∈ as,∃ u,H3 a = some u/\∀ ys,u ≠ .tup ys:=fun a ha=>let ⟨u,hu,n⟩:=has a ha; ⟨u,S3 _ _ (up (bB hu hd) (S1 _ _ hu)),n⟩
    have pn:p ∉ d :: r :: as:=by
     simp only [List.mem_cons,not_or]
     exact ⟨dp.symm,rp.symm,fun z=>let ⟨u,hu,_⟩:=asp _ z; bB hu hp rfl⟩
    have u2:∀ {b o},b ∉ d :: r :: as->(upd H3 p (.tup [.str g.nm,.ref g.p,.ref r3])) b = some o->del (d :: r :: as) (upd (upd H3 p (.tup [.str g.nm,.ref g.p,.ref r3])) r (.lst (zs ++ [.ref p]))) b = some o:=fun {b o} h e=>iG h ((bG (by simp only [List.mem_cons,not_or] at h; exact h.2.1)).trans e)
    rw [cG e]
    refine ((of_ as has).same fun b o e'=>?_).snoc (u2 pn bD) (u2 r3n ((bG r3p).trans e3)) (w3.imp fun t ys e'=>?_)
    .obtain ⟨b1,b2⟩:=m9 e'
     have c:=S3 _ _ (up (by simp only [List.mem_cons,not_or] at b1; exact b1.1) b2)
     exact u2 b1 ((bG (bB c hp)).trans c)
    .refine u2 ?_ ((bG (bB e' hp)).trans e')
     simp only [List.mem_cons,not_or]
     exact ⟨eF e' a2 (by intro z; cases z),eF e' a1 (by intro z; cases z),fun z=>let ⟨u,hu,n⟩:=asp _ z; n _ (Option.some.inj (hu.symm.trans e'))⟩
  .rintro σ' H' ⟨u,zs,rfl,S1,h1,h2,of_⟩ hx
   rw [dr.len,aN] at of_
   walk_at "rd"
   exact q r H' zs S1 hrn' h2 fun as has=>(of_ as has).same fun b o e=>let ⟨a,c⟩:=m9 e; iG (fun z=>a (aG _ (aG _ z))) c
structure jN (D:Adr) (H:Hp) (xs:List V) (rms:List (Str × List Dr)):Prop where
 len:xs.length = rms.length
 at_:∀ (k:Nat) (g:Str × List Dr),rms[k]? = some g->∃ t l ys,xs[k]? = some (.ref t)/\H t = some (.tup [.str g.1,.ref l])/\H l = some (.lst ys)/\rG D H ys g.2
theorem jN.rooms {H:Hp} {xs:List V} {rms:List (Str × List Dr)} (h:jN D H xs rms):Ks H xs (rms.map (·.1)):=⟨by rw [h.len,ak],fun k n e=>by
 rw [aq] at e
 cases e0:rms[k]? with
 | none=>rw [e0] at e; cases e
 | some g =>
  rw [e0] at e
  cases e
  obtain ⟨t,l,ys,a,b,_⟩:=h.at_ k g e0
  exact ⟨t,_,a,b⟩⟩
theorem jN.same {H H':Hp} {xs:List V} {rms:List (Str × List Dr)} (S:Same H H') (h:jN D H xs rms):jN D H' xs rms:=⟨h.len,fun k g e=>let ⟨t,l,ys,a,b,c,d⟩:=h.at_ k g e; ⟨t,l,ys,a,S _ _ b,S _ _ c,d.same S⟩⟩
structure pJ (ns:List Str) (H:Hp) (zs:List V) (gss:List (List Dr)):Prop where
 len:zs.length = gss.length
 at_:∀ (k:Nat) (gs:List Dr),gss[k]? = some gs->∃ l ys,zs[k]? = some (.ref l)/\H l = some (.lst ys)/\o7 ns H ys gs
theorem pJ.same {ns:List Str} {H H':Hp} {zs:List V} {gss:List (List Dr)} (S:Same H H') (h:pJ ns H zs gss):pJ ns H' zs gss:=⟨h.len,fun k g e=>let ⟨l,ys,a,b,c⟩:=h.at_ k g e; ⟨l,ys,a,S _ _ b,c.same S⟩⟩
theorem pJ.snoc {ns:List Str} {H:Hp} {zs ys:List V} {gss:List (List Dr)} {l:Addr} {gs:List Dr} (h:pJ ns H zs gss) (hl:H l = some (.lst ys)) (ho:o7 ns H ys gs):pJ ns H (zs ++ [.ref l]) (gss ++ [gs]):=by
 refine ⟨by rw [au,au,h.len]; rfl,fun k g' e=>?_⟩
 by_cases hk:k < gss.length
 .rw [aC hk] at e
  obtain ⟨l',ys',a,b⟩:=h.at_ k g' e
  exact ⟨l',ys',by rw [aC (by rw [h.len]; exact hk)]; exact a,b⟩
 .rw [aB (by omega)] at e
  have e0:k - gss.length = 0:=by
   have:=(ao.mp e).1
   simp at this; omega
  rw [e0] at e
  cases e
  refine ⟨l,ys,?_,hl,ho⟩
  rw [aB (by rw [h.len]; omega),h.len,e0]; rfl
theorem wj {H:Hp} {o b C0 dx0:Addr} {u:HO} (ho:H o = some (.ins C0 dx0 [])) (e:H b = some u) (n:u ≠ .ins C0 dx0 []):del [o] H b = some u:=iG (by simp only [List.mem_singleton]; exact eF e ho n) e
theorem jN.off {H:Hp} {o C0 dx0:Addr} {xs:List V} {rms:List (Str × List Dr)} (ho:H o = some (.ins C0 dx0 [])) (h:jN D H xs rms):jN D (del [o] H) xs rms:=⟨h.len,fun k g e=>by
 obtain ⟨t,l,ys,a,b,c,d⟩:=h.at_ k g e
 refine ⟨t,l,ys,a,wj ho b (by intro z; cases z),wj ho c (by intro z; cases z),d.len,fun k g e=>?_⟩
 obtain ⟨s,a,C,dx,l,xs,h1,h2,h3,h4,h5⟩:=d.at_ k g e
 exact ⟨s,a,C,dx,l,xs,h1,wj ho h2 (by intro z; injection z with _ _ z; cases z),wj ho h3 (by intro z; cases z),⟨h4.len,fun k g e=>let ⟨t,a,b⟩:=h4.at_ k g e; ⟨t,a,wj ho b (by intro z; cases z)⟩⟩,h5⟩⟩
structure Kp (rms:List (Str × List Dr)):Prop where
 len:rms.length <= 20
 nd:(rms.map (·.1)).Nodup
 wd:∀ g ∈ rms,Wd g.1
 few:∀ g ∈ rms,g.2.length <= 100
 dn:∀ g ∈ rms,(g.2.map (·.nm)).Nodup
 to_:∀ g ∈ rms,∀ d ∈ g.2,∀ z ∈ d.ws,z.1 ∈ rms.map (·.1)
noncomputable def kZ (D:Adr) (H:Hp) (a p:Addr) (rms:List (Str × List Dr)):Prop:=∃ dx n l zs,H a = some (.ins D.Hall dx [("share",.ref p),("numbers",.ref n),("offered",.ref l)])/\H n = some (.dK (vP (rms.map (·.1))))/\H l = some (.lst zs)/\pJ (rms.map (·.1)) H zs (rms.map (·.2))
theorem kZ.same {H H':Hp} {a p:Addr} {rms:List (Str × List Dr)} (S:Same H H') (h:kZ D H a p rms):kZ D H' a p rms:=let ⟨dx,n,l,zs,b,c,d,e⟩:=h; ⟨dx,n,l,zs,S _ _ b,S _ _ c,S _ _ d,e.same S⟩
noncomputable def lM (K:Frag) (D:Adr):Sp:=fun vs H Q _=>∃ (o dx p l:Addr) (x y:Int) (xs:List V) (rms:List (Str × List Dr)),vs = [.ref o,.ref p,.ref l]/\H o = some (.ins D.Hall dx [])/\Fk K H p x y/\0 <= x/\x < y/\Bd x/\Bd y/\H l = some (.lst xs)/\jN D H xs rms/\Kp rms /\
 ∀ H',Keep o H H'->kZ D H' o p rms->Q .non H'
noncomputable def hJ (o D1:Addr) (rms:List (Str × List Dr)) (H:Hp) (k:Nat) (zs:List V) (H':Hp):Prop:=Same H H'/\H' D1 = some (.lst zs)/\pJ (rms.map (·.1)) (del [o,D1] H') zs ((rms.take k).map (·.2))
theorem E_ (F:Fun K uW uG mW f fd) (T:Txt K mg D) (m8:OkF P w K mg base 3 gK gC (jm (K:=K))) (oX:OkF P w K mg base 2 iK iH j8) (qu:OkF P w K mg base 3 jr jF (lA D)):cB P w K mg base CX0 4 f fd jl (lM K D):=by
 refine F.ok Ej (fun vs H Q E h=>?_) (fun cdv A outer s H vs Q E hr h=>?_)
 .obtain ⟨o,dx,p,l,x,y,xs,rms,rfl,_⟩:=h
  rfl
 .obtain ⟨o,dx,p,l,x,y,xs,rms,rfl,ho,fk,x0,xy,bx,b_y,hl,hR,ok,q⟩:=h
  refine ⟨_,(bH (cM (bL m8 (hr.mono (by decide)) (by rfl) (bA (pv 1) bC)))
   (bH (qK (pv 0) (pv 1) rfl)
   (bH (qK (pv 0) (bL oX (hr.mono (by decide)) (by rfl) (bA (pv 2) bC)) rfl)
   (bI (qK (pv 0) (mJ (bK mW) qm qm ["room"] (dw ((pv 2)).mono) (fW (i:=0)) dB (bL qu (hr.mono (by decide)) (by rfl) (bA (bQ eN (pv 0) bF (fun _ _=>rfl)) (bA (Tt (K':=K) rfl (pv 1) rfl) bC)))) rfl))))),?_⟩
  unfold jm j8 lA
  walk_at "rd"
  have hR0:=hR.off ho
  have hl0:del [o] H l = some (.lst xs):=wj ho hl (by intro z; cases z)
  have S1:∀ u,Same (del [o] H) (upd H o u):=fun u b v e=>by
   obtain ⟨b1,b2⟩:=m9 e
   exact (bG (by simpa using b1)).trans b2
  have cl:=T.tR
  refine ⟨x,y,fk,x0,xy,bx,b_y,D.Hall,dx,[],ho,cl,T.Bh,(by show 0 < 1000; decide),xs,S1 _ _ _ hl0,_,(hR0.same (S1 _)).rooms,ok.nd,fun g hg=>?_,by rw [ak]; exact ok.len,fun d H2 S2 f2 e2=>?_⟩
  .obtain ⟨g',hg',rfl⟩:=List.mem_map.mp hg
   exact ok.wd g' hg'
  have od:d ≠ o:=fun z=>by rw [z,bD] at f2; cases f2
  refine ⟨D.Hall,dx,_,S2 _ _ bD,cl,T.kE,(by show 1 < 1000; decide),dz ?_⟩
  have S3:∀ u,Same (del [o] H) (upd H2 o u):=fun u b v e=>(bG (by have:=(m9 e).1; simpa using this)).trans (S2 _ _ (S1 _ _ _ e))
  walk_at "rd"
  have hz9:21 < sizeLine:=by decide
  have n20:=ok.len
  refine ⟨xs,S3 _ _ _ hl0,by rw [hR.len]; omega,fun D1 hD1=>?_⟩
  have eo:upd H2 o (.ins D.Hall dx (ji "numbers" (.ref d) (ji "share" (.ref p) []))) o = some (.ins D.Hall dx [("share",.ref p),("numbers",.ref d)]):=bD
  have ed:upd H2 o (.ins D.Hall dx (ji "numbers" (.ref d) (ji "share" (.ref p) []))) d = some (.dK (vP (rms.map (·.1)))):=(bG od).trans e2
  have S4:=S3 (.ins D.Hall dx (ji "numbers" (.ref d) (ji "share" (.ref p) [])))
  generalize upd H2 o (.ins D.Hall dx (ji "numbers" (.ref d) (ji "share" (.ref p) []))) = H3 at eo ed S4 hD1 ⊢
  have oD:o ≠ D1:=bB eo hD1
  refine ⟨hJ o D1 rms H3,⟨Same.upd hD1,bD,rfl,fun k g e=>by simp at e⟩,?_,?_⟩
  .rintro k x1 ys Hc hk ⟨S5,h5,of_⟩ hy hlc
   have lk:k < rms.length:=by rw [<- hR.len]; exact (ao.mp hk).1
   have e:rms[k]? = some rms[k]:=aj lk
   have hm:=aR lk
   obtain ⟨t,ll,ds,a,b,c,dd⟩:=(hR0.same (S4.trans S5)).at_ k _ e
   rw [hk] at a
   cases a
   generalize rms[k] = g at *
   refine ⟨t,rfl,_,b,_,eE,D.Hall,dx,_,S5 _ _ eo,cl,T.kE,_,rfl,ll,rfl,d,rfl,ds,c,g.2,dd,ok.few g hm,ok.dn g hm,_,S5 _ _ ed,ok.nd,ok.to_ g hm,?_⟩
   intro r H4 zs S6 f6 e6 o6
   have h4:=S6 _ _ h5
   have ho4:=S6 _ _ (S5 _ _ eo)
   refine ⟨h4,S6 _ _ hlc,fun b v e'=>?_,bD,?_⟩
   .exact (bG (bB e' hD1)).trans (S6 _ _ (S5 _ _ e'))
   .have ee:del [o,D1] (upd H4 D1 (.lst (ys ++ [.ref r]))) = del [o,D1] H4:=by
     funext b
     unfold del
     split
     .rfl
     .rename_i hb
      exact bG (by simp at hb; exact hb.2)
    rw [ee,cG e,bh]
    refine (of_.same (uc fun b v _ e'=>S6 _ _ e')).snoc (iG ?_ e6) (o6 [o,D1] ?_)
    .simp only [List.mem_cons,List.not_mem_nil,or_false,not_or]
     exact ⟨fun z=>(by rw [z,S5 _ _ eo] at f6; cases f6),fun z=>(by rw [z,h5] at f6; cases f6)⟩
    .intro a ha
     simp only [List.mem_cons,List.not_mem_nil,or_false] at ha
     rcases ha with rfl | rfl
     .exact ⟨_,S5 _ _ eo,by intro ys z; cases z⟩
     .exact ⟨_,h5,by intro ys z; cases z⟩
  .rintro ys Hc ⟨S5,h5,of_⟩ hy
   rw [hR.len,aN] at of_
   refine ⟨D.Hall,dx,_,S5 _ _ eo,cl,T.oZ,(by show 2 < 1000; decide),q _ (fun b v nb e=>?_) ⟨dx,d,D1,ys,bD,(bG (fun z=>od (by rw [z]))).trans (S5 _ _ ed),(bG oD.symm).trans h5,of_.same fun b v e=>?_⟩⟩
   .exact (bG nb).trans (S5 _ _ (S4 _ _ (iG (by simpa using nb) e)))
   .obtain ⟨b1,b2⟩:=m9 e
    exact (bG (by simp at b1; exact b1.1)).trans b2
noncomputable def gW (D:Adr):Sp:=fun vs H Q _=>∃ (o p:Addr) (rms:List (Str × List Dr)),vs = [.ref o]/\kZ D H o p rms/\Q (.int rms.length) H
theorem Dp (F:Fun K uD uf pX f fd) (T:Txt K mg D):cB P w K mg base CX0 1 f fd fP (gW D):=by
 refine F.ok CN (fun vs H Q E h=>?_) (fun cdv A outer s H vs Q E hr h=>?_)
 .obtain ⟨o,p,rms,rfl,_⟩:=h
  rfl
 .obtain ⟨o,p,rms,rfl,⟨dx,n,l,zs,ho,hn,hl,of_⟩,q⟩:=h
  refine ⟨_,(bI (bU (bO BW (by rfl) T.dR PySem.boot_len (bA (pK (pv 0) rfl) bC)))),?_⟩
  walk_at "rd"
  refine ⟨D.Hall,dx,_,ho,T.tR,T.kE,_,rfl,n,_,rfl,hn,?_⟩
  rw [zU,ak]
  exact q
noncomputable def jW (D:Adr):Sp:=fun vs H Q _=>∃ (o p:Addr) (k:Nat) (rms:List (Str × List Dr)),vs = [.ref o,.int k]/\kZ D H o p rms/\k < rms.length/\Q .non H
theorem tu (F:Fun K mG mq jA f fd) (T:Txt K mg D) (cN:OkF P w K mg base 1 fj fu jj) (d7:OkI P w K mg base CX0 1 D.Hall_size fP (gW D)): cB P w K mg base CX0 2 f fd dO (jW D):=by
 refine F.ok sy (fun vs H Q E h=>?_) (fun cdv A outer s H vs Q E hr h=>?_)
 .obtain ⟨o,p,k,rms,rfl,_⟩:=h
  rfl
 .obtain ⟨o,p,k,rms,rfl,hh,lk,q⟩:=h
  refine ⟨_,(bI (cF (PW.pt (pw_or (dD (cX (bL cN (hr.mono (by decide)) (by rfl) (bA (pv 1) bC)) (fun _=>rfl))) (pw_or1 (dD (Gu Gz u_ bF (pv 1) (PE.any fun C (hC:cZ D C)=>(qY (pv 0) (T.cl C hC.fam) (T.oU C hC) d7 (hr.mono (by decide)))))))))
    (bI mC)
    bW)),?_⟩
  unfold jj gW
  walk_at "rd"
  obtain ⟨dx,n,l,zs,ho,hn,hl,of_⟩:=hh
  rw [if_pos (by simp)]
  refine ⟨D.Hall,(by unfold cZ; simp),dx,_,ho,rfl,p,rms,⟨dx,n,l,zs,ho,hn,hl,of_⟩,?_⟩
  rw [if_neg (by simp; omega)]
  exact q
noncomputable def fJ (D1:Addr) (ns:List Str) (gs:List Dr) (H:Hp) (k:Nat) (zs:List V) (H':Hp):Prop:=Same H H'/\H' D1 = some (.lst zs)/\∀ as,Kz H as->o7 ns (del (D1 :: as) H') zs (gs.take k)
noncomputable def jy (D:Adr):Sp:=fun vs H Q _=>∃ (o p:Addr) (k:Nat) (rms:List (Str × List Dr)) (g:Str × List Dr),vs = [.ref o,.int k]/\kZ D H o p rms/\rms[k]? = some g/\g.2.length <= 100/\(∀ d ∈ g.2,d.ws.length <= 100) /\
 ∀ r H' zs,Same H H'->H r = none->H' r = some (.lst zs)->(∀ as,Kz H as->o7 (rms.map (·.1)) (del as H') zs g.2)->Q (.ref r) H'
theorem yq (F:Fun K pC qL j6 f fd) (T:Txt K mg D) (jz:OkI P w K mg base CX0 2 D.Hall_check_room dO (jW D)): cB P w K mg base CX0 3 f fd eO (jy D):=by
 refine F.ok yU (fun vs H Q E h=>?_) (fun cdv A outer s H vs Q E hr h=>?_)
 .obtain ⟨o,p,k,rms,g,rfl,_⟩:=h
  rfl
 .obtain ⟨o,p,k,rms,g,rfl,hh,hg,g100,w100,q⟩:=h
  refine ⟨_,(bH (cM (PE.any fun C (hC:cW D C)=>(zE (pv 0) (T.cl C hC.fam) (T.rZ C hC) jz (hr.mono (by decide)) (bA (pv 1) bC))))
   (bI (bU (mJ (bK j6) nj nj ["name", "pay", "numbered"] (dw ((bQ bM (pK (pv 0) rfl) (pv 1) (fun _ _=>rfl))).mono) (iT (n:=3) rfl (cC (fW (i:=0)) (cC (fW (i:=1)) (cC (fW (i:=2)) gQ)))) dB (cU (bA (pv 0) (bA (pv 1) (bA (jM sE (by rfl) T.vM boot_list (bA (pv 2) bC)) bC)))))))),?_⟩
  unfold jW
  walk_at "rd"
  obtain ⟨dx,n,l,zs,ho,hn,hl,of_⟩:=hh
  have lk:=(ao.mp hg).1
  refine ⟨D.Hall,(by unfold cW; simp),dx,_,ho,rfl,p,k,rfl,rms,⟨dx,n,l,zs,ho,hn,hl,of_⟩,lk,qp ?_⟩
  obtain ⟨ll,ys,a,b,c⟩:=of_.at_ k g.2 (by rw [aq,hg]; rfl)
  have z9:101 < sizeLine:=by decide
  walk_at "rd"
  refine ⟨D.Hall,dx,_,ho,T.tR,T.oZ,_,rfl,l,rfl,zs,hl,_,bR a,ll,rfl,ys,b,by rw [c.len]; omega,fun D1 hD=>?_⟩
  refine ⟨fJ D1 (rms.map (·.1)) g.2 H,⟨Same.upd hD,bD,fun as _=>⟨rfl,fun k g e=>by simp at e⟩⟩,?_,?_⟩
  .rintro i x1 zs1 Hc hi ⟨S5,h5,o5⟩ hy hlc pre hpre
   have li:i < g.2.length:=by rw [<- c.len]; exact (ao.mp hi).1
   have e:g.2[i]? = some g.2[i]:=aj li
   have hm:=w100 _ (aR li)
   obtain ⟨t,r,ws,ea,eb,ec,ed⟩:=(c.same S5).at_ i _ e
   rw [hi] at ea
   cases ea
   generalize g.2[i] = d at *
   obtain ⟨u1,u2,u3,rfl⟩ : ∃ a b c,pre = [a,b,c]:=by
    match pre,hpre with
    | [a,b,c],_=>exact ⟨a,b,c,rfl⟩
   walk_at "rd"
   refine ⟨_,eb,rfl,_,_,rfl,_,_,rfl,_,_,rfl,rfl,[_,_,_],rfl,rfl,?_⟩
   refine ⟨r,rfl,ws,ec,fun l1 hl1=>⟨by decide,fun p1 hp1=>?_⟩⟩
   have lp:l1 ≠ p1:=bB bD hp1
   have hp1':Hc p1 = none:=(bG lp.symm).symm.trans hp1
   have S6:Same Hc (upd (upd Hc l1 (.lst ws)) p1 (.tup [.str d.nm,.ref d.p,.ref l1])):=(Same.upd hl1).trans (Same.upd hp1)
   have e6:upd (upd Hc l1 (.lst ws)) p1 (.tup [.str d.nm,.ref d.p,.ref l1]) l1 = some (.lst ws):=(bG lp).trans bD
   have e7:upd (upd Hc l1 (.lst ws)) p1 (.tup [.str d.nm,.ref d.p,.ref l1]) p1 = some (.tup [.str d.nm,.ref d.p,.ref l1]):=bD
   generalize upd (upd Hc l1 (.lst ws)) p1 (.tup [.str d.nm,.ref d.p,.ref l1]) = H7 at S6 e6 e7 ⊢
   refine ⟨S6 _ _ h5,S6 _ _ hlc,fun b v e'=>(bG (bB e' hD)).trans (S6 _ _ (S5 _ _ e')),bD,fun as has=>?_⟩
   have nin:∀ {b},Hc b = none->b ∉ D1 :: as:=fun {b} hb=>by
    simp only [List.mem_cons,not_or]
    exact ⟨fun z=>(by rw [z,h5] at hb; cases hb),fun z=>let ⟨u,hu,_⟩:=has _ z; bB (S5 _ _ hu) hb rfl⟩
   have u2:∀ {b o},b ∉ D1 :: as->H7 b = some o->del (D1 :: as) (upd H7 D1 (.lst (zs1 ++ [.ref p1]))) b = some o:=fun {b o} h e=>iG h ((bG (by simp only [List.mem_cons,not_or] at h; exact h.1)).trans e)
   rw [cG e]
   refine ((o5 as has).same fun b v e'=>?_).snoc (u2 (nin hp1') e7) (u2 (nin hl1) e6) (ed.imp fun t us e'=>u2 ?_ (S6 _ _ e'))
   .obtain ⟨b1,b2⟩:=m9 e'
    exact u2 b1 (S6 _ _ b2)
   .simp only [List.mem_cons,not_or]
    exact ⟨eF e' h5 (by intro z; cases z),fun z=>let ⟨u,hu,n⟩:=has _ z; n _ (Option.some.inj ((S5 _ _ hu).symm.trans e'))⟩
  .rintro zs1 Hc ⟨S5,h5,o5⟩ _
   rw [c.len,aN] at o5
   exact q D1 Hc zs1 S5 hD h5 fun as has=>(o5 as has).same fun b o e=>let ⟨a,c⟩:=m9 e; iG (fun z=>a (aG _ z)) c
noncomputable def qN (C:Addr):Sp:=fun vs H Q _=>∃ a v,vs = [.ref a,v]/\H a = some (XN a C none)/\∀ d,H d = none->d ≠ a->Q .non (upd (upd H a (XN a C (some d))) d (.xd [("room",v)]))
theorem xU (F:Fun K pI qt m6 f fd) (T:Txt K mg D):cB P w K mg base CX0 1 f fd gF (qN D.NoPlan):=by
 refine F.okB za (fun vs H Q E h=>?_) (fun cdv A outer s H vs Q E hr h=>?_)
 .obtain ⟨a,v,rfl,_⟩:=h
  rfl
 .obtain ⟨a,v,rfl,ha,q⟩:=h
  refine ⟨_,(cg (PSB.mk (cM (Qe T.ib_HallError T.xi_NoPlan (by rfl) T.wF (bA (pv 0) (bA fG bC)))))
   (uU (PSB.mk (U5 (pv 0) (pv 1) rfl)))),?_⟩
  exact ⟨_,rfl,a,[_],rfl,ha,by decide,_,rfl,_,rfl,a,D.NoPlan,rfl,ha,T.xs_NoPlan,T.pF,q⟩
theorem yK {H H':Hp} (S:Same H H') {v:V} {t:String} (h:tyS H v = some t):tyS H' v = some t:=by
 cases v with
 | ref a =>
  have h:(match H a with
   | some (.lst _)=>some "list"
   | some (.tup _)=>some "tuple"
   | some (.dK _)=>some "dict"
   | _=>none) = some t:=h
  show (match H' a with
   | some (.lst _)=>some "list"
   | some (.tup _)=>some "tuple"
   | some (.dK _)=>some "dict"
   | _=>none) = some t
  split at h
  .rename_i e; rw [S a _ e]; exact h
  .rename_i e; rw [S a _ e]; exact h
  .rename_i e; rw [S a _ e]; exact h
  .cases h
 | _=>exact h
noncomputable def adz (n:Nat):V->Prop | .int k=>0 <= k/\k < n | _=>False
noncomputable def Odd (H:Hp) (v:V):Prop:=∃ t,tyS H v = some t
theorem Odd.same {H H':Hp} {v:V} (h:Odd H v) (S:Same H H'):Odd H' v:=h.imp fun _ z=>yK S z
theorem Xc {H:Hp} {v:V} {t:String} (h:tyS H v = some t) (n:∀ k,v ≠ .int k):(t == "int") = false:=by
 cases v with
 | int k=>exact absurd rfl (n k)
 | ref a =>
  unfold tyS at h
  dsimp only at h
  split at h <;> cases h <;> rfl
 | _=>cases h <;> rfl
theorem Vs {H:Hp} {a d:Addr} {o o' x:HO} (n:H a = none) (e:d ≠ a):out (upd (upd (upd H a o) a o') d x) a = upd H d x:=by
 funext b
 by_cases z:b = a
 .subst z; rw [Hs,bG (Ne.symm e),n]
 .rw [qR z]
  by_cases y:b = d
  .subst y; rw [bD,bD]
  .rw [bG y,bG z,bG z,bG y]
theorem IV {C:Addr} {E:XK} {v:V} {t:TA} {R:Ends} {σ:L2.St} {H:Hp} (ht:∀ Q:List V->Hp->Prop,Q [v] H->t σ H Q) (e:∀ d,H d = none->E (.ref C) (some d) (upd H d (.xd [("room",v)]))):Ft C (qN C) (fun C d _ H'=>E C d H') t R σ H :=
 ht _ ⟨(show 1 <= sizeLine by decide),fun a ha=>⟨a,v,rfl,bD,fun d hd da=>⟨rfl,some d,(bG (Ne.symm da)).trans bD,(by rw [Vs ha da]; exact e d (by rw [bG da] at hd; exact hd))⟩⟩⟩
structure zG (rms:List (Str × List Dr)):Prop where
 len:rms.length <= 20
 few:∀ g ∈ rms,g.2.length <= 100
 ways:∀ g ∈ rms,∀ d ∈ g.2,d.ws.length <= 100
noncomputable def mK (v:V) (m:Nat):Bool:=if m = 0 then decide (v = .non) else match v with
 | .int i=>decide (0 <= i) && decide (i < m)
 | _=>false
noncomputable def CT:Sp:=fun vs H Q _=>∃ (v:V) (m:Nat),vs = [v,.int m]/\Odd H v/\Q (.bl (mK v m)) H
theorem Ww (F:Fun K tY tY Jv f fd) (T:Txt K mg D) (cN:OkF P w K mg base 1 fj fu jj):cB P w K mg base CX0 2 f fd tZ CT:=by
 refine F.ok VN (fun vs H Q E h=>?_) (fun cdv A outer s H vs Q E hr h=>?_)
 .obtain ⟨v,m,rfl,_⟩:=h
  rfl
 .obtain ⟨v,m,rfl,⟨t,ot⟩,q⟩:=h
  refine ⟨_,(bH (cF (bZ kj (pv 1) bF (cj _))
    (bI (bU (qW Ri (pv 0) iY (cj _))))
    bW)
   (bI (bU (JL (bL cN (hr.mono (by decide)) (by rfl) (bA (pv 0) bC)) (JM (GJ Gz u_ bF (pv 0) (pv 1))))))),?_⟩
  unfold mK at q
  refine bY fun R1 hR1=>?_
  refine dW ⟨_,rfl,rfl,decide (m = 0),congrArg V.bl (decide_eq_decide.mpr ?_),?_⟩
  .constructor
   .intro z; injection z with z; omega
   .intro z; rw [z]; rfl
  by_cases m0:m = 0
  .rw [if_pos m0] at q
   rw [decide_eq_true m0]
   exact ⟨_,rfl,rfl,q⟩
  .rw [if_neg m0] at q
   rw [decide_eq_false m0]
   show R1 _ _ _
   subst hR1
   refine su ⟨_,rfl,v,t,rfl,ot,_,rfl,?_⟩
   by_cases iv:∃ k,v = .int k
   .obtain ⟨k,rfl⟩:=iv
    cases ot
    rw [if_pos (by decide)]
    have q:Q (V.bl (decide (0 <= k) && decide (k < m))) H:=q
    refine ⟨_,rfl,0,k,rfl,rfl,decide (0 <= k),rfl,?_⟩
    by_cases k0:0 <= k
    .rw [decide_eq_true k0] at q ⊢
     exact ⟨_,rfl,_,_,rfl,rfl,q⟩
    .rw [decide_eq_false k0] at q ⊢
     exact q
   .rw [Xc ot fun k z=>iv ⟨k,z⟩]
    cases v with
    | int k=>exact absurd ⟨k,rfl⟩ iv
    | _=>exact q
theorem j5 {H:Hp} {a:Addr} {xs:List V} (h:H a = some (.lst xs)):tyS H (.ref a) = some "list" := by
 unfold tyS
 dsimp only
 rw [h]
noncomputable def dnR (rms:List (Str × List Dr)) (k:Nat):Nat:=((rms[k]?).map (·.2.length)).getD 0
noncomputable def nW (D:Adr):Sp:=fun vs H Q E=>∃ (o p:Addr) (v:V) (rms:List (Str × List Dr)),vs = [.ref o,v]/\kZ D H o p rms/\zG rms/\Odd H v /\
 ((∃ (l:Addr) (xs:List V),v = .ref l/\H l = some (.lst xs)/\xs.length = rms.length/\(∀ x ∈ xs,Odd H x) /\
   (((∀ k x,xs[k]? = some x->mK x (dnR rms k) = true)/\∀ H',Same H H'->Q (.bl true) H')
   \/ ∃ (k:Nat) (x:V),xs[k]? = some x/\mK x (dnR rms k) = false/\(∀ j y,j < k->xs[j]? = some y->mK y (dnR rms j) = true)/\∀ d H',Same H H'->H d = none->H' d = some (.xd [("room",.int (k:Nat))])->E (.ref D.NoPlan) (some d) H'))
 \/ ((∀ l xs,v = .ref l->H l = some (.lst xs)->xs.length ≠ rms.length)/\∀ d H',Same H H'->H d = none->H' d = some (.xd [("room",.non)])->E (.ref D.NoPlan) (some d) H'))
theorem Tc {H:Hp} {v:V} (h:tyS H v = some "list"):∃ l xs,v = .ref l/\H l = some (.lst xs):=by
 cases v with
 | ref a =>
  unfold tyS at h
  dsimp only at h
  split at h
  .rename_i e; exact ⟨a,_,rfl,e⟩
  all_goals first | cases h; done | exact absurd (Option.some.inj h) (by decide)
 | _=>first | cases h; done | exact absurd (Option.some.inj h) (by decide)
theorem yL (F:Fun K gb gb oV f fd) (T:Txt K mg D) (JR:OkF P w K mg base 2 tY tZ CT) (d7:OkI P w K mg base CX0 1 D.Hall_size fP (gW D)) (fX:OkI P w K mg base CX0 3 D.Hall_offers eO (jy D)) (jZ:OkI P w K mg base CX0 1 D.NoPlan_init gF (qN D.NoPlan)):cB P w K mg base (CXO P w) 4 f fd gk (nW D):=by
 refine F.okX m5 (fun vs H Q E h=>?_) (fun cdv A outer s H vs Q E hr h=>?_)
 .obtain ⟨o,p,v,rms,rfl,_⟩:=h
  rfl
 .obtain ⟨o,p,v,rms,rfl,hh,few,⟨ty,ov⟩,cs⟩:=h
  have hI:=hh
  obtain ⟨dx,nn,ll,zs0,ho,hn,hll,of_⟩:=hI
  refine ⟨_,(bH (cF (PW.pt (pw_or (dD (cX (bO jw (by rfl) T.cu boot_isinstance (bA (pv 1) (bA (j9 (v:=.ty "list") (by rfl) T.vM boot_list rfl) bC))) (fun _=>rfl))) (pw_or1 (bZ zA (bO cA (by rfl) T.dR PySem.boot_len (bA (pv 1) bC)) (PE.any fun C (hC:cZ D C)=>(qY (pv 0) (T.cl C hC.fam) (T.oU C hC) d7 (hr.mono (by decide)))) (cj _)))))
    (bI (Bp rfl (by rfl) T.yh T.xi_NoPlan jZ (hr.mono (by decide)) Bt (bA iY bC)))
    bW)
   (bH (kO PassesOwn.leaving rfl (Vc (by rfl) T.HW (bA (pv 1) bC).mono) (iT (n:=2) rfl (cC (cD (i:=2) m5.nd rfl (Or.inl rfl)) (cC (cD (i:=3) m5.nd rfl (Or.inl rfl)) gQ)))
    (bI (cF (dD (cX (bL JR (hr.mono (by decide)) (by rfl) (bA (pv 3) (bA (bO cA (by rfl) T.dR PySem.boot_len (bA (PE.any fun C (hC:c7 D C)=>(zE (pv 0) (T.cl C hC.fam) (T.pR C hC) fX (hr.mono (by decide)) (bA (pv 2) bC))) bC)) bC))) (fun _=>rfl)))
     (bI (Bp rfl (by rfl) T.yh T.xi_NoPlan jZ (hr.mono (by decide)) Bt (bA (pv 2) bC)))
     bW)))
   (bI (bU iJ)))),?_⟩
  refine bY fun R1 hR1=>?_
  have no:∀ (k:V) (ta:TA) (R:Ends) (σ:L2.St) (H1:Hp),Same H H1->(∀ Q:List V->Hp->Prop,Q [k] H1->ta σ H1 Q)->(∀ d H',Same H H'->H d = none->H' d = some (.xd [("room",k)])->E (.ref D.NoPlan) (some d) H')->Ft D.NoPlan (qN D.NoPlan) (fun C d x H'=>E C d H') ta R σ H1:=fun k ta R σ H1 S ht e=>IV ht fun d hd=>e d _ (S.trans (Same.upd hd)) (Same.free S hd) bD
  refine dW ⟨_,rfl,v,_,ty,rfl,by simp,ov,_,rfl,?_⟩
  dsimp only
  have rf:Same H H:=fun _ _ z=>z
  by_cases tl:ty = "list"
  .subst tl
   obtain ⟨l,xs,rfl,hl⟩:=Tc ov
   rw [if_neg (by decide)]
   refine ⟨_,rfl,l,xs,rfl,hl,D.Hall,(by unfold cZ; simp),_,rfl,o,dx,_,rfl,ho,rfl,o,p,rms,rfl,hh,rfl,!decide (xs.length = rms.length),?_,?_⟩
   .exact congrArg (fun b=>V.bl (!b)) (decide_eq_decide.mpr ⟨fun z=>by injection z with z; omega,fun z=>by rw [z]⟩)
   rcases cs with ⟨l',xs',e1,hl',ln,ox,cs⟩ | ⟨nl,e⟩
   .cases e1
    rw [hl] at hl'
    cases hl'
    rw [decide_eq_true ln]
    show R1 _ _ _
    subst hR1
    refine bY fun R1 hR1=>?_
    refine dW (IW ⟨_,rfl,l,xs,rfl,hl,fun k σ H'=>∃ u1 u2,σ = [some (.ref o),some (.ref l),u1,u2]/\Same H H'/\∀ j x,j < k->xs[j]? = some x->mK x (dnR rms j) = true,⟨none,none,rfl,rf,fun j x z=>absurd z (Nat.not_lt_zero _)⟩,?_,?_⟩)
    .rintro k x σ' H' t hk ⟨u1,u2,rfl,S1,fit⟩ hl' ht
     have S2:Same H' (upd H' t (.tup [.int k,x])):=Same.upd ht
     have e2:upd H' t (.tup [.int k,x]) t = some (.tup [.int k,x]):=bD
     generalize upd H' t (.tup [.int k,x]) = H2 at S2 e2 ⊢
     have SS:=S1.trans S2
     have lk:k < rms.length:=by rw [<- ln]; exact (ao.mp hk).1
     have eg:rms[k]? = some rms[k]:=aj lk
     have gm:=aR lk
     have dk:dnR rms k = rms[k].2.length:=by unfold dnR; rw [eg]; rfl
     have hl2:=S2 _ _ hl'
     refine ⟨t,_,rfl,e2,rfl,_,_,rfl,_,_,rfl,rfl,_,rfl,D.Hall,(by unfold c7; simp),_,rfl,o,dx,_,rfl,SS _ _ ho,rfl,_,rfl,o,p,k,rms,rms[k],rfl,hh.same SS,eg,few.few _ gm,few.ways _ gm,fun r H3 zs S3 f3 h3 of3=>⟨r,zs,rfl,h3,x,rms[k].2.length,by rw [(of3 [] (fun _ z=>by cases z)).len],(ox x (aA hk)).same (SS.trans S3),mK x (dnR rms k),by rw [dk]; rfl,?_⟩⟩
     have S13:=SS.trans S3
     have go:mK x (dnR rms k) = true->H3 l = some (.lst xs)/\∃ v1 v2,[some (V.ref o),some (V.ref l),some (V.int (k:Nat)),some x] = [some (.ref o),some (.ref l),v1,v2]/\Same H H3/\∀ j x,j < k + 1->xs[j]? = some x->mK x (dnR rms j) = true:=fun z=>⟨S3 _ _ hl2,_,_,rfl,S13,fun j y hj ey=>by
      by_cases e:j = k
      .subst e; rw [hk] at ey; cases ey; exact z
      .exact fit j y (by omega) ey⟩
     rcases cs with ⟨al,q⟩ | ⟨k0,x0,ek0,nf,bf,e⟩
     .have z:=al k x hk
      rw [z] at go ⊢
      exact go rfl
     .by_cases kk:k = k0
      .subst kk
       rw [hk] at ek0
       cases ek0
       rw [nf]
       dsimp only
       rw [if_pos (show (!false) = true from rfl)]
       exact no (.int (k:Nat)) (mU (sV 2) sX) _ _ _ S13 (fun Q r=>⟨_,rfl,r⟩) e
      .by_cases kl:k < k0
       .have z:=bf k x kl hk
        rw [z] at go ⊢
        exact go rfl
       .have:=fit k0 x0 (by omega) ek0
        rw [nf] at this
        cases this
    .rintro σ' H' ⟨u1,u2,rfl,S1,fit⟩ _
     subst hR1
     rcases cs with ⟨al,q⟩ | ⟨k0,x0,ek0,nf,bf,e⟩
     .exact q _ S1
     .have:=fit k0 x0 (ao.mp ek0).1 ek0
      rw [nf] at this
      cases this
   .rw [decide_eq_false (nl l xs rfl hl)]
    rw [if_pos (show (!false) = true from rfl)]
    exact no .non (mU (tC .non) sX) _ _ _ rf (fun Q r=>r) e
  .rw [if_pos (by simp [HN,tl])]
   rw [if_pos rfl]
   rcases cs with ⟨l',xs',rfl,hl',_⟩ | ⟨nl,e⟩
   .rw [j5 hl'] at ov
    exact absurd (Option.some.inj ov).symm tl
   .exact no .non (mU (tC .non) sX) _ _ _ rf (fun Q r=>r) e
noncomputable def stV:Option Nat->V
 | some k=>.int (k:Nat)
 | none=>.non
theorem Zz {st:List (Option Nat)} {r:Nat} (h:r < st.length):atI (st.map stV) (r:Nat) = some (stV (st.getD r none)):=by
 refine bR (j:=r) ?_
 rw [aq,aj h,List.getD_eq_getElem?_getD,aj h]; rfl
noncomputable def vJ (D1:Addr) (H:Hp) (vs:List V) (k:Nat) (ys:List V) (H':Hp):Prop:=Same H H'/\H' D1 = some (.lst ys)/\ys = vs.take k
theorem vJ.next {D1:Addr} {H H' H2:Hp} {vs ys:List V} {k:Nat} {v:V} (h:vJ D1 H vs k ys H') (hD:H D1 = none) (S:Same H' H2) (e:vs[k]? = some v):vJ D1 H vs (k + 1) (ys ++ [v]) (upd H2 D1 (.lst (ys ++ [v]))):=by
 obtain ⟨S1,h1,rfl⟩:=h
 exact ⟨fun b o z=>(bG (bB z hD)).trans (S _ _ (S1 _ _ z)),bD,(cG e).symm⟩
noncomputable def iC (rms:List (Str × List Dr)):List (Option Nat):=rms.map fun g=>if 0 < g.2.length then some 0 else none
noncomputable def yC (D:Adr):Sp:=fun vs H Q _=>∃ (o p:Addr) (rms:List (Str × List Dr)),vs = [.ref o]/\kZ D H o p rms/\zG rms/\∀ r H',Same H H'->H r = none->H' r = some (.lst ((iC rms).map stV))->Q (.ref r) H'
theorem Bc (F:Fun K iM iM lF f fd) (T:Txt K mg D) (d7:OkI P w K mg base CX0 1 D.Hall_size fP (gW D)) (fX:OkI P w K mg base CX0 3 D.Hall_offers eO (jy D)):cB P w K mg base CX0 4 f fd iQ (yC D):=by
 refine F.ok Af (fun vs H Q E h=>?_) (fun cdv A outer s H vs Q E hr h=>?_)
 .obtain ⟨o,p,rms,rfl,_⟩:=h
  rfl
 .obtain ⟨o,p,rms,rfl,hh,few,q⟩:=h
  have hI:=hh
  obtain ⟨dx,nn,ll,zs0,ho,hn,hll,of_⟩:=hI
  have n20:=few.len
  have fl:(iC rms).length = rms.length:=ak ..
  refine ⟨_,(bI (bU (mJ (bK lF) n_ n_ ["room"] (iB (by rfl) T.lE (bA (PE.any fun C (hC:cZ D C)=>(qY (pv 0) (T.cl C hC.fam) (T.oU C hC) d7 (hr.mono (by decide)))) bC).mono) (fW (i:=0)) dB (Rb (bZ BK (bO cA (by rfl) T.dR PySem.boot_len (bA (PE.any fun C (hC:c7 D C)=>(zE (pv 1) (T.cl C hC.fam) (T.pR C hC) fX (hr.mono (by decide)) (bA (pv 0) bC))) bC)) bF (cj _)) bF iY)))),?_⟩
  refine su (j_ ⟨D.Hall,(by unfold cZ; simp),_,rfl,o,dx,_,rfl,ho,rfl,o,p,rms,rfl,hh,rms.length,rfl,by omega,fun D1 gD=>⟨vJ D1 H ((iC rms).map stV),⟨Same.upd gD,bD,rfl⟩,fun k ys Hc hk j hy=>?_,fun ys Hc ⟨S1,h1,ey⟩ hy=>?_⟩⟩)
  .have eg:rms[k]? = some rms[k]:=aj hk
   have gm:=aR hk
   have ev:((iC rms).map stV)[k]? = some (stV (if 0 < rms[k].2.length then some 0 else none)):=by unfold iC; rw [List.map_map,aq,eg]; rfl
   refine ⟨D.Hall,(by unfold c7; simp),_,rfl,o,dx,_,rfl,j.1 _ _ ho,rfl,_,rfl,o,p,k,rms,rms[k],rfl,hh.same j.1,eg,few.few _ gm,few.ways _ gm,fun r H3 zs S3 f3 h3 of3=>⟨r,zs,rfl,h3,_,_,rfl,rfl,decide (0 < rms[k].2.length),?_,?_⟩⟩
   .rw [(of3 [] (fun _ z=>by cases z)).len]
    exact congrArg V.bl (decide_eq_decide.mpr (by omega))
   by_cases z:0 < rms[k].2.length
   .rw [if_pos z] at ev
    rw [decide_eq_true z]
    exact ⟨S3 _ _ j.2.1,j.next gD S3 ev⟩
   .rw [if_neg z] at ev
    rw [decide_eq_false z]
    exact ⟨S3 _ _ j.2.1,j.next gD S3 ev⟩
  .rw [aJ (by rw [ak,fl]; exact aD _)] at ey
   subst ey
   exact q D1 Hc S1 gD h1
noncomputable def jO:Sp:=fun vs H Q _=>∃ (a b:Int),vs = [.int a,.int b]/\0 < b/\Bd b/\∀ p,H p = none->Q (.ref p) (upd H p (.tup [.int (Ac.lw a b).1,.int (Ac.lw a b).2]))
theorem N5 (F:Fun K jU jU zR f fd) (Rx:OkF P w K mg base 1 yQ xY Ep):cB P w K mg base CX0 2 f fd jT jO:=by
 refine F.ok BJ (fun vs H Q E h=>?_) (fun cdv A outer s H vs Q E hr h=>?_)
 .obtain ⟨a,b,rfl,_⟩:=h
  rfl
 .obtain ⟨a,b,rfl,hb,hbd,q⟩:=h
  refine ⟨_,(bH (bV (i:=2) BJ.nd rfl (Or.inl rfl) (bL Rx (hr.mono (by decide)) (by rfl) (bA (pv 0) (bA (pv 1) bC))))
   (bI (bU (cU (bA (bN jh (pv 0) (pv 2)) (bA (bN jh (pv 1) (pv 2)) bC)))))),?_⟩
  have g0:=Dl (a:=a) (b:=b) (by omega)
  have g1:=JX (a:=a) (b:=b) (by omega) hbd
  unfold Ep
  walk_at "rd"
  rw [mj _ g0,mj _ g0]
  exact ⟨by omega,g1,by omega,g1,dh,q⟩
theorem Same.sql {K:Frag} {H H':Hp} {a:Addr} {xs:List V} (S:Same H H') (h:SqL K H a xs):SqL K H' a xs:=by
 rcases h with (h | ⟨o,h⟩) | h
 .exact .inl (.inl (S _ _ h))
 .exact .inl (.inr ⟨o,S _ _ h⟩)
 .exact .inr h
theorem Ub {α:Type} : ∀ {l:List α},l.length = 2->∃ a b,l = [a,b]
 | [a,b],_=>⟨a,b,rfl⟩
noncomputable def En:Sp:=fun vs H Q _=>∃ c:Int,vs = [.int c]/\∀ (n:Nat) H',n <= 12->Same H H'->Q (.int n) H'
theorem UJ (F:Fun K uQ uQ Jh f fd) (T:Txt K mg D) (cL:OkF P w K mg base 1 eU eY dH):cB P w K mg base CX0 2 f fd uH En:=by
 refine F.ok Kg (fun vs H Q E h=>?_) (fun cdv A outer s H vs Q E hr h=>?_)
 .obtain ⟨c,rfl,_⟩:=h
  rfl
 .obtain ⟨c,rfl,q⟩:=h
  refine ⟨_,(bH (bV (i:=1) Kg.nd rfl (Or.inl rfl) (bL cL (hr.mono (by decide)) (by rfl) (bA (pv 0) (bA bF bC))))
   (bH (cF (bZ kj (bN cH (bQ bM (pv 1) bF (fun _ _=>rfl)) bF) bF (cj _))
    (bI (bU bF))
    bW)
   (bH (cF (bZ kj (bN cH (bQ bM (pv 1) bF (fun _ _=>rfl)) bF) bF (cj _))
    (bI (bU (bN cR bF (bN cH (bQ bM (pv 1) bF (fun _ _=>rfl)) bF))))
    bW)
   (bI (bU (bN cR bF (bN cH (bQ bM (pv 1) bF (fun _ _=>rfl)) bF))))))),?_⟩
  unfold dH
  walk_at "rd"
  refine ⟨2,rfl,by decide,fun l xs H' S _ hl ln hx=>?_⟩
  obtain ⟨a,b,rfl⟩:=Ub ln
  refine ⟨_,hl,_,fV,a,rfl,?_⟩
  split
  .exact q 0 H' (by decide) S
  .refine ⟨_,hl,_,fV,a,rfl,?_⟩
   split
   .refine ⟨_,hl,_,eE,b,rfl,?_⟩
    have:6 + b % 7 = ((6 + b % 7).toNat:Int):=by omega
    rw [this]
    exact q _ H' (by omega) S
   .refine ⟨_,hl,_,eE,b,rfl,?_⟩
    have:1 + b % 5 = ((1 + b % 5).toNat:Int):=by omega
    rw [this]
    exact q _ H' (by omega) S
noncomputable def Ea:Sp:=fun vs H Q _=>∃ (c a b:Int),vs = [.int c,.int a,.int b]/\∀ (p:Addr) (x y:Int),H p = none->0 < y->Int.gcd x y = 1->x.natAbs <= 10 ^ 30->y <= 1000->Q (.ref p) (upd H p (.tup [.int x,.int y]))
theorem Xa (F:Fun K xP xP OD f fd) (T:Txt K mg D) (gB:OkF P w K mg base 2 jU jT jO):cB P w K mg base CX0 3 f fd zO Ea:=by
 refine F.ok Yj (fun vs H Q E h=>?_) (fun cdv A outer s H vs Q E hr h=>?_)
 .obtain ⟨p,n,y,rfl,_⟩:=h
  rfl
 .obtain ⟨c,x,y,rfl,q⟩:=h
  have lo:∀ (a b:Int) (p:Addr),0 < b->a.natAbs <= 10 ^ 30->b <= 1000->H p = none->Q (.ref p) (upd H p (.tup [.int (Ac.lw a b).1,.int (Ac.lw a b).2])):=fun a b p b0 ha hb hp=>by
   have h2:=Ac.Cj a b
   have h3:=Ac.kY (t:=a) b0
   exact q p _ _ hp h3 (Ac.vI b0) (aK (Ac.HS a b) ha) (by omega)
  refine ⟨_,(bH (cF (bZ u_ (bN cH (pv 1) bF) bF (cj _))
    (bI (bU (cU (bA (bN vH (bN cH (pv 2) bF) bF) (bA bF bC)))))
    bW)
   (bH (cF (bZ u_ (bN cH (pv 1) bF) bF (cj _))
    (bI (bU (bL gB (hr.mono (by decide)) (by rfl) (bA (bN vH (bN cH (pv 2) bF) bF) (bA (bN cR bF (bN cH (bN jh (pv 1) bF) bF)) bC)))))
    bW)
   (bH (cF (bZ kj (bN cH (pv 1) bF) bF (cj _))
    (bI (bU (cU (bA (bN vH (bN cH (pv 0) bF) bF) (bA bF bC)))))
    bW)
   (bI (bU (bL gB (hr.mono (by decide)) (by rfl) (bA (bN vH (bN cH (bN cR (bN Js (pv 0) bF) (pv 2)) (bN cR (bN fD bF (bN Fd bF bF)) bF)) (bN Fd bF bF)) (bA (bN cR bF (bN cH (bN jh (pv 1) bF) bF)) bC)))))))),?_⟩
  unfold jO
  walk_at "rd"
  have b30:Bd 1000000000000000000000000000000:=Nat.lt_of_le_of_lt (aD _) (by decide +kernel)
  rw [mj _ (by decide)]
  split
  .exact ⟨dh,fun p hp=>q p _ _ hp (by decide) (by simp) (by omega) (by decide)⟩
  split
  .exact ⟨Bd.sm (by decide),by omega,Bd.sm (by omega),fun p hp=>lo _ _ p (by omega) (by omega) (by omega) hp⟩
  split
  .exact ⟨dh,fun p hp=>q p _ _ hp (by decide) (by simp) (by omega) (by decide)⟩
  .exact ⟨.inr (by constructor <;> decide),V0 (by decide) (by decide),Bd.sm (by decide),b30,V0 (by decide) (by decide),Bd.sm (by decide),by omega,Bd.sm (by omega),fun p hp=>lo _ _ p (by omega) (by omega) (by omega) hp⟩
noncomputable def xV:Sp:=fun vs H Q _=>∃ c:Int,vs = [.int c]/\∀ (p:Addr) (x y:Int) H',Same H H'->H' p = some (.tup [.int x,.int y])->0 <= x->x < y->y <= 100->Int.gcd x y = 1->Q (.ref p) H'
theorem Qh (F:Fun K pN pN Eo f fd) (T:Txt K mg D) (cL:OkF P w K mg base 1 eU eY dH) (gB:OkF P w K mg base 2 jU jT jO):cB P w K mg base CX0 3 f fd qe xV:=by
 refine F.ok yG (fun vs H Q E h=>?_) (fun cdv A outer s H vs Q E hr h=>?_)
 .obtain ⟨c,rfl,_⟩:=h
  rfl
 .obtain ⟨c,rfl,q⟩:=h
  refine ⟨_,(bH (bV (i:=1) yG.nd rfl (Or.inl rfl) (bL cL (hr.mono (by decide)) (by rfl) (bA (pv 0) (bA bF bC))))
   (bH (bV (i:=2) yG.nd rfl (Or.inl rfl) (bN cR bF (bN g_ (bQ bM (pv 1) bF (fun _ _=>rfl)) (bQ bM (fH (bA bF (bA bF (bA bF (bA bF bC))))) (bN cH (bQ bM (pv 1) bF (fun _ _=>rfl)) bF) (fun _ _=>rfl)))))
   (bI (bU (bL gB (hr.mono (by decide)) (by rfl) (bA (bN g_ (bQ bM (pv 1) bF (fun _ _=>rfl)) (pv 2)) (bA (pv 2) bC))))))),?_⟩
  refine d8 ⟨_,rfl,c,3,rfl,by decide,fun l xs H1 S1 fl hl ln hx=>?_⟩
  obtain ⟨a,b,e,rfl⟩ : ∃ a b e,xs = [a,b,e]:=by
   match xs,ln with
   | [a,b,e],_=>exact ⟨a,b,e,rfl⟩
  have xa:=hx a (by simp)
  have xe:=hx e (by simp)
  refine d8 ⟨_,rfl,l,_,0,_,rfl,rfl,hl,fV,by decide,fun p1 H2 S2 f2 h2=>?_⟩
  obtain ⟨md,ed,m0,m1⟩ : ∃ md:Int,atI [V.int 4,V.int 6,V.int 10,V.int 100] (b % 4) = some (.int md)/\0 < md/\md <= 100:=by
   obtain z | z | z | z:b % 4 = 0\/b % 4 = 1\/b % 4 = 2\/b % 4 = 3:=by omega
   .exact ⟨4,by rw [z]; exact bR (j:=0) rfl,by decide,by decide⟩
   .exact ⟨6,by rw [z]; exact bR (j:=1) rfl,by decide,by decide⟩
   .exact ⟨10,by rw [z]; exact bR (j:=2) rfl,by decide,by decide⟩
   .exact ⟨100,by rw [z]; exact bR (j:=3) rfl,by decide,by decide⟩
  have hl2:=S2 _ _ hl
  refine ⟨_,rfl,l,_,1,_,rfl,rfl,hl2,eE,b,4,rfl,rfl,(show (0:Int) < 4 by decide),p1,_,_,_,rfl,rfl,h2,ed,a,md,rfl,rfl,by omega,1,_,rfl,rfl,?_⟩
  obtain ⟨t,et,t0,t1⟩ : ∃ t:Int,1 + a.fmod md = t/\1 <= t/\t <= 100:=⟨_,rfl,by rw [aV _ (by omega)]; have:=Int.emod_nonneg a (b:=md) (by omega); omega,by rw [aV _ (by omega)]; have:=Int.emod_lt_of_pos a (b:=md) m0; omega⟩
  show Ka _ _ [some (.int c),some (.ref l),some (.int (1 + a.fmod md))] H2
  rw [et]
  have f0:0 <= e.fmod t:=by rw [aV _ (by omega)]; exact Int.emod_nonneg _ (by omega)
  have f1:e.fmod t < t:=by rw [aV _ (by omega)]; exact Int.emod_lt_of_pos _ (by omega)
  refine su ⟨_,rfl,l,_,2,_,rfl,rfl,hl2,bR (j:=2) rfl,_,rfl,e,t,rfl,rfl,by omega,_,rfl,_,t,rfl,by omega,Bd.sm (by omega),fun p hp=>?_⟩
  have y0:=Ac.kY (t:=e.fmod t) (b:=t) (by omega)
  have yg:=Ac.vI (t:=e.fmod t) (b:=t) (by omega)
  have ye:=Ac.zc (t:=e.fmod t) (b:=t) (by omega)
  have y2:=Ac.Cj (e.fmod t) t
  generalize (Ac.lw (e.fmod t) t).1 = x at *
  generalize (Ac.lw (e.fmod t) t).2 = y at *
  refine q p x y _ (S1.trans (S2.trans (Same.upd hp))) bD ?_ ?_ (by omega) yg
  .refine Int.not_lt.mp fun z=>?_
   have h1:x * t < 0:=Int.mul_neg_of_neg_of_pos z (by omega)
   have h2:0 <= e.fmod t * y:=Int.mul_nonneg f0 (by omega)
   omega
  .refine Int.not_le.mp fun z=>?_
   have h1:y * t <= x * t:=Int.mul_le_mul_of_nonneg_right z (by omega)
   have h2:e.fmod t * y < t * y:=Int.mul_lt_mul_of_pos_right f1 y0
   have h3:t * y = y * t:=Int.mul_comm ..
   omega
noncomputable def ltL:List Nat:=(Str.ofString "abcdefghijklmnopqrstuvwxyz").cps.toList
theorem TJ:ltL.length = 26:=by decide +kernel
theorem Ug:∀ a b:Fin 26,ltL[a.val]? = ltL[b.val]?->a = b:=by decide +kernel
theorem Xv {a b:Int} {c:Nat} (a0:0 <= a) (a1:a < 26) (b0:0 <= b) (b1:b < 26) (ha:ltL[a.toNat]? = some c) (hb:ltL[b.toNat]? = some c):a = b:=by
 have:=Ug ⟨a.toNat,by omega⟩ ⟨b.toNat,by omega⟩ (ha.trans hb.symm)
 have:=congrArg Fin.val this
 simp only at this
 omega
theorem Rz {a:Int} (a0:0 <= a) (a1:a < 26):∃ c,atI (Str.ofString "abcdefghijklmnopqrstuvwxyz").cps.toList a = some c/\ltL[a.toNat]? = some c/\sS c = true:=by
 obtain ⟨k,rfl⟩:=Int.eq_ofNat_of_zero_le a0
 have h:k < ltL.length:=by rw [TJ]; omega
 exact ⟨ltL[k],bR (aj h),aj h,decide_eq_true (aR h)⟩
noncomputable def rJ (R:Nat->Str->Prop) (D:Addr) (H:Hp) (k:Nat) (ys:List V) (Hc:Hp):Prop:=∃ ss:List Str,ys = ss.map V.str/\ss.length = k/\(∀ i x,ss[i]? = some x->R i x)/\Hc = upd H D (.lst ys)
theorem rJ.next {R:Nat->Str->Prop} {D:Addr} {H:Hp} {k:Nat} {ys:List V} {Hc:Hp} (h:rJ R D H k ys Hc) {x:Str} (h0:R k x):rJ R D H (k + 1) (ys ++ [.str x]) (upd Hc D (.lst (ys ++ [.str x]))):=by
 obtain ⟨ws,rfl,rfl,ha,rfl⟩:=h
 refine ⟨ws ++ [x],by rw [bh]; rfl,by rw [au]; rfl,fun i y hy=>?_,oF⟩
 by_cases hi:i < ws.length
 .rw [aC hi] at hy
  exact ha i y hy
 .have hl:=(ao.mp hy).1
  rw [au] at hl
  have hl:i < ws.length + 1:=hl
  have e:i = ws.length:=by omega
  subst e
  rw [aB (aD _),Nat.sub_self] at hy
  cases hy
  exact h0
theorem rJ.at_ {R:Nat->Str->Prop} {D:Addr} {H:Hp} {k:Nat} {ys:List V} {Hc:Hp} (h:rJ R D H k ys Hc):Hc D = some (.lst ys):=by
 obtain ⟨ws,rfl,hl,ha,rfl⟩:=h
 exact bD
theorem rJ.same {R:Nat->Str->Prop} {D:Addr} {H:Hp} {k:Nat} {ys:List V} {Hc:Hp} (h:rJ R D H k ys Hc) (hD:H D = none):Same H Hc:=by
 obtain ⟨ws,rfl,hl,ha,rfl⟩:=h
 exact Same.upd hD
theorem Mi {R:Nat->Str->Prop} {ss:List Str} (h:∀ i x,ss[i]? = some x->R i x) (u:∀ i j x,i < j->j < ss.length->R i x->R j x->False):ss.Nodup:=by
 unfold List.Nodup
 rw [List.pairwise_iff_getElem]
 intro i j hi hj ij e
 exact u i j ss[i] ij hj (h i _ (aj hi)) (by rw [e]; exact h j _ (aj hj))
theorem WD {R:Nat->Str->Prop} {P:Str->Prop} {ss:List Str} (h:∀ i x,ss[i]? = some x->R i x) (u:∀ i x,i < ss.length->R i x->P x):∀ x ∈ ss,P x:=fun x hx=>by
 obtain ⟨i,hi⟩:=aU hx
 exact u i x (ao.mp hi).1 (h i x hi)
theorem RZ {x:Str} {n:Nat} : (zB x none (some (n:Int))).cps.toList = x.cps.toList.take n:=by
 unfold zB
 have hl:x.cps.toList.length = x.length:=Array.length_toList
 show ((x.cps.toList.drop 0).take (HT.sIx x.length x.length (some (n:Int)) - 0)) = _
 rw [HT.mQ,List.drop_zero,Nat.sub_zero,<- hl]
 rw [List.take_eq_take_iff]
 omega
theorem Gw {x:Str} {n:Nat} : (zB x (some (n:Int)) none).cps.toList = x.cps.toList.drop n:=by
 unfold zB
 have hl:x.cps.toList.length = x.length:=Array.length_toList
 show ((x.cps.toList.drop (HT.sIx x.length 0 (some (n:Int)))).take (x.length - HT.sIx x.length 0 (some (n:Int)))) = _
 rw [HT.mQ,<- hl]
 by_cases h:n <= x.cps.toList.length
 .rw [Nat.min_eq_left h]
  exact aJ (by rw [List.length_drop]; omega)
 .rw [List.drop_eq_nil_of_le (by omega:x.cps.toList.length <= n),List.drop_eq_nil_of_le (by omega),List.take_nil]
theorem Fy {ys:List V} {a b:Nat} (ab:a <= b) (h:b <= ys.length):mO ys (some (a:Int)) (some (b:Int)) = (ys.drop a).take (b - a):=by
 unfold mO
 rw [HT.mQ,HT.mQ,Nat.min_eq_left h,Nat.min_eq_left (aK ab h)]
theorem Bs:∀ {ss:List Str},(∀ y ∈ ss,y.length = 1)->(ss.map (·.length)).sum = ss.length
 | [],_=>rfl
 | y :: ss,h=>by
  rw [List.map_cons,List.sum_cons,Bs fun z hz=>h z (aG _ hz),h y aM,List.length_cons]; omega
noncomputable def nm1 (c:Nat) (i:Nat) (x:Str):Prop:=x.cps.toList = List.replicate (i + 1) c
noncomputable def nm2 (b:List Nat) (at_:Nat) (x0 st:Int) (i:Nat) (x:Str):Prop:=∃ c,ltL[((x0 + st * i) % 26).toNat]? = some c/\sS c = true/\x.cps.toList = b.take at_ ++ c :: b.drop at_
theorem Uu {b:List Nat} {at_:Nat} {x0 st:Int} {i j:Nat} {x:Str} (hs:st = 1\/st = 3\/st = 5\/st = 7\/st = 9\/st = 11) (ij:i < j) (hj:j < 13) (h1:nm2 b at_ x0 st i x) (h2:nm2 b at_ x0 st j x):False:=by
 obtain ⟨c,a1,_,e1⟩:=h1
 obtain ⟨d,a2,_,e2⟩:=h2
 have e:=e1.symm.trans e2
 have e:=List.append_cancel_left e
 injection e with e _
 subst e
 have:=Xv (by omega) (by omega) (by omega) (by omega) a1 a2
 rcases hs with rfl | rfl | rfl | rfl | rfl | rfl <;> omega
theorem oh (x:Str):x.cps.toList.length = x.length:=Array.length_toList
theorem Yk {c i:Nat} {x:Str} (hc:sS c = true) (hi:i < 8) (h:nm1 c i x):Wd x:=by
 have l:=oh x
 rw [h,aL] at l
 refine ⟨?_,by omega,by omega⟩
 unfold Lt
 rw [h,List.all_eq_true]
 intro d hd
 rw [(List.mem_replicate.mp hd).2]; exact hc
theorem W4 {b:List Nat} {at_:Nat} {x0 st:Int} {i:Nat} {x:Str} (hb:b.all sS = true) (hl:b.length <= 7) (h:nm2 b at_ x0 st i x):Wd x:=by
 obtain ⟨c,_,hc,e⟩:=h
 have l:=oh x
 rw [e,au,List.length_cons,aY,List.length_drop] at l
 refine ⟨?_,by omega,by omega⟩
 unfold Lt
 rw [e,List.all_eq_true]
 rw [List.all_eq_true] at hb
 intro d hd
 rcases List.mem_append.mp hd with hd | hd
 .exact hb d (List.mem_of_mem_take hd)
 .rcases List.mem_cons.mp hd with rfl | hd
  .exact hc
  .exact hb d (List.mem_of_mem_drop hd)
noncomputable def sJN (P:Str->Prop) (D:Addr) (H:Hp) (k:Nat) (ys:List V) (Hc:Hp):Prop:=∃ ss:List Str,ys = ss.map V.str/\ss.length = k/\(∀ x ∈ ss,P x)/\Hc = upd H D (.lst ys)
theorem sJN.next {P:Str->Prop} {D:Addr} {H:Hp} {k:Nat} {ys:List V} {Hc:Hp} (h:sJN P D H k ys Hc) {x:Str} (h0:P x):sJN P D H (k + 1) (ys ++ [.str x]) (upd Hc D (.lst (ys ++ [.str x]))):=by
 obtain ⟨ws,rfl,hl,ha,rfl⟩:=h
 refine ⟨ws ++ [x],by rw [bh]; rfl,by rw [au,hl]; rfl,fun y hy=>?_,oF⟩
 rcases List.mem_append.mp hy with hy | hy
 .exact ha y hy
 .rw [List.mem_singleton.mp hy]; exact h0
theorem sJN.at_ {P:Str->Prop} {D:Addr} {H:Hp} {k:Nat} {ys:List V} {Hc:Hp} (h:sJN P D H k ys Hc):Hc D = some (.lst ys):=by
 obtain ⟨ws,rfl,hl,ha,rfl⟩:=h
 exact bD
noncomputable def vd:Sp:=fun vs H Q _=>∃ (c:Int) (n:Nat),vs = [.int c,.int n]/\n <= 12/\∀ (l:Addr) (xs:List Str) H',Same H H'->H l = none->H' l = some (.lst (xs.map V.str))->xs.length = n->(∀ x ∈ xs,Wd x)->xs.Nodup->Q (.ref l) H'
theorem Ib {a b:TT} {t v:TS} {D:Ends} {σ:L2.St} {H:Hp} (p q:Bool) (ha:∀ Q:Bool->Hp->Prop,Q p H->a σ H Q) (hb:∀ Q:Bool->Hp->Prop,Q q H->b σ H Q) (ht:(p && q) = true->t { D with nx:=v D } σ H) (hu:v D σ H):o9 (zX (Ra a b) t wG) v D σ H:=by
 refine ha _ ?_
 cases p with
 | false=>exact hu
 | true =>
  refine hb _ ?_
  cases q with
  | false=>exact hu
  | true=>exact ht rfl
theorem Rm (F:Fun K qF qF qZ f fd) (T:Txt K mg D) (cL:OkF P w K mg base 1 eU eY dH):cB P w K mg base CX0 2 f fd qT vd:=by
 refine F.okB nU (fun vs H Q E h=>?_) (fun cdv A outer s H vs Q E hr h=>?_)
 .obtain ⟨c,n,rfl,_⟩:=h
  rfl
 .obtain ⟨c,n,rfl,hn,q⟩:=h
  have z1000:1000 <= sizeLine:=by decide
  have lL:(Str.ofString "abcdefghijklmnopqrstuvwxyz").length <= sizeLine:=aK (show (Str.ofString "abcdefghijklmnopqrstuvwxyz").length <= 1000 by decide +kernel) z1000
  refine ⟨_,(cg (PSB.mk (bV (i:=2) nU.nd rfl (Or.inr rfl) fG))
   (cg (PSB.mk (bV (i:=3) nU.nd rfl (Or.inr rfl) (bL cL (hr.mono (by decide)) (by rfl) (bA (pv 0) (bA bF bC)))))
   (cg (PSB.mk (cF (PW.pt (pw_and (bZ kj (bN cH (bQ bM (pv 3) bF (fun _ _=>rfl)) bF) bF (cj _)) (pw_and1 (bZ Gz (pv 1) bF (cj _)))))
    (bI (bU (mJ (bK qZ) oW oW ["_law_k"] (iB (by rfl) T.lE (bA (pv 1) bC).mono) (fW (i:=0)) dB (bN VJ (bQ Jm (pv 3) (bN cH (bQ bM (pv 4) bF (fun _ _=>rfl)) bF) (fun _ _=>rfl)) (bN cR (pv 0) bF)))))
    bW))
   (cg (PSB.mk (bV (i:=4) nU.nd rfl (Or.inr rfl) (aa1 PySem.F.slot_str_join PySem.F.type_str_join Ve fG (bA (mJ (bK qZ) oW oW ["_law_x"] (dw ((iI oO (pv 3) (fB bF) (fB (bN cR bF (bN cH (bQ bM (pv 3) bF (fun _ _=>rfl)) bF))))).mono) (fW (i:=0)) dB (bQ Jm (pv 3) (bN cH (pv 0) bF) (fun _ _=>rfl))) bC))))
   (cg (PSB.mk (bV (i:=5) nU.nd rfl (Or.inr rfl) (bN cH (bQ bM (pv 3) bF (fun _ _=>rfl)) bF)))
   (cg (U0 (i:=6) nU.nd rfl (Or.inr rfl) (UG (Uv (Bx rA (Bx rA (Bx rA (Bx rA (Bx rA (Bx rA Uw))))))) (bN cH (bQ bM (pv 3) bF (fun _ _=>rfl)) bF) (fun _ _=>rfl)))
   (uU (PSB.mk (bU (mJ (bK qZ) oW oW ["_law_k"] (iB (by rfl) T.lE (bA (pv 1) bC).mono) (fW (i:=0)) dB (bN Lg (bN Lg (iI SN (pv 5) uM (fB (pv 6))) (bQ Jm (pv 3) (bN cH (bN cR (bQ bM (pv 4) bF (fun _ _=>rfl)) (bN fD (pv 7) (pv 0))) bF) (fun _ _=>rfl))) (iI SN (pv 5) (fB (pv 6)) uM)))))))))))),?_⟩
  unfold dH
  refine ⟨_,rfl,c,11,rfl,by decide,fun l xs H1 S1 hl hl1 hx hr'=>?_⟩
  have at_:∀ j,j < 11->∃ y,atI (xs.map V.int) (j:Nat) = some (.int y)/\0 <= y:=fun j hj=>by
   have:j < xs.length:=by omega
   exact ⟨xs[j],bR (j:=j) (by rw [aq,aj this]; rfl),(hr' _ (aR this)).1⟩
  obtain ⟨x0,a0,p0⟩:=at_ 0 (by decide)
  obtain ⟨x1,a1,p1⟩:=at_ 1 (by decide)
  obtain ⟨x9,a9,p9⟩:=at_ 9 (by decide)
  obtain ⟨x10,a10,p10⟩:=at_ 10 (by decide)
  dsimp only [dI]
  refine Ib (decide (x0 % 3 = 1)) (decide ((n:Int) <= 8)) (fun Q' hq=>?_) (fun Q' hq=>?_) (fun hc=>?_) ?_
  .walk_at "rd"
   exact ⟨_,hl1,_,a0,_,rfl,hq⟩
  .walk_at "rd"
   exact hq
  .simp only [Bool.and_eq_true,decide_eq_true_eq] at hc
   obtain ⟨c1,e1,g1,lc1⟩:=Rz (a:=x1 % 26) (by omega) (by omega)
   refine j_ ?_
   walk_at "rd"
   refine ⟨n,rfl,by omega,fun D2 hD2=>⟨rJ (nm1 c1) D2 H1,⟨[],rfl,rfl,by simp,rfl⟩,?_,?_⟩⟩
   .rintro k ys Hc hk j hy
    have hlc:Hc l = some (.lst (xs.map V.int)):=j.same hD2 _ _ hl1
    unfold WX
    walk_at "rd"
    refine ⟨_,hlc,_,a1,_,rfl,lL,c1,e1,c1,rfl,by omega,by omega,fun z hz=>⟨j.at_,j.next ?_⟩⟩
    rw [show ((k:Int) + 1).toNat = k + 1 by omega] at hz
    exact hz
   .rintro ys Hc ⟨ss,rfl,hsl,hss,rfl⟩ hy
    refine q D2 ss _ (S1.trans (Same.upd hD2)) (Same.free S1 hD2) bD hsl (WD hss fun i x hi h=>Yk lc1 (by omega) h) (Mi hss fun i j x ij hj h1 h2=>?_)
    have:=congrArg List.length (h1.symm.trans h2)
    rw [aL,aL] at this
    omega
  .walk_at "rd"
   refine dz ?_
   walk_at "rd"
   obtain ⟨m,em,hm⟩ : ∃ m:Nat,x1 % 8 = m/\m <= 7:=⟨(x1 % 8).toNat,by omega,by omega⟩
   refine ⟨_,hl1,_,a1,_,rfl,_,.of hl1,fun p hp=>?_⟩
   have ec:mO (xs.map V.int) (some 2) (some (2 + x1 % 8)) = ((xs.drop 2).take m).map V.int:=by
    rw [em,List.map_take,List.map_drop]
    have:=Fy (ys:=xs.map V.int) (a:=2) (b:=2 + m) (by omega) (by rw [ak]; omega)
    rw [show 2 + m - 2 = m by omega] at this
    exact this
   rw [ec]
   have ml:((xs.drop 2).take m).length = m:=by rw [aY,List.length_drop]; omega
   have S2:Same H1 (upd H1 p (.lst (((xs.drop 2).take m).map V.int))):=Same.upd hp
   generalize upd H1 p (.lst (((xs.drop 2).take m).map V.int)) = H2 at S2 ⊢
   generalize (xs.drop 2).take m = us at ml ⊢
   refine ⟨by rw [ak]; omega,fun D1 hD1=>⟨sJN (fun x=>Lt x/\x.length = 1) D1 H2,⟨[],rfl,rfl,by simp,rfl⟩,?_,?_⟩⟩
   .rintro k y1 ys Hc hk j hy hpc
    rw [aq] at hk
    cases er:us[k]? with
    | none=>rw [er] at hk; cases hk
    | some i =>
     rw [er] at hk
     cases hk
     obtain ⟨c',e',hc'⟩:=Lt.one (Int.emod_nonneg i (show (26:Int) ≠ 0 by decide)) (Int.emod_lt_of_pos i (by decide))
     exact ⟨i,rfl,lL,c',e',j.at_,hpc,j.next ⟨hc',rfl⟩⟩
   .rintro ys Hc ⟨ss,rfl,hl8,hss,rfl⟩ hy
    rw [ak,ml] at hl8
    have stL:Lt (Txt.join (Str.ofString "") ss):=Lt.glued fun y hy=>(hss y hy).1
    have sum1:(ss.map (·.length)).sum = m:=by rw [Bs fun y hy=>(hss y hy).2,hl8]
    have e0:(Str.ofString "").length = 0:=by decide +kernel
    have stN:(Txt.join (Str.ofString "") ss).length = m:=by
     show (Builtin.Str.glued (Str.ofString "") ss).length = m
     rw [size_glued,sum1,e0,Nat.mul_zero]; rfl
    have S3:Same H (upd H2 D1 (.lst (ss.map V.str))):=S1.trans (S2.trans (Same.upd hD1))
    have hl3:upd H2 D1 (.lst (ss.map V.str)) l = some (.lst (xs.map V.int)):=Same.upd hD1 _ _ (S2 _ _ hl1)
    refine ⟨ss,bD,by rw [sum1,e0]; omega,?_⟩
    generalize upd H2 D1 (.lst (ss.map V.str)) = H3 at S3 hl3 ⊢
    generalize Txt.join (Str.ofString "") ss = st at stL stN ⊢
    refine ⟨_,hl3,_,a9,_,rfl,by decide,fun p2 hp2=>?_⟩
    have hl4:upd H3 p2 (.lst [.int 1,.int 3,.int 5,.int 7,.int 9,.int 11]) l = some (.lst (xs.map V.int)):=Same.upd hp2 _ _ hl3
    have S4:Same H (upd H3 p2 (.lst [.int 1,.int 3,.int 5,.int 7,.int 9,.int 11])):=S3.trans (Same.upd hp2)
    have hp4:upd H3 p2 (.lst [.int 1,.int 3,.int 5,.int 7,.int 9,.int 11]) p2 = some (.lst [.int 1,.int 3,.int 5,.int 7,.int 9,.int 11]):=bD
    generalize upd H3 p2 (.lst [.int 1,.int 3,.int 5,.int 7,.int 9,.int 11]) = H4 at S4 hl4 hp4 ⊢
    refine ⟨_,hl4,_,a10,_,rfl,?_⟩
    obtain ⟨sv,es,hs⟩ : ∃ sv:Int,atI [V.int 1,V.int 3,V.int 5,V.int 7,V.int 9,V.int 11] (x10 % 6) = some (.int sv)/\(sv = 1\/sv = 3\/sv = 5\/sv = 7\/sv = 9\/sv = 11):=by
     obtain e | e | e | e | e | e:x10 % 6 = 0\/x10 % 6 = 1\/x10 % 6 = 2\/x10 % 6 = 3\/x10 % 6 = 4\/x10 % 6 = 5:=by omega
     .exact ⟨1,by rw [e]; exact bR (j:=0) rfl,by decide⟩
     .exact ⟨3,by rw [e]; exact bR (j:=1) rfl,by decide⟩
     .exact ⟨5,by rw [e]; exact bR (j:=2) rfl,by decide⟩
     .exact ⟨7,by rw [e]; exact bR (j:=3) rfl,by decide⟩
     .exact ⟨9,by rw [e]; exact bR (j:=4) rfl,by decide⟩
     .exact ⟨11,by rw [e]; exact bR (j:=5) rfl,by decide⟩
    obtain ⟨ap,eap,hap⟩ : ∃ ap:Nat,x9 % 8 = ap/\ap <= 7:=⟨(x9 % 8).toNat,by omega,by omega⟩
    refine ⟨_,es,j_ ?_⟩
    rw [eap]
    walk_at "rd"
    refine ⟨n,rfl,by omega,fun D2 hD2=>⟨rJ (nm2 st.cps.toList ap x0 sv) D2 H4,⟨[],rfl,rfl,by simp,rfl⟩,?_,?_⟩⟩
    .rintro k ys Hc hk j hy
     have hlc:Hc l = some (.lst (xs.map V.int)):=j.same hD2 _ _ hl4
     obtain ⟨c2,e2,g2,lc2⟩:=Rz (a:=(x0 + sv * k) % 26) (by omega) (by omega)
     have t1:(zB st none (some (ap:Int))).length <= 7:=by rw [<- oh,RZ,aY,oh]; omega
     have t2:(zB st (some (ap:Int)) none).length <= 7:=by rw [<- oh,Gw,List.length_drop,oh]; omega
     have t3:({ cps:=#[c2] } : Str).length = 1:=rfl
     refine ⟨by omega,_,hlc,_,a0,Bd.sm (by omega),Bd.sm (by omega),_,rfl,lL,c2,e2,by omega,by omega,by rw [UL]; omega,j.at_,j.next ⟨c2,g2,lc2,?_⟩⟩
     rw [K3,K3,RZ,Gw,List.append_assoc]; rfl
    .rintro ys Hc ⟨ns,rfl,hsl,hns,rfl⟩ hy
     refine q D2 ns _ (S4.trans (Same.upd hD2)) (Same.free S4 hD2) bD hsl (WD hns fun i x hi h=>W4 stL (by rw [oh]; omega) h) (Mi hns fun i j x ij hj h1 h2=>Uu hs ij (by omega) h1 h2)
noncomputable def clsOf (D:Adr) (so:Int):Addr:=if so = 0 then D.Sure else if so = 1 then D.Toss else if so = 2 then D.Even else D.Mixed
structure Drawn (so:Int) (rs:List Str) (ws:List Int) (S:Int):Prop where
 s0:0 <= so
 s3:so <= 3
 len:rs.length = ws.length
 wt:Wt (rs.zip ws) S
 ne:1 <= rs.length
 a0:so = 0->rs.length = 1/\ws = [1]/\S = 1
 a1:so = 1->rs.length = 2
 a2:so = 2->ws = List.replicate rs.length 1/\S = rs.length
theorem Gv:∀ rs:List Str,rs.zip (List.replicate rs.length (1:Int)) = rs.map fun r=>(r,(1:Int))
 | []=>rfl
 | r :: rs=>by rw [List.length_cons,List.replicate_succ,List.zip_cons_cons,Gv rs]; rfl
structure PI (H:Hp) (ps:List V) (rs:List Nat) (ws:List Int) (S:Int):Prop where
 len:ps.length = rs.length
 at_:∀ (k r:Nat) (x:Int),rs[k]? = some r->ws[k]? = some x->∃ t c:Addr,ps[k]? = some (.ref t)/\H t = some (.tup [.int (r:Nat),.ref c])/\H c = some (.tup [.int (Ac.lw x S).1,.int (Ac.lw x S).2])
theorem PI.same {H H':Hp} {ps:List V} {rs:List Nat} {ws:List Int} {S:Int} (h:PI H ps rs ws S) (T:Same H H'):PI H' ps rs ws S:=⟨h.len,fun k r x e1 e2=>let ⟨t,c,a,b,d⟩:=h.at_ k r x e1 e2; ⟨t,c,a,T _ _ b,T _ _ d⟩⟩
noncomputable def xG (ns:List Str) (rs:List Nat) (nms:List Str):Prop:=nms.length = rs.length/\∀ (k r:Nat) (m:Str),rs[k]? = some r->nms[k]? = some m->ns[r]? = some m
noncomputable def uy (K:Frag) (D:Adr):Sp:=fun vs H Q _=>∃ (so:Int) (d n lp p:Addr) (t:Str) (x y S:Int) (rs:List Nat) (ws:List Int) (ps:List V) (ns nms:List Str),vs = [.str t,.ref d,.ref n]/\H d = some (.tup [.int so,.ref p,.ref lp])/\Wd t/\Fk K H p x y/\H lp = some (.lst ps)/\PI H ps rs ws S/\H n = some (.lst (ns.map V.str))/\xG ns rs nms/\Drawn so nms ws S /\
 ∀ H' s ld ys us,Same H H'->H s = none->H ld = none->Kv K H' s (clsOf D so) t p (Ac.ways (nms.zip ws) S) ld ys us->Q (.ref s) H'
noncomputable def bJ (D1:Addr) (gs:List (Str × Int)) (S:Int) (H:Hp) (k:Nat) (ys:List V) (H':Hp):Prop:=Same H H'/\H' D1 = some (.lst ys)/\PW H' ys (gs.take k) S
noncomputable def eJ (D1:Addr) (ss:List Str) (H:Hp) (k:Nat) (ys:List V) (H':Hp):Prop:=Same H H'/\H' D1 = some (.lst ys)/\ys = (ss.take k).map V.str
theorem PW.snocT {H:Hp} {xs:List V} {gs:List (Str × Int)} {S x:Int} {m:Str} {t c:Addr} (h:PW H xs gs S) (ht:H t = some (.tup [.str m,.ref c])) (hc:H c = some (.tup [.int (Ac.lw x S).1,.int (Ac.lw x S).2])):PW H (xs ++ [.ref t]) (gs ++ [(m,x)]) S:=by
 refine ⟨by rw [au,au,h.len]; rfl,fun k g' e=>?_⟩
 by_cases hk:k < gs.length
 .rw [aC hk] at e
  obtain ⟨t',c',a,b⟩:=h.at_ k g' e
  exact ⟨t',c',by rw [aC (by rw [h.len]; exact hk)]; exact a,b⟩
 .rw [aB (by omega)] at e
  have e0:k - gs.length = 0:=by
   have:=(ao.mp e).1
   simp at this; omega
  rw [e0] at e
  cases e
  refine ⟨t,c,?_,ht,hc⟩
  rw [aB (by rw [h.len]; omega),h.len,e0]; rfl
theorem Pq (F:Fun K pU pU uI f fd) (T:Txt K mg D) (oK:OkI P w K mg base (CXO P w) 5 D.Sure_init jx (lG (K:=K) D)) (cY:OkI P w K mg base (CXO P w) 5 D.Mixed_init d_ (dG K D)) (oH:OkI P w K mg base (CXO P w) 6 D.Toss_init jt (lD K D))
  (oM:OkI P w K mg base (CXO P w) 6 D.Even_init jK (lu K D)):cB P w K mg base CX0 8 f fd qM (uy K D):=by
 refine F.ok pP (fun vs H Q E h=>?_) (fun cdv A outer s H vs Q E hr h=>?_)
 .obtain ⟨so,d,n,lp,p,t,x,y,S,rs,ws,ps,ns,nms,rfl,_⟩:=h
  rfl
 .obtain ⟨so,d,n,lp,p,t,x,y,S,rs,ws,ps,ns,nms,rfl,hd,ht,hf,hlp,hp,hns,no,dr,q⟩:=h
  have fam:∀ C,(C = D.Sure\/C = D.Mixed\/C = D.Toss\/C = D.Even)->Fam D C:=by
   intro C hC
   unfold Fam
   rcases hC with h | h | h | h <;> simp [h]
  have s0:=dr.s0
  have s3:=dr.s3
  have hlen:=dr.len
  have gl:(nms.zip ws).length = nms.length:=by rw [List.length_zip]; omega
  have g8:=dr.wt.len
  have z9:100 < sizeLine:=by decide
  refine ⟨_,(bH (qj (pv 1) (iT (n:=3) rfl (cC (cD (i:=4) pP.nd rfl (Or.inl rfl)) (cC (cD (i:=5) pP.nd rfl (Or.inl rfl)) (cC (cD (i:=6) pP.nd rfl (Or.inl rfl)) gQ)))))
   (bH (Ih (bK uI) vf vf ["_law_room", "_law_chance"] (dw ((pv 6)).mono) (iT (n:=2) rfl (cC (fW (i:=0)) (cC (fW (i:=1)) gQ))) dB (cU (bA (bQ bM (pv 4) (pv 0) (fun _ _=>rfl)) (bA (pv 1) bC))) (cD (i:=3) pP.nd rfl (Or.inl rfl)))
   (bH (cF (bZ kj (pv 4) bF (cj _))
    (bI (bU (qy T.Ws oK (hr.mono (by decide)) (by rfl) T.Yd vg (bA (pv 0) (bA (pv 5) (bA (bQ eN (bQ bM (pv 3) bF (fun _ _=>rfl)) bF (fun _ _=>rfl)) bC))))))
    bW)
   (bH (cF (bZ kj (pv 4) bF (cj _))
    (bI (bU (qy T.Uh oH (hr.mono (by decide)) (by rfl) T.Yh vg (bA (pv 0) (bA (pv 5) (bA (bQ eN (bQ bM (pv 3) bF (fun _ _=>rfl)) bF (fun _ _=>rfl)) (bA (bQ eN (bQ bM (pv 3) bF (fun _ _=>rfl)) bF (fun _ _=>rfl)) (bA (bQ eN (bQ bM (pv 3) bF (fun _ _=>rfl)) bF (fun _ _=>rfl)) bC))))))))
    bW)
   (bH (cF (bZ kj (pv 4) bF (cj _))
    (bI (bU (qy T.VG oM (hr.mono (by decide)) (by rfl) T.Xi vg (bA (pv 0) (bA (pv 5) (bA (mJ (bK uI) vf vf ["_law_room", "_law_chance"] (dw ((pv 3)).mono) (iT (n:=2) rfl (cC (fW (i:=0)) (cC (fW (i:=1)) gQ))) dB (pv 0)) bC))))))
    bW)
   (bI (bU (qy T.O9 cY (hr.mono (by decide)) (by rfl) T.Gd vg (bA (pv 0) (bA (pv 5) (bA (pv 3) bC))))))))))),?_⟩
  unfold lG lD lu dG
  walk_at "rd"
  refine ⟨_,hd,rfl,_,_,rfl,_,_,rfl,_,_,rfl,rfl,qp ?_⟩
  walk_at "rd"
  have l100:ps.length <= sizeLine:=by rw [hp.len,<- no.1]; omega
  refine ⟨ps,hlp,l100,fun D1 hD=>⟨bJ D1 (nms.zip ws) S H,⟨Same.upd hD,bD,rfl,fun k g e=>by simp at e⟩,?_,?_⟩⟩
  .rintro k v ys Hc hk ⟨S1,h1,pw⟩ hy hlc pre hpre
   have lk:k < rs.length:=by rw [<- hp.len]; exact (ao.mp hk).1
   have e1:rs[k]? = some rs[k]:=aj lk
   have e2:nms[k]? = some (nms[k]'(by rw [no.1]; exact lk)):=aj _
   have e3:ws[k]? = some (ws[k]'(by rw [<- hlen,no.1]; exact lk)):=aj _
   have eg:(nms.zip ws)[k]? = some (nms[k]'(by rw [no.1]; exact lk),ws[k]'(by rw [<- hlen,no.1]; exact lk)):=List.getElem?_zip_eq_some.mpr ⟨e2,e3⟩
   have en:=no.2 _ _ _ e1 e2
   obtain ⟨tt,c,ea,eb,ec⟩:=(hp.same S1).at_ k _ _ e1 e3
   rw [hk] at ea
   cases ea
   generalize rs[k] = r at *
   generalize nms[k]'(by rw [no.1]; exact lk) = m at *
   generalize ws[k]'(by rw [<- hlen,no.1]; exact lk) = z at *
   obtain ⟨u1,u2,rfl⟩:=yP hpre
   walk_at "rd"
   refine ⟨_,eb,rfl,_,_,rfl,_,_,rfl,rfl,[_,_],rfl,rfl,?_⟩
   refine ⟨_,_,rfl,S1 _ _ hns,_,bR (by rw [aq,en]; rfl),dh,fun p1 hp1=>?_⟩
   have nD:D1 ≠ p1:=bB h1 hp1
   refine ⟨(bG nD).trans h1,(bG (bB hlc hp1)).trans hlc,fun b o e=>(bG (bB e hD)).trans ((bG (bB (S1 _ _ e) hp1)).trans (S1 _ _ e)),bD,?_⟩
   rw [cG eg]
   refine (pw.imp fun t ys e=>?_).snocT (c:=c) ?_ ?_
   .exact (bG (eF e h1 (by intro z; cases z))).trans ((bG (bB e hp1)).trans e)
   .exact (bG nD.symm).trans bD
   .exact (bG (eF ec h1 (by intro z; cases z))).trans ((bG (bB ec hp1)).trans ec)
  .rintro ys Hc ⟨S1,h1,pw⟩ hy
   rw [hp.len,<- no.1,<- gl,aN] at pw
   have hw:=ht.word
   have h1000:t.length <= 1000:=aK ht.hi (by decide)
   have hf':=hf.same S1
   have mk:∀ {G:Hp} {C s dx:Addr},G s = none->G dx = none->¬ dx = s->Same G (upd (upd G dx (.own s)) s (.ins C dx [])):=fun {G C s dx} h1 h2 h3 b o e=>by
    rw [bG (bB e h1),bG (bB e h2)]; exact e
   have kp:∀ {G:Hp} {C s dx:Addr} {H':Hp},Same H G->G s = none->G dx = none->¬ dx = s->Keep s (upd (upd G dx (.own s)) s (.ins C dx [])) H'->Same H H':=fun {G C s dx H'} SG h1 h2 h3 k b o e=>k b o (bB (SG _ _ e) h1) (mk h1 h2 h3 b o (SG _ _ e))
   obtain e | e | e | e:so = 0\/so = 1\/so = 2\/so = 3:=by omega
   .subst e
    obtain ⟨l1,rfl,rfl⟩:=dr.a0 rfl
    obtain ⟨r,rfl⟩:=List.length_eq_one_iff.mp l1
    have wr:=dr.wt.wd (r,1) (by simp)
    obtain ⟨t0,c0,ea,eb,ec⟩:=pw.at_ 0 (r,1) rfl
    rw [if_pos (by decide)]
    refine ⟨_,h1,_,bR (j:=0) ea,t0,rfl,_,eb,_,fV,fun o dx h1 h2 h3=>⟨dx,r,rfl,rfl,h1000,hw,wr.1,wr.2,⟨x,y,hf'.same (mk h1 h2 h3)⟩,fun t l H' f k e1 e2 e3=>?_⟩⟩
    refine q H' o l [.ref t] [(r,D.ONE)] (kp S1 h1 h2 h3 k) (Same.free S1 h1) (Same.free S1 (Same.free (mk h1 h2 h3) f)) ⟨⟨dx,e3⟩,e2,?_⟩
    show WF K H' [.ref t] (Ac.ways [(r,1)] 1) [(r,D.ONE)]
    rw [Ac.O4]
    exact .cons e1 (T.yw H') .nil
   .subst e
    have l2:=dr.a1 rfl
    obtain ⟨r1,r2,rfl⟩:=yP l2
    obtain ⟨w1,w2,rfl⟩:=yP (hlen.symm.trans l2)
    have wt:=dr.wt
    have es:w2 = S - w1:=by
     have:=wt.sum
     simp at this
     omega
    subst es
    obtain ⟨t0,c0,ea,eb,ec⟩:=pw.at_ 0 (r1,w1) rfl
    obtain ⟨t1,c1,fa,fb,fc⟩:=pw.at_ 1 (r2,S - w1) rfl
    rw [if_neg (by decide),if_pos (by decide)]
    refine ⟨_,h1,_,bR (j:=0) ea,t0,rfl,_,eb,_,eE,_,h1,_,bR (j:=0) ea,t0,rfl,_,eb,_,fV,_,h1,_,bR (j:=1) fa,t1,rfl,_,fb,_,fV,fun o dx h1' h2 h3=>?_⟩
    refine ⟨dx,r1,r2,c0,rfl,rfl,rfl,rfl,h1000,hw,⟨x,y,hf'.same (mk h1' h2 h3)⟩,w1,S,mk h1' h2 h3 _ _ ec,wt,fun H' ld ys us f k d=>?_⟩
    exact q H' o ld ys us (kp S1 h1' h2 h3 k) (Same.free S1 h1') (Same.free S1 (Same.free (mk h1' h2 h3) f)) d
   .subst e
    obtain ⟨ew,rfl⟩:=dr.a2 rfl
    subst ew
    have hz:nms.zip (List.replicate nms.length (1:Int)) = nms.map fun r=>(r,(1:Int)):=Gv nms
    have wt:=dr.wt
    rw [hz] at wt q
    rw [if_neg (by decide),if_neg (by decide),if_pos (by decide)]
    refine qp ?_
    walk_at "rd"
    have ml:(nms.map fun r=>(r,(1:Int))).length = nms.length:=ak ..
    rw [hz] at pw
    refine ⟨ys,h1,by rw [pw.len,ml]; omega,fun D2 hD2=>⟨eJ D2 nms Hc,⟨Same.upd hD2,bD,rfl⟩,?_,?_⟩⟩
    .rintro k v zs H3 hk ⟨S3,h3,ez⟩ hy3 h13 pre hpre
     have lk:k < nms.length:=by rw [<- ml,<- pw.len]; exact (ao.mp hk).1
     have e2:nms[k]? = some nms[k]:=aj lk
     obtain ⟨t0,c0,ea,eb,ec⟩:=pw.at_ k (nms[k],1) (by rw [aq,e2]; rfl)
     rw [hk] at ea
     cases ea
     generalize nms[k] = m at *
     obtain ⟨u1,u2,rfl⟩:=yP hpre
     walk_at "rd"
     refine ⟨_,S3 _ _ eb,rfl,_,_,rfl,_,_,rfl,rfl,[_,_],rfl,rfl,?_⟩
     refine ⟨h3,h13,fun b o e=>(bG (bB e hD2)).trans (S3 _ _ e),bD,?_⟩
     rw [cG e2,bh,ez]; rfl
    .rintro zs H3 ⟨S3,h3,ez⟩ hy3 o dx h1' h2 h3'
     rw [pw.len,ml,aN] at ez
     subst ez
     refine ⟨⟨dx,rfl⟩,h1000,hw,⟨x,y,(hf'.same S3).same (mk h1' h2 h3')⟩,nms,mk h1' h2 h3' _ _ h3,wt,fun H' ld ys us f k d=>?_⟩
     exact q H' o ld ys us (kp (S1.trans S3) h1' h2 h3' k) (Same.free (S1.trans S3) h1') (Same.free (S1.trans S3) (Same.free (mk h1' h2 h3') f)) d
   .subst e
    rw [if_neg (by decide),if_neg (by decide),if_neg (by decide)]
    intro o dx h1' h2 h3
    refine ⟨dx,D.Mixed,rfl,fam _ (by simp),h1000,hw,⟨x,y,hf'.same (mk h1' h2 h3)⟩,ys,mk h1' h2 h3 _ _ h1,_,_,pw.same (mk h1' h2 h3),dr.wt,fun H' ld ys us f k d=>?_⟩
    exact q H' o ld ys us (kp S1 h1' h2 h3 k) (Same.free S1 h1') (Same.free S1 (Same.free (mk h1' h2 h3) f)) d
theorem Ed {t b:Int} : Ac.lw (b - t) b = ((Ac.lw t b).2 - (Ac.lw t b).1,(Ac.lw t b).2):=by
 unfold Ac.lw
 rw [Int.gcd_self_sub_left,Int.sub_ediv_of_dvd b (Int.gcd_dvd_left t b)]
theorem Lr {b:Int} : Ac.lw 1 b = (1,b):=by
 unfold Ac.lw
 rw [Int.one_gcd]
 simp
structure sY (n:Nat) (so:Int) (rs:List Nat) (ws:List Int) (S:Int):Prop where
 s0:0 <= so
 s3:so <= 3
 len:rs.length = ws.length
 pos:0 < S
 le:S <= 10 ^ 20
 l8:rs.length <= 8
 lo:∀ x ∈ ws,0 <= x
 sum:ws.sum = S
 ne:1 <= rs.length
 a0:so = 0->rs.length = 1/\ws = [1]/\S = 1
 a1:so = 1->rs.length = 2
 a2:so = 2->ws = List.replicate rs.length 1/\S = rs.length
 lt:∀ r ∈ rs,r < n
theorem sY.drawn {n:Nat} {so S:Int} {rs:List Nat} {ws:List Int} {ns nms:List Str} (h:sY n so rs ws S) (no:xG ns rs nms) (hw:∀ m ∈ ns,Wd m):Drawn so nms ws S:=by
 have e:=no.1
 have l:=h.len
 refine ⟨h.s0,h.s3,by omega,⟨h.pos,h.le,?_,fun g hg=>?_,fun g hg=>?_,?_⟩,by rw [e]; exact h.ne,fun z=>by rw [e]; exact h.a0 z,fun z=>by rw [e]; exact h.a1 z,fun z=>by rw [e]; exact h.a2 z⟩
 .rw [List.length_zip]
  have:=h.l8
  omega
 .obtain ⟨k,hk⟩:=aU hg
  obtain ⟨a,b⟩:=List.getElem?_zip_eq_some.mp hk
  have lk:=(ao.mp a).1
  have er:rs[k]? = some (rs[k]'(by omega)):=aj _
  have w:=hw _ (aA (no.2 k _ _ er a))
  exact ⟨aK w.hi (by decide),w.word⟩
 .exact h.lo _ (List.of_mem_zip hg).2
 .have:(nms.zip ws).map (·.2) = ws:=List.map_snd_zip (by omega)
  rw [this]; exact h.sum
theorem h_ {t v:TS} {D:Ends} {σ:L2.St} {H:Hp} {i k:Int} (hσ:σ[4]? = some (some (.int i))) (ne:i ≠ k) (h:v D σ H):o9 (zX (ux (tOp rEq (sV 4) (tC (.int k)))) t wG) v D σ H:=by
 refine ⟨_,hσ,rfl,_,rfl,?_⟩
 dsimp only
 rw [if_neg (by simp [ne])]
 exact h
theorem sI {t v:TS} {D:Ends} {σ:L2.St} {H:Hp} {i k:Int} (hσ:σ[4]? = some (some (.int i))) (e:i = k) (h:∀ Kn:L2.St->Hp->Prop,(∀ σ' H',v D σ' H'->Kn σ' H')->t { D with nx:=Kn } σ H):o9 (zX (ux (tOp rEq (sV 4) (tC (.int k)))) t wG) v D σ H:=by
 refine ⟨_,hσ,rfl,_,rfl,?_⟩
 dsimp only
 rw [if_pos (by simp [e])]
 exact h _ fun _ _ z=>z
theorem PI.imp {H H':Hp} {ps:List V} {rs:List Nat} {ws:List Int} {S:Int} (T:∀ t ys,H t = some (.tup ys)->H' t = some (.tup ys)) (h:PI H ps rs ws S):PI H' ps rs ws S:=⟨h.len,fun k r x e1 e2=>let ⟨t,c,a,b,d⟩:=h.at_ k r x e1 e2; ⟨t,c,a,T _ _ b,T _ _ d⟩⟩
theorem PI.snoc {H:Hp} {ps:List V} {rs:List Nat} {ws:List Int} {S x:Int} {r:Nat} {t c:Addr} (h:PI H ps rs ws S) (hl:ws.length = rs.length) (ht:H t = some (.tup [.int r,.ref c])) (hc:H c = some (.tup [.int (Ac.lw x S).1,.int (Ac.lw x S).2])):PI H (ps ++ [.ref t]) (rs ++ [r]) (ws ++ [x]) S:=by
 refine ⟨by rw [au,au,h.len]; rfl,fun k r' x' e1 e2=>?_⟩
 by_cases hk:k < rs.length
 .rw [aC hk] at e1
  rw [aC (by omega)] at e2
  obtain ⟨t',c',a,b⟩:=h.at_ k r' x' e1 e2
  exact ⟨t',c',by rw [aC (by rw [h.len]; exact hk)]; exact a,b⟩
 .rw [aB (by omega)] at e1
  rw [aB (by omega)] at e2
  have e0:k - rs.length = 0:=by
   have:=(ao.mp e1).1
   simp at this; omega
  rw [e0] at e1
  rw [hl,e0] at e2
  cases e1
  cases e2
  refine ⟨t,c,?_,ht,hc⟩
  rw [aB (by rw [h.len]; omega),h.len,e0]; rfl
theorem JT {ys:List V} {n:Nat} (h:n <= ys.length):mO ys none (some (n:Int)) = ys.take n:=by
 unfold mO
 rw [HT.mQ,Nat.min_eq_left h]
 show ((ys.drop 0).take (n - 0)) = _
 rw [List.drop_zero,Nat.sub_zero]
theorem NP (n:Nat):(List.replicate n (1:Int)).sum = n:=by
 induction n with
 | zero=>rfl
 | succ n ih=>rw [List.replicate_succ,List.sum_cons,ih]; omega
noncomputable def evJ (D1:Addr) (rs:List Nat) (ws:List Int) (S:Int) (H:Hp) (k:Nat) (ys:List V) (H':Hp):Prop:=Same H H'/\H' D1 = some (.lst ys)/\PI H' ys (rs.take k) (ws.take k) S
noncomputable def weJ (D1:Addr) (H:Hp) (k:Nat) (ys:List V) (H':Hp):Prop:=∃ ws:List Int,ys = ws.map V.int/\ws.length = k/\(∀ x ∈ ws,0 <= x/\x <= 1000)/\Same H H'/\H' D1 = some (.lst ys)
theorem Cd:∀ l:List Int,(∀ x ∈ l,0 <= x/\x <= 1001)->0 <= l.sum/\l.sum <= 1001 * l.length/\∀ x ∈ l,x <= l.sum
 | [],_=>⟨by simp,by simp,by simp⟩
 | a :: l,h=>by
  obtain ⟨h1,h2,h3⟩:=Cd l fun x hx=>h x (aG _ hx)
  have h0:=h a aM
  rw [List.sum_cons,List.length_cons]
  refine ⟨by omega,by omega,fun x hx=>?_⟩
  rcases List.mem_cons.mp hx with rfl | hx
  .omega
  .have:=h3 x hx
   omega
theorem Qw {n:Nat} (h:1 <= n):ixN n (-1) = some (n - 1):=by
 unfold ixN
 rw [if_neg (by omega),if_pos (by omega)]
 congr 1
 omega
theorem Wi {α:Type} : ∀ {l:List α},l.length = 4->∃ a b c d,l = [a,b,c,d]
 | [a,b,c,d],_=>⟨a,b,c,d,rfl⟩
noncomputable def Xy (D1:Addr) (n:Nat) (H:Hp) (k:Nat) (ys:List V) (Hc:Hp):Prop:=∃ r4:List Nat,ys = (r4.map fun r=>V.int (r:Nat))/\r4.length = k/\(∀ r ∈ r4,r < n)/\Hc = upd H D1 (.lst ys)
noncomputable def wZ:Sp:=fun vs H Q _=>∃ (c:Int) (n:Nat),vs = [.int c,.int n]/\1 <= n/\n <= 12/\∀ (r d p lp:Addr) (room:Nat) (so x y S:Int) (rs:List Nat) (ws:List Int) (ps:List V) H',Same H H'->H r = none->H d = none->H' r = some (.tup [.int room,.ref d])->room < n->H' d = some (.tup [.int so,.ref p,.ref lp])->H' p = some (.tup [.int x,.int y])->0 < y->Int.gcd x y = 1->H' lp = some (.lst ps)->H lp = none->PI H' ps rs ws S->sY n so rs ws S->Q (.ref r) H'
theorem V2 (F:Fun K ug ug rW f fd) (T:Txt K mg D) (cL:OkF P w K mg base 1 eU eY dH) (gB:OkF P w K mg base 2 jU jT jO) (Rv:OkF P w K mg base 3 xP zO Ea):cB P w K mg base CX0 4 f fd tU wZ:=by
 refine F.okB iU (fun vs H Q E h=>?_) (fun cdv A outer s H vs Q E hr h=>?_)
 .obtain ⟨c,n,rfl,_⟩:=h
  rfl
 .obtain ⟨c,n,rfl,n1,n12,q⟩:=h
  refine ⟨_,(cg (PSB.mk (bV (i:=2) iU.nd rfl (Or.inr rfl) (bL cL (hr.mono (by decide)) (by rfl) (bA (pv 0) (bA bF bC)))))
   (cg (PSB.mk (bV (i:=3) iU.nd rfl (Or.inr rfl) (mJ (bK rW) oE oE ["_law_x"] (dw ((iI oO (pv 2) (fB bF) (fB bF))).mono) (fW (i:=0)) dB (bN g_ (pv 0) (pv 2)))))
   (cg (PSB.mk (bV (i:=4) iU.nd rfl (Or.inl rfl) (bN cH (bQ bM (pv 2) bF (fun _ _=>rfl)) bF)))
   (cg (PSB.mk (bV (i:=5) iU.nd rfl (Or.inl rfl) (iD (bA (cU (bA (bQ bM (pv 3) bF (fun _ _=>rfl)) (bA (cU (bA bF (bA bF bC))) bC))) bC))))
   (cg (PSB.mk (cF (bZ kj (pv 4) bF (cj _))
    (bH (bV (i:=6) iU.nd rfl (Or.inl rfl) (bN cR bF (bN cH (bQ bM (pv 2) bF (fun _ _=>rfl)) bF)))
    (bH (bV (i:=7) iU.nd rfl (Or.inl rfl) (bL gB (hr.mono (by decide)) (by rfl) (bA (bN g_ (bQ bM (pv 2) bF (fun _ _=>rfl)) (bN cR (pv 6) bF)) (bA (pv 6) bC))))
    (bI (bV (i:=5) iU.nd rfl (Or.inl rfl) (iD (bA (cU (bA (bQ bM (pv 3) bF (fun _ _=>rfl)) (bA (pv 7) bC))) (bA (cU (bA (bQ bM (pv 3) bF (fun _ _=>rfl)) (bA (cU (bA (bN vH (bQ eN (pv 7) bF (fun _ _=>rfl)) (bQ eN (pv 7) bF (fun _ _=>rfl))) (bA (bQ eN (pv 7) bF (fun _ _=>rfl)) bC))) bC))) bC)))))))
    bW))
   (cg (PSB.mk (cF (bZ kj (pv 4) bF (cj _))
    (bH (bV (i:=3) iU.nd rfl (Or.inr rfl) (iI oO (pv 3) uM (fB (bN cR bF (bN cH (bQ bM (pv 2) bF (fun _ _=>rfl)) bF)))))
    (bI (Ih (bK rW) oE oE ["_law_room"] (dw ((pv 3)).mono) (fW (i:=0)) dB (cU (bA (pv 0) (bA (cU (bA bF (bA (bO cA (by rfl) T.dR PySem.boot_len (bA (pv 4) bC)) bC))) bC))) (cD (i:=5) iU.nd rfl (Or.inl rfl)))))
    bW))
   (cg (PSB.mk (cF (bZ kj (pv 4) bF (cj _))
    (bH (bV (i:=8) iU.nd rfl (Or.inr rfl) (mJ (bK rW) oE oE ["_law_x"] (dw ((iI oO (pv 2) (fB bF) (fB (bN cR bF (bN cH (bQ bM (pv 2) bF (fun _ _=>rfl)) bF))))).mono) (fW (i:=0)) dB (bN g_ (pv 0) (bQ bM (iD (bA bF (bA bF (bA bF (bA bF bC))))) (bN cH (bQ bM (pv 3) bF (fun _ _=>rfl)) bF) (fun _ _=>rfl)))))
    (bH (qj (bN cR (bQ bM (pv 8) (Bw vY bF) (fun _ _=>rfl)) bF) (Jp (pv 8) (Bw vY bF) set_list))
    (bI (Ih (bK rW) oE oE ["_law_k"] (iB (by rfl) T.lE (bA (bO cA (by rfl) T.dR PySem.boot_len (bA (pv 8) bC)) bC).mono) (fW (i:=0)) dB (cU (bA (bQ bM (pv 4) (pv 0) (fun _ _=>rfl)) (bA (bL gB (hr.mono (by decide)) (by rfl) (bA (bQ bM (pv 9) (pv 0) (fun _ _=>rfl)) (bA (bO (Bk rfl) (by rfl) T.WW boot_sum (bA (pv 9) bC)) bC))) bC))) (cD (i:=5) iU.nd rfl (Or.inl rfl))))))
    bW))
   (uU (PSB.mk (bU (cU (bA (bN g_ (bQ bM (pv 2) bF (fun _ _=>rfl)) (pv 1)) (bA (cU (bA (pv 4) (bA (bL Rv (hr.mono (by decide)) (by rfl) (bA (pv 0) (bA (bQ bM (pv 2) bF (fun _ _=>rfl)) (bA (bQ bM (pv 2) bF (fun _ _=>rfl)) bC)))) (bA (pv 5) bC)))) bC))))))))))))),?_⟩
  unfold dH jO Ea
  refine ⟨_,rfl,c,14,rfl,by decide,fun l xs H1 S1 hl hl1 hx hr'=>?_⟩
  dsimp only [dI]
  have at_:∀ j,j < 14->∃ y,atI (xs.map V.int) (j:Nat) = some (.int y)/\0 <= y/\y < 2000000000:=fun j hj=>by
   have:j < xs.length:=by omega
   exact ⟨xs[j],bR (j:=j) (by rw [aq,aj this]; rfl),hr' _ (aR this)⟩
  refine bY fun R1 hR1=>?_
  walk_at "rd"
  refine dz ?_
  walk_at "rd"
  refine ⟨_,.of hl1,fun p hp=>?_⟩
  have ec:mO (xs.map V.int) (some 2) (some 6) = ((xs.drop 2).take 4).map V.int:=by
   rw [List.map_take,List.map_drop]
   exact Fy (ys:=xs.map V.int) (a:=2) (b:=6) (by decide) (by rw [ak]; omega)
  rw [ec]
  have ul:((xs.drop 2).take 4).length = 4:=by rw [aY,List.length_drop]; omega
  have u0:∀ x ∈ (xs.drop 2).take 4,0 <= x:=fun x hx=>(hr' x (List.mem_of_mem_drop (List.mem_of_mem_take hx))).1
  have S2:Same H1 (upd H1 p (.lst (((xs.drop 2).take 4).map V.int))):=Same.upd hp
  generalize upd H1 p (.lst (((xs.drop 2).take 4).map V.int)) = H2 at S2 ⊢
  generalize (xs.drop 2).take 4 = us at ul u0 ⊢
  have z9:100 < sizeLine:=by decide
  refine ⟨by rw [ak]; omega,fun D1 hD1=>⟨Xy D1 n H2,⟨[],rfl,rfl,by simp,rfl⟩,?_,?_⟩⟩
  .rintro k v ys Hc hk ⟨r4,rfl,rl,rn,rfl⟩ hy hpc
   rw [aq] at hk
   cases er:us[k]? with
   | none=>rw [er] at hk; cases hk
   | some i =>
    rw [er] at hk
    cases hk
    have i0:=u0 i (aA er)
    have m0:0 <= i % (n:Int):=Int.emod_nonneg _ (by omega)
    have m1:i % (n:Int) < n:=Int.emod_lt_of_pos _ (by omega)
    have ef:i.fmod (n:Int) = (((i % (n:Int)).toNat:Nat):Int):=by rw [aV _ (by omega)]; omega
    refine ⟨i,rfl,by omega,?_⟩
    rw [ef]
    refine ⟨bD,hpc,r4 ++ [(i % (n:Int)).toNat],by rw [bh]; rfl,by rw [au,rl]; rfl,fun r hr=>?_,oF⟩
    rcases List.mem_append.mp hr with hr | hr
    .exact rn r hr
    .rw [List.mem_singleton.mp hr]; omega
  .rintro ys Hc ⟨r4,rfl,rl,rn,rfl⟩ hy
   rw [ak,ul] at rl
   have S3:Same H (upd H2 D1 (.lst (r4.map fun r=>V.int (r:Nat)))):=S1.trans (S2.trans (Same.upd hD1))
   have hl3:upd H2 D1 (.lst (r4.map fun r=>V.int (r:Nat))) l = some (.lst (xs.map V.int)):=Same.upd hD1 _ _ (S2 _ _ hl1)
   have hr3:upd H2 D1 (.lst (r4.map fun r=>V.int (r:Nat))) D1 = some (.lst (r4.map fun r=>V.int (r:Nat))):=bD
   generalize upd H2 D1 (.lst (r4.map fun r=>V.int (r:Nat))) = H3 at S3 hl3 hr3 ⊢
   obtain ⟨x6,a6,p6⟩:=at_ 6 (by decide)
   subst hR1
   refine bY fun R2 hR2=>?_
   walk_at "rd"
   refine ⟨_,hl3,_,a6,_,rfl,?_⟩
   subst hR2
   refine bY fun R3 hR3=>?_
   walk_at "rd"
   obtain ⟨ra,rb,rc,rd,rfl⟩:=Wi rl
   refine ⟨_,hr3,_,fV,dh,fun q1 h1=>⟨dh,fun q2 h2=>⟨by decide,fun q3 h3=>?_⟩⟩⟩
   have d12:q1 ≠ q2:=bB bD h2
   have d23:q2 ≠ q3:=bB bD h3
   have d13:q1 ≠ q3:=bB ((bG d12).trans bD) h3
   have S4:Same H3 (upd (upd (upd H3 q1 (.tup [.int 1,.int 1])) q2 (.tup [.int ra,.ref q1])) q3 (.lst [.ref q2])):=(Same.upd h1).trans ((Same.upd h2).trans (Same.upd h3))
   have e1:upd (upd (upd H3 q1 (.tup [.int 1,.int 1])) q2 (.tup [.int ra,.ref q1])) q3 (.lst [.ref q2]) q1 = some (.tup [.int 1,.int 1]):=(bG d13).trans ((bG d12).trans bD)
   have e2:upd (upd (upd H3 q1 (.tup [.int 1,.int 1])) q2 (.tup [.int ra,.ref q1])) q3 (.lst [.ref q2]) q2 = some (.tup [.int ra,.ref q1]):=(bG d23).trans bD
   have e3:upd (upd (upd H3 q1 (.tup [.int 1,.int 1])) q2 (.tup [.int ra,.ref q1])) q3 (.lst [.ref q2]) q3 = some (.lst [.ref q2]):=bD
   have f3:H q3 = none:=Same.free S3 (Same.free (Same.upd h1) (Same.free (Same.upd h2) h3))
   generalize upd (upd (upd H3 q1 (.tup [.int 1,.int 1])) q2 (.tup [.int ra,.ref q1])) q3 (.lst [.ref q2]) = H4 at S4 e1 e2 e3 ⊢
   have hl4:=S4 _ _ hl3
   have hr4:=S4 _ _ hr3
   have S4:=S3.trans S4
   obtain ⟨so,es,s0,s3⟩ : ∃ so,x6 % 4 = so/\0 <= so/\so <= 3:=⟨_,rfl,by omega,by omega⟩
   rw [es]
   subst hR3
   refine Br fun R hR=>?_
   have fin:∀ (u3 u6 u7 u8:Option V) (lp:Addr) (rs:List Nat) (ws:List Int) (S:Int) (ps:List V) (H9:Hp),Same H H9->H9 l = some (.lst (xs.map V.int))->H lp = none->H9 lp = some (.lst ps)->PI H9 ps rs ws S->sY n so rs ws S->R { nx:=fun _ H'=>Q .non H',rt:=Q } [some (.int c),some (.int n),some (.ref l),u3,some (.int so),some (.ref lp),u6,u7,u8] H9:=by
    intro u3 u6 u7 u8 lp rs ws S ps H9 S9 hl9 fl hlp hpi hdr
    obtain ⟨x0,a0,p0⟩:=at_ 0 (by decide)
    obtain ⟨x1,a1,p1⟩:=at_ 1 (by decide)
    obtain ⟨x13,a13,p13⟩:=at_ 13 (by decide)
    subst hR
    walk_at "rd"
    have m0:0 <= x13 % (n:Int):=Int.emod_nonneg _ (by omega)
    have m1:x13 % (n:Int) < n:=Int.emod_lt_of_pos _ (by omega)
    have ef:x13.fmod (n:Int) = (((x13 % (n:Int)).toNat:Nat):Int):=by rw [aV _ (by omega)]; omega
    refine ⟨_,hl9,_,a13,_,rfl,by omega,_,hl9,_,a0,_,hl9,_,a1,⟨_,rfl⟩,⟨_,rfl⟩,fun p1 x y f1 y0 g1 _ _=>⟨by decide,fun p2 f2=>⟨dh,fun p3 f3'=>?_⟩⟩⟩
    rw [ef]
    have g12:p1 ≠ p2:=bB bD f2
    have g23:p2 ≠ p3:=bB bD f3'
    have g13:p1 ≠ p3:=bB ((bG g12).trans bD) f3'
    have S10:Same H9 (upd (upd (upd H9 p1 (.tup [.int x,.int y])) p2 (.tup [.int so,.ref p1,.ref lp])) p3 (.tup [.int ((x13 % (n:Int)).toNat:Nat),.ref p2])):=(Same.upd f1).trans ((Same.upd f2).trans (Same.upd f3'))
    exact q p3 p2 p1 lp _ so x y S rs ws ps _ (S9.trans S10) (Same.free S9 (Same.free (Same.upd f1) (Same.free (Same.upd f2) f3'))) (Same.free S9 (Same.free (Same.upd f1) f2)) bD (by omega) ((bG g23).trans bD) ((bG g13).trans ((bG g12).trans bD)) y0 g1 (S10 _ _ hlp) fl (hpi.same S10) hdr
   clear hR
   obtain e | e | e | e:so = 0\/so = 1\/so = 2\/so = 3:=by omega
   .subst e
    refine h_ rfl (by decide) (h_ rfl (by decide) (h_ rfl (by decide) (fin _ _ _ _ q3 [ra] [1] 1 [.ref q2] H4 S4 hl4 f3 e3 ⟨rfl,fun k r x h1 h2=>?_⟩ ?_)))
    .match k with
     | 0 =>
      cases h1
      cases h2
      exact ⟨q2,q1,rfl,e2,by rw [Lr]; exact e1⟩
     | k + 1=>simp at h1
    .exact ⟨by decide,by decide,rfl,by decide,by decide,by simp,by simp,rfl,by simp,fun _=>⟨rfl,rfl,rfl⟩,fun z=>by simp at z,fun z=>by simp at z,fun r hr=>rn r (by rw [List.mem_singleton.mp hr]; simp)⟩
   .subst e
    obtain ⟨x8,a8,p8⟩:=at_ 8 (by decide)
    obtain ⟨x9,a9,p9⟩:=at_ 9 (by decide)
    refine sI rfl rfl fun Kn hK=>?_
    walk_at "rd"
    obtain ⟨b,eb,b0,b6⟩ : ∃ b,1 + x8 % 6 = b/\1 <= b/\b <= 6:=⟨_,rfl,by omega,by omega⟩
    obtain ⟨wt,ew,w0,w1⟩ : ∃ wt,x9.fmod (b + 1) = wt/\0 <= wt/\wt <= b:=by
     have m0:0 <= x9 % (b + 1):=Int.emod_nonneg _ (by omega)
     have m1:x9 % (b + 1) < b + 1:=Int.emod_lt_of_pos _ (by omega)
     exact ⟨_,rfl,by rw [aV _ (by omega)]; exact m0,by rw [aV _ (by omega)]; omega⟩
    refine ⟨_,hl4,_,a8,_,rfl,_,hl4,_,a9,_,rfl,by omega,by omega,Bd.sm (by omega),fun c1 g1=>?_⟩
    rw [eb,ew]
    have T1:Same H4 (upd H4 c1 (.tup [.int (Ac.lw wt b).1,.int (Ac.lw wt b).2])):=Same.upd g1
    have k1:upd H4 c1 (.tup [.int (Ac.lw wt b).1,.int (Ac.lw wt b).2]) c1 = some (.tup [.int (Ac.lw wt b).1,.int (Ac.lw wt b).2]):=bD
    generalize upd H4 c1 (.tup [.int (Ac.lw wt b).1,.int (Ac.lw wt b).2]) = H5 at T1 k1 ⊢
    refine ⟨_,T1 _ _ hr4,_,fV,dh,fun t1 g2=>?_⟩
    have T2:Same H5 (upd H5 t1 (.tup [.int ra,.ref c1])):=Same.upd g2
    have k2:upd H5 t1 (.tup [.int ra,.ref c1]) t1 = some (.tup [.int ra,.ref c1]):=bD
    generalize upd H5 t1 (.tup [.int ra,.ref c1]) = H6 at T2 k2 ⊢
    have j1:=T2 _ _ k1
    refine ⟨_,T2 _ _ (T1 _ _ hr4),_,eE,_,j1,_,eE,_,j1,_,fV,_,rfl,_,rfl,_,j1,_,eE,dh,fun c2 g3=>⟨dh,fun t2 g4=>⟨dh,fun lp g5=>hK _ _ (h_ rfl (by decide) (h_ rfl (by decide) ?_))⟩⟩⟩
    have m34:c2 ≠ t2:=bB bD g4
    have m45:t2 ≠ lp:=bB bD g5
    have m35:c2 ≠ lp:=bB ((bG m34).trans bD) g5
    have T3:Same H6 (upd (upd (upd H6 c2 (.tup [.int ((Ac.lw wt b).2 - (Ac.lw wt b).1),.int (Ac.lw wt b).2])) t2 (.tup [.int rb,.ref c2])) lp (.lst [.ref t1,.ref t2])):=(Same.upd g3).trans ((Same.upd g4).trans (Same.upd g5))
    have S6:Same H H6:=S4.trans (T1.trans T2)
    refine fin _ _ _ _ lp [ra,rb] [wt,b - wt] b [.ref t1,.ref t2] _ (S6.trans T3) (T3 _ _ (T2 _ _ (T1 _ _ hl4))) (Same.free S6 (Same.free (Same.upd g3) (Same.free (Same.upd g4) g5))) bD ⟨rfl,fun k r x h1 h2=>?_⟩ ?_
    .match k with
     | 0 =>
      cases h1
      cases h2
      exact ⟨t1,c1,rfl,T3 _ _ k2,T3 _ _ j1⟩
     | 1 =>
      cases h1
      cases h2
      exact ⟨t2,c2,rfl,(bG m45).trans bD,by rw [Ed]; exact (bG m35).trans ((bG m34).trans bD)⟩
     | k + 2=>simp at h1
    .refine ⟨by decide,by decide,rfl,by omega,by omega,by simp,?_,?_,by simp,fun z=>by simp at z,fun _=>rfl,fun z=>by simp at z,?_⟩
     .intro x hx
      simp only [List.mem_cons,List.not_mem_nil,or_false] at hx
      omega
     .simp
      omega
     .intro r hr
      simp only [List.mem_cons,List.not_mem_nil,or_false] at hr
      rcases hr with rfl | rfl
      .exact rn _ (by simp)
      .exact rn _ (by simp)
   .subst e
    obtain ⟨x7,a7,p7⟩:=at_ 7 (by decide)
    refine h_ rfl (by decide) (sI rfl rfl fun Kn hK=>?_)
    walk_at "rd"
    obtain ⟨m,em,m1,m4⟩ : ∃ m:Nat,1 + x7 % 4 = m/\1 <= m/\m <= 4:=⟨(1 + x7 % 4).toNat,by omega,by omega,by omega⟩
    refine ⟨_,hl4,_,a7,_,rfl,_,.of hr4,fun p5 g5=>?_⟩
    rw [em,JT (by rw [ak]; simp; omega),<- List.map_take]
    have l5:([ra,rb,rc,rd].take m).length = m:=by rw [aY]; simp; omega
    have r5:∀ r ∈ [ra,rb,rc,rd].take m,r < n:=fun r hr=>rn r (List.mem_of_mem_take hr)
    generalize [ra,rb,rc,rd].take m = rs at l5 r5 ⊢
    have T1:Same H4 (upd H4 p5 (.lst (rs.map fun r=>V.int (r:Nat)))):=Same.upd g5
    have k1:upd H4 p5 (.lst (rs.map fun r=>V.int (r:Nat))) p5 = some (.lst (rs.map fun r=>V.int (r:Nat))):=bD
    generalize upd H4 p5 (.lst (rs.map fun r=>V.int (r:Nat))) = H5 at T1 k1 ⊢
    have S5:=S4.trans T1
    have rl5:(List.replicate m (1:Int)).length = m:=aL
    refine dz ?_
    walk_at "rd"
    refine ⟨_,k1,by rw [ak]; omega,fun D2 hD2=>⟨evJ D2 rs (List.replicate m 1) m H5,⟨Same.upd hD2,bD,by simp; exact ⟨rfl,fun k r x h1 _=>by simp at h1⟩⟩,?_,?_⟩⟩
    .rintro k v ys Hc hk ⟨T5,h5,pi⟩ hy hpc
     rw [aq] at hk
     cases er:rs[k]? with
     | none=>rw [er] at hk; cases hk
     | some r =>
      rw [er] at hk
      cases hk
      have lk:k < m:=by rw [<- l5]; exact (ao.mp er).1
      have ew:(List.replicate m (1:Int))[k]? = some 1:=by rw [List.getElem?_replicate,if_pos lk]
      refine ⟨_,hpc,?_⟩
      rw [ak,l5]
      refine ⟨dh,fun c1 g1=>⟨dh,fun t1 g2=>?_⟩⟩
      have T6:Same Hc (upd (upd Hc c1 (.tup [.int 1,.int m])) t1 (.tup [.int r,.ref c1])):=(Same.upd g1).trans (Same.upd g2)
      have i1:upd (upd Hc c1 (.tup [.int 1,.int m])) t1 (.tup [.int r,.ref c1]) c1 = some (.tup [.int 1,.int m]):=(bG (bB bD g2)).trans bD
      have i2:upd (upd Hc c1 (.tup [.int 1,.int m])) t1 (.tup [.int r,.ref c1]) t1 = some (.tup [.int r,.ref c1]):=bD
      generalize upd (upd Hc c1 (.tup [.int 1,.int m])) t1 (.tup [.int r,.ref c1]) = H7 at T6 i1 i2 ⊢
      have nt:∀ t us,H7 t = some (.tup us)->upd H7 D2 (.lst (ys ++ [.ref t1])) t = some (.tup us):=fun t us e=>(bG (eF e (T6 _ _ h5) (by intro z; cases z))).trans e
      refine ⟨T6 _ _ h5,T6 _ _ hpc,fun b o e=>(bG (bB e hD2)).trans (T6 _ _ (T5 _ _ e)),bD,?_⟩
      rw [cG er,cG ew]
      refine ((pi.same T6).imp nt).snoc ?_ (nt _ _ i2) (by rw [Lr]; exact nt _ _ i1)
      rw [aY,aY,rl5,l5]
    .rintro ys Hc ⟨T5,h5,pi⟩ hy
     rw [ak,aN,l5,aJ (by rw [rl5]; exact aD _)] at pi
     refine hK _ _ (h_ rfl (by decide) (fin _ _ _ _ D2 rs (List.replicate m 1) m ys Hc (S5.trans T5) (T5 _ _ (T1 _ _ hl4)) (Same.free S5 hD2) h5 pi ?_))
     exact ⟨by decide,by decide,by rw [rl5,l5],by omega,by omega,by omega,fun x hx=>by rw [(List.mem_replicate.mp hx).2]; decide,NP m,by omega,fun z=>by simp at z,fun z=>by simp at z,fun _=>⟨by rw [l5],by rw [l5]⟩,r5⟩
   .subst e
    obtain ⟨x7,a7,p7⟩:=at_ 7 (by decide)
    obtain ⟨x12,a12,p12⟩:=at_ 12 (by decide)
    refine h_ rfl (by decide) (h_ rfl (by decide) (sI rfl rfl fun Kn hK=>?_))
    walk_at "rd"
    refine dz ?_
    walk_at "rd"
    obtain ⟨m,em,m1,m4⟩ : ∃ m:Nat,9 + x7 % 4 = ((8 + m:Nat):Int)/\1 <= m/\m <= 4:=⟨(1 + x7 % 4).toNat,by omega,by omega,by omega⟩
    refine ⟨_,hl4,_,a7,_,rfl,_,.of hl4,fun p5 g5=>?_⟩
    have ec:mO (xs.map V.int) (some 8) (some (9 + x7 % 4)) = ((xs.drop 8).take m).map V.int:=by
     rw [em,List.map_take,List.map_drop]
     have:=Fy (ys:=xs.map V.int) (a:=8) (b:=8 + m) (by omega) (by rw [ak]; omega)
     rw [show 8 + m - 8 = m by omega] at this
     exact this
    rw [ec]
    have l5:((xs.drop 8).take m).length = m:=by rw [aY,List.length_drop]; omega
    have r5:∀ x ∈ (xs.drop 8).take m,0 <= x:=fun x hx=>(hr' x (List.mem_of_mem_drop (List.mem_of_mem_take hx))).1
    have T1:Same H4 (upd H4 p5 (.lst (((xs.drop 8).take m).map V.int))):=Same.upd g5
    generalize upd H4 p5 (.lst (((xs.drop 8).take m).map V.int)) = H5 at T1 ⊢
    generalize (xs.drop 8).take m = vs at l5 r5 ⊢
    have S5:=S4.trans T1
    obtain ⟨md,ed,hmd⟩ : ∃ md:Int,atI [V.int 3,V.int 3,V.int 3,V.int 1000] (x12 % 4) = some (.int md)/\(md = 3\/md = 1000):=by
     obtain e | e | e | e:x12 % 4 = 0\/x12 % 4 = 1\/x12 % 4 = 2\/x12 % 4 = 3:=by omega
     .exact ⟨3,by rw [e]; exact bR (j:=0) rfl,.inl rfl⟩
     .exact ⟨3,by rw [e]; exact bR (j:=1) rfl,.inl rfl⟩
     .exact ⟨3,by rw [e]; exact bR (j:=2) rfl,.inl rfl⟩
     .exact ⟨1000,by rw [e]; exact bR (j:=3) rfl,.inr rfl⟩
    refine ⟨by rw [ak]; omega,fun D2 hD2=>⟨weJ D2 H5,⟨[],rfl,rfl,by simp,Same.upd hD2,bD⟩,?_,?_⟩⟩
    .rintro k v ys Hc hk ⟨ws,rfl,wl,wb,T5,h5⟩ hy hpc
     rw [aq] at hk
     cases er:vs[k]? with
     | none=>rw [er] at hk; cases hk
     | some i =>
      rw [er] at hk
      cases hk
      have i0:=r5 i (aA er)
      have f0:0 <= i.fmod md/\i.fmod md <= 1000:=by
       rcases hmd with rfl | rfl
       .rw [aV _ (by decide)]; omega
       .rw [aV _ (by decide)]; omega
      refine ⟨by decide,fun p6 g6=>⟨_,(bG (bB (T5 _ _ (T1 _ _ hl4)) g6)).trans (T5 _ _ (T1 _ _ hl4)),_,a12,_,rfl,_,ed,i,rfl,md,rfl,by omega,(bG (bB h5 g6)).trans h5,(bG (bB hpc g6)).trans hpc,ws ++ [i.fmod md],by rw [bh]; rfl,by rw [au,wl]; rfl,fun x hx=>?_,fun b o e=>(bG (bB e hD2)).trans ((bG (bB (T5 _ _ e) g6)).trans (T5 _ _ e)),bD⟩⟩
      rcases List.mem_append.mp hx with hx | hx
      .exact wb x hx
      .rw [List.mem_singleton.mp hx]; exact f0
    .rintro ys Hc ⟨ws,rfl,wl,wb,T5,h5⟩ hy
     rw [ak,l5] at wl
     have lm:m - 1 < ws.length:=by omega
     have el:ws[m - 1]? = some ws[m - 1]:=aj lm
     have bl:=wb _ (aR lm)
     generalize ws[m - 1] = wl0 at el bl
     have ix:ixN (ws.map V.int).length (-1) = some (m - 1):=by rw [ak,wl]; exact Qw m1
     have ea:atI (ws.map V.int) (-1) = some (.int wl0):=by
      unfold atI
      rw [ix]
      show (ws.map V.int)[m - 1]? = _
      rw [aq,el]; rfl
     refine ⟨_,h5,_,ea,wl0,rfl,_,h5,_,ix,?_⟩
     rw [<- List.map_set]
     have l6:(ws.set (m - 1) (wl0 + 1)).length = m:=by rw [List.length_set,wl]
     have b6:∀ x ∈ ws.set (m - 1) (wl0 + 1),0 <= x/\x <= 1001:=fun x hx=>by
      rcases List.mem_or_eq_of_mem_set hx with hx | rfl
      .have:=wb x hx
       omega
      .omega
     have in6:wl0 + 1 ∈ ws.set (m - 1) (wl0 + 1):=List.mem_set lm _
     generalize ws.set (m - 1) (wl0 + 1) = ww at l6 b6 in6 ⊢
     obtain ⟨s1,s2,s3'⟩:=Cd ww b6
     have sp:=s3' _ in6
     have T6:Same H (upd Hc D2 (.lst (ww.map V.int))):=fun b o e=>(bG (bB (S5 _ _ e) hD2)).trans (T5 _ _ (S5 _ _ e))
     have k6:upd Hc D2 (.lst (ww.map V.int)) D2 = some (.lst (ww.map V.int)):=bD
     have r6:upd Hc D2 (.lst (ww.map V.int)) D1 = some (.lst ([ra,rb,rc,rd].map fun r=>V.int (r:Nat))):=(bG (bB (T1 _ _ hr4) hD2)).trans (T5 _ _ (T1 _ _ hr4))
     have hl6:upd Hc D2 (.lst (ww.map V.int)) l = some (.lst (xs.map V.int)):=(bG (bB (T1 _ _ hl4) hD2)).trans (T5 _ _ (T1 _ _ hl4))
     generalize upd Hc D2 (.lst (ww.map V.int)) = H6 at T6 k6 r6 hl6 ⊢
     have lt4:([ra,rb,rc,rd].take m).length = m:=by rw [aY]; simp; omega
     refine j_ ?_
     walk_at "rd"
     refine ⟨_,k6,m,by rw [ak,l6],by omega,fun D3 hD3=>⟨evJ D3 ([ra,rb,rc,rd].take m) ww ww.sum H6,⟨Same.upd hD3,bD,by simp; exact ⟨rfl,fun k r x h1 _=>by simp at h1⟩⟩,?_,?_⟩⟩
     .rintro k ys Hc hk ⟨T7,h7,pi⟩ hy
      have er : [ra,rb,rc,rd][k]? = some ([ra,rb,rc,rd][k]'(by simp; omega)):=aj _
      have et:([ra,rb,rc,rd].take m)[k]? = some ([ra,rb,rc,rd][k]'(by simp; omega)):=by rw [List.getElem?_take,if_pos hk]; exact er
      have ew:ww[k]? = some (ww[k]'(by omega)):=aj _
      generalize [ra,rb,rc,rd][k]'(by simp; omega) = r at er et
      generalize ww[k]'(by omega) = wk at ew
      refine ⟨_,T7 _ _ r6,_,bR (j:=k) (by rw [aq,er]; rfl),_,T7 _ _ k6,_,bR (j:=k) (by rw [aq,ew]; rfl),ww,T7 _ _ k6,wk,rfl,by omega,Bd.sm (by omega),fun c1 g1=>⟨dh,fun t1 g2=>?_⟩⟩
      have T8:Same Hc (upd (upd Hc c1 (.tup [.int (Ac.lw wk ww.sum).1,.int (Ac.lw wk ww.sum).2])) t1 (.tup [.int r,.ref c1])):=(Same.upd g1).trans (Same.upd g2)
      have i1:upd (upd Hc c1 (.tup [.int (Ac.lw wk ww.sum).1,.int (Ac.lw wk ww.sum).2])) t1 (.tup [.int r,.ref c1]) c1 = some (.tup [.int (Ac.lw wk ww.sum).1,.int (Ac.lw wk ww.sum).2]):=(bG (bB bD g2)).trans bD
      have i2:upd (upd Hc c1 (.tup [.int (Ac.lw wk ww.sum).1,.int (Ac.lw wk ww.sum).2])) t1 (.tup [.int r,.ref c1]) t1 = some (.tup [.int r,.ref c1]):=bD
      generalize upd (upd Hc c1 (.tup [.int (Ac.lw wk ww.sum).1,.int (Ac.lw wk ww.sum).2])) t1 (.tup [.int r,.ref c1]) = H8 at T8 i1 i2 ⊢
      have nt:∀ t us,H8 t = some (.tup us)->upd H8 D3 (.lst (ys ++ [.ref t1])) t = some (.tup us):=fun t us e=>(bG (eF e (T8 _ _ h7) (by intro z; cases z))).trans e
      refine ⟨T8 _ _ h7,fun b o e=>(bG (bB e hD3)).trans (T8 _ _ (T7 _ _ e)),bD,?_⟩
      rw [cG et,cG ew]
      refine ((pi.same T8).imp nt).snoc ?_ (nt _ _ i2) (nt _ _ i1)
      rw [aY,aY,l6,lt4]
     .rintro ys Hc ⟨T7,h7,pi⟩ hy
      have pi:PI Hc ys ([ra,rb,rc,rd].take m) ww ww.sum:=by
       have e1:([ra,rb,rc,rd].take m).take m = [ra,rb,rc,rd].take m:=aJ (by rw [lt4]; exact aD _)
       have e2:ww.take m = ww:=aJ (by rw [l6]; exact aD _)
       rw [e1,e2] at pi
       exact pi
      refine hK _ _ (fin _ _ _ _ D3 ([ra,rb,rc,rd].take m) ww ww.sum ys Hc (T6.trans T7) (T7 _ _ hl6) (Same.free T6 hD3) h7 pi ?_)
      exact ⟨by decide,by decide,by rw [lt4,l6],by omega,by omega,by omega,fun x hx=>(b6 x hx).1,rfl,by omega,fun z=>by simp at z,fun z=>by simp at z,fun z=>by simp at z,fun r hr=>rn r (List.mem_of_mem_take hr)⟩
structure DD (n:Nat) (H:Hp) (d:Addr):Prop where
 ex:∃ (p lp:Addr) (so x y S:Int) (rs:List Nat) (ws:List Int) (ps:List V),H d = some (.tup [.int so,.ref p,.ref lp])/\H p = some (.tup [.int x,.int y])/\0 < y/\Int.gcd x y = 1/\H lp = some (.lst ps)/\PI H ps rs ws S/\sY n so rs ws S
theorem DD.same {n:Nat} {H H':Hp} {d:Addr} (h:DD n H d) (S:Same H H'):DD n H' d:=⟨let ⟨p,lp,so,x,y,S',rs,ws,ps,a,b,b1,b2,c,d,e⟩:=h.ex; ⟨p,lp,so,x,y,S',rs,ws,ps,S _ _ a,S _ _ b,b1,b2,S _ _ c,d.same S,e⟩⟩
structure RD (n:Nat) (H:Hp) (xs:List V) (dss:List (List Addr)):Prop where
 len:xs.length = dss.length
 at_:∀ (k:Nat) (ds:List Addr),dss[k]? = some ds->∃ l,xs[k]? = some (.ref l)/\H l = some (.lst (ds.map V.ref))/\∀ d ∈ ds,DD n H d
theorem RD.same {n:Nat} {H H':Hp} {xs:List V} {dss:List (List Addr)} (h:RD n H xs dss) (S:Same H H'):RD n H' xs dss:=⟨h.len,fun k ds e=>let ⟨l,a,b,c⟩:=h.at_ k ds e; ⟨l,a,S _ _ b,fun d hd=>(c d hd).same S⟩⟩
theorem DD.off {n:Nat} {H:Hp} {ls:List Addr} {d p lp:Addr} {so x y S:Int} {rs:List Nat} {ws:List Int} {ps:List V} (hls:∀ l ∈ ls,∃ zs,H l = some (.lst zs)) (nl:lp ∉ ls) (h1:H d = some (.tup [.int so,.ref p,.ref lp])) (h2:H p = some (.tup [.int x,.int y])) (y0:0 < y) (g:Int.gcd x y = 1) (h3:H lp = some (.lst ps)) (h4:PI H ps rs ws S) (h5:sY n so rs ws S):DD n (del ls H) d:=by
 have nt:∀ t us,H t = some (.tup us)->del ls H t = some (.tup us):=fun t us e=>iG (fun z=>by
  obtain ⟨zs,hz⟩:=hls t z
  rw [hz] at e
  cases e) e
 exact ⟨p,lp,so,x,y,S,rs,ws,ps,nt _ _ h1,nt _ _ h2,y0,g,iG nl h3,h4.imp nt,h5⟩
noncomputable def yZ (K:Frag) (a:Addr) (ns:List Int):Sp:=fun vs H Q _=>∃ (c:Int) (n:Nat) (m:Nat),vs = [.ref a,.int c,.int n,.int m]/\SqL K H a (ns.map V.int)/\ns.length <= 63/\0 <= c/\n <= 12/\m <= 100/\∀ (r:Addr) (xs:List V) (dss:List (List Addr)) H',Same H H'->H r = none->H' r = some (.lst xs)->dss.length = n->RD n H' xs dss->(∀ ds ∈ dss,ds.length <= m)->Q (.ref r) H'
structure RL (n m:Nat) (H0 H:Hp) (ls:List Addr) (dss:List (List Addr)):Prop where
 len:ls.length = dss.length
 nd:ls.Nodup
 new:∀ l ∈ ls,H0 l = none
 at_:∀ (k:Nat) (l:Addr) (ds:List Addr),ls[k]? = some l->dss[k]? = some ds->H l = some (.lst (ds.map V.ref))/\ds.length <= m/\∀ d ∈ ds,DD n (del ls H) d
theorem RL.rd {n m:Nat} {H0 H:Hp} {ls:List Addr} {dss:List (List Addr)} (h:RL n m H0 H ls dss):RD n H (ls.map V.ref) dss:=⟨by rw [ak,h.len],fun k ds e=>by
 have lk:k < ls.length:=by rw [h.len]; exact (ao.mp e).1
 have el:ls[k]? = some ls[k]:=aj lk
 obtain ⟨a,_,c⟩:=h.at_ k _ ds el e
 exact ⟨ls[k],by rw [aq,el]; rfl,a,fun d hd=>(c d hd).same zy⟩⟩
theorem RL.lists {n m:Nat} {H0 H:Hp} {ls:List Addr} {dss:List (List Addr)} (h:RL n m H0 H ls dss):∀ l ∈ ls,∃ zs,H l = some (.lst zs):=fun l hl=>by
 obtain ⟨k,hk⟩:=aU hl
 have lk:k < dss.length:=by rw [<- h.len]; exact (ao.mp hk).1
 exact ⟨_,(h.at_ k l _ hk (aj lk)).1⟩
theorem RL.same {n m:Nat} {H0 H H':Hp} {ls:List Addr} {dss:List (List Addr)} (h:RL n m H0 H ls dss) (S:Same H H'):RL n m H0 H' ls dss:=⟨h.len,h.nd,h.new,fun k l ds e1 e2=>let ⟨a,b,c⟩:=h.at_ k l ds e1 e2; ⟨S _ _ a,b,fun d hd=>(c d hd).same (uc fun b o _ e=>S _ _ e)⟩⟩
theorem RL.put {n m:Nat} {H0 H:Hp} {ls:List Addr} {dss:List (List Addr)} {k:Nat} {l d:Addr} {ds:List Addr} (h:RL n m H0 H ls dss) (el:ls[k]? = some l) (ed:dss[k]? = some ds) (hm:ds.length < m) (hd:DD n (del ls H) d):RL n m H0 (upd H l (.lst ((ds ++ [d]).map V.ref))) ls (dss.set k (ds ++ [d])):=by
 have lm:=aA el
 have ee:del ls (upd H l (.lst ((ds ++ [d]).map V.ref))) = del ls H:=by
  funext b
  unfold del
  split
  .rfl
  .rename_i hb
   exact bG fun z=>hb (z ▸ lm)
 refine ⟨by rw [List.length_set,h.len],h.nd,h.new,fun j l' ds' e1 e2=>?_⟩
 rw [ee]
 by_cases e:k = j
 .subst e
  rw [el] at e1
  cases e1
  rw [List.getElem?_set_self (ao.mp ed).1] at e2
  cases e2
  obtain ⟨a,b,c⟩:=h.at_ k l ds el ed
  refine ⟨bD,by rw [au]; simp; omega,fun d' hd'=>?_⟩
  rcases List.mem_append.mp hd' with hd' | hd'
  .exact c d' hd'
  .rw [List.mem_singleton.mp hd']; exact hd
 .rw [List.getElem?_set_ne e] at e2
  obtain ⟨a,b,c⟩:=h.at_ j l' ds' e1 e2
  refine ⟨(bG fun z=>?_).trans a,b,c⟩
  subst z
  have l1:=ao.mp el
  have l2:=ao.mp e1
  have pw:=List.pairwise_iff_getElem.mp h.nd
  rcases Nat.lt_or_gt_of_ne e with lt | lt
  .exact pw k j l1.1 l2.1 lt (l1.2.trans l2.2.symm)
  .exact pw j k l2.1 l1.1 lt (l2.2.trans l1.2.symm)
noncomputable def dJ0 (n m:Nat) (D1:Addr) (H H1:Hp) (k:Nat) (ys:List V) (Hc:Hp):Prop:=∃ ls:List Addr,ys = ls.map V.ref/\RL n m H Hc ls (List.replicate k [])/\Same H1 Hc/\Hc D1 = some (.lst ys)/\D1 ∉ ls
theorem RL.nil {n m:Nat} {H0 H:Hp} : RL n m H0 H [] (List.replicate 0 []):=⟨rfl,List.nodup_nil,by simp,fun k l ds e=>by simp at e⟩
theorem RL.more {n m k:Nat} {H0 H:Hp} {ls:List Addr} {l:Addr} (h:RL n m H0 H ls (List.replicate k [])) (h0:H0 l = none) (hl:H l = none):RL n m H0 (upd H l (.lst [])) (ls ++ [l]) (List.replicate (k + 1) []):=by
 have hk:ls.length = k:=by rw [h.len,aL]
 have nin:l ∉ ls:=fun z=>by
  obtain ⟨zs,hz⟩:=h.lists l z
  rw [hl] at hz
  cases hz
 refine ⟨by rw [au,hk,aL]; rfl,?_,fun l' hl'=>?_,fun j l' ds e1 e2=>?_⟩
 .rw [List.nodup_append]
  refine ⟨h.nd,by simp,fun a ha b hb z=>?_⟩
  rw [List.mem_singleton.mp hb] at z
  exact nin (z ▸ ha)
 .rcases List.mem_append.mp hl' with hl' | hl'
  .exact h.new l' hl'
  .rw [List.mem_singleton.mp hl']; exact h0
 .have lj:=(ao.mp e2).1
  rw [aL] at lj
  rw [List.getElem?_replicate,if_pos lj] at e2
  cases e2
  by_cases hj:j < ls.length
  .rw [aC hj] at e1
   obtain ⟨a,_⟩:=h.at_ j l' [] e1 (by rw [List.getElem?_replicate,if_pos (by omega)])
   exact ⟨(bG (fun z=>by rw [z,hl] at a; cases a)).trans a,aZ _,by simp⟩
  .rw [aB (by omega)] at e1
   have e0:j - ls.length = 0:=by omega
   rw [e0] at e1
   cases e1
   exact ⟨bD,aZ _,by simp⟩
theorem RL.other {n m k:Nat} {H0 H:Hp} {ls:List Addr} {D1:Addr} {o:HO} (h:RL n m H0 H ls (List.replicate k [])) (nd:D1 ∉ ls):RL n m H0 (upd H D1 o) ls (List.replicate k []):=by
 refine ⟨h.len,h.nd,h.new,fun j l ds e1 e2=>?_⟩
 obtain ⟨a,b,_⟩:=h.at_ j l ds e1 e2
 have lj:=(ao.mp e2).1
 rw [aL] at lj
 rw [List.getElem?_replicate,if_pos lj] at e2
 cases e2
 exact ⟨(bG fun z=>by subst z; exact nd (aA e1)).trans a,b,by simp⟩
noncomputable def dJ (a D1:Addr) (c:Int) (n m:Nat) (ls:List Addr) (u5 u6:Option V) (H:Hp) (k:Nat) (σ:L2.St) (H':Hp):Prop:=∃ (u7 u8 u9:Option V) (dss:List (List Addr)),σ = [some (.ref a),some (.int c),some (.int n),some (.int m),some (.ref D1),u5,u6,u7,u8,u9]/\Same H H'/\H' D1 = some (.lst (ls.map V.ref))/\dss.length = n/\RL n m H H' ls dss
theorem Ro (F:Fun K ql ql xg f fd) (T:Txt K mg D) (a:Addr) (ns:List Int) (mZ:OkF P w K mg base 1 q_ rE (uT K a ns)) (cL:OkF P w K mg base 1 eU eY dH) (J_:OkF P w K mg base 4 ug tU wZ):cB P w K mg base CX0 5 f fd pZ (yZ K a ns):=by
 refine F.ok lX (fun vs H Q E h=>?_) (fun cdv A outer s H vs Q E hr h=>?_)
 .obtain ⟨c,n,m,rfl,_⟩:=h
  rfl
 .obtain ⟨c,n,m,rfl,hs,n63,c0,n12,m100,q⟩:=h
  refine ⟨_,(bH (Ih (bK xg) Fo Fo ["_law_k"] (iB (by rfl) T.lE (bA (pv 2) bC).mono) (fW (i:=0)) dB (iD bC) (cD (i:=4) lX.nd rfl (Or.inl rfl)))
   (bH (cF (bZ BK (pv 2) bF (cj _))
    (bH (bV (i:=5) lX.nd rfl (Or.inl rfl) (bL mZ (hr.mono (by decide)) (by rfl) (bA (pv 0) (bA (pv 1) bC))))
    (bH (bV (i:=6) lX.nd rfl (Or.inl rfl) (bL cL (hr.mono (by decide)) (by rfl) (bA (pv 5) (bA (bN g_ (bN cH (bN Js (pv 5) bF) bF) (bN cR (bN fD bF (pv 2)) bF)) bC))))
    (bI (kO PassesOwn.never rfl (dw ((bN Ip (pv 6) (iI oO (pv 0) (fB (bN cR (pv 1) bF)) (fB (bN cR (pv 1) bF))))).mono) (cD (i:=7) lX.nd rfl (Or.inl rfl))
     (bH (qj (bL J_ (hr.mono (by decide)) (by rfl) (bA (pv 7) (bA (pv 2) bC))) (iT (n:=2) rfl (cC (cD (i:=8) lX.nd rfl (Or.inl rfl)) (cC (cD (i:=9) lX.nd rfl (Or.inl rfl)) gQ))))
     (bI (cF (bZ u_ (bO cA (by rfl) T.dR PySem.boot_len (bA (bQ bM (pv 4) (pv 8) (fun _ _=>rfl)) bC)) (pv 3) (cj _))
      (bI (cM (qd (bQ bM (pv 4) (pv 8) (fun _ _=>rfl)) (bA (pv 9) bC))))
      bW)))))))
    bW)
   (bI (bU (pv 4))))),?_⟩
  unfold uT dH wZ
  refine bY fun R1 hR1=>?_
  walk_at "rd"
  refine j_ ?_
  walk_at "rd"
  refine ⟨n,rfl,by omega,fun D1 hD1=>⟨dJ0 n m D1 H H,⟨[],rfl,.nil,Same.upd hD1,bD,by simp⟩,?_,?_⟩⟩
  .rintro k ys Hc hk ⟨ls,rfl,rl,S1,h1,nd⟩ hy
   refine ⟨aZ _,fun l hl=>?_⟩
   have nD:D1 ≠ l:=bB h1 hl
   refine ⟨(bG nD).trans h1,ls ++ [l],by rw [bh]; rfl,(rl.more (Same.free S1 hl) hl).other ?_,fun b o e=>(bG (bB e hD1)).trans ((bG (bB (S1 _ _ e) hl)).trans (S1 _ _ e)),bD,?_⟩
   .simp only [List.mem_append,List.mem_singleton,not_or]
    exact ⟨nd,nD⟩
   .simp only [List.mem_append,List.mem_singleton,not_or]
    exact ⟨nd,nD⟩
  .rintro ys Hc ⟨ls,rfl,rl,S1,h1,nd⟩ hy
   subst hR1
   refine bY fun R2 hR2=>?_
   have fin:∀ (u5 u6 u7 u8 u9:Option V) (dss:List (List Addr)) (H9:Hp),Same H H9->H9 D1 = some (.lst (ls.map V.ref))->dss.length = n->RL n m H H9 ls dss->R2 { nx:=fun _ H'=>Q .non H',rt:=Q } [some (.ref a),some (.int c),some (.int n),some (.int m),some (.ref D1),u5,u6,u7,u8,u9] H9:=by
    intro u5 u6 u7 u8 u9 dss H9 S9 h9 ld r9
    subst hR2
    refine ⟨_,rfl,q D1 _ dss H9 S9 hD1 h9 ld r9.rd fun ds hds=>?_⟩
    obtain ⟨k,hk⟩:=aU hds
    have lk:k < ls.length:=by rw [r9.len]; exact (ao.mp hk).1
    exact (r9.at_ k _ ds (aj lk) hk).2.1
   clear hR2
   walk_at "rd"
   refine VL (fun hn=>?_) fun _=>fin none none none none none (List.replicate n []) Hc S1 h1 aL rl
   have hn:0 < (n:Int):=of_decide_eq_true hn
   have v0:0 <= cell ns c * 48271 % 104729 % (3 * (n:Int) + 1):=Int.emod_nonneg _ (by omega)
   have v1:cell ns c * 48271 % 104729 % (3 * (n:Int) + 1) < 3 * (n:Int) + 1:=Int.emod_lt_of_pos _ (by omega)
   refine ⟨Same.sql S1 hs,n63,c0,.inr (by constructor <;> decide),Bd.sm (by decide),Bd.sm (by omega),by omega,(cell ns c * 48271 % 104729 % (3 * (n:Int) + 1)).toNat,by rw [aV _ (by omega)]; omega,by omega,fun l xs H2 S2 fl hl2 _ _=>i_ ?_⟩
   walk_at "rd"
   refine ⟨_,Same.sql (S1.trans S2) hs,fun p5 g5=>⟨_,(bG (bB hl2 g5)).trans hl2,?_,fun p6 g6=>⟨dJ a D1 c n m ls (some (.int (cell ns c))) (some (.ref l)) H,?_,?_,?_⟩⟩⟩
   .have z9:1000 < sizeLine:=by decide
    have:(mO (ns.map V.int) (some (c + 1)) (some (c + 25))).length <= (ns.map V.int).length:=by
     unfold mO
     rw [aY,List.length_drop]
     omega
    rw [ak] at this ⊢
    omega
   .have T5:Same Hc (upd (upd H2 p5 (.lst (mO (ns.map V.int) (some (c + 1)) (some (c + 25))))) p6 (.lst (xs.map V.int ++ mO (ns.map V.int) (some (c + 1)) (some (c + 25))))):=S2.trans ((Same.upd g5).trans (Same.upd g6))
    exact ⟨none,none,none,List.replicate n [],rfl,S1.trans T5,T5 _ _ h1,aL,rl.same T5⟩
   .rintro k v σ' H' hk ⟨u7,u8,u9,dss,rfl,S9,h9,ld,r9⟩ hp6
    obtain ⟨i,rfl⟩ : ∃ i,v = V.int i:=by
     rcases List.mem_append.mp (aA hk) with z | z
     .obtain ⟨i,_,rfl⟩:=List.mem_map.mp z
      exact ⟨i,rfl⟩
     .obtain ⟨i,_,rfl⟩:=List.mem_map.mp (List.mem_of_mem_drop (List.mem_of_mem_take z))
      exact ⟨i,rfl⟩
    refine ⟨_,rfl,_,rfl,⟨_,rfl⟩,n,rfl,by omega,n12,fun r d p lp room so x y S rs ws ps H3 S3 fr fd hr hroom hd hp y0 g hlp flp hpi hdr=>?_⟩
    have kd:dss[room]? = some (dss[room]'(by omega)):=aj _
    have kl:ls[room]? = some (ls[room]'(by rw [r9.len]; omega)):=aj _
    generalize dss[room]'(by omega) = ds at kd
    generalize ls[room]'(by rw [r9.len]; omega) = lr at kl
    have r3:=r9.same S3
    have al:=r3.at_ room lr ds kl kd
    refine ⟨_,hr,rfl,_,_,rfl,_,_,rfl,rfl,_,rfl,_,rfl,D1,rfl,_,_,rfl,S3 _ _ h9,_,bR (j:=room) (by rw [aq,kl]; rfl),lr,rfl,_,al.1,_,rfl,m,rfl,?_⟩
    rw [ak]
    by_cases hm:ds.length < m
    .rw [if_pos (decide_eq_true (by omega))]
     have lin:=aA kl
     have nD:D1 ≠ lr:=fun z=>nd (by rw [z]; exact lin)
     have n6:lr ≠ p6:=by
      obtain ⟨zs,hz⟩:=rl.lists lr lin
      exact bB (Same.upd g5 _ _ (S2 _ _ hz)) g6
     have nl:lp ∉ ls:=fun z=>by
      obtain ⟨zs,hz⟩:=r9.lists lp z
      rw [hz] at flp
      cases flp
     have dd:=DD.off r3.lists nl hd hp y0 g hlp hpi hdr
     have r4:=r3.put kl kd hm dd
     rw [bh] at r4
     have z9:1000 < sizeLine:=by decide
     refine ⟨_,rfl,_,rfl,D1,rfl,_,_,rfl,S3 _ _ h9,_,bR (j:=room) (by rw [aq,kl]; rfl),lr,rfl,⟨_,al.1⟩,_,rfl,_,al.1,by rw [ak]; omega,(bG n6.symm).trans (S3 _ _ hp6),_,_,_,dss.set room (ds ++ [d]),rfl,fun b o e=>(bG (fun z=>?_)).trans (S3 _ _ (S9 _ _ e)),(bG nD).trans (S3 _ _ h9),by rw [List.length_set]; exact ld,r4⟩
     rw [z,r9.new lr lin] at e
     cases e
    .rw [if_neg (by simp; omega)]
     exact ⟨S3 _ _ hp6,_,_,_,dss,rfl,S9.trans S3,S3 _ _ h9,ld,r3⟩
   .rintro σ' H' ⟨u7,u8,u9,dss,rfl,S9,h9,ld,r9⟩ _
    exact fin _ _ _ _ _ dss H' S9 h9 ld r9
theorem WF.keys {H:Hp} : ∀ {xs:List V} {gs:List (Str × Int × Int)} {ws:List (Str × Addr)},WF K H xs gs ws->ws.map (·.1) = gs.map (·.1)
 | _,_,_,.nil=>rfl
 | _,_,_,.cons _ _ r=>by rw [List.map_cons,List.map_cons,r.keys]
theorem QX {ns:List Str} {rs:List Nat} (h:∀ r ∈ rs,r < ns.length):∃ nms,xG ns rs nms:=by
 refine ⟨rs.map fun r=>(ns[r]?).getD Str.empty,ak ..,fun k r m e1 e2=>?_⟩
 rw [aq,e1,Option.map_some,aj (h r (aA e1))] at e2
 cases e2
 exact aj _
structure wJ (K:Frag) (n:Nat) (ns:List Str) (H H':Hp) (d:Addr) (g:Dr):Prop where
 ex:∃ (p lp:Addr) (so x y S:Int) (rs:List Nat) (ws:List Int) (ps xs:List V) (nms:List Str),H d = some (.tup [.int so,.ref p,.ref lp])/\H p = some (.tup [.int x,.int y])/\0 < y/\Int.gcd x y = 1/\H lp = some (.lst ps)/\PI H ps rs ws S/\sY n so rs ws S/\xG ns rs nms/\g.p = p/\WF K H' xs (Ac.ways (nms.zip ws) S) g.ws
theorem wJ.on {n:Nat} {ns:List Str} {H H' H2:Hp} {d:Addr} {g:Dr} (S:Same H' H2) (h:wJ K n ns H H' d g):wJ K n ns H H2 d g:=let ⟨p,lp,so,x,y,S',rs,ws,ps,xs,nms,a1,a2,a3,a4,a5,a6,a7,a8,a9,b⟩:=h.ex; ⟨p,lp,so,x,y,S',rs,ws,ps,xs,nms,a1,a2,a3,a4,a5,a6,a7,a8,a9,b.same S⟩
theorem wJ.up {n:Nat} {ns:List Str} {H H' H2:Hp} {d:Addr} {g:Dr} (S:Same H H2) (h:wJ K n ns H H' d g):wJ K n ns H2 H' d g:=let ⟨p,lp,so,x,y,S',rs,ws,ps,xs,nms,a1,a2,a3,a4,a5,a6,a7,a8,a9,b⟩:=h.ex; ⟨p,lp,so,x,y,S',rs,ws,ps,xs,nms,S _ _ a1,S _ _ a2,a3,a4,S _ _ a5,a6.same S,a7,a8,a9,b⟩
theorem wJ.few {n:Nat} {ns:List Str} {H H':Hp} {d:Addr} {g:Dr} (h:wJ K n ns H H' d g):g.ws.length <= 8/\∀ z ∈ g.ws,z.1 ∈ ns:=by
 obtain ⟨p,lp,so,x,y,S',rs,ws,ps,xs,nms,a1,a2,a3,a4,a5,a6,a7,a8,a9,b⟩:=h.ex
 have lo:∀ z ∈ nms.zip ws,0 <= z.2:=fun z hz=>a7.lo _ (List.of_mem_zip (a:=z.1) (b:=z.2) hz).2
 have k:=b.keys
 constructor
 .have e1:=congrArg List.length k
  rw [ak,ak] at e1
  have e2:=Ac.RM lo S'
  have e3:(nms.zip ws).length <= nms.length:=by rw [List.length_zip]; omega
  have:=a8.1
  have:=a7.l8
  omega
 .intro z hz
  have hz:=List.mem_map_of_mem (f:=(·.1)) hz
  rw [k] at hz
  obtain ⟨v,hv,e⟩:=List.mem_map.mp hz
  have hv:=Ac.QJ hv
  obtain ⟨u,hu,e'⟩:=List.mem_map.mp hv
  have hu:=(List.of_mem_zip (a:=u.1) (b:=u.2) hu).1
  rw [<- e,<- e']
  obtain ⟨j,hj⟩:=aU hu
  have lj:j < rs.length:=by rw [<- a8.1]; exact (ao.mp hj).1
  exact aA (a8.2 j _ _ (aj lj) hj)
structure rT (K:Frag) (n:Nat) (ns:List Str) (H H':Hp) (ds:List Addr) (gs:List Dr):Prop where
 len:gs.length = ds.length
 at_:∀ (j:Nat) (d:Addr) (g:Dr),ds[j]? = some d->gs[j]? = some g->wJ K n ns H H' d g
theorem rT.on {n:Nat} {ns:List Str} {H H' H2:Hp} {ds:List Addr} {gs:List Dr} (S:Same H' H2) (h:rT K n ns H H' ds gs):rT K n ns H H2 ds gs:=⟨h.len,fun j d g e1 e2=>(h.at_ j d g e1 e2).on S⟩
theorem rT.up {n:Nat} {ns:List Str} {H H' H2:Hp} {ds:List Addr} {gs:List Dr} (S:Same H H2) (h:rT K n ns H H' ds gs):rT K n ns H2 H' ds gs:=⟨h.len,fun j d g e1 e2=>(h.at_ j d g e1 e2).up S⟩
theorem rT.mem {n:Nat} {ns:List Str} {H H':Hp} {ds:List Addr} {gs:List Dr} (h:rT K n ns H H' ds gs) {g:Dr} (hg:g ∈ gs):∃ d,wJ K n ns H H' d g:=by
 obtain ⟨j,hj⟩:=aU hg
 have lj:j < ds.length:=by rw [<- h.len]; exact (ao.mp hj).1
 exact ⟨_,h.at_ j _ g (aj lj) hj⟩
theorem uw {α:Type} {l:List α} {a b:α} {k:Nat} (h:(l ++ [a])[k]? = some b):(k < l.length/\l[k]? = some b)\/(k = l.length/\b = a):=by
 by_cases hk:k < l.length
 .rw [aC hk] at h
  exact .inl ⟨hk,h⟩
 .have hl:=(ao.mp h).1
  rw [au,List.length_cons,List.length_nil] at hl
  have e:k = l.length:=by omega
  subst e
  rw [aB (aD _),Nat.sub_self] at h
  cases h
  exact .inr ⟨rfl,rfl⟩
theorem rT.snoc {n:Nat} {ns:List Str} {H H':Hp} {ds:List Addr} {gs:List Dr} {d:Addr} {g:Dr} (h:rT K n ns H H' ds gs) (hd:wJ K n ns H H' d g):rT K n ns H H' (ds ++ [d]) (gs ++ [g]):=by
 have l:=h.len
 refine ⟨by rw [au,au,l]; rfl,fun j d' g' e1 e2=>?_⟩
 rcases uw e1 with ⟨a,b⟩ | ⟨a,b⟩ <;> rcases uw e2 with ⟨c,e⟩ | ⟨c,e⟩
 .exact h.at_ j d' g' b e
 .omega
 .omega
 .subst b; subst e; exact hd
theorem rG.snoc {H:Hp} {xs:List V} {gs:List Dr} {s:Addr} {g:Dr} (h:rG D H xs gs) (hs:Q6 D H s g):rG D H (xs ++ [.ref s]) (gs ++ [g]):=by
 have l:=h.len
 refine ⟨by rw [au,au,l]; rfl,fun k g' e=>?_⟩
 rcases uw e with ⟨a,b⟩ | ⟨a,b⟩
 .obtain ⟨s',c,d⟩:=h.at_ k g' b
  exact ⟨s',by rw [aC (by omega)]; exact c,d⟩
 .subst b
  exact ⟨s,by rw [aB (by omega),l,a,Nat.sub_self]; rfl,hs⟩
theorem jN.snoc {H:Hp} {xs ys:List V} {rms:List (Str × List Dr)} {t l:Addr} {g:Str × List Dr} (h:jN D H xs rms) (ht:H t = some (.tup [.str g.1,.ref l])) (hl:H l = some (.lst ys)) (hd:rG D H ys g.2):jN D H (xs ++ [.ref t]) (rms ++ [g]):=by
 have le:=h.len
 refine ⟨by rw [au,au,le]; rfl,fun k g' e=>?_⟩
 rcases uw e with ⟨a,b⟩ | ⟨a,b⟩
 .obtain ⟨t',l',ys',c,d⟩:=h.at_ k g' b
  exact ⟨t',l',ys',by rw [aC (by omega)]; exact c,d⟩
 .subst b
  exact ⟨t,l,ys,by rw [aB (by omega),le,a,Nat.sub_self]; rfl,ht,hl,hd⟩
structure n8 (K:Frag) (n:Nat) (H:Hp) (dss:List (List Addr)) (rms:List (Str × List Dr)):Prop where
 len:rms.length = dss.length
 at_:∀ (j:Nat) (ds:List Addr) (g:Str × List Dr),dss[j]? = some ds->rms[j]? = some g->rT K n (rms.map (·.1)) H H ds g.2
theorem XS {so:Int} (s0:0 <= so) (s3:so <= 3):dF D (clsOf D so):=by
 unfold dF
 obtain rfl | rfl | rfl | rfl:so = 0\/so = 1\/so = 2\/so = 3:=by omega
 all_goals simp [clsOf]
theorem xK {as:List Addr} {H:Hp} {a:Addr} {u:HO} (h:a ∈ as):del as (upd H a u) = del as H:=by
 funext b
 unfold del
 split
 .rfl
 .rename_i hb
  exact bG fun z=>hb (z ▸ h)
theorem uh {as:List Addr} {H:Hp} (hls:∀ l ∈ as,∃ zs,H l = some (.lst zs)) {b:Addr} {u:HO} (nu:∀ zs,u ≠ .lst zs) (e:H b = some u):del as H b = some u:=iG (fun z=>by
 obtain ⟨zs,hz⟩:=hls b z
 rw [hz] at e
 injection e with e
 exact nu zs e.symm) e
theorem WF.off {as:List Addr} {H:Hp} (hls:∀ l ∈ as,∃ zs,H l = some (.lst zs)) {xs:List V} {gs:List (Str × Int × Int)} {ws:List (Str × Addr)} (h:WF K H xs gs ws):WF K (del as H) xs gs ws:=by
 refine h.imp (fun t ys e=>uh hls (by intro z y; cases y) e) fun c xs e=>?_
 rcases e with (e | ⟨o,e⟩) | e
 .exact .inl (.inl (uh hls (by intro z y; cases y) e))
 .exact .inl (.inr ⟨o,uh hls (by intro z y; cases y) e⟩)
 .exact .inr e
noncomputable def CG (K:Frag) (D:Adr):Sp:=fun vs H Q _=>∃ (c x y:Int) (p r:Addr) (xs:List V) (dss:List (List Addr)) (n m:Nat),vs = [.int c,.ref p,.ref r]/\H p = some (.tup [.int x,.int y])/\0 <= x/\x < y/\y <= 100/\Int.gcd x y = 1/\H r = some (.lst xs)/\RD n H xs dss/\dss.length = n/\n <= 12/\m <= 12/\(∀ ds ∈ dss,ds.length <= m) /\
 ∀ (o:Addr) (H':Hp) (rms:List (Str × List Dr)),Same H H'->H o = none->kZ D H' o p rms->Kp rms->n8 K n H' dss rms->Q (.ref o) H'
noncomputable def hlJ (K:Frag) (D:Adr) (σ0:List (Option V)) (D1:Addr) (n:Nat) (ns:List Str) (dss:List (List Addr)) (H H1:Hp) (k:Nat) (σ:L2.St) (H':Hp):Prop:=∃ (u5 u6:Option V) (zs:List V) (rms:List (Str × List Dr)),σ = σ0 ++ [u5,u6]/\Same H1 H'/\H' D1 = some (.lst zs)/\jN D (del [D1] H') zs rms/\rms.map (·.1) = ns.take k/\(∀ g ∈ rms,(g.2.map (·.nm)).Nodup)/\∀ (j:Nat) (ds:List Addr) (g:Str × List Dr),dss[j]? = some ds->rms[j]? = some g->rT K n ns H (del [D1] H') ds g.2
noncomputable def dlJ (K:Frag) (D:Adr) (D1 D2:Addr) (n:Nat) (ns ts:List Str) (ds:List Addr) (H H1:Hp) (k:Nat) (zs:List V) (H':Hp):Prop:=∃ gs:List Dr,Same H1 H'/\H' D2 = some (.lst zs)/\rG D (del [D1,D2] H') zs gs/\gs.map (·.nm) = ts.take k/\rT K n ns H (del [D1,D2] H') (ds.take k) gs
theorem Um (F:Fun K tD tD Ds f fd) (T:Txt K mg D) (xu:OkF P w K mg base 2 qF qT vd) (Fx:OkF P w K mg base 8 pU qM (uy K D)) (Eh:OkI P w K mg base (CXO P w) 4 D.Hall_init jl (lM K D)):cB P w K mg base CX0 9 f fd tQ (CG K D):=by
 refine F.ok tH (fun vs H Q E h=>?_) (fun cdv A outer s H vs Q E hr h=>?_)
 .obtain ⟨c,x,y,p,r,xs,dss,n,m,rfl,_⟩:=h
  rfl
 .obtain ⟨c,x,y,p,r,xs,dss,n,m,rfl,hp,x0,xy,y1,gx,hrm,rd,ln,n12,m12,hm,q⟩:=h
  refine ⟨_,(bH (bV (i:=3) tH.nd rfl (Or.inr rfl) (bL xu (hr.mono (by decide)) (by rfl) (bA (pv 0) (bA (bO cA (by rfl) T.dR PySem.boot_len (bA (pv 2) bC)) bC))))
   (bH (bV (i:=4) tH.nd rfl (Or.inl rfl) (iD bC))
   (bH (kO PassesOwn.never rfl (iB (by rfl) T.lE (bA (bO cA (by rfl) T.dR PySem.boot_len (bA (pv 2) bC)) bC).mono) (cD (i:=5) tH.nd rfl (Or.inl rfl))
    (bH (bV (i:=6) tH.nd rfl (Or.inl rfl) (bL xu (hr.mono (by decide)) (by rfl) (bA (bN cR (pv 0) (pv 5)) (bA (bO cA (by rfl) T.dR PySem.boot_len (bA (bQ bM (pv 2) (pv 5) (fun _ _=>rfl)) bC)) bC))))
    (bI (cM (qd (pv 4) (bA (cU (bA (bQ bM (pv 3) (pv 5) (fun _ _=>rfl)) (bA (mJ (bK Ds) Kd Kd ["_law_title", "_law_door_here"] (Yq (by rfl) T.abU (bA (pv 6) (bA (bQ bM (pv 2) (pv 5) (fun _ _=>rfl)) bC)).mono) (iT (n:=2) rfl (cC (fW (i:=0)) (cC (fW (i:=1)) gQ))) dB (bL Fx (hr.mono (by decide)) (by rfl) (bA (pv 0) (bA (pv 1) (bA (pv 5) bC))))) bC))) bC))))))
   (bI (bU (qy T.V1 Eh (hr.mono (by decide)) (by rfl) T.Xo vg (bA (pv 1) (bA (pv 4) bC)))))))),?_⟩
  unfold vd uy lM
  walk_at "rd"
  have lx:xs.length = n:=by rw [rd.len,ln]
  refine ⟨_,hrm,n,by rw [lx],n12,fun l0 ns H1 S1 f0 hl0 lns wns nns=>⟨aZ _,fun D1 hD1=>qU ?_⟩⟩
  walk_at "rd"
  have z9:100 < sizeLine:=by decide
  refine ⟨_,(bG (bB (S1 _ _ hrm) hD1)).trans (S1 _ _ hrm),n,by rw [lx],by omega,hlJ K D [some (.int c),some (.ref p),some (.ref r),some (.ref l0),some (.ref D1)] D1 n ns dss H H1,⟨none,none,[],[],rfl,Same.upd hD1,bD,⟨rfl,fun k g e=>by simp at e⟩,rfl,by simp,fun j ds g _ e=>by simp at e⟩,?_,?_⟩
  .rintro k σ' H' hk ⟨u5,u6,zs,rms,rfl,S2,hD,hR,hn,hd,hi⟩
   have ed:dss[k]? = some (dss[k]'(by omega)):=aj _
   have em:=aR (l:=dss) (n:=k) (by omega)
   have en:ns[k]? = some (ns[k]'(by omega)):=aj _
   generalize dss[k]'(by omega) = ds at ed em
   generalize ns[k]'(by omega) = nk at en
   have dm:=hm ds em
   obtain ⟨lk,ek,hlk,dd⟩:=rd.at_ k ds ed
   have SH:=S1.trans S2
   walk_at "rd"
   refine ⟨_,SH _ _ hrm,_,bR ek,lk,rfl,_,SH _ _ hlk,ds.length,by rw [ak],by omega,fun l1 ts H3 S3 f3 hl3 lts wts nts=>⟨⟨_,S3 _ _ hD⟩,_,S3 _ _ (S2 _ _ hl0),_,bR (by rw [aq,en]; rfl),Ja ?_⟩⟩
   have SH3:=SH.trans S3
   have S13:=S2.trans S3
   walk_at "rd"
   refine ⟨_,SH3 _ _ hrm,_,bR ek,lk,rfl,_,hl3,_,SH3 _ _ hlk,by rw [ak,ak,lts],by rw [ak]; omega,fun D2 hD2=>⟨dlJ K D D1 D2 n ns ts ds H H3,⟨[],Same.upd hD2,bD,⟨rfl,fun k g e=>by simp at e⟩,rfl,⟨rfl,fun j d g _ e=>by simp at e⟩⟩,?_,?_⟩⟩
   .rintro j xv yv zs2 Hc t hx hy ⟨gs,S5,h5,dr,gn,ri⟩ hz ht ha hb pre hpre
    obtain ⟨u1,u2,rfl⟩:=yP hpre
    rw [aq] at hx hy
    have lj:j < ds.length:=by
     by_cases z:j < ds.length
     .exact z
     .rw [List.getElem?_eq_none (by omega)] at hy
      cases hy
    have e1:ts[j]? = some (ts[j]'(by omega)):=aj _
    have e2:ds[j]? = some ds[j]:=aj _
    rw [e1] at hx
    rw [e2] at hy
    cases hx
    cases hy
    generalize ts[j]'(by omega) = tj at e1 ⊢
    generalize ds[j] = d at e2 ⊢
    obtain ⟨p1,lp,so,x1,y2,S',rs,ws,ps,a1,a2,a3,a4,a5,a6,a7⟩:=(dd d (aA e2)).ex
    obtain ⟨nms,no⟩:=QX (ns:=ns) (rs:=rs) fun r hr=>by rw [lns]; exact a7.lt r hr
    have SHc:Same H Hc:=SH3.trans S5
    have SU:=SHc.trans (Same.upd ht (o:=.tup [.str tj,.ref d]))
    have hl0c:=Same.upd ht (o:=.tup [.str tj,.ref d]) _ _ (S5 _ _ (S13 _ _ hl0))
    walk_at "rd"
    refine ⟨[_,_],rfl,rfl,so,lp,p1,SU _ _ a1,wts _ (aA e1),⟨x1,y2,.inl (.inl (SU _ _ a2)),a3,a4⟩,S',rs,ws,ps,SU _ _ a5,a6.same SU,ns,hl0c,nms,no,a7.drawn no wns,fun H4 s ld ys us S6 fs fld d1=>?_⟩
    have S7:Same Hc H4:=(Same.upd ht).trans S6
    have hD4:H4 D1 = some (.lst zs):=S7 _ _ (S5 _ _ (S3 _ _ hD))
    have h54:=S7 _ _ h5
    have hls:∀ l ∈ [D1,D2],∃ zs,H4 l = some (.lst zs):=fun l hl=>by
     simp only [List.mem_cons,List.not_mem_nil,or_false] at hl
     rcases hl with rfl | rfl
     .exact ⟨_,hD4⟩
     .exact ⟨_,h54⟩
    have nw:∀ b,upd Hc t (.tup [.str tj,.ref d]) b = none->b ∉ [D1,D2]:=fun b hb z=>by
     simp only [List.mem_cons,List.not_mem_nil,or_false] at z
     rcases z with rfl | rfl
     .rw [Same.upd ht _ _ (S5 _ _ (S3 _ _ hD))] at hb
      cases hb
     .rw [Same.upd ht _ _ h5] at hb
      cases hb
    obtain ⟨dx,hs⟩:=d1.at_
    have wo:=d1.wf.off hls
    have st:Same (del [D1,D2] Hc) (del [D1,D2] H4):=uc fun b o _ e=>S7 _ _ e
    have di:wJ K n ns H (del [D1,D2] H4) d ⟨tj,p1,us⟩:=⟨p1,lp,so,x1,y2,S',rs,ws,ps,ys,nms,a1,a2,a3,a4,a5,a6,a7,no,rfl,wo⟩
    refine ⟨h54,S7 _ _ ha,S7 _ _ hb,gs ++ [⟨tj,p1,us⟩],fun b u e=>(bG (bB e hD2)).trans (S7 _ _ (S5 _ _ e)),bD,?_,?_,?_⟩
    .rw [xK (by simp)]
     exact (dr.same st).snoc ⟨clsOf D so,dx,ld,ys,XS a7.s0 a7.s3,iG (nw _ fs) hs,iG (nw _ fld) d1.hl,wo.ways,aK di.few.1 (by decide)⟩
    .rw [bh,gn,cG e1]; rfl
    .rw [xK (by simp),cG e2]
     exact (ri.on st).snoc di
   .rintro zs2 Hc ⟨gs,S5,h5,dr,gn,ri⟩ hz
    rw [ak,aJ (aD _)] at gn
    rw [ak,aJ (by omega)] at ri
    have rk:rms.length = k:=by
     have:=congrArg List.length hn
     rw [ak,aY] at this
     omega
    have zl:=hR.len
    have hDc:Hc D1 = some (.lst zs):=S5 _ _ (S3 _ _ hD)
    have n12':D1 ≠ D2:=bB (S3 _ _ hD) hD2
    refine ⟨dh,fun t2 g2=>?_⟩
    have n1:D1 ≠ t2:=bB hDc g2
    have st:Same (del [D1] H') (del [D1] (upd Hc t2 (.tup [.str nk,.ref D2]))):=uc fun b o _ e=>Same.upd g2 _ _ (S5 _ _ (S3 _ _ e))
    have s2:Same (del [D1,D2] Hc) (del [D1] (upd Hc t2 (.tup [.str nk,.ref D2]))):=fun b o e=>by
     obtain ⟨a,e⟩:=m9 e
     exact iG (by simp at a ⊢; exact a.1) (Same.upd g2 _ _ e)
    refine ⟨zs,(bG n1).trans hDc,by omega,some (.int k),some (.ref l1),zs ++ [.ref t2],rms ++ [(nk,gs)],rfl,fun b u e=>(bG (bB e hD1)).trans (Same.upd g2 _ _ (S5 _ _ (S13 _ _ e))),bD,?_,?_,?_,?_⟩
    .rw [xK (by simp)]
     exact (hR.same st).snoc (iG (by simp; exact n1.symm) bD) (iG (by simp; exact n12'.symm) ((bG (bB h5 g2)).trans h5)) (dr.same s2)
    .rw [bh,hn,cG en]; rfl
    .intro g hg
     rcases List.mem_append.mp hg with hg | hg
     .exact hd g hg
     .rw [List.mem_singleton.mp hg,gn]; exact nts
    .intro j ds' g h1 h2
     rw [xK (by simp)]
     rcases uw h2 with ⟨_,b⟩ | ⟨a,rfl⟩
     .exact (hi j ds' g h1 b).on st
     .rw [a,rk,ed] at h1
      cases h1
      exact ri.on s2
  .rintro σ' H' ⟨u5,u6,zs,rms,rfl,S2,hD,hR,hn,hd,hi⟩
   walk_at "rd"
   intro o dx g1 g2 g3
   have SM:Same H' (upd (upd H' dx (.own o)) o (.ins D.Hall dx [])):=fun b u e=>by rw [bG (bB e g1),bG (bB e g2)]; exact e
   have SH:=S1.trans S2
   rw [aJ (by omega)] at hn
   have rl:rms.length = n:=by rw [<- lns,<- hn,ak]
   have ri:∀ g ∈ rms,∃ ds ∈ dss,rT K n ns H (del [D1] H') ds g.2:=fun g hg=>by
    obtain ⟨j,hj⟩:=aU hg
    have lj:j < dss.length:=by have:=(ao.mp hj).1; omega
    exact ⟨_,aR lj,hi j _ g (aj lj) hj⟩
   have ok:Kp rms:=by
    refine ⟨by omega,by rw [hn]; exact nns,fun g hg=>wns _ (by rw [<- hn]; exact List.mem_map_of_mem hg),fun g hg=>?_,hd,fun g hg d hd' z hz=>?_⟩
    .obtain ⟨ds,h1,h2⟩:=ri g hg
     have:=hm ds h1
     have:=h2.len
     omega
    .obtain ⟨ds,h1,h2⟩:=ri g hg
     obtain ⟨_,h3⟩:=h2.mem hd'
     rw [hn]
     exact h3.few.2 z hz
   refine ⟨⟨dx,rfl⟩,x,y,⟨.inl (.inl (SM _ _ (SH _ _ hp))),by omega,gx⟩,x0,xy,Bd.sm (by omega),Bd.sm (by omega),zs,SM _ _ hD,rms,(hR.same zy).same SM,ok,fun H5 kp hh=>?_⟩
   have SS:Same H' H5:=fun b u e=>kp b u (bB e g1) (SM b u e)
   refine q o H5 rms (SH.trans SS) (Same.free SH g1) hh ok ⟨by rw [rl,ln],fun j ds g h1 h2=>?_⟩
   rw [hn]
   exact ((hi j ds g h1 h2).on (zy.trans SS)).up (SH.trans SS)
noncomputable def Pu (dss:List (List Addr)) (ps:List (Option Nat)):Prop:=ps.length = dss.length/\∀ (k:Nat) ds o,dss[k]? = some ds->ps[k]? = some o->mK (stV o) ds.length = true
noncomputable def vZ:Sp:=fun vs H Q _=>∃ (c:Int) (r:Addr) (xs:List V) (n:Nat) (dss:List (List Addr)),vs = [.int c,.ref r]/\H r = some (.lst xs)/\RD n H xs dss/\dss.length <= 12/\(∀ ds ∈ dss,ds.length <= 100)/\∀ l ps H',Same H H'->H l = none->H' l = some (.lst (ps.map stV))->Pu dss ps->Q (.ref l) H'
theorem Q7 {k m:Nat} (h:k < m):mK (stV (some k)) m = true:=by
 unfold mK
 rw [if_neg (by omega)]
 show (decide ((0:Int) <= (k:Nat)) && decide (((k:Nat):Int) < m)) = true
 rw [decide_eq_true (by omega),decide_eq_true (by omega)]; rfl
theorem Ni (F:Fun K nY nY zM f fd) (T:Txt K mg D) (cL:OkF P w K mg base 1 eU eY dH):cB P w K mg base CX0 2 f fd nR vZ:=by
 refine F.ok rD (fun vs H Q E h=>?_) (fun cdv A outer s H vs Q E hr h=>?_)
 .obtain ⟨c,r,xs,n,dss,rfl,_⟩:=h
  rfl
 .obtain ⟨c,r,xs,n,dss,rfl,hr',rd,n12,dm,q⟩:=h
  have xl:=rd.len
  have z9:100 < sizeLine:=by decide
  refine ⟨_,(bH (bV (i:=2) rD.nd rfl (Or.inl rfl) (bL cL (hr.mono (by decide)) (by rfl) (bA (pv 0) (bA (bO cA (by rfl) T.dR PySem.boot_len (bA (pv 1) bC)) bC))))
   (bH (bV (i:=3) rD.nd rfl (Or.inl rfl) (fH bC))
   (bH (kO PassesOwn.never rfl (iB (by rfl) T.lE (bA (bO cA (by rfl) T.dR PySem.boot_len (bA (pv 1) bC)) bC).mono) (cD (i:=4) rD.nd rfl (Or.inl rfl))
    (bI (cF (bZ kj (bO cA (by rfl) T.dR PySem.boot_len (bA (bQ bM (pv 1) (pv 4) (fun _ _=>rfl)) bC)) bF (cj _))
     (bI (cM (qd (pv 3) (bA iY bC))))
     (bI (cM (qd (pv 3) (bA (bN g_ (bQ bM (pv 2) (pv 4) (fun _ _=>rfl)) (bO cA (by rfl) T.dR PySem.boot_len (bA (bQ bM (pv 1) (pv 4) (fun _ _=>rfl)) bC))) bC)))))))
   (bI (bU (pv 3)))))),?_⟩
  refine bY fun R1 hR1=>?_
  refine d8 ⟨_,rfl,_,rfl,r,xs,rfl,hr',c,dss.length,by rw [xl],by omega,fun l ys H1 S1 fl hl ln hx=>?_⟩
  subst hR1
  refine bY fun R1 hR1=>?_
  refine d8 ⟨aZ _,fun D1 H2 S2 f2 h2=>?_⟩
  subst hR1
  refine bY fun R1 hR1=>?_
  have S12:=S1.trans S2
  have g1:=Same.free S1 f2
  dsimp only [dI,L2.start]
  refine dW (qU ⟨_,rfl,r,xs,rfl,S12 _ _ hr',dss.length,by rw [xl],by omega,fun k σ H'=>∃ u ps,σ = [some (.int c),some (.ref r),some (.ref l),some (.ref D1),u]/\Same H H'/\H' l = some (.lst (ys.map V.int))/\H' D1 = some (.lst (ps.map stV))/\Pu (dss.take k) ps,⟨none,[],rfl,S12,S2 _ _ hl,h2,rfl,fun k ds o e=>by cases e⟩,?_,?_⟩)
  .rintro k σ' H' hk ⟨u,ps,rfl,S3,hl3,h3,pf⟩
   have ek:dss[k]? = some dss[k]:=aj hk
   obtain ⟨ld,ex,hld,dd⟩:=rd.at_ k _ ek
   have dk:=dm _ (aR hk)
   have plen:ps.length = k:=by rw [pf.1,aY]; omega
   have hld3:=S3 _ _ hld
   have fin:∀ (o:Option Nat) (H4:Hp),Same H' H4->mK (stV o) dss[k].length = true->∃ u' ps',[some (V.int c),some (V.ref r),some (V.ref l),some (V.ref D1),some (V.int (k:Nat))] = [some (.int c),some (.ref r),some (.ref l),some (.ref D1),u']/\Same H (upd H4 D1 (.lst (ps.map stV ++ [stV o])))/\upd H4 D1 (.lst (ps.map stV ++ [stV o])) l = some (.lst (ys.map V.int))/\upd H4 D1 (.lst (ps.map stV ++ [stV o])) D1 = some (.lst (ps'.map stV))/\Pu (dss.take (k + 1)) ps':=fun o H4 S4 ft=>by
    have nl:l ≠ D1:=bB hl f2
    refine ⟨_,ps ++ [o],rfl,fun b u e=>(bG (bB e g1)).trans (S4 _ _ (S3 _ _ e)),(bG nl).trans (S4 _ _ hl3),by rw [bD,bh]; rfl,?_,fun j ds o' e1 e2=>?_⟩
    .rw [au,plen,aY]
     show k + 1 = _
     omega
    .rw [cG ek] at e1
     have l1:(dss.take k).length = k:=by rw [aY]; omega
     by_cases jk:j < k
     .rw [aC (by omega)] at e1 e2
      exact pf.2 j ds o' e1 e2
     .have:j = k:=by
       have:=(ao.mp e1).1
       rw [au,l1] at this
       simp at this
       omega
      subst this
      rw [aB (by omega),l1,Nat.sub_self] at e1
      rw [aB (by omega),plen,Nat.sub_self] at e2
      cases e1
      cases e2
      exact ft
   refine IK ⟨_,rfl,_,rfl,r,xs,(k:Nat),_,rfl,rfl,S3 _ _ hr',bR (j:=k) ex,ld,_,rfl,hld3,rfl,decide (dss[k].length = 0),?_,?_⟩
   .rw [ak]
    exact congrArg V.bl (decide_eq_decide.mpr ⟨fun z=>by injection z with z; omega,fun z=>by rw [z]; rfl⟩)
   by_cases d0:dss[k].length = 0
   .rw [decide_eq_true d0]
    exact ⟨_,rfl,D1,_,rfl,h3,_,_,rfl,h3,by rw [ak]; omega,fin none H' (fun _ _ z=>z) (by rw [d0]; rfl)⟩
   .rw [decide_eq_false d0]
    have lk:k < ys.length:=by omega
    have ey:(ys.map V.int)[k]? = some (.int ys[k]):=by rw [aq,aj lk]; rfl
    have m0:0 <= ys[k] % (dss[k].length:Int):=Int.emod_nonneg _ (by omega)
    have m1:ys[k] % (dss[k].length:Int) < dss[k].length:=Int.emod_lt_of_pos _ (by omega)
    have em:ys[k].fmod ((dss[k].map V.ref).length:Nat) = ((ys[k] % (dss[k].length:Int)).toNat:Nat):=by rw [ak,aV _ (by omega)]; omega
    refine ⟨_,rfl,D1,_,rfl,h3,_,rfl,_,rfl,l,_,(k:Nat),_,rfl,rfl,hl3,bR (j:=k) ey,_,rfl,_,rfl,r,xs,(k:Nat),_,rfl,rfl,S3 _ _ hr',bR (j:=k) ex,ld,_,rfl,hld3,_,_,rfl,rfl,by rw [ak]; omega,_,_,rfl,h3,by rw [ak]; omega,?_⟩
    dsimp only
    rw [em]
    exact fin (some _) H' (fun _ _ z=>z) (Q7 (by omega))
  .rintro σ' H' ⟨u,ps,rfl,S3,hl3,h3,pf⟩
   rw [aN] at pf
   subst hR1
   exact ⟨_,rfl,q D1 ps H' S3 g1 h3 pf⟩
noncomputable def sJ:Sp:=fun vs H Q _=>∃ (a b:Addr) (ps:List (Option Nat)),vs = [.ref a,.ref b]/\H a = some (.lst (ps.map stV))/\H b = some (.lst (ps.map stV))/\ps.length <= 100/\Q (.bl true) H
theorem Iu (F:Fun K lV lV vR f fd) (T:Txt K mg D):cB P w K mg base CX0 1 f fd mF sJ:=by
 refine F.ok zp (fun vs H Q E h=>?_) (fun cdv A outer s H vs Q E hr h=>?_)
 .obtain ⟨a,b,ps,rfl,_⟩:=h
  rfl
 .obtain ⟨a,b,ps,rfl,ha,hb,l100,q⟩:=h
  refine ⟨_,(bH (cF (PW.pt (pw_or (dD (cX (bO jw (by rfl) T.cu boot_isinstance (bA (pv 0) (bA (j9 (v:=.ty "list") (by rfl) T.vM boot_list rfl) bC))) (fun _=>rfl))) (pw_or1 (bZ zA (bO cA (by rfl) T.dR PySem.boot_len (bA (pv 0) bC)) (bO cA (by rfl) T.dR PySem.boot_len (bA (pv 1) bC)) (cj _)))))
    (bI (bU iJ))
    bW)
   (bH (kO PassesOwn.never rfl (iB (by rfl) T.lE (bA (bO cA (by rfl) T.dR PySem.boot_len (bA (pv 1) bC)) bC).mono) (cD (i:=2) zp.nd rfl (Or.inl rfl))
    (bI (cF (bZ Ri (bQ bM (pv 1) (pv 2) (fun _ _=>rfl)) iY (cj _))
     (bI (cF (bZ TY (bQ bM (pv 0) (pv 2) (fun _ _=>rfl)) iY (cj _))
      (bI (bU iJ))
      bW))
     (bI (cF (PW.pt (pw_or (dD (cX (bO jw (by rfl) T.cu boot_isinstance (bA (bQ bM (pv 0) (pv 2) (fun _ _=>rfl)) (bA (j9 (v:=.ty "int") (by rfl) T.L_ boot_int rfl) bC))) (fun _=>rfl))) (pw_or (cX (bO jw (by rfl) T.cu boot_isinstance (bA (bQ bM (pv 0) (pv 2) (fun _ _=>rfl)) (bA (j9 (v:=.ty "bool") (by rfl) T.JQ boot_bool rfl) bC))) (fun _=>rfl)) (pw_or1 (bZ zA (bQ bM (pv 0) (pv 2) (fun _ _=>rfl)) (bQ bM (pv 1) (pv 2) (fun _ _=>rfl)) (cj _))))))
      (bI (bU iJ))
      bW)))))
   (bI (bU iJ)))),?_⟩
  refine bY fun R1 hR1=>?_
  refine dW ⟨_,rfl,_,_, "list",rfl,by simp,j5 ha,true,rfl,_,rfl,a,_,rfl,ha,_,rfl,b,_,rfl,hb,rfl,false,congrArg (fun b=>V.bl (!b)) (decide_eq_true rfl),?_⟩
  show R1 _ _ _
  subst hR1
  refine bY fun R1 hR1=>?_
  refine dW (qU ⟨_,rfl,b,_,rfl,hb,ps.length,by rw [ak],by omega,fun _ σ H'=>∃ u,σ = [some (.ref a),some (.ref b),u]/\H' = H,⟨none,rfl,rfl⟩,?_,?_⟩)
  .rintro k σ' H' hk ⟨u,rfl,rfl⟩
   have sk:=Zz (st:=ps) hk
   cases eo:ps.getD k none with
   | none =>
    rw [eo] at sk
    exact ⟨_,rfl,_,rfl,b,_,(k:Nat),_,rfl,rfl,hb,sk,rfl,true,rfl,_,rfl,_,rfl,a,_,(k:Nat),_,rfl,rfl,ha,sk,rfl,false,rfl,_,rfl,rfl⟩
   | some i =>
    rw [eo] at sk
    exact ⟨_,rfl,_,rfl,b,_,(k:Nat),_,rfl,rfl,hb,sk,rfl,false,rfl,_,rfl,_,rfl,a,_,(k:Nat),_,rfl,rfl,ha,sk,_,_, "int",rfl,by simp,rfl,true,rfl,_,rfl,_,rfl,a,_,(k:Nat),_,rfl,rfl,ha,sk,_,_, "int",rfl,by simp,rfl,false,rfl,_,rfl,_,rfl,a,_,(k:Nat),_,rfl,rfl,ha,sk,_,rfl,_,rfl,b,_,(k:Nat),_,rfl,rfl,hb,sk,rfl,false,congrArg (fun b=>V.bl (!b)) (decide_eq_true rfl),_,rfl,rfl⟩
  .rintro σ' H' ⟨u,rfl,rfl⟩
   subst hR1
   exact q
noncomputable def Je:Sp:=fun vs H Q _=>∃ (c:Int) (m:Nat),vs = [.int c,.int m]/\∀ v H',Same H H'->Odd H' v->mK v m = false->Q v H'
theorem pW {v:V} {m:Nat} (h:m ≠ 0) (n:∀ i,v = .int i->i < 0\/(m:Int) <= i):mK v m = false:=by
 unfold mK
 rw [if_neg h]
 cases v with
 | int i =>
  show (decide (0 <= i) && decide (i < m)) = false
  rcases n i rfl with z | z
  .rw [decide_eq_false (by omega)]; rfl
  .rw [decide_eq_false (show ¬ i < (m:Int) by omega),Bool.and_false]
 | _=>rfl
theorem Xz (F:Fun K zm zm R9 f fd) (T:Txt K mg D):cB P w K mg base CX0 1 f fd yr Je:=by
 refine F.ok XM (fun vs H Q E h=>?_) (fun cdv A outer s H vs Q E hr h=>?_)
 .obtain ⟨c,m,rfl,_⟩:=h
  rfl
 .obtain ⟨c,m,rfl,q⟩:=h
  refine ⟨_,(bH (cF (bZ kj (pv 1) bF (cj _))
    (bI (bU (bQ bM (fH (bA bF (bA iJ (bA fG (bA (Bw vY bF) (bA (fH bC) (bA (mX (bA bF (bA bF bC))) bC))))))) (bN cH (pv 0) bF) (fun _ _=>rfl))))
    bW)
   (bI (bU (bQ bM (fH (bA iY (bA (Bw vY bF) (bA (pv 1) (bA iJ (bA iJ (bA fG (bA (fH (bA bF bC)) (bA (bN cR (pv 1) (bN Fd bF bF)) bC))))))))) (bN cH (pv 0) bF) (fun _ _=>rfl))))),?_⟩
  refine bY fun R1 hR1=>?_
  refine dW ⟨_,rfl,rfl,decide (m = 0),congrArg V.bl (decide_eq_decide.mpr ⟨fun z=>by injection z with z; omega,fun z=>by rw [z]; rfl⟩),?_⟩
  have l8:∀ n,n <= 8->n <= sizeLine:=fun n h=>aK h (by decide)
  by_cases m0:m = 0
  .rw [decide_eq_true m0]
   subst m0
   have nf:∀ v,v ≠ .non->mK v 0 = false:=fun v h=>decide_eq_false h
   refine ⟨1,rfl,aZ _,fun p1 H1 S1 f1 h1=>⟨dh,fun p2 H2 S2 f2 h2=>⟨l8 6 (by decide),fun p3 H3 S3 f3 h3=>⟨_,rfl,c,6,rfl,rfl,(show (0:Int) < 6 by decide),?_⟩⟩⟩⟩
   have SS:=S1.trans (S2.trans S3)
   have k1:=S3 _ _ (S2 _ _ h1)
   have k2:=S3 _ _ h2
   obtain ⟨j,ej,lj⟩ : ∃ j:Nat,c % 6 = j/\j < 6:=⟨(c % 6).toNat,by omega,by omega⟩
   dsimp only
   rw [ej]
   match j,lj with
   | 0,_=>exact ⟨p3,_,_,_,rfl,rfl,h3,bR (j:=0) rfl,q _ _ SS ⟨_,rfl⟩ (nf _ (by simp))⟩
   | 1,_=>exact ⟨p3,_,_,_,rfl,rfl,h3,bR (j:=1) rfl,q _ _ SS ⟨_,rfl⟩ (nf _ (by simp))⟩
   | 2,_=>exact ⟨p3,_,_,_,rfl,rfl,h3,bR (j:=2) rfl,q _ _ SS ⟨_,rfl⟩ (nf _ (by simp))⟩
   | 3,_=>exact ⟨p3,_,_,_,rfl,rfl,h3,bR (j:=3) rfl,q _ _ SS ⟨_,rfl⟩ (nf _ (by simp))⟩
   | 4,_=>exact ⟨p3,_,_,_,rfl,rfl,h3,bR (j:=4) rfl,q _ _ SS ⟨"list",j5 k1⟩ (nf _ (by simp))⟩
   | 5,_=>exact ⟨p3,_,_,_,rfl,rfl,h3,bR (j:=5) rfl,q _ _ SS ⟨"tuple",by unfold tyS; dsimp only; rw [k2]⟩ (nf _ (by simp))⟩
   | j + 6,lj=>omega
  .rw [decide_eq_false m0]
   show R1 _ _ _
   subst hR1
   refine su ⟨1,rfl,_,rfl,K7,fun p1 H1 S1 f1 h1=>⟨_,rfl,10,30,rfl,rfl,V0 (by decide) (by decide),_,_,rfl,rfl,l8 8 (by decide),fun p3 H3 S3 f3 h3=>⟨_,rfl,c,8,rfl,rfl,(show (0:Int) < 8 by decide),?_⟩⟩⟩
   have SS:=S1.trans S3
   have k1:=S3 _ _ h1
   obtain ⟨j,ej,lj⟩ : ∃ j:Nat,c % 8 = j/\j < 8:=⟨(c % 8).toNat,by omega,by omega⟩
   dsimp only
   rw [ej]
   match j,lj with
   | 0,_=>exact ⟨p3,_,_,_,rfl,rfl,h3,bR (j:=0) rfl,q _ _ SS ⟨_,rfl⟩ (pW m0 fun i z=>by cases z)⟩
   | 1,_=>exact ⟨p3,_,_,_,rfl,rfl,h3,bR (j:=1) rfl,q _ _ SS ⟨_,rfl⟩ (pW m0 fun i z=>by cases z; exact .inl (by decide))⟩
   | 2,_=>exact ⟨p3,_,_,_,rfl,rfl,h3,bR (j:=2) rfl,q _ _ SS ⟨_,rfl⟩ (pW m0 fun i z=>by cases z; exact .inr (Int.le_refl _))⟩
   | 3,_=>exact ⟨p3,_,_,_,rfl,rfl,h3,bR (j:=3) rfl,q _ _ SS ⟨_,rfl⟩ (pW m0 fun i z=>by cases z)⟩
   | 4,_=>exact ⟨p3,_,_,_,rfl,rfl,h3,bR (j:=4) rfl,q _ _ SS ⟨_,rfl⟩ (pW m0 fun i z=>by cases z)⟩
   | 5,_=>exact ⟨p3,_,_,_,rfl,rfl,h3,bR (j:=5) rfl,q _ _ SS ⟨_,rfl⟩ (pW m0 fun i z=>by cases z)⟩
   | 6,_=>exact ⟨p3,_,_,_,rfl,rfl,h3,bR (j:=6) rfl,q _ _ SS ⟨"list",j5 k1⟩ (pW m0 fun i z=>by cases z)⟩
   | 7,_=>exact ⟨p3,_,_,_,rfl,rfl,h3,bR (j:=7) rfl,q _ _ SS ⟨_,rfl⟩ (pW m0 fun i z=>by injection z with z; subst z; exact .inr (by show (m:Int) <= m + 10 ^ 30; omega))⟩
   | j + 8,lj=>omega
theorem JZ {te:TE} {g:TG} {D:Ends} {σ:L2.St} {H:Hp} (h:te σ H fun x H1=>g x σ H1 D.nx):Aq te g D σ H:=h
theorem LQ {n k:Nat} (h:k < n):ixN n (k:Int) = some k:=by
 unfold ixN
 rw [if_pos (by omega),if_pos (by omega),Int.toNat_natCast]
noncomputable def C_ (n:Nat) (H:Hp) (v:V):Prop:=Odd H v/\∀ l xs,v = .ref l->H l = some (.lst xs)->xs.length ≠ n
theorem C_.same {n:Nat} {H H':Hp} {v:V} (h:C_ n H v) (S:Same H H'):C_ n H' v:=by
 obtain ⟨⟨t,et⟩,nl⟩:=h
 refine ⟨⟨t,yK S et⟩,fun l xs e hl=>?_⟩
 subst e
 by_cases z:∃ o,H l = some o
 .obtain ⟨o,ho⟩:=z
  have:=S _ _ ho
  rw [hl] at this
  cases this
  exact nl l xs rfl ho
 .cases eo:H l with
  | none =>
   unfold tyS at et
   dsimp only at et
   rw [eo] at et
   cases et
  | some o=>exact absurd ⟨o,eo⟩ z
theorem tX {n:Nat} {H:Hp} {v:V} {t:String} (h:tyS H v = some t) (nr:∀ l,v ≠ .ref l):C_ n H v:=⟨⟨t,h⟩,fun l xs e=>absurd e (nr l)⟩
theorem vq {n:Nat} {H:Hp} {l:Addr} {xs:List V} (h:H l = some (.lst xs)) (nl:xs.length ≠ n):C_ n H (.ref l):=⟨⟨_,j5 h⟩,fun l' xs' e h'=>by
 cases e
 rw [h] at h'
 cases h'
 exact nl⟩
theorem Uz {n:Nat} {H:Hp} {l:Addr} {xs:List V} (h:H l = some (.tup xs)):C_ n H (.ref l):=⟨⟨"tuple",by unfold tyS; dsimp only; rw [h]⟩,fun l' xs' e h'=>by
 cases e
 rw [h] at h'
 cases h'⟩
noncomputable def v7:Sp:=fun vs H Q _=>∃ (c:Int) (l r:Addr) (ps:List (Option Nat)) (xs:List V) (n:Nat) (dss:List (List Addr)),vs = [.int c,.ref l,.ref r]/\H l = some (.lst (ps.map stV))/\H r = some (.lst xs)/\RD n H xs dss/\Pu dss ps/\dss.length <= 12 /\
 ∀ t H' w v,Same H H'->H' t = some (.tup [w,v])->Odd H' v->((w = .non/\C_ dss.length H' v)\/∃ (k:Nat) (l2:Addr) (ys:List V) (x:V),w = .int (k:Nat)/\v = .ref l2/\H' l2 = some (.lst ys)/\ys.length = dss.length/\(∀ y ∈ ys,Odd H' y)/\ys[k]? = some x/\(∀ ds,dss[k]? = some ds->mK x ds.length = false)/\∀ j y ds,j < k->ys[j]? = some y->dss[j]? = some ds->mK y ds.length = true)->Q (.ref t) H'
theorem Ou {ys:List V} (h:1 <= ys.length):mO ys none (some (-1)) = ys.take (ys.length - 1):=by
 unfold mO
 have e:HT.sIx ys.length ys.length (some (-1)) = ys.length - 1:=by
  unfold HT.sIx
  simp
  omega
 rw [e]
 show ((ys.drop 0).take (ys.length - 1 - 0)) = _
 rw [List.drop_zero,Nat.sub_zero]
theorem Sq {ys:List V} {n:Nat} (h:n <= ys.length):mO ys (some (n:Int)) none = ys.drop n:=by
 unfold mO
 rw [HT.mQ,Nat.min_eq_left h]
 exact aJ (by rw [List.length_drop]; exact aD _)
theorem QF {c:TT} {t u:TS} {D:Ends} {σ:L2.St} {H:Hp} (h:∀ t',t' = t->zX c t' u D σ H):zX c t u D σ H:=h t rfl
theorem RP {t u:TT} {σ:L2.St} {H:Hp} {Q:Bool->Hp->Prop} (h:t σ H fun c H1=>if c = true then Q true H1 else u σ H1 Q):tOr t u σ H Q:=h
theorem FN {H:Hp} {a:Addr} {xs ys:List V} {v:V} (h:Odd H v) (ha:H a = some (.lst xs)):Odd (upd H a (.lst ys)) v:=by
 obtain ⟨t,et⟩:=h
 cases v with
 | ref b =>
  by_cases e:b = a
  .subst e; exact ⟨_,j5 bD⟩
  .refine ⟨t,?_⟩
   unfold tyS at et ⊢
   dsimp only at et ⊢
   rw [bG e]
   exact et
 | _=>exact ⟨t,et⟩
theorem Wg {α:Type} : ∀ {l:List α},l.length = 5->∃ a b c d e,l = [a,b,c,d,e]
 | [a,b,c,d,e],_=>⟨a,b,c,d,e,rfl⟩
theorem Mq (F:Fun K nG nG yc f fd) (T:Txt K mg D) (cL:OkF P w K mg base 1 eU eY dH) (Km:OkF P w K mg base 1 zm yr Je):cB P w K mg base CX0 2 f fd nH v7:=by
 refine F.ok jV (fun vs H Q E h=>?_) (fun cdv A outer s H vs Q E hr h=>?_)
 .obtain ⟨c,l,r,ps,xs,n,dss,rfl,_⟩:=h
  rfl
 .obtain ⟨c,l,r,ps,xs,n,dss,rfl,hl,hr',rd,pf,n12,q⟩:=h
  have xl:=rd.len
  have pl:=pf.1
  have z9:100 < sizeLine:=by decide
  refine ⟨_,(bH (bV (i:=3) jV.nd rfl (Or.inl rfl) (bL cL (hr.mono (by decide)) (by rfl) (bA (pv 0) (bA bF bC))))
   (bH (cF (PW.pt (pw_or (bZ kj (bN cH (bQ bM (pv 3) bF (fun _ _=>rfl)) bF) bF (cj _)) (pw_or1 (bZ kj (bO cA (by rfl) T.dR PySem.boot_len (bA (pv 2) bC)) bF (cj _)))))
    (bH (bV (i:=7) jV.nd rfl (Or.inl rfl) (fH (bA iY (bA (jM MF (by rfl) T.Kh boot_tuple (bA (pv 1) bC)) (bA (bN w5 (pv 1) (fH (bA iY bC))) (bA (bN w5 (pv 1) (fH (bA bF bC))) (bA fG (bA bF (bA iJ bC)))))))))
    (bH (cF (bZ BK (bO cA (by rfl) T.dR PySem.boot_len (bA (pv 1) bC)) bF (cj _))
     (bI (bV (i:=7) jV.nd rfl (Or.inl rfl) (bN w5 (pv 7) (fH (bA (iI Hj (pv 1) (fB bF) uM) (bA (iI Hj (pv 1) uM (fB (Bw vY bF))) (bA (fH bC) bC)))))))
     bW)
    (bI (bU (mX (bA iY (bA (bQ bM (pv 7) (bN g_ (bQ bM (pv 3) bF (fun _ _=>rfl)) (bO cA (by rfl) T.dR PySem.boot_len (bA (pv 7) bC))) (fun _ _=>rfl)) bC)))))))
    bW)
   (bH (bV (i:=4) jV.nd rfl (Or.inl rfl) (bN g_ (bQ bM (pv 3) bF (fun _ _=>rfl)) (bO cA (by rfl) T.dR PySem.boot_len (bA (pv 2) bC))))
   (bH (bV (i:=5) jV.nd rfl (Or.inl rfl) (bN cR (bN cR (pv 4) bF) (bN g_ (bQ bM (pv 3) bF (fun _ _=>rfl)) (bO cA (by rfl) T.dR PySem.boot_len (bA (pv 2) bC)))))
   (bH (bV (i:=6) jV.nd rfl (Or.inl rfl) (jM yM (by rfl) T.vM boot_list (bA (pv 1) bC)))
   (bH (qj (bL Km (hr.mono (by decide)) (by rfl) (bA (bQ bM (pv 3) bF (fun _ _=>rfl)) (bA (bO cA (by rfl) T.dR PySem.boot_len (bA (bQ bM (pv 2) (pv 4) (fun _ _=>rfl)) bC)) bC))) (Jp (pv 6) (pv 4) set_list))
   (bH (cF (bZ u_ (pv 5) (bO cA (by rfl) T.dR PySem.boot_len (bA (pv 2) bC)) (cj _))
    (bI (qj (bL Km (hr.mono (by decide)) (by rfl) (bA (bQ bM (pv 3) bF (fun _ _=>rfl)) (bA (bO cA (by rfl) T.dR PySem.boot_len (bA (bQ bM (pv 2) (pv 5) (fun _ _=>rfl)) bC)) bC))) (Jp (pv 6) (pv 5) set_list)))
    bW)
   (bI (bU (mX (bA (pv 4) (bA (pv 6) bC)))))))))))),?_⟩
  refine bY fun R1 hR1=>?_
  refine d8 ⟨_,rfl,c,5,rfl,by decide,fun ls ys H1 S1 fl hs ln hx=>?_⟩
  obtain ⟨y0,y1,y2,y3,y4,rfl⟩:=Wg ln
  dsimp only [dI,L2.start]
  subst hR1
  refine bY fun R1 hR1=>?_
  have hl1:=S1 _ _ hl
  have hr1:=S1 _ _ hr'
  have rest:y0 % 3 ≠ 0->dss.length ≠ 0->R1 { nx:=fun x H'=>Q V.non H',rt:=Q } [some (.int c),some (.ref l),some (.ref r),some (.ref ls),none,none,none,none] H1:=fun _ dn=>by
   subst hR1
   have mo:∀ y:Int,∃ k:Nat,y.fmod (xs.length:Nat) = (k:Nat)/\k < dss.length:=fun y=>by
    have m0:0 <= y % (dss.length:Int):=Int.emod_nonneg _ (by omega)
    have m1:y % (dss.length:Int) < dss.length:=Int.emod_lt_of_pos _ (by omega)
    exact ⟨(y % (dss.length:Int)).toNat,by rw [xl,aV _ (by omega)]; omega,by omega⟩
   obtain ⟨k,ek,lk⟩:=mo y1
   obtain ⟨k2,ek2,_⟩:=mo y2
   refine bY fun R1 hR1=>?_
   refine d8 ⟨_,rfl,ls,_,1,_,rfl,rfl,hs,eE,_,rfl,r,xs,rfl,hr1,y1,_,rfl,rfl,by omega,?_⟩
   dsimp only [dI,List.set_cons_succ,List.set_cons_zero]
   rw [ek]
   subst hR1
   refine bY fun R1 hR1=>?_
   refine d8 ⟨_,rfl,_,_,rfl,rfl,_,rfl,ls,_,2,_,rfl,rfl,hs,bR (j:=2) rfl,_,rfl,r,xs,rfl,hr1,y2,_,rfl,rfl,by omega,_,_,rfl,rfl,?_⟩
   dsimp only [dI,List.set_cons_succ,List.set_cons_zero]
   rw [ek2]
   subst hR1
   refine bY fun R1 hR1=>?_
   refine d8 ⟨_,rfl,l,_,rfl,hl1,fun f1 H2 S2 f2 h2=>?_⟩
   dsimp only [dI,List.set_cons_succ,List.set_cons_zero]
   subst hR1
   refine bY fun R1 hR1=>?_
   have S12:=S1.trans S2
   have g1:=Same.free S1 f2
   have ekd:dss[k]? = some dss[k]:=aj lk
   obtain ⟨ld,ex,hld,_⟩:=rd.at_ k _ ekd
   refine dW (JZ ⟨_,rfl,ls,_,3,_,rfl,rfl,S2 _ _ hs,bR (j:=3) rfl,_,rfl,_,rfl,r,xs,(k:Nat),_,rfl,rfl,S2 _ _ hr1,bR (j:=k) ex,ld,_,rfl,S12 _ _ hld,y3,dss[k].length,by rw [ak],fun v H3 S3 ov nf=>⟨_,rfl,_,rfl,f1,_,_,k,rfl,rfl,S3 _ _ h2,LQ (by rw [ak]; omega),?_⟩⟩)
   have h3:=S3 _ _ h2
   have SH:Same H (upd H3 f1 (.lst ((ps.map stV).set k v))):=fun b o e=>(bG (bB e g1)).trans (S3 _ _ (S12 _ _ e))
   have ov':=FN (ys:=(ps.map stV).set k v) ov h3
   have hf:upd H3 f1 (.lst ((ps.map stV).set k v)) f1 = _:=bD
   have hls:upd H3 f1 (.lst ((ps.map stV).set k v)) ls = _:=(bG (bB hs f2)).trans (S3 _ _ (S2 _ _ hs))
   generalize upd H3 f1 (.lst ((ps.map stV).set k v)) = H4 at SH ov' hf hls ⊢
   subst hR1
   dsimp only [List.set_cons_succ,List.set_cons_zero]
   refine bY fun R1 hR1=>?_
   have fin:∀ (ys:List V) (H9:Hp),Same H H9->H9 f1 = some (.lst ys)->ys.length = dss.length->(∀ y ∈ ys,Odd H9 y)->ys[k]? = some v->(∀ j,j < k->ys[j]? = (ps.map stV)[j]?)->R1 { nx:=fun x H'=>Q V.non H',rt:=Q } [some (.int c),some (.ref l),some (.ref r),some (.ref ls),some (.int (k:Nat)),some (.int ((k:Int) + 1 + (k2:Nat))),some (.ref f1),none] H9:=fun ys H9 S9 h9 yl oy yk yj=>by
    subst hR1
    refine su ⟨_,rfl,_,rfl,dh,fun t H' S' ft et=>?_⟩
    refine q t H' _ _ (S9.trans S') et ⟨_,j5 (S' _ _ h9)⟩ (.inr ⟨k,f1,ys,v,rfl,rfl,S' _ _ h9,yl,fun y hy=>(oy y hy).same S',yk,fun ds e=>by rw [ekd] at e; cases e; exact nf,fun j y ds hj ey ed=>?_⟩)
    rw [yj j hj,aq] at ey
    cases eo:ps[j]? with
    | none=>rw [eo] at ey; cases ey
    | some o =>
     rw [eo] at ey
     cases ey
     exact pf.2 j ds o ed eo
   have pk:k < (ps.map stV).length:=by rw [ak,pl]; exact lk
   have oset:∀ (H9:Hp) (zs:List V) (j:Nat) (u:V),(∀ y ∈ zs,Odd H9 y)->Odd H9 u->∀ y ∈ zs.set j u,Odd H9 y:=fun H9 zs j u h1 h2 y hy=>by
    rcases List.mem_or_eq_of_mem_set hy with h | h
    .exact h1 y h
    .rw [h]; exact h2
   have o1:∀ y ∈ (ps.map stV).set k v,Odd H4 y:=oset _ _ _ _ (fun y hy=>by
    obtain ⟨o,_,rfl⟩:=List.mem_map.mp hy
    cases o <;> exact ⟨_,rfl⟩) ov'
   refine dW ⟨_,rfl,_,rfl,r,xs,rfl,SH _ _ hr',_,_,rfl,rfl,decide (k + 1 + k2 < dss.length),?_,?_⟩
   .rw [xl]
    exact congrArg V.bl (decide_eq_decide.mpr (by omega))
   by_cases z:k + 1 + k2 < dss.length
   .rw [decide_eq_true z]
    have ekd2:dss[k + 1 + k2]? = some dss[k + 1 + k2]:=aj z
    obtain ⟨ld2,ex2,hld2,_⟩:=rd.at_ _ _ ekd2
    refine ⟨_,rfl,ls,_,4,_,rfl,rfl,hls,bR (j:=4) rfl,_,rfl,_,rfl,r,xs,_,_,rfl,rfl,SH _ _ hr',bR (j:=k + 1 + k2) ex2,ld2,_,rfl,SH _ _ hld2,y4,dss[k + 1 + k2].length,by rw [ak],fun v2 H5 S5 ov2 _=>⟨_,rfl,_,rfl,f1,_,_,k + 1 + k2,rfl,rfl,S5 _ _ hf,LQ (n:=((ps.map stV).set k v).length) (k:=k + 1 + k2) (by rw [List.length_set,ak]; omega),?_⟩⟩
    have h5:=S5 _ _ hf
    refine fin (((ps.map stV).set k v).set (k + 1 + k2) v2) _ (fun b o e=>(bG (bB e g1)).trans (S5 _ _ (SH _ _ e))) bD (by rw [List.length_set,List.length_set,ak,pl]) (oset _ _ _ _ (fun y hy=>FN ((o1 y hy).same S5) h5) (FN ov2 h5)) ?_ fun j hj=>?_
    .rw [List.getElem?_set_ne (by omega),List.getElem?_set_self pk]
    .rw [List.getElem?_set_ne (by omega),List.getElem?_set_ne (by omega)]
   .rw [decide_eq_false z]
    refine fin _ H4 SH hf (by rw [List.length_set,ak,pl]) o1 (List.getElem?_set_self pk) fun j hj=>?_
    rw [List.getElem?_set_ne (by omega)]
  refine dW (QF fun B hB=>?_)
  have bad:B { nx:=R1 { nx:=fun x H'=>Q V.non H',rt:=Q },rt:=Q } [some (.int c),some (.ref l),some (.ref r),some (.ref ls),none,none,none,none] H1:=by
   subst hB
   have l10:∀ n,n <= 64->n <= sizeLine:=fun n h=>aK h (by decide)
   have ml:(ps.map stV).length = dss.length:=by rw [ak,pl]
   refine d8 ⟨_,rfl,l,_,rfl,hl1,fun t1 Ha Sa fa ha=>⟨_,rfl,K7,fun p1 Hb Sb fb hb=>⟨l,p1,_,_,rfl,rfl,Sb _ _ (Sa _ _ hl1),hb,by rw [ml]; exact l10 _ (by simp; omega),fun a1 Hc Sc fc hc=>⟨_,rfl,K7,fun p2 Hd Sd fd hd=>⟨l,p2,_,_,rfl,rfl,Sd _ _ (Sc _ _ (Sb _ _ (Sa _ _ hl1))),hd,by rw [ml]; exact l10 _ (by simp; omega),fun a2 He Se fe he=>⟨l10 7 (by decide),fun ms Hf Sf ff hf=>?_⟩⟩⟩⟩⟩⟩
   have S1f:Same H1 Hf:=Sa.trans (Sb.trans (Sc.trans (Sd.trans (Se.trans Sf))))
   have ht:=Sf _ _ (Se _ _ (Sd _ _ (Sc _ _ (Sb _ _ ha))))
   have hc:=Sf _ _ (Se _ _ (Sd _ _ hc))
   have he:=Sf _ _ he
   have b7:∀ v ∈ [V.non,.ref t1,.ref a1,.ref a2,.str (Str.ofString "plan"),.int 0,.bl true],C_ dss.length Hf v:=fun v hv=>by
    simp only [List.mem_cons,List.not_mem_nil,or_false] at hv
    rcases hv with rfl | rfl | rfl | rfl | rfl | rfl | rfl
    .exact tX rfl (by simp)
    .exact Uz ht
    .exact vq hc (by rw [au,ml]; simp)
    .exact vq he (by rw [au,ml]; simp)
    .exact tX rfl (by simp)
    .exact tX rfl (by simp)
    .exact tX rfl (by simp)
   clear ha Sa Sb Sc Sd Se Sf
   dsimp only [dI,List.set_cons_succ,List.set_cons_zero]
   refine bY fun R2 hR2=>?_
   have fin:∀ (vals:List V) (m:Addr) (H9:Hp),Same H1 H9->H9 m = some (.lst vals)->0 < vals.length->(∀ v ∈ vals,C_ dss.length H9 v)->R2 { nx:=R1 { nx:=fun x H'=>Q V.non H',rt:=Q },rt:=Q } [some (.int c),some (.ref l),some (.ref r),some (.ref ls),none,none,none,some (.ref m)] H9:=fun vals m H9 S9 h9 v0 bv=>by
    subst hR2
    have m0:0 <= y1 % (vals.length:Int):=Int.emod_nonneg _ (by omega)
    have m1:y1 % (vals.length:Int) < vals.length:=Int.emod_lt_of_pos _ (by omega)
    have em:y1.fmod (vals.length:Nat) = ((y1 % (vals.length:Int)).toNat:Nat):=by rw [aV _ (by omega)]; omega
    have lk:(y1 % (vals.length:Int)).toNat < vals.length:=by omega
    refine su ⟨_,rfl,_,rfl,ls,_,1,_,rfl,rfl,S9 _ _ hs,eE,_,rfl,m,vals,rfl,h9,y1,_,rfl,rfl,by omega,m,vals,_,vals[(y1 % (vals.length:Int)).toNat],rfl,rfl,h9,by rw [em]; exact bR (aj lk),dh,fun t H' S' ft et=>?_⟩
    have bb:=(bv _ (aR lk)).same S'
    exact q t H' _ _ (S1.trans (S9.trans S')) et bb.1 (.inl ⟨rfl,bb⟩)
   refine dW ⟨_,rfl,l,_,rfl,S1f _ _ hl1,_,_,rfl,rfl,decide (0 < dss.length),?_,?_⟩
   .rw [ml]
    exact congrArg V.bl (decide_eq_decide.mpr (by omega))
   by_cases d0:0 < dss.length
   .rw [decide_eq_true d0]
    refine ⟨_,rfl,_,rfl,_,rfl,l,_,rfl,S1f _ _ hl1,fun q1 Ha Sa fa ha=>⟨_,rfl,1,rfl,_,rfl,l,_,rfl,Sa _ _ (S1f _ _ hl1),fun q2 Hb Sb fb hb=>⟨aZ _,fun q3 Hc Sc fc hc=>⟨l10 3 (by decide),fun q4 Hd Sd fd hd=>⟨ms,q4,_,_,rfl,rfl,Sd _ _ (Sc _ _ (Sb _ _ (Sa _ _ hf))),hd,l10 10 (by decide),fun m He Se fe he=>?_⟩⟩⟩⟩⟩
    have S5:Same Hf He:=Sa.trans (Sb.trans (Sc.trans (Sd.trans Se)))
    refine fin _ m He (S1f.trans S5) he (by simp) fun v hv=>?_
    rcases List.mem_append.mp hv with hv | hv
    .exact (b7 v hv).same S5
    .simp only [List.mem_cons,List.not_mem_nil,or_false] at hv
     rcases hv with rfl | rfl | rfl
     .refine vq (Se _ _ (Sd _ _ (Sc _ _ (Sb _ _ ha)))) ?_
      rw [show (1:Int) = ((1:Nat):Int) from rfl,Sq (by rw [ml]; omega),List.length_drop,ml]
      omega
     .refine vq (Se _ _ (Sd _ _ (Sc _ _ hb))) ?_
      rw [Ou (by rw [ml]; omega),aY,ml]
      omega
     .exact vq (Se _ _ (Sd _ _ hc)) (by simp; omega)
   .rw [decide_eq_false d0]
    exact fin _ ms Hf S1f hf (by simp) b7
  refine IK (RP ?_)
  refine ⟨_,rfl,ls,_,0,_,rfl,rfl,hs,fV,y0,3,rfl,rfl,(show (0:Int) < 3 by decide),rfl,decide (y0 % 3 = 0),congrArg V.bl (decide_eq_decide.mpr ⟨fun z=>by injection z,fun z=>by show V.int (y0 % 3) = _; rw [z]⟩),?_⟩
  by_cases e0:y0 % 3 = 0
  .rw [decide_eq_true e0]
   exact bad
  .rw [decide_eq_false e0]
   refine ⟨_,rfl,r,xs,rfl,hr1,rfl,decide (dss.length = 0),congrArg V.bl (decide_eq_decide.mpr ⟨fun z=>by injection z with z; omega,fun z=>by rw [xl,z]; rfl⟩),?_⟩
   by_cases d0:dss.length = 0
   .rw [decide_eq_true d0]
    exact bad
   .rw [decide_eq_false d0]
    exact rest e0 d0
noncomputable def Cw (rms:List (Str × List Dr)) (H:Hp) (v:V) (r:Option V):Prop :=
 (∃ (l:Addr) (xs:List V),v = .ref l/\H l = some (.lst xs)/\xs.length = rms.length/\(∀ x ∈ xs,Odd H x) /\
  ((r = none/\∀ k x,xs[k]? = some x->mK x (dnR rms k) = true)
  \/ ∃ (k:Nat) (x:V),r = some (.int (k:Nat))/\xs[k]? = some x/\mK x (dnR rms k) = false/\∀ j y,j < k->xs[j]? = some y->mK y (dnR rms j) = true))
 \/ (r = some .non/\∀ l xs,v = .ref l->H l = some (.lst xs)->xs.length ≠ rms.length)
noncomputable def adt:Option V->List V
 | none=>[.str "none",.non]
 | some u=>[.str "plan",u]
noncomputable def Eu (D:Adr):Sp:=fun vs H Q _=>∃ (o p:Addr) (v:V) (rms:List (Str × List Dr)) (r:Option V),vs = [.ref o,v]/\kZ D H o p rms/\zG rms/\Odd H v/\Cw rms H v r/\∀ t H',Same H H'->H' t = some (.tup (adt r))->Q (.ref t) H'
theorem BP {o p:Addr} {v:V} {rms:List (Str × List Dr)} {r:Option V} {H:Hp} {Q:VK} {E:XK} (hh:kZ D H o p rms) (few:zG rms) (ov:Odd H v) (h:Cw rms H v r) (q:r = none->∀ H',Same H H'->Q (.bl true) H') (e:∀ u,r = some u->∀ d H',Same H H'->H d = none->H' d = some (.xd [("room",u)])->E (.ref D.NoPlan) (some d) H'):nW D [.ref o,v] H Q E:=by
 refine ⟨o,p,v,rms,rfl,hh,few,ov,?_⟩
 rcases h with ⟨l,xs,a1,a2,a3,a4,a5⟩ | ⟨e1,nl⟩
 .refine .inl ⟨l,xs,a1,a2,a3,a4,?_⟩
  rcases a5 with ⟨e1,al⟩ | ⟨k,x,e1,b1,b2,b3⟩
  .exact .inl ⟨al,q e1⟩
  .exact .inr ⟨k,x,b1,b2,b3,e _ e1⟩
 .exact .inr ⟨nl,e _ e1⟩
theorem Ji (F:Fun K mz mz wu f fd) (T:Txt K mg D) (jY:OkX P w K mg base 4 gb gk (nW D)):cB P w K mg base CX0 5 f fd lR (Eu D):=by
 refine F.ok oG (fun vs H Q E h=>?_) (fun cdv A outer s H vs Q E hr h=>?_)
 .obtain ⟨o,p,v,rms,r,rfl,_⟩:=h
  rfl
 .obtain ⟨o,p,v,rms,r,rfl,hh,few,ov,pi,q⟩:=h
  refine ⟨_,(bH (RJ (i:=2) oG.nd rfl rfl (by rfl) T.wF T.HJ T.GD rfl rfl rfl (fun _ _ _ HF=>(bI (cM (fU jY (hr.mono (by decide)) (by rfl) HF (bA (pv 0) (bA (pv 1) bC))))))
    (fun _ _=>(bH (bV (i:=3) oG.nd rfl (Or.inl rfl) (fH (bA (bO (d9 (K':=K) rfl) (by rfl) T.cu boot_isinstance (bA (pv 2) (bA (ou (by rfl) T.zQ) bC))) (bA (bO (d9 (K':=K) rfl) (by rfl) T.cu boot_isinstance (bA (pv 2) (bA (ou (by rfl) T.zY) bC))) (bA (bO (d9 (K':=K) rfl) (by rfl) T.cu boot_isinstance (bA (pv 2) (bA (ou (by rfl) T.sH) bC))) (bA (bO (d9 (K':=K) rfl) (by rfl) T.cu boot_isinstance (bA (pv 2) (bA (ou (by rfl) T.N6) bC))) bC))))))
    (bH (bV (i:=3) oG.nd rfl (Or.inl rfl) (bN w5 (pv 3) (fH (bA (bO (d9 (K':=K) rfl) (by rfl) T.cu boot_isinstance (bA (pv 2) (bA (ou (by rfl) T.Rp) bC))) (bA (bO (d9 (K':=K) rfl) (by rfl) T.cu boot_isinstance (bA (pv 2) (bA (ou (by rfl) T.Vt) bC))) (bA (bO (d9 (K':=K) rfl) (by rfl) T.cu boot_isinstance (bA (pv 2) (bA (ou (by rfl) T.Ry) bC))) (bA (bO (d9 (K':=K) rfl) (by rfl) T.cu boot_isinstance (bA (pv 2) (bA (ou (by rfl) T.S_) bC))) bC)))))))
    (bH (cF (PW.pt (pw_or (bZ (show OpR _ _ (rIn K false) from Mz) iJ (pv 3) rfl) (pw_or (dD (cX (bO (d9 (K':=K) rfl) (by rfl) T.cu boot_isinstance (bA (pv 2) (bA (ou (by rfl) T.yh) bC))) (fun _=>rfl))) (pw_or1 (dD (cX (bO (d9 (K':=K) rfl) (by rfl) T.cu boot_isinstance (bA (pv 2) (bA (j9 (v:=.ty "ValueError") (by rfl) T.Du wV rfl) bC))) (fun _=>rfl)))))))
     (bI (bU (mX (bA fG (bA iY bC)))))
     bW)
    (bI (bU (mX (bA fG (bA (RG (K':=K) rfl (pv 2) rfl) bC))))))))))
   (bI (bU (mX (bA fG (bA iY bC)))))),?_⟩
  refine bY fun R1 hR1=>?_
  refine dW ⟨fun C d σ H'=>C = .ref D.NoPlan/\σ = [some (.ref o),some v,none,none]/\∃ d' u,r = some u/\d = some d'/\Same H H'/\H' d' = some (.xd [("room",u)]),?_,?_⟩
  .refine ⟨_,rfl,_,rfl,?_⟩
   dsimp only [sX]
   refine BP hh few ov pi (fun e H' S=>?_) fun u e d H' S hd hx=>⟨rfl,rfl,d,u,e,rfl,S,hx⟩
   subst hR1
   subst e
   exact su ⟨dh,fun t H2 S2 ft et=>q t H2 (S.trans S2) et⟩
  .rintro _ _ σ' H' ⟨rfl,rfl,d,u,rfl,rfl,S,hx⟩
   refine ⟨D.NoPlan,rfl,T.sm_NoPlan,fun a ha=>?_⟩
   have S1:Same H' (upd H' a (XO a D.NoPlan (some d))):=Same.upd ha
   have hX:upd H' a (XO a D.NoPlan (some d)) a = some (XO a D.NoPlan (some d)):=bD
   generalize upd H' a (XO a D.NoPlan (some d)) = H1 at S1 hX ⊢
   have l4:4 <= sizeLine:=by decide
   refine d8 ⟨_,rfl,a,D.NoPlan,some d,_,_,false,rfl,hX,.inr ⟨_,rfl,rfl⟩,T.xk_NoPlan,T.ki_NoPlan_NoNumber,_,rfl,a,D.NoPlan,some d,_,_,false,rfl,hX,.inr ⟨_,rfl,rfl⟩,T.xk_NoPlan,T.ki_NoPlan_NoName,_,rfl,a,D.NoPlan,some d,_,_,false,rfl,hX,.inr ⟨_,rfl,rfl⟩,T.xk_NoPlan,T.ki_NoPlan_NoChance,_,rfl,a,D.NoPlan,some d,_,_,false,rfl,hX,.inr ⟨_,rfl,rfl⟩,T.xk_NoPlan,T.ki_NoPlan_NoShare,l4,fun p1 H2 S2 f2 h2=>?_⟩
   have hX:=S2 _ _ hX
   refine d8 ⟨_,rfl,_,rfl,a,D.NoPlan,some d,_,_,false,rfl,hX,.inr ⟨_,rfl,rfl⟩,T.xk_NoPlan,T.ki_NoPlan_NoText,_,rfl,a,D.NoPlan,some d,_,_,false,rfl,hX,.inr ⟨_,rfl,rfl⟩,T.xk_NoPlan,T.ki_NoPlan_NoRow,_,rfl,a,D.NoPlan,some d,_,_,false,rfl,hX,.inr ⟨_,rfl,rfl⟩,T.xk_NoPlan,T.ki_NoPlan_NoRoom,_,rfl,a,D.NoPlan,some d,_,_,false,rfl,hX,.inr ⟨_,rfl,rfl⟩,T.xk_NoPlan,T.ki_NoPlan_NoDoor,l4,fun p2 H3 S3 f3 h3=>⟨p1,p2,_,_,rfl,rfl,S3 _ _ h2,h3,(show 8 <= sizeLine by decide),fun p3 H4 S4 f4 h4=>?_⟩⟩
   have hX:=S4 _ _ (S3 _ _ hX)
   have hx:=S4 _ _ (S3 _ _ (S2 _ _ (S1 _ _ hx)))
   have SS:=S.trans (S1.trans (S2.trans (S3.trans S4)))
   refine dW ⟨_,rfl,p3,_,rfl,.inl (.of h4),rfl,rfl,false,rfl,_,rfl,a,D.NoPlan,some d,_,_,true,rfl,hX,.inr ⟨_,rfl,rfl⟩,T.xk_NoPlan,T.ki_NoPlan_NoPlan,true,rfl,_,rfl,a,D.NoPlan,some d,_,_,true,rfl,hX,.inl ⟨_,rfl,rfl⟩,T.xk_NoPlan,T.ki_NoPlan_ValueError,true,rfl,?_⟩
   exact ⟨_,rfl,a,D.NoPlan,d,_,u,rfl,hX,hx,T.xk_NoPlan,T.hd_NoPlan,T.pF,rfl,dh,fun t H5 S5 ft et=>q t H5 (SS.trans S5) et⟩
theorem Nk {K:Frag} {tl te:TE} {σ:L2.St} {H:Hp} {Q:VK} (vs:List V) (h:tl σ H fun x H1=>∃ a xs,x = .ref a/\H1 a = some (.lst xs)/\xs.length = vs.length/\vs.length <= sizeLine/\(∀ (k:Nat) x y Hc (R:VK),xs[k]? = some x->vs[k]? = some y->Same H1 Hc->(∀ H2,Same Hc H2->R y H2)->te (some x :: σ) Hc R) /\
  ∀ D Hc,Same H1 Hc->H1 D = none->Hc D = some (.lst vs)->Q (.ref D) Hc) (mono:∀ {σ H} {R R':VK},(∀ v H,R v H->R' v H)->tl σ H R->tl σ H R'):jg (zV K (tM tl)) 1 (tMG (dI 0)) (tMT HY) (tM te) σ H Q:=by
 refine dz (mono (fun x H1 ⟨a,xs,e,ha,l,sz,hb,q⟩=>⟨a,xs,e,ha,by omega,fun D hD=>⟨vJ D H1 vs,⟨Same.upd hD,bD,rfl⟩,fun k x ys Hc hk j hy hc=>?_,fun ys Hc ⟨S1,h1,ey⟩ hy=>?_⟩⟩) h)
 .have lk:k < vs.length:=by rw [<- l]; exact (ao.mp hk).1
  exact hb k x _ Hc _ hk (aj lk) j.1 fun H2 S=>⟨S _ _ j.2.1,S _ _ hc,j.next hD S (aj lk)⟩
 .rw [l,aN] at ey
  subst ey
  exact q D Hc S1 hD h1
theorem Q5 {i:Nat} {σ:L2.St} {H:Hp} {R R':VK} (h:∀ v H,R v H->R' v H):sV i σ H R->sV i σ H R':=fun ⟨v,a,b⟩=>⟨v,a,h _ _ b⟩
theorem R7 {K:Frag} {i:Nat} {te:TE} {σ:L2.St} {H:Hp} {Q:VK} {a:Addr} {xs:List V} (vs:List V) (hσ:σ[i]? = some (some (.ref a))) (ha:H a = some (.lst xs)) (l:xs.length = vs.length) (sz:vs.length <= sizeLine) (hb:∀ (k:Nat) x y Hc (R:VK),xs[k]? = some x->vs[k]? = some y->Same H Hc->(∀ H2,Same Hc H2->R y H2)->te (some x :: σ) Hc R)
  (q:∀ D Hc,Same H Hc->H D = none->Hc D = some (.lst vs)->Q (.ref D) Hc):jg (zV K (tM (sV i))) 1 (tMG (dI 0)) (tMT HY) (tM te) σ H Q:=Nk vs ⟨_,hσ,a,xs,rfl,ha,l,sz,hb,q⟩ Q5
theorem n8.few {n:Nat} {H:Hp} {dss:List (List Addr)} {rms:List (Str × List Dr)} (h:n8 K n H dss rms) (ok:Kp rms):zG rms:=by
 refine ⟨ok.len,ok.few,fun g hg d hd=>?_⟩
 obtain ⟨j,hj⟩:=aU hg
 have lj:j < dss.length:=by rw [<- h.len]; exact (ao.mp hj).1
 obtain ⟨_,z⟩:=(h.at_ j _ g (aj lj) hj).mem hd
 exact aK z.few.1 (by decide)
theorem n8.dn {n:Nat} {H:Hp} {dss:List (List Addr)} {rms:List (Str × List Dr)} (h:n8 K n H dss rms) {k:Nat} {ds:List Addr} (e:dss[k]? = some ds):dnR rms k = ds.length:=by
 have lk:k < rms.length:=by rw [h.len]; exact (ao.mp e).1
 unfold dnR
 rw [aj lk]
 exact (h.at_ k _ _ e (aj lk)).len
theorem n8.first {n:Nat} {H:Hp} {dss:List (List Addr)} {rms:List (Str × List Dr)} (h:n8 K n H dss rms):iC rms = dss.map fun ds=>if 0 < ds.length then some 0 else none:=by
 refine List.ext_getElem? fun k=>?_
 unfold iC
 rw [aq,aq]
 by_cases hk:k < rms.length
 .have hk':k < dss.length:=by rw [<- h.len]; exact hk
  rw [aj hk,aj hk',Option.map_some,Option.map_some,(h.at_ k _ _ (aj hk') (aj hk)).len]
 .rw [List.getElem?_eq_none (by omega),List.getElem?_eq_none (by rw [<- h.len]; omega)]; rfl
theorem n8.fits {n:Nat} {H:Hp} {dss:List (List Addr)} {rms:List (Str × List Dr)} (h:n8 K n H dss rms) {ps:List (Option Nat)} (pf:Pu dss ps) {l:Addr} {H':Hp} (hl:H' l = some (.lst (ps.map stV))):Cw rms H' (.ref l) none:=by
 refine .inl ⟨l,_,rfl,hl,by rw [ak,pf.1,h.len],fun x hx=>?_,.inl ⟨rfl,fun k x e=>?_⟩⟩
 .obtain ⟨o,_,rfl⟩:=List.mem_map.mp hx
  cases o <;> exact ⟨_,rfl⟩
 .rw [aq] at e
  cases eo:ps[k]? with
  | none=>rw [eo] at e; cases e
  | some o =>
   rw [eo] at e
   cases e
   have lk:k < dss.length:=by rw [<- pf.1]; exact (ao.mp eo).1
   rw [h.dn (aj lk)]
   exact pf.2 k _ o (aj lk) eo
theorem Ym (F:Fun K Ef Ef Ht f fd) (T:Txt K mg D) (Ua:∀ a ns,OkF P w K mg base 1 q_ rE (uT K a ns)) (Jo:OkF P w K mg base 2 uQ uH En) (Pz:∀ a ns,OkF P w K mg base 5 ql pZ (yZ K a ns)) (Dk:OkF P w K mg base 3 pN qe xV) (J2:OkF P w K mg base 9 tD tQ (CG K D)) (jH:OkF P w K mg base 4 iM iQ (yC D)) (nA:OkF P w K mg base 1 lV mF sJ) (yH:OkF P w K mg base 2 nY nR vZ) (nq:OkF P w K mg base 5 mz lR (Eu D)) (uY:OkF P w K mg base 4 gb gk (fun vs H Q _=>nW D vs H Q fun _ _ _=>False)) (yV:OkF P w K mg base 2 nG nH v7):cB P w K mg base CX0 10 f fd Jg (K6 K):=by
 refine F.okB lQ (fun vs H Q E h=>?_) (fun cdv A outer s H vs Q E hr h=>?_)
 .obtain ⟨a,ns,rfl,_⟩:=h
  rfl
 .obtain ⟨a,ns,rfl,hs,hl,_,hQ⟩:=h
  have mZ:=Ua a ns
  have CW:=Pz a ns
  refine ⟨_,(cg (PSB.mk (bV (i:=1) lQ.nd rfl (Or.inl rfl) (bL CW (hr.mono (by decide)) (by rfl) (bA (pv 0) (bA bF (bA (bL Jo (hr.mono (by decide)) (by rfl) (bA (bL mZ (hr.mono (by decide)) (by rfl) (bA (pv 0) (bA bF bC))) bC)) (bA bF bC)))))))
   (cg (PSB.mk (bV (i:=2) lQ.nd rfl (Or.inl rfl) (bL J2 (hr.mono (by decide)) (by rfl) (bA (bL mZ (hr.mono (by decide)) (by rfl) (bA (pv 0) (bA bF bC))) (bA (bL Dk (hr.mono (by decide)) (by rfl) (bA (bL mZ (hr.mono (by decide)) (by rfl) (bA (pv 0) (bA bF bC))) bC)) (bA (pv 1) bC))))))
   (cg (PSB.mk (Ih (bK Ht) Ov Ov ["_law_doors_here"] (dw ((pv 1)).mono) (fW (i:=0)) dB (bQ bM (fH (bA iY (bA bF bC))) (jM Bq (by rfl) T.L_ boot_int (bA (qW BK (bO cA (by rfl) T.dR PySem.boot_len (bA (pv 0) bC)) bF (cj _)) bC)) (fun _ _=>rfl)) (cD (i:=3) lQ.nd rfl (Or.inl rfl))))
   (cg (PSB.mk (bV (i:=4) lQ.nd rfl (Or.inl rfl) (fH (bA (bL jH (hr.mono (by decide)) (by rfl) (bA (pv 2) bC)) (bA (bL jH (hr.mono (by decide)) (by rfl) (bA (pv 2) bC)) bC)))))
   (cg (PSB.mk (cM (qd (bQ bM (pv 4) bF (fun _ _=>rfl)) (bA bF bC))))
   (cg (PSB.mk (cF (dD (cX (bL nA (hr.mono (by decide)) (by rfl) (bA (bQ bM (pv 4) bF (fun _ _=>rfl)) (bA (pv 3) bC))) (fun _=>rfl)))
    (bI (bU iJ))
    bW))
   (cg (PSB.mk (cM (X8 (bQ bM (pv 4) bF (fun _ _=>rfl)))))
   (cg (PSB.mk (cF (dD (cX (bL nA (hr.mono (by decide)) (by rfl) (bA (bL jH (hr.mono (by decide)) (by rfl) (bA (pv 2) bC)) (bA (pv 3) bC))) (fun _=>rfl)))
    (bI (bU iJ))
    bW))
   (cg (PSB.mk (bV (i:=5) lQ.nd rfl (Or.inl rfl) (bL yH (hr.mono (by decide)) (by rfl) (bA (bL mZ (hr.mono (by decide)) (by rfl) (bA (pv 0) (bA bF bC))) (bA (pv 1) bC)))))
   (cg (PSB.mk (bV (i:=6) lQ.nd rfl (Or.inl rfl) (jM yM (by rfl) T.vM boot_list (bA (pv 5) bC))))
   (cg (PSB.mk (cF (PW.pt (pw_or (bZ (PK hr.units) (bL nq (hr.mono (by decide)) (by rfl) (bA (pv 2) (bA (pv 6) bC))) (mX (bA fG (bA iY bC))) (cj _)) (pw_or1 (bZ Kl (bL uY (hr.mono (by decide)) (by rfl) (bA (pv 2) (bA (pv 6) bC))) iJ (cj _)))))
    (bI (bU iJ))
    bW))
   (cg (PSB.mk (qj (bL yV (hr.mono (by decide)) (by rfl) (bA (bL mZ (hr.mono (by decide)) (by rfl) (bA (pv 0) (bA bF bC))) (bA (pv 5) (bA (pv 1) bC)))) (iT (n:=2) rfl (cC (cD (i:=7) lQ.nd rfl (Or.inl rfl)) (cC (cD (i:=8) lQ.nd rfl (Or.inl rfl)) gQ)))))
   (cg (PSB.mk (qj (bL nq (hr.mono (by decide)) (by rfl) (bA (pv 2) (bA (pv 8) bC))) (iT (n:=2) rfl (cC (cD (i:=9) lQ.nd rfl (Or.inl rfl)) (cC (cD (i:=10) lQ.nd rfl (Or.inl rfl)) gQ)))))
   (cg (PSB.mk (cF (PW.pt (pw_or (bZ zA (pv 9) fG (cj _)) (pw_or (cX (bO jw (by rfl) T.cu boot_isinstance (bA (pv 10) (bA (j9 (v:=.ty "bool") (by rfl) T.JQ boot_bool rfl) bC))) (fun _=>rfl)) (pw_or1 (bZ zA (pv 10) (pv 7) (cj _))))))
    (bI (bU iJ))
    bW))
   (cg (PSB.mk (cF (PW.pt (pw_or (bZ (PK hr.units) (bL nq (hr.mono (by decide)) (by rfl) (bA (pv 2) (bA (pv 6) bC))) (mX (bA fG (bA iY bC))) (cj _)) (pw_or1 (bZ Kl (bL uY (hr.mono (by decide)) (by rfl) (bA (pv 2) (bA (pv 6) bC))) iJ (cj _)))))
    (bI (bU iJ))
    bW))
   (uU (PSB.mk (bU (bL nA (hr.mono (by decide)) (by rfl) (bA (pv 6) (bA (pv 5) bC))))))))))))))))))))),?_⟩
  refine bY fun R1 hR1=>?_
  refine d8 ⟨_,rfl,_,rfl,0,rfl,hs,hl,by decide,_,rfl,fun n H1 n12 S1=>⟨5,n,6,rfl,Same.sql S1 hs,hl,by decide,n12,by decide,fun r xs dss H2 S2 fr hr2 ld rd dm=>?_⟩⟩
  have SH2:=S1.trans S2
  have lx:xs.length = n:=by rw [rd.len,ld]
  subst hR1
  refine bY fun R1 hR1=>?_
  refine d8 ⟨_,rfl,1,rfl,Same.sql SH2 hs,hl,by decide,_,rfl,2,rfl,Same.sql SH2 hs,hl,by decide,_,rfl,fun ps x y H3 S3 h3 x0 xy y1 gx=>⟨_,rfl,_,x,y,ps,r,xs,dss,n,6,rfl,h3,x0,xy,y1,gx,S3 _ _ hr2,rd.same S3,ld,n12,by decide,dm,fun o H4 rms S4 fo hh ok hi=>?_⟩⟩
  have SH4:=SH2.trans (S3.trans S4)
  have hr4:=S4 _ _ (S3 _ _ hr2)
  have rd4:=(rd.same S3).same S4
  have few:=hi.few ok
  have hI:=hh
  subst hR1
  dsimp only [dI,List.set_cons_succ,List.set_cons_zero]
  refine bY fun R1 hR1=>?_
  have z9:100 < sizeLine:=by decide
  have vl:(iC rms).length = n:=by rw [hi.first,ak,ld]
  refine d8 (R7 ((iC rms).map stV) rfl hr4 (by rw [ak,vl,lx]) (by rw [ak,vl]; omega) ?_ fun lf H5 S5 ff hf=>?_)
  .intro k v y Hc R hk hv Sc r'
   have lk:k < dss.length:=by rw [<- rd.len]; exact (ao.mp hk).1
   obtain ⟨lk',ek,hlk,dd⟩:=rd4.at_ k _ (aj lk)
   rw [hk] at ek
   cases ek
   rw [hi.first,List.map_map,aq,aj lk] at hv
   have fin:∀ Hd,Same Hc Hd->R (stV (if 0 < dss[k].length then some 0 else none)) Hd:=fun Hd Sd=>by
    have:y = stV (if 0 < dss[k].length then some 0 else none):=(Option.some.inj hv).symm
    rw [<- this]
    exact r' Hd Sd
   refine ⟨dh,fun p1 Hd Sd fd hd=>⟨_,rfl,lk',_,rfl,Sd _ _ (Sc _ _ hlk),_,_,rfl,rfl,.inr ⟨decide (0 < dss[k].length),?_,p1,_,_,_,rfl,rfl,hd,?_,fin Hd Sd⟩⟩⟩
   .rw [ak]
    exact congrArg (fun b=>[V.bl b]) (decide_eq_decide.mpr (by omega))
   .by_cases z:0 < dss[k].length
    .rw [if_pos z,decide_eq_true z]; exact eE
    .rw [if_neg z,decide_eq_false z]; exact fV
  have hh5:=hh.same S5
  have hr5:=S5 _ _ hr4
  have rd5:=rd4.same S5
  have SH5:=SH4.trans S5
  subst hR1
  refine bY fun R1 hR1=>?_
  refine d8 ⟨_,rfl,o,ps,rms,rfl,hh5,few,fun r1 Ha Sa fa ha=>⟨_,rfl,o,ps,rms,rfl,hh5.same Sa,few,fun r2 Hb Sb fb hb=>⟨dh,fun ph Hc Sc fc hc=>?_⟩⟩⟩
  have n12':r1 ≠ r2:=bB ha fb
  have nh2:ph ≠ r2:=(bB hb fc).symm
  have nh1:ph ≠ r1:=(bB (Sb _ _ ha) fc).symm
  have f25:=Same.free Sa fb
  have S5c:=Sa.trans (Sb.trans Sc)
  have ha:=Sc _ _ (Sb _ _ ha)
  have hb:=Sc _ _ hb
  subst hR1
  dsimp only [dI,List.set_cons_succ,List.set_cons_zero]
  refine bY fun R1 hR1=>?_
  have fln:((iC rms).map stV).length = n:=by rw [ak,vl]
  refine dW ⟨_,rfl,ph,_,1,_,rfl,rfl,hc,eE,r2,_,rfl,hb,_,_,rfl,hb,by omega,?_⟩
  have S5d:Same H5 (upd Hc r2 (.lst ((iC rms).map stV ++ [.int 1]))):=fun b u e=>(bG (bB e f25)).trans (S5c _ _ e)
  have ha:upd Hc r2 (.lst ((iC rms).map stV ++ [.int 1])) r1 = _:=(bG n12').trans ha
  have hc:upd Hc r2 (.lst ((iC rms).map stV ++ [.int 1])) ph = _:=(bG nh2).trans hc
  generalize upd Hc r2 (.lst ((iC rms).map stV ++ [.int 1])) = Hd at S5d ha hc ⊢
  subst hR1
  dsimp only
  refine bY fun R1 hR1=>?_
  refine dW ⟨_,rfl,ph,_,0,_,rfl,rfl,hc,fV,_,rfl,r1,lf,iC rms,rfl,ha,S5d _ _ hf,by omega,true,rfl,?_⟩
  show R1 _ _ _
  subst hR1
  refine bY fun R1 hR1=>?_
  refine dW ⟨_,rfl,ph,_,0,_,rfl,rfl,hc,fV,r1,_,rfl,ha,?_⟩
  have S5e:Same H5 (upd Hd r1 (.lst [])):=fun b u e=>(bG (bB e fa)).trans (S5d _ _ e)
  generalize upd Hd r1 (.lst []) = He at S5e ⊢
  clear ha hb hc Sa Sb Sc S5c S5d
  subst hR1
  dsimp only
  refine bY fun R1 hR1=>?_
  refine dW ⟨_,rfl,o,ps,rms,rfl,hh5.same S5e,few,fun r3 Hf Sf f3 h3=>⟨_,rfl,r3,lf,iC rms,rfl,h3,Sf _ _ (S5e _ _ hf),by omega,true,rfl,?_⟩⟩
  show R1 _ _ _
  have S5f:=S5e.trans Sf
  subst hR1
  refine bY fun R1 hR1=>?_
  refine d8 ⟨_,rfl,3,rfl,Same.sql (SH5.trans S5f) hs,hl,by decide,_,rfl,_,r,xs,n,dss,rfl,S5f _ _ hr5,rd5.same S5f,by omega,fun ds hd=>by have:=dm ds hd; omega,fun lp pl Hg Sg fp hp pf=>?_⟩
  have S5g:=S5f.trans Sg
  have pln:=pf.1
  subst hR1
  dsimp only [dI,List.set_cons_succ,List.set_cons_zero]
  refine bY fun R1 hR1=>?_
  refine d8 ⟨_,rfl,lp,_,rfl,hp,fun ld Hh Sh fl hld=>?_⟩
  have S5h:=S5g.trans Sh
  have hp:=Sh _ _ hp
  have hh6:=hh5.same S5h
  have SH6:=SH5.trans S5h
  have hr6:=S5h _ _ hr5
  have rd6:=rd5.same S5h
  clear Sf Sg Sh S5e S5f S5g h3
  subst hR1
  dsimp only [dI,List.set_cons_succ,List.set_cons_zero]
  refine bY fun R1 hR1=>?_
  -- a plan is none of what is refused
  have okp:∀ (u7 u8 u9 u10:Option V) (H9:Hp) (D9:Ends),Same Hh H9->(∀ H',Same Hh H'->D9.nx [some (.ref a),some (.ref r),some (.ref o),some (.ref lf),some (.ref ph),some (.ref lp),some (.ref ld),u7,u8,u9,u10] H')->zX (tOr (ux (tOp (SQ true) (v9 (Eu D) (mU (sV 2) (mU (sV 6) sX))) (ZK (mU (tC (V.str (Str.ofString "none"))) (mU (tC V.non) sX))))) (ux (tOp (Py true) (v9 (fun vs H Q _=>nW D vs H Q fun _ _ _=>False) (mU (sV 2) (mU (sV 6) sX))) (tC (V.bl true))))) (Ka (tC (V.bl false))) wG D9 [some (.ref a),some (.ref r),some (.ref o),some (.ref lf),some (.ref ph),some (.ref lp),some (.ref ld),u7,u8,u9,u10] H9:=fun u7 u8 u9 u10 H9 D9 S9 h9=>by
   refine IK (RP ?_)
   refine ⟨_,rfl,_,rfl,o,ps,.ref ld,rms,none,rfl,hh6.same S9,few,⟨_,j5 (S9 _ _ hld)⟩,hi.fits pf (S9 _ _ hld),fun t Ha Sa ht=>⟨dh,fun t2 Hb Sb f2 h2=>⟨.tuple [.str "none",.none],.tuple [.str "none",.none],.tup (Sb _ _ ht) (.cons (.str _) (.cons .non .nil)),.tup h2 (.cons (.str _) (.cons .non .nil)),by decide +kernel,by decide +kernel,false,congrArg V.bl (show (!PyData.eqv (.tuple [.str "none",.none]) (.tuple [.str "none",.none])) = false by decide +kernel),?_⟩⟩⟩
   have SS:=S9.trans (Sa.trans Sb)
   refine ⟨_,rfl,_,rfl,?_⟩
   dsimp only [sX]
   exact BP (r:=none) (hh6.same SS) few ⟨_,j5 (SS _ _ hld)⟩ (hi.fits pf (SS _ _ hld)) (fun _ H' S=>⟨true,rfl,false,rfl,h9 H' (SS.trans S)⟩) (fun u e=>by cases e)
  refine dW (okp _ _ _ _ Hh _ (fun _ _ z=>z) fun H7 S7=>?_)
  subst hR1
  dsimp only
  refine bY fun R1 hR1=>?_
  refine dW (JZ ⟨_,rfl,4,rfl,Same.sql (SH6.trans S7) hs,hl,by decide,_,rfl,_,rfl,_,lp,r,pl,xs,n,dss,rfl,S7 _ _ hp,S7 _ _ hr6,rd6.same S7,pf,by omega,fun t H8 w v S8 h8 ov cs=>⟨t,_,rfl,h8,rfl,_,_,rfl,_,_,rfl,rfl,?_⟩⟩)
  obtain ⟨pr,sw,ty,ety,sb⟩ : Cw rms H8 v (some w)/\JC w w = true/\∃ t,tyS H8 w = some t/\HN t "bool" = false:=by
   have rl:=hi.len
   rcases cs with ⟨rfl,bd⟩ | ⟨k,l2,ys,x,rfl,rfl,c1,c2,c3,c4,c5,c6⟩
   .exact ⟨.inr ⟨rfl,fun l xs e h=>by rw [rl]; exact bd.2 l xs e h⟩,rfl,_,rfl,by decide⟩
   .have lk:k < dss.length:=by rw [<- c2]; exact (ao.mp c4).1
    refine ⟨.inl ⟨l2,ys,rfl,c1,by rw [rl]; exact c2,c3,.inr ⟨k,x,rfl,c4,by rw [hi.dn (aj lk)]; exact c5 _ (aj lk),fun j y hj ey=>?_⟩⟩,rfl,_,rfl,by decide⟩
    have lj:j < dss.length:=by omega
    rw [hi.dn (aj lj)]
    exact c6 j y _ hj ey (aj lj)
  have S78:=S7.trans S8
  subst hR1
  dsimp only [List.set_cons_succ,List.set_cons_zero]
  refine bY fun R1 hR1=>?_
  refine dW (JZ ⟨_,rfl,_,rfl,o,ps,v,rms,some w,rfl,hh6.same S78,few,ov,pr,fun t2 H9 S9 h9=>⟨t2,_,rfl,h9,rfl,_,_,rfl,_,_,rfl,rfl,?_⟩⟩)
  have S79:=S78.trans S9
  subst hR1
  dsimp only [List.set_cons_succ,List.set_cons_zero]
  refine bY fun R1 hR1=>?_
  refine dW ⟨_,rfl,rfl,false,congrArg (fun b=>V.bl (!b)) (decide_eq_true rfl),_,rfl,_,_,ty,rfl,by simp,yK S9 ety,false,by rw [sb]; rfl,_,rfl,_,rfl,sw,false,congrArg (fun b=>V.bl (!b)) (decide_eq_true rfl),?_⟩
  show R1 _ _ _
  subst hR1
  refine bY fun R1 hR1=>?_
  refine dW (okp _ _ _ _ H9 _ S79 fun H10 S10=>?_)
  subst hR1
  exact ⟨_,rfl,_,rfl,ld,lp,pl,rfl,S10 _ _ hld,S10 _ _ hp,by omega,hQ _⟩
end
theorem law_fn {l:PySem.W.OpenLaw} {w:World} {K:Frag} {mg:Str->Option Value} (T0:∃ D,Txt K mg D) (base:Heap) (f:Addr) (fd:FuncData) (F:Fun K Ef Ef Ht f fd) :
  cB l.prog w K mg base CX0 10 f fd Jg (K6 K):=by
 obtain ⟨D,T⟩:=T0
 have mZ:∀ a ns,OkF l.prog w K mg base 1 q_ rE (uT K a ns):=fun a ns=>T.X_.ok fun _ _ F=>Wk F a ns
 have cN:OkF l.prog w K mg base 1 fj fu jj:=T.Jk.ok fun _ _ F=>Gx F T
 have Rx:OkF l.prog w K mg base 1 yQ xY Ep:=T.aaq.ok fun _ _ F=>Yr F T
 have gP:OkF l.prog w K mg base 1 iZ iV gA:=T.Ng.ok fun _ _ F=>JF F T
 have gB:OkF l.prog w K mg base 2 jU jT jO:=T.RQ.ok fun _ _ F=>N5 F Rx
 have lB:OkF l.prog w K mg base 2 mH lY kh:=T.Tv.ok fun _ _ F=>RX F T cN gP
 have mY:OkF l.prog w K mg base 1 nQ nM (nF (K:=K)):=T.Wm.ok fun _ _ F=>R_ F
 have Xx:OkF l.prog w K mg base 3 uV uK (qI (K:=K) fun a b=>a + b):=T.Yp.ok fun _ _ F=>Vo F lB
 have Wv:OkF l.prog w K mg base 3 pB qz (qI (K:=K) fun a b=>a - b):=T.U8.ok fun _ _ F=>Qi F lB
 have gO:OkF l.prog w K mg base 1 jc jd o_:=T.N7.ok fun _ _ F=>J3 F T
 have fM:OkF l.prog w K mg base 2 gw gG (eZ (K:=K)):=T.J1.ok fun _ _ F=>Hq F T cN gP
 have fY:OkX l.prog w K mg base 3 gj fZ (f9 (K:=K)):=T.FZ.okX fun _ _ F=>Al F T gO fM
 have uN:OkX l.prog w K mg base 2 cT cV gU:=T.uo.okX fun _ _ F=>rY F T gO
 have Bl:OkX l.prog w K mg base 3 dY dX (lN (K:=K)):=T.zf.okX fun _ _ F=>wW F T fM mY
 have gY:OkI l.prog w K mg base (CXO l.prog w) 4 D.Door_init iy (gR (K:=K) D):=T.Er.ok fun _ F=>Fg F T fY
 have oK:OkI l.prog w K mg base (CXO l.prog w) 5 D.Sure_init jx (lG (K:=K) D):=T.Gg.ok fun _ F=>Dz F T gY uN
 have pO:OkI l.prog w K mg base CX0 1 D.Door_ways jq (lC D):=T.Cy.ok fun _ F=>CQ F T
 have Ec:OkF l.prog w K mg base 2 pY pQ vA:=T.Vg.ok fun _ _ F=>RN F gP
 have TF:OkF l.prog w K mg base 3 pH pA ud:=T.f_total.ok fun _ _ F=>RV F T Ec lB
 have Ru:OkX l.prog w K mg base 4 gq gH jo:=T.Aw.okX fun _ _ F=>zK F T uN Bl TF.wild
 have NT:OkX l.prog w K mg base 4 gJ gM (rC K):=T.Ax.okX fun _ _ F=>yW F T Xx.wild
 have cY:OkI l.prog w K mg base (CXO l.prog w) 5 D.Mixed_init d_ (dG K D):=T.Bf.ok fun _ F=>A_ F T gY Ru NT
 have oH:OkI l.prog w K mg base (CXO l.prog w) 6 D.Toss_init jt (lD K D):=T.Fw.ok fun _ F=>Fz F T fY Bl Wv.wild cY
 have oM:OkI l.prog w K mg base (CXO l.prog w) 6 D.Even_init jK (lu K D):=T.D_.ok fun _ F=>Ek F T cY
 have m8:OkF l.prog w K mg base 3 gK gC (jm (K:=K)):=T.Av.ok fun _ _ F=>zq F T fM mY
 have oX:OkF l.prog w K mg base 2 iK iH j8:=T.DP.ok fun _ _ F=>Bb F T gO
 have lg:OkF l.prog w K mg base 2 eX eV (iz D):=T.wR.ok fun _ _ F=>wz F T pO
 have qu:OkF l.prog w K mg base 3 jr jF (lA D):=T.Hv.ok fun _ _ F=>Dh F T lg
 have HB:OkI l.prog w K mg base CX0 4 D.Hall_init jl (lM K D):=T.Em.ok fun _ F=>E_ F T m8 oX qu
 have d7:OkI l.prog w K mg base CX0 1 D.Hall_size fP (gW D):=T.Gj.ok fun _ F=>Dp F T
 have jz:OkI l.prog w K mg base CX0 2 D.Hall_check_room dO (jW D):=T.sO.ok fun _ F=>tu F T cN d7
 have fX:OkI l.prog w K mg base CX0 3 D.Hall_offers eO (jy D):=T.yE.ok fun _ F=>yq F T jz
 have cL:OkF l.prog w K mg base 1 eU eY dH:=T.P_.ok fun _ _ F=>Nv F T
 have Jo:OkF l.prog w K mg base 2 uQ uH En:=T.Yg.ok fun _ _ F=>UJ F T cL
 have xu:OkF l.prog w K mg base 2 qF qT vd:=T.Vw.ok fun _ _ F=>Rm F T cL
 have Fx:OkF l.prog w K mg base 8 pU qM (uy K D):=T.Wj.ok fun _ _ F=>Pq F T oK cY oH oM
 have J2:OkF l.prog w K mg base 9 tD tQ (CG K D):=T.Xw.ok fun _ _ F=>Um F T xu Fx HB.wild
 have jZ:OkI l.prog w K mg base CX0 1 D.NoPlan_init gF (qN D.NoPlan):=T.yS.ok fun _ F=>xU F T
 have Rv:OkF l.prog w K mg base 3 xP zO Ea:=T.Zo.ok fun _ _ F=>Xa F T gB
 have Dk:OkF l.prog w K mg base 3 pN qe xV:=T.Wb.ok fun _ _ F=>Qh F T cL gB
 have J_:OkF l.prog w K mg base 4 ug tU wZ:=T.Xu.ok fun _ _ F=>V2 F T cL gB Rv
 have CW:∀ a ns,OkF l.prog w K mg base 5 ql pZ (yZ K a ns):=fun a ns=>T.Wn.ok fun _ _ F=>Ro F T a ns (mZ a ns) cL J_
 have JR:OkF l.prog w K mg base 2 tY tZ CT:=T.Xq.ok fun _ _ F=>Ww F T cN
 have jY:OkX l.prog w K mg base 4 gb gk (nW D):=T.DR.okX fun _ _ F=>yL F T JR d7 fX jZ
 have jH:OkF l.prog w K mg base 4 iM iQ (yC D):=T.Ew.ok fun _ _ F=>Bc F T d7 fX
 have nA:OkF l.prog w K mg base 1 lV mF sJ:=T.Mx.ok fun _ _ F=>Iu F T
 have yH:OkF l.prog w K mg base 2 nY nR vZ:=T.Rt.ok fun _ _ F=>Ni F T cL
 have Km:OkF l.prog w K mg base 1 zm yr Je:=T.abx.ok fun _ _ F=>Xz F T
 have yV:OkF l.prog w K mg base 2 nG nH v7:=T.Pn.ok fun _ _ F=>Mq F T cL Km
 have nq:OkF l.prog w K mg base 5 mz lR (Eu D):=T.Nu.ok fun _ _ F=>Ji F T jY
 exact Ym F T mZ Jo CW Dk J2 jH nA yH nq jY.calm yV
end K20
open PySem PySem.W PyProof.Rows
set_option maxRecDepth 100000 in
set_option maxHeartbeats 0 in
theorem PySem.Challenge.cw_chancehall_k20_plans_holds : PySem.Challenge.rw_chancehall_k20_plans.Holds := by
 w_on
 refine holds_law H20.wsd fun said=>?_
 refine holds_open (q:=H20.qv) (loose:=[]) (XP:=XL H20.qv []) (YP:=InK H20.KH) H20.left (InK.of H20.asK) InK.keeps H20.hX XL.keeps (by rfl) (by rfl) (by rfl) H20.hR (by rfl) said (by decide +kernel) ⟨rfl,rfl,rfl,rfl,rfl,by decide +kernel⟩ ?hw ?hc
 (case hw=>w_witness2)
 k_fill
 refine L2.aat (l:=PySem.Challenge.rw_chancehall_k20_plans) (k:=10) (x := "_law_script") rfl rfl ⟨rfl,by decide,by decide⟩ (fun w h Y=>(show (H20.KH w.params).In h from Y)) ?F
 case F =>
  intro w mg fa h KX G hmg
  refine ⟨K20.Ht,?_,fun base f fd F=>K20.law_fn ?T base f fd F⟩
  .exact L2.q_f 1 fun _ _ _ _ _ _ _=>rfl
  case T =>
   refine ⟨⟨31,44,56,68,80,92,111,130,149,168,319,340,359,378,395,480,185,186,302,309,316,337,356,375,392,437,444,451,458,465,472,477,165⟩,⟨L2.q_c,L2.q_c,L2.q_c,L2.q_c,L2.q_c,L2.q_c,L2.q_c,L2.q_c,L2.q_c,L2.q_c,L2.q_c,L2.q_c,L2.q_c,L2.q_c,L2.q_c,L2.q_c,L2.q_c,L2.q_c,L2.q_x,L2.q_x,L2.q_x,L2.q_x,by k_is,by k_is,by k_is,L2.q_g,L2.q_t,L2.q_t,L2.q_M,L2.q_4,L2.q_I,L2.q_m,L2.q_m,L2.q_n,L2.q_n,L2.q_n,L2.q_n,L2.q_n,L2.q_n,L2.q_M,L2.q_4,L2.q_I,L2.q_m,L2.q_m,L2.q_n,L2.q_n,L2.q_n,L2.q_n,L2.q_n,L2.q_n,L2.q_M,L2.q_4,L2.q_I,L2.q_m,L2.q_m,L2.q_n,L2.q_n,L2.q_n,L2.q_n,L2.q_n,L2.q_n,L2.q_M,L2.q_4,L2.q_I,L2.q_m,L2.q_m,L2.q_n,L2.q_n,L2.q_n,L2.q_n,L2.q_n,L2.q_n,L2.q_M,L2.q_4,L2.q_I,L2.q_m,L2.q_m,L2.q_n,L2.q_n,L2.q_n,L2.q_n,L2.q_n,L2.q_n,L2.q_M,L2.q_4,L2.q_I,L2.q_m,L2.q_m,L2.q_m,L2.q_m,L2.q_m,L2.q_m,L2.q_n,L2.q_n,L2.q_n,L2.q_n,L2.q_n,L2.q_n,L2.q_E,L2.q_S,L2.q_5,by k_is,by k_is,L2.q_n,by kit_is,by kit_is,by kit_is,by kit_is,by kit_is,by kit_is,by kit_is,by kit_is,by kit_is,by kit_is,L2.q_b,L2.q_B,L2.q_h 3 fun _ _ _ _ _ _ _ _ _=>rfl,L2.q_B,L2.q_h 1 fun _ _ _ _ _ _ _=>rfl,L2.q_B,L2.q_h 2 fun _ _ _ _ _ _ _ _=>rfl,L2.q_B,L2.q_h 4 fun _ _ _ _ _ _ _ _ _ _=>rfl,L2.q_B,L2.q_h 4 fun _ _ _ _ _ _ _ _ _ _=>rfl,L2.q_B,L2.q_h 6 fun _ _ _ _ _ _ _ _ _ _ _ _=>rfl,L2.q_B,L2.q_h 4 fun _ _ _ _ _ _ _ _ _ _=>rfl,L2.q_B,L2.q_h 3 fun _ _ _ _ _ _ _ _ _=>rfl,L2.q_B,L2.q_h 1 fun _ _ _ _ _ _ _=>rfl,L2.q_B,L2.q_h 1 fun _ _ _ _ _ _ _=>rfl,L2.q_B,L2.q_h 2 fun _ _ _ _ _ _ _ _=>rfl,L2.q_B,L2.q_h 2 fun _ _ _ _ _ _ _ _=>rfl,L2.q_B,L2.q_h 3 fun _ _ _ _ _ _ _ _ _=>rfl,L2.q_B,L2.q_h 2 fun _ _ _ _ _ _ _ _=>rfl,L2.q_h 2 fun _ _ _ _ _ _ _ _=>rfl,L2.q_z,L2.q_z,L2.q_z,L2.q_z,L2.q_z,L2.q_z,L2.q_z,L2.q_z,L2.q_z,L2.q_z,L2.q_z,L2.q_z,L2.q_z,L2.q_z,L2.q_z,L2.q_f 1 fun _ _ _ _ _ _ _=>rfl,L2.q_f 1 fun _ _ _ _ _ _ _=>rfl,L2.q_f 2 fun _ _ _ _ _ _ _ _=>rfl,L2.q_f 2 fun _ _ _ _ _ _ _ _=>rfl,L2.q_f 1 fun _ _ _ _ _ _ _=>rfl,L2.q_f 2 fun _ _ _ _ _ _ _ _=>rfl,L2.q_f 2 fun _ _ _ _ _ _ _ _=>rfl,L2.q_f 2 fun _ _ _ _ _ _ _ _=>rfl,L2.q_f 1 fun _ _ _ _ _ _ _=>rfl,L2.q_f 1 fun _ _ _ _ _ _ _=>rfl,L2.q_f 1 fun _ _ _ _ _ _ _=>rfl,L2.q_f 2 fun _ _ _ _ _ _ _ _=>rfl,L2.q_f 2 fun _ _ _ _ _ _ _ _=>rfl,L2.q_f 1 fun _ _ _ _ _ _ _=>rfl,L2.q_f 2 fun _ _ _ _ _ _ _ _=>rfl,L2.q_f 1 fun _ _ _ _ _ _ _=>rfl,L2.q_f 1 fun _ _ _ _ _ _ _=>rfl,L2.q_f 1 fun _ _ _ _ _ _ _=>rfl,L2.q_f 1 fun _ _ _ _ _ _ _=>rfl,L2.q_f 1 fun _ _ _ _ _ _ _=>rfl,L2.q_f 1 fun _ _ _ _ _ _ _=>rfl,L2.q_f 2 fun _ _ _ _ _ _ _ _=>rfl,L2.q_f 2 fun _ _ _ _ _ _ _ _=>rfl,L2.q_f 2 fun _ _ _ _ _ _ _ _=>rfl,L2.q_f 2 fun _ _ _ _ _ _ _ _=>rfl,L2.q_f 2 fun _ _ _ _ _ _ _ _=>rfl,L2.q_f 2 fun _ _ _ _ _ _ _ _=>rfl,L2.q_f 2 fun _ _ _ _ _ _ _ _=>rfl,L2.q_f 1 fun _ _ _ _ _ _ _=>rfl,L2.q_f 3 fun _ _ _ _ _ _ _ _ _=>rfl,L2.q_f 2 fun _ _ _ _ _ _ _ _=>rfl,L2.q_f 4 fun _ _ _ _ _ _ _ _ _ _=>rfl,L2.q_f 3 fun _ _ _ _ _ _ _ _ _=>rfl,L2.q_f 3 fun _ _ _ _ _ _ _ _ _=>rfl,L2.q_f 2 fun _ _ _ _ _ _ _ _=>rfl,L2.q_f 1 fun _ _ _ _ _ _ _=>rfl,L2.q_f 2 fun _ _ _ _ _ _ _ _=>rfl,L2.q_f 2 fun _ _ _ _ _ _ _ _=>rfl,L2.q_f 3 fun _ _ _ _ _ _ _ _ _=>rfl,L2.q_f 2 fun _ _ _ _ _ _ _ _=>rfl⟩⟩
#print axioms PySem.Challenge.cw_chancehall_k20_plans_holds
