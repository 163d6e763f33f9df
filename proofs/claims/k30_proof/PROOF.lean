import PyProof.Rows.All
import Wide.All
import OpenK.AllK
import Wide.FinOn
import Lean
import PyProof.EqAt
import PyProof.EqKinds
import PyProof.TupleCall
import PyProof.EqLayable
import KE.KIntText
import PySem.Challenge.RW_chancehall_k30_most_mendings
set_option Elab.async false
set_option linter.all false
set_option maxRecDepth 100000
set_option maxHeartbeats 4000000
namespace L2.Once
open PySem PySem.W
def z:Pos:=⟨0,0,0,0⟩
def o11:Obj:={ cls:=.type "tuple",data:=.seq #[] }
def o12:Obj:={ cls:=.none,data:=.fields #[] }
def o13:Obj:={ cls:=.type "code",data:=.fields #[.str "<module>" 182,.str "<module>" 183,.str "/claim/cut.py" 184,.int 1 0,.int 0 0,.int 0 0,.int 0 0,.int 0 0,.ref 11,.bool false,.int 181 0,.ref 12,.none,.none,.none,.none,.int 185 0,.int 1 0,.str "/claim/cut.py" 186] }
def o14:Obj:={ cls:=.type "frame",slots:=#[some (.ref 13),some (.ref 3),some (.ref 3),none,some (.str "__main__" 164),none,some (.ref 0)] }
abbrev lf (o:Obj):BT:=.node o .nil .nil
noncomputable def tr (P:Params):BT:=.node (boot_o_0 P)
 (.node (boot_o_1 P) (.node (boot_o_3 P) (lf (boot_o_7 P)) (lf o11)) (.node (boot_o_5 P) (lf (boot_o_9 P)) (lf o13)))
 (.node (boot_o_2 P) (.node (boot_o_4 P) (lf (boot_o_8 P)) (lf o12)) (.node (boot_o_6 P) (lf (boot_o_10 P)) (lf o14)))
noncomputable def S0 (w:World) (os:OsState):Shared:=⟨boot_heap w.params,Array.mk [],boot_drawn,boot_toks,os⟩
noncomputable def Sa (w:World) (os:OsState):Shared:=⟨⟨Array.mk [boot_o_0 w.params,boot_o_1 w.params,boot_o_2 w.params,boot_o_3 w.params,boot_o_4 w.params,boot_o_5 w.params,boot_o_6 w.params,boot_o_7 w.params,boot_o_8 w.params,boot_o_9 w.params,boot_o_10 w.params,o11,o12,o13,o14],{}⟩,Array.mk [],{},187,os⟩
noncomputable def Sb (w:World) (os:OsState):SharedT:=⟨tr w.params,15,{},⟨[]⟩,{},187,os⟩
def env (p:Program):Env:={ scope:=p.main.scope,locals:=mainNs,globals:=mainNs,cells:=[],code:=.ref 13,frame:=some 14 }
def cE (p:Program):Code:=.body (behindTheImports p) (env p)
abbrev ann:Option Value:=some (.ref 6)
abbrev B:List Frame:=[topFrame z]
theorem size (w:World):((boot_heap w.params).isNs mainGlobals && (Array.mk [] : Array GenState).size == 0,(boot_heap w.params).objs.size,(boot_heap w.params).nsMap mainGlobals "__annotations__") = (true,11,ann):=by
 rw [Fast.te8920871248978507458]; kernel_rfl
def EndsBy (p:Program) (w:World) (M:Nat) (S:SharedT) (l:List Stmt) (q:Pos) (G:Shared→Prop):Prop:=∃ s,topRun treeTable p w 11 ann M S.abs (restOf l (env p) (cE p) q B) = some s∧G s
theorem EndsBy.cut {p:Program} {w:World} {n M:Nat} {S S':SharedT} {l1 l2:List Stmt} {q q':Pos} {G:Shared→Prop} (h:segRunT treeTable p w 11 ann 1 n S (piecesOf l1 (env p) (cE p) q B) = some (.next,S',cE p,q')) (k:EndsBy p w M S' l2 q' G):EndsBy p w (n + M) S (l1 ++ l2) q G :=
 let ⟨s,a,b⟩:=k
 ⟨s,piece_app (segRun_of h) a,b⟩
theorem EndsBy.cutAt {p:Program} {w:World} {n m M:Nat} {S S':SharedT} {l:List Stmt} {q q':Pos} {G:Shared→Prop} (h:segRunT treeTable p w 11 ann 1 n S (piecesOf (l.take m) (env p) (cE p) q B) = some (.next,S',cE p,q')) (k:EndsBy p w M S' (l.drop m) q' G):EndsBy p w (n + M) S l q G:=by
 have:=EndsBy.cut h k
 rwa [List.take_append_drop] at this
def Good {α:Type} (p q:Program) (loose:List Str) (Xt:Shared→Bool) (Yf:Shared→α) (Ya:World→α) (g0:Bool) (w:World) (s:Shared):Prop :=
 (staticsOk (importedModules p.main.body) (boot_heap w.params) s.heap && namesBound p s.heap && gensDone s && laidKept (boot_heap w.params) s.heap,openSeen q loose (importedModules p.main.body) Xt g0 s,Yf s) = (true,openGood q loose,Ya w)
theorem EndsBy.last {p q:Program} {loose:List Str} {Xt:Shared→Bool} {α:Type} {Yf:Shared→α} {Ya:World→α} {g0:Bool} {w:World} {n k:Nat} {S:SharedT} {l:List Stmt} {q0 e:Pos}
  (big:(segRunT treeTable p w 11 ann 1 n S (piecesOf l (env p) (cE p) q0 B)).map (fun r =>
    (r.1,r.2.2.1,r.2.2.2,(topRun treeTable p w 11 ann k r.2.1.abs ⟨doneF .next,cE p,e,B⟩).map fun s =>
     (staticsOk (importedModules p.main.body) (boot_heap w.params) s.heap && namesBound p s.heap && gensDone s && laidKept (boot_heap w.params) s.heap,openSeen q loose (importedModules p.main.body) Xt g0 s,Yf s))) =
   some (.next,cE p,e,some (true,openGood q loose,Ya w))):EndsBy p w (n + k) S l q0 (Good p q loose Xt Yf Ya g0 w):=by
 obtain ⟨⟨f,sT,c,ps⟩,r1,r2⟩:=Option.map_eq_some_iff.mp big
 obtain ⟨rfl,rfl,rfl,r3⟩ : f = .next∧c = cE p∧ps = e∧_:=by simpa only [Prod.mk.injEq] using r2
 obtain ⟨s,t1,t2⟩:=Option.map_eq_some_iff.mp r3
 have q1:=piece_app (rest:=[]) (segRun_of r1) (piece_nil t1)
 rw [List.append_nil] at q1
 exact ⟨s,q1,t2⟩
theorem left_ends {p q:Program} {loose:List Str} {Xt:Shared→Bool} {α:Type} {Yf:Shared→α} {Ya:World→α} {N:Nat} {g0:Bool} {a b M:Nat}
  (open_:∀ w:World,(fencedOpening treeTable p w N).map (fun s=>(s.heap,s.gens,s.drawn,s.toks)) = some (boot_heap w.params,Array.mk [],boot_drawn,boot_toks))
  (pre:∀ w:World,(fun os=>topGo treeTable p w 11 ann a (S0 w os) (topStub p)) = fun os=>some (Sa w os,⟨denote treeTable (cE p),cE p,z,B⟩))
  (block:∀ w:World,(fun os=>segRun treeTable p w 11 ann 1 b (Sa w os) (blockOf (behindTheImports p) (env p) (cE p) z B)) = fun os=>some (.next,(Sb w os).abs,cE p,z))
  (ends:∀ (w:World) (os:OsState),EndsBy p w M (Sb w os) (behindTheImports p) z (Good p q loose Xt Yf Ya g0 w))
  (le:Nat.ble (a + (b + M)) N = true):LeftO p q loose Xt Yf Ya N g0:=fun w=>by
 obtain ⟨⟨h,gs,d,ks,os⟩,e1,e2⟩:=Option.map_eq_some_iff.mp (open_ w)
 obtain ⟨rfl,rfl,rfl,rfl⟩ : h = boot_heap w.params∧gs = Array.mk []∧d = boot_drawn∧ks = boot_toks:=by simpa using e2
 obtain ⟨z1,z2,z3⟩ : _∧_∧_:=by simpa only [Prod.mk.injEq] using size w
 obtain ⟨s,q1,t2⟩:=ends w os
 obtain ⟨l1,l2,l3⟩ : _∧_∧_:=by simpa only [Good,Prod.mk.injEq] using t2
 have q2:=go_top (congrFun (pre w) os) (piece_block (congrFun (block w) os) q1)
 have q3:=topRun_mono (N - (a + (b + M))) _ _ _ _ q2
 rw [show a + (b + M) + (N - (a + (b + M))) = N by have:=Nat.le_of_ble_eq_true le; omega] at q3
 have t:topFrom treeTable p w N ⟨boot_heap w.params,Array.mk [],boot_drawn,boot_toks,os⟩ = some s:=by
  unfold topFrom
  dsimp only
  rw [z1,z2,z3,show topRun treeTable p w 11 ann N ⟨boot_heap w.params,Array.mk [],boot_drawn,boot_toks,os⟩ (topStub p) = some s from q3]
  show (match staticsOk (importedModules p.main.body) (boot_heap w.params) s.heap && namesBound p s.heap && gensDone s && laidKept (boot_heap w.params) s.heap with | true=>_ | false=>_) = _
  rw [l1]
 unfold openEnds
 rw [e1]
 show (topFrom treeTable p w N _).map _ = _
 rw [t]
 exact congrArg some (Prod.ext l2 l3)
end L2.Once
namespace L2
open PySem
def defArgs (s:Stmt):Arguments:=match s with
 | .FunctionDef _ a _ _ _ _ _ _ _ _=>a
 | _=>{ posonlyargs:=[],args:=[],vararg:=none,kwonlyargs:=[],kw_defaults:=[],kwarg:=none,defaults:=[] }
def defBody (s:Stmt):List Stmt:=match s with
 | .FunctionDef _ _ b _ _ _ _ _ _ _=>b
 | _=>[]
def defScope (s:Stmt):Scope:=match s with
 | .FunctionDef _ _ _ _ _ _ sc _ _ _=>sc
 | _=>{ kind:=.function,names:=[],isGenerator:=false,isCoroutine:=false }
end L2
namespace K30
open PySem L2
def top (i:Nat):Stmt:=PySem.Challenge.pw_chancehall_k30_most_mendings.main.body.getD i (.Pass ⟨0,0,0,0⟩)
def mtop (i j:Nat):Stmt:=match top i with | .ClassDef _ _ _ b _ _ _ _ _ _ _=>b.getD j (.Pass ⟨0,0,0,0⟩) | _=>.Pass ⟨0,0,0,0⟩
end K30
namespace H30
open PySem PySem.W L2 L2.Once K30
abbrev p:Program:=PySem.Challenge.pw_chancehall_k30_most_mendings
noncomputable def q3_1 (P:Params):Obj:=⟨(.type "dict"),none,(.dict ⟨⟨PyData.keyHash P "__name__",(.str "__name__" 165),(.str "law_chancehall_k30_most_mendings" 721)⟩ :: ⟨PyData.keyHash P "__doc__",(.str "__doc__" 166),.none⟩ :: ⟨PyData.keyHash P "__package__",(.str "__package__" 167),.none⟩ :: ⟨PyData.keyHash P "__loader__",(.str "__loader__" 168),(.builtin "__main__.__loader__#opaque")⟩ :: ⟨PyData.keyHash P "__spec__",(.str "__spec__" 169),.none⟩ :: ⟨PyData.keyHash P "__annotations__",(.str "__annotations__" 170),(.ref 6)⟩ :: ⟨PyData.keyHash P "__builtins__",(.str "__builtins__" 171),(.ref 4)⟩ :: ⟨PyData.keyHash P "__file__",(.str "__file__" 173),(.str "/claim/cut.py" 172)⟩ :: ⟨PyData.keyHash P "__cached__",(.str "__cached__" 174),.none⟩ :: ⟨PyData.keyHash P "_wall",(.str "_wall" 193),(.ref 21)⟩ :: ⟨PyData.keyHash P "HallError",(.str "HallError" 213),(.ref 31)⟩ :: ⟨PyData.keyHash P "NoNumber",(.str "NoNumber" 229),(.ref 44)⟩ :: ⟨PyData.keyHash P "NoName",(.str "NoName" 245),(.ref 56)⟩ :: ⟨PyData.keyHash P "NoChance",(.str "NoChance" 261),(.ref 68)⟩ :: ⟨PyData.keyHash P "NoShare",(.str "NoShare" 277),(.ref 80)⟩ :: ⟨PyData.keyHash P "NoRoom",(.str "NoRoom" 302),(.ref 99)⟩ :: ⟨PyData.keyHash P "is_whole",(.str "is_whole" 311),(.ref 108)⟩ :: ⟨PyData.keyHash P "divisor",(.str "divisor" 322),(.ref 115)⟩ :: ⟨PyData.keyHash P "NOUGHT",(.str "NOUGHT" 327),(.ref 116)⟩ :: ⟨PyData.keyHash P "ONE",(.str "ONE" 330),(.ref 117)⟩ :: ⟨PyData.keyHash P "ratio",(.str "ratio" 339),(.ref 124)⟩ :: ⟨PyData.keyHash P "is_ratio",(.str "is_ratio" 348),(.ref 131)⟩ :: ⟨PyData.keyHash P "plus",(.str "plus" 356),(.ref 138)⟩ :: ⟨PyData.keyHash P "minus",(.str "minus" 364),(.ref 145)⟩ :: ⟨PyData.keyHash P "under",(.str "under" 372),(.ref 152)⟩ :: ⟨PyData.keyHash P "level",(.str "level" 380),(.ref 157)⟩ :: ⟨PyData.keyHash P "total",(.str "total" 388),(.ref 164)⟩ :: ⟨PyData.keyHash P "wait_of",(.str "wait_of" 402),(.ref 171)⟩ :: ⟨PyData.keyHash P "most_mendings",(.str "most_mendings" 408),(.ref 176)⟩ :: ⟨PyData.keyHash P "LONGEST_WORD",(.str "LONGEST_WORD" 412),(.int 8 411)⟩ :: ⟨PyData.keyHash P "is_word",(.str "is_word" 418),(.ref 181)⟩ :: ⟨PyData.keyHash P "check_head",(.str "check_head" 428),(.ref 188)⟩ :: ⟨PyData.keyHash P "check_room_name",(.str "check_room_name" 435),(.ref 195)⟩ :: ⟨PyData.keyHash P "check_chance",(.str "check_chance" 442),(.ref 202)⟩ :: ⟨PyData.keyHash P "check_pairs",(.str "check_pairs" 448),(.ref 207)⟩ :: ⟨PyData.keyHash P "joined_ways",(.str "joined_ways" 454),(.ref 212)⟩ :: ⟨PyData.keyHash P "Door",(.str "Door" 501),(.ref 243)⟩ :: ⟨PyData.keyHash P "Sure",(.str "Sure" 528),(.ref 264)⟩ :: ⟨PyData.keyHash P "Mixed",(.str "Mixed" 555),(.ref 283)⟩ :: ⟨PyData.keyHash P "Toss",(.str "Toss" 583),(.ref 302)⟩ :: ⟨PyData.keyHash P "Even",(.str "Even" 605),(.ref 319)⟩ :: ⟨PyData.keyHash P "check_share",(.str "check_share" 614),(.ref 328)⟩ :: ⟨PyData.keyHash P "numbers_of",(.str "numbers_of" 624),(.ref 335)⟩ :: ⟨PyData.keyHash P "numbered_ways",(.str "numbered_ways" 635),(.ref 342)⟩ :: ⟨PyData.keyHash P "offers_of",(.str "offers_of" 646),(.ref 349)⟩ :: ⟨PyData.keyHash P "Hall",(.str "Hall" 720),(.ref 404)⟩ :: ⟨PyData.keyHash P "_law_cell",(.str "_law_cell" 730),(.ref 415)⟩ :: ⟨PyData.keyHash P "_law_stream",(.str "_law_stream" 742),(.ref 422)⟩ :: ⟨PyData.keyHash P "_law_gcd",(.str "_law_gcd" 752),(.ref 429)⟩ :: ⟨PyData.keyHash P "_law_ratio",(.str "_law_ratio" 761),(.ref 436)⟩ :: ⟨PyData.keyHash P "_law_names",(.str "_law_names" 767),(.ref 441)⟩ :: ⟨PyData.keyHash P "_law_share",(.str "_law_share" 776),(.ref 448)⟩ :: ⟨PyData.keyHash P "_law_pay",(.str "_law_pay" 785),(.ref 455)⟩ :: ⟨PyData.keyHash P "_law_door",(.str "_law_door" 791),(.ref 460)⟩ :: ⟨PyData.keyHash P "_law_doors",(.str "_law_doors" 797),(.ref 465)⟩ :: ⟨PyData.keyHash P "_law_built",(.str "_law_built" 803),(.ref 470)⟩ :: ⟨PyData.keyHash P "_law_hall",(.str "_law_hall" 809),(.ref 475)⟩ :: ⟨PyData.keyHash P "_law_chosen",(.str "_law_chosen" 820),(.ref 482)⟩ :: ⟨PyData.keyHash P "_law_size",(.str "_law_size" 828),(.ref 489)⟩ :: ⟨PyData.keyHash P "_law_whole",(.str "_law_whole" 835),(.ref 496)⟩ :: []⟩ 60),⟨[]⟩⟩
noncomputable def q12_1:Obj:=⟨.none,none,(.fields ⟨(.int 1 0) :: (.int 0 0) :: (.ref 20) :: (.int 5 0) :: (.int 0 0) :: (.ref 27) :: (.int 7 0) :: (.int 0 0) :: (.ref 40) :: (.int 9 0) :: (.int 0 0) :: (.ref 52) :: (.int 11 0) :: (.int 0 0) :: (.ref 64) :: (.int 13 0) :: (.int 0 0) :: (.ref 76) :: (.int 15 0) :: (.int 0 0) :: (.ref 88) :: (.int 21 0) :: (.int 0 0) :: (.ref 107) :: (.int 23 0) :: (.int 0 0) :: (.ref 114) :: (.int 34 0) :: (.int 0 0) :: (.ref 123) :: (.int 43 0) :: (.int 0 0) :: (.ref 130) :: (.int 51 0) :: (.int 0 0) :: (.ref 137) :: (.int 53 0) :: (.int 0 0) :: (.ref 144) :: (.int 55 0) :: (.int 0 0) :: (.ref 151) :: (.int 58 0) :: (.int 0 0) :: (.ref 156) :: (.int 63 0) :: (.int 0 0) :: (.ref 163) :: (.int 67 0) :: (.int 0 0) :: (.ref 170) :: (.int 78 0) :: (.int 0 0) :: (.ref 175) :: (.int 83 0) :: (.int 0 0) :: (.ref 180) :: (.int 88 0) :: (.int 0 0) :: (.ref 187) :: (.int 93 0) :: (.int 0 0) :: (.ref 194) :: (.int 96 0) :: (.int 0 0) :: (.ref 201) :: (.int 99 0) :: (.int 0 0) :: (.ref 206) :: (.int 105 0) :: (.int 0 0) :: (.ref 211) :: (.int 110 0) :: (.int 0 0) :: (.ref 218) :: (.int 123 0) :: (.int 0 0) :: (.ref 253) :: (.int 129 0) :: (.int 0 0) :: (.ref 272) :: (.int 135 0) :: (.int 0 0) :: (.ref 291) :: (.int 141 0) :: (.int 0 0) :: (.ref 310) :: (.int 146 0) :: (.int 0 0) :: (.ref 327) :: (.int 149 0) :: (.int 0 0) :: (.ref 334) :: (.int 157 0) :: (.int 0 0) :: (.ref 341) :: (.int 164 0) :: (.int 0 0) :: (.ref 348) :: (.int 173 0) :: (.int 0 0) :: (.ref 355) :: (.int 203 0) :: (.int 0 0) :: (.ref 414) :: (.int 205 0) :: (.int 0 0) :: (.ref 421) :: (.int 216 0) :: (.int 0 0) :: (.ref 428) :: (.int 221 0) :: (.int 0 0) :: (.ref 435) :: (.int 224 0) :: (.int 0 0) :: (.ref 440) :: (.int 233 0) :: (.int 0 0) :: (.ref 447) :: (.int 237 0) :: (.int 0 0) :: (.ref 454) :: (.int 245 0) :: (.int 0 0) :: (.ref 459) :: (.int 262 0) :: (.int 0 0) :: (.ref 464) :: (.int 272 0) :: (.int 0 0) :: (.ref 469) :: (.int 282 0) :: (.int 0 0) :: (.ref 474) :: (.int 289 0) :: (.int 0 0) :: (.ref 481) :: (.int 298 0) :: (.int 0 0) :: (.ref 488) :: (.int 303 0) :: (.int 0 0) :: (.ref 495) :: []⟩),⟨[]⟩⟩
noncomputable def q15:Obj:=⟨(.type "tuple"),none,(.seq ⟨[]⟩ 0),⟨[]⟩⟩
noncomputable def q16:Obj:=⟨.none,none,(.fields ⟨[]⟩),⟨[]⟩⟩
noncomputable def q17:Obj:=⟨(.type "tuple"),none,(.seq ⟨(.str "k" 190) :: []⟩ 0),⟨[]⟩⟩
noncomputable def q18:Obj:=⟨(.type "tuple"),none,(.seq ⟨[]⟩ 0),⟨[]⟩⟩
noncomputable def q19:Obj:=⟨.none,none,(.func { (fnOf "_wall" "_wall" (defArgs (top 0)) (defBody (top 0)) (defScope (top 0)) .none .none .none .none none .none .none) with globals:=0,builtins:=0 }),⟨[]⟩⟩
noncomputable def q20:Obj:=⟨(.type "code"),none,(.fields ⟨(.str "_wall" 187) :: (.str "_wall" 188) :: (.str "/claim/cut.py" 189) :: (.int 1 0) :: (.int 1 0) :: (.int 0 0) :: (.int 0 0) :: (.int 3 0) :: (.ref 15) :: (.bool true) :: (.int 181 0) :: (.ref 16) :: .none :: (.ref 17) :: (.ref 18) :: (.ref 19) :: (.int 191 0) :: (.int 1 0) :: (.str "/claim/cut.py" 192) :: []⟩),⟨[]⟩⟩
noncomputable def q21:Obj:=⟨(.type "function"),none,(.func (fnOf "_wall" "_wall" (defArgs (top 0)) (defBody (top 0)) (defScope (top 0)) .none .none .none (.str "__main__" 164) none (.ref 20) .none)),⟨[]⟩⟩
noncomputable def q22:Obj:=⟨(.type "tuple"),none,(.seq ⟨(.type "ValueError") :: []⟩ 0),⟨[]⟩⟩
noncomputable def q23:Obj:=⟨(.type "builtin_function_or_method"),none,(.fields ⟨(.builtin "type.__prepare__") :: (.type "type") :: []⟩),⟨[]⟩⟩
noncomputable def q24 (P:Params):Obj:=⟨(.type "dict"),none,(.dict ⟨⟨PyData.keyHash P "__module__",(.str "__module__" 203),(.str "chancehall.errors" 194)⟩ :: ⟨PyData.keyHash P "__qualname__",(.str "__qualname__" 205),(.str "HallError" 204)⟩ :: ⟨PyData.keyHash P "__firstlineno__",(.str "__firstlineno__" 207),(.int 5 206)⟩ :: ⟨PyData.keyHash P "__static_attributes__",(.str "__static_attributes__" 208),(.ref 29)⟩ :: []⟩ 4),⟨[]⟩⟩
noncomputable def q25:Obj:=⟨(.type "tuple"),none,(.seq ⟨[]⟩ 0),⟨[]⟩⟩
noncomputable def q26:Obj:=⟨.none,none,(.fields ⟨[]⟩),⟨[]⟩⟩
noncomputable def q27:Obj:=⟨(.type "code"),none,(.fields ⟨(.str "HallError" 198) :: (.str "HallError" 199) :: (.str "/claim/cut.py" 200) :: (.int 5 0) :: (.int 0 0) :: (.int 0 0) :: (.int 0 0) :: (.int 0 0) :: (.ref 25) :: (.bool false) :: (.int 181 0) :: (.ref 26) :: .none :: .none :: .none :: .none :: (.int 201 0) :: (.int 5 0) :: (.str "/claim/cut.py" 202) :: []⟩),⟨[]⟩⟩
noncomputable def q28:Obj:=⟨(.type "frame"),none,.plain,⟨(some (.ref 27)) :: (some (.ref 3)) :: (some (.ref 24)) :: none :: (some (.str "chancehall.errors" 194)) :: none :: (some (.ref 0)) :: []⟩⟩
noncomputable def q29:Obj:=⟨(.type "tuple"),none,(.seq ⟨[]⟩ 0),⟨[]⟩⟩
noncomputable def q30 (P:Params):Obj:=⟨(.type "dict"),none,(.dict ⟨⟨PyData.keyHash P "__module__",(.str "__module__" 203),(.str "chancehall.errors" 194)⟩ :: ⟨PyData.keyHash P "__firstlineno__",(.str "__firstlineno__" 207),(.int 5 206)⟩ :: ⟨PyData.keyHash P "__static_attributes__",(.str "__static_attributes__" 208),(.ref 29)⟩ :: ⟨PyData.keyHash P "__weakref__",(.str "__weakref__" 210),(.ref 32)⟩ :: ⟨PyData.keyHash P "__doc__",(.str "__doc__" 211),.none⟩ :: []⟩ 3),⟨[]⟩⟩
noncomputable def q31:Obj:=⟨(.type "type"),none,(.cls ⟨"HallError",[(.type "ValueError")],[(.ref 31),(.type "ValueError"),(.type "Exception"),(.type "BaseException"),(.type "object")],30, "HallError",true,[],[(.ref 44),(.ref 56),(.ref 68),(.ref 80),(.ref 99)],false,none,false⟩),⟨(some (.ref 22)) :: none :: (some (.str "HallError" 196)) :: (some (.str "HallError" 204)) :: (some (.builtin "ValueError.__new__")) :: (some (.bool true)) :: []⟩⟩
noncomputable def q32:Obj:=⟨(.type "getset_descriptor"),none,(.fields ⟨(.str "__weakref__" 209) :: (.ref 31) :: (.builtin "ExceptionGroup.__weakref__") :: .none :: []⟩),⟨[]⟩⟩
noncomputable def q33:Obj:=⟨(.type "super"),none,(.fields ⟨(.ref 31) :: (.ref 31) :: (.ref 31) :: []⟩),⟨[]⟩⟩
noncomputable def q34:Obj:=⟨(.type "builtin_function_or_method"),none,(.fields ⟨(.builtin "object.__init_subclass__") :: (.ref 31) :: []⟩),⟨[]⟩⟩
noncomputable def q35:Obj:=⟨(.type "tuple"),none,(.seq ⟨(.ref 31) :: []⟩ 0),⟨[]⟩⟩
noncomputable def q36:Obj:=⟨(.type "builtin_function_or_method"),none,(.fields ⟨(.builtin "type.__prepare__") :: (.type "type") :: []⟩),⟨[]⟩⟩
noncomputable def q37 (P:Params):Obj:=⟨(.type "dict"),none,(.dict ⟨⟨PyData.keyHash P "__module__",(.str "__module__" 221),(.str "chancehall.errors" 194)⟩ :: ⟨PyData.keyHash P "__qualname__",(.str "__qualname__" 223),(.str "NoNumber" 222)⟩ :: ⟨PyData.keyHash P "__firstlineno__",(.str "__firstlineno__" 225),(.int 7 224)⟩ :: ⟨PyData.keyHash P "__static_attributes__",(.str "__static_attributes__" 226),(.ref 42)⟩ :: []⟩ 4),⟨[]⟩⟩
noncomputable def q38:Obj:=⟨(.type "tuple"),none,(.seq ⟨[]⟩ 0),⟨[]⟩⟩
noncomputable def q39:Obj:=⟨.none,none,(.fields ⟨[]⟩),⟨[]⟩⟩
noncomputable def q40:Obj:=⟨(.type "code"),none,(.fields ⟨(.str "NoNumber" 216) :: (.str "NoNumber" 217) :: (.str "/claim/cut.py" 218) :: (.int 7 0) :: (.int 0 0) :: (.int 0 0) :: (.int 0 0) :: (.int 0 0) :: (.ref 38) :: (.bool false) :: (.int 181 0) :: (.ref 39) :: .none :: .none :: .none :: .none :: (.int 219 0) :: (.int 7 0) :: (.str "/claim/cut.py" 220) :: []⟩),⟨[]⟩⟩
noncomputable def q41:Obj:=⟨(.type "frame"),none,.plain,⟨(some (.ref 40)) :: (some (.ref 3)) :: (some (.ref 37)) :: none :: (some (.str "chancehall.errors" 194)) :: none :: (some (.ref 0)) :: []⟩⟩
noncomputable def q42:Obj:=⟨(.type "tuple"),none,(.seq ⟨[]⟩ 0),⟨[]⟩⟩
noncomputable def q43 (P:Params):Obj:=⟨(.type "dict"),none,(.dict ⟨⟨PyData.keyHash P "__module__",(.str "__module__" 221),(.str "chancehall.errors" 194)⟩ :: ⟨PyData.keyHash P "__firstlineno__",(.str "__firstlineno__" 225),(.int 7 224)⟩ :: ⟨PyData.keyHash P "__static_attributes__",(.str "__static_attributes__" 226),(.ref 42)⟩ :: ⟨PyData.keyHash P "__doc__",(.str "__doc__" 227),.none⟩ :: []⟩ 2),⟨[]⟩⟩
noncomputable def q44:Obj:=⟨(.type "type"),none,(.cls ⟨"NoNumber",[(.ref 31)],[(.ref 44),(.ref 31),(.type "ValueError"),(.type "Exception"),(.type "BaseException"),(.type "object")],43, "NoNumber",true,[],[],false,none,false⟩),⟨(some (.ref 35)) :: none :: (some (.str "NoNumber" 214)) :: (some (.str "NoNumber" 222)) :: (some (.builtin "ValueError.__new__")) :: (some (.bool true)) :: []⟩⟩
noncomputable def q45:Obj:=⟨(.type "super"),none,(.fields ⟨(.ref 44) :: (.ref 44) :: (.ref 44) :: []⟩),⟨[]⟩⟩
noncomputable def q46:Obj:=⟨(.type "builtin_function_or_method"),none,(.fields ⟨(.builtin "object.__init_subclass__") :: (.ref 44) :: []⟩),⟨[]⟩⟩
noncomputable def q47:Obj:=⟨(.type "tuple"),none,(.seq ⟨(.ref 31) :: []⟩ 0),⟨[]⟩⟩
noncomputable def q48:Obj:=⟨(.type "builtin_function_or_method"),none,(.fields ⟨(.builtin "type.__prepare__") :: (.type "type") :: []⟩),⟨[]⟩⟩
noncomputable def q49 (P:Params):Obj:=⟨(.type "dict"),none,(.dict ⟨⟨PyData.keyHash P "__module__",(.str "__module__" 237),(.str "chancehall.errors" 194)⟩ :: ⟨PyData.keyHash P "__qualname__",(.str "__qualname__" 239),(.str "NoName" 238)⟩ :: ⟨PyData.keyHash P "__firstlineno__",(.str "__firstlineno__" 241),(.int 9 240)⟩ :: ⟨PyData.keyHash P "__static_attributes__",(.str "__static_attributes__" 242),(.ref 54)⟩ :: []⟩ 4),⟨[]⟩⟩
noncomputable def q50:Obj:=⟨(.type "tuple"),none,(.seq ⟨[]⟩ 0),⟨[]⟩⟩
noncomputable def q51:Obj:=⟨.none,none,(.fields ⟨[]⟩),⟨[]⟩⟩
noncomputable def q52:Obj:=⟨(.type "code"),none,(.fields ⟨(.str "NoName" 232) :: (.str "NoName" 233) :: (.str "/claim/cut.py" 234) :: (.int 9 0) :: (.int 0 0) :: (.int 0 0) :: (.int 0 0) :: (.int 0 0) :: (.ref 50) :: (.bool false) :: (.int 181 0) :: (.ref 51) :: .none :: .none :: .none :: .none :: (.int 235 0) :: (.int 9 0) :: (.str "/claim/cut.py" 236) :: []⟩),⟨[]⟩⟩
noncomputable def q53:Obj:=⟨(.type "frame"),none,.plain,⟨(some (.ref 52)) :: (some (.ref 3)) :: (some (.ref 49)) :: none :: (some (.str "chancehall.errors" 194)) :: none :: (some (.ref 0)) :: []⟩⟩
noncomputable def q54:Obj:=⟨(.type "tuple"),none,(.seq ⟨[]⟩ 0),⟨[]⟩⟩
noncomputable def q55 (P:Params):Obj:=⟨(.type "dict"),none,(.dict ⟨⟨PyData.keyHash P "__module__",(.str "__module__" 237),(.str "chancehall.errors" 194)⟩ :: ⟨PyData.keyHash P "__firstlineno__",(.str "__firstlineno__" 241),(.int 9 240)⟩ :: ⟨PyData.keyHash P "__static_attributes__",(.str "__static_attributes__" 242),(.ref 54)⟩ :: ⟨PyData.keyHash P "__doc__",(.str "__doc__" 243),.none⟩ :: []⟩ 2),⟨[]⟩⟩
noncomputable def q56:Obj:=⟨(.type "type"),none,(.cls ⟨"NoName",[(.ref 31)],[(.ref 56),(.ref 31),(.type "ValueError"),(.type "Exception"),(.type "BaseException"),(.type "object")],55, "NoName",true,[],[],false,none,false⟩),⟨(some (.ref 47)) :: none :: (some (.str "NoName" 230)) :: (some (.str "NoName" 238)) :: (some (.builtin "ValueError.__new__")) :: (some (.bool true)) :: []⟩⟩
noncomputable def q57:Obj:=⟨(.type "super"),none,(.fields ⟨(.ref 56) :: (.ref 56) :: (.ref 56) :: []⟩),⟨[]⟩⟩
noncomputable def q58:Obj:=⟨(.type "builtin_function_or_method"),none,(.fields ⟨(.builtin "object.__init_subclass__") :: (.ref 56) :: []⟩),⟨[]⟩⟩
noncomputable def q59:Obj:=⟨(.type "tuple"),none,(.seq ⟨(.ref 31) :: []⟩ 0),⟨[]⟩⟩
noncomputable def q60:Obj:=⟨(.type "builtin_function_or_method"),none,(.fields ⟨(.builtin "type.__prepare__") :: (.type "type") :: []⟩),⟨[]⟩⟩
noncomputable def q61 (P:Params):Obj:=⟨(.type "dict"),none,(.dict ⟨⟨PyData.keyHash P "__module__",(.str "__module__" 253),(.str "chancehall.errors" 194)⟩ :: ⟨PyData.keyHash P "__qualname__",(.str "__qualname__" 255),(.str "NoChance" 254)⟩ :: ⟨PyData.keyHash P "__firstlineno__",(.str "__firstlineno__" 257),(.int 11 256)⟩ :: ⟨PyData.keyHash P "__static_attributes__",(.str "__static_attributes__" 258),(.ref 66)⟩ :: []⟩ 4),⟨[]⟩⟩
noncomputable def q62:Obj:=⟨(.type "tuple"),none,(.seq ⟨[]⟩ 0),⟨[]⟩⟩
noncomputable def q63:Obj:=⟨.none,none,(.fields ⟨[]⟩),⟨[]⟩⟩
noncomputable def q64:Obj:=⟨(.type "code"),none,(.fields ⟨(.str "NoChance" 248) :: (.str "NoChance" 249) :: (.str "/claim/cut.py" 250) :: (.int 11 0) :: (.int 0 0) :: (.int 0 0) :: (.int 0 0) :: (.int 0 0) :: (.ref 62) :: (.bool false) :: (.int 181 0) :: (.ref 63) :: .none :: .none :: .none :: .none :: (.int 251 0) :: (.int 11 0) :: (.str "/claim/cut.py" 252) :: []⟩),⟨[]⟩⟩
noncomputable def q65:Obj:=⟨(.type "frame"),none,.plain,⟨(some (.ref 64)) :: (some (.ref 3)) :: (some (.ref 61)) :: none :: (some (.str "chancehall.errors" 194)) :: none :: (some (.ref 0)) :: []⟩⟩
noncomputable def q66:Obj:=⟨(.type "tuple"),none,(.seq ⟨[]⟩ 0),⟨[]⟩⟩
noncomputable def q67 (P:Params):Obj:=⟨(.type "dict"),none,(.dict ⟨⟨PyData.keyHash P "__module__",(.str "__module__" 253),(.str "chancehall.errors" 194)⟩ :: ⟨PyData.keyHash P "__firstlineno__",(.str "__firstlineno__" 257),(.int 11 256)⟩ :: ⟨PyData.keyHash P "__static_attributes__",(.str "__static_attributes__" 258),(.ref 66)⟩ :: ⟨PyData.keyHash P "__doc__",(.str "__doc__" 259),.none⟩ :: []⟩ 2),⟨[]⟩⟩
noncomputable def q68:Obj:=⟨(.type "type"),none,(.cls ⟨"NoChance",[(.ref 31)],[(.ref 68),(.ref 31),(.type "ValueError"),(.type "Exception"),(.type "BaseException"),(.type "object")],67, "NoChance",true,[],[],false,none,false⟩),⟨(some (.ref 59)) :: none :: (some (.str "NoChance" 246)) :: (some (.str "NoChance" 254)) :: (some (.builtin "ValueError.__new__")) :: (some (.bool true)) :: []⟩⟩
noncomputable def q69:Obj:=⟨(.type "super"),none,(.fields ⟨(.ref 68) :: (.ref 68) :: (.ref 68) :: []⟩),⟨[]⟩⟩
noncomputable def q70:Obj:=⟨(.type "builtin_function_or_method"),none,(.fields ⟨(.builtin "object.__init_subclass__") :: (.ref 68) :: []⟩),⟨[]⟩⟩
noncomputable def q71:Obj:=⟨(.type "tuple"),none,(.seq ⟨(.ref 31) :: []⟩ 0),⟨[]⟩⟩
noncomputable def q72:Obj:=⟨(.type "builtin_function_or_method"),none,(.fields ⟨(.builtin "type.__prepare__") :: (.type "type") :: []⟩),⟨[]⟩⟩
noncomputable def q73 (P:Params):Obj:=⟨(.type "dict"),none,(.dict ⟨⟨PyData.keyHash P "__module__",(.str "__module__" 269),(.str "chancehall.errors" 194)⟩ :: ⟨PyData.keyHash P "__qualname__",(.str "__qualname__" 271),(.str "NoShare" 270)⟩ :: ⟨PyData.keyHash P "__firstlineno__",(.str "__firstlineno__" 273),(.int 13 272)⟩ :: ⟨PyData.keyHash P "__static_attributes__",(.str "__static_attributes__" 274),(.ref 78)⟩ :: []⟩ 4),⟨[]⟩⟩
noncomputable def q74:Obj:=⟨(.type "tuple"),none,(.seq ⟨[]⟩ 0),⟨[]⟩⟩
noncomputable def q75:Obj:=⟨.none,none,(.fields ⟨[]⟩),⟨[]⟩⟩
noncomputable def q76:Obj:=⟨(.type "code"),none,(.fields ⟨(.str "NoShare" 264) :: (.str "NoShare" 265) :: (.str "/claim/cut.py" 266) :: (.int 13 0) :: (.int 0 0) :: (.int 0 0) :: (.int 0 0) :: (.int 0 0) :: (.ref 74) :: (.bool false) :: (.int 181 0) :: (.ref 75) :: .none :: .none :: .none :: .none :: (.int 267 0) :: (.int 13 0) :: (.str "/claim/cut.py" 268) :: []⟩),⟨[]⟩⟩
noncomputable def q77:Obj:=⟨(.type "frame"),none,.plain,⟨(some (.ref 76)) :: (some (.ref 3)) :: (some (.ref 73)) :: none :: (some (.str "chancehall.errors" 194)) :: none :: (some (.ref 0)) :: []⟩⟩
noncomputable def q78:Obj:=⟨(.type "tuple"),none,(.seq ⟨[]⟩ 0),⟨[]⟩⟩
noncomputable def q79 (P:Params):Obj:=⟨(.type "dict"),none,(.dict ⟨⟨PyData.keyHash P "__module__",(.str "__module__" 269),(.str "chancehall.errors" 194)⟩ :: ⟨PyData.keyHash P "__firstlineno__",(.str "__firstlineno__" 273),(.int 13 272)⟩ :: ⟨PyData.keyHash P "__static_attributes__",(.str "__static_attributes__" 274),(.ref 78)⟩ :: ⟨PyData.keyHash P "__doc__",(.str "__doc__" 275),.none⟩ :: []⟩ 2),⟨[]⟩⟩
noncomputable def q80:Obj:=⟨(.type "type"),none,(.cls ⟨"NoShare",[(.ref 31)],[(.ref 80),(.ref 31),(.type "ValueError"),(.type "Exception"),(.type "BaseException"),(.type "object")],79, "NoShare",true,[],[],false,none,false⟩),⟨(some (.ref 71)) :: none :: (some (.str "NoShare" 262)) :: (some (.str "NoShare" 270)) :: (some (.builtin "ValueError.__new__")) :: (some (.bool true)) :: []⟩⟩
noncomputable def q81:Obj:=⟨(.type "super"),none,(.fields ⟨(.ref 80) :: (.ref 80) :: (.ref 80) :: []⟩),⟨[]⟩⟩
noncomputable def q82:Obj:=⟨(.type "builtin_function_or_method"),none,(.fields ⟨(.builtin "object.__init_subclass__") :: (.ref 80) :: []⟩),⟨[]⟩⟩
noncomputable def q83:Obj:=⟨(.type "tuple"),none,(.seq ⟨(.ref 31) :: []⟩ 0),⟨[]⟩⟩
noncomputable def q84:Obj:=⟨(.type "builtin_function_or_method"),none,(.fields ⟨(.builtin "type.__prepare__") :: (.type "type") :: []⟩),⟨[]⟩⟩
noncomputable def q85 (P:Params):Obj:=⟨(.type "dict"),none,(.dict ⟨⟨PyData.keyHash P "__module__",(.str "__module__" 285),(.str "chancehall.errors" 194)⟩ :: ⟨PyData.keyHash P "__qualname__",(.str "__qualname__" 287),(.str "NoRoom" 286)⟩ :: ⟨PyData.keyHash P "__firstlineno__",(.str "__firstlineno__" 289),(.int 15 288)⟩ :: ⟨PyData.keyHash P "__init__",(.str "__init__" 297),(.ref 96)⟩ :: ⟨PyData.keyHash P "__static_attributes__",(.str "__static_attributes__" 299),(.ref 97)⟩ :: []⟩ 5),⟨[]⟩⟩
noncomputable def q86:Obj:=⟨(.type "tuple"),none,(.seq ⟨[]⟩ 0),⟨[]⟩⟩
noncomputable def q87:Obj:=⟨.none,none,(.fields ⟨(.int 17 0) :: (.int 4 0) :: (.ref 95) :: []⟩),⟨[]⟩⟩
noncomputable def q88:Obj:=⟨(.type "code"),none,(.fields ⟨(.str "NoRoom" 280) :: (.str "NoRoom" 281) :: (.str "/claim/cut.py" 282) :: (.int 15 0) :: (.int 0 0) :: (.int 0 0) :: (.int 0 0) :: (.int 0 0) :: (.ref 86) :: (.bool false) :: (.int 181 0) :: (.ref 87) :: .none :: .none :: .none :: .none :: (.int 283 0) :: (.int 15 0) :: (.str "/claim/cut.py" 284) :: []⟩),⟨[]⟩⟩
noncomputable def q89:Obj:=⟨(.type "frame"),none,.plain,⟨(some (.ref 88)) :: (some (.ref 3)) :: (some (.ref 85)) :: none :: (some (.str "chancehall.errors" 194)) :: none :: (some (.ref 0)) :: []⟩⟩
noncomputable def q90:Obj:=⟨(.type "tuple"),none,(.seq ⟨[]⟩ 0),⟨[]⟩⟩
noncomputable def q91:Obj:=⟨.none,none,(.fields ⟨[]⟩),⟨[]⟩⟩
noncomputable def q92:Obj:=⟨(.type "tuple"),none,(.seq ⟨(.str "self" 293) :: (.str "room" 294) :: []⟩ 0),⟨[]⟩⟩
noncomputable def q93:Obj:=⟨(.type "tuple"),none,(.seq ⟨[]⟩ 0),⟨[]⟩⟩
noncomputable def q94:Obj:=⟨.none,none,(.func { (fnOf "__init__" "NoRoom.__init__" (defArgs (mtop 7 0)) (defBody (mtop 7 0)) (defScope (mtop 7 0)) .none .none .none .none none .none .none) with globals:=0,builtins:=0 }),⟨[]⟩⟩
noncomputable def q95:Obj:=⟨(.type "code"),none,(.fields ⟨(.str "__init__" 290) :: (.str "NoRoom.__init__" 291) :: (.str "/claim/cut.py" 292) :: (.int 17 0) :: (.int 2 0) :: (.int 0 0) :: (.int 0 0) :: (.int 3 0) :: (.ref 90) :: (.bool true) :: (.int 181 0) :: (.ref 91) :: .none :: (.ref 92) :: (.ref 93) :: (.ref 94) :: (.int 295 0) :: (.int 17 0) :: (.str "/claim/cut.py" 296) :: []⟩),⟨[]⟩⟩
noncomputable def q96:Obj:=⟨(.type "function"),none,(.func (fnOf "__init__" "NoRoom.__init__" (defArgs (mtop 7 0)) (defBody (mtop 7 0)) (defScope (mtop 7 0)) .none .none .none (.str "chancehall.errors" 194) none (.ref 95) .none)),⟨[]⟩⟩
noncomputable def q97:Obj:=⟨(.type "tuple"),none,(.seq ⟨(.str "room" 298) :: []⟩ 0),⟨[]⟩⟩
noncomputable def q98 (P:Params):Obj:=⟨(.type "dict"),none,(.dict ⟨⟨PyData.keyHash P "__module__",(.str "__module__" 285),(.str "chancehall.errors" 194)⟩ :: ⟨PyData.keyHash P "__firstlineno__",(.str "__firstlineno__" 289),(.int 15 288)⟩ :: ⟨PyData.keyHash P "__init__",(.str "__init__" 297),(.ref 96)⟩ :: ⟨PyData.keyHash P "__static_attributes__",(.str "__static_attributes__" 299),(.ref 97)⟩ :: ⟨PyData.keyHash P "__doc__",(.str "__doc__" 300),.none⟩ :: []⟩ 2),⟨[]⟩⟩
noncomputable def q99:Obj:=⟨(.type "type"),none,(.cls ⟨"NoRoom",[(.ref 31)],[(.ref 99),(.ref 31),(.type "ValueError"),(.type "Exception"),(.type "BaseException"),(.type "object")],98, "NoRoom",true,[],[],false,none,false⟩),⟨(some (.ref 83)) :: none :: (some (.str "NoRoom" 278)) :: (some (.str "NoRoom" 286)) :: (some (.builtin "ValueError.__new__")) :: (some (.bool true)) :: []⟩⟩
noncomputable def q100:Obj:=⟨(.type "super"),none,(.fields ⟨(.ref 99) :: (.ref 99) :: (.ref 99) :: []⟩),⟨[]⟩⟩
noncomputable def q101:Obj:=⟨(.type "builtin_function_or_method"),none,(.fields ⟨(.builtin "object.__init_subclass__") :: (.ref 99) :: []⟩),⟨[]⟩⟩
noncomputable def q102:Obj:=⟨(.type "tuple"),none,(.seq ⟨[]⟩ 0),⟨[]⟩⟩
noncomputable def q103:Obj:=⟨.none,none,(.fields ⟨[]⟩),⟨[]⟩⟩
noncomputable def q104:Obj:=⟨(.type "tuple"),none,(.seq ⟨(.str "thing" 308) :: []⟩ 0),⟨[]⟩⟩
noncomputable def q105:Obj:=⟨(.type "tuple"),none,(.seq ⟨[]⟩ 0),⟨[]⟩⟩
noncomputable def q106:Obj:=⟨.none,none,(.func { (fnOf "is_whole" "is_whole" (defArgs (top 9)) (defBody (top 9)) (defScope (top 9)) .none .none .none .none none .none .none) with globals:=0,builtins:=0 }),⟨[]⟩⟩
noncomputable def q107:Obj:=⟨(.type "code"),none,(.fields ⟨(.str "is_whole" 305) :: (.str "is_whole" 306) :: (.str "/claim/cut.py" 307) :: (.int 21 0) :: (.int 1 0) :: (.int 0 0) :: (.int 0 0) :: (.int 3 0) :: (.ref 102) :: (.bool true) :: (.int 181 0) :: (.ref 103) :: .none :: (.ref 104) :: (.ref 105) :: (.ref 106) :: (.int 309 0) :: (.int 21 0) :: (.str "/claim/cut.py" 310) :: []⟩),⟨[]⟩⟩
noncomputable def q108:Obj:=⟨(.type "function"),none,(.func (fnOf "is_whole" "is_whole" (defArgs (top 9)) (defBody (top 9)) (defScope (top 9)) .none .none .none (.str "chancehall.wholes" 303) none (.ref 107) .none)),⟨[]⟩⟩
noncomputable def q109:Obj:=⟨(.type "tuple"),none,(.seq ⟨[]⟩ 0),⟨[]⟩⟩
noncomputable def q110:Obj:=⟨.none,none,(.fields ⟨[]⟩),⟨[]⟩⟩
noncomputable def q111:Obj:=⟨(.type "tuple"),none,(.seq ⟨(.str "one" 315) :: (.str "other" 316) :: (.str "left" 317) :: (.str "right" 318) :: (.str "rest" 319) :: []⟩ 0),⟨[]⟩⟩
noncomputable def q112:Obj:=⟨(.type "tuple"),none,(.seq ⟨[]⟩ 0),⟨[]⟩⟩
noncomputable def q113:Obj:=⟨.none,none,(.func { (fnOf "divisor" "divisor" (defArgs (top 10)) (defBody (top 10)) (defScope (top 10)) .none .none .none .none none .none .none) with globals:=0,builtins:=0 }),⟨[]⟩⟩
noncomputable def q114:Obj:=⟨(.type "code"),none,(.fields ⟨(.str "divisor" 312) :: (.str "divisor" 313) :: (.str "/claim/cut.py" 314) :: (.int 23 0) :: (.int 2 0) :: (.int 0 0) :: (.int 0 0) :: (.int 3 0) :: (.ref 109) :: (.bool true) :: (.int 181 0) :: (.ref 110) :: .none :: (.ref 111) :: (.ref 112) :: (.ref 113) :: (.int 320 0) :: (.int 23 0) :: (.str "/claim/cut.py" 321) :: []⟩),⟨[]⟩⟩
noncomputable def q115:Obj:=⟨(.type "function"),none,(.func (fnOf "divisor" "divisor" (defArgs (top 10)) (defBody (top 10)) (defScope (top 10)) .none .none .none (.str "chancehall.wholes" 303) none (.ref 114) .none)),⟨[]⟩⟩
noncomputable def q116:Obj:=⟨(.type "tuple"),none,(.seq ⟨(.int 0 325) :: (.int 1 326) :: []⟩ 0),⟨[]⟩⟩
noncomputable def q117:Obj:=⟨(.type "tuple"),none,(.seq ⟨(.int 1 328) :: (.int 1 329) :: []⟩ 0),⟨[]⟩⟩
noncomputable def q118:Obj:=⟨(.type "tuple"),none,(.seq ⟨[]⟩ 0),⟨[]⟩⟩
noncomputable def q119:Obj:=⟨.none,none,(.fields ⟨[]⟩),⟨[]⟩⟩
noncomputable def q120:Obj:=⟨(.type "tuple"),none,(.seq ⟨(.str "top" 334) :: (.str "bottom" 335) :: (.str "common" 336) :: []⟩ 0),⟨[]⟩⟩
noncomputable def q121:Obj:=⟨(.type "tuple"),none,(.seq ⟨[]⟩ 0),⟨[]⟩⟩
noncomputable def q122:Obj:=⟨.none,none,(.func { (fnOf "ratio" "ratio" (defArgs (top 14)) (defBody (top 14)) (defScope (top 14)) .none .none .none .none none .none .none) with globals:=0,builtins:=0 }),⟨[]⟩⟩
noncomputable def q123:Obj:=⟨(.type "code"),none,(.fields ⟨(.str "ratio" 331) :: (.str "ratio" 332) :: (.str "/claim/cut.py" 333) :: (.int 34 0) :: (.int 2 0) :: (.int 0 0) :: (.int 0 0) :: (.int 3 0) :: (.ref 118) :: (.bool true) :: (.int 181 0) :: (.ref 119) :: .none :: (.ref 120) :: (.ref 121) :: (.ref 122) :: (.int 337 0) :: (.int 34 0) :: (.str "/claim/cut.py" 338) :: []⟩),⟨[]⟩⟩
noncomputable def q124:Obj:=⟨(.type "function"),none,(.func (fnOf "ratio" "ratio" (defArgs (top 14)) (defBody (top 14)) (defScope (top 14)) .none .none .none (.str "chancehall.ratios" 323) none (.ref 123) .none)),⟨[]⟩⟩
noncomputable def q125:Obj:=⟨(.type "tuple"),none,(.seq ⟨[]⟩ 0),⟨[]⟩⟩
noncomputable def q126:Obj:=⟨.none,none,(.fields ⟨[]⟩),⟨[]⟩⟩
noncomputable def q127:Obj:=⟨(.type "tuple"),none,(.seq ⟨(.str "thing" 343) :: (.str "top" 344) :: (.str "bottom" 345) :: []⟩ 0),⟨[]⟩⟩
noncomputable def q128:Obj:=⟨(.type "tuple"),none,(.seq ⟨[]⟩ 0),⟨[]⟩⟩
noncomputable def q129:Obj:=⟨.none,none,(.func { (fnOf "is_ratio" "is_ratio" (defArgs (top 15)) (defBody (top 15)) (defScope (top 15)) .none .none .none .none none .none .none) with globals:=0,builtins:=0 }),⟨[]⟩⟩
noncomputable def q130:Obj:=⟨(.type "code"),none,(.fields ⟨(.str "is_ratio" 340) :: (.str "is_ratio" 341) :: (.str "/claim/cut.py" 342) :: (.int 43 0) :: (.int 1 0) :: (.int 0 0) :: (.int 0 0) :: (.int 3 0) :: (.ref 125) :: (.bool true) :: (.int 181 0) :: (.ref 126) :: .none :: (.ref 127) :: (.ref 128) :: (.ref 129) :: (.int 346 0) :: (.int 43 0) :: (.str "/claim/cut.py" 347) :: []⟩),⟨[]⟩⟩
noncomputable def q131:Obj:=⟨(.type "function"),none,(.func (fnOf "is_ratio" "is_ratio" (defArgs (top 15)) (defBody (top 15)) (defScope (top 15)) .none .none .none (.str "chancehall.ratios" 323) none (.ref 130) .none)),⟨[]⟩⟩
noncomputable def q132:Obj:=⟨(.type "tuple"),none,(.seq ⟨[]⟩ 0),⟨[]⟩⟩
noncomputable def q133:Obj:=⟨.none,none,(.fields ⟨[]⟩),⟨[]⟩⟩
noncomputable def q134:Obj:=⟨(.type "tuple"),none,(.seq ⟨(.str "one" 352) :: (.str "other" 353) :: []⟩ 0),⟨[]⟩⟩
noncomputable def q135:Obj:=⟨(.type "tuple"),none,(.seq ⟨[]⟩ 0),⟨[]⟩⟩
noncomputable def q136:Obj:=⟨.none,none,(.func { (fnOf "plus" "plus" (defArgs (top 16)) (defBody (top 16)) (defScope (top 16)) .none .none .none .none none .none .none) with globals:=0,builtins:=0 }),⟨[]⟩⟩
noncomputable def q137:Obj:=⟨(.type "code"),none,(.fields ⟨(.str "plus" 349) :: (.str "plus" 350) :: (.str "/claim/cut.py" 351) :: (.int 51 0) :: (.int 2 0) :: (.int 0 0) :: (.int 0 0) :: (.int 3 0) :: (.ref 132) :: (.bool true) :: (.int 181 0) :: (.ref 133) :: .none :: (.ref 134) :: (.ref 135) :: (.ref 136) :: (.int 354 0) :: (.int 51 0) :: (.str "/claim/cut.py" 355) :: []⟩),⟨[]⟩⟩
noncomputable def q138:Obj:=⟨(.type "function"),none,(.func (fnOf "plus" "plus" (defArgs (top 16)) (defBody (top 16)) (defScope (top 16)) .none .none .none (.str "chancehall.ratios" 323) none (.ref 137) .none)),⟨[]⟩⟩
noncomputable def q139:Obj:=⟨(.type "tuple"),none,(.seq ⟨[]⟩ 0),⟨[]⟩⟩
noncomputable def q140:Obj:=⟨.none,none,(.fields ⟨[]⟩),⟨[]⟩⟩
noncomputable def q141:Obj:=⟨(.type "tuple"),none,(.seq ⟨(.str "one" 360) :: (.str "other" 361) :: []⟩ 0),⟨[]⟩⟩
noncomputable def q142:Obj:=⟨(.type "tuple"),none,(.seq ⟨[]⟩ 0),⟨[]⟩⟩
noncomputable def q143:Obj:=⟨.none,none,(.func { (fnOf "minus" "minus" (defArgs (top 17)) (defBody (top 17)) (defScope (top 17)) .none .none .none .none none .none .none) with globals:=0,builtins:=0 }),⟨[]⟩⟩
noncomputable def q144:Obj:=⟨(.type "code"),none,(.fields ⟨(.str "minus" 357) :: (.str "minus" 358) :: (.str "/claim/cut.py" 359) :: (.int 53 0) :: (.int 2 0) :: (.int 0 0) :: (.int 0 0) :: (.int 3 0) :: (.ref 139) :: (.bool true) :: (.int 181 0) :: (.ref 140) :: .none :: (.ref 141) :: (.ref 142) :: (.ref 143) :: (.int 362 0) :: (.int 53 0) :: (.str "/claim/cut.py" 363) :: []⟩),⟨[]⟩⟩
noncomputable def q145:Obj:=⟨(.type "function"),none,(.func (fnOf "minus" "minus" (defArgs (top 17)) (defBody (top 17)) (defScope (top 17)) .none .none .none (.str "chancehall.ratios" 323) none (.ref 144) .none)),⟨[]⟩⟩
noncomputable def q146:Obj:=⟨(.type "tuple"),none,(.seq ⟨[]⟩ 0),⟨[]⟩⟩
noncomputable def q147:Obj:=⟨.none,none,(.fields ⟨[]⟩),⟨[]⟩⟩
noncomputable def q148:Obj:=⟨(.type "tuple"),none,(.seq ⟨(.str "one" 368) :: (.str "other" 369) :: []⟩ 0),⟨[]⟩⟩
noncomputable def q149:Obj:=⟨(.type "tuple"),none,(.seq ⟨[]⟩ 0),⟨[]⟩⟩
noncomputable def q150:Obj:=⟨.none,none,(.func { (fnOf "under" "under" (defArgs (top 18)) (defBody (top 18)) (defScope (top 18)) .none .none .none .none none .none .none) with globals:=0,builtins:=0 }),⟨[]⟩⟩
noncomputable def q151:Obj:=⟨(.type "code"),none,(.fields ⟨(.str "under" 365) :: (.str "under" 366) :: (.str "/claim/cut.py" 367) :: (.int 55 0) :: (.int 2 0) :: (.int 0 0) :: (.int 0 0) :: (.int 3 0) :: (.ref 146) :: (.bool true) :: (.int 181 0) :: (.ref 147) :: .none :: (.ref 148) :: (.ref 149) :: (.ref 150) :: (.int 370 0) :: (.int 55 0) :: (.str "/claim/cut.py" 371) :: []⟩),⟨[]⟩⟩
noncomputable def q152:Obj:=⟨(.type "function"),none,(.func (fnOf "under" "under" (defArgs (top 18)) (defBody (top 18)) (defScope (top 18)) .none .none .none (.str "chancehall.ratios" 323) none (.ref 151) .none)),⟨[]⟩⟩
noncomputable def q153:Obj:=⟨(.type "tuple"),none,(.seq ⟨[]⟩ 0),⟨[]⟩⟩
noncomputable def q154:Obj:=⟨.none,none,(.fields ⟨[]⟩),⟨[]⟩⟩
noncomputable def q155:Obj:=⟨.none,none,(.func { (fnOf "level" "level" (defArgs (top 20)) (defBody (top 20)) (defScope (top 20)) .none .none .none .none none .none .none) with globals:=0,builtins:=0 }),⟨[]⟩⟩
noncomputable def q156:Obj:=⟨(.type "code"),none,(.fields ⟨(.str "level" 375) :: (.str "level" 376) :: (.str "/claim/cut.py" 377) :: (.int 58 0) :: (.int 1 0) :: (.int 0 0) :: (.int 0 0) :: (.int 3 0) :: (.ref 153) :: (.bool true) :: (.int 181 0) :: (.ref 154) :: .none :: .none :: .none :: (.ref 155) :: (.int 378 0) :: (.int 58 0) :: (.str "/claim/cut.py" 379) :: []⟩),⟨[]⟩⟩
noncomputable def q157:Obj:=⟨(.type "function"),none,(.func (fnOf "level" "level" (defArgs (top 20)) (defBody (top 20)) (defScope (top 20)) .none .none .none (.str "chancehall.levels" 373) none (.ref 156) .none)),⟨[]⟩⟩
noncomputable def q158:Obj:=⟨(.type "tuple"),none,(.seq ⟨[]⟩ 0),⟨[]⟩⟩
noncomputable def q159:Obj:=⟨.none,none,(.fields ⟨[]⟩),⟨[]⟩⟩
noncomputable def q160:Obj:=⟨(.type "tuple"),none,(.seq ⟨(.str "fractions" 384) :: (.str "leveled" 385) :: []⟩ 0),⟨[]⟩⟩
noncomputable def q161:Obj:=⟨(.type "tuple"),none,(.seq ⟨[]⟩ 0),⟨[]⟩⟩
noncomputable def q162:Obj:=⟨.none,none,(.func { (fnOf "total" "total" (defArgs (top 21)) (defBody (top 21)) (defScope (top 21)) .none .none .none .none none .none .none) with globals:=0,builtins:=0 }),⟨[]⟩⟩
noncomputable def q163:Obj:=⟨(.type "code"),none,(.fields ⟨(.str "total" 381) :: (.str "total" 382) :: (.str "/claim/cut.py" 383) :: (.int 63 0) :: (.int 1 0) :: (.int 0 0) :: (.int 0 0) :: (.int 3 0) :: (.ref 158) :: (.bool true) :: (.int 181 0) :: (.ref 159) :: .none :: (.ref 160) :: (.ref 161) :: (.ref 162) :: (.int 386 0) :: (.int 63 0) :: (.str "/claim/cut.py" 387) :: []⟩),⟨[]⟩⟩
noncomputable def q164:Obj:=⟨(.type "function"),none,(.func (fnOf "total" "total" (defArgs (top 21)) (defBody (top 21)) (defScope (top 21)) .none .none .none (.str "chancehall.levels" 373) none (.ref 163) .none)),⟨[]⟩⟩
noncomputable def q165:Obj:=⟨(.type "tuple"),none,(.seq ⟨[]⟩ 0),⟨[]⟩⟩
noncomputable def q166:Obj:=⟨.none,none,(.fields ⟨[]⟩),⟨[]⟩⟩
noncomputable def q167:Obj:=⟨(.type "tuple"),none,(.seq ⟨(.str "hall" 394) :: (.str "top" 395) :: (.str "bottom" 396) :: (.str "many" 397) :: (.str "tops" 398) :: (.str "bottoms" 399) :: []⟩ 0),⟨[]⟩⟩
noncomputable def q168:Obj:=⟨(.type "tuple"),none,(.seq ⟨[]⟩ 0),⟨[]⟩⟩
noncomputable def q169:Obj:=⟨.none,none,(.func { (fnOf "wait_of" "wait_of" (defArgs (top 23)) (defBody (top 23)) (defScope (top 23)) .none .none .none .none none .none .none) with globals:=0,builtins:=0 }),⟨[]⟩⟩
noncomputable def q170:Obj:=⟨(.type "code"),none,(.fields ⟨(.str "wait_of" 391) :: (.str "wait_of" 392) :: (.str "/claim/cut.py" 393) :: (.int 67 0) :: (.int 1 0) :: (.int 0 0) :: (.int 0 0) :: (.int 3 0) :: (.ref 165) :: (.bool true) :: (.int 181 0) :: (.ref 166) :: .none :: (.ref 167) :: (.ref 168) :: (.ref 169) :: (.int 400 0) :: (.int 67 0) :: (.str "/claim/cut.py" 401) :: []⟩),⟨[]⟩⟩
noncomputable def q171:Obj:=⟨(.type "function"),none,(.func (fnOf "wait_of" "wait_of" (defArgs (top 23)) (defBody (top 23)) (defScope (top 23)) .none .none .none (.str "chancehall.lacks" 389) none (.ref 170) .none)),⟨[]⟩⟩
noncomputable def q172:Obj:=⟨(.type "tuple"),none,(.seq ⟨[]⟩ 0),⟨[]⟩⟩
noncomputable def q173:Obj:=⟨.none,none,(.fields ⟨[]⟩),⟨[]⟩⟩
noncomputable def q174:Obj:=⟨.none,none,(.func { (fnOf "most_mendings" "most_mendings" (defArgs (top 24)) (defBody (top 24)) (defScope (top 24)) .none .none .none .none none .none .none) with globals:=0,builtins:=0 }),⟨[]⟩⟩
noncomputable def q175:Obj:=⟨(.type "code"),none,(.fields ⟨(.str "most_mendings" 403) :: (.str "most_mendings" 404) :: (.str "/claim/cut.py" 405) :: (.int 78 0) :: (.int 1 0) :: (.int 0 0) :: (.int 0 0) :: (.int 3 0) :: (.ref 172) :: (.bool true) :: (.int 181 0) :: (.ref 173) :: .none :: .none :: .none :: (.ref 174) :: (.int 406 0) :: (.int 78 0) :: (.str "/claim/cut.py" 407) :: []⟩),⟨[]⟩⟩
noncomputable def q176:Obj:=⟨(.type "function"),none,(.func (fnOf "most_mendings" "most_mendings" (defArgs (top 24)) (defBody (top 24)) (defScope (top 24)) .none .none .none (.str "chancehall.lacks" 389) none (.ref 175) .none)),⟨[]⟩⟩
noncomputable def q177:Obj:=⟨(.type "tuple"),none,(.seq ⟨[]⟩ 0),⟨[]⟩⟩
noncomputable def q178:Obj:=⟨.none,none,(.fields ⟨[]⟩),⟨[]⟩⟩
noncomputable def q179:Obj:=⟨.none,none,(.func { (fnOf "is_word" "is_word" (defArgs (top 27)) (defBody (top 27)) (defScope (top 27)) .none .none .none .none none .none .none) with globals:=0,builtins:=0 }),⟨[]⟩⟩
noncomputable def q180:Obj:=⟨(.type "code"),none,(.fields ⟨(.str "is_word" 413) :: (.str "is_word" 414) :: (.str "/claim/cut.py" 415) :: (.int 83 0) :: (.int 1 0) :: (.int 0 0) :: (.int 0 0) :: (.int 3 0) :: (.ref 177) :: (.bool true) :: (.int 181 0) :: (.ref 178) :: .none :: .none :: .none :: (.ref 179) :: (.int 416 0) :: (.int 83 0) :: (.str "/claim/cut.py" 417) :: []⟩),⟨[]⟩⟩
noncomputable def q181:Obj:=⟨(.type "function"),none,(.func (fnOf "is_word" "is_word" (defArgs (top 27)) (defBody (top 27)) (defScope (top 27)) .none .none .none (.str "chancehall.words" 409) none (.ref 180) .none)),⟨[]⟩⟩
noncomputable def q182:Obj:=⟨(.type "tuple"),none,(.seq ⟨[]⟩ 0),⟨[]⟩⟩
noncomputable def q183:Obj:=⟨.none,none,(.fields ⟨[]⟩),⟨[]⟩⟩
noncomputable def q184:Obj:=⟨(.type "tuple"),none,(.seq ⟨(.str "name" 424) :: (.str "pay" 425) :: []⟩ 0),⟨[]⟩⟩
noncomputable def q185:Obj:=⟨(.type "tuple"),none,(.seq ⟨[]⟩ 0),⟨[]⟩⟩
noncomputable def q186:Obj:=⟨.none,none,(.func { (fnOf "check_head" "check_head" (defArgs (top 29)) (defBody (top 29)) (defScope (top 29)) .none .none .none .none none .none .none) with globals:=0,builtins:=0 }),⟨[]⟩⟩
noncomputable def q187:Obj:=⟨(.type "code"),none,(.fields ⟨(.str "check_head" 421) :: (.str "check_head" 422) :: (.str "/claim/cut.py" 423) :: (.int 88 0) :: (.int 2 0) :: (.int 0 0) :: (.int 0 0) :: (.int 3 0) :: (.ref 182) :: (.bool true) :: (.int 181 0) :: (.ref 183) :: .none :: (.ref 184) :: (.ref 185) :: (.ref 186) :: (.int 426 0) :: (.int 88 0) :: (.str "/claim/cut.py" 427) :: []⟩),⟨[]⟩⟩
noncomputable def q188:Obj:=⟨(.type "function"),none,(.func (fnOf "check_head" "check_head" (defArgs (top 29)) (defBody (top 29)) (defScope (top 29)) .none .none .none (.str "chancehall.doors" 419) none (.ref 187) .none)),⟨[]⟩⟩
noncomputable def q189:Obj:=⟨(.type "tuple"),none,(.seq ⟨[]⟩ 0),⟨[]⟩⟩
noncomputable def q190:Obj:=⟨.none,none,(.fields ⟨[]⟩),⟨[]⟩⟩
noncomputable def q191:Obj:=⟨(.type "tuple"),none,(.seq ⟨(.str "room" 432) :: []⟩ 0),⟨[]⟩⟩
noncomputable def q192:Obj:=⟨(.type "tuple"),none,(.seq ⟨[]⟩ 0),⟨[]⟩⟩
noncomputable def q193:Obj:=⟨.none,none,(.func { (fnOf "check_room_name" "check_room_name" (defArgs (top 30)) (defBody (top 30)) (defScope (top 30)) .none .none .none .none none .none .none) with globals:=0,builtins:=0 }),⟨[]⟩⟩
noncomputable def q194:Obj:=⟨(.type "code"),none,(.fields ⟨(.str "check_room_name" 429) :: (.str "check_room_name" 430) :: (.str "/claim/cut.py" 431) :: (.int 93 0) :: (.int 1 0) :: (.int 0 0) :: (.int 0 0) :: (.int 3 0) :: (.ref 189) :: (.bool true) :: (.int 181 0) :: (.ref 190) :: .none :: (.ref 191) :: (.ref 192) :: (.ref 193) :: (.int 433 0) :: (.int 93 0) :: (.str "/claim/cut.py" 434) :: []⟩),⟨[]⟩⟩
noncomputable def q195:Obj:=⟨(.type "function"),none,(.func (fnOf "check_room_name" "check_room_name" (defArgs (top 30)) (defBody (top 30)) (defScope (top 30)) .none .none .none (.str "chancehall.doors" 419) none (.ref 194) .none)),⟨[]⟩⟩
noncomputable def q196:Obj:=⟨(.type "tuple"),none,(.seq ⟨[]⟩ 0),⟨[]⟩⟩
noncomputable def q197:Obj:=⟨.none,none,(.fields ⟨[]⟩),⟨[]⟩⟩
noncomputable def q198:Obj:=⟨(.type "tuple"),none,(.seq ⟨(.str "chance" 439) :: []⟩ 0),⟨[]⟩⟩
noncomputable def q199:Obj:=⟨(.type "tuple"),none,(.seq ⟨[]⟩ 0),⟨[]⟩⟩
noncomputable def q200:Obj:=⟨.none,none,(.func { (fnOf "check_chance" "check_chance" (defArgs (top 31)) (defBody (top 31)) (defScope (top 31)) .none .none .none .none none .none .none) with globals:=0,builtins:=0 }),⟨[]⟩⟩
noncomputable def q201:Obj:=⟨(.type "code"),none,(.fields ⟨(.str "check_chance" 436) :: (.str "check_chance" 437) :: (.str "/claim/cut.py" 438) :: (.int 96 0) :: (.int 1 0) :: (.int 0 0) :: (.int 0 0) :: (.int 3 0) :: (.ref 196) :: (.bool true) :: (.int 181 0) :: (.ref 197) :: .none :: (.ref 198) :: (.ref 199) :: (.ref 200) :: (.int 440 0) :: (.int 96 0) :: (.str "/claim/cut.py" 441) :: []⟩),⟨[]⟩⟩
noncomputable def q202:Obj:=⟨(.type "function"),none,(.func (fnOf "check_chance" "check_chance" (defArgs (top 31)) (defBody (top 31)) (defScope (top 31)) .none .none .none (.str "chancehall.doors" 419) none (.ref 201) .none)),⟨[]⟩⟩
noncomputable def q203:Obj:=⟨(.type "tuple"),none,(.seq ⟨[]⟩ 0),⟨[]⟩⟩
noncomputable def q204:Obj:=⟨.none,none,(.fields ⟨[]⟩),⟨[]⟩⟩
noncomputable def q205:Obj:=⟨.none,none,(.func { (fnOf "check_pairs" "check_pairs" (defArgs (top 32)) (defBody (top 32)) (defScope (top 32)) .none .none .none .none none .none .none) with globals:=0,builtins:=0 }),⟨[]⟩⟩
noncomputable def q206:Obj:=⟨(.type "code"),none,(.fields ⟨(.str "check_pairs" 443) :: (.str "check_pairs" 444) :: (.str "/claim/cut.py" 445) :: (.int 99 0) :: (.int 1 0) :: (.int 0 0) :: (.int 0 0) :: (.int 3 0) :: (.ref 203) :: (.bool true) :: (.int 181 0) :: (.ref 204) :: .none :: .none :: .none :: (.ref 205) :: (.int 446 0) :: (.int 99 0) :: (.str "/claim/cut.py" 447) :: []⟩),⟨[]⟩⟩
noncomputable def q207:Obj:=⟨(.type "function"),none,(.func (fnOf "check_pairs" "check_pairs" (defArgs (top 32)) (defBody (top 32)) (defScope (top 32)) .none .none .none (.str "chancehall.doors" 419) none (.ref 206) .none)),⟨[]⟩⟩
noncomputable def q208:Obj:=⟨(.type "tuple"),none,(.seq ⟨[]⟩ 0),⟨[]⟩⟩
noncomputable def q209:Obj:=⟨.none,none,(.fields ⟨[]⟩),⟨[]⟩⟩
noncomputable def q210:Obj:=⟨.none,none,(.func { (fnOf "joined_ways" "joined_ways" (defArgs (top 33)) (defBody (top 33)) (defScope (top 33)) .none .none .none .none none .none .none) with globals:=0,builtins:=0 }),⟨[]⟩⟩
noncomputable def q211:Obj:=⟨(.type "code"),none,(.fields ⟨(.str "joined_ways" 449) :: (.str "joined_ways" 450) :: (.str "/claim/cut.py" 451) :: (.int 105 0) :: (.int 1 0) :: (.int 0 0) :: (.int 0 0) :: (.int 3 0) :: (.ref 208) :: (.bool true) :: (.int 181 0) :: (.ref 209) :: .none :: .none :: .none :: (.ref 210) :: (.int 452 0) :: (.int 105 0) :: (.str "/claim/cut.py" 453) :: []⟩),⟨[]⟩⟩
noncomputable def q212:Obj:=⟨(.type "function"),none,(.func (fnOf "joined_ways" "joined_ways" (defArgs (top 33)) (defBody (top 33)) (defScope (top 33)) .none .none .none (.str "chancehall.doors" 419) none (.ref 211) .none)),⟨[]⟩⟩
noncomputable def q213:Obj:=⟨(.type "tuple"),none,(.seq ⟨[]⟩ 0),⟨[]⟩⟩
noncomputable def q214:Obj:=⟨(.type "builtin_function_or_method"),none,(.fields ⟨(.builtin "type.__prepare__") :: (.type "type") :: []⟩),⟨[]⟩⟩
noncomputable def q215 (P:Params):Obj:=⟨(.type "dict"),none,(.dict ⟨⟨PyData.keyHash P "__module__",(.str "__module__" 462),(.str "chancehall.doors" 419)⟩ :: ⟨PyData.keyHash P "__qualname__",(.str "__qualname__" 464),(.str "Door" 463)⟩ :: ⟨PyData.keyHash P "__firstlineno__",(.str "__firstlineno__" 466),(.int 110 465)⟩ :: ⟨PyData.keyHash P "__init__",(.str "__init__" 475),(.ref 226)⟩ :: ⟨PyData.keyHash P "ways",(.str "ways" 482),(.ref 233)⟩ :: ⟨PyData.keyHash P "chance_to",(.str "chance_to" 490),(.ref 240)⟩ :: ⟨PyData.keyHash P "__static_attributes__",(.str "__static_attributes__" 494),(.ref 241)⟩ :: []⟩ 7),⟨[]⟩⟩
noncomputable def q216:Obj:=⟨(.type "tuple"),none,(.seq ⟨[]⟩ 0),⟨[]⟩⟩
noncomputable def q217:Obj:=⟨.none,none,(.fields ⟨(.int 112 0) :: (.int 4 0) :: (.ref 225) :: (.int 118 0) :: (.int 4 0) :: (.ref 232) :: (.int 121 0) :: (.int 4 0) :: (.ref 239) :: []⟩),⟨[]⟩⟩
noncomputable def q218:Obj:=⟨(.type "code"),none,(.fields ⟨(.str "Door" 457) :: (.str "Door" 458) :: (.str "/claim/cut.py" 459) :: (.int 110 0) :: (.int 0 0) :: (.int 0 0) :: (.int 0 0) :: (.int 0 0) :: (.ref 216) :: (.bool false) :: (.int 181 0) :: (.ref 217) :: .none :: .none :: .none :: .none :: (.int 460 0) :: (.int 110 0) :: (.str "/claim/cut.py" 461) :: []⟩),⟨[]⟩⟩
noncomputable def q219:Obj:=⟨(.type "frame"),none,.plain,⟨(some (.ref 218)) :: (some (.ref 3)) :: (some (.ref 215)) :: none :: (some (.str "chancehall.doors" 419)) :: none :: (some (.ref 0)) :: []⟩⟩
noncomputable def q220:Obj:=⟨(.type "tuple"),none,(.seq ⟨[]⟩ 0),⟨[]⟩⟩
noncomputable def q221:Obj:=⟨.none,none,(.fields ⟨[]⟩),⟨[]⟩⟩
noncomputable def q222:Obj:=⟨(.type "tuple"),none,(.seq ⟨(.str "self" 470) :: (.str "name" 471) :: (.str "pay" 472) :: []⟩ 0),⟨[]⟩⟩
noncomputable def q223:Obj:=⟨(.type "tuple"),none,(.seq ⟨[]⟩ 0),⟨[]⟩⟩
noncomputable def q224:Obj:=⟨.none,none,(.func { (fnOf "__init__" "Door.__init__" (defArgs (mtop 34 0)) (defBody (mtop 34 0)) (defScope (mtop 34 0)) .none .none .none .none none .none .none) with globals:=0,builtins:=0 }),⟨[]⟩⟩
noncomputable def q225:Obj:=⟨(.type "code"),none,(.fields ⟨(.str "__init__" 467) :: (.str "Door.__init__" 468) :: (.str "/claim/cut.py" 469) :: (.int 112 0) :: (.int 3 0) :: (.int 0 0) :: (.int 0 0) :: (.int 3 0) :: (.ref 220) :: (.bool true) :: (.int 181 0) :: (.ref 221) :: .none :: (.ref 222) :: (.ref 223) :: (.ref 224) :: (.int 473 0) :: (.int 112 0) :: (.str "/claim/cut.py" 474) :: []⟩),⟨[]⟩⟩
noncomputable def q226:Obj:=⟨(.type "function"),none,(.func (fnOf "__init__" "Door.__init__" (defArgs (mtop 34 0)) (defBody (mtop 34 0)) (defScope (mtop 34 0)) .none .none .none (.str "chancehall.doors" 419) none (.ref 225) .none)),⟨[]⟩⟩
noncomputable def q227:Obj:=⟨(.type "tuple"),none,(.seq ⟨[]⟩ 0),⟨[]⟩⟩
noncomputable def q228:Obj:=⟨.none,none,(.fields ⟨[]⟩),⟨[]⟩⟩
noncomputable def q229:Obj:=⟨(.type "tuple"),none,(.seq ⟨(.str "self" 479) :: []⟩ 0),⟨[]⟩⟩
noncomputable def q230:Obj:=⟨(.type "tuple"),none,(.seq ⟨[]⟩ 0),⟨[]⟩⟩
noncomputable def q231:Obj:=⟨.none,none,(.func { (fnOf "ways" "Door.ways" (defArgs (mtop 34 1)) (defBody (mtop 34 1)) (defScope (mtop 34 1)) .none .none .none .none none .none .none) with globals:=0,builtins:=0 }),⟨[]⟩⟩
noncomputable def q232:Obj:=⟨(.type "code"),none,(.fields ⟨(.str "ways" 476) :: (.str "Door.ways" 477) :: (.str "/claim/cut.py" 478) :: (.int 118 0) :: (.int 1 0) :: (.int 0 0) :: (.int 0 0) :: (.int 3 0) :: (.ref 227) :: (.bool true) :: (.int 181 0) :: (.ref 228) :: .none :: (.ref 229) :: (.ref 230) :: (.ref 231) :: (.int 480 0) :: (.int 118 0) :: (.str "/claim/cut.py" 481) :: []⟩),⟨[]⟩⟩
noncomputable def q233:Obj:=⟨(.type "function"),none,(.func (fnOf "ways" "Door.ways" (defArgs (mtop 34 1)) (defBody (mtop 34 1)) (defScope (mtop 34 1)) .none .none .none (.str "chancehall.doors" 419) none (.ref 232) .none)),⟨[]⟩⟩
noncomputable def q234:Obj:=⟨(.type "tuple"),none,(.seq ⟨[]⟩ 0),⟨[]⟩⟩
noncomputable def q235:Obj:=⟨.none,none,(.fields ⟨[]⟩),⟨[]⟩⟩
noncomputable def q236:Obj:=⟨(.type "tuple"),none,(.seq ⟨(.str "self" 486) :: (.str "room" 487) :: []⟩ 0),⟨[]⟩⟩
noncomputable def q237:Obj:=⟨(.type "tuple"),none,(.seq ⟨[]⟩ 0),⟨[]⟩⟩
noncomputable def q238:Obj:=⟨.none,none,(.func { (fnOf "chance_to" "Door.chance_to" (defArgs (mtop 34 2)) (defBody (mtop 34 2)) (defScope (mtop 34 2)) .none .none .none .none none .none .none) with globals:=0,builtins:=0 }),⟨[]⟩⟩
noncomputable def q239:Obj:=⟨(.type "code"),none,(.fields ⟨(.str "chance_to" 483) :: (.str "Door.chance_to" 484) :: (.str "/claim/cut.py" 485) :: (.int 121 0) :: (.int 2 0) :: (.int 0 0) :: (.int 0 0) :: (.int 3 0) :: (.ref 234) :: (.bool true) :: (.int 181 0) :: (.ref 235) :: .none :: (.ref 236) :: (.ref 237) :: (.ref 238) :: (.int 488 0) :: (.int 121 0) :: (.str "/claim/cut.py" 489) :: []⟩),⟨[]⟩⟩
noncomputable def q240:Obj:=⟨(.type "function"),none,(.func (fnOf "chance_to" "Door.chance_to" (defArgs (mtop 34 2)) (defBody (mtop 34 2)) (defScope (mtop 34 2)) .none .none .none (.str "chancehall.doors" 419) none (.ref 239) .none)),⟨[]⟩⟩
noncomputable def q241:Obj:=⟨(.type "tuple"),none,(.seq ⟨(.str "leads" 491) :: (.str "name" 492) :: (.str "pay" 493) :: []⟩ 0),⟨[]⟩⟩
noncomputable def q242 (P:Params):Obj:=⟨(.type "dict"),none,(.dict ⟨⟨PyData.keyHash P "__module__",(.str "__module__" 462),(.str "chancehall.doors" 419)⟩ :: ⟨PyData.keyHash P "__firstlineno__",(.str "__firstlineno__" 466),(.int 110 465)⟩ :: ⟨PyData.keyHash P "__init__",(.str "__init__" 475),(.ref 226)⟩ :: ⟨PyData.keyHash P "ways",(.str "ways" 482),(.ref 233)⟩ :: ⟨PyData.keyHash P "chance_to",(.str "chance_to" 490),(.ref 240)⟩ :: ⟨PyData.keyHash P "__static_attributes__",(.str "__static_attributes__" 494),(.ref 241)⟩ :: ⟨PyData.keyHash P "__dict__",(.str "__dict__" 496),(.ref 244)⟩ :: ⟨PyData.keyHash P "__weakref__",(.str "__weakref__" 498),(.ref 245)⟩ :: ⟨PyData.keyHash P "__doc__",(.str "__doc__" 499),.none⟩ :: []⟩ 4),⟨[]⟩⟩
noncomputable def q243:Obj:=⟨(.type "type"),none,(.cls ⟨"Door",[(.type "object")],[(.ref 243),(.type "object")],242, "Door",true,[],[(.ref 264),(.ref 283)],false,none,false⟩),⟨none :: none :: (some (.str "Door" 455)) :: (some (.str "Door" 463)) :: (some (.builtin "object.__new__")) :: (some (.bool true)) :: []⟩⟩
noncomputable def q244:Obj:=⟨(.type "getset_descriptor"),none,(.fields ⟨(.str "__dict__" 495) :: (.ref 243) :: (.builtin "function.__dict__") :: (.builtin "function.__dict__#set") :: []⟩),⟨[]⟩⟩
noncomputable def q245:Obj:=⟨(.type "getset_descriptor"),none,(.fields ⟨(.str "__weakref__" 497) :: (.ref 243) :: (.builtin "ExceptionGroup.__weakref__") :: .none :: []⟩),⟨[]⟩⟩
noncomputable def q246:Obj:=⟨(.type "super"),none,(.fields ⟨(.ref 243) :: (.ref 243) :: (.ref 243) :: []⟩),⟨[]⟩⟩
noncomputable def q247:Obj:=⟨(.type "builtin_function_or_method"),none,(.fields ⟨(.builtin "object.__init_subclass__") :: (.ref 243) :: []⟩),⟨[]⟩⟩
noncomputable def q248:Obj:=⟨(.type "tuple"),none,(.seq ⟨(.ref 243) :: []⟩ 0),⟨[]⟩⟩
noncomputable def q249:Obj:=⟨(.type "builtin_function_or_method"),none,(.fields ⟨(.builtin "type.__prepare__") :: (.type "type") :: []⟩),⟨[]⟩⟩
noncomputable def q250 (P:Params):Obj:=⟨(.type "dict"),none,(.dict ⟨⟨PyData.keyHash P "__module__",(.str "__module__" 509),(.str "chancehall.doors" 419)⟩ :: ⟨PyData.keyHash P "__qualname__",(.str "__qualname__" 511),(.str "Sure" 510)⟩ :: ⟨PyData.keyHash P "__firstlineno__",(.str "__firstlineno__" 513),(.int 123 512)⟩ :: ⟨PyData.keyHash P "__init__",(.str "__init__" 523),(.ref 261)⟩ :: ⟨PyData.keyHash P "__static_attributes__",(.str "__static_attributes__" 525),(.ref 262)⟩ :: []⟩ 5),⟨[]⟩⟩
noncomputable def q251:Obj:=⟨(.type "tuple"),none,(.seq ⟨[]⟩ 0),⟨[]⟩⟩
noncomputable def q252:Obj:=⟨.none,none,(.fields ⟨(.int 125 0) :: (.int 4 0) :: (.ref 260) :: []⟩),⟨[]⟩⟩
noncomputable def q253:Obj:=⟨(.type "code"),none,(.fields ⟨(.str "Sure" 504) :: (.str "Sure" 505) :: (.str "/claim/cut.py" 506) :: (.int 123 0) :: (.int 0 0) :: (.int 0 0) :: (.int 0 0) :: (.int 0 0) :: (.ref 251) :: (.bool false) :: (.int 181 0) :: (.ref 252) :: .none :: .none :: .none :: .none :: (.int 507 0) :: (.int 123 0) :: (.str "/claim/cut.py" 508) :: []⟩),⟨[]⟩⟩
noncomputable def q254:Obj:=⟨(.type "frame"),none,.plain,⟨(some (.ref 253)) :: (some (.ref 3)) :: (some (.ref 250)) :: none :: (some (.str "chancehall.doors" 419)) :: none :: (some (.ref 0)) :: []⟩⟩
noncomputable def q255:Obj:=⟨(.type "tuple"),none,(.seq ⟨[]⟩ 0),⟨[]⟩⟩
noncomputable def q256:Obj:=⟨.none,none,(.fields ⟨[]⟩),⟨[]⟩⟩
noncomputable def q257:Obj:=⟨(.type "tuple"),none,(.seq ⟨(.str "self" 517) :: (.str "name" 518) :: (.str "pay" 519) :: (.str "room" 520) :: []⟩ 0),⟨[]⟩⟩
noncomputable def q258:Obj:=⟨(.type "tuple"),none,(.seq ⟨[]⟩ 0),⟨[]⟩⟩
noncomputable def q259:Obj:=⟨.none,none,(.func { (fnOf "__init__" "Sure.__init__" (defArgs (mtop 35 0)) (defBody (mtop 35 0)) (defScope (mtop 35 0)) .none .none .none .none none .none .none) with globals:=0,builtins:=0 }),⟨[]⟩⟩
noncomputable def q260:Obj:=⟨(.type "code"),none,(.fields ⟨(.str "__init__" 514) :: (.str "Sure.__init__" 515) :: (.str "/claim/cut.py" 516) :: (.int 125 0) :: (.int 4 0) :: (.int 0 0) :: (.int 0 0) :: (.int 3 0) :: (.ref 255) :: (.bool true) :: (.int 181 0) :: (.ref 256) :: .none :: (.ref 257) :: (.ref 258) :: (.ref 259) :: (.int 521 0) :: (.int 125 0) :: (.str "/claim/cut.py" 522) :: []⟩),⟨[]⟩⟩
noncomputable def q261:Obj:=⟨(.type "function"),none,(.func (fnOf "__init__" "Sure.__init__" (defArgs (mtop 35 0)) (defBody (mtop 35 0)) (defScope (mtop 35 0)) .none .none .none (.str "chancehall.doors" 419) none (.ref 260) .none)),⟨[]⟩⟩
noncomputable def q262:Obj:=⟨(.type "tuple"),none,(.seq ⟨(.str "leads" 524) :: []⟩ 0),⟨[]⟩⟩
noncomputable def q263 (P:Params):Obj:=⟨(.type "dict"),none,(.dict ⟨⟨PyData.keyHash P "__module__",(.str "__module__" 509),(.str "chancehall.doors" 419)⟩ :: ⟨PyData.keyHash P "__firstlineno__",(.str "__firstlineno__" 513),(.int 123 512)⟩ :: ⟨PyData.keyHash P "__init__",(.str "__init__" 523),(.ref 261)⟩ :: ⟨PyData.keyHash P "__static_attributes__",(.str "__static_attributes__" 525),(.ref 262)⟩ :: ⟨PyData.keyHash P "__doc__",(.str "__doc__" 526),.none⟩ :: []⟩ 2),⟨[]⟩⟩
noncomputable def q264:Obj:=⟨(.type "type"),none,(.cls ⟨"Sure",[(.ref 243)],[(.ref 264),(.ref 243),(.type "object")],263, "Sure",true,[],[],false,none,false⟩),⟨(some (.ref 248)) :: none :: (some (.str "Sure" 502)) :: (some (.str "Sure" 510)) :: (some (.builtin "object.__new__")) :: (some (.bool true)) :: []⟩⟩
noncomputable def q265:Obj:=⟨(.type "super"),none,(.fields ⟨(.ref 264) :: (.ref 264) :: (.ref 264) :: []⟩),⟨[]⟩⟩
noncomputable def q266:Obj:=⟨(.type "builtin_function_or_method"),none,(.fields ⟨(.builtin "object.__init_subclass__") :: (.ref 264) :: []⟩),⟨[]⟩⟩
noncomputable def q267:Obj:=⟨(.type "tuple"),none,(.seq ⟨(.ref 243) :: []⟩ 0),⟨[]⟩⟩
noncomputable def q268:Obj:=⟨(.type "builtin_function_or_method"),none,(.fields ⟨(.builtin "type.__prepare__") :: (.type "type") :: []⟩),⟨[]⟩⟩
noncomputable def q269 (P:Params):Obj:=⟨(.type "dict"),none,(.dict ⟨⟨PyData.keyHash P "__module__",(.str "__module__" 536),(.str "chancehall.doors" 419)⟩ :: ⟨PyData.keyHash P "__qualname__",(.str "__qualname__" 538),(.str "Mixed" 537)⟩ :: ⟨PyData.keyHash P "__firstlineno__",(.str "__firstlineno__" 540),(.int 129 539)⟩ :: ⟨PyData.keyHash P "__init__",(.str "__init__" 550),(.ref 280)⟩ :: ⟨PyData.keyHash P "__static_attributes__",(.str "__static_attributes__" 552),(.ref 281)⟩ :: []⟩ 5),⟨[]⟩⟩
noncomputable def q270:Obj:=⟨(.type "tuple"),none,(.seq ⟨[]⟩ 0),⟨[]⟩⟩
noncomputable def q271:Obj:=⟨.none,none,(.fields ⟨(.int 131 0) :: (.int 4 0) :: (.ref 279) :: []⟩),⟨[]⟩⟩
noncomputable def q272:Obj:=⟨(.type "code"),none,(.fields ⟨(.str "Mixed" 531) :: (.str "Mixed" 532) :: (.str "/claim/cut.py" 533) :: (.int 129 0) :: (.int 0 0) :: (.int 0 0) :: (.int 0 0) :: (.int 0 0) :: (.ref 270) :: (.bool false) :: (.int 181 0) :: (.ref 271) :: .none :: .none :: .none :: .none :: (.int 534 0) :: (.int 129 0) :: (.str "/claim/cut.py" 535) :: []⟩),⟨[]⟩⟩
noncomputable def q273:Obj:=⟨(.type "frame"),none,.plain,⟨(some (.ref 272)) :: (some (.ref 3)) :: (some (.ref 269)) :: none :: (some (.str "chancehall.doors" 419)) :: none :: (some (.ref 0)) :: []⟩⟩
noncomputable def q274:Obj:=⟨(.type "tuple"),none,(.seq ⟨[]⟩ 0),⟨[]⟩⟩
noncomputable def q275:Obj:=⟨.none,none,(.fields ⟨[]⟩),⟨[]⟩⟩
noncomputable def q276:Obj:=⟨(.type "tuple"),none,(.seq ⟨(.str "self" 544) :: (.str "name" 545) :: (.str "pay" 546) :: (.str "pairs" 547) :: []⟩ 0),⟨[]⟩⟩
noncomputable def q277:Obj:=⟨(.type "tuple"),none,(.seq ⟨[]⟩ 0),⟨[]⟩⟩
noncomputable def q278:Obj:=⟨.none,none,(.func { (fnOf "__init__" "Mixed.__init__" (defArgs (mtop 36 0)) (defBody (mtop 36 0)) (defScope (mtop 36 0)) .none .none .none .none none .none .none) with globals:=0,builtins:=0 }),⟨[]⟩⟩
noncomputable def q279:Obj:=⟨(.type "code"),none,(.fields ⟨(.str "__init__" 541) :: (.str "Mixed.__init__" 542) :: (.str "/claim/cut.py" 543) :: (.int 131 0) :: (.int 4 0) :: (.int 0 0) :: (.int 0 0) :: (.int 3 0) :: (.ref 274) :: (.bool true) :: (.int 181 0) :: (.ref 275) :: .none :: (.ref 276) :: (.ref 277) :: (.ref 278) :: (.int 548 0) :: (.int 131 0) :: (.str "/claim/cut.py" 549) :: []⟩),⟨[]⟩⟩
noncomputable def q280:Obj:=⟨(.type "function"),none,(.func (fnOf "__init__" "Mixed.__init__" (defArgs (mtop 36 0)) (defBody (mtop 36 0)) (defScope (mtop 36 0)) .none .none .none (.str "chancehall.doors" 419) none (.ref 279) .none)),⟨[]⟩⟩
noncomputable def q281:Obj:=⟨(.type "tuple"),none,(.seq ⟨(.str "leads" 551) :: []⟩ 0),⟨[]⟩⟩
noncomputable def q282 (P:Params):Obj:=⟨(.type "dict"),none,(.dict ⟨⟨PyData.keyHash P "__module__",(.str "__module__" 536),(.str "chancehall.doors" 419)⟩ :: ⟨PyData.keyHash P "__firstlineno__",(.str "__firstlineno__" 540),(.int 129 539)⟩ :: ⟨PyData.keyHash P "__init__",(.str "__init__" 550),(.ref 280)⟩ :: ⟨PyData.keyHash P "__static_attributes__",(.str "__static_attributes__" 552),(.ref 281)⟩ :: ⟨PyData.keyHash P "__doc__",(.str "__doc__" 553),.none⟩ :: []⟩ 2),⟨[]⟩⟩
noncomputable def q283:Obj:=⟨(.type "type"),none,(.cls ⟨"Mixed",[(.ref 243)],[(.ref 283),(.ref 243),(.type "object")],282, "Mixed",true,[],[(.ref 302),(.ref 319)],false,none,false⟩),⟨(some (.ref 267)) :: none :: (some (.str "Mixed" 529)) :: (some (.str "Mixed" 537)) :: (some (.builtin "object.__new__")) :: (some (.bool true)) :: []⟩⟩
noncomputable def q284:Obj:=⟨(.type "super"),none,(.fields ⟨(.ref 283) :: (.ref 283) :: (.ref 283) :: []⟩),⟨[]⟩⟩
noncomputable def q285:Obj:=⟨(.type "builtin_function_or_method"),none,(.fields ⟨(.builtin "object.__init_subclass__") :: (.ref 283) :: []⟩),⟨[]⟩⟩
noncomputable def q286:Obj:=⟨(.type "tuple"),none,(.seq ⟨(.ref 283) :: []⟩ 0),⟨[]⟩⟩
noncomputable def q287:Obj:=⟨(.type "builtin_function_or_method"),none,(.fields ⟨(.builtin "type.__prepare__") :: (.type "type") :: []⟩),⟨[]⟩⟩
noncomputable def q288 (P:Params):Obj:=⟨(.type "dict"),none,(.dict ⟨⟨PyData.keyHash P "__module__",(.str "__module__" 563),(.str "chancehall.doors" 419)⟩ :: ⟨PyData.keyHash P "__qualname__",(.str "__qualname__" 565),(.str "Toss" 564)⟩ :: ⟨PyData.keyHash P "__firstlineno__",(.str "__firstlineno__" 567),(.int 135 566)⟩ :: ⟨PyData.keyHash P "__init__",(.str "__init__" 579),(.ref 299)⟩ :: ⟨PyData.keyHash P "__static_attributes__",(.str "__static_attributes__" 580),(.ref 300)⟩ :: []⟩ 5),⟨[]⟩⟩
noncomputable def q289:Obj:=⟨(.type "tuple"),none,(.seq ⟨[]⟩ 0),⟨[]⟩⟩
noncomputable def q290:Obj:=⟨.none,none,(.fields ⟨(.int 137 0) :: (.int 4 0) :: (.ref 298) :: []⟩),⟨[]⟩⟩
noncomputable def q291:Obj:=⟨(.type "code"),none,(.fields ⟨(.str "Toss" 558) :: (.str "Toss" 559) :: (.str "/claim/cut.py" 560) :: (.int 135 0) :: (.int 0 0) :: (.int 0 0) :: (.int 0 0) :: (.int 0 0) :: (.ref 289) :: (.bool false) :: (.int 181 0) :: (.ref 290) :: .none :: .none :: .none :: .none :: (.int 561 0) :: (.int 135 0) :: (.str "/claim/cut.py" 562) :: []⟩),⟨[]⟩⟩
noncomputable def q292:Obj:=⟨(.type "frame"),none,.plain,⟨(some (.ref 291)) :: (some (.ref 3)) :: (some (.ref 288)) :: none :: (some (.str "chancehall.doors" 419)) :: none :: (some (.ref 0)) :: []⟩⟩
noncomputable def q293:Obj:=⟨(.type "tuple"),none,(.seq ⟨[]⟩ 0),⟨[]⟩⟩
noncomputable def q294:Obj:=⟨.none,none,(.fields ⟨[]⟩),⟨[]⟩⟩
noncomputable def q295:Obj:=⟨(.type "tuple"),none,(.seq ⟨(.str "self" 571) :: (.str "name" 572) :: (.str "pay" 573) :: (.str "chance" 574) :: (.str "room" 575) :: (.str "other" 576) :: []⟩ 0),⟨[]⟩⟩
noncomputable def q296:Obj:=⟨(.type "tuple"),none,(.seq ⟨[]⟩ 0),⟨[]⟩⟩
noncomputable def q297:Obj:=⟨.none,none,(.func { (fnOf "__init__" "Toss.__init__" (defArgs (mtop 37 0)) (defBody (mtop 37 0)) (defScope (mtop 37 0)) .none .none .none .none none .none .none) with globals:=0,builtins:=0 }),⟨[]⟩⟩
noncomputable def q298:Obj:=⟨(.type "code"),none,(.fields ⟨(.str "__init__" 568) :: (.str "Toss.__init__" 569) :: (.str "/claim/cut.py" 570) :: (.int 137 0) :: (.int 6 0) :: (.int 0 0) :: (.int 0 0) :: (.int 3 0) :: (.ref 293) :: (.bool true) :: (.int 181 0) :: (.ref 294) :: .none :: (.ref 295) :: (.ref 296) :: (.ref 297) :: (.int 577 0) :: (.int 137 0) :: (.str "/claim/cut.py" 578) :: []⟩),⟨[]⟩⟩
noncomputable def q299:Obj:=⟨(.type "function"),none,(.func (fnOf "__init__" "Toss.__init__" (defArgs (mtop 37 0)) (defBody (mtop 37 0)) (defScope (mtop 37 0)) .none .none .none (.str "chancehall.doors" 419) none (.ref 298) .none)),⟨[]⟩⟩
noncomputable def q300:Obj:=⟨(.type "tuple"),none,(.seq ⟨[]⟩ 0),⟨[]⟩⟩
noncomputable def q301 (P:Params):Obj:=⟨(.type "dict"),none,(.dict ⟨⟨PyData.keyHash P "__module__",(.str "__module__" 563),(.str "chancehall.doors" 419)⟩ :: ⟨PyData.keyHash P "__firstlineno__",(.str "__firstlineno__" 567),(.int 135 566)⟩ :: ⟨PyData.keyHash P "__init__",(.str "__init__" 579),(.ref 299)⟩ :: ⟨PyData.keyHash P "__static_attributes__",(.str "__static_attributes__" 580),(.ref 300)⟩ :: ⟨PyData.keyHash P "__doc__",(.str "__doc__" 581),.none⟩ :: []⟩ 2),⟨[]⟩⟩
noncomputable def q302:Obj:=⟨(.type "type"),none,(.cls ⟨"Toss",[(.ref 283)],[(.ref 302),(.ref 283),(.ref 243),(.type "object")],301, "Toss",true,[],[],false,none,false⟩),⟨(some (.ref 286)) :: none :: (some (.str "Toss" 556)) :: (some (.str "Toss" 564)) :: (some (.builtin "object.__new__")) :: (some (.bool true)) :: []⟩⟩
noncomputable def q303:Obj:=⟨(.type "super"),none,(.fields ⟨(.ref 302) :: (.ref 302) :: (.ref 302) :: []⟩),⟨[]⟩⟩
noncomputable def q304:Obj:=⟨(.type "builtin_function_or_method"),none,(.fields ⟨(.builtin "object.__init_subclass__") :: (.ref 302) :: []⟩),⟨[]⟩⟩
noncomputable def q305:Obj:=⟨(.type "tuple"),none,(.seq ⟨(.ref 283) :: []⟩ 0),⟨[]⟩⟩
noncomputable def q306:Obj:=⟨(.type "builtin_function_or_method"),none,(.fields ⟨(.builtin "type.__prepare__") :: (.type "type") :: []⟩),⟨[]⟩⟩
noncomputable def q307 (P:Params):Obj:=⟨(.type "dict"),none,(.dict ⟨⟨PyData.keyHash P "__module__",(.str "__module__" 591),(.str "chancehall.doors" 419)⟩ :: ⟨PyData.keyHash P "__qualname__",(.str "__qualname__" 593),(.str "Even" 592)⟩ :: ⟨PyData.keyHash P "__firstlineno__",(.str "__firstlineno__" 595),(.int 141 594)⟩ :: ⟨PyData.keyHash P "__init__",(.str "__init__" 601),(.ref 316)⟩ :: ⟨PyData.keyHash P "__static_attributes__",(.str "__static_attributes__" 602),(.ref 317)⟩ :: []⟩ 5),⟨[]⟩⟩
noncomputable def q308:Obj:=⟨(.type "tuple"),none,(.seq ⟨[]⟩ 0),⟨[]⟩⟩
noncomputable def q309:Obj:=⟨.none,none,(.fields ⟨(.int 143 0) :: (.int 4 0) :: (.ref 315) :: []⟩),⟨[]⟩⟩
noncomputable def q310:Obj:=⟨(.type "code"),none,(.fields ⟨(.str "Even" 586) :: (.str "Even" 587) :: (.str "/claim/cut.py" 588) :: (.int 141 0) :: (.int 0 0) :: (.int 0 0) :: (.int 0 0) :: (.int 0 0) :: (.ref 308) :: (.bool false) :: (.int 181 0) :: (.ref 309) :: .none :: .none :: .none :: .none :: (.int 589 0) :: (.int 141 0) :: (.str "/claim/cut.py" 590) :: []⟩),⟨[]⟩⟩
noncomputable def q311:Obj:=⟨(.type "frame"),none,.plain,⟨(some (.ref 310)) :: (some (.ref 3)) :: (some (.ref 307)) :: none :: (some (.str "chancehall.doors" 419)) :: none :: (some (.ref 0)) :: []⟩⟩
noncomputable def q312:Obj:=⟨(.type "tuple"),none,(.seq ⟨[]⟩ 0),⟨[]⟩⟩
noncomputable def q313:Obj:=⟨.none,none,(.fields ⟨[]⟩),⟨[]⟩⟩
noncomputable def q314:Obj:=⟨.none,none,(.func { (fnOf "__init__" "Even.__init__" (defArgs (mtop 38 0)) (defBody (mtop 38 0)) (defScope (mtop 38 0)) .none .none .none .none none .none .none) with globals:=0,builtins:=0 }),⟨[]⟩⟩
noncomputable def q315:Obj:=⟨(.type "code"),none,(.fields ⟨(.str "__init__" 596) :: (.str "Even.__init__" 597) :: (.str "/claim/cut.py" 598) :: (.int 143 0) :: (.int 4 0) :: (.int 0 0) :: (.int 0 0) :: (.int 3 0) :: (.ref 312) :: (.bool true) :: (.int 181 0) :: (.ref 313) :: .none :: .none :: .none :: (.ref 314) :: (.int 599 0) :: (.int 143 0) :: (.str "/claim/cut.py" 600) :: []⟩),⟨[]⟩⟩
noncomputable def q316:Obj:=⟨(.type "function"),none,(.func (fnOf "__init__" "Even.__init__" (defArgs (mtop 38 0)) (defBody (mtop 38 0)) (defScope (mtop 38 0)) .none .none .none (.str "chancehall.doors" 419) none (.ref 315) .none)),⟨[]⟩⟩
noncomputable def q317:Obj:=⟨(.type "tuple"),none,(.seq ⟨[]⟩ 0),⟨[]⟩⟩
noncomputable def q318 (P:Params):Obj:=⟨(.type "dict"),none,(.dict ⟨⟨PyData.keyHash P "__module__",(.str "__module__" 591),(.str "chancehall.doors" 419)⟩ :: ⟨PyData.keyHash P "__firstlineno__",(.str "__firstlineno__" 595),(.int 141 594)⟩ :: ⟨PyData.keyHash P "__init__",(.str "__init__" 601),(.ref 316)⟩ :: ⟨PyData.keyHash P "__static_attributes__",(.str "__static_attributes__" 602),(.ref 317)⟩ :: ⟨PyData.keyHash P "__doc__",(.str "__doc__" 603),.none⟩ :: []⟩ 2),⟨[]⟩⟩
noncomputable def q319:Obj:=⟨(.type "type"),none,(.cls ⟨"Even",[(.ref 283)],[(.ref 319),(.ref 283),(.ref 243),(.type "object")],318, "Even",true,[],[],false,none,false⟩),⟨(some (.ref 305)) :: none :: (some (.str "Even" 584)) :: (some (.str "Even" 592)) :: (some (.builtin "object.__new__")) :: (some (.bool true)) :: []⟩⟩
noncomputable def q320:Obj:=⟨(.type "super"),none,(.fields ⟨(.ref 319) :: (.ref 319) :: (.ref 319) :: []⟩),⟨[]⟩⟩
noncomputable def q321:Obj:=⟨(.type "builtin_function_or_method"),none,(.fields ⟨(.builtin "object.__init_subclass__") :: (.ref 319) :: []⟩),⟨[]⟩⟩
noncomputable def q322:Obj:=⟨(.type "tuple"),none,(.seq ⟨[]⟩ 0),⟨[]⟩⟩
noncomputable def q323:Obj:=⟨.none,none,(.fields ⟨[]⟩),⟨[]⟩⟩
noncomputable def q324:Obj:=⟨(.type "tuple"),none,(.seq ⟨(.str "share" 611) :: []⟩ 0),⟨[]⟩⟩
noncomputable def q325:Obj:=⟨(.type "tuple"),none,(.seq ⟨[]⟩ 0),⟨[]⟩⟩
noncomputable def q326:Obj:=⟨.none,none,(.func { (fnOf "check_share" "check_share" (defArgs (top 40)) (defBody (top 40)) (defScope (top 40)) .none .none .none .none none .none .none) with globals:=0,builtins:=0 }),⟨[]⟩⟩
noncomputable def q327:Obj:=⟨(.type "code"),none,(.fields ⟨(.str "check_share" 608) :: (.str "check_share" 609) :: (.str "/claim/cut.py" 610) :: (.int 146 0) :: (.int 1 0) :: (.int 0 0) :: (.int 0 0) :: (.int 3 0) :: (.ref 322) :: (.bool true) :: (.int 181 0) :: (.ref 323) :: .none :: (.ref 324) :: (.ref 325) :: (.ref 326) :: (.int 612 0) :: (.int 146 0) :: (.str "/claim/cut.py" 613) :: []⟩),⟨[]⟩⟩
noncomputable def q328:Obj:=⟨(.type "function"),none,(.func (fnOf "check_share" "check_share" (defArgs (top 40)) (defBody (top 40)) (defScope (top 40)) .none .none .none (.str "chancehall.halls" 606) none (.ref 327) .none)),⟨[]⟩⟩
noncomputable def q329:Obj:=⟨(.type "tuple"),none,(.seq ⟨[]⟩ 0),⟨[]⟩⟩
noncomputable def q330:Obj:=⟨.none,none,(.fields ⟨[]⟩),⟨[]⟩⟩
noncomputable def q331:Obj:=⟨(.type "tuple"),none,(.seq ⟨(.str "rooms" 618) :: (.str "numbers" 619) :: (.str "room" 620) :: (.str "name" 621) :: []⟩ 0),⟨[]⟩⟩
noncomputable def q332:Obj:=⟨(.type "tuple"),none,(.seq ⟨[]⟩ 0),⟨[]⟩⟩
noncomputable def q333:Obj:=⟨.none,none,(.func { (fnOf "numbers_of" "numbers_of" (defArgs (top 41)) (defBody (top 41)) (defScope (top 41)) .none .none .none .none none .none .none) with globals:=0,builtins:=0 }),⟨[]⟩⟩
noncomputable def q334:Obj:=⟨(.type "code"),none,(.fields ⟨(.str "numbers_of" 615) :: (.str "numbers_of" 616) :: (.str "/claim/cut.py" 617) :: (.int 149 0) :: (.int 1 0) :: (.int 0 0) :: (.int 0 0) :: (.int 3 0) :: (.ref 329) :: (.bool true) :: (.int 181 0) :: (.ref 330) :: .none :: (.ref 331) :: (.ref 332) :: (.ref 333) :: (.int 622 0) :: (.int 149 0) :: (.str "/claim/cut.py" 623) :: []⟩),⟨[]⟩⟩
noncomputable def q335:Obj:=⟨(.type "function"),none,(.func (fnOf "numbers_of" "numbers_of" (defArgs (top 41)) (defBody (top 41)) (defScope (top 41)) .none .none .none (.str "chancehall.halls" 606) none (.ref 334) .none)),⟨[]⟩⟩
noncomputable def q336:Obj:=⟨(.type "tuple"),none,(.seq ⟨[]⟩ 0),⟨[]⟩⟩
noncomputable def q337:Obj:=⟨.none,none,(.fields ⟨[]⟩),⟨[]⟩⟩
noncomputable def q338:Obj:=⟨(.type "tuple"),none,(.seq ⟨(.str "door" 628) :: (.str "numbers" 629) :: (.str "numbered" 630) :: (.str "name" 631) :: (.str "chance" 632) :: []⟩ 0),⟨[]⟩⟩
noncomputable def q339:Obj:=⟨(.type "tuple"),none,(.seq ⟨[]⟩ 0),⟨[]⟩⟩
noncomputable def q340:Obj:=⟨.none,none,(.func { (fnOf "numbered_ways" "numbered_ways" (defArgs (top 42)) (defBody (top 42)) (defScope (top 42)) .none .none .none .none none .none .none) with globals:=0,builtins:=0 }),⟨[]⟩⟩
noncomputable def q341:Obj:=⟨(.type "code"),none,(.fields ⟨(.str "numbered_ways" 625) :: (.str "numbered_ways" 626) :: (.str "/claim/cut.py" 627) :: (.int 157 0) :: (.int 2 0) :: (.int 0 0) :: (.int 0 0) :: (.int 3 0) :: (.ref 336) :: (.bool true) :: (.int 181 0) :: (.ref 337) :: .none :: (.ref 338) :: (.ref 339) :: (.ref 340) :: (.int 633 0) :: (.int 157 0) :: (.str "/claim/cut.py" 634) :: []⟩),⟨[]⟩⟩
noncomputable def q342:Obj:=⟨(.type "function"),none,(.func (fnOf "numbered_ways" "numbered_ways" (defArgs (top 42)) (defBody (top 42)) (defScope (top 42)) .none .none .none (.str "chancehall.halls" 606) none (.ref 341) .none)),⟨[]⟩⟩
noncomputable def q343:Obj:=⟨(.type "tuple"),none,(.seq ⟨[]⟩ 0),⟨[]⟩⟩
noncomputable def q344:Obj:=⟨.none,none,(.fields ⟨[]⟩),⟨[]⟩⟩
noncomputable def q345:Obj:=⟨(.type "tuple"),none,(.seq ⟨(.str "doors" 639) :: (.str "numbers" 640) :: (.str "taken" 641) :: (.str "told" 642) :: (.str "door" 643) :: []⟩ 0),⟨[]⟩⟩
noncomputable def q346:Obj:=⟨(.type "tuple"),none,(.seq ⟨[]⟩ 0),⟨[]⟩⟩
noncomputable def q347:Obj:=⟨.none,none,(.func { (fnOf "offers_of" "offers_of" (defArgs (top 43)) (defBody (top 43)) (defScope (top 43)) .none .none .none .none none .none .none) with globals:=0,builtins:=0 }),⟨[]⟩⟩
noncomputable def q348:Obj:=⟨(.type "code"),none,(.fields ⟨(.str "offers_of" 636) :: (.str "offers_of" 637) :: (.str "/claim/cut.py" 638) :: (.int 164 0) :: (.int 2 0) :: (.int 0 0) :: (.int 0 0) :: (.int 3 0) :: (.ref 343) :: (.bool true) :: (.int 181 0) :: (.ref 344) :: .none :: (.ref 345) :: (.ref 346) :: (.ref 347) :: (.int 644 0) :: (.int 164 0) :: (.str "/claim/cut.py" 645) :: []⟩),⟨[]⟩⟩
noncomputable def q349:Obj:=⟨(.type "function"),none,(.func (fnOf "offers_of" "offers_of" (defArgs (top 43)) (defBody (top 43)) (defScope (top 43)) .none .none .none (.str "chancehall.halls" 606) none (.ref 348) .none)),⟨[]⟩⟩
noncomputable def q350:Obj:=⟨(.type "tuple"),none,(.seq ⟨[]⟩ 0),⟨[]⟩⟩
noncomputable def q351:Obj:=⟨(.type "builtin_function_or_method"),none,(.fields ⟨(.builtin "type.__prepare__") :: (.type "type") :: []⟩),⟨[]⟩⟩
noncomputable def q352 (P:Params):Obj:=⟨(.type "dict"),none,(.dict ⟨⟨PyData.keyHash P "__module__",(.str "__module__" 654),(.str "chancehall.halls" 606)⟩ :: ⟨PyData.keyHash P "__qualname__",(.str "__qualname__" 656),(.str "Hall" 655)⟩ :: ⟨PyData.keyHash P "__firstlineno__",(.str "__firstlineno__" 658),(.int 173 657)⟩ :: ⟨PyData.keyHash P "__init__",(.str "__init__" 664),(.ref 361)⟩ :: ⟨PyData.keyHash P "size",(.str "size" 671),(.ref 368)⟩ :: ⟨PyData.keyHash P "names",(.str "names" 678),(.ref 375)⟩ :: ⟨PyData.keyHash P "place",(.str "place" 686),(.ref 382)⟩ :: ⟨PyData.keyHash P "check_room",(.str "check_room" 694),(.ref 389)⟩ :: ⟨PyData.keyHash P "door_at",(.str "door_at" 703),(.ref 396)⟩ :: ⟨PyData.keyHash P "offers",(.str "offers" 709),(.ref 401)⟩ :: ⟨PyData.keyHash P "__static_attributes__",(.str "__static_attributes__" 713),(.ref 402)⟩ :: []⟩ 11),⟨[]⟩⟩
noncomputable def q353:Obj:=⟨(.type "tuple"),none,(.seq ⟨[]⟩ 0),⟨[]⟩⟩
noncomputable def q354:Obj:=⟨.none,none,(.fields ⟨(.int 175 0) :: (.int 4 0) :: (.ref 360) :: (.int 181 0) :: (.int 4 0) :: (.ref 367) :: (.int 184 0) :: (.int 4 0) :: (.ref 374) :: (.int 187 0) :: (.int 4 0) :: (.ref 381) :: (.int 192 0) :: (.int 4 0) :: (.ref 388) :: (.int 196 0) :: (.int 4 0) :: (.ref 395) :: (.int 199 0) :: (.int 4 0) :: (.ref 400) :: []⟩),⟨[]⟩⟩
noncomputable def q355:Obj:=⟨(.type "code"),none,(.fields ⟨(.str "Hall" 649) :: (.str "Hall" 650) :: (.str "/claim/cut.py" 651) :: (.int 173 0) :: (.int 0 0) :: (.int 0 0) :: (.int 0 0) :: (.int 0 0) :: (.ref 353) :: (.bool false) :: (.int 181 0) :: (.ref 354) :: .none :: .none :: .none :: .none :: (.int 652 0) :: (.int 173 0) :: (.str "/claim/cut.py" 653) :: []⟩),⟨[]⟩⟩
noncomputable def q356:Obj:=⟨(.type "frame"),none,.plain,⟨(some (.ref 355)) :: (some (.ref 3)) :: (some (.ref 352)) :: none :: (some (.str "chancehall.halls" 606)) :: none :: (some (.ref 0)) :: []⟩⟩
noncomputable def q357:Obj:=⟨(.type "tuple"),none,(.seq ⟨[]⟩ 0),⟨[]⟩⟩
noncomputable def q358:Obj:=⟨.none,none,(.fields ⟨[]⟩),⟨[]⟩⟩
noncomputable def q359:Obj:=⟨.none,none,(.func { (fnOf "__init__" "Hall.__init__" (defArgs (mtop 44 0)) (defBody (mtop 44 0)) (defScope (mtop 44 0)) .none .none .none .none none .none .none) with globals:=0,builtins:=0 }),⟨[]⟩⟩
noncomputable def q360:Obj:=⟨(.type "code"),none,(.fields ⟨(.str "__init__" 659) :: (.str "Hall.__init__" 660) :: (.str "/claim/cut.py" 661) :: (.int 175 0) :: (.int 3 0) :: (.int 0 0) :: (.int 0 0) :: (.int 3 0) :: (.ref 357) :: (.bool true) :: (.int 181 0) :: (.ref 358) :: .none :: .none :: .none :: (.ref 359) :: (.int 662 0) :: (.int 175 0) :: (.str "/claim/cut.py" 663) :: []⟩),⟨[]⟩⟩
noncomputable def q361:Obj:=⟨(.type "function"),none,(.func (fnOf "__init__" "Hall.__init__" (defArgs (mtop 44 0)) (defBody (mtop 44 0)) (defScope (mtop 44 0)) .none .none .none (.str "chancehall.halls" 606) none (.ref 360) .none)),⟨[]⟩⟩
noncomputable def q362:Obj:=⟨(.type "tuple"),none,(.seq ⟨[]⟩ 0),⟨[]⟩⟩
noncomputable def q363:Obj:=⟨.none,none,(.fields ⟨[]⟩),⟨[]⟩⟩
noncomputable def q364:Obj:=⟨(.type "tuple"),none,(.seq ⟨(.str "self" 668) :: []⟩ 0),⟨[]⟩⟩
noncomputable def q365:Obj:=⟨(.type "tuple"),none,(.seq ⟨[]⟩ 0),⟨[]⟩⟩
noncomputable def q366:Obj:=⟨.none,none,(.func { (fnOf "size" "Hall.size" (defArgs (mtop 44 1)) (defBody (mtop 44 1)) (defScope (mtop 44 1)) .none .none .none .none none .none .none) with globals:=0,builtins:=0 }),⟨[]⟩⟩
noncomputable def q367:Obj:=⟨(.type "code"),none,(.fields ⟨(.str "size" 665) :: (.str "Hall.size" 666) :: (.str "/claim/cut.py" 667) :: (.int 181 0) :: (.int 1 0) :: (.int 0 0) :: (.int 0 0) :: (.int 3 0) :: (.ref 362) :: (.bool true) :: (.int 181 0) :: (.ref 363) :: .none :: (.ref 364) :: (.ref 365) :: (.ref 366) :: (.int 669 0) :: (.int 181 0) :: (.str "/claim/cut.py" 670) :: []⟩),⟨[]⟩⟩
noncomputable def q368:Obj:=⟨(.type "function"),none,(.func (fnOf "size" "Hall.size" (defArgs (mtop 44 1)) (defBody (mtop 44 1)) (defScope (mtop 44 1)) .none .none .none (.str "chancehall.halls" 606) none (.ref 367) .none)),⟨[]⟩⟩
noncomputable def q369:Obj:=⟨(.type "tuple"),none,(.seq ⟨[]⟩ 0),⟨[]⟩⟩
noncomputable def q370:Obj:=⟨.none,none,(.fields ⟨[]⟩),⟨[]⟩⟩
noncomputable def q371:Obj:=⟨(.type "tuple"),none,(.seq ⟨(.str "self" 675) :: []⟩ 0),⟨[]⟩⟩
noncomputable def q372:Obj:=⟨(.type "tuple"),none,(.seq ⟨[]⟩ 0),⟨[]⟩⟩
noncomputable def q373:Obj:=⟨.none,none,(.func { (fnOf "names" "Hall.names" (defArgs (mtop 44 2)) (defBody (mtop 44 2)) (defScope (mtop 44 2)) .none .none .none .none none .none .none) with globals:=0,builtins:=0 }),⟨[]⟩⟩
noncomputable def q374:Obj:=⟨(.type "code"),none,(.fields ⟨(.str "names" 672) :: (.str "Hall.names" 673) :: (.str "/claim/cut.py" 674) :: (.int 184 0) :: (.int 1 0) :: (.int 0 0) :: (.int 0 0) :: (.int 3 0) :: (.ref 369) :: (.bool true) :: (.int 181 0) :: (.ref 370) :: .none :: (.ref 371) :: (.ref 372) :: (.ref 373) :: (.int 676 0) :: (.int 184 0) :: (.str "/claim/cut.py" 677) :: []⟩),⟨[]⟩⟩
noncomputable def q375:Obj:=⟨(.type "function"),none,(.func (fnOf "names" "Hall.names" (defArgs (mtop 44 2)) (defBody (mtop 44 2)) (defScope (mtop 44 2)) .none .none .none (.str "chancehall.halls" 606) none (.ref 374) .none)),⟨[]⟩⟩
noncomputable def q376:Obj:=⟨(.type "tuple"),none,(.seq ⟨[]⟩ 0),⟨[]⟩⟩
noncomputable def q377:Obj:=⟨.none,none,(.fields ⟨[]⟩),⟨[]⟩⟩
noncomputable def q378:Obj:=⟨(.type "tuple"),none,(.seq ⟨(.str "self" 682) :: (.str "name" 683) :: []⟩ 0),⟨[]⟩⟩
noncomputable def q379:Obj:=⟨(.type "tuple"),none,(.seq ⟨[]⟩ 0),⟨[]⟩⟩
noncomputable def q380:Obj:=⟨.none,none,(.func { (fnOf "place" "Hall.place" (defArgs (mtop 44 3)) (defBody (mtop 44 3)) (defScope (mtop 44 3)) .none .none .none .none none .none .none) with globals:=0,builtins:=0 }),⟨[]⟩⟩
noncomputable def q381:Obj:=⟨(.type "code"),none,(.fields ⟨(.str "place" 679) :: (.str "Hall.place" 680) :: (.str "/claim/cut.py" 681) :: (.int 187 0) :: (.int 2 0) :: (.int 0 0) :: (.int 0 0) :: (.int 3 0) :: (.ref 376) :: (.bool true) :: (.int 181 0) :: (.ref 377) :: .none :: (.ref 378) :: (.ref 379) :: (.ref 380) :: (.int 684 0) :: (.int 187 0) :: (.str "/claim/cut.py" 685) :: []⟩),⟨[]⟩⟩
noncomputable def q382:Obj:=⟨(.type "function"),none,(.func (fnOf "place" "Hall.place" (defArgs (mtop 44 3)) (defBody (mtop 44 3)) (defScope (mtop 44 3)) .none .none .none (.str "chancehall.halls" 606) none (.ref 381) .none)),⟨[]⟩⟩
noncomputable def q383:Obj:=⟨(.type "tuple"),none,(.seq ⟨[]⟩ 0),⟨[]⟩⟩
noncomputable def q384:Obj:=⟨.none,none,(.fields ⟨[]⟩),⟨[]⟩⟩
noncomputable def q385:Obj:=⟨(.type "tuple"),none,(.seq ⟨(.str "self" 690) :: (.str "room" 691) :: []⟩ 0),⟨[]⟩⟩
noncomputable def q386:Obj:=⟨(.type "tuple"),none,(.seq ⟨[]⟩ 0),⟨[]⟩⟩
noncomputable def q387:Obj:=⟨.none,none,(.func { (fnOf "check_room" "Hall.check_room" (defArgs (mtop 44 4)) (defBody (mtop 44 4)) (defScope (mtop 44 4)) .none .none .none .none none .none .none) with globals:=0,builtins:=0 }),⟨[]⟩⟩
noncomputable def q388:Obj:=⟨(.type "code"),none,(.fields ⟨(.str "check_room" 687) :: (.str "Hall.check_room" 688) :: (.str "/claim/cut.py" 689) :: (.int 192 0) :: (.int 2 0) :: (.int 0 0) :: (.int 0 0) :: (.int 3 0) :: (.ref 383) :: (.bool true) :: (.int 181 0) :: (.ref 384) :: .none :: (.ref 385) :: (.ref 386) :: (.ref 387) :: (.int 692 0) :: (.int 192 0) :: (.str "/claim/cut.py" 693) :: []⟩),⟨[]⟩⟩
noncomputable def q389:Obj:=⟨(.type "function"),none,(.func (fnOf "check_room" "Hall.check_room" (defArgs (mtop 44 4)) (defBody (mtop 44 4)) (defScope (mtop 44 4)) .none .none .none (.str "chancehall.halls" 606) none (.ref 388) .none)),⟨[]⟩⟩
noncomputable def q390:Obj:=⟨(.type "tuple"),none,(.seq ⟨[]⟩ 0),⟨[]⟩⟩
noncomputable def q391:Obj:=⟨.none,none,(.fields ⟨[]⟩),⟨[]⟩⟩
noncomputable def q392:Obj:=⟨(.type "tuple"),none,(.seq ⟨(.str "self" 698) :: (.str "room" 699) :: (.str "name" 700) :: []⟩ 0),⟨[]⟩⟩
noncomputable def q393:Obj:=⟨(.type "tuple"),none,(.seq ⟨[]⟩ 0),⟨[]⟩⟩
noncomputable def q394:Obj:=⟨.none,none,(.func { (fnOf "door_at" "Hall.door_at" (defArgs (mtop 44 5)) (defBody (mtop 44 5)) (defScope (mtop 44 5)) .none .none .none .none none .none .none) with globals:=0,builtins:=0 }),⟨[]⟩⟩
noncomputable def q395:Obj:=⟨(.type "code"),none,(.fields ⟨(.str "door_at" 695) :: (.str "Hall.door_at" 696) :: (.str "/claim/cut.py" 697) :: (.int 196 0) :: (.int 3 0) :: (.int 0 0) :: (.int 0 0) :: (.int 3 0) :: (.ref 390) :: (.bool true) :: (.int 181 0) :: (.ref 391) :: .none :: (.ref 392) :: (.ref 393) :: (.ref 394) :: (.int 701 0) :: (.int 196 0) :: (.str "/claim/cut.py" 702) :: []⟩),⟨[]⟩⟩
noncomputable def q396:Obj:=⟨(.type "function"),none,(.func (fnOf "door_at" "Hall.door_at" (defArgs (mtop 44 5)) (defBody (mtop 44 5)) (defScope (mtop 44 5)) .none .none .none (.str "chancehall.halls" 606) none (.ref 395) .none)),⟨[]⟩⟩
noncomputable def q397:Obj:=⟨(.type "tuple"),none,(.seq ⟨[]⟩ 0),⟨[]⟩⟩
noncomputable def q398:Obj:=⟨.none,none,(.fields ⟨[]⟩),⟨[]⟩⟩
noncomputable def q399:Obj:=⟨.none,none,(.func { (fnOf "offers" "Hall.offers" (defArgs (mtop 44 6)) (defBody (mtop 44 6)) (defScope (mtop 44 6)) .none .none .none .none none .none .none) with globals:=0,builtins:=0 }),⟨[]⟩⟩
noncomputable def q400:Obj:=⟨(.type "code"),none,(.fields ⟨(.str "offers" 704) :: (.str "Hall.offers" 705) :: (.str "/claim/cut.py" 706) :: (.int 199 0) :: (.int 2 0) :: (.int 0 0) :: (.int 0 0) :: (.int 3 0) :: (.ref 397) :: (.bool true) :: (.int 181 0) :: (.ref 398) :: .none :: .none :: .none :: (.ref 399) :: (.int 707 0) :: (.int 199 0) :: (.str "/claim/cut.py" 708) :: []⟩),⟨[]⟩⟩
noncomputable def q401:Obj:=⟨(.type "function"),none,(.func (fnOf "offers" "Hall.offers" (defArgs (mtop 44 6)) (defBody (mtop 44 6)) (defScope (mtop 44 6)) .none .none .none (.str "chancehall.halls" 606) none (.ref 400) .none)),⟨[]⟩⟩
noncomputable def q402:Obj:=⟨(.type "tuple"),none,(.seq ⟨(.str "numbers" 710) :: (.str "offered" 711) :: (.str "share" 712) :: []⟩ 0),⟨[]⟩⟩
noncomputable def q403 (P:Params):Obj:=⟨(.type "dict"),none,(.dict ⟨⟨PyData.keyHash P "__module__",(.str "__module__" 654),(.str "chancehall.halls" 606)⟩ :: ⟨PyData.keyHash P "__firstlineno__",(.str "__firstlineno__" 658),(.int 173 657)⟩ :: ⟨PyData.keyHash P "__init__",(.str "__init__" 664),(.ref 361)⟩ :: ⟨PyData.keyHash P "size",(.str "size" 671),(.ref 368)⟩ :: ⟨PyData.keyHash P "names",(.str "names" 678),(.ref 375)⟩ :: ⟨PyData.keyHash P "place",(.str "place" 686),(.ref 382)⟩ :: ⟨PyData.keyHash P "check_room",(.str "check_room" 694),(.ref 389)⟩ :: ⟨PyData.keyHash P "door_at",(.str "door_at" 703),(.ref 396)⟩ :: ⟨PyData.keyHash P "offers",(.str "offers" 709),(.ref 401)⟩ :: ⟨PyData.keyHash P "__static_attributes__",(.str "__static_attributes__" 713),(.ref 402)⟩ :: ⟨PyData.keyHash P "__dict__",(.str "__dict__" 715),(.ref 405)⟩ :: ⟨PyData.keyHash P "__weakref__",(.str "__weakref__" 717),(.ref 406)⟩ :: ⟨PyData.keyHash P "__doc__",(.str "__doc__" 718),.none⟩ :: []⟩ 4),⟨[]⟩⟩
noncomputable def q404:Obj:=⟨(.type "type"),none,(.cls ⟨"Hall",[(.type "object")],[(.ref 404),(.type "object")],403, "Hall",true,[],[],false,none,false⟩),⟨none :: none :: (some (.str "Hall" 647)) :: (some (.str "Hall" 655)) :: (some (.builtin "object.__new__")) :: (some (.bool true)) :: []⟩⟩
noncomputable def q405:Obj:=⟨(.type "getset_descriptor"),none,(.fields ⟨(.str "__dict__" 714) :: (.ref 404) :: (.builtin "function.__dict__") :: (.builtin "function.__dict__#set") :: []⟩),⟨[]⟩⟩
noncomputable def q406:Obj:=⟨(.type "getset_descriptor"),none,(.fields ⟨(.str "__weakref__" 716) :: (.ref 404) :: (.builtin "ExceptionGroup.__weakref__") :: .none :: []⟩),⟨[]⟩⟩
noncomputable def q407:Obj:=⟨(.type "super"),none,(.fields ⟨(.ref 404) :: (.ref 404) :: (.ref 404) :: []⟩),⟨[]⟩⟩
noncomputable def q408:Obj:=⟨(.type "builtin_function_or_method"),none,(.fields ⟨(.builtin "object.__init_subclass__") :: (.ref 404) :: []⟩),⟨[]⟩⟩
noncomputable def q409:Obj:=⟨(.type "tuple"),none,(.seq ⟨[]⟩ 0),⟨[]⟩⟩
noncomputable def q410:Obj:=⟨.none,none,(.fields ⟨[]⟩),⟨[]⟩⟩
noncomputable def q411:Obj:=⟨(.type "tuple"),none,(.seq ⟨(.str "_law_script" 726) :: (.str "_law_k" 727) :: []⟩ 0),⟨[]⟩⟩
noncomputable def q412:Obj:=⟨(.type "tuple"),none,(.seq ⟨[]⟩ 0),⟨[]⟩⟩
noncomputable def q413:Obj:=⟨.none,none,(.func { (fnOf "_law_cell" "_law_cell" (defArgs (top 46)) (defBody (top 46)) (defScope (top 46)) .none .none .none .none none .none .none) with globals:=0,builtins:=0 }),⟨[]⟩⟩
noncomputable def q414:Obj:=⟨(.type "code"),none,(.fields ⟨(.str "_law_cell" 723) :: (.str "_law_cell" 724) :: (.str "/claim/cut.py" 725) :: (.int 203 0) :: (.int 2 0) :: (.int 0 0) :: (.int 0 0) :: (.int 3 0) :: (.ref 409) :: (.bool true) :: (.int 181 0) :: (.ref 410) :: .none :: (.ref 411) :: (.ref 412) :: (.ref 413) :: (.int 728 0) :: (.int 203 0) :: (.str "/claim/cut.py" 729) :: []⟩),⟨[]⟩⟩
noncomputable def q415:Obj:=⟨(.type "function"),none,(.func (fnOf "_law_cell" "_law_cell" (defArgs (top 46)) (defBody (top 46)) (defScope (top 46)) .none .none .none (.str "law_chancehall_k30_most_mendings" 721) none (.ref 414) .none)),⟨[]⟩⟩
noncomputable def q416:Obj:=⟨(.type "tuple"),none,(.seq ⟨[]⟩ 0),⟨[]⟩⟩
noncomputable def q417:Obj:=⟨.none,none,(.fields ⟨[]⟩),⟨[]⟩⟩
noncomputable def q418:Obj:=⟨(.type "tuple"),none,(.seq ⟨(.str "_law_cell_here" 734) :: (.str "_law_many" 735) :: (.str "_law_found" 736) :: (.str "_law_number" 737) :: (.str "_law_digits" 738) :: (.str "_law_k" 739) :: []⟩ 0),⟨[]⟩⟩
noncomputable def q419:Obj:=⟨(.type "tuple"),none,(.seq ⟨[]⟩ 0),⟨[]⟩⟩
noncomputable def q420:Obj:=⟨.none,none,(.func { (fnOf "_law_stream" "_law_stream" (defArgs (top 47)) (defBody (top 47)) (defScope (top 47)) .none .none .none .none none .none .none) with globals:=0,builtins:=0 }),⟨[]⟩⟩
noncomputable def q421:Obj:=⟨(.type "code"),none,(.fields ⟨(.str "_law_stream" 731) :: (.str "_law_stream" 732) :: (.str "/claim/cut.py" 733) :: (.int 205 0) :: (.int 2 0) :: (.int 0 0) :: (.int 0 0) :: (.int 3 0) :: (.ref 416) :: (.bool true) :: (.int 181 0) :: (.ref 417) :: .none :: (.ref 418) :: (.ref 419) :: (.ref 420) :: (.int 740 0) :: (.int 205 0) :: (.str "/claim/cut.py" 741) :: []⟩),⟨[]⟩⟩
noncomputable def q422:Obj:=⟨(.type "function"),none,(.func (fnOf "_law_stream" "_law_stream" (defArgs (top 47)) (defBody (top 47)) (defScope (top 47)) .none .none .none (.str "law_chancehall_k30_most_mendings" 721) none (.ref 421) .none)),⟨[]⟩⟩
noncomputable def q423:Obj:=⟨(.type "tuple"),none,(.seq ⟨[]⟩ 0),⟨[]⟩⟩
noncomputable def q424:Obj:=⟨.none,none,(.fields ⟨[]⟩),⟨[]⟩⟩
noncomputable def q425:Obj:=⟨(.type "tuple"),none,(.seq ⟨(.str "_law_one" 746) :: (.str "_law_other" 747) :: (.str "_law_low" 748) :: (.str "_law_high" 749) :: []⟩ 0),⟨[]⟩⟩
noncomputable def q426:Obj:=⟨(.type "tuple"),none,(.seq ⟨[]⟩ 0),⟨[]⟩⟩
noncomputable def q427:Obj:=⟨.none,none,(.func { (fnOf "_law_gcd" "_law_gcd" (defArgs (top 48)) (defBody (top 48)) (defScope (top 48)) .none .none .none .none none .none .none) with globals:=0,builtins:=0 }),⟨[]⟩⟩
noncomputable def q428:Obj:=⟨(.type "code"),none,(.fields ⟨(.str "_law_gcd" 743) :: (.str "_law_gcd" 744) :: (.str "/claim/cut.py" 745) :: (.int 216 0) :: (.int 2 0) :: (.int 0 0) :: (.int 0 0) :: (.int 3 0) :: (.ref 423) :: (.bool true) :: (.int 181 0) :: (.ref 424) :: .none :: (.ref 425) :: (.ref 426) :: (.ref 427) :: (.int 750 0) :: (.int 216 0) :: (.str "/claim/cut.py" 751) :: []⟩),⟨[]⟩⟩
noncomputable def q429:Obj:=⟨(.type "function"),none,(.func (fnOf "_law_gcd" "_law_gcd" (defArgs (top 48)) (defBody (top 48)) (defScope (top 48)) .none .none .none (.str "law_chancehall_k30_most_mendings" 721) none (.ref 428) .none)),⟨[]⟩⟩
noncomputable def q430:Obj:=⟨(.type "tuple"),none,(.seq ⟨[]⟩ 0),⟨[]⟩⟩
noncomputable def q431:Obj:=⟨.none,none,(.fields ⟨[]⟩),⟨[]⟩⟩
noncomputable def q432:Obj:=⟨(.type "tuple"),none,(.seq ⟨(.str "_law_top" 756) :: (.str "_law_bottom" 757) :: (.str "_law_common" 758) :: []⟩ 0),⟨[]⟩⟩
noncomputable def q433:Obj:=⟨(.type "tuple"),none,(.seq ⟨[]⟩ 0),⟨[]⟩⟩
noncomputable def q434:Obj:=⟨.none,none,(.func { (fnOf "_law_ratio" "_law_ratio" (defArgs (top 49)) (defBody (top 49)) (defScope (top 49)) .none .none .none .none none .none .none) with globals:=0,builtins:=0 }),⟨[]⟩⟩
noncomputable def q435:Obj:=⟨(.type "code"),none,(.fields ⟨(.str "_law_ratio" 753) :: (.str "_law_ratio" 754) :: (.str "/claim/cut.py" 755) :: (.int 221 0) :: (.int 2 0) :: (.int 0 0) :: (.int 0 0) :: (.int 3 0) :: (.ref 430) :: (.bool true) :: (.int 181 0) :: (.ref 431) :: .none :: (.ref 432) :: (.ref 433) :: (.ref 434) :: (.int 759 0) :: (.int 221 0) :: (.str "/claim/cut.py" 760) :: []⟩),⟨[]⟩⟩
noncomputable def q436:Obj:=⟨(.type "function"),none,(.func (fnOf "_law_ratio" "_law_ratio" (defArgs (top 49)) (defBody (top 49)) (defScope (top 49)) .none .none .none (.str "law_chancehall_k30_most_mendings" 721) none (.ref 435) .none)),⟨[]⟩⟩
noncomputable def q437:Obj:=⟨(.type "tuple"),none,(.seq ⟨[]⟩ 0),⟨[]⟩⟩
noncomputable def q438:Obj:=⟨.none,none,(.fields ⟨[]⟩),⟨[]⟩⟩
noncomputable def q439:Obj:=⟨.none,none,(.func { (fnOf "_law_names" "_law_names" (defArgs (top 50)) (defBody (top 50)) (defScope (top 50)) .none .none .none .none none .none .none) with globals:=0,builtins:=0 }),⟨[]⟩⟩
noncomputable def q440:Obj:=⟨(.type "code"),none,(.fields ⟨(.str "_law_names" 762) :: (.str "_law_names" 763) :: (.str "/claim/cut.py" 764) :: (.int 224 0) :: (.int 2 0) :: (.int 0 0) :: (.int 0 0) :: (.int 3 0) :: (.ref 437) :: (.bool true) :: (.int 181 0) :: (.ref 438) :: .none :: .none :: .none :: (.ref 439) :: (.int 765 0) :: (.int 224 0) :: (.str "/claim/cut.py" 766) :: []⟩),⟨[]⟩⟩
noncomputable def q441:Obj:=⟨(.type "function"),none,(.func (fnOf "_law_names" "_law_names" (defArgs (top 50)) (defBody (top 50)) (defScope (top 50)) .none .none .none (.str "law_chancehall_k30_most_mendings" 721) none (.ref 440) .none)),⟨[]⟩⟩
noncomputable def q442:Obj:=⟨(.type "tuple"),none,(.seq ⟨[]⟩ 0),⟨[]⟩⟩
noncomputable def q443:Obj:=⟨.none,none,(.fields ⟨[]⟩),⟨[]⟩⟩
noncomputable def q444:Obj:=⟨(.type "tuple"),none,(.seq ⟨(.str "_law_cell_here" 771) :: (.str "_law_xs" 772) :: (.str "_law_bottom" 773) :: []⟩ 0),⟨[]⟩⟩
noncomputable def q445:Obj:=⟨(.type "tuple"),none,(.seq ⟨[]⟩ 0),⟨[]⟩⟩
noncomputable def q446:Obj:=⟨.none,none,(.func { (fnOf "_law_share" "_law_share" (defArgs (top 51)) (defBody (top 51)) (defScope (top 51)) .none .none .none .none none .none .none) with globals:=0,builtins:=0 }),⟨[]⟩⟩
noncomputable def q447:Obj:=⟨(.type "code"),none,(.fields ⟨(.str "_law_share" 768) :: (.str "_law_share" 769) :: (.str "/claim/cut.py" 770) :: (.int 233 0) :: (.int 1 0) :: (.int 0 0) :: (.int 0 0) :: (.int 3 0) :: (.ref 442) :: (.bool true) :: (.int 181 0) :: (.ref 443) :: .none :: (.ref 444) :: (.ref 445) :: (.ref 446) :: (.int 774 0) :: (.int 233 0) :: (.str "/claim/cut.py" 775) :: []⟩),⟨[]⟩⟩
noncomputable def q448:Obj:=⟨(.type "function"),none,(.func (fnOf "_law_share" "_law_share" (defArgs (top 51)) (defBody (top 51)) (defScope (top 51)) .none .none .none (.str "law_chancehall_k30_most_mendings" 721) none (.ref 447) .none)),⟨[]⟩⟩
noncomputable def q449:Obj:=⟨(.type "tuple"),none,(.seq ⟨[]⟩ 0),⟨[]⟩⟩
noncomputable def q450:Obj:=⟨.none,none,(.fields ⟨[]⟩),⟨[]⟩⟩
noncomputable def q451:Obj:=⟨(.type "tuple"),none,(.seq ⟨(.str "_law_cell_here" 780) :: (.str "_law_x" 781) :: (.str "_law_y" 782) :: []⟩ 0),⟨[]⟩⟩
noncomputable def q452:Obj:=⟨(.type "tuple"),none,(.seq ⟨[]⟩ 0),⟨[]⟩⟩
noncomputable def q453:Obj:=⟨.none,none,(.func { (fnOf "_law_pay" "_law_pay" (defArgs (top 52)) (defBody (top 52)) (defScope (top 52)) .none .none .none .none none .none .none) with globals:=0,builtins:=0 }),⟨[]⟩⟩
noncomputable def q454:Obj:=⟨(.type "code"),none,(.fields ⟨(.str "_law_pay" 777) :: (.str "_law_pay" 778) :: (.str "/claim/cut.py" 779) :: (.int 237 0) :: (.int 3 0) :: (.int 0 0) :: (.int 0 0) :: (.int 3 0) :: (.ref 449) :: (.bool true) :: (.int 181 0) :: (.ref 450) :: .none :: (.ref 451) :: (.ref 452) :: (.ref 453) :: (.int 783 0) :: (.int 237 0) :: (.str "/claim/cut.py" 784) :: []⟩),⟨[]⟩⟩
noncomputable def q455:Obj:=⟨(.type "function"),none,(.func (fnOf "_law_pay" "_law_pay" (defArgs (top 52)) (defBody (top 52)) (defScope (top 52)) .none .none .none (.str "law_chancehall_k30_most_mendings" 721) none (.ref 454) .none)),⟨[]⟩⟩
noncomputable def q456:Obj:=⟨(.type "tuple"),none,(.seq ⟨[]⟩ 0),⟨[]⟩⟩
noncomputable def q457:Obj:=⟨.none,none,(.fields ⟨[]⟩),⟨[]⟩⟩
noncomputable def q458:Obj:=⟨.none,none,(.func { (fnOf "_law_door" "_law_door" (defArgs (top 53)) (defBody (top 53)) (defScope (top 53)) .none .none .none .none none .none .none) with globals:=0,builtins:=0 }),⟨[]⟩⟩
noncomputable def q459:Obj:=⟨(.type "code"),none,(.fields ⟨(.str "_law_door" 786) :: (.str "_law_door" 787) :: (.str "/claim/cut.py" 788) :: (.int 245 0) :: (.int 2 0) :: (.int 0 0) :: (.int 0 0) :: (.int 3 0) :: (.ref 456) :: (.bool true) :: (.int 181 0) :: (.ref 457) :: .none :: .none :: .none :: (.ref 458) :: (.int 789 0) :: (.int 245 0) :: (.str "/claim/cut.py" 790) :: []⟩),⟨[]⟩⟩
noncomputable def q460:Obj:=⟨(.type "function"),none,(.func (fnOf "_law_door" "_law_door" (defArgs (top 53)) (defBody (top 53)) (defScope (top 53)) .none .none .none (.str "law_chancehall_k30_most_mendings" 721) none (.ref 459) .none)),⟨[]⟩⟩
noncomputable def q461:Obj:=⟨(.type "tuple"),none,(.seq ⟨[]⟩ 0),⟨[]⟩⟩
noncomputable def q462:Obj:=⟨.none,none,(.fields ⟨[]⟩),⟨[]⟩⟩
noncomputable def q463:Obj:=⟨.none,none,(.func { (fnOf "_law_doors" "_law_doors" (defArgs (top 54)) (defBody (top 54)) (defScope (top 54)) .none .none .none .none none .none .none) with globals:=0,builtins:=0 }),⟨[]⟩⟩
noncomputable def q464:Obj:=⟨(.type "code"),none,(.fields ⟨(.str "_law_doors" 792) :: (.str "_law_doors" 793) :: (.str "/claim/cut.py" 794) :: (.int 262 0) :: (.int 4 0) :: (.int 0 0) :: (.int 0 0) :: (.int 3 0) :: (.ref 461) :: (.bool true) :: (.int 181 0) :: (.ref 462) :: .none :: .none :: .none :: (.ref 463) :: (.int 795 0) :: (.int 262 0) :: (.str "/claim/cut.py" 796) :: []⟩),⟨[]⟩⟩
noncomputable def q465:Obj:=⟨(.type "function"),none,(.func (fnOf "_law_doors" "_law_doors" (defArgs (top 54)) (defBody (top 54)) (defScope (top 54)) .none .none .none (.str "law_chancehall_k30_most_mendings" 721) none (.ref 464) .none)),⟨[]⟩⟩
noncomputable def q466:Obj:=⟨(.type "tuple"),none,(.seq ⟨[]⟩ 0),⟨[]⟩⟩
noncomputable def q467:Obj:=⟨.none,none,(.fields ⟨[]⟩),⟨[]⟩⟩
noncomputable def q468:Obj:=⟨.none,none,(.func { (fnOf "_law_built" "_law_built" (defArgs (top 55)) (defBody (top 55)) (defScope (top 55)) .none .none .none .none none .none .none) with globals:=0,builtins:=0 }),⟨[]⟩⟩
noncomputable def q469:Obj:=⟨(.type "code"),none,(.fields ⟨(.str "_law_built" 798) :: (.str "_law_built" 799) :: (.str "/claim/cut.py" 800) :: (.int 272 0) :: (.int 3 0) :: (.int 0 0) :: (.int 0 0) :: (.int 3 0) :: (.ref 466) :: (.bool true) :: (.int 181 0) :: (.ref 467) :: .none :: .none :: .none :: (.ref 468) :: (.int 801 0) :: (.int 272 0) :: (.str "/claim/cut.py" 802) :: []⟩),⟨[]⟩⟩
noncomputable def q470:Obj:=⟨(.type "function"),none,(.func (fnOf "_law_built" "_law_built" (defArgs (top 55)) (defBody (top 55)) (defScope (top 55)) .none .none .none (.str "law_chancehall_k30_most_mendings" 721) none (.ref 469) .none)),⟨[]⟩⟩
noncomputable def q471:Obj:=⟨(.type "tuple"),none,(.seq ⟨[]⟩ 0),⟨[]⟩⟩
noncomputable def q472:Obj:=⟨.none,none,(.fields ⟨[]⟩),⟨[]⟩⟩
noncomputable def q473:Obj:=⟨.none,none,(.func { (fnOf "_law_hall" "_law_hall" (defArgs (top 56)) (defBody (top 56)) (defScope (top 56)) .none .none .none .none none .none .none) with globals:=0,builtins:=0 }),⟨[]⟩⟩
noncomputable def q474:Obj:=⟨(.type "code"),none,(.fields ⟨(.str "_law_hall" 804) :: (.str "_law_hall" 805) :: (.str "/claim/cut.py" 806) :: (.int 282 0) :: (.int 3 0) :: (.int 0 0) :: (.int 0 0) :: (.int 3 0) :: (.ref 471) :: (.bool true) :: (.int 181 0) :: (.ref 472) :: .none :: .none :: .none :: (.ref 473) :: (.int 807 0) :: (.int 282 0) :: (.str "/claim/cut.py" 808) :: []⟩),⟨[]⟩⟩
noncomputable def q475:Obj:=⟨(.type "function"),none,(.func (fnOf "_law_hall" "_law_hall" (defArgs (top 56)) (defBody (top 56)) (defScope (top 56)) .none .none .none (.str "law_chancehall_k30_most_mendings" 721) none (.ref 474) .none)),⟨[]⟩⟩
noncomputable def q476:Obj:=⟨(.type "tuple"),none,(.seq ⟨[]⟩ 0),⟨[]⟩⟩
noncomputable def q477:Obj:=⟨.none,none,(.fields ⟨[]⟩),⟨[]⟩⟩
noncomputable def q478:Obj:=⟨(.type "tuple"),none,(.seq ⟨(.str "_law_cell_here" 813) :: (.str "_law_rooms" 814) :: (.str "_law_xs" 815) :: (.str "_law_found" 816) :: (.str "_law_k" 817) :: []⟩ 0),⟨[]⟩⟩
noncomputable def q479:Obj:=⟨(.type "tuple"),none,(.seq ⟨[]⟩ 0),⟨[]⟩⟩
noncomputable def q480:Obj:=⟨.none,none,(.func { (fnOf "_law_chosen" "_law_chosen" (defArgs (top 57)) (defBody (top 57)) (defScope (top 57)) .none .none .none .none none .none .none) with globals:=0,builtins:=0 }),⟨[]⟩⟩
noncomputable def q481:Obj:=⟨(.type "code"),none,(.fields ⟨(.str "_law_chosen" 810) :: (.str "_law_chosen" 811) :: (.str "/claim/cut.py" 812) :: (.int 289 0) :: (.int 2 0) :: (.int 0 0) :: (.int 0 0) :: (.int 3 0) :: (.ref 476) :: (.bool true) :: (.int 181 0) :: (.ref 477) :: .none :: (.ref 478) :: (.ref 479) :: (.ref 480) :: (.int 818 0) :: (.int 289 0) :: (.str "/claim/cut.py" 819) :: []⟩),⟨[]⟩⟩
noncomputable def q482:Obj:=⟨(.type "function"),none,(.func (fnOf "_law_chosen" "_law_chosen" (defArgs (top 57)) (defBody (top 57)) (defScope (top 57)) .none .none .none (.str "law_chancehall_k30_most_mendings" 721) none (.ref 481) .none)),⟨[]⟩⟩
noncomputable def q483:Obj:=⟨(.type "tuple"),none,(.seq ⟨[]⟩ 0),⟨[]⟩⟩
noncomputable def q484:Obj:=⟨.none,none,(.fields ⟨[]⟩),⟨[]⟩⟩
noncomputable def q485:Obj:=⟨(.type "tuple"),none,(.seq ⟨(.str "_law_cell_here" 824) :: (.str "_law_xs" 825) :: []⟩ 0),⟨[]⟩⟩
noncomputable def q486:Obj:=⟨(.type "tuple"),none,(.seq ⟨[]⟩ 0),⟨[]⟩⟩
noncomputable def q487:Obj:=⟨.none,none,(.func { (fnOf "_law_size" "_law_size" (defArgs (top 58)) (defBody (top 58)) (defScope (top 58)) .none .none .none .none none .none .none) with globals:=0,builtins:=0 }),⟨[]⟩⟩
noncomputable def q488:Obj:=⟨(.type "code"),none,(.fields ⟨(.str "_law_size" 821) :: (.str "_law_size" 822) :: (.str "/claim/cut.py" 823) :: (.int 298 0) :: (.int 1 0) :: (.int 0 0) :: (.int 0 0) :: (.int 3 0) :: (.ref 483) :: (.bool true) :: (.int 181 0) :: (.ref 484) :: .none :: (.ref 485) :: (.ref 486) :: (.ref 487) :: (.int 826 0) :: (.int 298 0) :: (.str "/claim/cut.py" 827) :: []⟩),⟨[]⟩⟩
noncomputable def q489:Obj:=⟨(.type "function"),none,(.func (fnOf "_law_size" "_law_size" (defArgs (top 58)) (defBody (top 58)) (defScope (top 58)) .none .none .none (.str "law_chancehall_k30_most_mendings" 721) none (.ref 488) .none)),⟨[]⟩⟩
noncomputable def q490:Obj:=⟨(.type "tuple"),none,(.seq ⟨[]⟩ 0),⟨[]⟩⟩
noncomputable def q491:Obj:=⟨.none,none,(.fields ⟨[]⟩),⟨[]⟩⟩
noncomputable def q492:Obj:=⟨(.type "tuple"),none,(.seq ⟨(.str "_law_found" 832) :: []⟩ 0),⟨[]⟩⟩
noncomputable def q493:Obj:=⟨(.type "tuple"),none,(.seq ⟨[]⟩ 0),⟨[]⟩⟩
noncomputable def q494:Obj:=⟨.none,none,(.func { (fnOf "_law_whole" "_law_whole" (defArgs (top 59)) (defBody (top 59)) (defScope (top 59)) .none .none .none .none none .none .none) with globals:=0,builtins:=0 }),⟨[]⟩⟩
noncomputable def q495:Obj:=⟨(.type "code"),none,(.fields ⟨(.str "_law_whole" 829) :: (.str "_law_whole" 830) :: (.str "/claim/cut.py" 831) :: (.int 303 0) :: (.int 1 0) :: (.int 0 0) :: (.int 0 0) :: (.int 3 0) :: (.ref 490) :: (.bool true) :: (.int 181 0) :: (.ref 491) :: .none :: (.ref 492) :: (.ref 493) :: (.ref 494) :: (.int 833 0) :: (.int 303 0) :: (.str "/claim/cut.py" 834) :: []⟩),⟨[]⟩⟩
noncomputable def q496:Obj:=⟨(.type "function"),none,(.func (fnOf "_law_whole" "_law_whole" (defArgs (top 59)) (defBody (top 59)) (defScope (top 59)) .none .none .none (.str "law_chancehall_k30_most_mendings" 721) none (.ref 495) .none)),⟨[]⟩⟩
noncomputable def tr1 (P:Params):BT:=(.node (boot_o_0 P) (.node (boot_o_1 P) (.node (q3_1 P) (.node (boot_o_7 P) (.node q15 (.node q31 (.node q63 (.node q127 (lf q255) (lf q383)) (.node q191 (lf q319) (lf q447))) (.node q95 (.node q159 (lf q287) (lf q415)) (.node q223 (lf q351) (lf q479)))) (.node q47 (.node (q79 P) (.node q143 (lf q271) (lf q399)) (.node q207 (lf q335) (lf q463))) (.node q111 (.node q175 (lf q303) (lf q431)) (.node q239 (lf q367) (lf q495))))) (.node q23 (.node q39 (.node q71 (.node q135 (lf (q263 P)) (lf q391)) (.node q199 (lf q327) (lf q455))) (.node q103 (.node q167 (lf q295) (lf q423)) (.node q231 (lf q359) (lf q487)))) (.node (q55 P) (.node q87 (.node q151 (lf q279) (lf q407)) (.node (q215 P) (lf q343) (lf q471))) (.node q119 (.node q183 (lf q311) (lf q439)) (.node q247 (lf q375) .nil))))) (.node o11 (.node q19 (.node q35 (.node (q67 P) (.node q131 (lf q259) (lf q387)) (.node q195 (lf q323) (lf q451))) (.node q99 (.node q163 (lf q291) (lf q419)) (.node q227 (lf q355) (lf q483)))) (.node q51 (.node q83 (.node q147 (lf q275) (lf (q403 P))) (.node q211 (lf q339) (lf q467))) (.node q115 (.node q179 (lf (q307 P)) (lf q435)) (.node q243 (lf q371) .nil)))) (.node q27 (.node (q43 P) (.node q75 (.node q139 (lf q267) (lf q395)) (.node q203 (lf q331) (lf q459))) (.node q107 (.node q171 (lf q299) (lf q427)) (.node q235 (lf q363) (lf q491)))) (.node q59 (.node q91 (.node q155 (lf q283) (lf q411)) (.node q219 (lf q347) (lf q475))) (.node q123 (.node q187 (lf q315) (lf q443)) (.node q251 (lf q379) .nil)))))) (.node (boot_o_5 P) (.node (boot_o_9 P) (.node q17 (.node q33 (.node q65 (.node q129 (lf q257) (lf q385)) (.node q193 (lf q321) (lf q449))) (.node q97 (.node q161 (lf q289) (lf q417)) (.node q225 (lf q353) (lf q481)))) (.node (q49 P) (.node q81 (.node q145 (lf q273) (lf q401)) (.node q209 (lf q337) (lf q465))) (.node q113 (.node q177 (lf q305) (lf q433)) (.node q241 (lf q369) .nil)))) (.node q25 (.node q41 (.node (q73 P) (.node q137 (lf q265) (lf q393)) (.node q201 (lf q329) (lf q457))) (.node q105 (.node q169 (lf q297) (lf q425)) (.node q233 (lf q361) (lf q489)))) (.node q57 (.node q89 (.node q153 (lf q281) (lf q409)) (.node q217 (lf q345) (lf q473))) (.node q121 (.node q185 (lf q313) (lf q441)) (.node q249 (lf q377) .nil))))) (.node o13 (.node q21 (.node (q37 P) (.node q69 (.node q133 (lf q261) (lf q389)) (.node q197 (lf q325) (lf q453))) (.node q101 (.node q165 (lf q293) (lf q421)) (.node q229 (lf q357) (lf q485)))) (.node q53 (.node (q85 P) (.node q149 (lf q277) (lf q405)) (.node q213 (lf q341) (lf q469))) (.node q117 (.node q181 (lf q309) (lf q437)) (.node q245 (lf q373) .nil)))) (.node q29 (.node q45 (.node q77 (.node q141 (lf (q269 P)) (lf q397)) (.node q205 (lf q333) (lf q461))) (.node q109 (.node q173 (lf (q301 P)) (lf q429)) (.node q237 (lf q365) (lf q493)))) (.node (q61 P) (.node q93 (.node q157 (lf q285) (lf q413)) (.node q221 (lf q349) (lf q477))) (.node q125 (.node q189 (lf q317) (lf q445)) (.node q253 (lf q381) .nil))))))) (.node (boot_o_2 P) (.node (boot_o_4 P) (.node (boot_o_8 P) (.node q16 (.node q32 (.node q64 (.node q128 (lf q256) (lf q384)) (.node q192 (lf q320) (lf q448))) (.node q96 (.node q160 (lf (q288 P)) (lf q416)) (.node q224 (lf (q352 P)) (lf q480)))) (.node q48 (.node q80 (.node q144 (lf q272) (lf q400)) (.node q208 (lf q336) (lf q464))) (.node q112 (.node q176 (lf q304) (lf q432)) (.node q240 (lf q368) (lf q496))))) (.node (q24 P) (.node q40 (.node q72 (.node q136 (lf q264) (lf q392)) (.node q200 (lf q328) (lf q456))) (.node q104 (.node q168 (lf q296) (lf q424)) (.node q232 (lf q360) (lf q488)))) (.node q56 (.node q88 (.node q152 (lf q280) (lf q408)) (.node q216 (lf q344) (lf q472))) (.node q120 (.node q184 (lf q312) (lf q440)) (.node q248 (lf q376) .nil))))) (.node q12_1 (.node q20 (.node q36 (.node q68 (.node q132 (lf q260) (lf q388)) (.node q196 (lf q324) (lf q452))) (.node q100 (.node q164 (lf q292) (lf q420)) (.node q228 (lf q356) (lf q484)))) (.node q52 (.node q84 (.node q148 (lf q276) (lf q404)) (.node q212 (lf q340) (lf q468))) (.node q116 (.node q180 (lf q308) (lf q436)) (.node q244 (lf q372) .nil)))) (.node q28 (.node q44 (.node q76 (.node q140 (lf q268) (lf q396)) (.node q204 (lf q332) (lf q460))) (.node q108 (.node q172 (lf q300) (lf q428)) (.node q236 (lf q364) (lf q492)))) (.node q60 (.node q92 (.node q156 (lf q284) (lf q412)) (.node q220 (lf q348) (lf q476))) (.node q124 (.node q188 (lf q316) (lf q444)) (.node q252 (lf q380) .nil)))))) (.node (boot_o_6 P) (.node (boot_o_10 P) (.node q18 (.node q34 (.node q66 (.node q130 (lf q258) (lf q386)) (.node q194 (lf q322) (lf q450))) (.node (q98 P) (.node q162 (lf q290) (lf q418)) (.node q226 (lf q354) (lf q482)))) (.node q50 (.node q82 (.node q146 (lf q274) (lf q402)) (.node q210 (lf q338) (lf q466))) (.node q114 (.node q178 (lf q306) (lf q434)) (.node (q242 P) (lf q370) .nil)))) (.node q26 (.node q42 (.node q74 (.node q138 (lf q266) (lf q394)) (.node q202 (lf q330) (lf q458))) (.node q106 (.node q170 (lf q298) (lf q426)) (.node q234 (lf q362) (lf q490)))) (.node q58 (.node q90 (.node q154 (lf (q282 P)) (lf q410)) (.node q218 (lf q346) (lf q474))) (.node q122 (.node q186 (lf q314) (lf q442)) (.node (q250 P) (lf q378) .nil))))) (.node o14 (.node q22 (.node q38 (.node q70 (.node q134 (lf q262) (lf q390)) (.node q198 (lf q326) (lf q454))) (.node q102 (.node q166 (lf q294) (lf q422)) (.node q230 (lf q358) (lf q486)))) (.node q54 (.node q86 (.node q150 (lf q278) (lf q406)) (.node q214 (lf q342) (lf q470))) (.node q118 (.node q182 (lf q310) (lf q438)) (.node q246 (lf q374) .nil)))) (.node (q30 P) (.node q46 (.node q78 (.node q142 (lf q270) (lf q398)) (.node q206 (lf q334) (lf q462))) (.node q110 (.node q174 (lf q302) (lf q430)) (.node q238 (lf q366) (lf q494)))) (.node q62 (.node q94 (.node q158 (lf q286) (lf q414)) (.node q222 (lf q350) (lf q478))) (.node q126 (.node q190 (lf (q318 P)) (lf q446)) (.node q254 (lf q382) .nil))))))))
noncomputable def S1 (w:World) (os:OsState):SharedT:=⟨tr1 w.params,497,{},⟨[]⟩,{},836,os⟩
def e1:Pos:=⟨303,0,304,77⟩
noncomputable def KH:Params→PySem.W.Frag:=fun P=>(
 (nat_lit 2,(boot_o_2 P)) ::
 (nat_lit 3,⟨(.type "dict"),none,(.dict ⟨⟨PyData.keyHash P "__name__",(.str "__name__" 165),(.str "law_chancehall_k30_most_mendings" 721)⟩ :: ⟨PyData.keyHash P "__doc__",(.str "__doc__" 166),.none⟩ :: ⟨PyData.keyHash P "__package__",(.str "__package__" 167),.none⟩ :: ⟨PyData.keyHash P "__loader__",(.str "__loader__" 168),(.builtin "__main__.__loader__#opaque")⟩ :: ⟨PyData.keyHash P "__spec__",(.str "__spec__" 169),.none⟩ :: ⟨PyData.keyHash P "__annotations__",(.str "__annotations__" 170),(.ref 6)⟩ :: ⟨PyData.keyHash P "__builtins__",(.str "__builtins__" 171),(.ref 4)⟩ :: ⟨PyData.keyHash P "__file__",(.str "__file__" 173),(.str "/claim/cut.py" 172)⟩ :: ⟨PyData.keyHash P "__cached__",(.str "__cached__" 174),.none⟩ :: ⟨PyData.keyHash P "_wall",(.str "_wall" 193),(.ref 21)⟩ :: ⟨PyData.keyHash P "HallError",(.str "HallError" 213),(.ref 31)⟩ :: ⟨PyData.keyHash P "NoNumber",(.str "NoNumber" 229),(.ref 44)⟩ :: ⟨PyData.keyHash P "NoName",(.str "NoName" 245),(.ref 56)⟩ :: ⟨PyData.keyHash P "NoChance",(.str "NoChance" 261),(.ref 68)⟩ :: ⟨PyData.keyHash P "NoShare",(.str "NoShare" 277),(.ref 80)⟩ :: ⟨PyData.keyHash P "NoRoom",(.str "NoRoom" 302),(.ref 99)⟩ :: ⟨PyData.keyHash P "is_whole",(.str "is_whole" 311),(.ref 108)⟩ :: ⟨PyData.keyHash P "divisor",(.str "divisor" 322),(.ref 115)⟩ :: ⟨PyData.keyHash P "NOUGHT",(.str "NOUGHT" 327),(.ref 116)⟩ :: ⟨PyData.keyHash P "ONE",(.str "ONE" 330),(.ref 117)⟩ :: ⟨PyData.keyHash P "ratio",(.str "ratio" 339),(.ref 124)⟩ :: ⟨PyData.keyHash P "is_ratio",(.str "is_ratio" 348),(.ref 131)⟩ :: ⟨PyData.keyHash P "plus",(.str "plus" 356),(.ref 138)⟩ :: ⟨PyData.keyHash P "minus",(.str "minus" 364),(.ref 145)⟩ :: ⟨PyData.keyHash P "under",(.str "under" 372),(.ref 152)⟩ :: ⟨PyData.keyHash P "level",(.str "level" 380),(.ref 157)⟩ :: ⟨PyData.keyHash P "total",(.str "total" 388),(.ref 164)⟩ :: ⟨PyData.keyHash P "wait_of",(.str "wait_of" 402),(.ref 171)⟩ :: ⟨PyData.keyHash P "most_mendings",(.str "most_mendings" 408),(.ref 176)⟩ :: ⟨PyData.keyHash P "LONGEST_WORD",(.str "LONGEST_WORD" 412),(.int 8 411)⟩ :: ⟨PyData.keyHash P "is_word",(.str "is_word" 418),(.ref 181)⟩ :: ⟨PyData.keyHash P "check_head",(.str "check_head" 428),(.ref 188)⟩ :: ⟨PyData.keyHash P "check_room_name",(.str "check_room_name" 435),(.ref 195)⟩ :: ⟨PyData.keyHash P "check_chance",(.str "check_chance" 442),(.ref 202)⟩ :: ⟨PyData.keyHash P "check_pairs",(.str "check_pairs" 448),(.ref 207)⟩ :: ⟨PyData.keyHash P "joined_ways",(.str "joined_ways" 454),(.ref 212)⟩ :: ⟨PyData.keyHash P "Door",(.str "Door" 501),(.ref 243)⟩ :: ⟨PyData.keyHash P "Sure",(.str "Sure" 528),(.ref 264)⟩ :: ⟨PyData.keyHash P "Mixed",(.str "Mixed" 555),(.ref 283)⟩ :: ⟨PyData.keyHash P "Toss",(.str "Toss" 583),(.ref 302)⟩ :: ⟨PyData.keyHash P "Even",(.str "Even" 605),(.ref 319)⟩ :: ⟨PyData.keyHash P "check_share",(.str "check_share" 614),(.ref 328)⟩ :: ⟨PyData.keyHash P "numbers_of",(.str "numbers_of" 624),(.ref 335)⟩ :: ⟨PyData.keyHash P "numbered_ways",(.str "numbered_ways" 635),(.ref 342)⟩ :: ⟨PyData.keyHash P "offers_of",(.str "offers_of" 646),(.ref 349)⟩ :: ⟨PyData.keyHash P "Hall",(.str "Hall" 720),(.ref 404)⟩ :: ⟨PyData.keyHash P "_law_cell",(.str "_law_cell" 730),(.ref 415)⟩ :: ⟨PyData.keyHash P "_law_stream",(.str "_law_stream" 742),(.ref 422)⟩ :: ⟨PyData.keyHash P "_law_gcd",(.str "_law_gcd" 752),(.ref 429)⟩ :: ⟨PyData.keyHash P "_law_ratio",(.str "_law_ratio" 761),(.ref 436)⟩ :: ⟨PyData.keyHash P "_law_names",(.str "_law_names" 767),(.ref 441)⟩ :: ⟨PyData.keyHash P "_law_share",(.str "_law_share" 776),(.ref 448)⟩ :: ⟨PyData.keyHash P "_law_pay",(.str "_law_pay" 785),(.ref 455)⟩ :: ⟨PyData.keyHash P "_law_door",(.str "_law_door" 791),(.ref 460)⟩ :: ⟨PyData.keyHash P "_law_doors",(.str "_law_doors" 797),(.ref 465)⟩ :: ⟨PyData.keyHash P "_law_built",(.str "_law_built" 803),(.ref 470)⟩ :: ⟨PyData.keyHash P "_law_hall",(.str "_law_hall" 809),(.ref 475)⟩ :: ⟨PyData.keyHash P "_law_chosen",(.str "_law_chosen" 820),(.ref 482)⟩ :: ⟨PyData.keyHash P "_law_size",(.str "_law_size" 828),(.ref 489)⟩ :: ⟨PyData.keyHash P "_law_whole",(.str "_law_whole" 835),(.ref 496)⟩ :: ⟨PyData.keyHash P "_law_least",(.str "_law_least" 848),(.ref 503)⟩ :: ⟨PyData.keyHash P "law",(.str "law" 854),(.ref 508)⟩ :: []⟩ 62),⟨[]⟩⟩) ::
 (nat_lit 15,q15) ::
 (nat_lit 17,q17) ::
 (nat_lit 18,q18) ::
 (nat_lit 20,q20) ::
 (nat_lit 21,q21) ::
 (nat_lit 22,q22) ::
 (nat_lit 29,q29) ::
 (nat_lit 30,(q30 P)) ::
 (nat_lit 31,q31) ::
 (nat_lit 32,q32) ::
 (nat_lit 35,q35) ::
 (nat_lit 42,q42) ::
 (nat_lit 43,(q43 P)) ::
 (nat_lit 44,q44) ::
 (nat_lit 47,q47) ::
 (nat_lit 54,q54) ::
 (nat_lit 55,(q55 P)) ::
 (nat_lit 56,q56) ::
 (nat_lit 59,q59) ::
 (nat_lit 66,q66) ::
 (nat_lit 67,(q67 P)) ::
 (nat_lit 68,q68) ::
 (nat_lit 71,q71) ::
 (nat_lit 78,q78) ::
 (nat_lit 79,(q79 P)) ::
 (nat_lit 80,q80) ::
 (nat_lit 83,q83) ::
 (nat_lit 90,q90) ::
 (nat_lit 92,q92) ::
 (nat_lit 93,q93) ::
 (nat_lit 95,q95) ::
 (nat_lit 96,q96) ::
 (nat_lit 97,q97) ::
 (nat_lit 98,(q98 P)) ::
 (nat_lit 99,q99) ::
 (nat_lit 102,q102) ::
 (nat_lit 104,q104) ::
 (nat_lit 105,q105) ::
 (nat_lit 107,q107) ::
 (nat_lit 108,q108) ::
 (nat_lit 109,q109) ::
 (nat_lit 111,q111) ::
 (nat_lit 112,q112) ::
 (nat_lit 114,q114) ::
 (nat_lit 115,q115) ::
 (nat_lit 116,q116) ::
 (nat_lit 117,q117) ::
 (nat_lit 118,q118) ::
 (nat_lit 120,q120) ::
 (nat_lit 121,q121) ::
 (nat_lit 123,q123) ::
 (nat_lit 124,q124) ::
 (nat_lit 125,q125) ::
 (nat_lit 127,q127) ::
 (nat_lit 128,q128) ::
 (nat_lit 130,q130) ::
 (nat_lit 131,q131) ::
 (nat_lit 132,q132) ::
 (nat_lit 134,q134) ::
 (nat_lit 135,q135) ::
 (nat_lit 137,q137) ::
 (nat_lit 138,q138) ::
 (nat_lit 139,q139) ::
 (nat_lit 141,q141) ::
 (nat_lit 142,q142) ::
 (nat_lit 144,q144) ::
 (nat_lit 145,q145) ::
 (nat_lit 146,q146) ::
 (nat_lit 148,q148) ::
 (nat_lit 149,q149) ::
 (nat_lit 151,q151) ::
 (nat_lit 152,q152) ::
 (nat_lit 153,q153) ::
 (nat_lit 156,q156) ::
 (nat_lit 157,q157) ::
 (nat_lit 158,q158) ::
 (nat_lit 160,q160) ::
 (nat_lit 161,q161) ::
 (nat_lit 163,q163) ::
 (nat_lit 164,q164) ::
 (nat_lit 165,q165) ::
 (nat_lit 167,q167) ::
 (nat_lit 168,q168) ::
 (nat_lit 170,q170) ::
 (nat_lit 171,q171) ::
 (nat_lit 172,q172) ::
 (nat_lit 175,q175) ::
 (nat_lit 176,q176) ::
 (nat_lit 177,q177) ::
 (nat_lit 180,q180) ::
 (nat_lit 181,q181) ::
 (nat_lit 182,q182) ::
 (nat_lit 184,q184) ::
 (nat_lit 185,q185) ::
 (nat_lit 187,q187) ::
 (nat_lit 188,q188) ::
 (nat_lit 189,q189) ::
 (nat_lit 191,q191) ::
 (nat_lit 192,q192) ::
 (nat_lit 194,q194) ::
 (nat_lit 195,q195) ::
 (nat_lit 196,q196) ::
 (nat_lit 198,q198) ::
 (nat_lit 199,q199) ::
 (nat_lit 201,q201) ::
 (nat_lit 202,q202) ::
 (nat_lit 203,q203) ::
 (nat_lit 206,q206) ::
 (nat_lit 207,q207) ::
 (nat_lit 208,q208) ::
 (nat_lit 211,q211) ::
 (nat_lit 212,q212) ::
 (nat_lit 220,q220) ::
 (nat_lit 222,q222) ::
 (nat_lit 223,q223) ::
 (nat_lit 225,q225) ::
 (nat_lit 226,q226) ::
 (nat_lit 227,q227) ::
 (nat_lit 229,q229) ::
 (nat_lit 230,q230) ::
 (nat_lit 232,q232) ::
 (nat_lit 233,q233) ::
 (nat_lit 234,q234) ::
 (nat_lit 236,q236) ::
 (nat_lit 237,q237) ::
 (nat_lit 239,q239) ::
 (nat_lit 240,q240) ::
 (nat_lit 241,q241) ::
 (nat_lit 242,(q242 P)) ::
 (nat_lit 243,q243) ::
 (nat_lit 244,q244) ::
 (nat_lit 245,q245) ::
 (nat_lit 248,q248) ::
 (nat_lit 255,q255) ::
 (nat_lit 257,q257) ::
 (nat_lit 258,q258) ::
 (nat_lit 260,q260) ::
 (nat_lit 261,q261) ::
 (nat_lit 262,q262) ::
 (nat_lit 263,(q263 P)) ::
 (nat_lit 264,q264) ::
 (nat_lit 267,q267) ::
 (nat_lit 274,q274) ::
 (nat_lit 276,q276) ::
 (nat_lit 277,q277) ::
 (nat_lit 279,q279) ::
 (nat_lit 280,q280) ::
 (nat_lit 281,q281) ::
 (nat_lit 282,(q282 P)) ::
 (nat_lit 283,q283) ::
 (nat_lit 286,q286) ::
 (nat_lit 293,q293) ::
 (nat_lit 295,q295) ::
 (nat_lit 296,q296) ::
 (nat_lit 298,q298) ::
 (nat_lit 299,q299) ::
 (nat_lit 300,q300) ::
 (nat_lit 301,(q301 P)) ::
 (nat_lit 302,q302) ::
 (nat_lit 305,q305) ::
 (nat_lit 312,q312) ::
 (nat_lit 315,q315) ::
 (nat_lit 316,q316) ::
 (nat_lit 317,q317) ::
 (nat_lit 318,(q318 P)) ::
 (nat_lit 319,q319) ::
 (nat_lit 322,q322) ::
 (nat_lit 324,q324) ::
 (nat_lit 325,q325) ::
 (nat_lit 327,q327) ::
 (nat_lit 328,q328) ::
 (nat_lit 329,q329) ::
 (nat_lit 331,q331) ::
 (nat_lit 332,q332) ::
 (nat_lit 334,q334) ::
 (nat_lit 335,q335) ::
 (nat_lit 336,q336) ::
 (nat_lit 338,q338) ::
 (nat_lit 339,q339) ::
 (nat_lit 341,q341) ::
 (nat_lit 342,q342) ::
 (nat_lit 343,q343) ::
 (nat_lit 345,q345) ::
 (nat_lit 346,q346) ::
 (nat_lit 348,q348) ::
 (nat_lit 349,q349) ::
 (nat_lit 357,q357) ::
 (nat_lit 360,q360) ::
 (nat_lit 361,q361) ::
 (nat_lit 362,q362) ::
 (nat_lit 364,q364) ::
 (nat_lit 365,q365) ::
 (nat_lit 367,q367) ::
 (nat_lit 368,q368) ::
 (nat_lit 369,q369) ::
 (nat_lit 371,q371) ::
 (nat_lit 372,q372) ::
 (nat_lit 374,q374) ::
 (nat_lit 375,q375) ::
 (nat_lit 376,q376) ::
 (nat_lit 378,q378) ::
 (nat_lit 379,q379) ::
 (nat_lit 381,q381) ::
 (nat_lit 382,q382) ::
 (nat_lit 383,q383) ::
 (nat_lit 385,q385) ::
 (nat_lit 386,q386) ::
 (nat_lit 388,q388) ::
 (nat_lit 389,q389) ::
 (nat_lit 390,q390) ::
 (nat_lit 392,q392) ::
 (nat_lit 393,q393) ::
 (nat_lit 395,q395) ::
 (nat_lit 396,q396) ::
 (nat_lit 397,q397) ::
 (nat_lit 400,q400) ::
 (nat_lit 401,q401) ::
 (nat_lit 402,q402) ::
 (nat_lit 403,(q403 P)) ::
 (nat_lit 404,q404) ::
 (nat_lit 405,q405) ::
 (nat_lit 406,q406) ::
 (nat_lit 409,q409) ::
 (nat_lit 411,q411) ::
 (nat_lit 412,q412) ::
 (nat_lit 414,q414) ::
 (nat_lit 415,q415) ::
 (nat_lit 416,q416) ::
 (nat_lit 418,q418) ::
 (nat_lit 419,q419) ::
 (nat_lit 421,q421) ::
 (nat_lit 422,q422) ::
 (nat_lit 423,q423) ::
 (nat_lit 425,q425) ::
 (nat_lit 426,q426) ::
 (nat_lit 428,q428) ::
 (nat_lit 429,q429) ::
 (nat_lit 430,q430) ::
 (nat_lit 432,q432) ::
 (nat_lit 433,q433) ::
 (nat_lit 435,q435) ::
 (nat_lit 436,q436) ::
 (nat_lit 437,q437) ::
 (nat_lit 440,q440) ::
 (nat_lit 441,q441) ::
 (nat_lit 449,q449) ::
 (nat_lit 451,q451) ::
 (nat_lit 452,q452) ::
 (nat_lit 454,q454) ::
 (nat_lit 455,q455) ::
 (nat_lit 456,q456) ::
 (nat_lit 459,q459) ::
 (nat_lit 460,q460) ::
 (nat_lit 461,q461) ::
 (nat_lit 464,q464) ::
 (nat_lit 465,q465) ::
 (nat_lit 466,q466) ::
 (nat_lit 469,q469) ::
 (nat_lit 470,q470) ::
 (nat_lit 471,q471) ::
 (nat_lit 474,q474) ::
 (nat_lit 475,q475) ::
 (nat_lit 483,q483) ::
 (nat_lit 485,q485) ::
 (nat_lit 486,q486) ::
 (nat_lit 488,q488) ::
 (nat_lit 489,q489) ::
 (nat_lit 490,q490) ::
 (nat_lit 492,q492) ::
 (nat_lit 493,q493) ::
 (nat_lit 495,q495) ::
 (nat_lit 496,q496) ::
 (nat_lit 497,⟨(.type "tuple"),none,(.seq ⟨[]⟩ 0),⟨[]⟩⟩) ::
 (nat_lit 499,⟨(.type "tuple"),none,(.seq ⟨(.str "_law_share_here" 839) :: (.str "_law_many" 840) :: (.str "_law_top" 841) :: (.str "_law_bottom" 842) :: (.str "_law_high" 843) :: (.str "_law_low" 844) :: (.str "_law_k" 845) :: []⟩ 0),⟨[]⟩⟩) ::
 (nat_lit 500,⟨(.type "tuple"),none,(.seq ⟨[]⟩ 0),⟨[]⟩⟩) ::
 (nat_lit 502,⟨(.type "code"),none,(.fields ⟨(.str "_law_least" 836) :: (.str "_law_least" 837) :: (.str "/claim/cut.py" 838) :: (.int 305 0) :: (.int 2 0) :: (.int 0 0) :: (.int 0 0) :: (.int 3 0) :: (.ref 497) :: (.bool true) :: (.int 181 0) :: (.ref 498) :: .none :: (.ref 499) :: (.ref 500) :: (.ref 501) :: (.int 846 0) :: (.int 305 0) :: (.str "/claim/cut.py" 847) :: []⟩),⟨[]⟩⟩) ::
 (nat_lit 503,⟨(.type "function"),none,(.func (fnOf "_law_least" "_law_least" (defArgs (top 60)) (defBody (top 60)) (defScope (top 60)) .none .none .none (.str "law_chancehall_k30_most_mendings" 721) none (.ref 502) .none)),⟨[]⟩⟩) ::
 (nat_lit 504,⟨(.type "tuple"),none,(.seq ⟨[]⟩ 0),⟨[]⟩⟩) ::
 (nat_lit 507,⟨(.type "code"),none,(.fields ⟨(.str "law" 849) :: (.str "law" 850) :: (.str "/claim/cut.py" 851) :: (.int 315 0) :: (.int 1 0) :: (.int 0 0) :: (.int 0 0) :: (.int 3 0) :: (.ref 504) :: (.bool true) :: (.int 181 0) :: (.ref 505) :: .none :: .none :: .none :: (.ref 506) :: (.int 852 0) :: (.int 315 0) :: (.str "/claim/cut.py" 853) :: []⟩),⟨[]⟩⟩) ::
 (nat_lit 508,⟨(.type "function"),none,(.func (fnOf "law" "law" (defArgs (top 61)) (defBody (top 61)) (defScope (top 61)) .none .none .none (.str "law_chancehall_k30_most_mendings" 721) none (.ref 507) .none)),⟨[]⟩⟩) ::
 ([] : List (Nat × Obj)))
abbrev asH:List Nat:=[2,3,15,17,18,20,21,22,29,30,31,32,35,42,43,44,47,54,55,56,59,66,67,68,71,78,79,80,83,90,92,93,95,96,97,98,99,102,104,105,107,108,109,111,112,114,115,116,117,118,120,121,123,124,125,127,128,130,131,132,134,135,137,138,139,141,142,144,145,146,148,149,151,152,153,156,157,158,160,161,163,164,165,167,168,170,171,172,175,176,177,180,181,182,184,185,187,188,189,191,192,194,195,196,198,199,201,202,203,206,207,208,211,212,220,222,223,225,226,227,229,230,232,233,234,236,237,239,240,241,242,243,244,245,248,255,257,258,260,261,262,263,264,267,274,276,277,279,280,281,282,283,286,293,295,296,298,299,300,301,302,305,312,315,316,317,318,319,322,324,325,327,328,329,331,332,334,335,336,338,339,341,342,343,345,346,348,349,357,360,361,362,364,365,367,368,369,371,372,374,375,376,378,379,381,382,383,385,386,388,389,390,392,393,395,396,397,400,401,402,403,404,405,406,409,411,412,414,415,416,418,419,421,422,423,425,426,428,429,430,432,433,435,436,437,440,441,449,451,452,454,455,456,459,460,461,464,465,466,469,470,471,474,475,483,485,486,488,489,490,492,493,495,496,497,499,500,502,503,504,507,508]
def qv:Program:=view p [0,2,3,4,5,6,7,9,10,12,13,14,15,16,17,18,20,21,23,24,26,27,29,30,31,32,33,34,35,36,37,38,40,41,42,43,44,46,47,48,49,50,51,52,53,54,55,56,57,58,59,60,61]
abbrev R:RowW:=PySem.Challenge.rw_chancehall_k30_most_mendings.row.toRowW
def Xt (s:Shared):Bool:=xlAt qv [] s && recOk R.records s
def e:Pos:=⟨315,0,326,83⟩
set_option maxHeartbeats 0
theorem asK:∀ P,asH = (KH P).map (·.1):=fun _=>by kernel_rfl
theorem pre (w:World):(fun os=>topGo treeTable p w 11 ann 12 (S0 w os) (topStub p)) = fun os=>some (Sa w os,⟨denote treeTable (cE p),cE p,z,B⟩):=by
 rw [Fast.te15667345088766844465,Fast.te14364793385576792824,Fast.te11892475500146522536]; kernel_rfl
theorem block (w:World):(fun os=>segRun treeTable p w 11 ann 1 1 (Sa w os) (blockOf (behindTheImports p) (env p) (cE p) z B)) = fun os=>some (.next,(Sb w os).abs,cE p,z):=by
 rw [Fast.te14374325043358763698,Fast.te14364793385576792824]; kernel_rfl
theorem half1 (w:World):(fun os=>segRunT treeTable p w 11 ann 1 30000 (Sb w os) (piecesOf ((behindTheImports p).take 60) (env p) (cE p) z B)) = fun os=>some (.next,S1 w os,cE p,e1):=by
 rw [Fast.te10110043849684766642,Fast.te14364793385576792824]; kernel_rfl
theorem big (w:World):(fun os=>(segRunT treeTable p w 11 ann 1 50000 (S1 w os) (piecesOf ((behindTheImports p).drop 60) (env p) (cE p) e1 B)).map fun r =>
  (r.1,r.2.2.1,r.2.2.2,(topRun treeTable p w 11 ann 2 r.2.1.abs ⟨doneF .next,cE p,e,B⟩).map fun s =>
   (staticsOk (importedModules p.main.body) (boot_heap w.params) s.heap && namesBound p s.heap && gensDone s && laidKept (boot_heap w.params) s.heap,openSeen qv [] (importedModules p.main.body) Xt true s,asH.map s.heap.get?))) =
  fun _=>some (.next,cE p,e,some (true,openGood qv [],(KH w.params).map fun p=>some p.2)):=by
 rw [Fast.te10110043849684766642,Fast.te14364793385576792824,Fast.te14082659384304107361,Fast.te4187177175401517315,Fast.te5923862056798008813]; kernel_rfl
theorem left:LeftO p qv [] Xt (fun s=>asH.map s.heap.get?) (fun w=>(KH w.params).map fun p=>some p.2) 200000 :=
 left_ends (boot_open rfl rfl fun _=>rfl) pre block (fun w os=>EndsBy.cutAt (congrFun (half1 w) os) (EndsBy.last (congrFun (big w) os))) rfl
theorem hX (s:Shared) (h:Xt s = true):XL qv [] (s.heap.nsMap mainGlobals) s.heap:=xl_of s (Bool.and_eq_true_iff.mp h).1
theorem hR (s:Shared) (h:Xt s = true):RecFacts R.records s.heap:=recFacts_of (Bool.and_eq_true_iff.mp h).2
end H30
set_option Elab.async false
set_option linter.all false
set_option maxRecDepth 100000
namespace L2
open PySem PySem.Spec PyProof.Rows
abbrev Key:=Sum Int Str
def keyIs:Key→Value→Bool
 | .inl k,v=>Value.isInt k v
 | .inr x,v=>Value.isStrOf x v
def keyH (w:World):Key→Int
 | .inl k=>hashInt k
 | .inr x=>hashStr w x
theorem keyIs_shape:∀ {k:Key} {v:Value},keyIs k v = true→(∃ i t,k = Sum.inl i∧v = Value.int i t)∨(∃ x t,k = Sum.inr x∧v = Value.str x t)
 | .inl i,v,h=>by
  obtain ⟨t,e⟩:=Value.isInt_shape (k:=i) (v:=v) h
  exact .inl ⟨i,t,rfl,e⟩
 | .inr x,v,h=>by
  obtain ⟨t,e⟩:=Value.isStrOf_shape (x:=x) (v:=v) h
  exact .inr ⟨x,t,rfl,e⟩
theorem keyIs_int (i:Int) (t:Tok):keyIs (.inl i) (.int i t) = true:=by simp [keyIs,Value.isInt]
theorem keyIs_str (x:Str) (t:Tok):keyIs (.inr x) (.str x t) = true:=by simp [keyIs,Value.isStrOf]
theorem key_ll (a b:Int):decide ((Sum.inl a:Key) = Sum.inl b) = (a == b):=by
 by_cases e:a = b
 ·subst e; simp
 ·have h:¬ (Sum.inl a:Key) = Sum.inl b:=fun q=>e (Sum.inl.inj q)
  rw [decide_eq_false h]
  exact (beq_eq_false_iff_ne.mpr e).symm
theorem key_rr (a b:Str):decide ((Sum.inr a:Key) = Sum.inr b) = decide (a = b):=by
 by_cases e:a = b
 ·subst e; simp
 ·have h:¬ (Sum.inr a:Key) = Sum.inr b:=fun q=>e (Sum.inr.inj q)
  rw [decide_eq_false h,decide_eq_false e]
theorem key_lr (a:Int) (b:Str):decide ((Sum.inl a:Key) = Sum.inr b) = false:=decide_eq_false (fun q=>nomatch q)
theorem key_rl (a:Str) (b:Int):decide ((Sum.inr a:Key) = Sum.inl b) = false:=decide_eq_false (fun q=>nomatch q)
def mixKind (prog:Program) (w:World):PySem.KeyKind prog w Key where
 is:=keyIs
 hash:=keyH w
 inj:=fun v a b ha hb=>by
  rcases keyIs_shape ha with ⟨i,t,rfl,rfl⟩ | ⟨x,t,rfl,rfl⟩
  ·rcases keyIs_shape hb with ⟨j,u,rfl,e⟩ | ⟨y,u,rfl,e⟩
   ·injection e with e1 _; rw [e1]
   ·exact nomatch e
  ·rcases keyIs_shape hb with ⟨j,u,rfl,e⟩ | ⟨y,u,rfl,e⟩
   ·exact nomatch e
   ·injection e with e1 _; rw [e1]
 byValue:=fun k v h=>by
  rcases keyIs_shape h with ⟨i,t,rfl,rfl⟩ | ⟨x,t,rfl,rfl⟩ <;> rfl
 pyHash:=fun hv h=>by
  rcases keyIs_shape hv with ⟨i,t,rfl,rfl⟩ | ⟨x,t,rfl,rfl⟩
  ·exact wpAny_pyHash_int h
  ·exact wpAny_pyHash_str h
 eqBool:=fun hu hv h=>by
  rcases keyIs_shape hu with ⟨i,t,rfl,rfl⟩ | ⟨x,t,rfl,rfl⟩
  ·rcases keyIs_shape hv with ⟨j,u,rfl,rfl⟩ | ⟨y,u,rfl,rfl⟩
   ·rw [key_ll] at h; exact wpAny_eqBool_int h
   ·rw [key_lr] at h; exact SeqAt.EqAt.int_str i t y u _ _ _ _ h
  ·rcases keyIs_shape hv with ⟨j,u,rfl,rfl⟩ | ⟨y,u,rfl,rfl⟩
   ·rw [key_rl] at h; exact SeqAt.EqAt.str_int x t j u _ _ _ _ h
   ·rw [key_rr] at h; exact wpAny_eqBool_str h
 «strs»:=fun k x t v h=>by
  rcases keyIs_shape h with ⟨i,u,rfl,e⟩ | ⟨y,u,rfl,e⟩
  ·exact nomatch e
  ·injection e with e1 _
   subst e1
   cases v <;> rfl
theorem mixKind_int (prog:Program) (w:World) (i:Int) (t:Tok):(mixKind prog w).is (.inl i) (.int i t) = true:=keyIs_int i t
theorem mixKind_str (prog:Program) (w:World) (x:Str) (t:Tok):(mixKind prog w).is (.inr x) (.str x t) = true:=keyIs_str x t
end L2
namespace L2
open PySem PySem.Spec PyProof.Rows
inductive V where
 | non | bl (b:Bool) | int (i:Int) | str (x:Str) | byt (b:Array UInt8) | flt (b:UInt64) | ref (a:Addr) | ty (n:String)
 deriving DecidableEq
def RelV:V→Value→Prop
 | .non,u=>u = Value.none
 | .bl b,u=>u = Value.bool b
 | .int i,u=>∃ t,u = Value.int i t
 | .str x,u=>∃ t,u = Value.str x t
 | .byt b,u=>∃ t,u = Value.bytes b t
 | .flt b,u=>∃ t,u = Value.float b t
 | .ref a,u=>u = Value.ref a
 | .ty n,u=>u = Value.type n
abbrev Vals:List V→List Value→Prop:=Paired RelV
theorem Vals.length {xs:List V} {us:List Value} (r:Vals xs us):xs.length = us.length:=Paired.length r
theorem Vals.get:∀ {xs:List V} {us:List Value} {i:Nat} {x:V},Vals xs us→xs[i]? = some x→∃ u,us[i]? = some u∧RelV x u
 | _,_,_,_,.nil,e=>by simp at e
 | _,_,0,_,.cons r _,e=>by simp at e; subst e; exact ⟨_,rfl,r⟩
 | _,_,i + 1,x,.cons _ t,e=>by
  obtain ⟨u,h1,h2⟩:=Vals.get (i:=i) (x:=x) t (by simpa using e)
  exact ⟨u,by simpa using h1,h2⟩
theorem Vals.set {x:V} {u:Value} (r:RelV x u):∀ {xs:List V} {us:List Value} (i:Nat),Vals xs us→Vals (xs.set i x) (us.set i u)
 | _,_,_,.nil=>.nil
 | _,_,0,.cons _ t=>.cons r t
 | _,_,i + 1,.cons q t=>.cons q (Vals.set r i t)
theorem Vals.append:∀ {xs ys:List V} {us ws:List Value},Vals xs us→Vals ys ws→Vals (xs ++ ys) (us ++ ws)
 | _,_,_,_,.nil,s=>s
 | _,_,_,_,.cons r t,s=>.cons r (Vals.append t s)
theorem Vals.take:∀ {xs:List V} {us:List Value} (n:Nat),Vals xs us→Vals (xs.take n) (us.take n)
 | _,_,0,_=>.nil
 | _,_,_ + 1,.nil=>.nil
 | _,_,n + 1,.cons r t=>.cons r (Vals.take n t)
theorem Vals.drop:∀ {xs:List V} {us:List Value} (n:Nat),Vals xs us→Vals (xs.drop n) (us.drop n)
 | _,_,0,r=>r
 | _,_,_ + 1,.nil=>.nil
 | _,_,n + 1,.cons _ t=>Vals.drop n t
def RelO:Option V→Option Value→Prop
 | some v,some u=>RelV v u
 | none,none=>True
 | _,_=>False
def KV {κ:Type} : List (κ × V)→List (κ × Value)→Prop:=Paired fun (p:κ × V) (q:κ × Value)=>p.1 = q.1∧RelV p.2 q.2
def kV:Key→V
 | .inl i=>.int i
 | .inr x=>.str x
inductive HO where
  | lst (xs:List V)
  | tup (xs:List V)
  | dK (kvs:List (Key × V))
  | set (S:Int→Bool) (n:Nat)
  | ins (C dx:Addr) (fs:List (Str × V))
  | own (x:Addr)
  | xd (fs:List (Str × V))
  | met (f x:Addr)
  | rng (lo hi:Int)
  | frz (o:Obj) (u:HO)
  | tbl (ps:Array Value)
  | ext (φ:Heap→Prop)
abbrev Hp:=Addr→Option HO
def upd (H:Hp) (a:Addr) (o:HO):Hp:=fun b=>if b = a then some o else H b
theorem upd_same {H:Hp} {a:Addr} {o:HO} : upd H a o a = some o:=by unfold upd; rw [if_pos rfl]
theorem upd_ne {H:Hp} {a b:Addr} {o:HO} (h:b ≠ a):upd H a o b = H b:=by unfold upd; rw [if_neg h]
theorem upd_upd {H:Hp} {a:Addr} {o u:HO} : upd (upd H a o) a u = upd H a u:=by
 funext b; unfold upd; split <;> rfl
theorem ne_of {H:Hp} {a b:Addr} {o u:HO} (h:H a = some o) (h':H b = some u) (d:o ≠ u):a ≠ b:=by
 intro e; subst e; rw [h] at h'; exact d (Option.some.inj h')
theorem ne_of_none {H:Hp} {a b:Addr} {o:HO} (h:H a = some o) (h':H b = none):a ≠ b:=by
 intro e; subst e; rw [h] at h'; cases h'
section
variable (P:Program) (w:World)
def ObjOk (H:Hp) (h:Heap) (a:Addr):HO→Prop
 | .lst xs=>xs.length ≤ sizeLine∧∃ (its:List Value) (n:Nat),Vals xs its∧h.get? a = some { cls:=.type "list",data:=.seq its.toArray n }
 | .tup xs=>xs.length ≤ sizeLine∧∃ its:List Value,Vals xs its∧IsTup h a its.toArray
 | .dK kvs=>kvs.length ≤ sizeLine∧(a == sysModules) = false∧∃ vs,KV kvs vs∧h.DictOf (mixKind P w) a vs
 | .set S n=>h.SetOf (intKind P w) a S n
 | .ins C dx fs=>H dx = some (.own a)∧fs.length ≤ 1000∧dx ≠ a∧h.get? a = some (PySem.W.instObj C dx) ∧
   ∃ mA,h.Ns1 dx mA∧(∀ f,RelO (fs.lookup f) (mA f))∧PySem.Within mA (fs.map (·.1))
 | .own _=>∃ o,h.get? a = some o
 | .xd fs=>∃ mA,h.Ns1 a mA∧∀ f,RelO (fs.lookup f) (mA f)
 | .rng lo hi=>∃ t u v,h.get? a = some { cls:=.type "range",data:=.fields #[.int lo t,.int hi u,.int 1 v] }
 | .frz o u=>h.get? a = some o∧ObjOk H h a u
 | .tbl ps=>h.get? a = some { cls:=.none,data:=.fields ps }
 | .met f x=>h.get? a = some (PySem.W.methodObj (.ref f) (.ref x))
 | .ext φ=>φ h∧(∃ o,h.get? a = some o)∧∀ h1 h2:Heap,φ h1→(∀ o,h1.get? a = some o→h2.get? a = some o)→φ h2
def HOk (H:Hp) (h:Heap):Prop:=∀ a o,H a = some o→ObjOk P w H h a o
end
section
variable {P:Program} {w:World} {H H':Hp} {h h':Heap} {a:Addr} {o:HO}
theorem ObjOk.lt (x:ObjOk P w H h a o):a < h.objs.size:=by
 cases o with
 | lst xs=>obtain ⟨_,_,_,_,e⟩:=x; exact Heap.lt_size e
 | tup xs=>obtain ⟨_,_,_,p⟩:=x; exact p.lt
 | dK kvs=>obtain ⟨_,_,_,_,o,_,_,e,_⟩:=x; exact Heap.lt_size e
 | set S n=>obtain ⟨o,_,_,_,e,_⟩:=x; exact Heap.lt_size e
 | ins C dx fs=>obtain ⟨_,_,_,e,_⟩:=x; exact Heap.lt_size e
 | own y=>obtain ⟨_,e⟩:=x; exact Heap.lt_size e
 | xd fs=>obtain ⟨_,⟨_,_,_,e,_⟩,_⟩:=x; exact Heap.lt_size e
 | rng lo hi=>obtain ⟨_,_,_,e⟩:=x; exact Heap.lt_size e
 | frz ob u=>obtain ⟨e,_⟩:=x; exact Heap.lt_size e
 | tbl ps=>exact Heap.lt_size (show h.get? a = some _ from x)
 | met f y=>exact Heap.lt_size (show h.get? a = some _ from x)
 | ext φ=>obtain ⟨_,⟨_,e⟩,_⟩:=x; exact Heap.lt_size e
theorem ObjOk.stay (x:ObjOk P w H h a o) (k:∀ b u,(b = a∨H b = some (.own a))→h.get? b = some u→h'.get? b = some u)
  (ho:∀ b,H b = some (.own a)→H' b = some (.own a)) (ht:∀ b xs,H b = some (.tup xs)→H' b = some (.tup xs)):ObjOk P w H' h' a o:=by
 induction o with
 | lst xs=>obtain ⟨z,its,n,r,e⟩:=x; exact ⟨z,its,n,r,k _ _ (.inl rfl) e⟩
 | tup xs=>obtain ⟨z,its,r,ob,e,c⟩:=x; exact ⟨z,its,r,ob,k _ _ (.inl rfl) e,c⟩
 | dK kvs=>obtain ⟨z,y,vs,r,ob,es,ep,e,c⟩:=x; exact ⟨z,y,vs,r,ob,es,ep,k _ _ (.inl rfl) e,c⟩
 | set S n=>obtain ⟨ob,es,ep,t,e,c⟩:=x; exact ⟨ob,es,ep,t,k _ _ (.inl rfl) e,c⟩
 | ins C dx fs =>
  obtain ⟨d,z,ne,e,mA,⟨od,es,ep,e2,c⟩,r⟩:=x
  exact ⟨ho _ d,z,ne,k _ _ (.inl rfl) e,mA,⟨od,es,ep,k _ _ (.inr d) e2,c⟩,r⟩
 | own y=>obtain ⟨ob,e⟩:=x; exact ⟨ob,k _ _ (.inl rfl) e⟩
 | xd fs=>obtain ⟨mA,⟨od,es,ep,e,c⟩,r⟩:=x; exact ⟨mA,⟨od,es,ep,k _ _ (.inl rfl) e,c⟩,r⟩
 | rng lo hi=>obtain ⟨t,u,v,e⟩:=x; exact ⟨t,u,v,k _ _ (.inl rfl) e⟩
 | frz ob u ih=>obtain ⟨e,q⟩:=x; exact ⟨k _ _ (.inl rfl) e,ih q⟩
 | tbl ps =>
  have e:h.get? a = some { cls:=.none,data:=.fields ps }:=x
  show h'.get? a = some { cls:=.none,data:=.fields ps }
  exact k a _ (.inl rfl) e
 | met f y =>
  have e:h.get? a = some (PySem.W.methodObj (.ref f) (.ref y)):=x
  show h'.get? a = some (PySem.W.methodObj (.ref f) (.ref y))
  exact k a _ (.inl rfl) e
 | ext φ=>obtain ⟨p,⟨o,e⟩,st⟩:=x; exact ⟨st _ _ p fun o q=>k _ _ (.inl rfl) q,⟨o,k _ _ (.inl rfl) e⟩,st⟩
theorem HOk.lt (x:HOk P w H h) (e:H a = some o):a < h.objs.size:=(x a o e).lt
theorem HOk.fresh (x:HOk P w H h) (e:h.objs.size ≤ a):H a = none:=by
 cases q:H a with
 | none=>rfl
 | some u=>exact absurd (Nat.lt_of_lt_of_le (x.lt q) e) (Nat.lt_irrefl _)
theorem HOk.kept (x:HOk P w H h) (k:∀ b u,h.get? b = some u→h'.get? b = some u):HOk P w H h':=fun a o e =>
 (x a o e).stay (fun b u _ q=>k b u q) (fun _ q=>q) fun _ _ q=>q
theorem HOk.laid (x:HOk P w H h) (k:∀ b u,h.get? b = some u→h'.get? b = some u) (hp:h.objs.size ≤ a) (new:ObjOk P w (upd H a o) h' a o):HOk P w (upd H a o) h':=fun b u e=>by
 have hn:=x.fresh hp
 by_cases hb:b = a
 ·subst hb; rw [upd_same] at e; cases e; exact new
 ·rw [upd_ne hb] at e
  exact (x b u e).stay (fun c v _ q=>k c v q) (fun c q=>by rw [upd_ne (ne_of_none q hn)]; exact q) fun c xs q=>by rw [upd_ne (ne_of_none q hn)]; exact q
end
def Rd (H:Hp) (a:Addr) (u:HO):Prop:=H a = some u∨∃ o,H a = some (.frz o u)
theorem Rd.ok {P:Program} {w:World} {H:Hp} {h:Heap} {a:Addr} {u:HO} (r:Rd H a u) (x:HOk P w H h):ObjOk P w H h a u:=by
 rcases r with r | ⟨o,r⟩
 ·exact x a u r
 ·obtain ⟨_,q⟩:=x a _ r
  exact q
def Mut:Option HO→Prop
 | some (.lst _)=>True
 | some (.dK _)=>True
 | some (.set _ _)=>True
 | some (.ins _ _ _)=>True
 | some (.ext _)=>True
 | _=>False
section
variable {P:Program} {w:World} {H:Hp} {h h':Heap} {x e:Addr} {o':HO}
theorem HOk.write (ok:HOk P w H h) (mu:Mut (H x)) (he:e = x∨H e = some (.own x)) (k:∀ b u,b ≠ e→h.get? b = some u→h'.get? b = some u) (heo:∃ u,h'.get? e = some u)
  (new:ObjOk P w (upd H x o') h' x o'):HOk P w (upd H x o') h':=fun b u q=>by
 have nown:∀ c y,H c = some (.own y)→c ≠ x:=fun c y r z=>by subst z; rw [r] at mu; exact mu
 have ntup:∀ c xs,H c = some (.tup xs)→c ≠ x:=fun c xs r z=>by subst z; rw [r] at mu; exact mu
 by_cases hb:b = x
 ·subst hb; rw [upd_same] at q; cases q; exact new
 ·rw [upd_ne hb] at q
  by_cases hbe:b = e
  ·have q':H b = some (.own x):=by
    rcases he with z | z
    ·exact absurd (hbe.trans z) hb
    ·rw [hbe]; exact z
   rw [q] at q'; cases q'
   obtain ⟨v,hv⟩:=heo
   exact ⟨v,by rw [hbe]; exact hv⟩
  ·refine (ok b u q).stay (fun c v hc r=>k c v ?_ r) (fun c r=>by rw [upd_ne (nown c b r)]; exact r) fun c xs r=>by rw [upd_ne (ntup c xs r)]; exact r
   rcases hc with rfl | hc
   ·exact hbe
   ·rintro rfl
    rcases he with z | z
    ·exact nown c b hc z
    ·rw [hc] at z; cases z; exact hb rfl
end
structure Un (fs ex:List Addr) (H H':Hp) (h h':Heap):Prop where
 keep:∀ b o,h.get? b = some o→H b = none→b ∉ fs→b ∉ ex→h'.get? b = some o
 slot:∀ b o,h.get? b = some o→H b = none→b ∈ fs→b ∉ ex→∃ sl,h'.get? b = some { o with slots:=sl }
 free:∀ b o,h.get? b = some o→H b = none→b ∉ ex→H' b = none
 there:∀ b o,h.get? b = some o→b ∉ ex→∃ o',h'.get? b = some o'
 tups:∀ b xs,H b = some (.tup xs)→H' b = some (.tup xs)
 frzs:∀ b o u,H b = some (.frz o u)→H' b = some (.frz o u)
 tbls:∀ b ps,H b = some (.tbl ps)→∃ more,H' b = some (.tbl (ps ++ more))
section
variable {fs fs' ex ex':List Addr} {H H1 H2:Hp} {h h1 h2 h':Heap} {a x e:Addr} {o:HO}
theorem Un.any (u:Un fs ex H H1 h h1) {b:Addr} {ob:Obj} (q:h.get? b = some ob) (n:H b = none) (hx:b ∉ ex):∃ sl,h1.get? b = some { ob with slots:=sl }:=by
 by_cases hb:b ∈ fs
 ·exact u.slot b ob q n hb hx
 ·exact ⟨ob.slots,u.keep b ob q n hb hx⟩
theorem Un.kept (k:∀ b u,h.get? b = some u→h'.get? b = some u):Un fs ex H H h h' :=
 ⟨fun b ob q _ _ _=>k b ob q,fun b ob q _ _ _=>⟨ob.slots,k b ob q⟩,fun _ _ _ n _=>n,fun b ob q _=>⟨ob,k b ob q⟩,fun _ _ q=>q,fun _ _ _ q=>q,fun _ ps q=>⟨#[],by rw [q]; simp⟩⟩
theorem Un.refl:Un fs ex H H h h:=Un.kept fun _ _ q=>q
theorem Un.laid (k:∀ b u,h.get? b = some u→h'.get? b = some u) (hp:h.objs.size ≤ a) (hn:H a = none):Un fs ex H (upd H a o) h h' where
 keep:=fun b u q _ _ _=>k b u q
 slot:=fun b u q _ _ _=>⟨u.slots,k b u q⟩
 free:=fun b u q n _=>by rw [upd_ne (Nat.ne_of_lt (Nat.lt_of_lt_of_le (Heap.lt_size q) hp))]; exact n
 there:=fun b u q _=>⟨u,k b u q⟩
 tups:=fun b xs q=>by rw [upd_ne (ne_of_none q hn)]; exact q
 frzs:=fun b u xs q=>by rw [upd_ne (ne_of_none q hn)]; exact q
 tbls:=fun b ps q=>⟨#[],by rw [upd_ne (ne_of_none q hn),q]; simp⟩
theorem Un.write (mu:Mut (H x)) (he:e = x∨H e = some (.own x)) (k:∀ b u,b ≠ e→h.get? b = some u→h'.get? b = some u) (heo:∃ u,h'.get? e = some u):Un fs ex H (upd H x o) h h':=by
 have hx:∀ b,H b = none→b ≠ x:=fun b n z=>by subst z; rw [n] at mu; exact mu
 have hb:∀ b,H b = none→b ≠ e:=fun b n z=>by
  subst z
  rcases he with r | r
  ·exact hx b n r
  ·rw [n] at r; cases r
 have hm:∀ b u,H b = some u→¬ Mut (some u)→b ≠ x:=fun b u q nm z=>by subst z; rw [q] at mu; exact nm mu
 refine ⟨fun b u q n _ _=>k b u (hb b n) q,fun b u q n _ _=>⟨u.slots,k b u (hb b n) q⟩,fun b u q n _=>by rw [upd_ne (hx b n)]; exact n,fun b u q _=>?_,
  fun b xs q=>by rw [upd_ne (hm b _ q fun z=>z)]; exact q,fun b u xs q=>by rw [upd_ne (hm b _ q fun z=>z)]; exact q,fun b ps q=>⟨#[],by rw [upd_ne (hm b _ q fun z=>z),q]; simp⟩⟩
 by_cases hbe:b = e
 ·subst hbe; exact heo
 ·exact ⟨u,k b u hbe q⟩
end
def trk (h:Heap) (H:Hp):List Addr:=(List.range h.objs.size).filter fun a=>(H a).isSome
def hidT (h:Heap) (H:Hp):Heap:=PySem.W.hideAll h (trk h H)
theorem hidT_size (h:Heap) (H:Hp):(hidT h H).objs.size = h.objs.size:=PySem.W.hideAll_size _ _
theorem hidT_get {h:Heap} {H:Hp} {b:Addr} {o:Obj} (e:h.get? b = some o) (n:H b = none):(hidT h H).get? b = some o :=
 PySem.W.hideAll_get _ e fun hm=>by
  have q:(H b).isSome = true:=(List.mem_filter.mp hm).2
  rw [n] at q; simp at q
theorem of_hidT {h:Heap} {H:Hp} {b:Addr} {o:Obj} (e:(hidT h H).get? b = some o):h.get? b = some o∧H b = none:=by
 have e':h.get? b = some o:=PySem.W.of_hideAll (trk h H) e
 refine ⟨e',?_⟩
 cases q:H b with
 | none=>rfl
 | some x =>
  have hm:b ∈ trk h H:=List.mem_filter.mpr ⟨List.mem_range.mpr (Heap.lt_size e'),by simp [q]⟩
  have z:(hidT h H).get? b = none:=PySem.W.hideAll_none (trk h H) hm
  rw [z] at e; cases e
def allNews (g h:Heap) (L:Addr):List (Addr × Obj):=(List.range h.objs.size).filterMap fun a=>if a = L∨(g.get? a).isSome = true then none else (h.get? a).map fun o=>(a,o)
def rest (g h:Heap) (L d:Addr):List (Addr × Obj):=(allNews g h L).filter fun p=>decide (p.1 ≠ d)
end L2
namespace L2
open PySem PySem.Spec PyProof.Rows
structure Mod (K:PySem.W.Frag) (mg:Str→Option Value) (base:Heap):Prop where
 kin:K.In base
 glob:base.Ns mainGlobals mg
 blt:∃ mb,base.Ns builtinsNs mb∧∀ x:Str,x ≠ "__name__" → mb x = bootBuiltins x
 nolimit:base.NoLimit
structure Cx where
 prog:Program
 w:World
 K:PySem.W.Frag
 mg:Str→Option Value
 base:Heap
 A:Around
 N:List Str
 s₀:Shared
 H₀:Hp
 env:Env
 outer:List Env
 stack:List Env
 ex:List Addr
 fn:Str→Bool
 calm:Bool
 pn:List (Addr × Obj)
 xe:Value→Shared→Prop
def frs (l:List Env):List Addr:=l.filterMap (·.frame)
abbrev Cx.fs (X:Cx):List Addr:=frs X.outer
def Vis (sc:Scope) (x:Str):Prop:=sc.names.lookup x = some .local∨sc.names.lookup x = some .cell∨sc.names.lookup x = some .free
def Loc (sc:Scope) (x:Str):Prop:=sc.names.lookup x = some .local∨sc.names.lookup x = some .cell
def Look (env:Env) (h:Heap) (m:Str→Option Value) (x:Str) (u:Value):Prop :=
 (env.kindOf x = some .local∧m x = some u)∨((env.kindOf x = some .cell∨env.kindOf x = some .free)∧∃ c,env.cells.lookup x = some c∧h.IsCell c (some u))
structure Cx.Ok (X:Cx):Prop where
 mod:Mod X.K X.mg X.base
 kind:X.env.scope.kind = .function
 glob:X.env.globals = mainGlobals
 blt:X.env.builtins = builtinsNs
 above:X.s₀.heap.objs.size ≤ X.env.locals
 inj:∀ x y c,X.env.cells.lookup x = some c→X.env.cells.lookup y = some c→x = y
 has:∀ x,(X.env.kindOf x = some .cell∨X.env.kindOf x = some .free)→∃ c,X.env.cells.lookup x = some c
 cab:∀ x c,X.fn x = true→X.env.cells.lookup x = some c→X.s₀.heap.objs.size ≤ c
 hd:X.calm = true→X.A.handled = none
 frames:X.A.frames = some X.stack
 stk:X.stack = X.outer∨(X.stack = X.env :: X.outer∧X.env.frame = some X.env.locals)
 exf:∀ b ∈ X.ex,b ≠ X.env.locals∧∀ x c,X.env.cells.lookup x = some c→c ≠ b
 bs:∀ b o,X.base.get? b = some o→X.s₀.heap.get? b = some o∧X.H₀ b = none
 bsz:X.base.objs.size ≤ X.s₀.heap.objs.size
 noex:∀ b o,X.base.get? b = some o→b ∉ X.ex
 exfs:∀ b ∈ X.ex,b ∉ X.fs
 funs:X.s₀.heap.FunFrames X.base X.outer
 frf:∀ b ∈ X.fs,X.H₀ b = none
structure Inv (X:Cx) (pins:List (Addr × Obj)) (σ:List (Option V)) (H:Hp) (s:Shared):Prop where
 ok:X.Ok
 os:s.os = X.s₀.os
 bare:AllBare s.gens
 base:Un X.fs X.ex X.H₀ H X.s₀.heap s.heap
 loc:∃ m,s.heap.Ns X.env.locals m∧∀ (i:Nat) (x:Str) (v:V),X.N[i]? = some x→σ[i]? = some (some v)→Vis X.env.scope x→∃ u,RelV v u∧Look X.env s.heap m x u
 cell:∀ x c,X.env.cells.lookup x = some c→∃ v,s.heap.IsCell c v
 free:H X.env.locals = none
 freeC:∀ x c,X.env.cells.lookup x = some c→H c = none
 pin:∀ p ∈ X.pn ++ pins,s.heap.get? p.1 = some p.2∧H p.1 = none∧p.1 ≠ X.env.locals∧p.1 ∉ X.fs∧∀ v,p.2.data ≠ .cell v
 hok:HOk X.prog X.w H s.heap
 len:σ.length = X.N.length
section
variable {X:Cx} {pins:List (Addr × Obj)} {σ:List (Option V)} {H H':Hp} {s:Shared} {h':Heap}
theorem Cx.Ok.nofr (ok:X.Ok) {b:Addr} {o:Obj} (e:X.base.get? b = some o):b ∉ X.fs:=fun hb=>by
 have:=(ok.funs.mem hb).1
 rw [e] at this; cases this
theorem Inv.bs (I:Inv X pins σ H s):∀ b o,X.base.get? b = some o→s.heap.get? b = some o∧H b = none:=fun b o e =>
 ⟨I.base.keep b o (I.ok.bs b o e).1 (I.ok.bs b o e).2 (I.ok.nofr e) (I.ok.noex b o e),I.base.free b o (I.ok.bs b o e).1 (I.ok.bs b o e).2 (I.ok.noex b o e)⟩
theorem Inv.bk (I:Inv X pins σ H s):∀ b o,X.base.get? b = some o→s.heap.get? b = some o:=fun b o e=>(I.bs b o e).1
theorem Inv.mod (I:Inv X pins σ H s):Mod X.K X.mg X.base:=I.ok.mod
theorem Inv.kIn (I:Inv X pins σ H s):X.K.In s.heap:=I.ok.mod.kin.keeps I.bk
theorem Inv.fr (I:Inv X pins σ H s):∃ m,Fr X.base X.env.locals s.heap m :=
 let ⟨m,hn,_⟩:=I.loc
 ⟨m,hn,I.bk,Nat.le_trans I.ok.bsz I.ok.above⟩
theorem Inv.lt (I:Inv X pins σ H s):X.env.locals < s.heap.objs.size:=let ⟨_,hn,_⟩:=I.loc; hn.lt
theorem Inv.sz (I:Inv X pins σ H s):X.s₀.heap.objs.size ≤ s.heap.objs.size:=Nat.le_trans I.ok.above (Nat.le_of_lt I.lt)
theorem Inv.nofs (I:Inv X pins σ H s) {a:Addr} (h:s.heap.objs.size ≤ a):a ∉ X.fs:=fun hb=>by
 obtain ⟨_,o,ho,_⟩:=I.ok.funs.mem hb
 exact absurd (Nat.lt_of_lt_of_le (Heap.lt_size ho) (Nat.le_trans I.sz h)) (Nat.lt_irrefl _)
theorem Inv.cne (I:Inv X pins σ H s):∀ x c,X.env.cells.lookup x = some c→c ≠ X.env.locals:=fun x c e z=>by
 obtain ⟨v,o,ho,hd⟩:=I.cell x c e
 obtain ⟨m,⟨o',es,ep,ho',hd',_⟩,_⟩:=I.loc
 rw [z,ho'] at ho; cases ho; rw [hd'] at hd; cases hd
theorem Inv.funs (I:Inv X pins σ H s):s.heap.FunFrames X.base X.outer:=by
 have all:∀ (l:List Env),(∀ b ∈ frs l,b ∈ X.fs)→X.s₀.heap.FunFrames X.base l→s.heap.FunFrames X.base l:=by
  intro l
  induction l with
  | nil=>intro _ _; trivial
  | cons env r ih =>
   intro hs hl
   obtain ⟨hk,⟨L,o,hf,hn,ho,hd⟩,hr⟩:=hl
   have hL:L ∈ X.fs:=hs L (by unfold frs; rw [List.filterMap_cons,hf]; exact List.mem_cons_self)
   obtain ⟨sl,e⟩:=I.base.slot L o ho (I.ok.frf L hL) hL fun z=>I.ok.exfs L z hL
   exact ⟨hk,⟨L,_,hf,hn,e,hd⟩,ih (fun b hb=>hs b (by unfold frs; rw [List.filterMap_cons,hf]; exact List.mem_cons_of_mem _ hb)) hr⟩
 exact all X.outer (fun _ hb=>hb) I.ok.funs
theorem Inv.stack (I:Inv X pins σ H s):s.heap.FunFrames X.base X.stack:=by
 rcases I.ok.stk with e | ⟨e,hf⟩
 ·rw [e]; exact I.funs
 ·rw [e]
  obtain ⟨m,hn,_⟩:=I.loc
  refine .cons (by rw [I.ok.kind]; decide) hf hn ?_ I.funs
  exact Heap.get?_none_of_le (Nat.le_trans I.ok.bsz I.ok.above)
theorem Inv.stkSub (I:Inv X pins σ H s):∀ b ∈ frs X.stack,b ∈ X.env.locals :: X.fs:=fun b hb=>by
 rcases I.ok.stk with e | ⟨e,hf⟩
 ·rw [e] at hb; exact List.mem_cons_of_mem _ hb
 ·rw [e] at hb
  unfold frs at hb
  rw [List.filterMap_cons,hf] at hb
  exact hb
theorem Inv.stkFree (I:Inv X pins σ H s):∀ b ∈ frs X.stack,H b = none:=fun b hb=>by
 rcases List.mem_cons.mp (I.stkSub b hb) with e | hb
 ·rw [e]; exact I.free
 ·obtain ⟨_,o,ho,_⟩:=I.ok.funs.mem hb
  exact I.base.free b o ho (I.ok.frf b hb) fun z=>I.ok.exfs b z hb
theorem Inv.step {g':Array GenState} {t':Nat} {d':Drawn} {ch:List Addr} (I:Inv X pins σ H s)
  (hch:∀ b ∈ ch,(b ∈ X.ex∨X.s₀.heap.objs.size ≤ b)∧b ≠ X.env.locals∧(∀ x c,X.env.cells.lookup x = some c→c ≠ b)∧∀ p ∈ X.pn ++ pins,p.1 ≠ b)
  (keep:∀ b o,b ≠ X.env.locals→b ∉ X.fs→b ∉ ch→s.heap.get? b = some o→H b = none→h'.get? b = some o)
  (slot:∀ b o,b ≠ X.env.locals→b ∈ X.fs→b ∉ ch→s.heap.get? b = some o→H b = none→∃ sl,h'.get? b = some { o with slots:=sl }) (free:∀ b o,b ∉ ch→s.heap.get? b = some o→H b = none→H' b = none)
  (there:∀ b o,b ∉ ch→s.heap.get? b = some o→∃ o',h'.get? b = some o')
  (tups:∀ b xs,H b = some (.tup xs)→H' b = some (.tup xs)) (frzs:∀ b o u,H b = some (.frz o u)→H' b = some (.frz o u)) (tbls:∀ b ps,H b = some (.tbl ps)→∃ more,H' b = some (.tbl (ps ++ more)))
  (ns:∀ m,s.heap.Ns X.env.locals m→h'.Ns X.env.locals m) (hok:HOk X.prog X.w H' h') (hg:AllBare g') :
  Inv X pins σ H' { s with heap:=h',gens:=g',drawn:=d',toks:=t' }:=by
 have neL:∀ b o,X.s₀.heap.get? b = some o→b ≠ X.env.locals:=fun b o e=>Nat.ne_of_lt (Nat.lt_of_lt_of_le (Heap.lt_size e) I.ok.above)
 have neC:∀ b o,X.s₀.heap.get? b = some o→b ∉ X.ex→b ∉ ch:=fun b o e hx hb=>by
  rcases (hch b hb).1 with z | z
  ·exact hx z
  ·exact absurd (Nat.lt_of_lt_of_le (Heap.lt_size e) z) (Nat.lt_irrefl _)
 have cellK:∀ x c,X.env.cells.lookup x = some c→∀ v,s.heap.IsCell c v→h'.IsCell c v:=fun x c e v ⟨o,ho,hd⟩=>by
  have nch:c ∉ ch:=fun z=>(hch c z).2.2.1 x c e rfl
  by_cases hc:c ∈ X.fs
  ·obtain ⟨sl,q⟩:=slot c o (I.cne x c e) hc nch ho (I.freeC x c e)
   exact ⟨_,q,hd⟩
  ·exact ⟨o,keep c o (I.cne x c e) hc nch ho (I.freeC x c e),hd⟩
 refine ⟨I.ok,I.os,hg,⟨fun b o e n hb hx=>?_,fun b o e n hb hx=>?_,fun b o e n hx=>?_,fun b o e hx=>?_,fun b xs e=>tups b xs (I.base.tups b xs e),fun b o xs e=>frzs b o xs (I.base.frzs b o xs e),fun b ps e=>?_⟩,?_,fun x c e=>?_,?_,fun x c e=>?_,fun p hp=>?_,hok,I.len⟩
 ·exact keep b o (neL b o e) hb (neC b o e hx) (I.base.keep b o e n hb hx) (I.base.free b o e n hx)
 ·obtain ⟨sl,e1⟩:=I.base.slot b o e n hb hx
  obtain ⟨sl',e2⟩:=slot b _ (neL b o e) hb (neC b o e hx) e1 (I.base.free b o e n hx)
  exact ⟨sl',e2⟩
 ·obtain ⟨o',e1⟩:=I.base.there b o e hx
  exact free b o' (neC b o e hx) e1 (I.base.free b o e n hx)
 ·obtain ⟨o',e1⟩:=I.base.there b o e hx
  exact there b o' (neC b o e hx) e1
 ·obtain ⟨m1,e1⟩:=I.base.tbls b ps e
  obtain ⟨m2,e2⟩:=tbls b _ e1
  exact ⟨m1 ++ m2,by rw [e2,Array.append_assoc]⟩
 ·obtain ⟨m,hn,hl⟩:=I.loc
  refine ⟨m,ns m hn,fun i x v e1 e2 e3=>?_⟩
  obtain ⟨u,r,l⟩:=hl i x v e1 e2 e3
  refine ⟨u,r,?_⟩
  rcases l with l | ⟨k,c,e,z⟩
  ·exact .inl l
  ·exact .inr ⟨k,c,e,cellK x c e _ z⟩
 ·obtain ⟨v,z⟩:=I.cell x c e
  exact ⟨v,cellK x c e v z⟩
 ·obtain ⟨m,⟨o,_,_,ho,_⟩,_⟩:=I.loc
  exact free _ o (fun z=>(hch _ z).2.1 rfl) ho I.free
 ·obtain ⟨v,o,ho,hd⟩:=I.cell x c e
  exact free c o (fun z=>(hch c z).2.2.1 x c e rfl) ho (I.freeC x c e)
 ·obtain ⟨e,n,ne,nf,d⟩:=I.pin p hp
  have nch:p.1 ∉ ch:=fun z=>(hch p.1 z).2.2.2 p hp rfl
  exact ⟨keep p.1 p.2 ne nf nch e n,free p.1 p.2 nch e n,ne,nf,d⟩
theorem Inv.un {t':Nat} (I:Inv X pins σ H s) (u:Un X.fs [] H H' s.heap h') (hok:HOk X.prog X.w H' h'):Inv X pins σ H' { s with heap:=h',toks:=t' }:=by
 obtain ⟨m,⟨o,es,ep,ho,r⟩,_⟩:=id I.loc
 obtain ⟨sl,hL⟩:=u.any ho I.free (by simp)
 exact I.step (g':=s.gens) (d':=s.drawn) (ch:=[]) (fun _ z=>nomatch z) (fun b o _ hb _ e n=>u.keep b o e n hb (by simp)) (fun b o _ hb _ e n=>u.slot b o e n hb (by simp)) (fun b o _ e n=>u.free b o e n (by simp)) (fun b o _ e=>u.there b o e (by simp)) u.tups u.frzs u.tbls (fun m' hm=>by
  obtain ⟨o',es',ep',ho',r'⟩:=hm
  rw [ho] at ho'; cases ho'
  exact ⟨_,es',ep',hL,r'⟩) hok I.bare
theorem Inv.call {g':Array GenState} {t':Nat} {d':Drawn} {ch:List Addr} (I:Inv X pins σ H s) (u:Un (frs X.stack) ch H H' s.heap h') (hok:HOk X.prog X.w H' h') (hg:AllBare g')
  (hch:∀ b ∈ ch,(b ∈ X.ex∨X.s₀.heap.objs.size ≤ b)∧b ≠ X.env.locals∧(∀ x c,X.env.cells.lookup x = some c→c ≠ b)∧∀ p ∈ X.pn ++ pins,p.1 ≠ b) :
  Inv X pins σ H' { s with heap:=h',gens:=g',drawn:=d',toks:=t' }:=by
 obtain ⟨m,⟨o,es,ep,ho,r⟩,_⟩:=id I.loc
 obtain ⟨sl,hL⟩:=u.any ho I.free fun z=>(hch _ z).2.1 rfl
 exact I.step (ch:=ch) hch (fun b o hL hb hc e n=>u.keep b o e n (fun z=>(List.mem_cons.mp (I.stkSub b z)).elim hL hb) hc) (fun b o _ _ hc e n=>u.any e n hc) (fun b o hc e n=>u.free b o e n hc) (fun b o hc e=>u.there b o e hc) u.tups u.frzs u.tbls (fun m' hm=>by
  obtain ⟨o',es',ep',ho',r'⟩:=hm
  rw [ho] at ho'; cases ho'
  exact ⟨_,es',ep',hL,r'⟩) hok hg
theorem Inv.turned {t':Nat} {it:Addr} (I:Inv X pins σ H s) (k:∀ b o,b ≠ it→s.heap.get? b = some o→h'.get? b = some o) (hn:H it = none) (hL:it ≠ X.env.locals)
  (h1:it ∈ X.ex∨X.s₀.heap.objs.size ≤ it) (h2:∀ x c,X.env.cells.lookup x = some c→c ≠ it) (h3:∀ p ∈ X.pn ++ pins,p.1 ≠ it):Inv X pins σ H { s with heap:=h',toks:=t' }:=by
 have nit:∀ b u,H b = some u→b ≠ it:=fun b u e z=>by rw [z,hn] at e; cases e
 refine I.step (g':=s.gens) (d':=s.drawn) (ch:=[it]) (fun b hb=>?_) (fun b o _ _ hc e _=>k b o (fun z=>hc (by simp [z])) e) (fun b o _ _ hc e _=>⟨o.slots,k b o (fun z=>hc (by simp [z])) e⟩) (fun _ _ _ _ n=>n)
  (fun b o hc e=>⟨o,k b o (fun z=>hc (by simp [z])) e⟩) (fun _ _ e=>e) (fun _ _ _ e=>e) (fun b ps e=>⟨#[],by rw [e]; simp⟩) (fun m hm=>?_) (fun b u e=>?_) I.bare
 ·have e:b = it:=by simpa using hb
  subst e
  exact ⟨h1,hL,h2,h3⟩
 ·obtain ⟨o,es,ep,ho,r⟩:=hm
  exact ⟨o,es,ep,k _ o (Ne.symm hL) ho,r⟩
 ·refine (I.hok b u e).stay (fun c v hc q=>k c v ?_ q) (fun _ q=>q) fun _ _ q=>q
  rcases hc with z | z
  ·rw [z]; exact nit b u e
  ·exact nit c _ z
theorem Inv.tok (I:Inv X pins σ H s) (t:Nat):Inv X pins σ H { s with toks:=t }:=I.un (h':=s.heap) (t':=t) Un.refl I.hok
theorem Inv.kept {t':Nat} (I:Inv X pins σ H s) (k:∀ b u,s.heap.get? b = some u→h'.get? b = some u):Inv X pins σ H { s with heap:=h',toks:=t' }:=I.un (Un.kept k) (I.hok.kept k)
theorem Inv.laid {a:Addr} {o:HO} {t':Nat} (I:Inv X pins σ H s) (k:∀ b u,s.heap.get? b = some u→h'.get? b = some u) (hp:s.heap.objs.size ≤ a) (new:ObjOk X.prog X.w (upd H a o) h' a o) :
  Inv X pins σ (upd H a o) { s with heap:=h',toks:=t' }:=I.un (Un.laid k hp (I.hok.fresh hp)) (I.hok.laid k hp new)
theorem Inv.write {x e:Addr} {o:HO} {t':Nat} (I:Inv X pins σ H s) (mu:Mut (H x)) (he:e = x∨H e = some (.own x)) (k:∀ b u,b ≠ e→s.heap.get? b = some u→h'.get? b = some u) (heo:∃ u,h'.get? e = some u)
  (new:ObjOk X.prog X.w (upd H x o) h' x o):Inv X pins σ (upd H x o) { s with heap:=h',toks:=t' }:=I.un (Un.write mu he k heo) (I.hok.write mu he k heo new)
theorem Inv.pins_of {pins':List (Addr × Obj)} (I:Inv X pins σ H s) (h:∀ p ∈ pins',s.heap.get? p.1 = some p.2∧H p.1 = none∧p.1 ≠ X.env.locals∧p.1 ∉ X.fs∧∀ v,p.2.data ≠ .cell v):Inv X pins' σ H s :=
 ⟨I.ok,I.os,I.bare,I.base,I.loc,I.cell,I.free,I.freeC,fun p hp=>(List.mem_append.mp hp).elim (fun z=>I.pin p (List.mem_append_left _ z)) (h p),I.hok,I.len⟩
theorem nodup_ix {N:List Str} (hN:N.Nodup) {i j:Nat} {x:Str} (a:N[i]? = some x) (b:N[j]? = some x):i = j:=by
 obtain ⟨h1,e1⟩:=List.getElem?_eq_some_iff.mp a
 obtain ⟨h2,e2⟩:=List.getElem?_eq_some_iff.mp b
 exact (List.getElem_inj hN).mp (e1.trans e2.symm)
theorem store_ok2 {M:Model} {A:Around} {E:Value→Shared→Prop} {i:Nat} {x:Str} {v:V} {u:Value} {Q:Unit→Shared→Prop} (I:Inv X pins σ H s) (hN:X.N.Nodup) (hi:X.N[i]? = some x) (hx:Loc X.env.scope x) (r:RelV v u)
  (h:∀ s',Inv X pins (σ.set i (some v)) H s'→(∃ a,Heap.SameBut a s.heap s'.heap∧(a = X.env.locals∨X.env.cells.lookup x = some a))→Q () s') (hf:X.fn x = true∨X.env.scope.names.lookup x = some .local:=by first | exact .inl rfl | exact .inr rfl | assumption):wpAny M A (storeName X.env x u) Q E s:=by
 obtain ⟨m,hn,hl⟩:=id I.loc
 have hcls:(X.env.scope.kind == .class || (X.env.scope.kind == .module && X.env.locals != X.env.globals)) = false:=by rw [I.ok.kind]; rfl
 have hiσ:i < σ.length:=by rw [I.len]; exact (List.getElem?_eq_some_iff.mp hi).1
 have cne:=I.cne
 have tracked:∀ {a:Addr} {h':Heap},(∃ o,s.heap.get? a = some o∧H a = none)→Heap.SameBut a s.heap h'→HOk X.prog X.w H h':=fun {a h'} ha hs b ob e=>by
  obtain ⟨_,_,hfree⟩:=ha
  refine (I.hok b ob e).stay (fun c w' hc q=>(hs.2 c ?_).trans q) (fun _ q=>q) fun _ _ q=>q
  rintro rfl
  rcases hc with rfl | hc
  ·rw [hfree] at e; cases e
  ·rw [hfree] at hc; cases hc
 rcases hx with hk | hk
 ·refine wpAny_storeName_local hk hn (fun h' hn' hs=>?_) hcls
  obtain ⟨oL,_,_,hoL,_⟩:=id hn
  refine h _ ⟨I.ok,I.os,I.bare,⟨fun b o e n hb hx=>?_,fun b o e n hb hx=>?_,I.base.free,fun b o e hx=>?_,I.base.tups,I.base.frzs,I.base.tbls⟩,⟨_,hn',fun j y v' e1 e2 e3=>?_⟩,fun y c e=>?_,I.free,I.freeC,fun p hp=>?_,tracked ⟨oL,hoL,I.free⟩ hs,by simpa using I.len⟩ ⟨_,hs,.inl rfl⟩
  ·exact (hs.2 b (Nat.ne_of_lt (Nat.lt_of_lt_of_le (Heap.lt_size e) I.ok.above))).trans (I.base.keep b o e n hb hx)
  ·obtain ⟨sl,e1⟩:=I.base.slot b o e n hb hx
   exact ⟨sl,(hs.2 b (Nat.ne_of_lt (Nat.lt_of_lt_of_le (Heap.lt_size e) I.ok.above))).trans e1⟩
  ·obtain ⟨o',e1⟩:=I.base.there b o e hx
   exact ⟨o',(hs.2 b (Nat.ne_of_lt (Nat.lt_of_lt_of_le (Heap.lt_size e) I.ok.above))).trans e1⟩
  ·by_cases hj:j = i
   ·subst hj
    rw [hi] at e1; cases e1
    rw [List.getElem?_set_self hiσ] at e2
    cases e2
    exact ⟨u,r,.inl ⟨hk,by simp⟩⟩
   ·rw [List.getElem?_set_ne (Ne.symm hj)] at e2
    obtain ⟨u',r',q⟩:=hl j y v' e1 e2 e3
    refine ⟨u',r',?_⟩
    rcases q with ⟨k,e⟩ | ⟨k,c,e,z⟩
    ·refine .inl ⟨k,?_⟩
     have:y ≠ x:=fun e=>hj (nodup_ix hN e1 (e ▸ hi))
     simp [this,e]
    ·exact .inr ⟨k,c,e,z.sameBut hs (cne y c e)⟩
  ·obtain ⟨w',z⟩:=I.cell y c e
   exact ⟨w',z.sameBut hs (cne y c e)⟩
  ·obtain ⟨e,n,ne,nf,d⟩:=I.pin p hp
   exact ⟨(hs.2 p.1 ne).trans e,n,ne,nf,d⟩
 ·have hfn:X.fn x = true:=by
   rcases hf with z | z
   ·exact z
   ·rw [z] at hk; cases hk
  obtain ⟨c,hc⟩:=I.ok.has x (.inl hk)
  obtain ⟨w',z⟩:=I.cell x c hc
  refine wpAny_storeName_cell I.ok.kind hk hc z (fun h' hc' hs=>?_)
  obtain ⟨oc,hoc,hocd⟩:=id z
  refine h { s with heap:=h' } ⟨I.ok,I.os,I.bare,⟨fun b o e n hb hx=>?_,fun b o e n hb hx=>?_,I.base.free,fun b o e hx=>?_,I.base.tups,I.base.frzs,I.base.tbls⟩,⟨m,hn.sameBut hs (Ne.symm (cne x c hc)),fun j y v' e1 e2 e3=>?_⟩,fun y c' e=>?_,I.free,I.freeC,fun p hp=>?_,tracked ⟨oc,hoc,I.freeC x c hc⟩ hs,by simpa using I.len⟩ ⟨c,hs,.inr hc⟩
  ·exact (hs.2 b (Nat.ne_of_lt (Nat.lt_of_lt_of_le (Heap.lt_size e) (I.ok.cab x c hfn hc)))).trans (I.base.keep b o e n hb hx)
  ·obtain ⟨sl,e1⟩:=I.base.slot b o e n hb hx
   exact ⟨sl,(hs.2 b (Nat.ne_of_lt (Nat.lt_of_lt_of_le (Heap.lt_size e) (I.ok.cab x c hfn hc)))).trans e1⟩
  ·obtain ⟨o',e1⟩:=I.base.there b o e hx
   exact ⟨o',(hs.2 b (Nat.ne_of_lt (Nat.lt_of_lt_of_le (Heap.lt_size e) (I.ok.cab x c hfn hc)))).trans e1⟩
  ·by_cases hj:j = i
   ·subst hj
    rw [hi] at e1; cases e1
    rw [List.getElem?_set_self hiσ] at e2
    cases e2
    exact ⟨u,r,.inr ⟨.inl hk,c,hc,hc'⟩⟩
   ·rw [List.getElem?_set_ne (Ne.symm hj)] at e2
    obtain ⟨u',r',q⟩:=hl j y v' e1 e2 e3
    refine ⟨u',r',?_⟩
    rcases q with q | ⟨k,c',e,z'⟩
    ·exact .inl q
    ·refine .inr ⟨k,c',e,z'.sameBut hs ?_⟩
     rintro rfl
     exact hj (nodup_ix hN e1 (I.ok.inj _ _ _ e hc ▸ hi))
  ·by_cases hcc:c' = c
   ·subst hcc; exact ⟨_,hc'⟩
   ·obtain ⟨w2,z2⟩:=I.cell y c' e
    exact ⟨w2,z2.sameBut hs hcc⟩
  ·obtain ⟨e,n,ne,nf,d⟩:=I.pin p hp
   refine ⟨(hs.2 p.1 ?_).trans e,n,ne,nf,d⟩
   intro q
   rw [q,hoc] at e
   have q':oc = p.2:=Option.some.inj e
   exact d w' (by rw [← q']; exact hocd)
theorem store_ok {M:Model} {A:Around} {E:Value→Shared→Prop} {i:Nat} {x:Str} {v:V} {u:Value} {Q:Unit→Shared→Prop} (I:Inv X pins σ H s) (hN:X.N.Nodup) (hi:X.N[i]? = some x) (hx:Loc X.env.scope x) (r:RelV v u)
  (h:∀ s',Inv X pins (σ.set i (some v)) H s'→Q () s') (hf:X.fn x = true∨X.env.scope.names.lookup x = some .local:=by first | exact .inl rfl | exact .inr rfl | assumption):wpAny M A (storeName X.env x u) Q E s :=
 store_ok2 I hN hi hx r (fun s' I' _=>h s' I') hf
theorem Inv.call' {s':Shared} {ch:List Addr} (I:Inv X pins σ H s) (ho:s'.os = s.os) (u:Un (frs X.stack) ch H H' s.heap s'.heap) (hok:HOk X.prog X.w H' s'.heap) (hg:AllBare s'.gens)
  (hch:∀ b ∈ ch,(b ∈ X.ex∨X.s₀.heap.objs.size ≤ b)∧b ≠ X.env.locals∧(∀ x c,X.env.cells.lookup x = some c→c ≠ b)∧∀ p ∈ X.pn ++ pins,p.1 ≠ b):Inv X pins σ H' s':=by
 obtain ⟨h',g',d',t',o'⟩:=s'
 have e:o' = s.os:=ho
 subst e
 exact I.call (g':=g') (t':=t') (d':=d') u hok hg hch
end
abbrev XK:=Value→Option Addr→Hp→Prop
abbrev St:=List (Option V)
abbrev VK:=V→Hp→Prop
abbrev TE:=St→Hp→VK→Prop
abbrev TT:=St→Hp→(Bool→Hp→Prop)→Prop
abbrev TA:=St→Hp→(List V→Hp→Prop)→Prop
structure Ends where
 nx:St→Hp→Prop
 rt:VK
 bk:St→Hp→Prop:=fun _ _=>False
 ct:St→Hp→Prop:=fun _ _=>False
abbrev TS:=Ends→St→Hp→Prop
def EP (X:Cx) (pins:List (Addr × Obj)) (σ:St) (Q:VK) (u:Value) (s':Shared):Prop:=∃ v H',Inv X pins σ H' s'∧RelV v u∧Q v H'
def TP (X:Cx) (pins:List (Addr × Obj)) (σ:St) (Q:Bool→Hp→Prop) (b:Bool) (s':Shared):Prop:=∃ H',Inv X pins σ H' s'∧Q b H'
def AP (X:Cx) (pins:List (Addr × Obj)) (σ:St) (Q:List V→Hp→Prop) (us:List Value) (s':Shared):Prop:=∃ vs H',Inv X pins σ H' s'∧Vals vs us∧Q vs H'
def SP (X:Cx) (pins:List (Addr × Obj)) (D:Ends) (f:Flow) (s':Shared):Prop :=
 match f with
 | .next=>∃ σ' H',Inv X pins σ' H' s'∧D.nx σ' H'
 | .brk=>∃ σ' H',Inv X pins σ' H' s'∧D.bk σ' H'
 | .cont=>∃ σ' H',Inv X pins σ' H' s'∧D.ct σ' H'
 | .ret u=>∃ v σ' H',Inv X pins σ' H' s'∧RelV v u∧D.rt v H'
def PE (X:Cx) (e:Expr) (t:TE):Prop :=
 ∀ (pins:List (Addr × Obj)) (s:Shared) (σ:St) (H:Hp) (Q:VK),Inv X pins σ H s→t σ H Q→wpAny (model X.prog X.w) X.A (eval e X.env) (EP X pins σ Q) X.xe s
def PT (X:Cx) (e:Expr) (t:TT):Prop :=
 ∀ (pins:List (Addr × Obj)) (s:Shared) (σ:St) (H:Hp) (Q:Bool→Hp→Prop),Inv X pins σ H s→t σ H Q→wpAny (model X.prog X.w) X.A (isTrue e X.env (eval e X.env)) (TP X pins σ Q) X.xe s
def PW (X:Cx) (e:Expr) (t:TT):Prop :=
 ∀ (whole:Sem Value) (pins:List (Addr × Obj)) (s:Shared) (σ:St) (H:Hp) (Q:Bool→Hp→Prop),Inv X pins σ H s→t σ H Q→wpAny (model X.prog X.w) X.A (isTrue e X.env whole) (TP X pins σ Q) X.xe s
theorem PW.pt {X:Cx} {e:Expr} {t:TT} (h:PW X e t):PT X e t:=h _
def PA (X:Cx) (es:List Expr) (t:TA):Prop :=
 ∀ (pos:Pos) (pins:List (Addr × Obj)) (s:Shared) (σ:St) (H:Hp) (Q:List V→Hp→Prop),Inv X pins σ H s→t σ H Q→wpAny (model X.prog X.w) X.A (spliced (backTo pos (starEach es X.env))) (AP X pins σ Q) X.xe s
def PS (X:Cx) (st:Stmt) (t:TS):Prop :=
 ∀ (pins:List (Addr × Obj)) (s:Shared) (σ:St) (H:Hp) (D:Ends),Inv X pins σ H s→t D σ H→wpAny (model X.prog X.w) X.A (exec st X.env) (SP X pins D) X.xe s
def PSs (X:Cx) (st:List Stmt) (t:TS):Prop :=
 ∀ (pins:List (Addr × Obj)) (s:Shared) (σ:St) (H:Hp) (D:Ends),Inv X pins σ H s→t D σ H→wpAny (model X.prog X.w) X.A (execs st X.env) (SP X pins D) X.xe s
theorem thn {α:Type} {t:Sem α} {Q Q':α→Shared→Prop} {M:Model} {A:Around} {E:Value→Shared→Prop} {s:Shared} (h:wpAny M A t Q E s) (hQ:∀ a s,Q a s→Q' a s):wpAny M A t Q' E s:=wpAny_mono h hQ fun _ _ x=>x
end L2
namespace L2
open PySem PySem.Spec PyProof.Rows
section
variable {X:Cx}
def tVar (i:Nat):TE:=fun σ H Q=>∃ v,σ[i]? = some (some v)∧Q v H
def tC (v:V):TE:=fun _ H Q=>Q v H
theorem pe_var {i:Nat} {x:Str} {pos:Pos} (hN:X.N[i]? = some x) (hv:Vis X.env.scope x) (hd:(x == ("__debug__" : Str)) = false:=by decide) (hcd:(x == ("__classdict__" : Str)) = false:=by decide):PE X (.Name x pos) (tVar i):=by
 intro pins s σ H Q I h
 obtain ⟨v,e,h⟩:=h
 obtain ⟨m,hn,hl⟩:=I.loc
 obtain ⟨u,r,l⟩:=hl i x v hN e hv
 have fin:EP X pins σ Q u s:=⟨v,H,I,r,h⟩
 rcases l with ⟨hk,hm⟩ | ⟨hk,c,hc,hcell⟩
 ·exact wpAny_Name (wpAny_loadName_local I.ok.kind hk hn hm fin) hd
 ·rcases hk with hk | hk
  ·exact wpAny_Name (wpAny_loadName_cell I.ok.kind hk hc hcell fin) hd
  ·exact wpAny_Name (wpAny_loadName_free I.ok.kind hk hc hcell fin hcd) hd
theorem pe_int {i j pos} : PE X (.Constant (.int i) j pos) (tC (.int i)):=fun _ _ _ H _ I h=>wpAny_Constant_int ⟨.int i,H,I.tok _,⟨_,rfl⟩,h⟩
theorem pe_bl {b j pos} : PE X (.Constant (.bool b) j pos) (tC (.bl b)):=fun _ _ _ H _ I h=>Constant_bool ⟨.bl b,H,I,rfl,h⟩
theorem pe_str {x j pos} : PE X (.Constant (.str x) j pos) (tC (.str x)):=fun _ _ _ H _ I h=>Calls.Constant_str ⟨.str x,H,I.tok _,⟨_,rfl⟩,h⟩
def Gl (X:Cx) (x:Str):Prop:=X.env.kindOf x = some .globalImplicit
theorem ld_glob {E:Value→Shared→Prop} {pins:List (Addr × Obj)} {s:Shared} {σ:St} {H:Hp} {x:Str} {u:Value} {pos:Pos} {Q:Value→Shared→Prop} (I:Inv X pins σ H s) (hg:Gl X x) (hm:X.mg x = some u) (h:Q u s)
  (hd:(x == ("__debug__" : Str)) = false:=by decide):wpAny (model X.prog X.w) X.A (eval (.Name x pos) X.env) Q E s :=
 Calls.Name_function_global I.ok.kind hg (Calls.loadGlobal_global (by rw [I.ok.glob]; exact I.mod.glob.keeps I.bk) hm h) hd
theorem ld_blt {E:Value→Shared→Prop} {pins:List (Addr × Obj)} {s:Shared} {σ:St} {H:Hp} {x:Str} {u:Value} {pos:Pos} {Q:Value→Shared→Prop} (I:Inv X pins σ H s) (hg:Gl X x) (hm:X.mg x = none) (hv:bootBuiltins x = some u) (h:Q u s)
  (hn:x ≠ "__name__" := by decide) (hd:(x == ("__debug__" : Str)) = false:=by decide):wpAny (model X.prog X.w) X.A (eval (.Name x pos) X.env) Q E s:=by
 obtain ⟨mb,h1,h2⟩:=I.mod.blt
 exact Calls.Name_function_global I.ok.kind hg (Calls.loadGlobal_builtin (by rw [I.ok.glob]; exact I.mod.glob.keeps I.bk) hm (by rw [I.ok.blt]; exact h1.keeps I.bk) ((h2 x hn).trans hv) h) hd
theorem pe_glob {x:Str} {v:V} {u:Value} {pos:Pos} (hg:Gl X x) (hm:X.mg x = some u) (r:RelV v u) (hd:(x == ("__debug__" : Str)) = false:=by decide):PE X (.Name x pos) (tC v) :=
 fun _ _ _ H _ I h=>ld_glob I hg hm ⟨v,H,I,r,h⟩ hd
theorem pe_bltn {x:Str} {v:V} {u:Value} {pos:Pos} (hg:Gl X x) (hm:X.mg x = none) (hv:bootBuiltins x = some u) (r:RelV v u) (hn:x ≠ "__name__" := by decide) (hd:(x == ("__debug__" : Str)) = false:=by decide):PE X (.Name x pos) (tC v) :=
 fun _ _ _ H _ I h=>ld_blt I hg hm hv ⟨v,H,I,r,h⟩ hn hd
variable {a b:Expr} {ta tb:TE} {pos:Pos}
def PC (X:Cx) (op:CmpOp) (a b:Expr) (t:TE):Prop :=
 ∀ (pins:List (Addr × Obj)) (s:Shared) (σ:St) (H:Hp) (Q:VK),Inv X pins σ H s→t σ H Q →
  wpAny (model X.prog X.w) X.A (eval a X.env) (fun v s₁=>wpAny (model X.prog X.w) X.A (eval b X.env) (fun u s₂=>wpAny (model X.prog X.w) X.A (compareOp op v u) (EP X pins σ Q) X.xe s₂) X.xe s₁) X.xe s
theorem nobehind (b:Expr) {op:CmpOp} (h:op ≠ .In) (h2:op ≠ .NotIn):behindInMarks op b = false:=by
 have e1:(op == CmpOp.In) = false:=by cases op <;> first | rfl | exact absurd rfl h
 have e2:(op == CmpOp.NotIn) = false:=by cases op <;> first | rfl | exact absurd rfl h2
 cases b <;> simp [behindInMarks,e1,e2]
def tB (t:TE):TT:=fun σ H Q=>t σ H fun x H1=>∃ c,x = .bl c∧Q c H1
theorem pt_cmp {op:CmpOp} {t:TE} (h:PC X op a b t) (h1:behindInMarks op b = false:=by first | exact nobehind _ (by decide) (by decide) | rfl):PT X (.Compare a [op] [b] pos) (tB t):=by
 intro pins s σ H Q I hw
 refine wpAny_isTrue_Compare1 (thn (h pins s σ H _ I hw) fun v s1 h1=>thn h1 fun u s2 h2=>thn h2 fun c s3 ⟨x,H1,I1,r1,q1⟩=>?_) h1
 obtain ⟨d,rfl,q⟩:=q1
 cases r1
 exact wpAny_truthy_bool ⟨H1,I1,q⟩
variable {tA tB':TT} {rest:List Expr}
def tAnd (t u:TT):TT:=fun σ H Q=>t σ H fun c H1=>if c = true then u σ H1 Q else Q false H1
def tOr (t u:TT):TT:=fun σ H Q=>t σ H fun c H1=>if c = true then Q true H1 else u σ H1 Q
def tNot (t:TT):TT:=fun σ H Q=>t σ H fun c H1=>Q (!c) H1
theorem pw_and1 (ha:PT X a tA):PW X (.BoolOp .And [a] pos) tA:=by
 intro wh pins s σ H Q I h
 refine isTrue_and (thn (ha pins s σ H Q I h) fun c s1 e=>?_)
 cases c with
 | true=>exact isTrue_and_nil e
 | false=>exact e
theorem pw_or1 (ha:PT X a tA):PW X (.BoolOp .Or [a] pos) tA:=by
 intro wh pins s σ H Q I h
 refine isTrue_or (thn (ha pins s σ H Q I h) fun c s1 e=>?_)
 cases c with
 | false=>exact isTrue_or_nil e
 | true=>exact e
theorem pw_and (ha:PT X a tA) (hb:PW X (.BoolOp .And (b :: rest) pos) tB'):PW X (.BoolOp .And (a :: b :: rest) pos) (tAnd tA tB'):=by
 intro wh pins s σ H Q I h
 refine isTrue_and (thn (ha pins s σ H _ I h) fun c s1 ⟨H1,I1,q1⟩=>?_)
 cases c with
 | true=>exact hb wh pins s1 σ H1 Q I1 q1
 | false=>exact ⟨H1,I1,q1⟩
theorem pw_or (ha:PT X a tA) (hb:PW X (.BoolOp .Or (b :: rest) pos) tB'):PW X (.BoolOp .Or (a :: b :: rest) pos) (tOr tA tB'):=by
 intro wh pins s σ H Q I h
 refine isTrue_or (thn (ha pins s σ H _ I h) fun c s1 ⟨H1,I1,q1⟩=>?_)
 cases c with
 | true=>exact ⟨H1,I1,q1⟩
 | false=>exact hb wh pins s1 σ H1 Q I1 q1
theorem pt_not (ha:PT X a tA):PT X (.UnaryOp .Not a pos) (tNot tA):=by
 intro pins s σ H Q I h
 exact isTrue_not (ha pins s σ H (fun c H1=>Q (!c) H1) I h)
def tAndV (ta tb:TE):TE:=fun σ H Q=>ta σ H fun x H1=>∃ c,x = .bl c∧if c = true then tb σ H1 Q else Q (.bl false) H1
def tOrV (ta tb:TE):TE:=fun σ H Q=>ta σ H fun x H1=>∃ c,x = .bl c∧if c = true then Q (.bl true) H1 else tb σ H1 Q
def tNotV (ta:TE):TE:=fun σ H Q=>ta σ H fun x H1=>∃ c,x = .bl c∧Q (.bl (!c)) H1
theorem pe_one {op} {t:TE} (h:PE X a t):PE X (.BoolOp op [a] pos) t:=fun pins s σ H Q I hw=>BoolOp_one (h pins s σ H Q I hw)
theorem pe_and (ha:PE X a ta) (hb:PE X (.BoolOp .And (b :: rest) pos) tb):PE X (.BoolOp .And (a :: b :: rest) pos) (tAndV ta tb):=by
 intro pins s σ H Q I h
 refine BoolOp_and (thn (ha pins s σ H _ I h) fun v s1 ⟨x,H1,I1,r1,q1⟩=>?_)
 obtain ⟨c,rfl,q1⟩:=q1
 cases r1
 refine wpAny_truthy_bool ?_
 cases c with
 | true=>exact hb pins s1 σ H1 Q I1 q1
 | false=>exact ⟨.bl false,H1,I1,rfl,q1⟩
theorem pe_not (ha:PE X a ta):PE X (.UnaryOp .Not a pos) (tNotV ta):=by
 intro pins s σ H Q I h
 refine UnaryOp_ (thn (ha pins s σ H _ I h) fun v s1 ⟨x,H1,I1,r1,q1⟩=>?_)
 obtain ⟨c,rfl,q1⟩:=q1
 cases r1
 exact not_of (wpAny_truthy_bool ⟨.bl (!c),H1,I1,rfl,q1⟩)
end
end L2
namespace L2
open PySem PySem.Spec PyProof.Rows
def SqL (K:PySem.W.Frag) (H:Hp) (a:Addr) (xs:List V):Prop :=
 Rd H a (.lst xs) ∨
  ∃ (o:Obj) (its:Array Value) (n:Nat),K.lookup a = some o∧o.cls = .type "list" ∧ o.dict = none∧o.data = .seq its n∧its.size ≤ sizeLine∧Vals xs its.toList
def SqT (K:PySem.W.Frag) (H:Hp) (a:Addr) (xs:List V):Prop :=
 Rd H a (.tup xs) ∨
  ∃ (o:Obj) (its:Array Value) (n:Nat),K.lookup a = some o∧o.cls = .type "tuple" ∧ o.data = .seq its n∧its.size ≤ sizeLine∧Vals xs its.toList
def absV:Value→Option V
 | .none=>some .non
 | .bool b=>some (.bl b)
 | .int i _=>some (.int i)
 | .str x _=>some (.str x)
 | .bytes b _=>some (.byt b)
 | .float b _=>some (.flt b)
 | .ref a=>some (.ref a)
 | .type n=>some (.ty n)
 | _=>none
theorem RelV.abs {x:V} {u:Value} (r:RelV x u):absV u = some x:=by
 cases x with
 | non=>cases r; rfl
 | bl _=>cases r; rfl
 | int _=>obtain ⟨t,rfl⟩:=r; rfl
 | str _=>obtain ⟨t,rfl⟩:=r; rfl
 | byt _=>obtain ⟨t,rfl⟩:=r; rfl
 | flt _=>obtain ⟨t,rfl⟩:=r; rfl
 | ref _=>cases r; rfl
 | ty _=>cases r; rfl
theorem RelV.inj {x y:V} {u:Value} (r:RelV x u) (q:RelV y u):x = y:=Option.some.inj (r.abs.symm.trans q.abs)
theorem Vals.inj:∀ {xs ys:List V} {us:List Value},Vals xs us→Vals ys us→xs = ys
 | _,_,_,.nil,.nil=>rfl
 | _,_,_,.cons r t,.cons r' t'=>by rw [r.inj r',Vals.inj t t']
section
variable {X:Cx} {pins:List (Addr × Obj)} {σ:St} {H:Hp} {s:Shared} {a:Addr} {xs ys:List V}
theorem SqL.of {K:PySem.W.Frag} (h:H a = some (.lst xs)):SqL K H a xs:=.inl (.inl h)
theorem SqT.of {K:PySem.W.Frag} (h:H a = some (.tup xs)):SqT K H a xs:=.inl (.inl h)
theorem Inv.list (I:Inv X pins σ H s) (h:SqL X.K H a xs):∃ its:List Value,Vals xs its∧PlainL s.heap a its.toArray∧xs.length ≤ sizeLine:=by
 rcases h with h | ⟨o,its,n,hk,hc,hd,hs,hz,r⟩
 ·obtain ⟨z,its,n,r,e⟩:=h.ok I.hok
  exact ⟨its,r,⟨_,n,e,rfl,rfl,rfl⟩,z⟩
 ·refine ⟨its.toList,r,⟨o,n,I.kIn a o hk,hc,hd,by simpa using hs⟩,?_⟩
  have e:=r.length
  simp only [Array.length_toList] at e
  omega
theorem Inv.tuple (I:Inv X pins σ H s) (h:SqT X.K H a xs):∃ its:List Value,Vals xs its∧IsTup s.heap a its.toArray∧xs.length ≤ sizeLine:=by
 rcases h with h | ⟨o,its,n,hk,hc,hs,hz,r⟩
 ·obtain ⟨z,its,r,p⟩:=h.ok I.hok
  exact ⟨its,r,p,z⟩
 ·refine ⟨its.toList,r,⟨o,I.kIn a o hk,hc,n,by simpa using hs⟩,?_⟩
  have e:=r.length
  simp only [Array.length_toList] at e
  omega
theorem Inv.list_inj (I:Inv X pins σ H s) (h:SqL X.K H a xs) (h':SqL X.K H a ys):xs = ys:=by
 obtain ⟨its,r,⟨o,n,e,_,_,d⟩,_⟩:=I.list h
 obtain ⟨its',r',⟨o',n',e',_,_,d'⟩,_⟩:=I.list h'
 rw [e] at e'; cases e'
 rw [d] at d'
 injection d' with d1 _
 have:its = its':=by simpa using congrArg Array.toList d1
 subst this
 exact r.inj r'
end
abbrev Cx.wish (X:Cx) (E:Value→Shared→Prop):Cx:={ X with xe:=E }
abbrev Cx.nox (X:Cx):Cx:=X.wish fun _ _=>False
theorem Cx.Ok.wish {X:Cx} (ok:X.Ok) (E:Value→Shared→Prop):(X.wish E).Ok :=
 ⟨ok.mod,ok.kind,ok.glob,ok.blt,ok.above,ok.inj,ok.has,ok.cab,ok.hd,ok.frames,ok.stk,ok.exf,ok.bs,ok.bsz,ok.noex,ok.exfs,ok.funs,ok.frf⟩
theorem Cx.Ok.unwish {X:Cx} {E:Value→Shared→Prop} (ok:(X.wish E).Ok):X.Ok :=
 ⟨ok.mod,ok.kind,ok.glob,ok.blt,ok.above,ok.inj,ok.has,ok.cab,ok.hd,ok.frames,ok.stk,ok.exf,ok.bs,ok.bsz,ok.noex,ok.exfs,ok.funs,ok.frf⟩
section
variable {X:Cx} {pins:List (Addr × Obj)} {σ:St} {H:Hp} {s:Shared} {E:Value→Shared→Prop}
theorem Inv.wish (I:Inv X pins σ H s) (E:Value→Shared→Prop):Inv (X.wish E) pins σ H s:=⟨I.ok.wish E,I.os,I.bare,I.base,I.loc,I.cell,I.free,I.freeC,I.pin,I.hok,I.len⟩
theorem Inv.unwish (I:Inv (X.wish E) pins σ H s):Inv X pins σ H s:=⟨I.ok.unwish,I.os,I.bare,I.base,I.loc,I.cell,I.free,I.freeC,I.pin,I.hok,I.len⟩
theorem SP.unwish {D:Ends} {f:Flow} {s':Shared} (h:SP (X.wish E) pins D f s'):SP X pins D f s':=by
 cases f with
 | next=>obtain ⟨σ',H',I,q⟩:=h; exact ⟨σ',H',I.unwish,q⟩
 | brk=>obtain ⟨σ',H',I,q⟩:=h; exact ⟨σ',H',I.unwish,q⟩
 | cont=>obtain ⟨σ',H',I,q⟩:=h; exact ⟨σ',H',I.unwish,q⟩
 | ret u=>obtain ⟨v,σ',H',I,r,q⟩:=h; exact ⟨v,σ',H',I.unwish,r,q⟩
theorem PSs.nox {st:List Stmt} {t:TS} (h:PSs X.nox st t):PSs X st t:=fun pins s σ H D I hw =>
 wpAny_mono (h pins s σ H D (I.wish _) hw) (fun _ _ q=>q.unwish) fun _ _ z=>False.elim z
end
section
variable {X:Cx} {st:Stmt} {rest:List Stmt} {t u:TS} {e:Expr} {te:TE} {pos:Pos}
def tNext:TS:=fun D σ H=>D.nx σ H
def tSeq (t u:TS):TS:=fun D σ H=>t { D with nx:=u D } σ H
theorem pss_nil:PSs X [] tNext:=fun _ _ σ H _ I h=>wpAny_execs_nil ⟨σ,H,I,h⟩
theorem pss_cons (h1:PS X st t) (h2:PSs X rest u):PSs X (st :: rest) (tSeq t u):=by
 intro pins s σ H D I h
 refine wpAny_execs_cons (thn (h1 pins s σ H { D with nx:=u D } I h) fun f s1 q=>?_)
 cases f with
 | next =>
  obtain ⟨σ',H',I',q⟩:=q
  exact h2 pins s1 σ' H' D I' q
 | ret v=>exact q
 | brk=>exact q
 | cont=>exact q
theorem pss_one (h1:PS X st t):PSs X [st] t:=by
 intro pins s σ H D I h
 refine wpAny_execs_cons (thn (h1 pins s σ H D I h) fun f s1 q=>?_)
 cases f with
 | next=>exact wpAny_execs_nil q
 | ret v=>exact q
 | brk=>exact q
 | cont=>exact q
theorem Inv.quiet {pins:List (Addr × Obj)} {σ:St} {H:Hp} {s:Shared} (I:Inv X pins σ H s):interactive X.env = false:=by simp [interactive,I.ok.kind]
def tDrop (te:TE):TS:=fun D σ H=>te σ H fun _ H1=>D.nx σ H1
theorem ps_expr (he:PE X e te) (hs:swapsWith e none pos.line X.env = pure false:=by rfl):PS X (.Expr e pos) (tDrop te):=by
 intro pins s σ H D I h
 exact wpAny_Expr_any (thn (he pins s σ H _ I h) fun v s1 ⟨x,H1,I1,r1,q1⟩=>⟨σ,H1,I1,q1⟩) I.quiet hs
def tRet (te:TE):TS:=fun D σ H=>te σ H D.rt
theorem ps_ret (he:PE X e te):PS X (.Return (some e) pos) (tRet te):=by
 intro pins s σ H D I h
 exact wpAny_Return_some (thn (he pins s σ H _ I h) fun v s1 ⟨x,H1,I1,r1,q1⟩=>⟨x,σ,H1,I1,r1,q1⟩)
def tRetN:TS:=fun D _ H=>D.rt .non H
def tIfS (c:TT) (t u:TS):TS:=fun D σ H=>c σ H fun b H1=>if b = true then t D σ H1 else u D σ H1
theorem ps_if {c:Expr} {a b:List Stmt} {tc:TT} (hc:PT X c tc) (ha:PSs X a t) (hb:PSs X b u):PS X (.If c a b pos) (tIfS tc t u):=by
 intro pins s σ H D I h
 refine wpAny_If (thn (hc pins s σ H _ I h) fun d s1 ⟨H1,I1,q1⟩=>?_)
 cases d with
 | true=>exact ha pins s1 σ H1 D I1 q1
 | false=>exact hb pins s1 σ H1 D I1 q1
def tNever:TS:=fun _ _ _=>False
theorem ps_never:PS X st tNever:=fun _ _ _ _ _ _ h=>h.elim
end
abbrev TG:=V→St→Hp→(St→Hp→Prop)→Prop
abbrev TGs:=List V→St→Hp→(St→Hp→Prop)→Prop
def PG (X:Cx) (target:Expr) (t:TG):Prop :=
 ∀ (pins:List (Addr × Obj)) (s:Shared) (σ:St) (H:Hp) (v:V) (u:Value) (Q:St→Hp→Prop),Inv X pins σ H s→RelV v u→t v σ H Q →
  wpAny (model X.prog X.w) X.A (assign target X.env u) (fun _ s'=>∃ σ' H',Inv X pins σ' H' s'∧Q σ' H') X.xe s
def PGs (X:Cx) (ts:List Expr) (t:TGs):Prop :=
 ∀ (pins:List (Addr × Obj)) (s:Shared) (σ:St) (H:Hp) (vs:List V) (us:List Value) (Q:St→Hp→Prop),Inv X pins σ H s→Vals vs us→t vs σ H Q →
  wpAny (model X.prog X.w) X.A (assignInOrder ((assignEach ts X.env).map (·.2)) us) (fun _ s'=>∃ σ' H',Inv X pins σ' H' s'∧Q σ' H') X.xe s
abbrev TSet:=V→V→V→Hp→(Hp→Prop)→Prop
def PSet (X:Cx) (t:TSet):Prop :=
 ∀ (pins:List (Addr × Obj)) (s:Shared) (σ:St) (H:Hp) (o i v:V) (ov iv u:Value) (Q:Hp→Prop),Inv X pins σ H s→RelV o ov→RelV i iv→RelV v u→t o i v H Q →
  wpAny (model X.prog X.w) X.A (setItem ov iv u) (fun _ s'=>∃ H',Inv X pins σ H' s'∧Q H') X.xe s
abbrev TIp:=V→V→Hp→VK→Prop
def PIp (X:Cx) (op:Operator) (t:TIp):Prop :=
 ∀ (pins:List (Addr × Obj)) (s:Shared) (σ:St) (H:Hp) (x y:V) (v u:Value) (Q:VK),Inv X pins σ H s→RelV x v→RelV y u→t x y H Q →
  wpAny (model X.prog X.w) X.A (inplaceOp op v u) (EP X pins σ Q) X.xe s
section
variable {X:Cx} {pos:Pos}
def gName (i:Nat):TG:=fun v σ H Q=>Q (σ.set i (some v)) H
theorem pg_name {i:Nat} {x:Str} (hN:X.N.Nodup) (hi:X.N[i]? = some x) (hx:Loc X.env.scope x) (hf:X.fn x = true∨X.env.scope.names.lookup x = some .local:=by first | exact .inl rfl | exact .inr rfl | assumption):PG X (.Name x pos) (gName i):=by
 intro pins s σ H v u Q I r h
 exact wpAny_assign_Name (store_ok I hN hi hx r (fun s' I'=>⟨_,H,I',h⟩) hf)
def gNil:TGs:=fun vs σ H Q=>vs = []∧Q σ H
def gCons (t:TG) (u:TGs):TGs:=fun vs σ H Q=>∃ v r,vs = v :: r∧t v σ H fun σ' H'=>u r σ' H' Q
theorem pgs_nil:PGs X [] gNil:=by
 intro pins s σ H vs us Q I r h
 obtain ⟨e,h⟩:=h
 subst e
 cases r
 exact assignInOrder_nil ⟨σ,H,I,h⟩
theorem pgs_cons {e:Expr} {es:List Expr} {t:TG} {u:TGs} (h1:PG X e t) (h2:PGs X es u)
  (hs:(assignEach (e :: es) X.env).map (·.2) = assign e X.env :: (assignEach es X.env).map (·.2):=by rfl):PGs X (e :: es) (gCons t u):=by
 intro pins s σ H vs us Q I r h
 obtain ⟨v,vr,e1,h⟩:=h
 subst e1
 cases r with
 | cons r rr =>
  rw [hs]
  refine assignInOrder_cons (thn (h1 pins s σ H _ _ _ I r h) fun _ s1 ⟨σ1,H1,I1,q1⟩=>?_)
  exact h2 pins s1 σ1 H1 _ _ Q I1 rr q1
def gTup (K:PySem.W.Frag) (n:Nat) (t:TGs):TG:=fun v σ H Q=>∃ a xs,v = .ref a∧SqT K H a xs∧xs.length = n∧t xs σ H Q
theorem pg_tup {es:List Expr} {k:Nat} {t:TGs} {n:Nat} (hc:X.calm = true) (h:PGs X es t)
  (hn:(assignEach es X.env).length = n:=by rfl) (hst:(assignEach es X.env).findIdx? (·.1) = none:=by rfl):PG X (.Tuple es k pos) (gTup X.K n t):=by
 intro pins s σ H v u Q I r hw
 obtain ⟨a,xs,e1,hq,hl,hw⟩:=hw
 subst e1
 cases r
 obtain ⟨its,rv,ht,hz⟩:=I.tuple hq
 refine assign_Tuple_tuple (I.ok.hd hc) ht (by simp [hn,← hl,rv.length]) hst fun h' hx=>?_
 have I1:Inv X pins σ H { s with heap:=h' }:=I.kept (t':=s.toks) fun b o e=>hx b o (Nat.ne_of_lt (Heap.lt_size e)) e
 exact h pins _ σ H xs _ Q I1 (by simpa using rv) hw
def gSub (to ti:TE) (t:TSet):TG:=fun v σ H Q=>to σ H fun o H1=>ti σ H1 fun i H2=>t o i v H2 fun H3=>Q σ H3
theorem pg_sub {o i:Expr} {to ti:TE} {t:TSet} (ho:PE X o to) (hi:PE X i ti) (hs:PSet X t)
  (ha:∀ v,assign (.Subscript o i pos) X.env v = (do
   let ov ← holding [v] (eval o X.env)
   let iv ← holding [v,ov] (eval i X.env)
   standAt pos
   holding [v,ov,iv] (setItem ov iv v)
   release [v,ov,iv] []):=by intro _; rfl):PG X (.Subscript o i pos) (gSub to ti t):=by
 intro pins s σ H v u Q I r h
 rw [ha]
 refine wpAny_bind (wpAny_holding (thn (ho pins s σ H _ I h) fun ov s1 ⟨x,H1,I1,r1,q1⟩=>?_))
 refine wpAny_bind (wpAny_holding (thn (hi pins s1 σ H1 _ I1 q1) fun iv s2 ⟨y,H2,I2,r2,q2⟩=>?_))
 refine wpAny_bind (wpAny_standAt (wpAny_bind (wpAny_holding (thn (hs pins s2 σ H2 x y v ov iv u _ I2 r1 r2 r q2) fun _ s3 ⟨H3,I3,q3⟩=>?_))))
 exact wpAny_release ⟨σ,H3,I3,q3⟩
def tAsg (te:TE) (g:TG):TS:=fun D σ H=>te σ H fun x H1=>g x σ H1 D.nx
theorem ps_asg {tg e:Expr} {te:TE} {g:TG} (he:PE X e te) (hg:PG X tg g) (hs:swapsWithSole [tg] e pos.line X.env = pure false:=by rfl) (hw:swappedStores [tg] e X.env = pure none:=by rfl)
  (h1:(assignEach [tg] X.env).map (·.2) = [assign tg X.env]:=by rfl):PS X (.Assign [tg] e pos) (tAsg te g):=by
 intro pins s σ H D I h
 refine wpAny_Assign_stores (thn (he pins s σ H _ I h) fun v s1 ⟨x,H1,I1,r1,q1⟩=>?_) hs hw
 rw [h1]
 exact thn (hg pins s1 σ H1 x v _ I1 r1 q1) fun _ s2 q=>q
theorem ps_set {i:Nat} {x:Str} {e:Expr} {te:TE} {pos':Pos} (hN:X.N.Nodup) (hi:X.N[i]? = some x) (hx:Loc X.env.scope x) (he:PE X e te) (hs:swapsWith e (some (.Name x pos')) pos.line X.env = pure false:=by rfl) (hf:X.fn x = true∨X.env.scope.names.lookup x = some .local:=by first | exact .inl rfl | exact .inr rfl | assumption) :
  PS X (.Assign [.Name x pos'] e pos) (tAsg te (gName i)):=by
 intro pins s σ H D I h
 refine wpAny_Assign_Name (thn (he pins s σ H _ I h) fun v s1 ⟨y,H1,I1,r1,q1⟩=>?_) hs
 exact store_ok I1 hN hi hx r1 (fun s2 I2=>⟨_,H1,I2,q1⟩) hf
def tPar (i j:Nat) (ta:TA):TS:=fun D σ H=>ta σ H fun vs H1=>∃ v w,vs = [v,w]∧D.nx ((σ.set i (some v)).set j (some w)) H1
theorem ps_par {i j:Nat} {x y:Str} {a b:Expr} {ta:TA} {px py pt:Pos} {kt k2 pt2} (hc:X.calm = true) (hN:X.N.Nodup) (hi:X.N[i]? = some x) (hj:X.N[j]? = some y) (hij:i ≠ j)
  (hx:X.env.scope.names.lookup x = some .local) (hy:X.env.scope.names.lookup y = some .local) (ha:PA X [a,b] ta)
  (hw:swappedStores [.Tuple [.Name x px,.Name y py] kt pt] (.Tuple [a,b] k2 pt2) X.env = pure (some [x,y]))
  (hs:swapsWithSole [.Tuple [.Name x px,.Name y py] kt pt] (.Tuple [a,b] k2 pt2) pos.line X.env = pure false:=by rfl) :
  PS X (.Assign [.Tuple [.Name x px,.Name y py] kt pt] (.Tuple [a,b] k2 pt2) pos) (tPar i j ta):=by
 intro pins s σ H D I h
 rw [exec_Assign_arm]
 refine wpAny_bind (wpAny_standAt ?_)
 rw [hs]
 refine wpAny_bind (wpAny_pure ?_)
 rw [if_neg (by decide)]
 refine wpAny_bind (Tuple_ (thn (ha _ pins s σ H _ I h) fun us s1 ⟨vs,H1,I1,r1,q1⟩=>?_))
 obtain ⟨v,w,e1,q1⟩:=q1
 subst e1
 obtain ⟨u1,u2,rfl,rv,rw'⟩ : ∃ u1 u2,us = [u1,u2]∧RelV v u1∧RelV w u2:=by
  cases r1 with
  | cons p q =>
   cases q with
   | cons p' q' =>
    cases q'
    exact ⟨_,_,rfl,p,p'⟩
 refine wpAny_newObj_type ?_ (by show 2 ≤ sizeLine; decide)
 have I2:Inv X pins σ H1 { s1 with heap:=s1.heap.push { cls:=.type "tuple",data:=.seq [u1,u2].toArray } }:=I1.kept (t':=s1.toks) fun b o e=>Heap.get?_push_of_some _ e
 rw [hw]
 refine wpAny_bind (wpAny_pure ?_)
 show wpAny (model X.prog X.w) X.A (do rule "assign.swapped-stores"; let items ← unpackItems (.ref s1.heap.objs.size) 2 none; assignInOrder [fun v=>bindName X.env y v,fun v=>bindName X.env x v] items.reverse; pure Flow.next) _ _ _
 refine wpAny_bind (wpAny_rule (wpAny_bind (unpackItems_tuple (items:=#[u1,u2]) (I.ok.hd hc) (IsTup.new s1.heap _) fun h' hx'=>?_)))
 have I3:=I2.kept (h':=h') (t':=s1.toks) fun b o e=>hx' b o (Nat.ne_of_lt (Heap.lt_size e)) e
 show wpAny _ _ (assignInOrder [fun v=>bindName X.env y v,fun v=>bindName X.env x v] [u2,u1] >>= fun _=>pure Flow.next) _ _ _
 refine wpAny_bind (assignInOrder_cons (wpAny_bindName (store_ok I3 hN hj (.inl hy) rw' (fun s2 I4=>?_) (.inr hy))))
 refine assignInOrder_cons (wpAny_bindName (store_ok I4 hN hi (.inl hx) rv (fun s3 I5=>assignInOrder_nil (wpAny_pure ?_)) (.inr hx)))
 rw [List.set_comm _ _ (Ne.symm hij)] at I5
 exact ⟨_,H1,I5,q1⟩
def tAug (i:Nat) (te:TE) (ti:TIp):TS:=fun D σ H=>∃ x,σ[i]? = some (some x)∧te σ H fun y H1=>ti x y H1 fun z H2=>D.nx (σ.set i (some z)) H2
theorem ps_aug {i:Nat} {x:Str} {e:Expr} {te:TE} {op:Operator} {ti:TIp} {pos':Pos} (hN:X.N.Nodup) (hi:X.N[i]? = some x) (hx:Loc X.env.scope x) (he:PE X e te) (ho:PIp X op ti) (hf:X.fn x = true∨X.env.scope.names.lookup x = some .local:=by first | exact .inl rfl | exact .inr rfl | assumption) :
  PS X (.AugAssign (.Name x pos') op e pos) (tAug i te ti):=by
 intro pins s σ H D I h
 obtain ⟨v,e1,h⟩:=h
 obtain ⟨m,hn,hl⟩:=I.loc
 have vis:Vis X.env.scope x:=by rcases hx with k | k; exact .inl k; exact .inr (.inl k)
 obtain ⟨u,r,l⟩:=hl i x v hi e1 vis
 refine wpAny_AugAssign_Name ?_
 have go:wpAny (model X.prog X.w) X.A (eval e X.env) (fun w s₂=>wpAny (model X.prog X.w) X.A (inplaceOp op u w) (fun r s₃=>wpAny (model X.prog X.w) X.A (storeName X.env x r) (fun _=>SP X pins D .next) X.xe s₃) X.xe s₂) X.xe s:=by
  refine thn (he pins s σ H _ I h) fun w s1 ⟨y,H1,I1,r1,q1⟩=>?_
  refine thn (ho pins s1 σ H1 v y u w _ I1 r r1 q1) fun z s2 ⟨zv,H2,I2,r2,q2⟩=>?_
  exact store_ok I2 hN hi hx r2 (fun s3 I3=>⟨_,H2,I3,q2⟩) hf
 rcases l with ⟨hk,hm⟩ | ⟨hk,c,hc,hcell⟩
 ·exact wpAny_loadName_local I.ok.kind hk hn hm go
 ·rcases hk with hk | hk
  ·exact wpAny_loadName_cell I.ok.kind hk hc hcell go
  ·rcases hx with k | k
   ·have:X.env.scope.names.lookup x = some .free:=hk
    rw [k] at this; cases this
   ·have:X.env.scope.names.lookup x = some .free:=hk
    rw [k] at this; cases this
def ipI (f:Int→Int→Int):TIp:=fun x y H Q=>∃ i j,x = .int i∧y = .int j∧Q (.int (f i j)) H
theorem ip_add:PIp X .Add (ipI fun i j=>i + j):=by
 intro pins s σ H x y v u Q I r1 r2 h
 obtain ⟨i,j,e1,e2,q⟩:=h
 subst e1; subst e2
 obtain ⟨t,rfl⟩:=r1
 obtain ⟨t',rfl⟩:=r2
 exact iadd_int ⟨.int _,H,I.tok _,⟨_,rfl⟩,q⟩
end
section
variable {X:Cx} {pos:Pos}
def tWhile (c:TT) (tb:TS):TS:=fun D σ H=>∃ W:Nat→St→Hp→Prop,(∃ m,W m σ H)∧∀ m σ H,W m σ H →
 c σ H fun b H1=>if b = true then ∃ N:St→Hp→Prop,(∀ σ' H',N σ' H'→∃ m',m' < m∧W m' σ' H')∧tb { D with nx:=N,ct:=N,bk:=D.nx } σ H1 else D.nx σ H1
theorem ps_while {c:Expr} {body:List Stmt} {tc:TT} {tb:TS} (hp:PassesOwn (model X.prog X.w) X.A X.env X.xe) (hc:PT X c tc) (hb:PSs X body tb):PS X (.While c body [] pos) (tWhile tc tb):=by
 intro pins s σ H D I h
 obtain ⟨W,⟨m0,w0⟩,turn⟩:=h
 refine wpAny_While (codeAny_whileLoop (fun n s'=>∃ σ' H',Inv X pins σ' H' s'∧W n σ' H') ?_ m0 ⟨σ,H,I,w0⟩)
 rintro n s1 ⟨σ1,H1,I1,w1⟩
 refine wpAny_passesOwn hp (thn (hc pins s1 σ1 H1 _ I1 (turn n σ1 H1 w1)) fun b s2 ⟨H2,I2,q2⟩=>?_)
 cases b with
 | true =>
  obtain ⟨N,hN,q2⟩:=q2
  rw [if_pos rfl]
  refine wpAny_passesOwn hp (thn (hb pins s2 σ1 H2 _ I2 q2) fun f s3 q3=>?_)
  cases f with
  | next =>
   obtain ⟨σ3,H3,I3,n3⟩:=q3
   obtain ⟨m',hm,w3⟩:=hN σ3 H3 n3
   exact ⟨m',hm,σ3,H3,I3,w3⟩
  | cont =>
   obtain ⟨σ3,H3,I3,n3⟩:=q3
   obtain ⟨m',hm,w3⟩:=hN σ3 H3 n3
   exact ⟨m',hm,σ3,H3,I3,w3⟩
  | brk=>exact q3
  | ret v=>exact q3
 | false =>
  rw [if_neg Bool.false_ne_true]
  exact wpAny_execs_nil ⟨σ1,H2,I2,q2⟩
end
structure It where
 go:Nat→Hp→Prop
 yld:Nat→Hp→V→Hp→Prop
 stop:Nat→Hp→Prop
def FpOk (X:Cx) (pins:List (Addr × Obj)) (H:Hp) (b:Addr):Prop :=
 H b = none∧b ≠ X.env.locals∧b ∉ X.fs∧(b ∈ X.ex∨X.s₀.heap.objs.size ≤ b)∧(∀ x c,X.env.cells.lookup x = some c→c ≠ b)∧∀ p ∈ X.pn ++ pins,p.1 ≠ b
theorem Inv.fpOk {X:Cx} {pins:List (Addr × Obj)} {σ:St} {H H':Hp} {s:Shared} {b:Addr} (I:Inv X pins σ H s) (hb:s.heap.objs.size ≤ b) (hn:H' b = none):FpOk X pins H' b:=by
 refine ⟨hn,Nat.ne_of_gt (Nat.lt_of_lt_of_le I.lt hb),I.nofs hb,.inr (Nat.le_trans I.sz hb),fun x c e z=>?_,fun p hp z=>?_⟩
 ·obtain ⟨v,q⟩:=I.cell x c e
  exact absurd (Nat.lt_of_lt_of_le q.lt (by rw [z]; exact hb)) (Nat.lt_irrefl _)
 ·exact absurd (Nat.lt_of_lt_of_le (Heap.lt_size (I.pin p hp).1) (by rw [z]; exact hb)) (Nat.lt_irrefl _)
structure Turn (P:Program) (w:World) (K:PySem.W.Frag) (tg:Expr) (J:It) (fp:List Addr) (it:Addr) (tn:Nat→Heap→Prop):Prop where
 mem:it ∈ fp
 obj:∀ i h,tn i h→∀ b ∈ fp,∃ o,h.get? b = some o∧∀ v,o.data ≠ .cell v
 keep:∀ i h h',tn i h→(∀ b ∈ fp,∀ o,h.get? b = some o→h'.get? b = some o)→tn i h'
 item:∀ (X:Cx),X.prog = P→X.w = w→X.K = K→X.calm = true→∀ (i:Nat) (pins:List (Addr × Obj)) (s:Shared) (σ:St) (H:Hp) (E:Value→Shared→Prop),Inv X pins σ H s→(∀ b ∈ fp,FpOk X pins H b)→tn i s.heap→J.go i H →
  wpAny (model P w) X.A (pyNext (.ref it)) (fun r s1=>∃ u,r = some u ∧
   wpAny (model P w) X.A (letOwnedTupleGo tg (.ref it) u) (fun _ s2=>∃ x H',Inv X pins σ H' s2∧RelV x u∧J.yld i H x H'∧tn (i + 1) s2.heap∧∀ b ∈ fp,H' b = none) E s1) E s
 done:∀ (X:Cx),X.prog = P→X.w = w→X.K = K→X.calm = true→∀ (i:Nat) (pins:List (Addr × Obj)) (s:Shared) (σ:St) (H:Hp) (E:Value→Shared→Prop),Inv X pins σ H s→(∀ b ∈ fp,FpOk X pins H b)→tn i s.heap→J.stop i H →
  wpAny (model P w) X.A (pyNext (.ref it)) (fun r s1=>r = none∧Inv X pins σ H s1) E s
 self:∀ (A:Around) (i:Nat) (s:Shared) (Q:Value→Shared→Prop) (E:Value→Shared→Prop),tn i s.heap→Q (.ref it) s→wpAny (model P w) A (pyIter (.ref it)) Q E s
abbrev TI:=St→Hp→(It→Hp→Prop)→Prop
def PIE (X:Cx) (pins:List (Addr × Obj)) (σ:St) (tg:Expr) (R:It→Hp→Prop) (itv:Value) (s2:Shared):Prop :=
 ∃ (it:Addr) (fp:List Addr) (tn:Nat→Heap→Prop) (J:It) (H':Hp),itv = .ref it∧Inv X pins σ H' s2∧Turn X.prog X.w X.K tg J fp it tn∧tn 0 s2.heap∧(∀ b ∈ fp,FpOk X pins H' b)∧R J H'
def PI (X:Cx) (tg iter:Expr) (wi:TI):Prop :=
 ∀ (pins:List (Addr × Obj)) (s:Shared) (σ:St) (H:Hp) (R:It→Hp→Prop),Inv X pins σ H s→wi σ H R →
  wpAny (model X.prog X.w) X.A (eval iter X.env) (fun v s1=>wpAny (model X.prog X.w) X.A (pyIter v) (PIE X pins σ tg R) X.xe s1) X.xe s
theorem go_of {M:Model} {A:Around} {E:Value→Shared→Prop} {s:Shared} {tg:Expr} {it:Addr} {u:Value} {o:Obj} {n:String} {vs:Array Value} {Q:Unit→Shared→Prop} (ho:s.heap.get? it = some o) (hc:o.cls = .type n) (hd:o.data = .fields vs)
    (hn : ["enumerate", "zip", "dict_itemiterator", "dict_reverseitemiterator", "odict_iterator", "itertools.zip_longest", "itertools.pairwise"].contains n = false) (hQ:Q () s):wpAny M A (letOwnedTupleGo tg (.ref it) u) Q E s:=by
  unfold letOwnedTupleGo
  cases tg <;> first
    | exact wpAny_pure hQ
    | (cases u <;> first
        | exact wpAny_pure hQ
        | (refine wpAny_bind (wpAny_load ho ?_)
           rw [hc,hd]
           show wpAny M A (if (["enumerate", "zip", "dict_itemiterator", "dict_reverseitemiterator", "odict_iterator", "itertools.zip_longest", "itertools.pairwise"].contains n && vs[0]? == some (rawInt _)) = true then _ else _) Q E s
           rw [if_neg (by intro h; rw [hn,Bool.false_and] at h; cases h)]
           exact wpAny_pure hQ))
def Itl (K:PySem.W.Frag) (a:Addr):It :=
 ⟨fun i H=>∃ xs x,SqL K H a xs∧xs[i]? = some x,fun i H x H'=>H' = H∧∀ xs,SqL K H a xs→xs[i]? = some x,fun i H=>∃ xs,SqL K H a xs∧xs.length ≤ i⟩
def Itr (lo:Int) (n:Nat):It:=⟨fun i _=>i < n,fun i H x H'=>H' = H∧x = .int (lo + i),fun i _=>n ≤ i⟩
theorem turn_list {P:Program} {w:World} {K:PySem.W.Frag} {tg:Expr} (a it:Addr):Turn P w K tg (Itl K a) [it] it (fun i h=>h.IsListIter it a i) where
 mem:=by simp
 obj:=fun i h st b hb=>by
  have e:b = it:=by simpa using hb
  subst e
  obtain ⟨o,e,c,d⟩:=st
  exact ⟨o,e,fun v z=>by rw [d] at z; cases z⟩
 keep:=fun i h h' st k=>st.at fun o e=>k it (by simp) o e
 item:=by
  intro X hP hw hK hc i pins s σ H E I hf st hg
  subst hP hw hK
  obtain ⟨xs,x,hq,hx⟩:=hg
  obtain ⟨its,rv,p,hz⟩:=I.list hq
  obtain ⟨u,hu,ru⟩:=rv.get hx
  obtain ⟨f0,f1,f2,f3,f4,f5⟩:=hf it (by simp)
  refine wpAny_pyNext_list_item st p.isList (x:=u) (by simpa using hu) fun h' st' sb=>?_
  have I1:Inv X pins σ H { s with heap:=h' }:=I.turned (t':=s.toks) (fun b o hb e=>(sb.2 b hb).trans e) f0 f1 f3 f4 f5
  obtain ⟨o,e,c,d⟩:=id st'
  exact ⟨u,rfl,go_of (s:={ s with heap:=h' }) e c d (by decide) ⟨x,H,I1,ru,⟨rfl,fun ys hy=>by rw [I.list_inj hy hq]; exact hx⟩,st',fun b hb=>(hf b hb).1⟩⟩
 done:=by
  intro X hP hw hK hc i pins s σ H E I hf st hg
  subst hP hw hK
  obtain ⟨xs,hq,hx⟩:=hg
  obtain ⟨its,rv,p,hz⟩:=I.list hq
  obtain ⟨f0,f1,f2,f3,f4,f5⟩:=hf it (by simp)
  have hl:=rv.length
  exact wpAny_pyNext_list_end (I.ok.hd hc) st p.isList (by simp; omega) fun h' eb=>⟨rfl,I.turned (t':=s.toks) (fun b o hb e=>eb b o hb e) f0 f1 f3 f4 f5⟩
 self:=fun _ _ _ _ _ st h=>wpAny_pyIter_listiter st h
theorem turn_range {P:Program} {w:World} {K:PySem.W.Frag} {tg:Expr} (it:Addr) (lo:Int) (n:Nat):Turn P w K tg (Itr lo n) [it] it (fun i h=>IsRangeIter h it (lo + (i:Nat) * 1) ((n:Int) - (i:Nat)) 1) where
 mem:=by simp
 obj:=fun i h st b hb=>by
  have e:b = it:=by simpa using hb
  subst e
  exact ⟨_,st,fun v z=>by
   have z':Data.fields _ = Data.cell v:=z
   cases z'⟩
 keep:=fun i h h' st k=>k it (by simp) _ st
 item:=by
  intro X hP hw hK hc i pins s σ H E I hf st hg
  subst hP hw hK
  obtain ⟨f0,f1,f2,f3,f4,f5⟩:=hf it (by simp)
  have W:=Walks.range (prog:=X.prog) (w:=X.w) (I.ok.hd hc) it lo 1 n
  refine W.item i s _ _ hg st fun v h' tk hv st' kk=>?_
  obtain ⟨t,rfl⟩:=hv
  have I1:Inv X pins σ H { s with heap:=h',toks:=tk }:=I.turned (fun b o hb e=>kk b o (by simpa using hb) e) f0 f1 f3 f4 f5
  refine ⟨_,rfl,go_of (s:={ s with heap:=h',toks:=tk }) (n := "range_iterator") st' rfl rfl (by decide) ⟨.int (lo + i),H,I1,⟨t,?_⟩,⟨rfl,rfl⟩,st',fun b hb=>(hf b hb).1⟩⟩
  rw [Int.mul_one]
 done:=by
  intro X hP hw hK hc i pins s σ H E I hf st hg
  subst hP hw hK
  obtain ⟨f0,f1,f2,f3,f4,f5⟩:=hf it (by simp)
  exact wpAny_pyNext_range_end (I.ok.hd hc) st (by have:n ≤ i:=hg; omega) fun h' eb=>⟨rfl,I.turned (t':=s.toks) (fun b o hb e=>eb b o hb e) f0 f1 f3 f4 f5⟩
 self:=fun _ _ _ _ _ st h=>wpAny_pyIter_rangeiter st h
end L2
namespace L2
open PySem PySem.Spec PyProof.Rows
section
variable {X:Cx} {tg:Expr}
def iList (K:PySem.W.Frag) (tl:TE):TI:=fun σ H R=>tl σ H fun x H1=>∃ a,x = .ref a∧(∃ xs,SqL K H1 a xs)∧R (Itl K a) H1
theorem pi_list {l:Expr} {tl:TE} (hl:PE X l tl):PI X tg l (iList X.K tl):=by
 intro pins s σ H R I h
 refine thn (hl pins s σ H _ I h) fun v s1 ⟨x,H1,I1,r1,q1⟩=>?_
 obtain ⟨a,e,⟨xs,hq⟩,q⟩:=q1
 subst e
 cases r1
 obtain ⟨its,rv,p,hz⟩:=I1.list hq
 refine wpAny_pyIter_list p.isList ?_
 refine ⟨s1.heap.objs.size,[s1.heap.objs.size],_,_,H1,rfl,I1.kept (t':=s1.toks) fun b o e=>Heap.get?_push_of_some _ e,turn_list a _,⟨_,Heap.get?_push_size _ rfl,rfl,rfl⟩,fun b hb=>?_,q⟩
 have e:b = s1.heap.objs.size:=by simpa using hb
 subst e
 exact I1.fpOk (Nat.le_refl _) (I1.hok.fresh (Nat.le_refl _))
theorem range_it {pins:List (Addr × Obj)} {σ:St} {H:Hp} {s:Shared} {R:It→Hp→Prop} {E:Value→Shared→Prop} {lo hi:Int} {t u v:Tok} {tk:Nat} (I:Inv X pins σ H s) (h1 : -(2 ^ 62) ≤ lo) (h2:lo < 2 ^ 62) (h3 : -(2 ^ 62) ≤ hi) (h4:hi < 2 ^ 62)
  (q:R (Itr lo (hi - lo).toNat) H):wpAny (model X.prog X.w) X.A (pyIter (.ref s.heap.objs.size)) (PIE X pins σ tg R) E { s with heap:=s.heap.push { cls:=.type "range",data:=.fields #[.int lo t,.int hi u,.int 1 v] },toks:=tk }:=by
 refine wpAny_pyIter_range (IsRange.new ..) (small_one h1 h2 h3 h4) ?_
 have I1:Inv X pins σ H { s with heap:=s.heap.push { cls:=.type "range",data:=.fields #[.int lo t,.int hi u,.int 1 v] },toks:=tk }:=I.kept fun b o e=>Heap.get?_push_of_some _ e
 refine ⟨(s.heap.push { cls:=.type "range",data:=.fields #[.int lo t,.int hi u,.int 1 v] }).objs.size,[(s.heap.push { cls:=.type "range",data:=.fields #[.int lo t,.int hi u,.int 1 v] }).objs.size],_,_,H,rfl,
  I1.kept (t':=tk) fun b o e=>Heap.get?_push_of_some _ e,turn_range _ lo (hi - lo).toNat,?_,fun b hb=>?_,q⟩
 ·have e1:lo + ((0:Nat):Int) * 1 = lo:=by simp
  have e2:(((hi - lo).toNat:Nat):Int) - ((0:Nat):Int) = Builtin.Range.rangeSize lo hi 1:=by rw [rangeSize_one]; split <;> omega
  show IsRangeIter _ _ (lo + ((0:Nat):Int) * 1) ((((hi - lo).toNat:Nat):Int) - ((0:Nat):Int)) 1
  rw [e1,e2]
  exact Heap.get?_push_size _ rfl
 ·have e:b = (s.heap.push { cls:=.type "range",data:=.fields #[.int lo t,.int hi u,.int 1 v] }).objs.size:=by simpa using hb
  subst e
  exact I1.fpOk (Nat.le_refl _) (I1.hok.fresh (Nat.le_refl _))
def iRng1 (ta:TA):TI:=fun σ H R=>ta σ H fun vs H1=>∃ j:Int,vs = [.int j]∧-(2 ^ 62) ≤ j∧j < 2 ^ 62∧R (Itr 0 j.toNat) H1
theorem pi_range1 {a:Expr} {ta:TA} {p pos:Pos} (hg:Gl X "range") (hm:X.mg "range" = none) (ha:PA X [a] ta) (hs:starEach [a] X.env = [(false,eval a X.env)]:=by rfl):PI X tg (.Call (.Name "range" p) [a] [] pos) (iRng1 ta):=by
 intro pins s σ H R I h
 refine Call_ (ld_blt I hg hm boot_range (PyProof.Rows.callWith_type1 (thn (ha pos pins s σ H _ I h) fun us s1 ⟨vs,H1,I1,r1,q1⟩=>?_) hs rfl))
 obtain ⟨j,e,q1,q2,q⟩:=q1
 subst e
 cases r1 with
 | cons r rr =>
  cases rr
  obtain ⟨t,rfl⟩:=r
  exact call_range_1 (range_it I1 (by omega) (by omega) q1 q2 (by simpa using q))
def tFor (wi:TI) (g:TG) (tb:TS):TS:=fun D σ H=>wi σ H fun J H1=>∃ W:Nat→Nat→St→Hp→Prop,(∃ m,W 0 m σ H1)∧∀ i m σ H,W i m σ H →
 (J.stop i H∧D.nx σ H)∨(J.go i H∧∃ N:St→Hp→Prop,(∀ σ' H',N σ' H'→∃ m',m' < m∧W (i + 1) m' σ' H')∧∀ x H',J.yld i H x H'→g x σ H' fun σ2 H2=>tb { D with nx:=N,ct:=N,bk:=D.nx } σ2 H2)
def pinsAt (fp:List Addr) (h:Heap):List (Addr × Obj):=fp.filterMap fun b=>(h.get? b).map fun o=>(b,o)
theorem mem_pinsAt {fp:List Addr} {h:Heap} {b:Addr} {o:Obj} (hb:b ∈ fp) (e:h.get? b = some o):(b,o) ∈ pinsAt fp h:=List.mem_filterMap.mpr ⟨b,hb,by rw [e]; rfl⟩
theorem of_pinsAt {fp:List Addr} {h:Heap} {p:Addr × Obj} (hp:p ∈ pinsAt fp h):p.1 ∈ fp∧h.get? p.1 = some p.2:=by
 obtain ⟨b,hb,e⟩:=List.mem_filterMap.mp hp
 cases q:h.get? b with
 | none=>rw [q] at e; cases e
 | some o =>
  rw [q] at e
  have e':(b,o) = p:=Option.some.inj e
  subst e'
  exact ⟨hb,q⟩
theorem Inv.pinned {pins:List (Addr × Obj)} {σ:St} {H:Hp} {s:Shared} {fp:List Addr} (I:Inv X pins σ H s) (hf:∀ b ∈ fp,FpOk X pins H b) (ho:∀ b ∈ fp,∃ o,s.heap.get? b = some o∧∀ v,o.data ≠ .cell v):Inv X (pins ++ pinsAt fp s.heap) σ H s :=
 I.pins_of fun p hp=>(List.mem_append.mp hp).elim (fun z=>I.pin p (List.mem_append_right _ z)) fun z=>by
  obtain ⟨hb,e⟩:=of_pinsAt z
  obtain ⟨f0,f1,f2,_⟩:=hf p.1 hb
  obtain ⟨o,e',d⟩:=ho p.1 hb
  rw [e] at e'; cases e'
  exact ⟨e,f0,f1,f2,d⟩
theorem Inv.unpinned {pins pl:List (Addr × Obj)} {σ:St} {H:Hp} {s:Shared} (I:Inv X (pins ++ pl) σ H s):Inv X pins σ H s:=I.pins_of fun p hp=>I.pin p (List.mem_append_right _ (List.mem_append_left _ hp))
theorem ps_for {iter:Expr} {body:List Stmt} {wi:TI} {g:TG} {tb:TS} {pos:Pos} (hp:PassesOwn (model X.prog X.w) X.A X.env X.xe) (hc:X.calm = true) (hi:PI X tg iter wi) (hg:PG X tg g) (hb:PSs X body tb)
  (hs:∀ x,foldedSetIterable iter X.env x = pure x:=by intro _; rfl):PS X (.For tg iter body [] pos) (tFor wi g tb):=by
 intro pins s σ H D I h
 refine wpAny_For (thn (hi pins s σ H _ I h) fun v s1 h1=>thn h1 fun itv s2 h2=>?_) hs
 obtain ⟨it,fp,tn,J,H2,e,I2,T,st2,f2,W,⟨m0,w0⟩,turn⟩:=h2
 subst e
 -- what stays true of the iterator's objects through the loop
 have stat:∀ {H':Hp},(∀ b ∈ fp,H' b = none)→∀ b ∈ fp,FpOk X pins H' b:=fun hn b hb=>⟨hn b hb,(f2 b hb).2⟩
 refine codeAny_forLoop_any (fun n s'=>∃ i σ' H',Inv X pins σ' H' s'∧tn i s'.heap∧(∀ b ∈ fp,H' b = none)∧W i n σ' H') ?_ m0 ⟨0,σ,H2,I2,st2,fun b hb=>(f2 b hb).1,w0⟩
 rintro n s3 ⟨i,σ3,H3,I3,st3,fr3,w3⟩
 rcases turn i n σ3 H3 w3 with ⟨stop,qn⟩ | ⟨go,N,hN,step⟩
 ·refine wpAny_passesOwn hp (thn (T.done X rfl rfl rfl hc i pins s3 σ3 H3 X.xe I3 (stat fr3) st3 stop) fun r s4 ⟨hr,I4⟩=>?_)
  subst hr
  exact wpAny_execs_nil ⟨σ3,H3,I4,qn⟩
 ·refine wpAny_passesOwn hp (thn (T.item X rfl rfl rfl hc i pins s3 σ3 H3 X.xe I3 (stat fr3) st3 go) fun r s4 ⟨u,hr,h4⟩=>?_)
  subst hr
  refine wpAny_passesOwn hp (thn h4 fun _ s5 ⟨x,H5,I5,r5,y5,st5,fr5⟩=>?_)
  have I5':=I5.pinned (stat fr5) (T.obj _ _ st5)
  refine wpAny_passesOwn hp (thn (hg _ s5 σ3 H5 x u _ I5' r5 (step x H5 y5)) fun _ s6 ⟨σ6,H6,I6,q6⟩=>?_)
  refine wpAny_passesOwn hp (thn (hb _ s6 σ6 H6 _ I6 q6) fun f s7 q7=>?_)
  have again:∀ {σ7:St} {H7:Hp},Inv X (pins ++ pinsAt fp s5.heap) σ7 H7 s7→N σ7 H7→∃ m,m < n∧∃ i σ' H',Inv X pins σ' H' s7∧tn i s7.heap∧(∀ b ∈ fp,H' b = none)∧W i m σ' H':=fun {σ7 H7} I7 n7=>by
   obtain ⟨m',hm,w7⟩:=hN σ7 H7 n7
   refine ⟨m',hm,i + 1,σ7,H7,I7.unpinned,T.keep _ _ _ st5 fun b hb o e=>(I7.pin (b,o) (List.mem_append_right _ (List.mem_append_right _ (mem_pinsAt hb e)))).1,fun b hb=>?_,w7⟩
   obtain ⟨o,e,d⟩:=T.obj _ _ st5 b hb
   exact (I7.pin (b,o) (List.mem_append_right _ (List.mem_append_right _ (mem_pinsAt hb e)))).2.1
  cases f with
  | next=>obtain ⟨σ7,H7,I7,n7⟩:=q7; exact again I7 n7
  | cont=>obtain ⟨σ7,H7,I7,n7⟩:=q7; exact again I7 n7
  | brk=>obtain ⟨σ7,H7,I7,q7⟩:=q7; exact ⟨σ7,H7,I7.unpinned,q7⟩
  | ret v=>obtain ⟨x7,σ7,H7,I7,r7,q7⟩:=q7; exact ⟨x7,σ7,H7,I7.unpinned,r7,q7⟩
end
theorem while_by {c:TT} {tb:TS} {D:Ends} {σ:St} {H:Hp} (Pv:St→Hp→Prop) (μ:St→Hp→Nat) (h0:Pv σ H)
  (hs:∀ σ H,Pv σ H→c σ H fun b H1=>if b = true then tb { D with nx:=fun σ' H'=>Pv σ' H'∧μ σ' H' < μ σ H,ct:=fun σ' H'=>Pv σ' H'∧μ σ' H' < μ σ H,bk:=D.nx } σ H1 else D.nx σ H1)
  (mono:∀ σ H Q Q',(∀ b H1,Q b H1→Q' b H1)→c σ H Q→c σ H Q'):tWhile c tb D σ H:=by
 refine ⟨fun m σ H=>m = μ σ H∧Pv σ H,⟨_,rfl,h0⟩,?_⟩
 rintro m σ H ⟨rfl,p⟩
 refine mono σ H _ _ (fun b H1 q=>?_) (hs σ H p)
 cases b with
 | true=>exact ⟨_,fun σ' H' ⟨p',l⟩=>⟨_,l,rfl,p'⟩,q⟩
 | false=>exact q
end L2
namespace L2
open PySem PySem.Spec PyProof.Rows
abbrev R2:=V→V→Hp→VK→Prop
def OpR (X:Cx) (f:Value→Value→Sem Value) (r:R2):Prop :=
 ∀ (pins:List (Addr × Obj)) (s:Shared) (σ:St) (H:Hp) (x y:V) (v u:Value) (Q:VK),Inv X pins σ H s→RelV x v→RelV y u→r x y H Q →
  wpAny (model X.prog X.w) X.A (f v u) (EP X pins σ Q) X.xe s
def UnR (X:Cx) (f:Value→Sem Value) (r:V→Hp→VK→Prop):Prop :=
 ∀ (pins:List (Addr × Obj)) (s:Shared) (σ:St) (H:Hp) (x:V) (v:Value) (Q:VK),Inv X pins σ H s→RelV x v→r x H Q →
  wpAny (model X.prog X.w) X.A (f v) (EP X pins σ Q) X.xe s
def CallR (X:Cx) (f:Value) (r:List V→Hp→VK→Prop):Prop :=
 ∀ (pins:List (Addr × Obj)) (s:Shared) (σ:St) (H:Hp) (xs:List V) (us:List Value) (Q:VK),Inv X pins σ H s→Vals xs us→r xs H Q →
  wpAny (model X.prog X.w) X.A (call f us) (EP X pins σ Q) X.xe s
def TruR (X:Cx) (r:V→Hp→(Bool→Hp→Prop)→Prop):Prop :=
 ∀ (pins:List (Addr × Obj)) (s:Shared) (σ:St) (H:Hp) (x:V) (v:Value) (Q:Bool→Hp→Prop),Inv X pins σ H s→RelV x v→r x H Q →
  wpAny (model X.prog X.w) X.A (truthy v) (TP X pins σ Q) X.xe s
def tOp (r:R2) (ta tb:TE):TE:=fun σ H Q=>ta σ H fun x H1=>tb σ H1 fun y H2=>r x y H2 Q
def tUn (r:V→Hp→VK→Prop) (ta:TE):TE:=fun σ H Q=>ta σ H fun x H1=>r x H1 Q
def rI (C:Int→Int→Prop) (g:Int→Int→V):R2:=fun x y H Q=>∃ i j,x = .int i∧y = .int j∧C i j∧Q (g i j) H
def rI0 (g:Int→Int→V):R2:=fun x y H Q=>∃ i j,x = .int i∧y = .int j∧Q (g i j) H
def rU (g:Int→V):V→Hp→VK→Prop:=fun x H Q=>∃ i,x = .int i∧Q (g i) H
section
variable {X:Cx} {a b c:Expr} {ta tb tc:TE} {pos:Pos}
theorem binT (ha:PE X a ta) (hb:PE X b tb) {pins:List (Addr × Obj)} {s:Shared} {σ:St} {H:Hp} {R:V→V→Hp→Prop} (I:Inv X pins σ H s)
  (h:ta σ H fun x H1=>tb σ H1 fun y H2=>R x y H2) {Q:Value→Shared→Prop} {f:Value→Value→Sem Value}
  (hf:∀ v u s2 x y H2,Inv X pins σ H2 s2→RelV x v→RelV y u→R x y H2→wpAny (model X.prog X.w) X.A (f v u) Q X.xe s2) :
  wpAny (model X.prog X.w) X.A (eval a X.env) (fun v s₁=>wpAny (model X.prog X.w) X.A (eval b X.env) (fun u s₂=>wpAny (model X.prog X.w) X.A (f v u) Q X.xe s₂) X.xe s₁) X.xe s:=by
 refine thn (ha pins s σ H _ I h) fun v s1 ⟨x,H1,I1,r1,q1⟩=>?_
 refine thn (hb pins s1 σ H1 _ I1 q1) fun u s2 ⟨y,H2,I2,r2,q2⟩=>?_
 exact hf v u s2 x y H2 I2 r1 r2 q2
theorem pe_op {op:Operator} {r:R2} (ho:OpR X (binaryOp op) r) (ha:PE X a ta) (hb:PE X b tb):PE X (.BinOp a op b pos) (tOp r ta tb):=by
 intro pins s σ H Q I h
 exact wpAny_BinOp (binT ha hb I h fun v u s2 x y H2 I2 rx ry q=>ho pins s2 σ H2 x y v u Q I2 rx ry q)
theorem pe_un {op:UnaryOp} {r:V→Hp→VK→Prop} (ho:UnR X (unaryOp op) r) (ha:PE X a ta):PE X (.UnaryOp op a pos) (tUn r ta):=by
 intro pins s σ H Q I h
 exact UnaryOp_ (thn (ha pins s σ H _ I h) fun v s1 ⟨x,H1,I1,r1,q1⟩=>ho pins s1 σ H1 x v Q I1 r1 q1)
theorem opI {f:Value→Value→Sem Value} {C:Int→Int→Prop} {g:Int→Int→Int}
  (rule:∀ (i j:Int) (t u:Tok) (s:Shared) (Q:Value→Shared→Prop) (E:Value→Shared→Prop),C i j→Q (.int (g i j) s.toks) { s with toks:=s.toks + 1 }→wpAny (model X.prog X.w) X.A (f (.int i t) (.int j u)) Q E s) :
  OpR X f (rI C fun i j=>.int (g i j)):=by
 intro pins s σ H x y v u Q I rx ry h
 obtain ⟨i,j,rfl,rfl,hc,q⟩:=h
 obtain ⟨t,rfl⟩:=rx
 obtain ⟨t',rfl⟩:=ry
 exact rule i j t t' s _ _ hc ⟨.int (g i j),H,I.tok _,⟨_,rfl⟩,q⟩
theorem opI0 {f:Value→Value→Sem Value} {g:Int→Int→Int}
  (rule:∀ (i j:Int) (t u:Tok) (s:Shared) (Q:Value→Shared→Prop) (E:Value→Shared→Prop),Q (.int (g i j) s.toks) { s with toks:=s.toks + 1 }→wpAny (model X.prog X.w) X.A (f (.int i t) (.int j u)) Q E s) :
  OpR X f (rI0 fun i j=>.int (g i j)):=by
 intro pins s σ H x y v u Q I rx ry h
 obtain ⟨i,j,rfl,rfl,q⟩:=h
 obtain ⟨t,rfl⟩:=rx
 obtain ⟨t',rfl⟩:=ry
 exact rule i j t t' s _ _ ⟨.int (g i j),H,I.tok _,⟨_,rfl⟩,q⟩
theorem opB0 {f:Value→Value→Sem Value} {g:Int→Int→Bool}
  (rule:∀ (i j:Int) (t u:Tok) (s:Shared) (Q:Value→Shared→Prop) (E:Value→Shared→Prop),Q (.bool (g i j)) s→wpAny (model X.prog X.w) X.A (f (.int i t) (.int j u)) Q E s) :
  OpR X f (rI0 fun i j=>.bl (g i j)):=by
 intro pins s σ H x y v u Q I rx ry h
 obtain ⟨i,j,rfl,rfl,q⟩:=h
 obtain ⟨t,rfl⟩:=rx
 obtain ⟨t',rfl⟩:=ry
 exact rule i j t t' s _ _ ⟨.bl (g i j),H,I,rfl,q⟩
def CPow (i j:Int):Prop:=0 ≤ j∧j ≤ 1000000∧i.natAbs < 2 ^ 64
def CMul (i j:Int):Prop:=(-(2 ^ 64) < i∧i < 2 ^ 64)∨(-(2 ^ 64) < j∧j < 2 ^ 64)
theorem CMul.ok {i j:Int} (h:CMul i j):IntMulOk i j:=by
 rcases h with ⟨h1,h2⟩ | ⟨h1,h2⟩
 ·exact .of_left (intBits_le_64 h1 h2)
 ·exact .of_right (intBits_le_64 h1 h2)
theorem op_add:OpR X (binaryOp .Add) (rI0 fun i j=>.int (i + j)):=opI0 fun _ _ _ _ _ _ _ q=>add_int q
theorem op_sub:OpR X (binaryOp .Sub) (rI0 fun i j=>.int (i - j)):=opI0 fun _ _ _ _ _ _ _ q=>sub_int q
theorem op_mul:OpR X (binaryOp .Mult) (rI CMul fun i j=>.int (i * j)):=opI fun _ _ _ _ _ _ _ hc q=>mul_int q hc.ok
theorem op_mod:OpR X (binaryOp .Mod) (rI (fun _ j=>0 < j) fun i j=>.int (i % j)):=opI fun i j _ _ _ _ _ hc q=>by
 have h1:(0:Int) < j:=hc
 exact mod_int' (by omega) (by rw [Int.fmod_eq_emod_of_nonneg i (by omega)]; exact q)
theorem op_modN:OpR X (binaryOp .Mod) (rI (fun _ j=>j ≠ 0) fun i j=>.int (i.fmod j)):=opI fun _ _ _ _ _ _ _ hc q=>mod_int' hc q
theorem op_pow:OpR X (binaryOp .Pow) (rI CPow fun i j=>.int (i ^ j.toNat)):=opI fun _ _ _ _ _ _ _ hc q=>pow_int_small hc.1 hc.2.1 hc.2.2 q
theorem unI {f:Value→Sem Value} {g:Int→Int}
  (rule:∀ (i:Int) (t:Tok) (s:Shared) (Q:Value→Shared→Prop) (E:Value→Shared→Prop),Q (.int (g i) s.toks) { s with toks:=s.toks + 1 }→wpAny (model X.prog X.w) X.A (f (.int i t)) Q E s) :
  UnR X f (rU fun i=>.int (g i)):=by
 intro pins s σ H x v Q I rx h
 obtain ⟨i,rfl,q⟩:=h
 obtain ⟨t,rfl⟩:=rx
 exact rule i t s _ _ ⟨.int (g i),H,I.tok _,⟨_,rfl⟩,q⟩
theorem un_neg:UnR X (unaryOp .USub) (rU fun i=>.int (-i)):=unI fun _ _ _ _ _ q=>neg_int q
end
def scal:V→V→Bool
 | .non,.non=>true | .non,.int _=>true | .int _,.non=>true | .non,.bl _=>true | .bl _,.non=>true | .non,.str _=>true | .str _,.non=>true
 | .int _,.int _=>true | .bl _,.bl _=>true | .str _,.str _=>true | .byt _,.byt _=>true
 | .int _,.str _=>true | .str _,.int _=>true | .bl _,.str _=>true | .str _,.bl _=>true
 | _,_=>false
def rEq:R2:=fun x y H Q=>scal x y = true∧Q (.bl (decide (x = y))) H
def rNe:R2:=fun x y H Q=>scal x y = true∧Q (.bl (!decide (x = y))) H
theorem dec_int {i j:Int} : decide (V.int i = V.int j) = (i == j):=by
 rw [Bool.eq_iff_iff]
 simp
theorem dec_bl {i j:Bool} : decide (V.bl i = V.bl j) = (i == j):=by
 rw [Bool.eq_iff_iff]
 simp
theorem dec_str {i j:Str} : decide (V.str i = V.str j) = (i == j):=by
 rw [Bool.eq_iff_iff]
 simp
theorem dec_byt {i j:Array UInt8} : decide (V.byt i = V.byt j) = (i.toList == j.toList):=by
 rw [Bool.eq_iff_iff]
 cases i
 cases j
 simp
section
variable {X:Cx} {a b c:Expr} {ta tb tc:TE} {pos:Pos}
theorem fin_bl {pins:List (Addr × Obj)} {σ:St} {H:Hp} {s:Shared} {Q:VK} {k k':Bool} (I:Inv X pins σ H s) (q:Q (.bl k) H) (e:k = k'):EP X pins σ Q (.bool k') s:=by
 subst e
 exact ⟨.bl k,H,I,rfl,q⟩
theorem op_eq:OpR X (compareOp .Eq) rEq:=by
 intro pins s σ H x y v u Q I rx ry h
 obtain ⟨hs,q⟩:=h
 cases x with
 | non =>
  cases rx
  cases y with
  | non=>cases ry; exact PySem.EqNone.eq_none_none (fin_bl I q (by simp))
  | bl j=>cases ry; exact PySem.EqNone.eq_none_bool (fin_bl I q (by simp))
  | int j=>obtain ⟨t',rfl⟩:=ry; exact PySem.EqNone.eq_none_int (fin_bl I q (by simp))
  | str j=>obtain ⟨t',rfl⟩:=ry; exact PySem.EqNone.eq_none_str (fin_bl I q (by simp))
  | _=>exact absurd (show false = true from hs) Bool.false_ne_true
 | bl i =>
  cases rx
  cases y with
  | non=>cases ry; exact PySem.EqNone.eq_bool_none (fin_bl I q (by simp))
  | bl j=>cases ry; exact eq_bool (fin_bl I q dec_bl)
  | str j=>obtain ⟨t',rfl⟩:=ry; exact PySem.EqMixed.eq_bool_str (fin_bl I q (by simp))
  | _=>exact absurd (show false = true from hs) Bool.false_ne_true
 | int i =>
  obtain ⟨t,rfl⟩:=rx
  cases y with
  | non=>cases ry; exact PySem.EqNone.eq_int_none (fin_bl I q (by simp))
  | int j=>obtain ⟨t',rfl⟩:=ry; exact eq_int (fin_bl I q dec_int)
  | str j=>obtain ⟨t',rfl⟩:=ry; exact PySem.EqMixed.eq_int_str (fin_bl I q (by simp))
  | _=>exact absurd (show false = true from hs) Bool.false_ne_true
 | str i =>
  obtain ⟨t,rfl⟩:=rx
  cases y with
  | non=>cases ry; exact PySem.EqNone.eq_str_none (fin_bl I q (by simp))
  | bl j=>cases ry; exact PySem.EqMixed.eq_str_bool (fin_bl I q (by simp))
  | int j=>obtain ⟨t',rfl⟩:=ry; exact PySem.EqMixed.eq_str_int (fin_bl I q (by simp))
  | str j=>obtain ⟨t',rfl⟩:=ry; exact eq_str (fin_bl I q dec_str)
  | _=>exact absurd (show false = true from hs) Bool.false_ne_true
 | byt i =>
  obtain ⟨t,rfl⟩:=rx
  cases y with
  | byt j=>obtain ⟨t',rfl⟩:=ry; exact PySem.W.eq_bytes (fin_bl I q dec_byt)
  | _=>exact absurd (show false = true from hs) Bool.false_ne_true
 | _=>cases y <;> exact absurd (show false = true from hs) Bool.false_ne_true
theorem op_ne:OpR X (compareOp .NotEq) rNe:=by
 intro pins s σ H x y v u Q I rx ry h
 obtain ⟨hs,q⟩:=h
 cases x with
 | non =>
  cases rx
  cases y with
  | non=>cases ry; exact PySem.EqNone.ne_none_none (fin_bl I q (by simp))
  | bl j=>cases ry; exact PySem.EqNone.ne_none_bool (fin_bl I q (by simp))
  | int j=>obtain ⟨t',rfl⟩:=ry; exact PySem.EqNone.ne_none_int (fin_bl I q (by simp))
  | str j=>obtain ⟨t',rfl⟩:=ry; exact PySem.EqNone.ne_none_str (fin_bl I q (by simp))
  | _=>exact absurd (show false = true from hs) Bool.false_ne_true
 | bl i =>
  cases rx
  cases y with
  | non=>cases ry; exact PySem.EqNone.ne_bool_none (fin_bl I q (by simp))
  | bl j=>cases ry; exact ne_bool (fin_bl I q (congrArg not dec_bl))
  | str j=>obtain ⟨t',rfl⟩:=ry; exact PySem.EqMixed.ne_bool_str (fin_bl I q (by simp))
  | _=>exact absurd (show false = true from hs) Bool.false_ne_true
 | int i =>
  obtain ⟨t,rfl⟩:=rx
  cases y with
  | non=>cases ry; exact PySem.EqNone.ne_int_none (fin_bl I q (by simp))
  | int j=>obtain ⟨t',rfl⟩:=ry; exact ne_int (fin_bl I q (congrArg not dec_int))
  | str j=>obtain ⟨t',rfl⟩:=ry; exact PySem.EqMixed.ne_int_str (fin_bl I q (by simp))
  | _=>exact absurd (show false = true from hs) Bool.false_ne_true
 | str i =>
  obtain ⟨t,rfl⟩:=rx
  cases y with
  | non=>cases ry; exact PySem.EqNone.ne_str_none (fin_bl I q (by simp))
  | bl j=>cases ry; exact PySem.EqMixed.ne_str_bool (fin_bl I q (by simp))
  | int j=>obtain ⟨t',rfl⟩:=ry; exact PySem.EqMixed.ne_str_int (fin_bl I q (by simp))
  | str j=>obtain ⟨t',rfl⟩:=ry; exact ne_str (fin_bl I q (congrArg not dec_str))
  | _=>exact absurd (show false = true from hs) Bool.false_ne_true
 | byt i =>
  obtain ⟨t,rfl⟩:=rx
  cases y with
  | byt j=>obtain ⟨t',rfl⟩:=ry; exact PySem.W.ne_bytes (fin_bl I q (congrArg not dec_byt))
  | _=>exact absurd (show false = true from hs) Bool.false_ne_true
 | _=>cases y <;> exact absurd (show false = true from hs) Bool.false_ne_true
theorem op_lt:OpR X (compareOp .Lt) (rI0 fun i j=>.bl (decide (i < j))):=opB0 fun _ _ _ _ _ _ _ q=>lt_int q
theorem op_le:OpR X (compareOp .LtE) (rI0 fun i j=>.bl (decide (i ≤ j))):=opB0 fun _ _ _ _ _ _ _ q=>le_int q
theorem op_gt:OpR X (compareOp .Gt) (rI0 fun i j=>.bl (decide (j < i))):=opB0 fun _ _ _ _ _ _ _ q=>gt_int q
theorem op_ge:OpR X (compareOp .GtE) (rI0 fun i j=>.bl (decide (j ≤ i))):=opB0 fun _ _ _ _ _ _ _ q=>ge_int q
theorem nomark (b:Expr) {op:CmpOp} (h:op ≠ .In:=by decide) (h2:op ≠ .NotIn:=by decide):behindInMarks op b = false:=by
 have e1:(op == CmpOp.In) = false:=by cases op <;> first | rfl | exact absurd rfl h
 have e2:(op == CmpOp.NotIn) = false:=by cases op <;> first | rfl | exact absurd rfl h2
 cases b <;> simp [behindInMarks,e1,e2]
theorem pe_cmpR {op:CmpOp} {r:R2} (ho:OpR X (compareOp op) r) (ha:PE X a ta) (hb:PE X b tb) (hm:behindInMarks op b = false):PE X (.Compare a [op] [b] pos) (tOp r ta tb):=by
 intro pins s σ H Q I h
 exact wpAny_Compare1 (binT ha hb I h fun v u s2 x y H2 I2 rx ry q=>ho pins s2 σ H2 x y v u Q I2 rx ry q) hm
def tTest (t:TE):TT:=fun σ H Q=>t σ H fun x H'=>∃ k,x = .bl k∧Q k H'
theorem pt_cmpR {op:CmpOp} {r:R2} (ho:OpR X (compareOp op) r) (ha:PE X a ta) (hb:PE X b tb) (hm:behindInMarks op b = false):PT X (.Compare a [op] [b] pos) (tTest (tOp r ta tb)):=by
 intro pins s σ H Q I h
 refine wpAny_isTrue_Compare1 (thn (ha pins s σ H _ I h) fun v s1 ⟨x,H1,I1,r1,q1⟩=>thn (hb pins s1 σ H1 _ I1 q1) fun u s2 ⟨y,H2,I2,r2,q2⟩ =>
  thn (ho pins s2 σ H2 x y v u _ I2 r1 r2 q2) fun c s3 ⟨z,H3,I3,r3,k,e,q3⟩=>?_) hm
 subst e
 cases r3
 exact wpAny_truthy_bool ⟨H3,I3,q3⟩
def tChain (r r':R2) (ta tb tc:TE):TE:=fun σ H Q=>ta σ H fun x H1=>tb σ H1 fun y H2=>r x y H2 fun z H3=>∃ k,z = .bl k ∧
 (if k = true then tc σ H3 fun w' H4=>r' y w' H4 Q else Q (.bl false) H3)
theorem pe_chain {op op':CmpOp} {r r':R2} (ho:OpR X (compareOp op) r) (ho':OpR X (compareOp op') r') (ha:PE X a ta) (hb:PE X b tb) (hc:PE X c tc)
  (hm:lastMarks [op,op'] [b,c] = false:=by with_unfolding_all rfl):PE X (.Compare a [op,op'] [b,c] pos) (tChain r r' ta tb tc):=by
 intro pins s σ H Q I h
 refine Compare_chain (thn (ha pins s σ H _ I h) fun v s1 ⟨x,H1,I1,r1,q1⟩=>chain_link (thn (hb pins s1 σ H1 _ I1 q1) fun u s2 ⟨y,H2,I2,r2,q2⟩ =>
  thn (ho pins s2 σ H2 x y v u _ I2 r1 r2 q2) fun d s3 ⟨z,H3,I3,r3,k,e,q3⟩=>?_)) hm
 subst e
 cases r3
 refine wpAny_truthy_bool ?_
 cases k with
 | false=>exact ite_ff ⟨.bl false,H3,I3,rfl,q3⟩
 | true=>exact ite_tt (chain_last (thn (hc pins s3 σ H3 _ I3 q3) fun w' s4 ⟨z',H4,I4,r4,q4⟩=>ho' pins s4 σ H4 y z' u w' Q I4 r2 r4 q4))
theorem pt_chain {op op':CmpOp} {r r':R2} (ho:OpR X (compareOp op) r) (ho':OpR X (compareOp op') r') (ha:PE X a ta) (hb:PE X b tb) (hc:PE X c tc)
  (hm:lastMarks [op,op'] [b,c] = false:=by with_unfolding_all rfl):PT X (.Compare a [op,op'] [b,c] pos) (tTest (tChain r r' ta tb tc)):=by
 intro pins s σ H Q I h
 refine isTrue_chain (thn (ha pins s σ H _ I h) fun v s1 ⟨x,H1,I1,r1,q1⟩=>test_link (thn (hb pins s1 σ H1 _ I1 q1) fun u s2 ⟨y,H2,I2,r2,q2⟩ =>
  thn (ho pins s2 σ H2 x y v u _ I2 r1 r2 q2) fun d s3 ⟨z,H3,I3,r3,k,e,q3⟩=>?_)) hm
 subst e
 cases r3
 refine wpAny_truthy_bool ?_
 cases k with
 | false =>
  obtain ⟨k',e',q'⟩:=q3
  cases e'
  exact ite_ff ⟨H3,I3,q'⟩
 | true =>
  refine ite_tt (test_last (thn (hc pins s3 σ H3 _ I3 q3) fun w' s4 ⟨z',H4,I4,r4,q4⟩=>thn (ho' pins s4 σ H4 y z' u w' _ I4 r2 r4 q4) fun d' s5 ⟨z2,H5,I5,r5,k2,e2,q5⟩=>?_))
  subst e2
  cases r5
  exact wpAny_truthy_bool ⟨H5,I5,q5⟩
def TruV (K:PySem.W.Frag) (x:V) (H:Hp) (k:Bool):Prop :=
 match x with
 | .non=>k = false
 | .bl b=>k = b
 | .int i=>k = (i != 0)
 | .str y=>y.length ≤ sizeLine∧k = ((y.length:Int) != 0)
 | .byt y=>y.size ≤ sizeLine∧k = ((y.size:Int) != 0)
 | .ref p=>(∃ xs,SqL K H p xs∧k = !xs.isEmpty)∨(∃ xs,SqT K H p xs∧k = !xs.isEmpty)∨∃ kvs,H p = some (.dK kvs)∧k = !kvs.isEmpty
 | _=>False
theorem isEmpty_kv {κ:Type} {kvs:List (κ × V)} {vs:List (κ × Value)} (r:KV kvs vs):(!vs.isEmpty) = !kvs.isEmpty:=by
 cases r <;> rfl
theorem isEmpty_of {xs:List V} {its:List Value} (r:Vals xs its):(!its.toArray.isEmpty) = !xs.isEmpty:=by
 cases r <;> simp
theorem line63:(sizeLine:Nat) < 2 ^ 63:=by rw [sizeLine_eq]; decide
theorem tru_ok:TruR X (fun x H Q=>∃ k,TruV X.K x H k∧Q k H):=by
 intro pins s σ H x v Q I rx h
 obtain ⟨k,e,q⟩:=h
 have hl:=line63
 have hs:sizeLine = 16777216:=sizeLine_eq
 cases x with
 | non =>
  cases rx
  have e':k = false:=e
  subst e'
  exact truthy_none ⟨H,I,q⟩
 | bl b =>
  cases rx
  have e':k = b:=e
  subst e'
  exact wpAny_truthy_bool ⟨H,I,q⟩
 | int i =>
  obtain ⟨t,rfl⟩:=rx
  have e':k = (i != 0):=e
  subst e'
  exact PySem.P.truthy_int ⟨H,I,q⟩
 | str y =>
  obtain ⟨t,rfl⟩:=rx
  obtain ⟨hy,e'⟩ : y.length ≤ sizeLine∧k = ((y.length:Int) != 0):=e
  subst e'
  exact PySem.P.truthy_str (by omega) ⟨H,I.tok _,q⟩
 | byt y =>
  obtain ⟨t,rfl⟩:=rx
  obtain ⟨hy,e'⟩ : y.size ≤ sizeLine∧k = ((y.size:Int) != 0):=e
  subst e'
  exact PySem.W.truthy_bytes (by omega) ⟨H,I.tok _,q⟩
 | ref p =>
  cases rx
  have e':(∃ xs,SqL X.K H p xs∧k = !xs.isEmpty)∨(∃ xs,SqT X.K H p xs∧k = !xs.isEmpty)∨∃ kvs,H p = some (.dK kvs)∧k = !kvs.isEmpty:=e
  rcases e' with ⟨xs,hx,e'⟩ | ⟨xs,hx,e'⟩ | ⟨kvs,hx,e'⟩
  ·subst e'
   obtain ⟨its,r,pl,hz⟩:=I.list hx
   have hlen:=r.length
   exact wpAny_truthy_list pl.isList (by simp only [List.size_toArray]; omega) ⟨H,I.tok _,by rw [isEmpty_of r]; exact q⟩
  ·subst e'
   obtain ⟨its,r,pl,hz⟩:=I.tuple hx
   have hlen:=r.length
   exact truthy_tuple pl (by simp only [List.size_toArray]; omega) ⟨H,I.tok _,by rw [isEmpty_of r]; exact q⟩
  ·subst e'
   obtain ⟨hz,hS,vs,r,m⟩ : kvs.length ≤ sizeLine∧(p == sysModules) = false∧∃ vs,KV kvs vs∧s.heap.DictOf (mixKind X.prog X.w) p vs:=I.hok p _ hx
   have hlen:kvs.length = vs.length:=Paired.length r
   exact wpAny_truthy_dict hS m (by omega) ⟨H,I.tok _,by rw [isEmpty_kv r]; exact q⟩
 | _=>exact (show False from e).elim
theorem op_add_str:OpR X (binaryOp .Add) (fun x y H Q=>∃ i j,x = .str i∧y = .str j∧i.length + j.length ≤ sizeLine∧Q (.str (i ++ j)) H):=by
 intro pins s σ H x y v u Q I rx ry h
 obtain ⟨i,j,rfl,rfl,hz,q⟩:=h
 obtain ⟨t,rfl⟩:=rx
 obtain ⟨t',rfl⟩:=ry
 exact add_str (fun t' tk=>⟨.str (i ++ j),H,I.tok _,⟨_,rfl⟩,q⟩) hz
theorem vals1 {x:V} {us:List Value} (r:Vals [x] us):∃ u,us = [u]∧RelV x u:=by
 cases r with
 | cons r1 r2=>cases r2; exact ⟨_,rfl,r1⟩
theorem call_abs:CallR X (.builtin "abs") (fun xs H Q=>∃ i,xs = [.int i]∧Q (.int (if i < 0 then -i else i)) H):=by
 intro pins s σ H xs us Q I r h
 obtain ⟨i,rfl,q⟩:=h
 obtain ⟨u,rfl,t,rfl⟩:=vals1 r
 exact call_abs_int fun u tk=>⟨.int (if i < 0 then -i else i),H,I.tok _,⟨_,rfl⟩,q⟩
theorem call_int1:CallR X (.type "int") (fun xs H Q=>(∃ i,xs = [.int i]∧Q (.int i) H)∨∃ k,xs = [.bl k]∧Q (.int (if k then 1 else 0)) H):=by
 intro pins s σ H xs us Q I r h
 rcases h with ⟨i,rfl,q⟩ | ⟨k,rfl,q⟩
 ·obtain ⟨u,rfl,t,rfl⟩:=vals1 r
  exact call_int_int ⟨.int i,H,I,⟨_,rfl⟩,q⟩
 ·obtain ⟨u,rfl,r1⟩:=vals1 r
  cases r1
  exact call_int_bool ⟨.int (if k then 1 else 0),H,I.tok _,⟨_,rfl⟩,q⟩
end
end L2
namespace L2
open PySem PySem.Spec PyProof.Rows
structure ObjM (h:Heap) (x dx C:Addr) (mA:Str→Option Value):Prop where
 obj:h.get? x = some (PySem.W.instObj C dx)
 ns:h.Ns1 dx mA
 ne:dx ≠ x
theorem lookIn_ns {h:Heap} {dx:Addr} {mA:Str→Option Value} (n:h.Ns1 dx mA):∃ od,h.get? dx = some od∧∀ name,PySem.W.lookIn name od = some (mA name):=by
 obtain ⟨o,es,ep,ho,hd,hk,_,hm⟩:=n
 refine ⟨o,ho,fun name=>?_⟩
 have e:=hm name
 unfold nsFind findBy at e
 rw [← Array.find?_toList] at e
 unfold PySem.W.lookIn
 rw [hd]
 dsimp only
 split
 ·rename_i y q
  rw [q] at e
  exact congrArg some e
 ·rename_i q
  rw [q] at e
  have a:es.toList.any (·.refKey) = false:=by
   rw [List.any_eq_false]
   intro y hy
   obtain ⟨z,t,hkey⟩:=hk y (Array.mem_toList_iff.mp hy)
   simp [DictEntry.refKey,hkey]
  have a':¬ es.toList.any (·.refKey) = true:=by rw [a]; exact Bool.false_ne_true
  rw [if_neg a']
  exact congrArg some e
theorem ObjM.look {h:Heap} {x dx C:Addr} {mA:Str→Option Value} (I:ObjM h x dx C mA):∃ od,PySem.W.InstAt h x (PySem.W.instObj C dx) C (some od)∧∀ name,PySem.W.lookIn name od = some (mA name) :=
 let ⟨od,ho,hl⟩:=lookIn_ns I.ns
 ⟨od,⟨I.obj,rfl,rfl,ho⟩,hl⟩
section
variable {prog:Program} {w:World} {A:Around} {E:Value→Shared→Prop} {s:Shared} {K:PySem.W.Frag} {x dx C f:Addr} {mA:Str→Option Value} {name:Str} {v:Value}
theorem get_map {expr:Bool} {Q:Value→Shared→Prop} (X:K.In s.heap) (I:ObjM s.heap x dx C mA) (hg:PySem.W.plainGet K C name = true) (hh:PySem.W.hasDictIn K C = true)
  (ha:PySem.W.findIn K (.ref C) name = some none) (hv:mA name = some v) (hv':PySem.W.handedIn v = true) (h:Q v { s with toks:=s.toks + 1 }) :
  wpAny (model prog w) A (getAttr (.ref x) name expr) Q E s:=by
 obtain ⟨od,J,hl⟩:=I.look
 exact PySem.W.get_value X J (PySem.W.plainGet_of hg).1 (PySem.W.findObj_own hh ha rfl (by rw [hl,hv])) hv' h
theorem get_meth {pl:Sem Bool} {Q:Value × List Value→Shared→Prop} (X:K.In s.heap) (I:ObjM s.heap x dx C mA) (hg:PySem.W.plainGet K C name = true)
  (hf:PySem.W.findIn K (.ref C) name = some (some (.ref f))) (ht:PySem.W.isFn K (.ref f) = true) (hv:mA name = none) (h:Q (.ref f,[.ref x]) s) :
  wpAny (model prog w) A (getMethod (.ref x) name pl) Q E s:=by
 obtain ⟨od,J,hl⟩:=I.look
 exact PySem.W.method_fn X J (PySem.W.plainGet_of hg).1 (PySem.W.plainGet_of hg).2 hf (beq_iff_eq.mp ht) (by show (PySem.W.lookIn name od).map (·.isSome) = some false; rw [hl,hv]; rfl) h
theorem set_map {ns:List Str} {Q:Unit→Shared→Prop} (X:K.In s.heap) (I:ObjM s.heap x dx C mA)
  (hs:PySem.W.findIn K (.ref C) "__setattr__" = some (some (.builtin "object.__setattr__"))) (hp:PySem.W.plainOver K C = true) (ht:PySem.W.takerIn K C name = some none) (hh:PySem.W.hasDictIn K C = true)
  (hw:PySem.Within mA ns) (hsz:ns.length ≤ sizeLine)
  (h:∀ h',ObjM h' x dx C (fun y=>if y = name then some v else mA y)→Heap.SameBut dx s.heap h'→Q () { s with heap:=h',toks:=s.toks + 2 }) :
  wpAny (model prog w) A (setAttr (.ref x) name v) Q E s:=by
 obtain ⟨od,J,hl⟩:=I.look
 refine PySem.W.set_plain X J hs (PySem.W.osa_open (s:={ s with toks:=s.toks + 1 }) (r:=none) X J hp ht fun b=>?_)
 obtain ⟨cd,hc,hd'⟩:=PySem.W.any_some hh
 have hx:s.heap.get? x = some ⟨.ref C,some dx,.plain,#[]⟩:=I.obj
 refine wpAny_bind (wpAny_pure (wpAny_bind (wpAny_bind (wpAny_loadPart hx (wpAny_bind (PySem.W.Looks.here (s:={ s with toks:=s.toks + 1 }) (PySem.W.looks_clsIn X hc) ?_))))))
 rw [hd']
 refine wpAny_pure (a:=some dx) (wpAny_bind (wpAny_pure (wpAny_bind ?_)))
 refine wpAny_nsSet1 (s:={ s with toks:=s.toks + 1 }) I.ns fun h' hn2 hs2=>?_
 obtain ⟨oD,esD,epD,hoD,hdD,hcD⟩:=hn2.count (PySem.Within.cons name v hw)
 refine wpAny_bind (wpAny_lookBehind hoD (by rw [hdD]; exact pastItsLine_dict (Nat.le_trans hcD (by rw [List.length_cons]; omega))) ?_)
 exact wpAny_pure (h _ ⟨(hs2.2 _ (Ne.symm I.ne)).trans I.obj,hn2,I.ne⟩ hs2)
theorem make_map {R:Result→Shared→Prop} {vs:List Value} {kw:List (Str × Value)} (X:K.In s.heap) (hm:PySem.W.makesIn K C = true)
  (hi:PySem.W.findIn K (.ref C) "__init__" = some (some (.ref f))) (hf:PySem.W.typeIn K (.ref f) = some (.type "function"))
  (h:codeAny (model prog w) (A.under (.builtin "type.__call__" ⟨.ref C :: vs,kw⟩)) (.call (.ref f) ⟨.ref (s.heap.objs.size + 1) :: vs,kw⟩) (PySem.W.InitBack (s.heap.objs.size + 1) R)
   { s with heap:=(s.heap.push PySem.W.emptyDict).push (PySem.W.instObj C s.heap.objs.size) }) :
  codeAny (model prog w) A (.call (.ref C) ⟨vs,kw⟩) R s:=by
 obtain ⟨hh,g,d,t,os⟩:=s
 exact PySem.W.make_core (PySem.W.makes_of X hm) (PySem.W.looks_findIn X hi) (fun self=>PySem.W.bind_fn X self hf) (.inl rfl) h
end
def putF (f:Str) (v:V):List (Str × V)→List (Str × V)
 | []=>[(f,v)]
 | (g,x) :: r=>if g = f then (g,v) :: r else (g,x) :: putF f v r
theorem lookup_putF (f g:Str) (v:V):∀ fs:List (Str × V),(putF f v fs).lookup g = if g = f then some v else fs.lookup g
 | []=>by
  show List.lookup g [(f,v)] = _
  by_cases h:g = f
  ·have hb:(g == f) = true:=beq_iff_eq.mpr h
   simp only [List.lookup,hb,if_pos h]
  ·have hb:(g == f) = false:=beq_eq_false_iff_ne.mpr h
   simp only [List.lookup,hb,if_neg h]
 | (k,x) :: r=>by
  have ih:=lookup_putF f g v r
  rw [show putF f v ((k,x) :: r) = (if k = f then (k,v) :: r else (k,x) :: putF f v r) from rfl]
  by_cases hk:k = f
  ·rw [if_pos hk]
   by_cases h:g = k
   ·have hb:(g == k) = true:=beq_iff_eq.mpr h
    simp only [List.lookup,hb,if_pos (h.trans hk)]
   ·have hb:(g == k) = false:=beq_eq_false_iff_ne.mpr h
    simp only [List.lookup,hb,if_neg (fun e:g = f=>h (e.trans hk.symm))]
  ·rw [if_neg hk]
   by_cases h:g = k
   ·have hb:(g == k) = true:=beq_iff_eq.mpr h
    simp only [List.lookup,hb,if_neg (fun e:g = f=>hk (h.symm.trans e))]
   ·have hb:(g == k) = false:=beq_eq_false_iff_ne.mpr h
    simp only [List.lookup,hb]
    exact ih
theorem keys_putF (f:Str) (v:V):∀ fs:List (Str × V),f ∈ (putF f v fs).map (·.1)∧∀ g,g ∈ fs.map (·.1)→g ∈ (putF f v fs).map (·.1)
 | []=>⟨by simp [putF],fun g h=>by simp at h⟩
 | (k,x) :: r=>by
  obtain ⟨i1,i2⟩:=keys_putF f v r
  rw [show putF f v ((k,x) :: r) = (if k = f then (k,v) :: r else (k,x) :: putF f v r) from rfl]
  by_cases hk:k = f
  ·rw [if_pos hk]
   subst hk
   exact ⟨by simp,fun g h=>by simpa using h⟩
  ·rw [if_neg hk]
   refine ⟨?_,fun g h=>?_⟩
   ·rw [List.map_cons]
    exact List.mem_cons_of_mem _ i1
   ·rw [List.map_cons] at h ⊢
    rcases List.mem_cons.mp h with e | e
    ·exact List.mem_cons.mpr (.inl e)
    ·exact List.mem_cons_of_mem _ (i2 g e)
theorem length_putF (f:Str) (v:V):∀ fs:List (Str × V),(putF f v fs).length ≤ fs.length + 1
 | []=>by simp [putF]
 | (k,x) :: r=>by
  have ih:=length_putF f v r
  rw [show putF f v ((k,x) :: r) = (if k = f then (k,v) :: r else (k,x) :: putF f v r) from rfl]
  by_cases hk:k = f
  ·rw [if_pos hk,List.length_cons,List.length_cons]; omega
  ·rw [if_neg hk,List.length_cons,List.length_cons]; omega
theorem RelO.some_of {v:V} {o:Option Value} (r:RelO (some v) o):∃ u,o = some u∧RelV v u:=by
 cases o with
 | none=>exact (show False from r).elim
 | some u=>exact ⟨u,rfl,r⟩
theorem RelO.none_of {o:Option Value} (r:RelO none o):o = none:=by
 cases o with
 | none=>rfl
 | some u=>exact (show False from r).elim
theorem handed_of {v:V} {u:Value} (r:RelV v u):PySem.W.handedIn u = true:=by
 cases v with
 | non=>cases (show u = Value.none from r); rfl
 | bl b=>cases (show u = Value.bool b from r); rfl
 | int i=>obtain ⟨t,e⟩:=(show ∃ t,u = Value.int i t from r); cases e; rfl
 | str x=>obtain ⟨t,e⟩:=(show ∃ t,u = Value.str x t from r); cases e; rfl
 | byt b=>obtain ⟨t,e⟩:=(show ∃ t,u = Value.bytes b t from r); cases e; rfl
 | flt b=>obtain ⟨t,e⟩:=(show ∃ t,u = Value.float b t from r); cases e; rfl
 | ref a=>cases (show u = Value.ref a from r); rfl
 | ty n=>cases (show u = Value.type n from r); rfl
section
variable {P:Program} {w:World} {H H':Hp} {h h':Heap} {a C dx:Addr} {fs fs':List (Str × V)}
theorem ins_get (hok:HOk P w H h) (e:H a = some (.ins C dx fs)):∃ mA,ObjM h a dx C mA∧(∀ f,RelO (fs.lookup f) (mA f))∧PySem.Within mA (fs.map (·.1))∧fs.length ≤ 1000∧H dx = some (.own a):=by
 obtain ⟨d,z,ne,ob,mA,n,r,q⟩:=(show ObjOk P w H h a (.ins C dx fs) from hok a _ e)
 exact ⟨mA,⟨ob,n,ne⟩,r,q,z,d⟩
end
structure Cls (K:PySem.W.Frag) (C:Addr):Prop where
 pg:PySem.W.plainGet K C Str.empty = true
 hd:PySem.W.hasDictIn K C = true
 po:PySem.W.plainOver K C = true
 sa:PySem.W.findIn K (.ref C) "__setattr__" = some (some (.builtin "object.__setattr__"))
theorem Cls.get {K:PySem.W.Frag} {C:Addr} (c:Cls K C) (f:Str):PySem.W.plainGet K C f = true:=c.pg
def NoAttr (K:PySem.W.Frag) (C:Addr) (f:Str):Prop:=PySem.W.findIn K (.ref C) f = some none
theorem NoAttr.taker {K:PySem.W.Frag} {C:Addr} {f:Str} (n:NoAttr K C f):PySem.W.takerIn K C f = some none:=by
 unfold PySem.W.takerIn
 rw [show PySem.W.findIn K (.ref C) f = some none from n]
 rfl
structure Meth (K:PySem.W.Frag) (C:Addr) (m:Str) (f:Addr):Prop where
 at_:PySem.W.findIn K (.ref C) m = some (some (.ref f))
 fn:PySem.W.isFn K (.ref f) = true
 kp:PySem.W.keepIn K (.ref f) = true
section
variable {X:Cx} {pins:List (Addr × Obj)} {σ:St} {H:Hp} {s:Shared} {a C dx:Addr} {fs:List (Str × V)} {f:Str} {v:V} {A:Around} {E:Value→Shared→Prop}
theorem getattr_ok {b:Bool} {Q:Value→Shared→Prop} (I:Inv X pins σ H s) (e:H a = some (.ins C dx fs)) (c:Cls X.K C) (n:NoAttr X.K C f) (l:fs.lookup f = some v)
  (h:∀ u s',Inv X pins σ H s'→RelV v u→Q u s'):wpAny (model X.prog X.w) A (getAttr (.ref a) f b) Q E s:=by
 obtain ⟨mA,O,r,_,_,_⟩:=ins_get I.hok e
 obtain ⟨u,hu,ru⟩:=RelO.some_of (v:=v) (o:=mA f) (by rw [← l]; exact r f)
 exact get_map I.kIn O (c.get f) c.hd n hu (handed_of ru) (h u _ (I.tok _) ru)
theorem getmeth_ok {m:Str} {g:Addr} {pl:Sem Bool} {Q:Value × List Value→Shared→Prop} (I:Inv X pins σ H s) (e:H a = some (.ins C dx fs)) (c:Cls X.K C) (k:Meth X.K C m g) (l:fs.lookup m = none)
  (h:Q (.ref g,[.ref a]) s):wpAny (model X.prog X.w) A (getMethod (.ref a) m pl) Q E s:=by
 obtain ⟨mA,O,r,_,_,_⟩:=ins_get I.hok e
 have hn:mA m = none:=RelO.none_of (by rw [← l]; exact r m)
 exact get_meth I.kIn O (c.get m) k.at_ k.fn hn h
theorem setattr_ok {y:V} {u:Value} {Q:Unit→Shared→Prop} (I:Inv X pins σ H s) (e:H a = some (.ins C dx fs)) (c:Cls X.K C) (n:NoAttr X.K C f) (hl:fs.length < 1000) (ry:RelV y u)
  (h:∀ s',Inv X pins σ (upd H a (.ins C dx (putF f y fs))) s'→Q () s'):wpAny (model X.prog X.w) A (setAttr (.ref a) f u) Q E s:=by
 obtain ⟨mA,O,r,wi,_,ho⟩:=ins_get I.hok e
 have hz:(fs.map (·.1)).length ≤ sizeLine:=by rw [List.length_map,sizeLine_eq]; omega
 refine set_map I.kIn O c.sa c.po n.taker c.hd wi hz fun h' O' sb=>h _ ?_
 have hd:∃ o,h'.get? dx = some o:=let ⟨o,_,_,e',_⟩:=O'.ns; ⟨o,e'⟩
 refine I.write (x:=a) (e:=dx) (by rw [e]; exact True.intro) (.inr ho) (fun b q hb z=>(sb.2 b hb).trans z) hd ?_
 refine ⟨by rw [upd_ne O.ne]; exact ho,?_,O.ne,O'.obj,_,O'.ns,fun g=>?_,fun g hg=>?_⟩
 ·have:=length_putF f y fs; omega
 ·show RelO ((putF f y fs).lookup g) (if g = f then some u else mA g)
  rw [lookup_putF]
  by_cases q:g = f
  ·rw [if_pos q,if_pos q]; exact ry
  ·rw [if_neg q,if_neg q]; exact r g
 ·by_cases q:g = f
  ·rw [q]; exact (keys_putF f y fs).1
  ·refine (keys_putF f y fs).2 g (wi g fun z=>hg ?_)
   show (if g = f then some u else mA g) = none
   rw [if_neg q]; exact z
theorem Inv.made (I:Inv X pins σ H s):Inv X pins σ (upd (upd H s.heap.objs.size (.own (s.heap.objs.size + 1))) (s.heap.objs.size + 1) (.ins C s.heap.objs.size []))
  { s with heap:=(s.heap.push PySem.W.emptyDict).push (PySem.W.instObj C s.heap.objs.size) }:=by
 have e1:(s.heap.push PySem.W.emptyDict).get? s.heap.objs.size = some PySem.W.emptyDict:=Heap.get?_push_size s.heap rfl
 have e2:((s.heap.push PySem.W.emptyDict).push (PySem.W.instObj C s.heap.objs.size)).get? (s.heap.objs.size + 1) = some (PySem.W.instObj C s.heap.objs.size):=by
  have:=Heap.get?_push_size (s.heap.push PySem.W.emptyDict) (o:=PySem.W.instObj C s.heap.objs.size) rfl
  rwa [Heap.size_push] at this
 have e3:(s.heap.push PySem.W.emptyDict).Ns s.heap.objs.size (fun _=>none):=⟨PySem.W.emptyDict,#[],_,e1,rfl,(fun e he=>absurd he (by simp)),fun _=>rfl⟩
 have I1:=I.laid (a:=s.heap.objs.size) (o:=.own (s.heap.objs.size + 1)) (h':=s.heap.push PySem.W.emptyDict) (t':=s.toks) (fun b u q=>Heap.get?_push_of_some _ q) (Nat.le_refl _) ⟨_,e1⟩
 refine I1.laid (a:=s.heap.objs.size + 1) (o:=.ins C s.heap.objs.size []) (t':=s.toks) (fun b u q=>Heap.get?_push_of_some _ q) (Nat.le_of_eq (Heap.size_push _ _)) ?_
 have ne:s.heap.objs.size ≠ s.heap.objs.size + 1:=Nat.ne_of_lt (Nat.lt_succ_self _)
 refine ⟨by rw [upd_ne ne,upd_same],Nat.zero_le _,ne,e2,fun _=>none,(Heap.Ns1.of_empty e3).at fun o q=>Heap.get?_push_of_some _ q,fun _=>True.intro,fun y hy=>absurd rfl hy⟩
theorem attr_of {prog:Program} {w:World} {env:Env} {e:Expr} {f:Str} {pos:Pos} {s:Shared} {Q:Value→Shared→Prop} (hb:attributeBase e f env (eval e env) = eval e env)
  (h:wpAny (model prog w) A (eval e env) (fun o s₁=>wpAny (model prog w) A (getAttr o f true) Q E s₁) E s):wpAny (model prog w) A (eval (.Attribute e f pos) env) Q E s :=
 Attribute_any_ h (by rw [arm_eval_Attribute,hb])
end
def tFld (K:PySem.W.Frag) (ta:TE) (f:Str):TE:=fun σ H Q=>ta σ H fun x H1=>∃ a C dx fs v,x = .ref a∧H1 a = some (.ins C dx fs)∧Cls K C∧NoAttr K C f∧fs.lookup f = some v∧Q v H1
def sFld (K:PySem.W.Frag) (ta tv:TE) (f:Str):TS:=fun D σ H=>tv σ H fun y H1=>ta σ H1 fun x H2=>∃ a C dx fs,x = .ref a∧H2 a = some (.ins C dx fs)∧Cls K C∧NoAttr K C f∧fs.length < 1000 ∧
 D.nx σ (upd H2 a (.ins C dx (putF f y fs)))
section
variable {X:Cx} {o e value:Expr} {f:Str} {pos pos' tpos:Pos} {ta tv:TE}
theorem pe_fld (he:PE X e ta) (hb:attributeBase e f X.env (eval e X.env) = eval e X.env):PE X (.Attribute e f pos) (tFld X.K ta f):=by
 intro pins s σ H Q I h
 refine attr_of hb (thn (he pins s σ H _ I h) fun u s1 ⟨x,H1,I1,rx,a,C,dx,fs,v,ex,ea,c,n,l,q⟩=>?_)
 subst ex
 obtain rfl:u = Value.ref a:=rx
 exact getattr_ok I1 ea c n l fun u' s2 I2 ru=>⟨v,H1,I2,ru,q⟩
theorem ps_fld (ha:PE X o ta) (hv:PE X value tv) (hs:swapsWith value (some (.Attribute o f pos')) pos.line X.env = pure false):PS X (.Assign [.Attribute o f pos'] value pos) (sFld X.K ta tv f):=by
 intro pins s σ H D I h
 refine plainObj_wpAny_Assign_Attribute (thn (hv pins s σ H _ I h) fun u s1 ⟨y,H1,I1,ry,q⟩=>thn (ha pins s1 σ H1 _ I1 q) fun ov s2 ⟨x,H2,I2,rx,a,C,dx,fs,ex,ea,c,n,l,q2⟩=>?_) hs
 subst ex
 obtain rfl:ov = Value.ref a:=rx
 exact setattr_ok I2 ea c n l ry fun s3 I3=>⟨σ,_,I3,q2⟩
end
section
variable {X:Cx} {pins:List (Addr × Obj)} {σ:St} {H:Hp} {s:Shared} {A:Around} {E:Value→Shared→Prop} {Q:Value→Shared→Prop} {c:Value} {b:Bool}
inductive TyOf (K:PySem.W.Frag) (H:Hp):V→Value→Prop where
 | non:TyOf K H .non (.type "NoneType")
 | bl (x:Bool):TyOf K H (.bl x) (.type "bool")
 | int (i:Int):TyOf K H (.int i) (.type "int")
 | str (x:Str):TyOf K H (.str x) (.type "str")
 | flt (x:UInt64):TyOf K H (.flt x) (.type "float")
 | lst {a:Addr} {xs:List V} (e:H a = some (.lst xs)):TyOf K H (.ref a) (.type "list")
 | frz {a:Addr} {o:Obj} {xs:List V} (e:H a = some (.frz o (.lst xs))):TyOf K H (.ref a) (.type "list")
 | tup {a:Addr} {xs:List V} (e:H a = some (.tup xs)):TyOf K H (.ref a) (.type "tuple")
 | dK {a:Addr} {kvs:List (Key × V)} (e:H a = some (.dK kvs)):TyOf K H (.ref a) (.type "dict")
 | ins {a C dx:Addr} {fs:List (Str × V)} (e:H a = some (.ins C dx fs)) (cl:Cls K C) (ha:PySem.W.findIn K (.ref C) "__class__" = some (some (.builtin "object.__class__")))
   (hn:PySem.W.specialIn K (.builtin "object.__class__") "__get__" = some (some (.builtin "getset_descriptor.__get__"))) (htk:PySem.W.takesIn K (.builtin "object.__class__") = some true)
   (hm:PySem.W.mroIn K C (.type "object") = some true):TyOf K H (.ref a) (.ref C)
theorem isinst_ok {x:V} {u t:Value} (I:Inv X pins σ H s) (rx:RelV x u) (ty:TyOf X.K H x t) (e:PySem.W.kitOne X.K t c = some b) (h:∀ tk,Q (.bool b) { s with toks:=tk }) :
  wpAny (model X.prog X.w) A (call (.builtin "isinstance") [u,c]) Q E s:=by
 cases ty with
 | non=>cases (show u = Value.none from rx); exact PySem.W.kia_one PySem.W.kitx_none I.kIn True.intro e (fun z=>nomatch z) h
 | bl y=>cases (show u = Value.bool y from rx); exact PySem.W.kia_one PySem.W.kitx_bool I.kIn True.intro e (fun z=>nomatch z) h
 | int i=>obtain ⟨t,q⟩:=(show ∃ t,u = Value.int i t from rx); cases q; exact PySem.W.kia_one PySem.W.kitx_int I.kIn True.intro e (fun z=>nomatch z) h
 | str y=>obtain ⟨t,q⟩:=(show ∃ t,u = Value.str y t from rx); cases q; exact PySem.W.kia_one PySem.W.kitx_str I.kIn True.intro e (fun z=>nomatch z) h
 | flt y=>obtain ⟨t,q⟩:=(show ∃ t,u = Value.float y t from rx); cases q; exact PySem.W.kia_one PySem.W.kitx_float I.kIn True.intro e (fun z=>nomatch z) h
 | @lst a xs ea =>
  cases (show u = Value.ref a from rx)
  obtain ⟨_,_,n,_,h1⟩:=(show ObjOk X.prog X.w H s.heap a (.lst xs) from I.hok a _ ea)
  exact PySem.W.kia_one PySem.W.kitx_list I.kIn ⟨_,h1,rfl⟩ e (fun z=>nomatch z) h
 | @frz a ob xs ea =>
  cases (show u = Value.ref a from rx)
  obtain ⟨_,_,_,n,_,h1⟩:=(show ObjOk X.prog X.w H s.heap a (.frz ob (.lst xs)) from I.hok a _ ea)
  exact PySem.W.kia_one PySem.W.kitx_list I.kIn ⟨_,h1,rfl⟩ e (fun z=>nomatch z) h
 | @tup a xs ea =>
  cases (show u = Value.ref a from rx)
  obtain ⟨_,_,_,p⟩:=(show ObjOk X.prog X.w H s.heap a (.tup xs) from I.hok a _ ea)
  obtain ⟨o,h1,h2,_⟩:=p
  exact PySem.W.kia_one PySem.W.kitx_tuple I.kIn ⟨o,h1,h2⟩ e (fun z=>nomatch z) h
 | @dK a kvs ea =>
  cases (show u = Value.ref a from rx)
  obtain ⟨_,_,vs,_,p⟩:=(show ObjOk X.prog X.w H s.heap a (.dK kvs) from I.hok a _ ea)
  obtain ⟨o,es,ep,h1,h2,_⟩:=p
  exact PySem.W.kia_one PySem.W.kitx_dict I.kIn ⟨o,h1,h2.1⟩ e (fun z=>nomatch z) h
 | @ins a C dx fs ea cl ha hn htk hm =>
  cases (show u = Value.ref a from rx)
  obtain ⟨mA,O,_⟩:=ins_get I.hok ea
  obtain ⟨od,J,_⟩:=O.look
  exact PySem.W.kia_one (PySem.W.kitx_own (cl.get _) cl.hd ha hn htk hm) I.kIn J e (fun z=>nomatch z) h
end
end L2
namespace L2
open PySem PySem.Spec PyProof.Rows
structure Room (k:Nat) (A:Around):Prop where
 hd:A.handled = none
 dp:A.depth + 3 * k + 5 < recursionLimit
 un:A.units + 16 * k + 200 < cLine
theorem Room.mono {j k:Nat} {A:Around} (r:Room k A) (h:j ≤ k):Room j A:=⟨r.hd,by have:=r.dp; omega,by have:=r.un; omega⟩
theorem Room.deeper {k:Nat} {A:Around} (r:Room (k + 1) A) (env:Env):Room k (A.deeper env) :=
 ⟨r.hd,by have:=r.dp; show A.depth + 1 + 3 * k + 5 < _; omega,by have:=r.un; show A.units + 3 + 16 * k + 200 < _; omega⟩
theorem make_depth {A:Around} {C:Addr} {us:List Value} {kw:List (Str × Value)} : (A.under (.builtin "type.__call__" ⟨.ref C :: us,kw⟩)).depth = A.depth + 1:=by
 first | rfl | simp [Around.under,Code.weight,Code.isCreation,Code.isGuard,Code.isCaller,Code.frames,Code.isFrame,guardIds]
theorem make_units {A:Around} {C:Addr} {us:List Value} {kw:List (Str × Value)} : (A.under (.builtin "type.__call__" ⟨.ref C :: us,kw⟩)).units = A.units + 1:=by
 first | rfl | simp [Around.under,Code.cUnits,Code.frames,Code.isFrame]
theorem Room.make {k:Nat} {A:Around} (r:Room (k + 1) A) (C:Addr) (us:List Value) (kw:List (Str × Value)):Room k (A.under (.builtin "type.__call__" ⟨.ref C :: us,kw⟩)) :=
 ⟨r.hd,by have:=r.dp; rw [make_depth]; omega,by have:=r.un; rw [make_units]; omega⟩
theorem Room.depth {k:Nat} {A:Around} (r:Room k A):A.depth < recursionLimit:=by have:=r.dp; omega
theorem Room.units {k:Nat} {A:Around} (r:Room k A):A.units + 64 < cLine:=by have:=r.un; omega
theorem Room.units0 {k:Nat} {A:Around} (r:Room k A):A.units < cLine:=by have:=r.un; omega
def tNil:TA:=fun _ H Q=>Q [] H
def tCons (ta:TE) (tr:TA):TA:=fun σ H Q=>ta σ H fun x H1=>tr σ H1 fun xs H2=>Q (x :: xs) H2
section
variable {X:Cx} {e:Expr} {es:List Expr} {te:TE} {t:TA} {pos:Pos}
theorem pa_nil:PA X [] tNil:=fun _ _ _ _ H Q I h=>Calls.spliced_nil ⟨[],H,I,.nil,h⟩
theorem pa_cons (ha:PE X e te) (hr:PA X es t) (hs:starEach (e :: es) X.env = (false,eval e X.env) :: starEach es X.env:=by rfl):PA X (e :: es) (tCons te t):=by
 intro pos pins s σ H Q I h
 rw [hs]
 show wpAny _ _ (spliced ((false,eval e X.env) :: backTo pos (starEach es X.env))) _ _ s
 refine Calls.spliced_cons (thn (ha pins s σ H _ I h) fun u s1 ⟨x,H1,I1,r1,q1⟩=>?_)
 exact thn (hr pos pins s1 σ H1 _ I1 q1) fun us s2 ⟨xs,H2,I2,r2,q2⟩=>⟨x :: xs,H2,I2,.cons r1 r2,q2⟩
def tTup (t:TA):TE:=fun σ H Q=>t σ H fun xs H1=>xs.length ≤ sizeLine∧∀ p,H1 p = none→Q (.ref p) (upd H1 p (.tup xs))
def tLst (t:TA):TE:=fun σ H Q=>t σ H fun xs H1=>xs.length ≤ sizeLine∧∀ p,H1 p = none→Q (.ref p) (upd H1 p (.lst xs))
theorem pe_tup {x1} (h:PA X es t):PE X (.Tuple es x1 pos) (tTup t):=by
 intro pins s σ H Q I hq
 refine wpAny_Tuple_spliced (thn (h pos pins s σ H _ I hq) fun us s1 ⟨xs,H1,I1,r,z,q⟩=>⟨by rw [← r.length]; exact z,?_⟩)
 have hf:H1 s1.heap.objs.size = none:=I1.hok.fresh (Nat.le_refl _)
 refine ⟨.ref s1.heap.objs.size,upd H1 s1.heap.objs.size (.tup xs),I1.laid (t':=s1.toks) (fun b u e=>Heap.get?_push_of_some _ e) (Nat.le_refl _) ?_,rfl,q _ hf⟩
 exact ⟨z,us,r,⟨_,Heap.get?_push_size _ rfl,rfl,_,rfl⟩⟩
theorem pe_lst (h:PA X es t):PE X (.List es pos) (tLst t):=by
 intro pins s σ H Q I hq
 refine wpAny_List_spliced (thn (h pos pins s σ H _ I hq) fun us s1 ⟨xs,H1,I1,r,z,q⟩=>⟨by rw [← r.length]; exact z,?_⟩)
 have hf:H1 s1.heap.objs.size = none:=I1.hok.fresh (Nat.le_refl _)
 refine ⟨.ref s1.heap.objs.size,upd H1 s1.heap.objs.size (.lst xs),I1.laid (t':=s1.toks) (fun b u e=>Heap.get?_push_of_some _ e) (Nat.le_refl _) ?_,rfl,q _ hf⟩
 exact ⟨z,us,0,r,Heap.get?_push_size _ rfl⟩
end
abbrev Sp:=List V→Hp→VK→XK→Prop
abbrev CXT:=List Env→Hp→Shared→XK→Value→Shared→Prop
structure Env0 (P:Program) (w:World) (K:PySem.W.Frag) (mg:Str→Option Value) (base:Heap) (A:Around) (outer:List Env) (s:Shared) (H:Hp):Prop where
 frames:A.frames = some outer
 mod:Mod K mg base
 bs:∀ b o,base.get? b = some o→s.heap.get? b = some o∧H b = none
 bsz:base.objs.size ≤ s.heap.objs.size
 funs:s.heap.FunFrames base outer
 frf:∀ b ∈ frs outer,H b = none
 hok:HOk P w H s.heap
 bare:AllBare s.gens
def CE (outer:List Env) (P:Program) (w:World) (H:Hp) (s:Shared) (Q:VK) (u:Value) (s':Shared):Prop :=
 ∃ v H',s'.os = s.os∧AllBare s'.gens∧Un (frs outer) [] H H' s.heap s'.heap∧HOk P w H' s'.heap∧RelV v u∧Q v H'
def CR (CX:CXT) (outer:List Env) (P:Program) (w:World) (H:Hp) (s:Shared) (Q:VK) (E:XK) (r:Result) (s':Shared):Prop :=
 match r with
 | .ok (.ret u)=>CE outer P w H s Q u s'
 | .ok _=>False
 | .error e=>CX outer H s E e s'
structure FnOk (P:Program) (w:World) (K:PySem.W.Frag) (mg:Str→Option Value) (base:Heap) (CX:CXT) (k:Nat) (f:Addr) (fd:FuncData) (ps:List Str) (sp:Sp):Prop where
 len:∀ vs H Q E,sp vs H Q E→vs.length = ps.length
 run:∀ (A:Around) (outer:List Env) (s:Shared) (H:Hp) (args:Args) (us:List Value) (vs:List V) (Q:VK) (E:XK),Room k A→Env0 P w K mg base A outer s H→BindsTo s fd args (ps.zip us)→Vals vs us→sp vs H Q E →
  codeAny (model P w) A (.call (.ref f) args) (CR CX outer P w H s Q E) s
theorem Env0.make {P:Program} {w:World} {K:PySem.W.Frag} {mg:Str→Option Value} {base:Heap} {A:Around} {outer:List Env} {s:Shared} {H:Hp} (e:Env0 P w K mg base A outer s H) (C:Addr) (us:List Value) (kw:List (Str × Value)) :
  Env0 P w K mg base (A.under (.builtin "type.__call__" ⟨.ref C :: us,kw⟩)) outer s H:=⟨by first | exact e.frames | (simpa [Around.under,Code.envs,Code.isFrame,pushEnvs] using e.frames),e.mod,e.bs,e.bsz,e.funs,e.frf,e.hok,e.bare⟩
section
variable {X:Cx} {pins:List (Addr × Obj)} {σ:St} {H:Hp} {s s':Shared}
theorem Inv.env0 (I:Inv X pins σ H s):Env0 X.prog X.w X.K X.mg X.base X.A X.stack s H :=
 ⟨I.ok.frames,I.ok.mod,I.bs,Nat.le_trans I.ok.bsz I.sz,I.stack,I.stkFree,I.hok,I.bare⟩
theorem Inv.after {Q:VK} {u:Value} (I:Inv X pins σ H s) (h:CE X.stack X.prog X.w H s Q u s'):EP X pins σ Q u s':=by
 obtain ⟨v,H',os,bare,un,hok,r,q⟩:=h
 obtain ⟨hh,g,d,t,os'⟩:=s'
 obtain rfl:os' = s.os:=os
 exact ⟨v,H',I.call (h':=hh) (g':=g) (d':=d) (t':=t) (ch:=[]) un hok bare (fun b z=>absurd z (by simp)),r,q⟩
end
def tCall (sp:Sp) (dvs:List V) (E:XK) (t:TA):TE:=fun σ H Q=>t σ H fun vs H1=>sp (vs ++ dvs) H1 Q E
def tMeth (C:Addr) (m:Str) (sp:Sp) (dvs:List V) (E:XK) (ta:TE) (t:TA):TE:=fun σ H Q=>ta σ H fun x H1=>∃ a dx fs,x = .ref a∧H1 a = some (.ins C dx fs)∧fs.lookup m = none ∧
 t σ H1 fun vs H2=>sp (x :: (vs ++ dvs)) H2 Q E
def Binds (K:PySem.W.Frag) (fd:FuncData) (ps:List Str) (ds:List Value):Prop :=
 ∀ (s:Shared) (us:List Value),K.In s.heap→(us ++ ds).length = ps.length→BindsTo s fd ⟨us,[]⟩ (ps.zip (us ++ ds))
theorem Binds.all {K:PySem.W.Frag} {fd:FuncData} {ps:List Str} (h:∀ us:List Value,us.length = ps.length→bindArgs fd ⟨us,[]⟩ = pure (ps.zip us)):Binds K fd ps []:=fun s us _ hl=>by
 rw [List.append_nil] at hl ⊢
 exact .of_eq (h us hl)
def Passes (CX:CXT) (X:Cx) (E:XK):Prop:=∀ (pins:List (Addr × Obj)) (σ:St) (H:Hp) (s:Shared) (e:Value) (s':Shared),Inv X pins σ H s→CX X.stack H s E e s'→X.xe e s'
section
variable {X:Cx} {CX:CXT} {k:Nat} {f C:Addr} {fd:FuncData} {ps:List Str} {sp:Sp} {dvs:List V} {ds:List Value} {E:XK} {x m:Str} {p pos apos:Pos} {e o:Expr} {es:List Expr} {ta:TE} {t:TA}
theorem run_fn {pins:List (Addr × Obj)} {σ:St} {H:Hp} {s:Shared} {Q:VK} {us:List Value} {vs:List V} (F:FnOk X.prog X.w X.K X.mg X.base CX k f fd ps sp) (hr:Room k X.A) (hb:Binds X.K fd ps ds) (hd:Vals dvs ds) (hx:Passes CX X E)
  (I:Inv X pins σ H s) (r:Vals vs us) (h:sp (vs ++ dvs) H Q E):wpAny (model X.prog X.w) X.A (call (.ref f) us) (EP X pins σ Q) X.xe s:=by
 have r2:Vals (vs ++ dvs) (us ++ ds):=r.append hd
 have hl:(us ++ ds).length = ps.length:=by rw [← r2.length]; exact F.len _ _ _ _ h
 refine wpAny_call (codeAny_mono (F.run X.A X.stack s H ⟨us,[]⟩ (us ++ ds) (vs ++ dvs) Q E hr I.env0 (hb s us I.kIn hl) r2 h) fun r s' hq=>?_)
 cases r with
 | error e=>exact hx pins σ H s e s' I hq
 | ok fl =>
  cases fl with
  | ret u=>exact I.after hq
  | next=>exact False.elim hq
  | brk=>exact False.elim hq
  | cont=>exact False.elim hq
theorem pe_call (F:FnOk X.prog X.w X.K X.mg X.base CX k f fd ps sp) (hr:Room k X.A) (hg:Gl X x) (hm:X.mg x = some (.ref f)) (hk:PySem.W.keepIn X.K (.ref f) = true) (hb:Binds X.K fd ps ds) (hd:Vals dvs ds) (hx:Passes CX X E)
  (ha:PA X (e :: es) t) (hdb:(x == ("__debug__" : Str)) = false:=by decide) (he:starEach (e :: es) X.env = (false,eval e X.env) :: starEach es X.env:=by rfl) (hpl:(backTo pos (starEach es X.env)).any (·.1) = false:=by rfl) :
  PE X (.Call (.Name x p) (e :: es) [] pos) (tCall sp dvs E t):=by
 intro pins s σ H Q I h
 refine wpAny_Call_Name_kw (ld_glob I hg hm ?_ hdb)
 refine PySem.W.callWith_K (h₀:=X.base) I.ok.mod.kin hk (thn (ha pos pins s σ H _ I h) fun us s1 ⟨vs,H1,I1,r,q⟩=>⟨I1.kIn,?_⟩) he hpl
 exact run_fn F hr hb hd hx I1 r q
theorem pe_meth {pl:Sem Bool} (he:PE X o ta) (c:Cls X.K C) (hm:Meth X.K C m f) (F:FnOk X.prog X.w X.K X.mg X.base CX k f fd ps sp) (hr:Room k X.A) (hb:Binds X.K fd ps ds) (hd:Vals dvs ds) (hx:Passes CX X E) (ha:PA X (e :: es) t)
  (hst:starEach (e :: es) X.env = (false,eval e X.env) :: starEach es X.env:=by rfl) (hpl:(backTo pos (starEach es X.env)).any (·.1) = false:=by rfl)
  (ht:eval (.Call (.Attribute o m apos) (e :: es) [] pos) X.env = (do
   let ov ← eval o X.env
   standAt apos.atName
   let (f,first) ← holding [ov] (getMethod ov m pl)
   callWith pos f first (backTo pos (starEach (e :: es) X.env)) (backToKw pos (keywordEach [] X.env))):=by rfl) :
  PE X (.Call (.Attribute o m apos) (e :: es) [] pos) (tMeth C m sp dvs E ta t):=by
 intro pins s σ H Q I h
 refine PySem.W.methodCall_KW (pl:=pl) (thn (he pins s σ H _ I h) fun u s1 ⟨x,H1,I1,rx,a,dx,fs,ex,ea,l,q⟩=>?_) ht
 subst ex
 obtain rfl:u = Value.ref a:=rx
 refine getmeth_ok I1 ea c hm l ?_
 refine PySem.W.callWith_K (first:=[.ref a]) (h₀:=X.base) I.ok.mod.kin hm.kp (thn (ha pos pins s1 σ H1 _ I1 q) fun us s2 ⟨vs,H2,I2,r,q2⟩=>⟨I2.kIn,?_⟩) hst hpl
 exact run_fn (us:=.ref a :: us) (vs:=.ref a :: vs) F hr hb hd hx I2 (.cons rfl r) q2
theorem pe_meth0 {pl:Sem Bool} (he:PE X o ta) (c:Cls X.K C) (hm:Meth X.K C m f) (F:FnOk X.prog X.w X.K X.mg X.base CX k f fd ps sp) (hr:Room k X.A) (hb:Binds X.K fd ps ds) (hd:Vals dvs ds) (hx:Passes CX X E)
  (ht:eval (.Call (.Attribute o m apos) [] [] pos) X.env = (do
   let ov ← eval o X.env
   standAt apos.atName
   let (f,first) ← holding [ov] (getMethod ov m pl)
   callWith pos f first (backTo pos (starEach [] X.env)) (backToKw pos (keywordEach [] X.env))):=by rfl) :
  PE X (.Call (.Attribute o m apos) [] [] pos) (tMeth C m sp dvs E ta tNil):=by
 intro pins s σ H Q I h
 refine PySem.W.methodCall_KW (pl:=pl) (thn (he pins s σ H _ I h) fun u s1 ⟨x,H1,I1,rx,a,dx,fs,ex,ea,l,q⟩=>?_) ht
 subst ex
 obtain rfl:u = Value.ref a:=rx
 refine getmeth_ok I1 ea c hm l ?_
 exact PySem.W.callWith_K0 (first:=[.ref a]) I1.kIn hm.kp (run_fn (us:=[.ref a]) (vs:=[.ref a]) F hr hb hd hx I1 (.cons rfl .nil) q)
structure Mk (K:PySem.W.Frag) (C f:Addr):Prop where
 makes:PySem.W.makesIn K C = true
 init:PySem.W.findIn K (.ref C) "__init__" = some (some (.ref f))
 fn:PySem.W.isFn K (.ref f) = true
 kp:PySem.W.keepIn K (.ref C) = true
end
section
variable {X:Cx} {CX:CXT} {k:Nat} {f C:Addr} {fd:FuncData} {ps ks:List Str} {sp:Sp} {E:XK} {x m:Str} {p pos apos kpos:Pos} {e o:Expr} {es:List Expr} {kws:List Keyword} {te ta:TE} {t tk:TA} {nm:Option Str}
variable {g:List Value→List Value→List Value} {gV:List V→List V→List V}
end
structure FnScope (N P:List Str) (sc:Scope):Prop where
 kind:sc.kind = .function
 co:sc.isCoroutine = false
 gen:sc.isGenerator = false
 nd:N.Nodup
 pre:N.take P.length = P
 par:∀ x ∈ P,sc.names.lookup x = some .local∨sc.names.lookup x = some .cell
 nofree:∀ y ∈ sc.names,y.2 ≠ .free
theorem bindL_out {kindOf:Str→Option NameKind} {x:Str} : ∀ {binds:List (Str × Value)} {m:Str→Option Value},(∀ v,(x,v) ∉ binds)→bindL kindOf binds m x = m x
 | [],_,_=>rfl
 | (n,v) :: r,m,h=>by
  unfold bindL
  rw [bindL_out fun w hw=>h w (List.mem_cons_of_mem _ hw)]
  split
  ·have:x ≠ n:=by rintro rfl; exact h v List.mem_cons_self
   simp [this]
  ·rfl
theorem bindC_out {kindOf:Str→Option NameKind} {x:Str} : ∀ {binds:List (Str × Value)} {m:Str→Option Value},(∀ v,(x,v) ∉ binds)→bindC kindOf binds m x = m x
 | [],_,_=>rfl
 | (n,v) :: r,m,h=>by
  unfold bindC
  rw [bindC_out fun w hw=>h w (List.mem_cons_of_mem _ hw)]
  split
  ·rfl
  ·have:x ≠ n:=by rintro rfl; exact h v List.mem_cons_self
   simp [this]
theorem bindL_get {kindOf:Str→Option NameKind} {x:Str} {v:Value} : ∀ {P:List Str} {vs:List Value} {i:Nat} {m:Str→Option Value},P.Nodup→P[i]? = some x→vs[i]? = some v→kindOf x = some .local →
  bindL kindOf (P.zip vs) m x = some v
 | [],_,_,_,_,h,_,_=>by simp at h
 | _ :: _,[],_,_,_,_,h,_=>by simp at h
 | p :: P,w :: vs,0,m,nd,h1,h2,hk=>by
  simp at h1 h2; subst h1; subst h2
  show bindL kindOf ((p,w) :: P.zip vs) m p = _
  unfold bindL
  rw [bindL_out fun v hv=>(List.nodup_cons.mp nd).1 (List.of_mem_zip hv).1,if_pos hk]
  simp
 | p :: P,w :: vs,i + 1,m,nd,h1,h2,hk=>by
  show bindL kindOf ((p,w) :: P.zip vs) m x = _
  unfold bindL
  exact bindL_get (i:=i) (List.nodup_cons.mp nd).2 (by simpa using h1) (by simpa using h2) hk
theorem bindC_get {kindOf:Str→Option NameKind} {x:Str} {v:Value} : ∀ {P:List Str} {vs:List Value} {i:Nat} {m:Str→Option Value},P.Nodup→P[i]? = some x→vs[i]? = some v→kindOf x ≠ some .local →
  bindC kindOf (P.zip vs) m x = some v
 | [],_,_,_,_,h,_,_=>by simp at h
 | _ :: _,[],_,_,_,_,h,_=>by simp at h
 | p :: P,w :: vs,0,m,nd,h1,h2,hk=>by
  simp at h1 h2; subst h1; subst h2
  show bindC kindOf ((p,w) :: P.zip vs) m p = _
  unfold bindC
  rw [bindC_out fun v hv=>(List.nodup_cons.mp nd).1 (List.of_mem_zip hv).1,if_neg hk]
  simp
 | p :: P,w :: vs,i + 1,m,nd,h1,h2,hk=>by
  show bindC kindOf ((p,w) :: P.zip vs) m x = _
  unfold bindC
  exact bindC_get (i:=i) (List.nodup_cons.mp nd).2 (by simpa using h1) (by simpa using h2) hk
def start (N:List Str) (vs:List V):St:=vs.map some ++ List.replicate (N.length - vs.length) none
def cxOf (CX:CXT) (P:Program) (w:World) (K:PySem.W.Frag) (mg:Str→Option Value) (base:Heap) (N:List Str) (qual:Str) (scope:Scope) (f:Addr) (cd:Value) (A:Around) (outer:List Env) (s:Shared) (H:Hp) (E:XK):Cx where
 prog:=P
 w:=w
 K:=K
 mg:=mg
 base:=base
 A:=A.deeper (envOfC qual scope s.heap.objs.size f cd)
 N:=N
 s₀:=s
 H₀:=H
 env:=envOfC qual scope s.heap.objs.size f cd
 outer:=outer
 stack:=envOfC qual scope s.heap.objs.size f cd :: outer
 ex:=[]
 calm:=true
 fn:=fun _=>true
 pn:=[]
 xe:=fun e s'=>wpAny (model P w) (A.deeper (envOfC qual scope s.heap.objs.size f cd)) (leaving (envOfC qual scope s.heap.objs.size f cd) e) (fun _ s''=>CX outer H s E e s'') (fun e' s''=>CX outer H s E e' s'') s'
theorem cell_has {sc:Scope} {n:Nat} {x:Str} (h:sc.names.lookup x = some .cell):∃ c,(cellsFrom n sc.names []).lookup x = some c:=by
 have q:=PySem.W.cellsFrom_some sc.names n [] (.inl h)
 exact Option.isSome_iff_exists.mp q
theorem inv_start {CX:CXT} {P:Program} {w:World} {K:PySem.W.Frag} {mg:Str→Option Value} {base:Heap} {N ps:List Str} {qual:Str} {scope:Scope} {f:Addr} {cd:Value} {A:Around} {outer:List Env} {s s1:Shared} {H:Hp} {E:XK} {us:List Value} {vs:List V}
  (S:FnScope N ps scope) (hd:A.handled = none) (e0:Env0 P w K mg base A outer s H) (hl:vs.length = ps.length) (r:Vals vs us)
  (x:InCallC s s.heap.objs.size (bindL (envOfC qual scope s.heap.objs.size f cd).kindOf (ps.zip us) fun _=>none) (cellsFrom (s.heap.objs.size + 1) scope.names []) (bindC (envOfC qual scope s.heap.objs.size f cd).kindOf (ps.zip us) fun _=>none) s1) :
  Inv (cxOf CX P w K mg base N qual scope f cd A outer s H E) [] (start N vs) H s1:=by
 have hpl:ps.length ≤ N.length:=by have:=congrArg List.length S.pre; rw [List.length_take] at this; omega
 obtain ⟨h1,tk,rfl,hk⟩:=x.done
 have noA:∀ b:Addr,b ∉ (cxOf CX P w K mg base N qual scope f cd A outer s H E).ex:=fun b z=>absurd (show b ∈ ([] : List Addr) from z) (by simp)
 refine ⟨⟨e0.mod,S.kind,rfl,rfl,Nat.le_refl _,fun y z c h1 h2=>?_,fun y hy=>?_,fun y c _ h=>?_,fun _=>hd,Around.frames_deeper e0.frames,.inr ⟨rfl,rfl⟩,fun b z=>absurd z (noA b),e0.bs,e0.bsz,fun b _ _=>noA b,fun b z=>absurd z (noA b),e0.funs,e0.frf⟩,
  rfl,e0.bare,Un.kept hk,⟨_,x.toInCall.ns,fun i y v h1 h2 h3=>?_⟩,fun y c h=>⟨_,x.cell y c h⟩,e0.hok.fresh (Nat.le_refl _),fun y c h=>?_,fun p hp=>absurd (show p ∈ ([] : List (Addr × Obj)) from hp) (by simp),e0.hok.kept hk,?_⟩
 ·exact name_of_addr x.apart (PySem.mem_of_lookup h1) (PySem.mem_of_lookup h2)
 ·have hy:scope.names.lookup y = some .cell∨scope.names.lookup y = some .free:=hy
  rcases hy with hy | hy
  ·exact cell_has hy
  ·exact absurd rfl (S.nofree _ (PySem.mem_of_lookup hy))
 ·exact Nat.le_of_lt (x.above y c (PySem.mem_of_lookup h))
 ·have hi:i < vs.length:=by
   unfold start at h2
   by_cases hi:i < vs.length
   ·exact hi
   ·rw [List.getElem?_append_right (by simpa using hi)] at h2
    rw [List.getElem?_replicate] at h2
    split at h2 <;> cases h2
  have ha:vs[i]? = some v:=by
   unfold start at h2
   rw [List.getElem?_append_left (by simpa using hi),List.getElem?_map] at h2
   cases e:vs[i]? with
   | none=>rw [e] at h2; cases h2
   | some a=>rw [e] at h2; cases h2; rfl
  obtain ⟨u,hu,rv⟩:=r.get ha
  have hp:ps[i]? = some y:=by
   rw [← S.pre,List.getElem?_take_of_lt (by omega)]; exact h1
  have ndP:ps.Nodup:=by rw [← S.pre]; exact S.nd.sublist (List.take_sublist _ _)
  refine ⟨u,rv,?_⟩
  rcases S.par y (List.mem_of_getElem? hp) with k | k
  ·exact .inl ⟨k,bindL_get ndP hp hu k⟩
  ·obtain ⟨c,e⟩:=cell_has (n:=s.heap.objs.size + 1) k
   refine .inr ⟨.inl k,c,e,?_⟩
   have q:=x.cell y c e
   rw [bindC_get ndP hp hu (by show scope.names.lookup y ≠ _; rw [k]; decide)] at q
   exact q
 ·exact e0.hok.fresh (Nat.le_of_lt (x.above y c (PySem.mem_of_lookup h)))
 ·unfold start
  show _ = N.length
  rw [List.length_append,List.length_map,List.length_replicate]
  omega
theorem fn_of {CX:CXT} {P:Program} {w:World} {K:PySem.W.Frag} {mg:Str→Option Value} {base:Heap} {k:Nat} {f:Addr} {name qual:Str} {params:Arguments} {body:List Stmt} {scope:Scope} {dV kV doc pm cdv ct oc:Value} {an od:Option Addr}
  {osl:Array (Option Value)} {N ps:List Str} {sp:Sp} (lk:K.lookup f = some ⟨oc,od,.func (PySem.W.fnOf name qual params body scope dV kV doc pm an cdv ct),osl⟩) (hcd:PySem.W.codeIn K cdv qual = true) (S:FnScope N ps scope)
  (len:∀ vs H Q E,sp vs H Q E→vs.length = ps.length)
  (hbody:∀ (A:Around) (outer:List Env) (s:Shared) (H:Hp) (vs:List V) (Q:VK) (E:XK),Room k (A.deeper (envOfC qual scope s.heap.objs.size f cdv))→sp vs H Q E →
   ∃ t,PSs (cxOf CX P w K mg base N qual scope f cdv A outer s H E) body t∧t { nx:=fun _ H'=>Q .non H',rt:=Q } (start N vs) H) :
  FnOk P w K mg base CX (k + 1) f (PySem.W.fnOf name qual params body scope dV kV doc pm an cdv ct) ps sp:=by
 refine ⟨len,fun A outer s H args us vs Q E hr e0 hb r hsp=>?_⟩
 have hl:=len _ _ _ _ hsp
 have KX:K.In s.heap:=e0.mod.kin.keeps fun b o e=>(e0.bs b o e).1
 have lim:s.heap.NoLimit:=e0.mod.nolimit.keeps fun b o e=>(e0.bs b o e).1
 have hkind:∀ y ∈ ps.zip us,scope.names.lookup y.1 = some .local∨(scope.names.lookup y.1 = some .cell∧((cellsFrom (s.heap.objs.size + 1) scope.names []).lookup y.1).isSome = true):=fun ⟨n,v⟩ hy=>by
  rcases S.par n (List.of_mem_zip hy).1 with q | q
  ·exact .inl q
  ·exact .inr ⟨q,PySem.W.cellsFrom_some _ _ _ (.inl q)⟩
 refine codeAny_call_function hr.depth (KX _ _ lk) rfl S.co S.gen rfl (PySem.W.codeRec_of KX hcd) (hb _ _ _ _ ?_)
 refine wpAny_newFunctionEnv_cells S.kind hkind fun env he s1 x=>?_
 subst he
 refine ⟨lim.keeps x.toInCall.keep,codeAny_func ?_⟩
 obtain ⟨t,ht,hq⟩:=hbody A outer s H vs Q E (hr.deeper _) hsp
 have I:Inv (cxOf CX P w K mg base N qual scope f cdv A outer s H E) [] (start N vs) H s1:=inv_start S hr.hd e0 hl r x
 refine wpAny_mono (ht [] s1 (start N vs) H _ I hq) (fun fl s' hs=>?_) fun e s' hs=>hs
 have fin:∀ {σ':St} {H':Hp} {v:V} {u:Value},Inv (cxOf CX P w K mg base N qual scope f cdv A outer s H E) [] σ' H' s'→RelV v u→Q v H'→CE outer P w H s Q u s' :=
  fun {σ' H' v u} J rv q=>⟨v,H',J.os,J.bare,J.base,J.hok,rv,q⟩
 cases fl with
 | ret u =>
  obtain ⟨v,σ',H',J,rv,q⟩:=hs
  exact fin J rv q
 | next =>
  obtain ⟨σ',H',J,q⟩:=hs
  exact fin (v:=V.non) (u:=Value.none) J rfl q
 | brk =>
  obtain ⟨_,_,_,q⟩:=hs
  exact False.elim q
 | cont =>
  obtain ⟨_,_,_,q⟩:=hs
  exact False.elim q
end L2
namespace L2
open PySem PySem.Spec PyProof.Rows
section
variable {X:Cx} {x:Str} {p pos:Pos} {e:Expr} {es:List Expr} {t:TA} {id T:String} {r:List V→Hp→VK→Prop}
def tCB (r:List V→Hp→VK→Prop) (t:TA):TE:=fun σ H Q=>t σ H fun vs H1=>r vs H1 Q
theorem pe_callB (hc:CallR X (.builtin id) r) (hg:Gl X x) (hm:X.mg x = none) (hv:bootBuiltins x = some (.builtin id)) (ha:PA X (e :: es) t) (hn:x ≠ "__name__" := by decide) (hdb:(x == ("__debug__" : Str)) = false:=by decide)
  (he:starEach (e :: es) X.env = (false,eval e X.env) :: starEach es X.env:=by rfl) (hpl:(backTo pos (starEach es X.env)).any (·.1) = false:=by rfl):PE X (.Call (.Name x p) (e :: es) [] pos) (tCB r t):=by
 intro pins s σ H Q I h
 refine wpAny_Call_Name_kw (ld_blt I hg hm hv ?_ hn hdb)
 exact PyProof.Rows.callWith_builtin1 (thn (ha pos pins s σ H _ I h) fun us s1 ⟨vs,H1,I1,r1,q1⟩=>hc pins s1 σ H1 vs us Q I1 r1 q1) he hpl
theorem pe_callTy (hc:CallR X (.type T) r) (hg:Gl X x) (hm:X.mg x = none) (hv:bootBuiltins x = some (.type T)) (ha:PA X (e :: es) t) (hn:x ≠ "__name__" := by decide) (hdb:(x == ("__debug__" : Str)) = false:=by decide)
  (he:starEach (e :: es) X.env = (false,eval e X.env) :: starEach es X.env:=by rfl) (hpl:(backTo pos (starEach es X.env)).any (·.1) = false:=by rfl):PE X (.Call (.Name x p) (e :: es) [] pos) (tCB r t):=by
 intro pins s σ H Q I h
 refine wpAny_Call_Name_kw (ld_blt I hg hm hv ?_ hn hdb)
 exact PyProof.Rows.callWith_type1 (thn (ha pos pins s σ H _ I h) fun us s1 ⟨vs,H1,I1,r1,q1⟩=>hc pins s1 σ H1 vs us Q I1 r1 q1) he hpl
end
end L2
namespace HT
open PySem PyProof.Rows
section
open PySem.SeqAt
open PySem.AutoSeq1 (wpAny_loadPart')
open PySem.MeetsSeq PySem.MeetsSeq2 PySem.MeetsSeq3
end
section
variable {prog:Program} {w:World} {A:Around} {E:Value→Shared→Prop} {s:Shared}
def sIx (n d:Nat):Option Int→Nat
 | none=>d
 | some v=>if v < 0 then (v + (n:Int)).toNat else min v.toNat n
theorem sIx_nat (n d k:Nat):sIx n d (some (k:Int)) = min k n:=by
 show (if (k:Int) < 0 then ((k:Int) + (n:Int)).toNat else min (k:Int).toNat n) = min k n
 rw [if_neg (by omega),Int.toNat_natCast]
theorem sIx_le (n d:Nat) (hd:d ≤ n) (o:Option Int):sIx n d o ≤ n:=by
 cases o with
 | none=>exact hd
 | some v =>
  show (if v < 0 then (v + (n:Int)).toNat else min v.toNat n) ≤ n
  by_cases hv:v < 0
  ·rw [if_pos hv]; omega
  ·rw [if_neg hv]; exact Nat.min_le_right _ _
end
end HT
namespace L2
open PySem PySem.Spec PyProof.Rows
abbrev TO:=St→Hp→(Option Int→Hp→Prop)→Prop
def PO (X:Cx) (e:Option Expr) (t:TO):Prop :=
 ∀ (pins:List (Addr × Obj)) (s:Shared) (σ:St) (H:Hp) (Q:Option Int→Hp→Prop),Inv X pins σ H s→t σ H Q →
  wpAny (model X.prog X.w) X.A (evalPart e X.env) (fun u s'=>∃ o H',Inv X pins σ H' s'∧IsPart u o∧Q o H') X.xe s
def tNoPart:TO:=fun _ H Q=>Q none H
def tPart (t:TE):TO:=fun σ H Q=>t σ H fun x H1=>∃ i,x = .int i∧Q (some i) H1
theorem intsAre_of {ns:List Int} : ∀ {us:List Value},Vals (ns.map V.int) us→IntsAre us ns:=by
 induction ns with
 | nil=>intro us r; rw [List.map_nil] at r; cases r; exact .nil
 | cons n ns ih =>
  intro us r
  rw [List.map_cons] at r
  cases r with
  | cons r1 r2 =>
   obtain ⟨t,e⟩:=r1
   subst e
   exact .cons n t (ih r2)
section
variable {X:Cx} {e:Expr} {te:TE} {lo hi:Option Expr} {tl th:TO} {pos p2:Pos}
theorem po_none:PO X none tNoPart:=by
 intro pins s σ H Q I h
 rw [evalPart_none]
 exact wpAny_pure ⟨none,H,I,.none,h⟩
theorem po_some (h:PE X e te):PO X (some e) (tPart te):=by
 intro pins s σ H Q I hw
 rw [evalPart_some]
 refine thn (h pins s σ H _ I hw) fun u s1 ⟨x,H1,I1,r1,q1⟩=>?_
 obtain ⟨i,rfl,q⟩:=q1
 obtain ⟨t,rfl⟩:=r1
 exact ⟨some i,H1,I1,.int i t,q⟩
def SlR (X:Cx) (r:V→Option Int→Option Int→Hp→VK→Prop):Prop :=
 ∀ (pins:List (Addr × Obj)) (s:Shared) (σ:St) (H:Hp) (x:V) (v vl vu:Value) (lo hi:Option Int) (sl:Addr) (Q:VK),Inv X pins σ H s→RelV x v→s.heap.IsSliceOf sl vl vu .none→IsPart vl lo→IsPart vu hi→r x lo hi H Q →
  ∃ T id,typeLookup (.type T) "__getitem__" = pure (some (.builtin id))∧s.TypeIs v T∧wpAny (model X.prog X.w) X.A (getItem v (.ref sl)) (EP X pins σ Q) X.xe s
def tSl (r:V→Option Int→Option Int→Hp→VK→Prop) (te:TE) (tl th:TO):TE:=fun σ H Q=>te σ H fun x H1=>tl σ H1 fun l H2=>th σ H2 fun u H3=>r x l u H3 Q
theorem pe_slice {r:V→Option Int→Option Int→Hp→VK→Prop} (hr:SlR X r) (he:PE X e te) (hl:PO X lo tl) (hu:PO X hi th):PE X (.Subscript e (.Slice lo hi none p2) pos) (tSl r te tl th):=by
 intro pins s σ H Q I h
 refine Subscript_ (thn (he pins s σ H _ I h) fun v s1 ⟨x,H1,I1,r1,q1⟩=>?_)
 refine wpAny_Slice (thn (hl pins s1 σ H1 _ I1 q1) fun vl s2 ⟨l,H2,I2,pl,q2⟩=>thn (hu pins s2 σ H2 _ I2 q2) fun vu s3 ⟨u,H3,I3,pu,q3⟩=>?_)
 rw [evalPart_none]
 refine wpAny_pure ?_
 have I4:Inv X pins σ H3 { s3 with heap:=s3.heap.push { cls:=.type "slice",data:=.fields #[vl,vu,.none] } }:=I3.kept (t':=s3.toks) fun b ob q=>Heap.get?_push_of_some _ q
 obtain ⟨T,id,hT,ht,hg⟩:=hr pins { s3 with heap:=s3.heap.push { cls:=.type "slice",data:=.fields #[vl,vu,.none] } } σ H3 x v vl vu l u s3.heap.objs.size Q I4 r1 (Heap.IsSliceOf.new ..) pl pu q3
 show wpAny (model X.prog X.w) X.A (subscriptTail e (.Slice lo hi none p2) v (.ref s3.heap.objs.size)) (EP X pins σ Q) X.xe { s3 with heap:=s3.heap.push { cls:=.type "slice",data:=.fields #[vl,vu,.none] } }
 exact tail_any (ops:=[.ref s3.heap.objs.size,v]) ht hT hg (by with_unfolding_all rfl)
def cutV (xs:List V) (lo hi:Option Int):List V:=(xs.drop (HT.sIx xs.length 0 lo)).take (HT.sIx xs.length xs.length hi - HT.sIx xs.length 0 lo)
theorem cutV_length (xs:List V) (lo hi:Option Int):(cutV xs lo hi).length ≤ xs.length:=by
 unfold cutV
 rw [List.length_take,List.length_drop]
 omega
end
end L2
namespace L2
open PySem PySem.Spec PyProof.Rows
def ixN (n:Nat) (i:Int):Option Nat:=if 0 ≤ i then (if i < n then some i.toNat else none) else if -(n:Int) ≤ i then some (i + n).toNat else none
def atI {α:Type} (xs:List α) (i:Int):Option α:=(ixN xs.length i).bind fun j=>xs[j]?
theorem ixN_seq {n:Nat} {i:Int} {j:Nat} (h:ixN n i = some j):seqIndex? i n = some j∧j < n∧-(n:Int) ≤ i∧i < n:=by
 unfold ixN at h
 by_cases h0:0 ≤ i
 ·rw [if_pos h0] at h
  by_cases h1:i < n
  ·rw [if_pos h1] at h
   have e:i.toNat = j:=Option.some.inj h
   exact ⟨by rw [seqIndex_of h0 h1,e],by omega,by omega,h1⟩
  ·rw [if_neg h1] at h; cases h
 ·rw [if_neg h0] at h
  by_cases h1 : -(n:Int) ≤ i
  ·rw [if_pos h1] at h
   have e:(i + n).toNat = j:=Option.some.inj h
   exact ⟨by rw [seqIndex_neg (by omega) h1,e],by omega,h1,by omega⟩
  ·rw [if_neg h1] at h; cases h
theorem atI_get {α:Type} {xs:List α} {i:Int} {v:α} (h:atI xs i = some v):∃ j,seqIndex? i xs.length = some j∧xs[j]? = some v∧j < xs.length∧-(xs.length:Int) ≤ i∧i < xs.length:=by
 unfold atI at h
 cases e:ixN xs.length i with
 | none=>rw [e] at h; cases h
 | some j =>
  rw [e] at h
  obtain ⟨h1,h2,h3,h4⟩:=ixN_seq e
  exact ⟨j,h1,h,h2,h3,h4⟩
theorem atI_nat {α:Type} {xs:List α} {j:Nat} {v:α} (h:xs[j]? = some v):atI xs (j:Int) = some v:=by
 have hj:j < xs.length:=(List.getElem?_eq_some_iff.mp h).1
 have e:ixN xs.length (j:Int) = some j:=by
  unfold ixN
  rw [if_pos (by omega),if_pos (by omega)]; simp
 unfold atI; rw [e]; exact h
def PlainIx (b:Expr):Prop:=∀ o i,subscripted b false o i = operate [o,i] (getItem o i)
def IxR (X:Cx) (r:R2):Prop :=
 ∀ (value slice:Expr) (pins:List (Addr × Obj)) (s:Shared) (σ:St) (H:Hp) (x y:V) (v u:Value) (Q:VK),Inv X pins σ H s→RelV x v→RelV y u→r x y H Q →
  subscripted slice false v u = operate [v,u] (getItem v u)→wpAny (model X.prog X.w) X.A (subscriptTail value slice v u) (EP X pins σ Q) X.xe s
def MtR (X:Cx) (id:String) (r:V→List V→Hp→VK→Prop):Prop :=
 ∀ (pins:List (Addr × Obj)) (s:Shared) (σ:St) (H:Hp) (x:V) (xs:List V) (v:Value) (us:List Value) (Q:VK),Inv X pins σ H s→RelV x v→Vals xs us→r x xs H Q →
  wpAny (model X.prog X.w) X.A (call (.builtin id) (v :: us)) (EP X pins σ Q) X.xe s
section
variable {X:Cx} {a b:Expr} {ta tb:TE} {pos:Pos}
theorem pe_ix {r:R2} (hr:IxR X r) (ha:PE X a ta) (hb:PE X b tb) (hs:PlainIx b):PE X (.Subscript a b pos) (tOp r ta tb):=by
 intro pins s σ H Q I h
 exact Subscript_ (binT ha hb I h fun v u s2 x y H2 I2 rx ry q=>hr a b pins s2 σ H2 x y v u Q I2 rx ry q (hs _ _))
def rIxL (K:PySem.W.Frag):R2:=fun x y H Q=>∃ p xs i v,x = .ref p∧y = .int i∧SqL K H p xs∧atI xs i = some v∧Q v H
def rIxT (K:PySem.W.Frag):R2:=fun x y H Q=>∃ p xs i v,x = .ref p∧y = .int i∧SqT K H p xs∧atI xs i = some v∧Q v H
def rIxS:R2:=fun x y H Q=>∃ z i c,x = .str z∧y = .int i∧z.length ≤ sizeLine∧atI z.cps.toList i = some c∧Q (.str ⟨#[c]⟩) H
theorem ix_list:IxR X (rIxL X.K):=by
 intro value slice pins s σ H x y v u Q I rx ry h hs
 obtain ⟨p,xs,i,z,rfl,rfl,hq,he,q⟩:=h
 cases rx
 obtain ⟨t,rfl⟩:=ry
 obtain ⟨its,r,pl,hz⟩:=I.list hq
 obtain ⟨j,h1,h2,h3,h4,h5⟩:=atI_get he
 obtain ⟨w,ew,rw'⟩:=r.get h2
 have hl:=r.length
 have hn:=line63
 have fin:EP X pins σ Q w s:=⟨z,H,I,rw',q⟩
 by_cases h0:0 ≤ i
 ·have hj:i.toNat = j:=by
   rw [seqIndex_of h0 h5] at h1
   exact Option.some.inj h1
  exact item_listR pl.isList h0 (by omega) (by rw [hj]; simpa using ew) fin hs
 ·have hj:(i + (its.toArray.size:Int)).toNat = j:=by
   rw [seqIndex_neg (by omega) h4] at h1
   rw [List.size_toArray,← hl]
   exact Option.some.inj h1
  exact subscriptTail_builtinR (x:=w) pl.isList.typeIs slot_list_getitem.lookup
   (wpAny_getItem_list_neg (Q:=fun r s'=>r = w∧EP X pins σ Q r s') pl.isList (by omega) (by rw [List.size_toArray] <;> omega) (by omega) (by rw [hj]; simpa using ew) ⟨rfl,fin⟩) hs
theorem ix_tup:IxR X (rIxT X.K):=by
 intro value slice pins s σ H x y v u Q I rx ry h hs
 obtain ⟨p,xs,i,z,rfl,rfl,hq,he,q⟩:=h
 cases rx
 obtain ⟨t,rfl⟩:=ry
 obtain ⟨its,r,pl,hz⟩:=I.tuple hq
 obtain ⟨j,h1,h2,h3,h4,h5⟩:=atI_get he
 obtain ⟨w,ew,rw'⟩:=r.get h2
 have hl:=r.length
 have hn:=line63
 have fin:EP X pins σ Q w s:=⟨z,H,I,rw',q⟩
 exact subscriptTail_builtinR (x:=w) pl.typeIs slot_tuple_getitem.lookup
  (getItem_tuple (j:=j) (Q:=fun r s'=>r = w∧EP X pins σ Q r s') pl (by omega) (by omega) (by rw [List.size_toArray,← hl]; exact h1) (by simpa using ew) ⟨rfl,fin⟩) hs
theorem ix_str:IxR X rIxS:=by
 intro value slice pins s σ H x y v u Q I rx ry h hs
 obtain ⟨z,i,c,rfl,rfl,hz,he,q⟩:=h
 obtain ⟨t,rfl⟩:=rx
 obtain ⟨t',rfl⟩:=ry
 obtain ⟨j,h1,h2,h3,h4,h5⟩:=atI_get he
 have hl:z.cps.toList.length = z.length:=by simp [Str.length]
 rw [hl] at h1 h4 h5
 have hn:=line63
 exact tail_any (typeIs_str s z t) slot_str_getitem.lookup (getItem_str (c:=c) (by
  have e1:decide (i < -(2 ^ 63:Int)) = false:=decide_eq_false (by omega)
  have e2:decide (i ≥ 2 ^ 63) = false:=decide_eq_false (by omega)
  rw [e1,e2,Bool.or_false]) (by rw [h1]; simpa using h2) ⟨.str ⟨#[c]⟩,H,I.tok _,⟨_,rfl⟩,q⟩) hs
theorem mapSeq_set (its:List Value) (n j:Nat) (u:Value):Obj.mapSeq (·.setIfInBounds j u) { cls:=.type "list",data:=.seq its.toArray n } = { cls:=.type "list",data:=.seq (its.set j u).toArray n }:=by
 simp [Obj.mapSeq]
theorem Inv.lst {pins:List (Addr × Obj)} {σ:St} {H:Hp} {s:Shared} {p:Addr} {xs:List V} (I:Inv X pins σ H s) (h:H p = some (.lst xs)) :
  ∃ (its:List Value) (n:Nat),Vals xs its∧s.heap.get? p = some { cls:=.type "list",data:=.seq its.toArray n }∧xs.length ≤ sizeLine:=by
 obtain ⟨z,its,n,r,e⟩:=I.hok p _ h
 exact ⟨its,n,r,e,z⟩
theorem Inv.lstUpd {pins:List (Addr × Obj)} {σ:St} {H:Hp} {s:Shared} {p:Addr} {xs ys:List V} {its its':List Value} {n n':Nat} {f:Obj→Obj} (I:Inv X pins σ H s) (h:H p = some (.lst xs))
  (ho:s.heap.get? p = some { cls:=.type "list",data:=.seq its.toArray n }) (hf:f { cls:=.type "list",data:=.seq its.toArray n } = { cls:=.type "list",data:=.seq its'.toArray n' }) (r:Vals ys its') (hz:ys.length ≤ sizeLine) (t:Nat) :
  Inv X pins σ (upd H p (.lst ys)) { s with heap:=s.heap.update p f,toks:=t }:=by
 have e:(s.heap.update p f).get? p = some { cls:=.type "list",data:=.seq its'.toArray n' }:=by
  rw [Heap.get?_update_self f ho (by rw [hf] <;> rfl),hf]
 refine I.write (x:=p) (e:=p) (by rw [h]; trivial) (.inl rfl) (fun b u hb q=>(Heap.get?_update_other _ _ (Ne.symm hb)).trans q) ⟨_,e⟩ ?_
 exact ⟨hz,its',n',r,e⟩
def rSetL:V→V→V→Hp→(Hp→Prop)→Prop:=fun o i v H Q=>∃ p xs k j,o = .ref p∧i = .int k∧H p = some (.lst xs)∧ixN xs.length k = some j∧Q (upd H p (.lst (xs.set j v)))
theorem set_list:PSet X rSetL:=by
 intro pins s σ H o i v ov iv u Q I ro ri rv h
 obtain ⟨p,xs,k,j,rfl,rfl,hp,hj,q⟩:=h
 cases ro
 obtain ⟨t,rfl⟩:=ri
 obtain ⟨its,n,r,ho,hz⟩:=I.lst hp
 obtain ⟨h1,h2,h3,h4⟩:=ixN_seq hj
 have hl:=r.length
 have hn:=line63
 have I':Inv X pins σ (upd H p (.lst (xs.set j v))) { s with heap:=s.heap.update p (Obj.mapSeq (·.setIfInBounds j u)) } :=
  I.lstUpd hp ho (mapSeq_set its n j u) (r.set rv j) (by rw [List.length_set]; exact hz) s.toks
 by_cases h0:0 ≤ k
 ·have hk:k.toNat = j:=by
   rw [seqIndex_of h0 h4] at h1
   exact Option.some.inj h1
  exact PySem.W.ki_setAt ho h0 (by omega) (by rw [List.size_toArray,← hl]; exact h4) (by rw [hk]; exact ⟨_,I',q⟩)
 ·have hk:(k + (its.toArray.size:Int)).toNat = j:=by
   rw [seqIndex_neg (by omega) h3] at h1
   rw [List.size_toArray,← hl]
   exact Option.some.inj h1
  exact PySem.W.ki_setBack ho (by omega) (by rw [List.size_toArray,← hl]; exact h3) (by omega) (by rw [hk]; exact ⟨_,I',q⟩)
theorem slice_bounds (lo hi:Option Int) (n:Nat):(sliceBounds lo hi none n).1 = ((HT.sIx n 0 lo:Nat):Int)∧(sliceBounds lo hi none n).2.1 = ((HT.sIx n n hi:Nat):Int)∧(sliceBounds lo hi none n).2.2 = 1:=by
 refine ⟨?_,?_,rfl⟩
 ·cases lo with
  | none=>simp [sliceBounds,HT.sIx]
  | some i =>
   simp only [sliceBounds,HT.sIx,Option.getD_none,show (1:Int) > 0 by decide,if_true]
   by_cases h:i < 0
   ·simp only [h,if_true] <;> omega
   ·simp only [h,if_false] <;> omega
 ·cases hi with
  | none=>simp [sliceBounds,HT.sIx]
  | some i =>
   simp only [sliceBounds,HT.sIx,Option.getD_none,show (1:Int) > 0 by decide,if_true]
   by_cases h:i < 0
   ·simp only [h,if_true] <;> omega
   ·simp only [h,if_false] <;> omega
theorem slicePick_cut (its:List Value) (lo hi:Option Int):slicePick its.toArray lo hi none = ((its.drop (HT.sIx its.length 0 lo)).take (HT.sIx its.length its.length hi - HT.sIx its.length 0 lo)).toArray:=by
 obtain ⟨h1,h2,h3⟩:=slice_bounds lo hi its.toArray.size
 unfold slicePick
 rw [h1,h2,h3]
 simp only [sliceRange_one,pick_run,List.size_toArray] <;> rfl
def rSlL (K:PySem.W.Frag):V→Option Int→Option Int→Hp→VK→Prop:=fun x lo hi H Q=>∃ a xs,x = .ref a∧SqL K H a xs∧∀ p,H p = none→Q (.ref p) (upd H p (.lst (cutV xs lo hi)))
theorem sl_list:SlR X (rSlL X.K):=by
 intro pins s σ H x v vl vu lo hi sl Q I rx hs pl pu h
 obtain ⟨a,xs,rfl,hx,q⟩:=h
 cases rx
 obtain ⟨its,r,ht,hz⟩:=I.list hx
 have hlen:=r.length
 refine ⟨"list",_,slot_list_getitem.lookup,ht.isList.typeIs,?_⟩
 refine wpAny_getItem_list_slice ht.isList hs pl pu .none (by simp) ?_ (by rw [List.size_toArray] <;> omega)
 rw [slicePick_cut,← hlen]
 refine ⟨.ref s.heap.objs.size,_,I.laid (t':=s.toks) (o:=.lst (cutV xs lo hi)) (fun b ob q=>Heap.get?_push_of_some _ q) (Nat.le_refl _) ?_,rfl,q _ (I.hok.fresh (Nat.le_refl _))⟩
 exact ⟨Nat.le_trans (cutV_length xs lo hi) hz,_,0,(r.drop (HT.sIx xs.length 0 lo)).take (HT.sIx xs.length xs.length hi - HT.sIx xs.length 0 lo),Heap.get?_push_size _ rfl⟩
def flatV:V→Bool
 | .non=>true
 | .bl _=>true
 | .int _=>true
 | .str _=>true
 | _=>false
def eqV:V→V→Bool
 | .non,.non=>true
 | .bl a,.bl b=>a == b
 | .bl a,.int b=>(if a then 1 else 0) == b
 | .int a,.bl b=>a == (if b then 1 else 0)
 | .int a,.int b=>a == b
 | .str a,.str b=>a == b
 | _,_=>false
theorem eqAt_V {A:Around} {s:Shared} {y x:V} {u v:Value} (ry:RelV y u) (rx:RelV x v) (fy:flatV y = true) (fx:flatV x = true):SeqAt.EqAt A s u v (eqV y x):=by
 cases y with
 | non =>
  cases ry
  cases x with
  | non=>cases rx; exact SeqAt.EqAt.same _
  | bl b=>cases rx; exact SeqAt.EqAt.none_bool b
  | int b=>obtain ⟨t,rfl⟩:=rx; exact SeqAt.EqAt.none_int b t
  | str b=>obtain ⟨t,rfl⟩:=rx; exact SeqAt.EqAt.none_str b t
  | _=>exact absurd (show false = true from fx) Bool.false_ne_true
 | bl a =>
  cases ry
  cases x with
  | non=>cases rx; exact SeqAt.EqAt.bool_none a
  | bl b=>cases rx; exact SeqAt.EqAt.bool_bool a b
  | int b=>obtain ⟨t,rfl⟩:=rx; exact SeqAt.EqAt.bool_int a b t
  | str b=>obtain ⟨t,rfl⟩:=rx; exact SeqAt.EqAt.bool_str a b t
  | _=>exact absurd (show false = true from fx) Bool.false_ne_true
 | int a =>
  obtain ⟨t',rfl⟩:=ry
  cases x with
  | non=>cases rx; exact SeqAt.EqAt.int_none a t'
  | bl b=>cases rx; exact SeqAt.EqAt.int_bool a t' b
  | int b=>obtain ⟨t,rfl⟩:=rx; exact SeqAt.EqAt.int_int a t' b t
  | str b=>obtain ⟨t,rfl⟩:=rx; exact SeqAt.EqAt.int_str a t' b t
  | _=>exact absurd (show false = true from fx) Bool.false_ne_true
 | str a =>
  obtain ⟨t',rfl⟩:=ry
  cases x with
  | non=>cases rx; exact SeqAt.EqAt.str_none a t'
  | bl b=>cases rx; exact SeqAt.EqAt.str_bool a t' b
  | int b=>obtain ⟨t,rfl⟩:=rx; exact SeqAt.EqAt.str_int a t' b t
  | str b=>obtain ⟨t,rfl⟩:=rx; exact SeqAt.EqAt.str_str a t' b t
  | _=>exact absurd (show false = true from fx) Bool.false_ne_true
 | _=>exact absurd (show false = true from fy) Bool.false_ne_true
theorem call_len_seq:CallR X (.builtin "len") (fun xs H Q=>∃ p ys,xs = [.ref p]∧(SqL X.K H p ys∨SqT X.K H p ys)∧Q (.int ys.length) H):=by
 intro pins s σ H xs us Q I r h
 obtain ⟨p,ys,rfl,hq,q⟩:=h
 obtain ⟨u,rfl,rx⟩:=vals1 r
 cases rx
 have hn:=line63
 rcases hq with hq | hq
 ·obtain ⟨its,r',pl,hz⟩:=I.list hq
  have hlen:=r'.length
  exact Calls.call_len_list pl.isList (by simp only [List.size_toArray] <;> omega) ⟨.int ys.length,H,I.tok _,⟨s.toks + 1,by rw [List.size_toArray,hlen]⟩,q⟩
 ·obtain ⟨its,r',pl,hz⟩:=I.tuple hq
  have hlen:=r'.length
  exact len_tuple pl (by simp only [List.size_toArray] <;> omega) ⟨.int ys.length,H,I.tok _,⟨s.toks + 1,by rw [List.size_toArray,hlen]⟩,q⟩
theorem call_len_str:CallR X (.builtin "len") (fun xs H Q=>∃ z,xs = [.str z]∧z.length ≤ sizeLine∧Q (.int z.length) H):=by
 intro pins s σ H xs us Q I r h
 obtain ⟨z,rfl,hz,q⟩:=h
 obtain ⟨u,rfl,t,rfl⟩:=vals1 r
 have hn:=line63
 exact len_str (by omega) ⟨.int z.length,H,I.tok _,⟨_,rfl⟩,q⟩
theorem CallR.or {f:Value} {r r':List V→Hp→VK→Prop} (h:CallR X f r) (h':CallR X f r'):CallR X f (fun xs H Q=>r xs H Q∨r' xs H Q):=by
 intro pins s σ H xs us Q I rs q
 rcases q with q | q
 ·exact h pins s σ H xs us Q I rs q
 ·exact h' pins s σ H xs us Q I rs q
theorem call_list_of:CallR X (.type "list") (fun xs H Q=>∃ p ys,xs = [.ref p]∧(SqL X.K H p ys∨SqT X.K H p ys)∧∀ l,H l = none→Q (.ref l) (upd H l (.lst ys))):=by
 intro pins s σ H xs us Q I r h
 obtain ⟨p,ys,rfl,hq,q⟩:=h
 obtain ⟨u,rfl,rx⟩:=vals1 r
 cases rx
 have fin:∀ (its:List Value),Vals ys its→ys.length ≤ sizeLine→∀ (h':Heap) (c':Nat),(∀ b o',s.heap.get? b = some o'→h'.get? b = some o') →
   h'.get? s.heap.objs.size = some { cls:=.type "list",dict:=none,data:=.seq its.toArray c',slots:=#[] }→EP X pins σ Q (.ref s.heap.objs.size) { s with heap:=h' }:=fun its r' hz h' c' kp e =>
  ⟨.ref s.heap.objs.size,_,I.laid (t':=s.toks) kp (Nat.le_refl _) (show ObjOk X.prog X.w _ h' _ (.lst ys) from ⟨hz,its,c',r',e⟩),rfl,q _ (I.hok.fresh (Nat.le_refl _))⟩
 rcases hq with hq | hq
 ·obtain ⟨its,r',pl,hz⟩:=I.list hq
  have hlen:=r'.length
  obtain ⟨o,ho,hc,n,hd⟩:=pl.isList
  exact call_list_seq p (.inl rfl) ho hc hd (fun h' c' kp e=>fin its r' hz h' c' kp e) (by simp only [List.size_toArray] <;> omega)
 ·obtain ⟨its,r',pl,hz⟩:=I.tuple hq
  have hlen:=r'.length
  obtain ⟨o,ho,hc,n,hd⟩:=pl
  exact call_list_seq p (.inr rfl) ho hc hd (fun h' c' kp e=>fin its r' hz h' c' kp e) (by simp only [List.size_toArray] <;> omega)
def tyV (K:PySem.W.Frag) (T:String) (x:V) (H:Hp):Prop:=match x with
 | .str _=>T = "str"
 | .int _=>T = "int"
 | .ref p=>(T = "list" ∧ ∃ xs,SqL K H p xs)∨(T = "tuple" ∧ ∃ o,K.lookup p = some o∧o.cls = .type "tuple" ∧ o.dict = none) ∨
   (T = "dict" ∧ (∃ kvs,H p = some (.dK kvs)))∨(T = "set" ∧ ∃ S n,H p = some (.set S n))
 | _=>False
theorem tyV_is {pins:List (Addr × Obj)} {σ:St} {H:Hp} {s:Shared} {T:String} {x:V} {v:Value} (I:Inv X pins σ H s) (r:RelV x v) (ty:tyV X.K T x H) :
  s.TypeIs v T∧∀ a,v = .ref a→∃ ob,s.heap.get? a = some ob∧ob.dict = none:=by
 cases x with
 | str z =>
  obtain ⟨t,rfl⟩:=r
  cases (show T = "str" from ty)
  exact ⟨typeIs_str s z t,fun _ e=>nomatch e⟩
 | int i =>
  obtain ⟨t,rfl⟩:=r
  cases (show T = "int" from ty)
  exact ⟨typeIs_int s i t,fun _ e=>nomatch e⟩
 | ref p =>
  cases r
  rcases ty with ⟨rfl,xs,hq⟩ | ⟨rfl,o,hk,hc,hd⟩ | ⟨rfl,hk⟩ | ⟨rfl,S,n,hk⟩
  ·obtain ⟨its,_,pl,_⟩:=I.list hq
   refine ⟨pl.isList.typeIs,fun a e=>?_⟩
   cases e
   obtain ⟨o,n,e,c,hd,_⟩:=pl
   exact ⟨o,e,hd⟩
  ·refine ⟨⟨o,I.kIn p o hk,hc⟩,fun a e=>?_⟩
   cases e
   exact ⟨o,I.kIn _ o hk,hd⟩
  ·have z:∃ o,s.heap.get? p = some o∧o.ExactDict:=by
    obtain ⟨kvs,hk⟩:=hk
    obtain ⟨_,_,_,_,o,_,_,e,ex,_⟩:=I.hok p _ hk
    exact ⟨o,e,ex⟩
   obtain ⟨o,e,ex⟩:=z
   refine ⟨⟨o,e,ex.1⟩,fun a e2=>?_⟩
   cases e2
   exact ⟨o,e,ex.2.1⟩
  ·obtain ⟨o,_,_,_,e,ex,_⟩:=I.hok p _ hk
   refine ⟨⟨o,e,ex.1⟩,fun a e2=>?_⟩
   cases e2
   exact ⟨o,e,ex.2.1⟩
 | _=>exact False.elim ty
def tBM (K:PySem.W.Frag) (T:String) (r:V→List V→Hp→VK→Prop) (to:TE) (t:TA):TE:=fun σ H Q=>to σ H fun x H1=>tyV K T x H1∧t σ H1 fun xs H2=>r x xs H2 Q
variable {o e:Expr} {es:List Expr} {to:TE} {t:TA} {name:Str} {apos cpos:Pos} {T id:String} {r:V→List V→Hp→VK→Prop}
theorem pe_bm (pa:PlainAttrs T) (slot:Slot T name id) (hty:typeOf (.builtin id) = pure (.type "method_descriptor")) (hm:MtR X id r) (ho:PE X o to) (ha:PA X (e :: es) t)
  (hbase:attributeBase o name X.env (eval o X.env) = eval o X.env:=by rfl)
  (hfew:((backTo cpos (starEach (e :: es) X.env)).all (fun x=>!x.1) && (backToKw cpos (keywordEach [] X.env)).all (fun x=>x.1.isSome)
   && decide ((e :: es).length + ([] : List Keyword).length + (if ([] : List Keyword).isEmpty then 0 else 1) < 30)) = true:=by rfl)
  (hline:(apos.endLine == cpos.line) = true:=by rfl) (hs:starEach (e :: es) X.env = (false,eval e X.env) :: starEach es X.env:=by rfl) (hplain:(backTo cpos (starEach es X.env)).any (·.1) = false:=by rfl) :
  PE X (.Call (.Attribute o name apos) (e :: es) [] cpos) (tBM X.K T r to t):=by
 intro pins s σ H Q I h
 refine wpAny_Call_method_late hbase hfew hline rfl (thn (ho pins s σ H _ I h) fun v s1 ⟨x,H1,I1,r1,ty,q1⟩=>?_)
 obtain ⟨h1,h2⟩:=tyV_is I1 r1 ty
 refine ⟨T,id,pa,slot,hty,h1,h2,?_⟩
 have hA:=ha cpos pins s1 σ H1 _ I1 q1
 rw [hs] at hA ⊢
 refine Calls.callWith_builtin (by show (false || (backTo cpos (starEach es X.env)).any (·.1)) = false; rw [hplain] <;> rfl) (Calls.evalArgs_plain ?_)
 exact thn hA fun us s2 ⟨vs,H2,I2,r2,q2⟩=>hm pins s2 σ H2 x vs v us Q I2 r1 r2 q2
/- xs.append(e),list.index on a module's tuple .. are MtR facts of 06m -/
end
end L2
namespace L2
open PySem PySem.Spec PyProof.Rows
def MtM (X:Cx) (id:String) (r:V→List V→Hp→VK→Prop):Prop :=
 ∀ (pins:List (Addr × Obj)) (s:Shared) (σ:St) (H:Hp) (x:V) (xs:List V) (v:Value) (us:List Value) (Q:VK),Inv X pins σ H s→RelV x v→Vals xs us→r x xs H Q →
  wpAny (model X.prog X.w) X.A (call (.builtin id) (v :: us)) (EP X pins σ Q) X.xe s
theorem Vals.one:∀ {x:V} {us:List Value},Vals [x] us→∃ u,us = [u]∧RelV x u
 | _,_,.cons r .nil=>⟨_,rfl,r⟩
theorem Vals.two:∀ {x y:V} {us:List Value},Vals [x,y] us→∃ u v,us = [u,v]∧RelV x u∧RelV y v
 | _,_,_,.cons r (.cons q .nil)=>⟨_,_,rfl,r,q⟩
theorem Vals.eraseIdx:∀ {xs:List V} {us:List Value} (i:Nat),Vals xs us→Vals (xs.eraseIdx i) (us.eraseIdx i)
 | _,_,_,.nil=>.nil
 | _,_,0,.cons _ t=>t
 | _,_,i + 1,.cons r t=>.cons r (Vals.eraseIdx i t)
theorem len_erase {α:Type} : ∀ (l:List α) (i:Nat),(l.eraseIdx i).length ≤ l.length
 | [],_=>Nat.le_refl _
 | _ :: _,0=>Nat.le_succ _
 | _ :: r,i + 1=>Nat.succ_le_succ (len_erase r i)
section
variable {X:Cx} {pins:List (Addr × Obj)} {σ:St} {H:Hp} {s:Shared} {l b:Addr} {xs ys zs:List V}
theorem Inv.lset {its its':List Value} {n:Nat} {f:Array Value→Array Value} {t':Nat} (I:Inv X pins σ H s) (hH:H l = some (.lst xs))
  (e:s.heap.get? l = some { cls:=.type "list",data:=.seq its.toArray n }) (hf:f its.toArray = its'.toArray) (hv:Vals ys its') (hz:ys.length ≤ sizeLine) :
  Inv X pins σ (upd H l (.lst ys)) { s with heap:=s.heap.update l (Obj.mapSeq f),toks:=t' }:=by
 have q:=PySem.IsL.update e f
 rw [hf] at q
 refine I.write (x:=l) (e:=l) (by rw [hH]; exact trivial) (.inl rfl) (fun b' u hb hu=>(Heap.get?_update_other s.heap (Obj.mapSeq f) (Ne.symm hb)).trans hu) ⟨_,q⟩ ?_
 exact ⟨hz,its',_,hv,q⟩
theorem Inv.lnew {its:List Value} {t':Nat} (I:Inv X pins σ H s) (hv:Vals ys its) (hz:ys.length ≤ sizeLine) :
  Inv X pins σ (upd H s.heap.objs.size (.lst ys)) { s with heap:=s.heap.push { cls:=.type "list",data:=.seq its.toArray },toks:=t' } :=
 I.laid (fun _ _ q=>Heap.get?_push_of_some _ q) (Nat.le_refl _) ⟨hz,its,0,hv,Heap.get?_push_size _ rfl⟩
theorem Inv.fresh (I:Inv X pins σ H s):H s.heap.objs.size = none:=I.hok.fresh (Nat.le_refl _)
theorem Inv.lstM (I:Inv X pins σ H s) (hH:H l = some (.lst xs)):xs.length ≤ sizeLine∧∃ (its:List Value) (n:Nat),Vals xs its∧xs.length = its.length∧s.heap.get? l = some { cls:=.type "list",data:=.seq its.toArray n }:=by
 obtain ⟨z,its,n,r,e⟩:=I.hok l _ hH
 exact ⟨z,its,n,r,r.length,e⟩
end
section
variable {X:Cx}
def rAppend:V→List V→Hp→VK→Prop:=fun x vs H Q=>∃ l xs y,x = .ref l∧vs = [y]∧H l = some (.lst xs)∧xs.length < sizeLine∧Q .non (upd H l (.lst (xs ++ [y])))
theorem mt_append:MtM X "list.append" rAppend:=by
 intro pins s σ H x vs v us Q I rx rv h
 obtain ⟨l,xs,y,rfl,rfl,hH,hz,q⟩:=h
 cases rx
 obtain ⟨u,rfl,ru⟩:=rv.one
 obtain ⟨z,its,n,r,hl,e⟩:=I.lstM hH
 refine call_meets F.slot_list_append ⟨_,e,rfl⟩ F.entry_list_append (F.args_list_append_2 _ _) (PySem.list_append l its.toArray n u (by rw [List.size_toArray]; omega)) ⟨e,?_⟩
 refine ⟨.non,_,I.lset (its':=its ++ [u]) hH e (by simp) (r.append (.cons ru .nil)) ?_,rfl,q⟩
 rw [List.length_append,List.length_singleton]
 omega
def rCat:R2:=fun x y H Q=>∃ l b xs zs,x = .ref l∧y = .ref b∧H l = some (.lst xs)∧H b = some (.lst zs)∧xs.length + zs.length ≤ sizeLine∧∀ p,H p = none→Q (.ref p) (upd H p (.lst (xs ++ zs)))
theorem op_cat:OpR X (binaryOp .Add) rCat:=by
 intro pins s σ H x y v u Q I rx ry h
 obtain ⟨l,b,xs,zs,rfl,rfl,hH,hB,hz,q⟩:=h
 cases rx
 cases ry
 obtain ⟨z,its,n,r,hl,e⟩:=I.lstM hH
 obtain ⟨z2,its2,n2,r2,hl2,e2⟩:=I.lstM hB
 refine PySem.P.add_list e e2 ?_ (by rw [List.size_toArray,List.size_toArray]; omega)
 have ea:its.toArray ++ its2.toArray = (its ++ its2).toArray:=by simp
 rw [ea]
 exact ⟨.ref _,_,I.lnew (t':=s.toks) (r.append r2) (by rw [List.length_append]; omega),rfl,q _ I.fresh⟩
theorem del_list {pins:List (Addr × Obj)} {s:Shared} {σ:St} {H:Hp} {l:Addr} {xs:List V} {i:Int} {t:Tok} {k:Nat} {Q:Unit→Shared→Prop} (I:Inv X pins σ H s) (hH:H l = some (.lst xs))
  (h1 : -(2 ^ 63) ≤ i) (h2:i < 2 ^ 63) (hk:seqIndex? i xs.length = some k) (h:∀ s',Inv X pins σ (upd H l (.lst (xs.eraseIdx k))) s'→Q () s') :
  wpAny (model X.prog X.w) X.A (delItem (.ref l) (.int i t)) Q X.xe s:=by
 obtain ⟨z,its,n,r,hl,e⟩:=I.lstM hH
 refine PySem.P.delItem_list (k:=k) e (fitsIndex_both h1 h2) (by rw [List.size_toArray,← hl]; exact hk) (h _ ?_) (by rw [List.size_toArray]; omega)
 refine I.lset (its':=its.eraseIdx k) (t':=s.toks) hH e ?_ (r.eraseIdx k) ?_
 ·show its.toArray.eraseIdxIfInBounds k = (its.eraseIdx k).toArray
  rw [List.eraseIdxIfInBounds_toArray]
 ·have:=len_erase xs k
  omega
end
section
variable {prog:Program} {w:World} {A:Around} {E:Value→Shared→Prop} {s:Shared}
end
section
variable {X:Cx}
end
end L2
namespace Att
open PySem PySem.W PySem.Calls PyProof.Rows
theorem ints_of_wellAll {P:Params} {h:Heap} : ∀ (ns:List Int) (vs:List Value),WellAll P h vs (ns.map WData.int)→IntsAre vs ns:=by
 intro ns
 induction ns with
 | nil =>
  intro vs w
  rw [List.map_nil] at w
  cases w
  exact .nil
 | cons n ns ih =>
  intro vs w
  rw [List.map_cons] at w
  cases w with
  | cons a b =>
   cases a
   exact .cons _ _ (ih _ b)
theorem script_of {l:OpenLaw} {n:Nat} (hn:l.most = some n) {P:Params} {h:Heap} {args:List WData} {vals:List Value}
  (hpre:l.row.toRowW.claim.pre args = true) (hwl:WellAll P h vals args) :
  ∃ a vs ns,vals = [Value.ref a]∧args = [WData.list (ns.map WData.int)]∧h.get? a = some { cls:=.type "list",data:=.seq vs.toArray }∧IntsAre vs ns∧ns.length ≤ n:=by
 have hsh:WShape.hasAll [] args [.list .int] = true:=(pre_splitW hpre).1
 have hc:l.pre.holds [] { args:=args } = true:=(pre_splitW hpre).2
 obtain ⟨d,r,rfl,h1,h2⟩:=hasAllW_cons hsh
 obtain rfl:=hasAllW_nil h2
 obtain ⟨xs,rfl,h3⟩:=hasW_list h1
 obtain ⟨ns,rfl⟩:=items_int h3
 have hlen:ns.length ≤ n:=by
  unfold OpenLaw.pre at hc
  have h4:(WTm.not (.lt (.lit (.int (n:Int))) (.len (.arg 0)))).holds [] { args:=[.list (ns.map .int)] } = true:=by
   have h4:=(holds_andW hc).1
   rw [hn] at h4
   exact h4
  have h5:=condW_of h4 (w_not (w_lt w_lit (w_len_list (w_arg rfl))))
  rw [List.length_map] at h5
  refine Nat.le_of_not_lt fun q=>?_
  have q':(n:Int) < ((ns.length:Nat):Int):=by omega
  first
   | (rw [decide_eq_true q'] at h5; exact absurd h5 (by decide))
   | (simp at h5; omega)
 cases hwl with
 | cons w1 w2 =>
  cases w2
  cases w1 with
  | list ho hall=>exact ⟨_,_,ns,rfl,rfl,ho,ints_of_wellAll ns _ hall,hlen⟩
theorem post_true (l:OpenLaw) (args:List WData):l.row.toRowW.claim.post args (.bool true) args = true :=
 postW_of (r:=l.row.toRowW) (X:=(true == true))
  (show WShape.has [] (.bool true) .bool = true by first | rfl | decide | simp [WShape.has,WShape.arms,WShape.armsAll])
  (show (WTm.eq .res (.lit (.bool true))).value [] { args:=args,res:=some (.bool true),after:=args } = some (.bool (true == true)) from w_eq_bool (w_res rfl) w_lit) rfl
theorem attach_call {l:OpenLaw} {n:Nat} {q:Program} {loose:List Str} {XP:(Str→Option Value)→Heap→Prop} {YP:World→Heap→Prop} {d:DefRec}
  (hn:l.most = some n) (hdf:d.params.defaults = [])
  (call:∀ (w:World) (s₀ s₁:Shared) (mg mb:Str→Option Value) (fa:Addr) (o:Obj) (pm cd doc:Value) (a:Addr) (vs:List Value) (ns:List Int),
   Ground q loose [] XP w s₀ mg mb s₁.heap→YP w s₁.heap →
   s₁.heap.get? fa = some o→o.data = .func (docDef d.name d.params d.body d.scope pm cd doc)→s₁.heap.CodeRec cd d.name→mg d.name = some (.ref fa) →
   s₁.heap.get? a = some { cls:=.type "list",data:=.seq vs.toArray }→IntsAre vs ns→ns.length ≤ n→s₁.gens = #[] →
   codeAny (model l.prog w) callerA (.call (.ref fa) ⟨[.ref a],[]⟩) (fun r s'=>r = .ok (.ret (.bool true))∧OldK s₁.heap s'.heap∧s'.os = s₁.os∧AllBare s'.gens) s₁) :
  WalkO q loose XP YP l.row.toRowW d [] (fun f vs=>PySem.call f vs):=by
 intro w s₀ s₁ mg mb G Y fa o pm cd doc dV kV ho hd hcd hD hmg hg args vals as hpre hlay hrd hwl hlo
 obtain rfl:dV = .none:=Dflts.none hD hdf
 obtain rfl:kV = .none:=Dflts.noKw hD
 obtain ⟨a,vs,ns,rfl,rfl,hobj,hints,hlen⟩:=script_of hn hpre hwl
 refine enter_call (codeAny_mono (call w s₀ s₁ mg mb fa o pm cd doc a vs ns G Y ho (fd_plain hd) hcd hmg hobj hints hlen hg) fun r s' hq=>?_)
 obtain ⟨rfl,h2,h3,h4⟩:=hq
 exact ⟨.inl ⟨.bool true,.bool true,[],rfl,fun _=>rfl,.bool true,post_true l _,fun _=>⟨List.Pairwise.nil,fun _ hm=>(nomatch hm)⟩⟩,h2,h3,h4⟩
section
variable {prog:Program} {w:World} {A:Around} {E:Value→Shared→Prop} {s:Shared} {K:Frag}
end
end Att
namespace L2
open PySem PySem.Spec PyProof.Rows
theorem vals_ints:∀ {vs:List Value} {ns:List Int},IntsAre vs ns→Vals (ns.map V.int) vs
 | _,_,.nil=>.nil
 | _,_,.cons n t h=>.cons ⟨t,rfl⟩ (vals_ints h)
def Only (H:Hp):Prop:=∀ b,H b = none∨∃ o xs,H b = some (.frz o (.lst xs))
theorem law_call {P:Program} {w:World} {K:PySem.W.Frag} {mg mb:Str→Option Value} {CX:CXT} {k:Nat} {fa a:Addr} {fd:FuncData} {x:Str} {sp:Sp} {s₁:Shared} {vs:List Value} {ns:List Int}
  (KX:K.In s₁.heap) (hns:s₁.heap.Ns mainGlobals mg) (hb:s₁.heap.Ns builtinsNs mb) (hbb:∀ x:Str,x ≠ "__name__" → mb x = bootBuiltins x) (hlim:s₁.heap.NoLimit) (hg:s₁.gens = #[])
  (ha:s₁.heap.get? a = some { cls:=.type "list",data:=.seq vs.toArray }) (hi:IntsAre vs ns) (hl:ns.length ≤ sizeLine) (hr:Room k callerA)
  (F:∀ base:Heap,K.In base→base.Ns mainGlobals mg→FnOk P w K mg base CX k fa fd [x] sp) (hbind:∀ (s:Shared) (u:Value),BindsTo s fd ⟨[u],[]⟩ [(x,u)])
  (hsp:∀ H:Hp,Only H→SqL K H a (ns.map V.int)→sp [.ref a] H (fun v _=>v = .bl true) fun _ _ _=>False)
  (hCX:∀ H e s',CX [] H s₁ (fun _ _ _=>False) e s'→False) :
  codeAny (model P w) callerA (.call (.ref fa) ⟨[.ref a],[]⟩) (fun r s'=>r = .ok (.ret (.bool true))∧OldK s₁.heap s'.heap∧s'.os = s₁.os∧AllBare s'.gens) s₁:=by
 have rv:=vals_ints hi
 have lenV:=hi.length
 -- from an abstract heap in which nothing but the script may be tracked
 have core:∀ H:Hp,Only H→SqL K H a (ns.map V.int)→HOk P w H s₁.heap→(∀ b,H b ≠ none→b = a)→(H a ≠ none→K.lookup a = none) →
   codeAny (model P w) callerA (.call (.ref fa) ⟨[.ref a],[]⟩) (fun r s'=>r = .ok (.ret (.bool true))∧OldK s₁.heap s'.heap∧s'.os = s₁.os∧AllBare s'.gens) s₁:=by
  intro H hO hS hok hA hK
  have base_of:∀ {b:Addr} {o:Obj},s₁.heap.get? b = some o→H b = none→(hidT s₁.heap H).get? b = some o:=fun e n=>hidT_get e n
  have noA:∀ {b:Addr} {o:Obj} {es:Array DictEntry} {ep:Nat},s₁.heap.get? b = some o→o.data = .dict es ep→H b = none:=fun {b o es ep} e d=>by
   cases q:H b with
   | none=>rfl
   | some u =>
    have e':b = a:=hA b (by rw [q]; simp)
    subst e'
    rw [ha] at e; cases e
    have d':Data.seq vs.toArray _ = Data.dict es ep:=d
    cases d'
  have nsK:∀ {b:Addr} {m:Str→Option Value},s₁.heap.Ns b m→(hidT s₁.heap H).Ns b m:=fun {b m} ⟨o,es,ep,e,d,r⟩=>⟨o,es,ep,base_of e (noA e d),d,r⟩
  have hKb:K.In (hidT s₁.heap H):=fun b o e=>base_of (KX b o e) (by
   cases q:H b with
   | none=>rfl
   | some u =>
    have e':b = a:=hA b (by rw [q]; simp)
    subst e'
    rw [hK (by rw [q]; simp)] at e; cases e)
  have hM:Mod K mg (hidT s₁.heap H):=⟨hKb,nsK hns,⟨mb,nsK hb,hbb⟩,let ⟨mc,h1,h2⟩:=hlim; ⟨mc,nsK h1,h2⟩⟩
  have e0:Env0 P w K mg (hidT s₁.heap H) callerA [] s₁ H:=⟨rfl,hM,fun b o e=>of_hidT e,Nat.le_of_eq (hidT_size _ _),trivial,fun b hb=>absurd (show b ∈ ([] : List Addr) from hb) (by simp),hok,.of_eq hg⟩
  refine codeAny_mono ((F _ hKb (nsK hns)).run callerA [] s₁ H ⟨[.ref a],[]⟩ [.ref a] [.ref a] _ _ hr e0 (hbind s₁ (.ref a)) (.cons rfl .nil) (hsp H hO hS)) fun r s' h=>?_
  cases r with
  | error e=>exact (hCX H e s' h).elim
  | ok fl =>
   cases fl with
   | next=>exact False.elim h
   | brk=>exact False.elim h
   | cont=>exact False.elim h
   | ret u =>
    obtain ⟨v,H',os,bare,un,hok',r',q⟩:=h
    have q':v = .bl true:=q
    subst q'
    obtain rfl:u = Value.bool true:=r'
    refine ⟨rfl,OldK.of_keep fun b o e=>?_,os,bare⟩
    cases q:H b with
    | none=>exact un.keep b o e q (by intro z; exact absurd (show b ∈ ([] : List Addr) from z) (by simp)) (by simp)
    | some u =>
     rcases hO b with z | ⟨ob,xs,z⟩
     ·rw [q] at z; cases z
     ·have z2:=un.frzs b ob _ z
      obtain ⟨e1,_⟩:=hok b _ z
      obtain ⟨e2,_⟩:=hok' b _ z2
      rw [e] at e1; cases e1
      exact e2
 cases hk:K.lookup a with
 | some o =>
  -- the script is one of the module's own objects
  have e:=KX a o hk
  rw [ha] at e
  cases e
  refine core (fun _=>none) (fun _=>.inl rfl) (.inr ⟨_,vs.toArray,_,hk,rfl,rfl,rfl,by rw [List.size_toArray,lenV]; exact hl,by simpa using rv⟩) (fun b u z=>by have z':(none:Option HO) = some u:=z; cases z') (fun b z=>absurd rfl z) fun z=>absurd rfl z
 | none =>
  refine core (fun b=>if b = a then some (.frz { cls:=.type "list",data:=.seq vs.toArray } (.lst (ns.map V.int))) else none) (fun b=>?_) (.inl (.inr ⟨{ cls:=.type "list",data:=.seq vs.toArray },if_pos rfl⟩)) (fun b u z=>?_) (fun b z=>?_) fun _=>hk
  ·by_cases hb:b = a
   ·exact .inr ⟨_,_,if_pos hb⟩
   ·exact .inl (if_neg hb)
  ·by_cases hb:b = a
   ·have z':=(if_pos hb).symm.trans z
    cases z'
    subst hb
    exact ⟨ha,by rw [List.length_map]; exact hl,vs,_,rv,ha⟩
   ·have z':=(if_neg hb).symm.trans z
    cases z'
  ·by_cases hb:b = a
   ·exact hb
   ·exact absurd (if_neg hb) z
end L2
namespace L2
open PySem PySem.Spec PyProof.Rows
abbrev KOf {K:PySem.W.Frag} {h:Heap} (_:K.In h):PySem.W.Frag:=K
theorem walk_of {l:PySem.W.OpenLaw} {n k:Nat} {q:Program} {loose:List Str} {XP:(Str→Option Value)→Heap→Prop} {YP:World→Heap→Prop} {d:DefRec} {K:Params→PySem.W.Frag} {CX:World→CXT} {sp:World→Sp} {x:Str}
  (hn:l.most = some n) (hn2:n ≤ sizeLine) (hdf:d.params.defaults = []) (hr:Room k callerA)
  (hY:∀ (w:World) (h:Heap),YP w h→(K w.params).In h)
  (F:∀ (w:World) (mg:Str→Option Value) (fa:Addr) (h:Heap),(K w.params).In h→h.Ns mainGlobals mg→mg d.name = some (.ref fa) →
   ∃ fd:FuncData,(∀ (s:Shared) (u:Value),BindsTo s fd ⟨[u],[]⟩ [(x,u)]) ∧
    ∀ base:Heap,(K w.params).In base→base.Ns mainGlobals mg→FnOk l.prog w (K w.params) mg base (CX w) k fa fd [x] (sp w))
  (hsp:∀ (w:World) (H:Hp) (a:Addr) (ns:List Int),ns.length ≤ n→Only H→SqL (K w.params) H a (ns.map V.int)→sp w [.ref a] H (fun v _=>v = .bl true) fun _ _ _=>False)
  (hCX:∀ (w:World) (H:Hp) (s:Shared) (e:Value) (s':Shared),CX w [] H s (fun _ _ _=>False) e s'→False) :
  PySem.W.WalkO q loose XP YP l.row.toRowW d [] (fun f vs=>PySem.call f vs):=by
 refine Att.attach_call hn hdf fun w s₀ s₁ mg mb fa o pm cd doc a vs ns G Y ho hd hcd hmg hobj hints hlen hg=>?_
 have KX:=hY w _ Y
 obtain ⟨fd,hb,hF⟩:=F w mg fa _ KX G.T.g hmg
 exact law_call KX G.T.g G.T.b G.T.builtins G.T.nolimit hg hobj hints (Nat.le_trans hlen hn2) hr hF hb (fun H hO hS=>hsp w H a ns hlen hO hS) fun H e s'=>hCX w H s₁ e s'
end L2
/- THE LAST THEOREM (shape; LID,My.* are yours):
   My.Adr: a structure of the addresses that your layer names (classes,functions); My.Txt K t: a structure (Prop) of the equations over K;
   My.txt_mk : {K} {implicit addresses ..} (e1:nsIn K mainGlobals "law" = some (some (.ref f))) (e2:K.lookup f = some ⟨oc,od,.func (fnOf "law" "law" params body scope dV kV doc pm an cdv ct),sl⟩) (e3:codeIn K cdv "law" = true) .. : ∃ t,My.Txt K t
set_option maxRecDepth 100000 in
set_option maxHeartbeats 0 in
theorem PySem.Challenge.cw_LID_holds : PySem.Challenge.rw_LID.Holds := by
 w_on; o_law; k_head; (case hw=>w_witness2)
 k_fill
 refine L2.walk_of (l:=PySem.Challenge.rw_LID) (n:=63) (k:=40) (x := "script") (CX:=fun w=>..) (sp:=fun _=>My.sp_law) rfl (by decide) rfl ⟨rfl,by decide,by decide⟩ (fun w h Y=>PySem.W.kIn_of Y) ?F ?S ?C
 case F =>
  intro w mg fa h KX G hmg
  have T:∃ t,My.Txt (L2.KOf KX) t:=by
   dsimp only [L2.KOf]                          -- K must stand as «<heap const> w.params» for k_is
   refine' My.txt_mk ?e1 ?e2 ?e3 ..
   (case e1=>PySem.W.k_is)                    -- in the order: a name -> its address -> its object -> its parts
   (case e2=>PySem.W.k_is)
   ..
  obtain ⟨t,T⟩:=T
  have e0:=hmg.symm.trans (PySem.W.mg_of KX G T.law)
  cases e0                                       -- fa is the law's own address
  exact ⟨_,fun s u=>.of_eq rfl,fun base kb nb=>My.law_fn T kb nb⟩     -- if «.of_eq rfl» comes too early: refine' ⟨_,?b,fun base kb nb=>My.law_fn T kb nb⟩; exact fun s u=>.of_eq rfl
 case S=>exact fun w H a ns hl hO hS=>..
 case C=>exact ..
(the tactic k_is has no namespace: write k_is) -/
namespace L2
open PySem PySem.Spec PyProof.Rows
abbrev CX0:CXT:=fun _ _ _ _ _ _=>False
abbrev E0:XK:=fun _ _ _=>False
theorem pass0 {X:Cx} : Passes CX0 X E0:=fun _ _ _ _ _ _ _ h=>h.elim
structure Fun (K:PySem.W.Frag) (x qual:Str) (st:Stmt) (f:Addr) (fd:FuncData):Prop where
 ex:∃ (oc:Value) (od:Option Addr) (kV doc pm:Value) (an:Option Addr) (cdv ct:Value) (osl:Array (Option Value)),
  fd = PySem.W.fnOf x qual (defArgs st) (defBody st) (defScope st) .none kV doc pm an cdv ct∧K.lookup f = some ⟨oc,od,.func fd,osl⟩∧PySem.W.codeIn K cdv qual = true
 kp:PySem.W.keepIn K (.ref f) = true
section
variable {P:Program} {w:World} {K:PySem.W.Frag} {mg:Str→Option Value} {base:Heap}
theorem Fun.ok {x qual:Str} {st:Stmt} {f:Addr} {fd:FuncData} {N ps:List Str} {k:Nat} {sp:Sp} (F:Fun K x qual st f fd) (S:FnScope N ps (defScope st)) (len:∀ vs H Q E,sp vs H Q E→vs.length = ps.length)
  (hbody:∀ (cdv:Value) (A:Around) (outer:List Env) (s:Shared) (H:Hp) (vs:List V) (Q:VK) (E:XK),Room k (A.deeper (envOfC qual (defScope st) s.heap.objs.size f cdv))→sp vs H Q E →
   ∃ t,PSs (cxOf CX0 P w K mg base N qual (defScope st) f cdv A outer s H E).nox (defBody st) t∧t { nx:=fun _ H'=>Q .non H',rt:=Q } (start N vs) H):FnOk P w K mg base CX0 (k + 1) f fd ps sp:=by
 obtain ⟨oc,od,kV,doc,pm,an,cdv,ct,osl,rfl,lk,hcd⟩:=F.ex
 refine fn_of lk hcd S len fun A outer s H vs Q E hr hsp=>?_
 obtain ⟨t,h,q⟩:=hbody cdv A outer s H vs Q E hr hsp
 exact ⟨t,h.nox,q⟩
theorem fun_mk {x qual:Str} {st:Stmt} {f:Addr} {oc:Value} {od an:Option Addr} {osl:Array (Option Value)} {kV doc pm cdv ct:Value} (l:K.lookup f = some ⟨oc,od,.func (PySem.W.fnOf x qual (defArgs st) (defBody st) (defScope st) .none kV doc pm an cdv ct),osl⟩)
  (c:PySem.W.codeIn K cdv qual = true) (k:PySem.W.keepIn K (.ref f) = true):Fun K x qual st f (PySem.W.fnOf x qual (defArgs st) (defBody st) (defScope st) .none kV doc pm an cdv ct):=⟨⟨oc,od,kV,doc,pm,an,cdv,ct,osl,rfl,l,c⟩,k⟩
end
theorem hu_of {A:Around} {k:Nat} (hr:Room k A):A.units + 1 < cLine:=Nat.lt_of_le_of_lt (Nat.add_le_add_left (by decide:1 ≤ 64) _) hr.units
section
variable {X:Cx}
theorem pv (i:Nat) {x:Str} {pos:Pos} (hN:X.N[i]? = some x:=by rfl) (hv:Vis X.env.scope x:=by first | exact Or.inl rfl | exact Or.inr (Or.inl rfl) | exact Or.inr (Or.inr rfl)) (hd:(x == ("__debug__" : Str)) = false:=by decide)
  (hcd:(x == ("__classdict__" : Str)) = false:=by decide):PE X (.Name x pos) (tVar i):=pe_var hN hv hd hcd
end
theorem ite2 {c A B:Prop} [Decidable c] (h1:c→A) (h2:¬ c→B):if c then A else B:=by
 by_cases h:c
 ·rw [if_pos h]
  exact h1 h
 ·rw [if_neg h]
  exact h2 h
def Same (H H':Hp):Prop:=∀ b o,H b = some o→H' b = some o
theorem Same.refl (H:Hp):Same H H:=fun _ _ h=>h
theorem Same.trans {H H1 H2:Hp} (a:Same H H1) (b:Same H1 H2):Same H H2:=fun c o h=>b c o (a c o h)
theorem Same.free {H H':Hp} (e:Same H H') {l:Addr} (h:H' l = Option.none):H l = Option.none:=by
 cases q:H l with
 | none=>rfl
 | some o =>
  rw [e l o q] at h
  cases h
end L2
set_option Elab.async false
set_option linter.all false
set_option maxRecDepth 100000
set_option maxHeartbeats 4000000
namespace L2
open PySem PySem.Spec PyProof.Rows
def Bd (i:Int):Prop:=i.natAbs < 2 ^ 8000
theorem Bd.log2 {i:Int} (h:Bd i):i.natAbs.log2 < 8000:=by
 by_cases h0:i.natAbs = 0
 ·rw [h0,Nat.log2_zero]; omega
 ·exact (Nat.log2_lt h0).mpr h
theorem Bd.bits {i:Int} (h:Bd i):Builtin.Int.intBits i ≤ 2 ^ 20:=by
 have e:(2:Nat) ^ 20 = 1048576:=by decide
 have:=h.log2
 unfold Builtin.Int.intBits
 split
 ·exact Nat.zero_le _
 ·omega
section
variable {X:Cx}
theorem op_mulB:OpR X (binaryOp .Mult) (rI (fun i j=>Bd i∧Bd j) fun i j=>.int (i * j)):=opI fun _ _ _ _ _ _ _ hc q=>mul_int q (.of_bits hc.1.bits hc.2.bits)
theorem op_fdivB:OpR X (binaryOp .FloorDiv) (rI (fun _ j=>j ≠ 0∧Bd j) fun i j=>.int (i.fdiv j)):=opI fun _ _ _ _ _ _ _ hc q=>floordiv_int hc.1 q (.inl (PyProof.noPylong_of_log2 (by have:=hc.2.log2; omega)))
theorem call_isinst:CallR X (.builtin "isinstance") (fun xs H Q=>∃ x c cv t b,xs = [x,c]∧((∃ T,c = .ty T∧cv = Value.type T)∨∃ C,c = .ref C∧cv = Value.ref C)∧TyOf X.K H x t∧PySem.W.kitOne X.K t cv = some b∧Q (.bl b) H):=by
 intro pins s σ H xs us Q I r h
 obtain ⟨x,c,cv,t,b,rfl,rc,ty,e,q⟩:=h
 obtain ⟨u,v,rfl,ru,rv⟩:=r.two
 have e2:v = cv:=by
  rcases rc with ⟨T,rfl,rfl⟩ | ⟨T,rfl,rfl⟩
  ·exact rv
  ·exact rv
 subst e2
 exact isinst_ok I ru ty e fun tk=>⟨.bl b,H,I.tok _,rfl,q⟩
theorem call_sorted:CallR X (.builtin "sorted") (fun xs H Q=>∃ l ns,xs = [.ref l]∧SqL X.K H l (ns.map V.int)∧ns.length < 64∧∀ (ms:List Int) p,H p = none→ms.Perm ns→ms.Pairwise (· ≤ ·)→Q (.ref p) (upd H p (.lst (ms.map V.int)))):=by
 intro pins s σ H xs us Q I r h
 obtain ⟨l,ns,rfl,hl,h64,q⟩:=h
 obtain ⟨u,rfl,ru⟩:=r.one
 cases ru
 obtain ⟨its,rv,p,hz⟩:=I.list hl
 have hI:=intsAre_of rv
 have hlen:its.length = ns.length:=by have:=rv.length; simpa using this.symm
 refine sorted_ints (vs:=its) p.isList hI (by omega) fun out ns' a1 a2 a3=>?_
 obtain ⟨e,he⟩:=sortedAll_at s.heap its out
 have hfr:H (s.heap.objs.size + 1) = none:=I.hok.fresh (Nat.le_succ _)
 refine ⟨.ref _,_,I.laid (a:=s.heap.objs.size + 1) (o:=.lst (ns'.map V.int)) (t':=s.toks) (fun b u e=>sortedAll_old e) (Nat.le_succ _) ?_,rfl,q ns' _ hfr a2 a3⟩
 refine ⟨?_,out.toList,e,vals_ints a1,he⟩
 rw [List.length_map,a2.length_eq]
 rw [List.length_map] at hz
 exact hz
end
section
variable {prog:Program} {w:World} {A:Around} {E:Value→Shared→Prop} {s:Shared}
theorem draw_list {it t:Addr} {items:Array Value} (hne:t ≠ it):∀ (n i:Nat) (s:Shared) (Q:List Value→Shared→Prop),s.heap.IsListIter it t i→PlainL s.heap t items→i + n ≤ items.size →
  (∀ h',h'.IsListIter it t (i + n)→Heap.SameBut it s.heap h'→Q ((items.toList.drop i).take n) { s with heap:=h' })→wpAny (model prog w) A (draw (.ref it) n) Q E s
 | 0,i,s,Q,hit,_,_,hQ=>by
  show wpAny _ _ (pure []) Q E s
  exact wpAny_pure (by simpa using hQ s.heap hit (Heap.SameBut.refl ..))
 | n + 1,i,s,Q,hit,ht,hle,hQ=>by
  have hlt:i < items.size:=by omega
  show wpAny _ _ (pyNext (.ref it) >>= _) Q E s
  refine wpAny_bind (wpAny_pyNext_list_item hit ht.isList (x:=items[i]) (by simp [hlt]) fun h₁ hit₁ hs₁=>?_)
  have ht₁:PlainL h₁ t items:=by
   obtain ⟨o,k,e,r⟩:=ht
   exact ⟨o,k,(hs₁.2 t hne).trans e,r⟩
  refine wpAny_bind (wpAny_holding (draw_list hne n (i + 1) _ _ hit₁ ht₁ (by omega) fun h₂ hit₂ hs₂=>wpAny_pure ?_))
  have hd:items.toList.drop i = items[i] :: items.toList.drop (i + 1):=by simp [List.drop_eq_getElem_cons,hlt]
  have:=hQ h₂ (by rw [show i + (n + 1) = i + 1 + n by omega]; exact hit₂) (hs₁.trans hs₂)
  rw [hd,List.take_succ_cons] at this
  exact this
theorem unpackItems_list {t:Addr} {items:Array Value} {Q:List Value→Shared→Prop} (hh:A.handled = none) (ht:PlainL s.heap t items)
  (hQ:∀ h',Heap.ExtBut s.heap.objs.size s.heap h'→Q items.toList { s with heap:=h' }):wpAny (model prog w) A (unpackItems (.ref t) items.size none) Q E s:=by
 have hlt:t ≠ s.heap.objs.size:=by obtain ⟨o,_,ho,_⟩:=ht; exact Nat.ne_of_lt (Heap.lt_size ho)
 unfold unpackItems
 refine wpAny_bind ?_
 ·unfold notIterableAtAll
  refine wpAny_bind (wpAny_specialOf ht.isList.typeIs slot_list_iter.lookup ?_)
  refine wpAny_pure ?_
  simp only [Bool.false_eq_true,if_false]
  refine wpAny_bind (wpAny_holding (wpAny_pyIter_list ht.isList ?_))
  have ht0:PlainL (s.heap.push { cls:=.type "list_iterator",data:=.fields #[.ref t,.int 0 0] }) t items:=by
   obtain ⟨o,k,e,r⟩:=ht
   exact ⟨o,k,Heap.get?_push_of_some _ e,r⟩
  refine wpAny_bind (wpAny_holding (draw_list hlt items.size 0 _ _ ⟨_,Heap.get?_push_size _ rfl,rfl,rfl⟩ ht0 (by omega) fun h₁ hit₁ hs₁=>?_))
  have hall:List.take items.size (List.drop 0 items.toList) = items.toList:=by
   rw [List.drop_zero]; exact List.take_of_length_le (by simp)
  rw [hall]
  rw [if_neg (by simp)]
  have ht₁:PlainL h₁ t items:=by
   obtain ⟨o,k,e,r⟩:=ht0
   exact ⟨o,k,(hs₁.2 t hlt).trans e,r⟩
  refine wpAny_bind (wpAny_holding (wpAny_pyNext_list_end hh hit₁ ht₁.isList (by simp) fun h₂ he₂=>?_))
  simp only [Option.isSome_none,Bool.false_eq_true,if_false]
  refine wpAny_pure (hQ h₂ fun b o hb e=>he₂ b o hb (hs₁.extBut b o hb (Heap.get?_push_of_some _ e)))
theorem assign_Tuple_list {env:Env} {elts:List Expr} {x1} {pos:Pos} {t:Addr} {items:Array Value} {Q:Unit→Shared→Prop} (hh:A.handled = none) (ht:PlainL s.heap t items)
  (hn:(assignEach elts env).length = items.size) (hstar:(assignEach elts env).findIdx? (·.1) = none)
  (h:∀ h',Heap.ExtBut s.heap.objs.size s.heap h'→wpAny (model prog w) A (assignInOrder ((assignEach elts env).map (·.2)) items.toList) Q E { s with heap:=h' }) :
  wpAny (model prog w) A (assign (.Tuple elts x1 pos) env (.ref t)) Q E s:=by
 rw [assign_Tuple]
 refine wpAny_bind (wpAny_standAt ?_)
 unfold unpack
 rw [hn,hstar]
 exact wpAny_bind (wpAny_holding (unpackItems_list hh ht h))
end
section
variable {X:Cx} {pos:Pos}
def gTupL (K:PySem.W.Frag) (n:Nat) (t:TGs):TG:=fun v σ H Q=>∃ a xs,v = .ref a∧SqL K H a xs∧xs.length = n∧t xs σ H Q
theorem pg_tupL {es:List Expr} {k:Nat} {t:TGs} {n:Nat} (hc:X.calm = true) (h:PGs X es t)
  (hn:(assignEach es X.env).length = n:=by rfl) (hst:(assignEach es X.env).findIdx? (·.1) = none:=by rfl):PG X (.Tuple es k pos) (gTupL X.K n t):=by
 intro pins s σ H v u Q I r hw
 obtain ⟨a,xs,e1,hq,hl,hw⟩:=hw
 subst e1
 cases r
 obtain ⟨its,rv,ht,hz⟩:=I.list hq
 refine assign_Tuple_list (I.ok.hd hc) ht (by simp [hn,← hl,rv.length]) hst fun h' hx=>?_
 have I1:Inv X pins σ H { s with heap:=h' }:=I.kept (t':=s.toks) fun b o e=>hx b o (Nat.ne_of_lt (Heap.lt_size e)) e
 exact h pins _ σ H xs _ Q I1 (by simpa using rv) hw
end
theorem ObjOk.btw {P:Program} {w:World} {H H2 H':Hp} {h h':Heap} {a:Addr} {o:HO} (x:ObjOk P w H h a o) (y:ObjOk P w H' h' a o) (s1:Same H H2):ObjOk P w H2 h' a o:=by
 induction o with
 | ins C dx fs=>exact ⟨s1 dx _ x.1,y.2⟩
 | frz ob u ih=>exact ⟨y.1,ih x.2 y.2⟩
 | _=>exact y
def Plus (H H2:Hp):Prop:=Same H H2∧∀ a o,H2 a = some o→H a = some o∨(∃ xs,o = .tup xs)∨∃ xs,o = .lst xs
theorem Plus.refl (H:Hp):Plus H H:=⟨Same.refl H,fun _ _ e=>.inl e⟩
theorem Plus.tup {H H1:Hp} {p:Addr} {xs:List V} (h:Plus H H1) (hp:H1 p = none):Plus H (upd H1 p (.tup xs)):=by
 refine ⟨fun b o e=>?_,fun a o e=>?_⟩
 ·rw [upd_ne (ne_of_none (h.1 b o e) hp)]; exact h.1 b o e
 ·by_cases z:a = p
  ·subst z; rw [upd_same] at e; cases e; exact .inr (.inl ⟨xs,rfl⟩)
  ·rw [upd_ne z] at e; exact h.2 a o e
theorem FnOk.forget {P:Program} {w:World} {K:PySem.W.Frag} {mg:Str→Option Value} {base:Heap} {CX:CXT} {k:Nat} {f:Addr} {fd:FuncData} {ps:List Str} {sp sp':Sp} (F:FnOk P w K mg base CX k f fd ps sp)
  (hs:∀ vs H Q E,sp' vs H Q E→∃ Q',sp vs H Q' E∧∀ v H',Q' v H'→∃ H2,Plus H H2∧Same H2 H'∧Q v H2):FnOk P w K mg base CX k f fd ps sp':=by
 refine ⟨fun vs H Q E h=>?_,fun A outer s H args us vs Q E hr e0 hb r h=>?_⟩
 ·obtain ⟨Q',h',_⟩:=hs vs H Q E h
  exact F.len vs H Q' E h'
 obtain ⟨Q',h',hq⟩:=hs vs H Q E h
 refine codeAny_mono (F.run A outer s H args us vs _ E hr e0 hb r h') fun res s' hs=>?_
 cases res with
 | error e=>exact hs
 | ok fl =>
  cases fl with
  | ret u =>
   obtain ⟨v,H',ho,hbr,un,hok,rv,q'⟩:=hs
   obtain ⟨H2,⟨s1,cl⟩,s2,q⟩:=hq v H' q'
   have fr:∀ b,H' b = none→H2 b = none:=fun b e=>s2.free e
   refine ⟨v,H2,ho,hbr,⟨un.keep,un.slot,fun b o e n hx=>fr b (un.free b o e n hx),un.there,fun b xs e=>s1 b _ e,fun b o u e=>s1 b _ e,fun b ps e=>⟨#[],by rw [s1 b _ e]; simp⟩⟩,fun a o e=>?_,rv,q⟩
   have z:=hok a o (s2 a o e)
   rcases cl a o e with c | ⟨xs,rfl⟩ | ⟨xs,rfl⟩
   ·exact (e0.hok a o c).btw z s1
   ·exact z
   ·exact z
  | next=>exact hs
  | brk=>exact hs
  | cont=>exact hs
theorem FnOk.clean {P:Program} {w:World} {K:PySem.W.Frag} {mg:Str→Option Value} {base:Heap} {CX:CXT} {k:Nat} {f:Addr} {fd:FuncData} {ps:List Str} {sp sp':Sp} (F:FnOk P w K mg base CX k f fd ps sp)
  (h:∀ vs H Q E,sp' vs H Q E→sp vs H (fun v H'=>Same H H'∧Q v H) E):FnOk P w K mg base CX k f fd ps sp' :=
 F.forget fun vs H Q E hs=>⟨_,h vs H Q E hs,fun v H' ⟨s,q⟩=>⟨H,Plus.refl H,s,q⟩⟩
theorem Same.upd {H:Hp} {p:Addr} {o:HO} (hp:H p = none):Same H (upd H p o):=fun b u e=>by
 rw [upd_ne (ne_of_none e hp)]; exact e
theorem FnOk.cleanP {P:Program} {w:World} {K:PySem.W.Frag} {mg:Str→Option Value} {base:Heap} {CX:CXT} {k:Nat} {f:Addr} {fd:FuncData} {ps:List Str} {sp sp':Sp} (F:FnOk P w K mg base CX k f fd ps sp)
  (h:∀ vs H Q E,sp' vs H Q E→sp vs H (fun v H'=>Same H H'∧∃ p xs,H' p = some (.tup xs)∧H p = none∧Q v (upd H p (.tup xs))) E):FnOk P w K mg base CX k f fd ps sp' :=
 F.forget fun vs H Q E hs=>⟨_,h vs H Q E hs,fun v H' ⟨s,p,xs,e,z,q⟩=>by
  refine ⟨_,(Plus.refl H).tup (xs:=xs) z,fun b o y=>?_,q⟩
  by_cases c:b = p
  ·subst c; rw [upd_same] at y; cases y; exact e
  ·rw [upd_ne c] at y; exact s b o y⟩
section
variable {X:Cx}
theorem IxR.imp {r r':R2} (h:IxR X r) (i:∀ x y H Q,r' x y H Q→r x y H Q):IxR X r':=by
 intro b pos pins s σ H x y v u Q I rx ry q hs
 exact h _ _ _ _ _ _ _ _ _ _ _ I rx ry (i _ _ _ _ q) hs
def rIxTH:R2:=fun x y H Q=>∃ p xs i v,x = .ref p∧y = .int i∧H p = some (.tup xs)∧atI xs i = some v∧Q v H
def rIxLH:R2:=fun x y H Q=>∃ p xs i v,x = .ref p∧y = .int i∧H p = some (.lst xs)∧atI xs i = some v∧Q v H
theorem ix_tupH:IxR X rIxTH:=ix_tup.imp fun x y H Q ⟨p,xs,i,v,a,b,c,d⟩=>⟨p,xs,i,v,a,b,.of c,d⟩
theorem ix_listH:IxR X rIxLH:=ix_list.imp fun x y H Q ⟨p,xs,i,v,a,b,c,d⟩=>⟨p,xs,i,v,a,b,.of c,d⟩
theorem atI_0 {α:Type} {x:α} {xs:List α} : atI (x :: xs) 0 = some x:=atI_nat (j:=0) rfl
theorem atI_1 {α:Type} {x y:α} {xs:List α} : atI (x :: y :: xs) 1 = some y:=atI_nat (j:=1) rfl
theorem CallR.imp {f:Value} {r r':List V→Hp→VK→Prop} (h:CallR X f r) (i:∀ xs H Q,r' xs H Q→r xs H Q):CallR X f r':=fun pins s σ H xs us Q I rx q=>h pins s σ H xs us Q I rx (i _ _ _ q)
def rLenT:List V→Hp→VK→Prop:=fun xs H Q=>∃ p ys,xs = [.ref p]∧H p = some (.tup ys)∧Q (.int ys.length) H
def rLenL:List V→Hp→VK→Prop:=fun xs H Q=>∃ p ys,xs = [.ref p]∧H p = some (.lst ys)∧Q (.int ys.length) H
theorem call_lenL:CallR X (.builtin "len") rLenL:=call_len_seq.imp fun xs H Q ⟨p,ys,a,b,c⟩=>⟨p,ys,a,.inl (.of b),c⟩
def tyS (H:Hp):V→Option String
 | .non=>some "NoneType"
 | .bl _=>some "bool"
 | .int _=>some "int"
 | .str _=>some "str"
 | .ref a=>match H a with
  | some (.lst _)=>some "list"
  | some (.tup _)=>some "tuple"
  | some (.dK _)=>some "dict"
  | _=>none
 | _=>none
theorem tyS_of {K:PySem.W.Frag} {H:Hp} {x:V} {t:String} (h:tyS H x = some t):TyOf K H x (.type t):=by
 cases x with
 | non=>cases h; exact .non
 | bl=>cases h; exact .bl _
 | int=>cases h; exact .int _
 | str=>cases h; exact .str _
 | byt=>cases h
 | flt=>cases h
 | ty=>cases h
 | ref a =>
  have h:(match H a with
   | some (.lst _)=>some "list"
   | some (.tup _)=>some "tuple"
   | some (.dK _)=>some "dict"
   | _=>none) = some t:=h
  split at h
  ·cases h; exact .lst (by assumption)
  ·cases h; exact .tup (by assumption)
  ·cases h; exact .dK (by assumption)
  ·cases h
def subS (t T:String):Bool:=(t == T) || (t == "bool" && T == "int")
theorem kit_sub {K:PySem.W.Frag} {t T:String} (ht:t ∈ ["NoneType", "bool", "int", "str", "list", "tuple", "dict"]) (hT:T ∈ ["bool", "int", "str", "list", "tuple", "dict"]):PySem.W.kitOne K (.type t) (.type T) = some (subS t T):=by
 simp only [List.mem_cons,List.not_mem_nil,or_false] at ht hT
 rcases ht with rfl | rfl | rfl | rfl | rfl | rfl | rfl <;> rcases hT with rfl | rfl | rfl | rfl | rfl | rfl <;> with_unfolding_all rfl
theorem tyS_in {H:Hp} {x:V} {t:String} (h:tyS H x = some t):t ∈ ["NoneType", "bool", "int", "str", "list", "tuple", "dict"]:=by
 cases x with
 | non=>cases h; decide
 | bl=>cases h; decide
 | int=>cases h; decide
 | str=>cases h; decide
 | byt=>cases h
 | flt=>cases h
 | ty=>cases h
 | ref a =>
  have h:(match H a with
   | some (.lst _)=>some "list"
   | some (.tup _)=>some "tuple"
   | some (.dK _)=>some "dict"
   | _=>none) = some t:=h
  split at h <;> cases h <;> decide
def rIsi:List V→Hp→VK→Prop:=fun xs H Q=>∃ x T t,xs = [x,.ty T]∧T ∈ ["bool", "int", "str", "list", "tuple", "dict"]∧tyS H x = some t∧Q (.bl (subS t T)) H
theorem call_isi:CallR X (.builtin "isinstance") rIsi:=call_isinst.imp fun xs H Q ⟨x,T,t,a,b,c,d⟩=>⟨x,.ty T,.type T,.type t,_,a,.inl ⟨T,rfl,rfl⟩,tyS_of c,kit_sub (tyS_in c) b,d⟩
theorem PG.imp {e:Expr} {t t':TG} (h:PG X e t) (i:∀ v σ H Q,t' v σ H Q→t v σ H Q):PG X e t':=fun pins s σ H v u Q I r q=>h pins s σ H v u Q I r (i _ _ _ _ q)
def gTupH (n:Nat) (t:TGs):TG:=fun v σ H Q=>∃ a xs,v = .ref a∧H a = some (.tup xs)∧xs.length = n∧t xs σ H Q
def gLstH (n:Nat) (t:TGs):TG:=fun v σ H Q=>∃ a xs,v = .ref a∧H a = some (.lst xs)∧xs.length = n∧t xs σ H Q
theorem pg_tupH {es:List Expr} {k:Nat} {t:TGs} {n:Nat} {pos:Pos} (hc:X.calm = true) (h:PGs X es t) (hn:(assignEach es X.env).length = n:=by rfl) (hst:(assignEach es X.env).findIdx? (·.1) = none:=by rfl):PG X (.Tuple es k pos) (gTupH n t) :=
 (pg_tup hc h hn hst).imp fun v σ H Q ⟨a,xs,e1,e2,e3⟩=>⟨a,xs,e1,.of e2,e3⟩
theorem pg_lstH {es:List Expr} {k:Nat} {t:TGs} {n:Nat} {pos:Pos} (hc:X.calm = true) (h:PGs X es t) (hn:(assignEach es X.env).length = n:=by rfl) (hst:(assignEach es X.env).findIdx? (·.1) = none:=by rfl):PG X (.Tuple es k pos) (gLstH n t) :=
 (pg_tupL hc h hn hst).imp fun v σ H Q ⟨a,xs,e1,e2,e3⟩=>⟨a,xs,e1,.of e2,e3⟩
def rSrtH:List V→Hp→VK→Prop:=fun xs H Q=>∃ l ns,xs = [.ref l]∧H l = some (.lst (ns.map V.int))∧ns.length < 64∧∀ (ms:List Int) p,H p = none→ms.Perm ns→ms.Pairwise (· ≤ ·)→Q (.ref p) (upd H p (.lst (ms.map V.int)))
theorem call_srtH:CallR X (.builtin "sorted") rSrtH:=call_sorted.imp fun xs H Q ⟨l,ns,a,b,c⟩=>⟨l,ns,a,.of b,c⟩
theorem tyS_non {H:Hp} : tyS H .non = some "NoneType" := rfl
theorem tyS_bl {H:Hp} {b:Bool} : tyS H (.bl b) = some "bool" := rfl
theorem tyS_int {H:Hp} {i:Int} : tyS H (.int i) = some "int" := rfl
theorem tyS_str {H:Hp} {x:Str} : tyS H (.str x) = some "str" := rfl
def truB:V→Option Bool
 | .bl b=>some b
 | .int i=>some (i != 0)
 | .non=>some false
 | _=>none
theorem truB_of {K:PySem.W.Frag} {x:V} {H:Hp} {k:Bool} (h:truB x = some k):TruV K x H k:=by
 cases x <;> cases h <;> rfl
def tTru (ta:TE):TT:=fun σ H Q=>ta σ H fun x H'=>∃ k,truB x = some k∧Q k H'
theorem pt_tru {a:Expr} {ta:TE} (ha:PE X a ta) (he:∀ whole,isTrue a X.env whole = (do let v ← whole; standAt a.pos; holding [v] (truthy v))):PT X a (tTru ta):=by
 intro pins s σ H Q I h
 exact isTrue_plain (thn (ha pins s σ H _ I h) fun v s1 ⟨x,H1,I1,r1,k,e,q1⟩=>tru_ok pins s1 σ H1 x v Q I1 r1 ⟨k,truB_of e,q1⟩) (he _)
end
section
variable {X:Cx} {st:Stmt} {rest:List Stmt} {t u:TS}
end
def OkF (P:Program) (w:World) (K:PySem.W.Frag) (mg:Str→Option Value) (base:Heap) (k:Nat) (x:Str) (ps:List Str) (sp:Sp):Prop :=
 ∃ f fd,FnOk P w K mg base CX0 k f fd ps sp∧Binds K fd ps []∧mg x = some (.ref f)∧PySem.W.keepIn K (.ref f) = true
def HasF (K:PySem.W.Frag) (mg:Str→Option Value) (x:Str) (st:Stmt) (ps:List Str):Prop :=
 ∃ f fd,Fun K x x st f fd∧(∀ us:List Value,us.length = ps.length→bindArgs fd ⟨us,[]⟩ = pure (ps.zip us))∧mg x = some (.ref f)
theorem HasF.ok {P:Program} {w:World} {K:PySem.W.Frag} {mg:Str→Option Value} {base:Heap} {k:Nat} {x:Str} {st:Stmt} {ps:List Str} {sp:Sp} (h:HasF K mg x st ps)
  (hf:∀ f fd,Fun K x x st f fd→FnOk P w K mg base CX0 k f fd ps sp):OkF P w K mg base k x ps sp:=by
 obtain ⟨f,fd,a,b,c⟩:=h
 exact ⟨f,fd,hf f fd a,.all b,c,a.kp⟩
theorem hasF_mk {K:PySem.W.Frag} {h:Heap} {mg:Str→Option Value} {x:Str} {st:Stmt} {ps:List Str} {f:Addr} {oc:Value} {od an:Option Addr} {osl:Array (Option Value)} {kV doc pm cdv ct:Value} (X:K.In h) (G:h.Ns mainGlobals mg)
  (a:PySem.W.nsIn K mainGlobals x = some (some (.ref f))) (l:K.lookup f = some ⟨oc,od,.func (PySem.W.fnOf x x (defArgs st) (defBody st) (defScope st) .none kV doc pm an cdv ct),osl⟩)
  (c:PySem.W.codeIn K cdv x = true) (k:PySem.W.keepIn K (.ref f) = true)
  (hb:∀ (kV doc pm:Value) (an:Option Addr) (cdv ct:Value) (us:List Value),us.length = ps.length→bindArgs (PySem.W.fnOf x x (defArgs st) (defBody st) (defScope st) .none kV doc pm an cdv ct) ⟨us,[]⟩ = pure (ps.zip us)):HasF K mg x st ps :=
 ⟨f,_,fun_mk l c k,hb kV doc pm an cdv ct,PySem.W.mg_of X G a⟩
def spLaw (K:PySem.W.Frag):Sp:=fun vs H Q _=>∃ (a:Addr) (ns:List Int),vs = [.ref a]∧SqL K H a (ns.map V.int)∧ns.length ≤ 63∧Only H∧∀ H',Q (.bl true) H'
theorem walkF {l:PySem.W.OpenLaw} {k:Nat} {x:Str} {q:Program} {loose:List Str} {XP:(Str→Option Value)→Heap→Prop} {YP:World→Heap→Prop} {d:DefRec} {K:Params→PySem.W.Frag} (hn:l.most = some 63) (hdf:d.params.defaults = [])
  (hr:Room k callerA) (hY:∀ (w:World) (h:Heap),YP w h→(K w.params).In h)
  (F:∀ (w:World) (mg:Str→Option Value) (fa:Addr) (h:Heap),(K w.params).In h→h.Ns mainGlobals mg→mg d.name = some (.ref fa) →
   ∃ st,HasF (K w.params) mg d.name st [x]∧∀ (base:Heap) (f:Addr) (fd:FuncData),Fun (K w.params) d.name d.name st f fd→FnOk l.prog w (K w.params) mg base CX0 k f fd [x] (spLaw (K w.params))) :
  PySem.W.WalkO q loose XP YP l.row.toRowW d [] (fun f vs=>PySem.call f vs):=by
 refine L2.walk_of (n:=63) (k:=k) (x:=x) (CX:=fun _=>CX0) (sp:=fun w=>spLaw (K w.params)) hn (by decide) hdf hr hY (fun w mg fa h KX G hmg=>?_) (fun _ _ a ns hl hO hS=>⟨a,ns,rfl,hS,hl,hO,fun _=>rfl⟩) fun _ _ _ _ _ z=>z
 obtain ⟨st,⟨f,fd,hf,hb,hm⟩,ok⟩:=F w mg fa h KX G hmg
 rw [hm] at hmg
 have e:f = fa:=by injection hmg with z; injection z
 subst e
 exact ⟨fd,fun s u=>.of_eq (hb [u] rfl),fun base _ _=>ok base f fd hf⟩
section
variable {X:Cx} {p pos:Pos} {e:Expr} {es:List Expr} {t:TA} {x:Str} {k:Nat} {ps:List Str} {sp:Sp}
def tCallF (sp:Sp) (t:TA):TE:=fun σ H Q=>t σ H fun vs H1=>sp vs H1 Q E0
theorem pe_callF (G:OkF X.prog X.w X.K X.mg X.base k x ps sp) (hr:Room k X.A) (hg:Gl X x) (ha:PA X (e :: es) t) (hdb:(x == ("__debug__" : Str)) = false:=by decide)
  (he:starEach (e :: es) X.env = (false,eval e X.env) :: starEach es X.env:=by rfl) (hpl:(backTo pos (starEach es X.env)).any (·.1) = false:=by rfl):PE X (.Call (.Name x p) (e :: es) [] pos) (tCallF sp t):=by
 obtain ⟨f,fd,F,b,hm,kp⟩:=G
 intro pins s σ H Q I h
 refine pe_call F hr hg hm kp b .nil pass0 ha hdb he hpl pins s σ H Q I ?_
 show t σ H fun vs H1=>sp (vs ++ []) H1 Q E0
 simp only [List.append_nil]
 exact h
end
theorem abs_if (a:Int):(if a < 0 then -a else a) = ((a.natAbs:Nat):Int):=by split <;> omega
theorem perm_two {ms:List Int} {x y:Int} (h:ms.Perm [x,y]):ms = [x,y]∨ms = [y,x]:=by
 match ms,h.length_eq with
 | [l,k],_ =>
  have h1:l ∈ [x,y]:=h.mem_iff.mp (by simp)
  simp only [List.mem_cons,List.not_mem_nil,or_false] at h1
  rcases h1 with rfl | rfl
  ·have h2:=(List.perm_cons l).mp h
   have h3:=h2.mem_iff.mp (List.mem_cons_self)
   simp only [List.mem_cons,List.not_mem_nil,or_false] at h3
   exact .inl (by rw [h3])
  ·have h2:=(List.perm_cons l).mp (h.trans (List.Perm.swap ..))
   have h3:=h2.mem_iff.mp (List.mem_cons_self)
   simp only [List.mem_cons,List.not_mem_nil,or_false] at h3
   exact .inr (by rw [h3])
theorem fmod_nat (a b:Nat):Int.fmod (a:Int) (b:Int) = ((a % b:Nat):Int):=by
 rw [Int.fmod_eq_emod_of_nonneg _ (Int.natCast_nonneg b)]; rfl
theorem fdiv_pos (a:Int) {b:Int} (h:0 < b):Int.fdiv a b = a / b:=Int.fdiv_eq_ediv_of_nonneg a (Int.le_of_lt h)
theorem Bd.div {a b:Int} (h:Bd a) (hb:0 < b):Bd (a / b):=by
 unfold Bd at *
 refine Nat.lt_of_le_of_lt ?_ h
 have e:=Int.mul_ediv_add_emod a b
 have r0:=Int.emod_nonneg a (show b ≠ 0 by omega)
 have r1:=Int.emod_lt_of_pos a hb
 generalize a / b = q at *
 generalize a % b = r at *
 rcases (by omega:q = 0∨1 ≤ q∨q ≤ -1) with z | z | z
 ·subst z; simp
 ·have:=Int.mul_le_mul_of_nonneg_right (show 1 ≤ b by omega) (show 0 ≤ q by omega)
  omega
 ·have h1:b * (q + 1) ≤ 1 * (q + 1):=Int.mul_le_mul_of_nonpos_right (show 1 ≤ b by omega) (show q + 1 ≤ 0 by omega)
  rw [Int.mul_add] at h1
  omega
end L2
set_option Elab.async false
set_option linter.all false
set_option maxRecDepth 100000
set_option maxHeartbeats 4000000
namespace L2
open PySem PySem.Spec PyProof.Rows
def TrD (h base:Heap) (e:Addr) (cls:Value) (d:Option Addr) (fl:Value):Prop :=
 ∃ oe vs T oT ts,h.get? e = some oe∧(oe.cls = cls∧oe.dict = d)∧oe.data = .fields vs∧vs[1]? = some (.ref T)∧base.get? T = none∧T ≠ e∧h.get? T = some oT∧oT.data = .fields ts∧ts[3]? = some fl
def FlyD (base:Heap) (l:List Env) (e:Addr) (cls:Value) (d:Option Addr) (fl:Value) (h:Heap):Prop :=
 base.StaysIn h∧base.get? e = none∧h.FunFrames base l∧TrD h base e cls d fl
section
variable {M:Model} {A:Around} {E:Value→Shared→Prop} {s:Shared} {base:Heap} {env:Env} {outer l:List Env} {L e:Addr} {cls:Value} {d:Option Addr} {Q:Unit→Shared→Prop}
theorem dict_mapFields (o:Obj) (f:Array Value→Array Value):(Obj.mapFields f o).dict = o.dict:=by
 unfold Obj.mapFields
 split <;> rfl
theorem entryD {oe:Obj} {vs:Array Value} {head:Value} {hadNext:Bool} (hfr:A.frames = some (env :: outer)) (hl:s.heap.FunFrames base (env :: outer)) (hf:env.frame = some L) (he:s.heap.get? e = some oe)
  (hkb:base.StaysIn s.heap) (hen:base.get? e = none) (hd:oe.data = .fields vs) (hsz:1 < vs.size) (h:∀ h',FlyD base (env :: outer) e oe.cls oe.dict (rawInt L) h'→s.heap.UpToSlots h'→Q () { s with heap:=h' }) :
  wpAny M A (do let a ← frameOf env; let pl ← entryPlaceOf L hadNext; let b ← EntryCells.newEntry head a .none (rawInt L) .none pl; setField (.ref e) 1 b) Q E s:=by
 have nofr:e ∉ (env :: outer).filterMap (·.frame):=fun z=>by
  obtain ⟨_,o,ho,hnf⟩:=hl.mem z
  rw [he] at ho; cases ho; exact hnf vs hd
 refine wpAny_bind (wpAny_frameOf_fun hfr hl hf fun g hg=>wpAny_bind (wpAny_entryPlaceOf fun pl hpl=>?_))
 unfold EntryCells.newEntry newFields
 refine wpAny_bind (wpAny_newObj_type ?_ (hpl.sizeOk5 _ _ _ _ _))
 have eg:g.get? e = some oe:=(hg.2.1 e nofr).trans he
 have kg:base.StaysIn g:=fun b o q=>(hg.2.1 b fun z=>by rw [(hl.mem z).1] at q; cases q).trans (hkb b o q)
 generalize ho':({ cls:=.type "traceback",dict:=none,data:=.fields ([head,.ref L,.none,rawInt L,.none] ++ (if pl.isEmpty then List.replicate 6 Value.none else pl)).toArray } : Obj) = ot
 have nTe:g.objs.size ≠ e:=Nat.ne_of_gt (Heap.lt_size eg)
 have e2:(g.push ot).get? e = some oe:=Heap.get?_push_of_some _ eg
 refine wpAny_setField e2 hd hsz (h _ ?_ ?_)
 all_goals
  have d3:=Obj.data_mapFields hd (·.setIfInBounds 1 (Value.ref g.objs.size))
  have e3:=Heap.get?_update_self (Obj.mapFields (·.setIfInBounds 1 (Value.ref g.objs.size))) e2 (Obj.isFreed_of_fields d3)
  have keep:∀ b o,b ≠ e→g.get? b = some o→((g.push ot).update e (Obj.mapFields (·.setIfInBounds 1 (Value.ref g.objs.size)))).get? b = some o:=fun b o nb q=>by
   rw [Heap.get?_update_other _ _ (Ne.symm nb)]; exact Heap.get?_push_of_some _ q
  have nr:∀ b o,s.heap.get? b = some o→(∀ ws,o.data ≠ .fields ws)→b ≠ e:=fun b o q nf z=>by
   rw [z,he] at q; cases q; exact nf vs hd
 ·refine ⟨fun b o q=>keep b o (fun z=>by rw [z,hen] at q; cases q) (kg b o q),hen,hl.of_keeps fun b o q nf=>?_,?_⟩
  ·obtain ⟨sl,z⟩:=hg.2.2 b o q
   exact ⟨_,keep b _ (nr b o q nf) z,rfl⟩
  ·refine ⟨_,_,g.objs.size,ot,_,e3,⟨Obj.cls_mapFields _ _,dict_mapFields _ _⟩,d3,by simp [hsz],kg.fresh,nTe,?_,by rw [← ho'],?_⟩
   ·rw [Heap.get?_update_other _ _ (Ne.symm nTe)]; exact Heap.get?_push_size g (by rw [← ho']; rfl)
   ·first | (simp; done) | (rcases hpl with rfl | ⟨_,_,_,_,_,_,_,rfl⟩ <;> simp)
 ·intro b o q nf
  obtain ⟨sl,z⟩:=hg.2.2 b o q
  exact ⟨sl,keep b _ (nr b o q nf) z⟩
theorem noteFirstD {oe:Obj} {vs:Array Value} (hfr:A.frames = some (env :: outer)) (hl:s.heap.FunFrames base (env :: outer)) (hf:env.frame = some L) (he:s.heap.get? e = some oe)
  (hkb:base.StaysIn s.heap) (hen:base.get? e = none) (hd:oe.data = .fields vs) (h1:vs[1]? = some .none) (h:∀ h',FlyD base (env :: outer) e oe.cls oe.dict (rawInt L) h'→s.heap.UpToSlots h'→Q () { s with heap:=h' }) :
  wpAny M A (noteFrame (.ref e) env) Q E s:=by
 unfold noteFrame
 simp only [hf]
 refine wpAny_bind (wpAny_field he hd h1 ?_)
 rw [if_neg (by decide)]
 exact entryD hfr hl hf he hkb hen hd (Array.getElem?_eq_some_iff.mp h1).1 h
theorem noteNextD (hfr:A.frames = some (env :: outer)) (hf:env.frame = some L) (x:FlyD base (env :: outer) e cls d .none s.heap)
  (h:∀ h',FlyD base (env :: outer) e cls d (rawInt L) h'→s.heap.UpToSlots h'→Q () { s with heap:=h' }):wpAny M A (noteFrame (.ref e) env) Q E s:=by
 obtain ⟨hkb,hen,hl,oe,vs,T,oT,ts,he,⟨hc,hdd⟩,hd,h1,nT,nTe,hT,hdT,h3⟩:=x
 subst hc hdd
 unfold noteFrame
 simp only [hf]
 refine wpAny_bind (wpAny_field he hd h1 ?_)
 rw [if_pos (show (Value.ref T != Value.none) = true from by simp)]
 refine wpAny_bind (wpAny_field hT hdT h3 ?_)
 rw [if_neg (show ¬ ((Value.none == rawInt L) = true) from by simp [rawInt])]
 refine wpAny_bind (wpAny_setField hT hdT (Array.getElem?_eq_some_iff.mp h3).1 ?_)
 have other:∀ b,b ≠ T→(s.heap.update T (Obj.mapFields (·.setIfInBounds 3 Value.none))).get? b = s.heap.get? b:=fun b hb=>Heap.get?_update_other _ _ (Ne.symm hb)
 have nr:∀ b o,s.heap.get? b = some o→(∀ ws,o.data ≠ .fields ws)→b ≠ T:=fun b o q nf z=>by
  rw [z,hT] at q; cases q; exact nf ts hdT
 refine entryD (s:={ s with heap:=_ }) hfr (hl.of_keeps fun b o q nf=>⟨o,(other b (nr b o q nf)).trans q,rfl⟩) hf ((other e (Ne.symm nTe)).trans he)
  (fun b o q=>(other b fun z=>by rw [z,nT] at q; cases q).trans (hkb b o q)) hen hd (Array.getElem?_eq_some_iff.mp h1).1 fun h' y up=>h h' y fun b o q nf=>up b o ((other b (nr b o q nf)).trans q) nf
theorem landD {fl:Value} (x:FlyD base l e cls d fl s.heap) (h:∀ h',FlyD base l e cls d .none h'→s.heap.UpToSlots h'→Q () { s with heap:=h' }):wpAny M A (setFlight (.ref e) none) Q E s:=by
 obtain ⟨hkb,hen,hl,oe,vs,T,oT,ts,he,hc,hd,h1,nT,nTe,hT,hdT,h3⟩:=x
 have z3:3 < ts.size:=(Array.getElem?_eq_some_iff.mp h3).1
 have other:∀ b,b ≠ T→(s.heap.update T (Obj.mapFields (·.setIfInBounds 3 ((none:Option Addr).elim Value.none fun f=>rawInt f)))).get? b = s.heap.get? b:=fun b hb=>Heap.get?_update_other _ _ (Ne.symm hb)
 have nr:∀ b o,s.heap.get? b = some o→(∀ ws,o.data ≠ .fields ws)→b ≠ T:=fun b o q nf z=>by
  rw [z,hT] at q; cases q; exact nf ts hdT
 unfold setFlight
 refine wpAny_bind (wpAny_field he hd h1 ?_)
 rw [if_pos (show (Value.ref T != Value.none) = true from by simp)]
 refine wpAny_setField hT hdT z3 (h _ ⟨fun b o q=>(other b fun z=>by rw [z,nT] at q; cases q).trans (hkb b o q),hen,hl.of_keeps fun b o q nf=>⟨o,(other b (nr b o q nf)).trans q,rfl⟩,?_⟩ fun b o q nf=>⟨o.slots,(other b (nr b o q nf)).trans q⟩)
 exact ⟨oe,vs,T,_,_,(other e (Ne.symm nTe)).trans he,hc,hd,h1,nT,nTe,Heap.get?_update_self _ hT (Obj.isFreed_of_fields (Obj.data_mapFields hdT _)),Obj.data_mapFields hdT _,by simp [z3]⟩
theorem FlyD.pop {fl:Value} {h:Heap} (x:FlyD base (env :: outer) e cls d fl h):FlyD base outer e cls d fl h:=⟨x.1,x.2.1,x.2.2.1.2.2,x.2.2.2⟩
theorem leaveOnD (hfr:A.frames = some (env :: outer)) (hf:env.frame = some L) (x:FlyD base (env :: outer) e cls d .none s.heap)
  (h:∀ h',FlyD base outer e cls d .none h'→s.heap.UpToSlots h'→Q () { s with heap:=h' }):wpAny M A (leaving env (.ref e)) Q E s:=by
 unfold leaving
 exact wpAny_bind (noteNextD hfr hf x fun h1 y up=>landD y fun h2 z up2=>h h2 z.pop (up.trans up2))
theorem leaveNewD {h0:Heap} {oe:Obj} {vs:Array Value} (hfr:A.frames = some (env :: outer)) (hf:env.frame = some L) (hkb:base.StaysIn h0) (hl:h0.FunFrames base (env :: outer)) (keeps:∀ b o,h0.get? b = some o→s.heap.get? b = some o)
  (new:h0.get? e = none) (he:s.heap.get? e = some oe) (hd:oe.data = .fields vs) (h1:vs[1]? = some .none)
  (h:∀ h',FlyD base outer e oe.cls oe.dict .none h'→s.heap.UpToSlots h'→Q () { s with heap:=h' }):wpAny M A (leaving env (.ref e)) Q E s:=by
 have hen:base.get? e = none:=by
  cases q:base.get? e with
  | none=>rfl
  | some o=>have:=hkb e o q; rw [new] at this; cases this
 unfold leaving
 exact wpAny_bind (noteFirstD hfr (hl.of_keeps fun b o q _=>⟨o,keeps b o q,rfl⟩) hf he (fun b o q=>keeps b o (hkb b o q)) hen hd h1 fun h1 y up=>landD y fun h2 z up2=>h h2 z.pop (up.trans up2))
end
theorem ObjOk.there {P:Program} {w:World} {H:Hp} {h:Heap} {a:Addr} {o:HO} (x:ObjOk P w H h a o):∃ ob,h.get? a = some ob:=by
 cases o with
 | lst xs=>obtain ⟨_,_,_,_,e⟩:=x; exact ⟨_,e⟩
 | tup xs=>obtain ⟨_,_,_,o,e,_⟩:=x; exact ⟨_,e⟩
 | dK kvs=>obtain ⟨_,_,_,_,o,_,_,e,_⟩:=x; exact ⟨_,e⟩
 | set S n=>obtain ⟨o,_,_,_,e,_⟩:=x; exact ⟨_,e⟩
 | ins C dx fs=>obtain ⟨_,_,_,e,_⟩:=x; exact ⟨_,e⟩
 | own y=>exact x
 | xd fs=>obtain ⟨_,⟨_,_,_,e,_⟩,_⟩:=x; exact ⟨_,e⟩
 | rng lo hi=>obtain ⟨_,_,_,e⟩:=x; exact ⟨_,e⟩
 | frz ob u=>obtain ⟨e,_⟩:=x; exact ⟨_,e⟩
 | tbl ps=>exact ⟨_,(show h.get? a = some _ from x)⟩
 | met f y=>exact ⟨_,(show h.get? a = some _ from x)⟩
 | ext φ=>obtain ⟨_,e,_⟩:=x; exact e
structure Fly (P:Program) (w:World) (l:List Env) (H:Hp) (s:Shared) (a:Addr) (C:Value) (H':Hp) (s':Shared) (B:Heap) (d:Option Addr):Prop where
 os:s'.os = s.os
 bare:AllBare s'.gens
 new:s.heap.get? a = none
 un:Un (frs l) [] H H' s.heap s'.heap
 hok:HOk P w H' s'.heap
 frf:∀ b ∈ frs l,H' b = none
 fl:FlyD B l a C d .none s'.heap
 cov:∀ b o,s'.heap.get? b = some o→b ∉ frs l→((∃ u,s.heap.get? b = some u)∨∃ u,H' b = some u)→B.get? b = some o
section
variable {P:Program} {w:World} {l:List Env} {H H':Hp} {s s':Shared} {a:Addr} {C:Value} {B:Heap} {d:Option Addr} {h':Heap}
theorem Fly.trk (F:Fly P w l H s a C H' s' B d) {b:Addr} {u:HO} {o:Obj} (e:H' b = some u) (q:s'.heap.get? b = some o):B.get? b = some o :=
 F.cov b o q (fun z=>by rw [F.frf b z] at e; cases e) (.inr ⟨u,e⟩)
theorem Fly.hok' (F:Fly P w l H s a C H' s' B d) (k:∀ b o,B.get? b = some o→h'.get? b = some o):HOk P w H' h':=fun b u e =>
 (F.hok b u e).stay (fun c v hc q=>k c v (by
  rcases hc with z | z
  ·subst z; exact F.trk e q
  ·exact F.trk z q)) (fun _ q=>q) fun _ _ q=>q
theorem Fly.un' (F:Fly P w l H s a C H' s' B d) (k:∀ b o,B.get? b = some o→h'.get? b = some o) (up:s'.heap.UpToSlots h'):Un (frs l) [] H H' s.heap h':=by
 have nf:∀ b ∈ frs l,∀ o,s'.heap.get? b = some o→∀ vs,o.data ≠ .fields vs:=fun b hb o e=>by
  obtain ⟨_,o',e',d⟩:=F.fl.2.2.1.mem hb
  rw [e] at e'
  cases e'
  exact d
 refine ⟨fun b o q n hb hx=>k b o (F.cov b o (F.un.keep b o q n hb hx) hb (.inl ⟨o,q⟩)),fun b o q n hb hx=>?_,F.un.free,fun b o q hx=>?_,F.un.tups,F.un.frzs,F.un.tbls⟩
 ·obtain ⟨sl,e⟩:=F.un.slot b o q n hb hx
  obtain ⟨sl',e'⟩:=up b _ e (nf b hb _ e)
  exact ⟨sl',e'⟩
 ·obtain ⟨o',e⟩:=F.un.there b o q hx
  by_cases hb:b ∈ frs l
  ·obtain ⟨sl',e'⟩:=up b _ e (nf b hb _ e)
   exact ⟨_,e'⟩
  ·exact ⟨o',k b o' (F.cov b o' e hb (.inl ⟨o,q⟩))⟩
end
section
variable {X:Cx} {pins:List (Addr × Obj)} {σ:List (Option V)} {H H':Hp} {s s':Shared} {a:Addr} {C:Value} {B:Heap} {d:Option Addr} {h':Heap}
theorem Inv.flown (I:Inv X pins σ H s) (F:Fly X.prog X.w X.stack H s a C H' s' B d) (k:∀ b o,B.get? b = some o→h'.get? b = some o) (up:s'.heap.UpToSlots h'):Inv X pins σ H' { s' with heap:=h' } :=
 I.call' (s':={ s' with heap:=h' }) (ch:=[]) F.os (F.un' k up) (F.hok' k) F.bare fun _ z=>nomatch z
theorem Inv.old (I:Inv X pins σ H s) (hx:X.ex = []) {b:Addr} {o:Obj} (e:X.s₀.heap.get? b = some o):(∃ u,s.heap.get? b = some u)∧b ≠ X.env.locals:=by
 obtain ⟨u,q⟩:=I.base.there b o e (by rw [hx]; simp)
 exact ⟨⟨u,q⟩,Nat.ne_of_lt (Nat.lt_of_lt_of_le (Heap.lt_size e) I.ok.above)⟩
theorem Inv.nostk (I:Inv X pins σ H s) {b:Addr} (h1:b ≠ X.env.locals) (h2:b ∉ X.fs):b ∉ frs X.stack:=fun z=>by
 rcases List.mem_cons.mp (I.stkSub b z) with e | e
 ·exact h1 e
 ·exact h2 e
theorem Inv.flyOut (I:Inv X pins σ H s) (hx:X.ex = []) (F:Fly X.prog X.w X.stack H s a C H' s' B d) (fl:FlyD B X.outer a C d .none h') (up:s'.heap.UpToSlots h') :
  Fly X.prog X.w X.outer X.H₀ X.s₀ a C H' { s' with heap:=h' } B d:=by
 have J:=I.flown F fl.1 up
 refine ⟨J.os,J.bare,?_,by have:=J.base; rw [hx] at this; exact this,J.hok,fun b hb=>?_,fl,fun b o e hb hc=>?_⟩
 ·cases q:X.s₀.heap.get? a with
  | none=>rfl
  | some o =>
   obtain ⟨⟨u,z⟩,_⟩:=I.old hx q
   rw [F.new] at z; cases z
 ·obtain ⟨_,o,ho,_⟩:=I.ok.funs.mem hb
  exact J.base.free b o ho (I.ok.frf b hb) fun z=>I.ok.exfs b z hb
 ·rcases hc with ⟨u,q⟩ | ⟨u,q⟩
  ·obtain ⟨⟨v,z⟩,n⟩:=I.old hx q
   obtain ⟨o',e'⟩:=F.un.there b v z (by simp)
   have y:=F.cov b o' e' (I.nostk n hb) (.inl ⟨v,z⟩)
   have e2:=fl.1 b o' y
   rw [show ({ s' with heap:=h' } : Shared).heap.get? b = h'.get? b from rfl,e2] at e
   cases e
   exact y
  ·obtain ⟨o',e'⟩:=(F.hok b u q).there
   have y:=F.trk q e'
   have e2:=fl.1 b o' y
   rw [show ({ s' with heap:=h' } : Shared).heap.get? b = h'.get? b from rfl,e2] at e
   cases e
   exact y
theorem Inv.flyNew (I:Inv X pins σ H s) (hx:X.ex = []) {h1:Heap} {t:Nat} (keeps:∀ b o,s.heap.get? b = some o→h1.get? b = some o) (new:s.heap.get? a = none) (hB:B = PySem.W.hideAll s.heap (frs X.stack)) (fl:FlyD B X.outer a C d .none h') (up:h1.UpToSlots h') :
  Fly X.prog X.w X.outer X.H₀ X.s₀ a C H { s with heap:=h',toks:=t } B d:=by
 have inB:∀ b o,s.heap.get? b = some o→b ∉ frs X.stack→B.get? b = some o:=fun b o e n=>by rw [hB]; exact PySem.W.hideAll_get _ e n
 have trk:∀ b u o,H b = some u→s.heap.get? b = some o→B.get? b = some o:=fun b u o e q=>inB b o q fun z=>by
  rw [I.stkFree b z] at e; cases e
 have up2:s.heap.UpToSlots h':=(Heap.UpToSlots.of_keeps keeps).trans up
 have nf:∀ b ∈ frs X.stack,∀ o,s.heap.get? b = some o→∀ vs,o.data ≠ .fields vs:=fun b hb o e=>by
  obtain ⟨_,o',e',d⟩:=I.stack.mem hb
  rw [e] at e'
  cases e'
  exact d
 have hok:HOk X.prog X.w H h':=fun b u e=>(I.hok b u e).stay (fun c v hc q=>fl.1 c v (by
  rcases hc with z | z
  ·subst z; exact trk c u v e q
  ·exact trk c _ v z q)) (fun _ q=>q) fun _ _ q=>q
 have un:Un (frs X.stack) [] H H s.heap h':=by
  refine ⟨fun b o q n hb _=>fl.1 b o (inB b o q hb),fun b o q n hb _=>up2 b o q (nf b hb o q),fun _ _ _ n _=>n,fun b o q _=>?_,fun _ _ q=>q,fun _ _ _ q=>q,fun _ ps q=>⟨#[],by rw [q]; simp⟩⟩
  by_cases hb:b ∈ frs X.stack
  ·obtain ⟨sl,e⟩:=up2 b o q (nf b hb o q)
   exact ⟨_,e⟩
  ·exact ⟨o,fl.1 b o (inB b o q hb)⟩
 have J:Inv X pins σ H { s with heap:=h',toks:=t }:=I.call' (s':={ s with heap:=h',toks:=t }) (ch:=[]) rfl un hok I.bare fun _ z=>nomatch z
 refine ⟨J.os,J.bare,?_,by have:=J.base; rw [hx] at this; exact this,J.hok,fun b hb=>?_,fl,fun b o e hb hc=>?_⟩
 ·cases q:X.s₀.heap.get? a with
  | none=>rfl
  | some o =>
   obtain ⟨⟨u,z⟩,_⟩:=I.old hx q
   rw [new] at z; cases z
 ·obtain ⟨_,o,ho,_⟩:=I.ok.funs.mem hb
  exact J.base.free b o ho (I.ok.frf b hb) fun z=>I.ok.exfs b z hb
 ·rcases hc with ⟨u,q⟩ | ⟨u,q⟩
  ·obtain ⟨⟨v,z⟩,n⟩:=I.old hx q
   have y:=inB b v z (I.nostk n hb)
   have e2:=fl.1 b v y
   rw [show ({ s with heap:=h',toks:=t } : Shared).heap.get? b = h'.get? b from rfl,e2] at e
   cases e
   exact y
  ·obtain ⟨o',e'⟩:=(I.hok b u q).there
   have y:=trk b u o' q e'
   have e2:=fl.1 b o' y
   rw [show ({ s with heap:=h',toks:=t } : Shared).heap.get? b = h'.get? b from rfl,e2] at e
   cases e
   exact y
end
def CXO (P:Program) (w:World):CXT:=fun l H s E e s'=>∃ a C d H' B,e = .ref a∧Fly P w l H s a C H' s' B d∧E C d H'
def XFly (X:Cx) (Ex:Value→Option Addr→L2.St→Hp→Prop):Prop :=
 ∀ pins σ H s a C H' s' B d,Inv X pins σ H s→Fly X.prog X.w X.stack H s a C H' s' B d→Ex C d σ H'→X.xe (.ref a) s'
def XMade (X:Cx) (Ex:Value→Option Addr→L2.St→Hp→Prop):Prop :=
 ∀ pins σ H s a C vs h1,Inv X pins σ H s→Heap.MadeExcOf s.heap h1 a C vs→Ex C none σ H→X.xe (.ref a) { s with heap:=h1 }
section
variable {P:Program} {w:World} {K:PySem.W.Frag} {mg:Str→Option Value} {base:Heap} {N:List Str} {qual:Str} {scope:Scope} {f:Addr} {cd:Value} {A:Around} {outer:List Env} {s:Shared} {H:Hp} {E:XK}
theorem def_fly:XFly (cxOf (CXO P w) P w K mg base N qual scope f cd A outer s H E) (fun C d _ H'=>E C d H'):=by
 intro pins σ H1 s1 a C H' s' B d I F q
 show wpAny _ _ (leaving _ (.ref a)) _ _ _
 refine leaveOnD (outer:=outer) I.ok.frames rfl F.fl fun h' fl up=>?_
 exact ⟨a,C,d,H',B,rfl,I.flyOut rfl F fl up,q⟩
theorem def_made:XMade (cxOf (CXO P w) P w K mg base N qual scope f cd A outer s H E) (fun C d _ H'=>E C d H'):=by
 intro pins σ H1 s1 a C vs h1 I M q
 show wpAny _ _ (leaving _ (.ref a)) _ _ _
 have hin:∀ env ∈ (envOfC qual scope s.heap.objs.size f cd :: outer),∀ b,env.frame = some b→b ∈ frs (envOfC qual scope s.heap.objs.size f cd :: outer):=fun env he b hb=>List.mem_filterMap.mpr ⟨env,he,hb⟩
 obtain ⟨t,he,_,_⟩:=M.there
 refine leaveNewD (base:=PySem.W.hideAll s1.heap (frs (envOfC qual scope s.heap.objs.size f cd :: outer))) (h0:=s1.heap) (outer:=outer) I.ok.frames rfl (fun b o q=>PySem.W.of_hideAll _ q) (PySem.W.funFrames_hide I.stack hin) M.keeps M.new he rfl rfl fun h' fl up=>?_
 exact ⟨a,C,none,H1,_,rfl,I.flyNew rfl M.keeps M.new rfl fl up,q⟩
end
section
variable {P:Program} {w:World} {K:PySem.W.Frag} {mg:Str→Option Value} {base:Heap}
theorem Fun.okX {x qual:Str} {st:Stmt} {f:Addr} {fd:FuncData} {N ps:List Str} {k:Nat} {sp:Sp} (F:Fun K x qual st f fd) (S:FnScope N ps (defScope st)) (len:∀ vs H Q E,sp vs H Q E→vs.length = ps.length)
  (hbody:∀ (cdv:Value) (A:Around) (outer:List Env) (s:Shared) (H:Hp) (vs:List V) (Q:VK) (E:XK),Room k (A.deeper (envOfC qual (defScope st) s.heap.objs.size f cdv))→sp vs H Q E →
   ∃ t,PSs (cxOf (CXO P w) P w K mg base N qual (defScope st) f cdv A outer s H E) (defBody st) t∧t { nx:=fun _ H'=>Q .non H',rt:=Q } (L2.start N vs) H):FnOk P w K mg base (CXO P w) (k + 1) f fd ps sp:=by
 obtain ⟨oc,od,kV,doc,pm,an,cdv,ct,osl,rfl,lk,hcd⟩:=F.ex
 exact fn_of lk hcd S len fun A outer s H vs Q E hr hsp=>hbody cdv A outer s H vs Q E hr hsp
def OkX (P:Program) (w:World) (K:PySem.W.Frag) (mg:Str→Option Value) (base:Heap) (k:Nat) (x:Str) (ps:List Str) (sp:Sp):Prop :=
 ∃ f fd,FnOk P w K mg base (CXO P w) k f fd ps sp∧Binds K fd ps []∧mg x = some (.ref f)∧PySem.W.keepIn K (.ref f) = true
theorem HasF.okX {k:Nat} {x:Str} {st:Stmt} {ps:List Str} {sp:Sp} (h:HasF K mg x st ps)
  (hf:∀ f fd,Fun K x x st f fd→FnOk P w K mg base (CXO P w) k f fd ps sp):OkX P w K mg base k x ps sp:=by
 obtain ⟨f,fd,a,b,c⟩:=h
 exact ⟨f,fd,hf f fd a,.all b,c,a.kp⟩
end
section
variable {X:Cx} {p pos:Pos} {e:Expr} {es:List Expr} {t:TA} {x:Str} {k:Nat} {ps:List Str} {sp:Sp} {Ex:Value→Option Addr→L2.St→Hp→Prop}
def tCallX (sp:Sp) (Ex:Value→Option Addr→L2.St→Hp→Prop) (t:TA):TE:=fun σ H Q=>t σ H fun vs H1=>sp vs H1 Q fun C d H'=>Ex C d σ H'
theorem pe_callX (G:OkX X.prog X.w X.K X.mg X.base k x ps sp) (hr:Room k X.A) (hg:Gl X x) (hx:XFly X Ex) (ha:PA X (e :: es) t) (hdb:(x == ("__debug__" : Str)) = false:=by decide)
  (he:starEach (e :: es) X.env = (false,eval e X.env) :: starEach es X.env:=by rfl) (hpl:(backTo pos (starEach es X.env)).any (·.1) = false:=by rfl):PE X (.Call (.Name x p) (e :: es) [] pos) (tCallX sp Ex t):=by
 obtain ⟨f,fd,F,hb,hm,kp⟩:=G
 intro pins s σ H Q I h
 refine wpAny_Call_Name_kw (ld_glob I hg hm ?_ hdb)
 refine PySem.W.callWith_K (h₀:=X.base) I.ok.mod.kin kp (thn (ha pos pins s σ H _ I h) fun us s1 ⟨vs,H1,I1,r,q⟩=>⟨I1.kIn,?_⟩) he hpl
 have hl:us.length = ps.length:=by rw [← r.length]; exact F.len _ _ _ _ q
 have hb':=hb s1 us I1.kIn (by simpa using hl)
 simp only [List.append_nil] at hb'
 refine wpAny_call (codeAny_mono (F.run X.A X.stack s1 H1 ⟨us,[]⟩ us vs Q _ hr I1.env0 hb' r q) fun r s' hq=>?_)
 cases r with
 | error e =>
  obtain ⟨a,C,d,H',B,rfl,Fl,q'⟩:=hq
  exact hx pins σ H1 s1 a C H' s' B d I1 Fl q'
 | ok fl =>
  cases fl with
  | ret u=>exact I1.after hq
  | next=>exact False.elim hq
  | brk=>exact False.elim hq
  | cont=>exact False.elim hq
end
abbrev bmV:List Value:=[.type "ValueError",.type "Exception",.type "BaseException",.type "object"]
def ExcC (K:PySem.W.Frag) (C:Addr):Prop:=PySem.W.excIn K C bmV "ValueError.__new__" = true
theorem exc_obj {K:PySem.W.Frag} {h:Heap} {C:Addr} (X:K.In h) (q:ExcC K C):∃ bm N nm qn bs hdct sn sub ab col dd k0 k1 k2 k3 k5 mN,h.get? C = some (excClassObj nm qn C N bs bm hdct sn sub ab col dd k0 k1 k2 k3 k5 "ValueError.__new__") ∧
  h.Ns N mN∧mN "__init__" = none∧OwnTail h bmV bm:=by
 unfold ExcC PySem.W.excIn at q
 split at q
 ·rename_i dd cd sl ho
  split at q
  ·rename_i C' bm k0 k1 k2 k3 n k5 hm hs
   simp only [Bool.and_eq_true,beq_iff_eq,Bool.not_eq_true'] at q
   obtain ⟨⟨⟨⟨⟨rfl,rfl⟩,hdel⟩,ht⟩,hok⟩,hni⟩:=q
   obtain ⟨nm,bs,mro,ns,qn,hd,sn,sub,ab,col,del⟩:=cd
   dsimp only at hm hdel hok hni
   subst hm hdel
   have hsl:sl = #[k0,k1,k2,k3,some (.builtin "ValueError.__new__"),k5]:=by
    obtain ⟨l⟩:=sl
    simp only at hs
    rw [hs]
   subst hsl
   exact ⟨bm,ns,nm,qn,bs,hd,sn,sub,ab,col,dd,k0,k1,k2,k3,k5,_,X _ _ ho,.of_isNs (PySem.W.isNs_of_in X hok),PySem.W.nsMap_none_of_in X hok hni,PySem.W.tail_of_in X ht⟩
  ·cases q
 ·cases q
section
variable {X:Cx} {x:Str} {np cpos pos:Pos} {e₀:Expr} {rest:List Expr} {ta:TA} {C:Addr} {Ex:Value→Option Addr→L2.St→Hp→Prop}
def tRaise (C:Addr) (Ex:Value→Option Addr→L2.St→Hp→Prop) (ta:TA):TS:=fun _ σ H=>ta σ H fun vs H1=>vs.length ≤ sizeLine∧Ex (.ref C) none σ H1
theorem ps_raise (hc:X.calm = true) (hg:Gl X x) (hm:X.mg x = some (.ref C)) (q:ExcC X.K C) (hx:XMade X Ex) (ha:PA X (e₀ :: rest) ta) (hd:(x == ("__debug__" : Str)) = false:=by decide)
  (he:starEach (e₀ :: rest) X.env = (false,eval e₀ X.env) :: starEach rest X.env:=by rfl) (hplain:(backTo cpos (starEach rest X.env)).any (·.1) = false:=by rfl) :
  PS X (.Raise (some (.Call (.Name x np) (e₀ :: rest) [] cpos)) none pos) (tRaise C Ex ta):=by
 intro pins s σ H D I h
 obtain ⟨tl,N,nm,qn,bs,hdct,sn,sub,ab,col,dd,k0,k1,k2,k3,k5,mN,hC,hN,hni,T⟩:=exc_obj I.ok.mod.kin q
 have FB:=PySem.F.excBase_ValueError
 refine wpAny_Raise_call_subT (C:=C) (nm:=nm) (q:=qn) (N:=N) (bs:=bs) (bm:=tl) (hdct:=hdct) (sn:=sn) (sub:=sub) (ab:=ab) (col:=col) (dd:=dd) (k0:=k0) (k1:=k1) (k2:=k2) (k3:=k3) (k5:=k5)
  FB (mN:=mN) (T.hasType FB.hasBase) (I.ok.hd hc) (by rw [he]; show (false || (backTo cpos (starEach rest X.env)).any (·.1)) = false; rw [hplain]; rfl) hni (ld_glob I hg hm ⟨rfl,?_⟩ hd)
 have h2:=ha cpos pins s σ H _ I h
 rw [he] at h2 ⊢
 exact Calls.evalArgs_plain (wpAny_mono h2 (fun us s₂ ⟨vs,H1,I1,r,hl,ex⟩=>⟨rfl,by rw [← r.length]; exact hl,I1.bk _ _ hC,hN.keeps I1.bk,T.keeps I1.bk,fun h' e M=>hx pins σ H1 s₂ e _ us h' I1 M ex⟩) fun _ _ y=>y)
end
section
variable {X:Cx} {pins pins' pn:List (Addr × Obj)} {σ:L2.St} {H H':Hp} {s:Shared} {E:Value→Shared→Prop} {a:Addr}
end
def XO (a C:Addr) (d:Option Addr):HO:=.ext fun h=>∃ o,h.get? a = some o∧o.cls = .ref C∧o.dict = d∧∃ vs,o.data = .fields vs
section
variable {X:Cx} {pos hpos np:Pos} {body suite:List Stmt} {b₀:Stmt} {n Dn:Str} {D:Addr} {i:Nat} {tb:(Value→Option Addr→L2.St→Hp→Prop)→TS} {th:TS}
def Ends.unset (R:Ends) (i:Nat):Ends:={ nx:=fun σ H=>R.nx (σ.set i none) H,rt:=R.rt,bk:=fun σ H=>R.bk (σ.set i none) H,ct:=fun σ H=>R.ct (σ.set i none) H }
def tTryAs (K:PySem.W.Frag) (D:Addr) (i:Nat) (tb:(Value→Option Addr→L2.St→Hp→Prop)→TS) (th:TS):TS:=fun R σ H =>
 ∃ Ex:Value→Option Addr→L2.St→Hp→Prop,tb Ex R σ H∧∀ C' d σ' H',Ex C' d σ' H'→∃ C,C' = .ref C∧PySem.W.mroIn K C (.ref D) = some true ∧
  ∀ a,H' a = none→th (R.unset i) (σ'.set i (some (.ref a))) (upd H' a (XO a C d))
end
end L2
set_option Elab.async false
set_option linter.all false
set_option maxRecDepth 100000
set_option maxHeartbeats 4000000
namespace L2
open PySem PySem.Spec PyProof.Rows
section
variable {prog:Program} {w:World} {A:Around} {E:Value→Shared→Prop} {h:Heap} {g:Array GenState} {d:Drawn} {t:Nat} {os:OsState} {a C:Addr} {o:Obj} {K:PySem.W.Frag}
end
end L2
set_option Elab.async false
set_option linter.all false
set_option maxRecDepth 100000
set_option maxHeartbeats 4000000
namespace L2
open PySem PySem.Spec PyProof.Rows
def clOf (cells:List (Str × Addr)):List (Str × NameKind)→List (Str × Addr)→List (Str × Addr)
 | [],acc=>acc
 | (n,k) :: r,acc=>clOf cells r (if k == .free then (n,(cells.lookup n).getD 0) :: acc else acc)
theorem closure_eq {scope:Scope} {env:Env} (h:∀ y ∈ scope.names,y.2 = .free→∃ c,env.cells.lookup y.1 = some c):closureFor scope env = pure (clOf env.cells scope.names []):=by
 unfold closureFor
 have go:∀ (l:List (Str × NameKind)) (acc:List (Str × Addr)),(∀ y ∈ l,y.2 = .free→∃ c,env.cells.lookup y.1 = some c) →
   (forIn l acc (fun (x:Str × NameKind) (r:List (Str × Addr))=>if (x.2 == NameKind.free) = true then (do let a ← cellOf env x.1; pure (ForInStep.yield ((x.1,a) :: r))) else pure (ForInStep.yield r)):Sem (List (Str × Addr))) = pure (clOf env.cells l acc):=by
  intro l
  induction l with
  | nil=>intro acc _; rfl
  | cons y r ih =>
   intro acc hy
   obtain ⟨n,k⟩:=y
   rw [List.forIn_cons]
   by_cases hk:k = .free
   ·subst hk
    obtain ⟨c,hc⟩:=hy (n,.free) List.mem_cons_self rfl
    have e1:cellOf env n = pure c:=by unfold cellOf; rw [show env.cells.lookup n = some c from hc]
    simp only [beq_self_eq_true,if_true,e1,pure_bind]
    rw [ih _ fun z hz=>hy z (List.mem_cons_of_mem _ hz)]
    show pure _ = pure (clOf env.cells r (if (NameKind.free == NameKind.free) = true then (n,(env.cells.lookup n).getD 0) :: acc else acc))
    rw [show env.cells.lookup n = some c from hc]
    rfl
   ·have hb:(k == NameKind.free) = false:=by simpa using hk
    simp only [hb,Bool.false_eq_true,if_false,pure_bind]
    rw [ih _ fun z hz=>hy z (List.mem_cons_of_mem _ hz)]
    show pure _ = pure (clOf env.cells r (if (k == NameKind.free) = true then (n,(env.cells.lookup n).getD 0) :: acc else acc))
    rw [hb]
    rfl
 have e:=go scope.names [] h
 show (forIn scope.names [] (fun (x:Str × NameKind) (r:List (Str × Addr))=>if (x.2 == NameKind.free) = true then (do let a ← cellOf env x.1; pure (ForInStep.yield ((x.1,a) :: r))) else pure (ForInStep.yield r)):Sem (List (Str × Addr))) >>= (fun cs=>pure cs) = _
 rw [e]
 rfl
theorem clOf_mem {cells:List (Str × Addr)} : ∀ {names:List (Str × NameKind)} {acc:List (Str × Addr)} {x:Str} {c:Addr},(∀ y ∈ names,y.2 = .free→∃ c,cells.lookup y.1 = some c)→(x,c) ∈ clOf cells names acc→(x,c) ∈ acc∨cells.lookup x = some c
 | [],_,_,_,_,h=>.inl h
 | (n,k) :: r,acc,x,c,hf,h=>by
  unfold clOf at h
  rcases clOf_mem (fun y hy=>hf y (List.mem_cons_of_mem _ hy)) h with z | z
  ·by_cases hk:k = .free
   ·subst hk
    simp only [beq_self_eq_true,if_true] at z
    rcases List.mem_cons.mp z with e | e
    ·obtain ⟨c',hc'⟩:=hf (n,.free) List.mem_cons_self rfl
     cases e
     rw [show cells.lookup n = some c' from hc']
     exact .inr rfl
    ·exact .inl e
   ·have hb:(k == NameKind.free) = false:=by simpa using hk
    simp only [hb,Bool.false_eq_true,if_false] at z
    exact .inl z
  ·exact .inr z
theorem clOf_has {cells:List (Str × Addr)} : ∀ {names:List (Str × NameKind)} {acc:List (Str × Addr)} {x:Str},((x,NameKind.free) ∈ names∨∃ c,(x,c) ∈ acc)→∃ c,(x,c) ∈ clOf cells names acc
 | [],_,_,h=>by
  rcases h with h | h
  ·cases h
  ·exact h
 | (n,k) :: r,acc,x,h=>by
  unfold clOf
  refine clOf_has ?_
  rcases h with h | ⟨c,h⟩
  ·rcases List.mem_cons.mp h with e | e
   ·cases e
    exact .inr ⟨_,by simp only [beq_self_eq_true,if_true]; exact List.mem_cons_self⟩
   ·exact .inl e
  ·refine .inr ⟨c,?_⟩
   split
   ·exact List.mem_cons_of_mem _ h
   ·exact h
theorem lookup_some_of_mem {α:Type} {x:Str} {c:α} : ∀ {l:List (Str × α)},(x,c) ∈ l→∃ c',l.lookup x = some c'
 | (y,d) :: r,h=>by
  rw [List.lookup_cons]
  cases hb:x == y with
  | true=>exact ⟨d,rfl⟩
  | false =>
   rcases List.mem_cons.mp h with e | e
   ·cases e; simp at hb
   ·exact lookup_some_of_mem e
def shad (x:Str) (N:List Str):List Str:=N.map fun y=>if y = x then "?" else y
def Cx.comp (X:Cx) (N':List Str) (scope:Scope) (x:Str) (C:Addr) (s₀:Shared) (H₀:Hp) (ex:List Addr) (pn:List (Addr × Obj)):Cx :=
 { X with env:=compEnvC scope (clOf X.env.cells scope.names []) C X.env,N:=x :: N',s₀:=s₀,H₀:=H₀,outer:=X.stack,ex:=ex,fn:=fun _=>false,pn:=pn,xe:=fun _ _=>False }
def tComp (wi:TI) (te:TE):TE:=fun σ H Q=>wi σ H fun J H1=>∀ D,H1 D = none→∃ W:Nat→Nat→List V→Hp→Prop,(∃ m,W 0 m [] (upd H1 D (.lst [])))∧∀ i m ys Hc,W i m ys Hc →
 (J.stop i Hc∧Q (.ref D) Hc)∨(J.go i Hc∧∀ x H',J.yld i Hc x H'→te (some x :: σ) H' fun y H2=>ys.length < sizeLine∧H2 D = some (.lst ys)∧∃ m',m' < m∧W (i + 1) m' (ys ++ [y]) (upd H2 D (.lst (ys ++ [y]))))
section
variable {X:Cx} {elt iter:Expr} {x:Str} {px pos:Pos} {scope:Scope} {wi:TI} {te:TE}
theorem Inv.nostk' {pins:List (Addr × Obj)} {σ:L2.St} {H:Hp} {s:Shared} (I:Inv X pins σ H s) {b:Addr} (h1:b ≠ X.env.locals) (h2:b ∉ X.fs):b ∉ frs X.stack:=fun z=>by
 rcases List.mem_cons.mp (I.stkSub b z) with e | e
 ·exact h1 e
 ·exact h2 e
theorem relabel_free {env:Env} : ∀ {names:List (Str × NameKind)} {y:Str},(names.map fun (n,k)=>if (k == NameKind.free && env.scope.kind == .function && env.kindOf n == some .cell) then (n,NameKind.cell) else (n,k)).lookup y = some .cell ∨
  (names.map fun (n,k)=>if (k == NameKind.free && env.scope.kind == .function && env.kindOf n == some .cell) then (n,NameKind.cell) else (n,k)).lookup y = some .free→(∀ z ∈ names,z.2 ≠ .cell)→(y,NameKind.free) ∈ names
 | [],y,h,_=>by rcases h with h | h <;> cases h
 | (n,k) :: r,y,h,hc=>by
  have ih:=@relabel_free env r y
  simp only [List.map_cons] at h
  by_cases hcond:(k == NameKind.free && env.scope.kind == .function && env.kindOf n == some .cell) = true
  ·rw [if_pos hcond] at h
   simp only [List.lookup_cons] at h
   cases hb:y == n with
   | true =>
    have hk:k = .free:=by
     simp only [Bool.and_eq_true,beq_iff_eq] at hcond
     exact hcond.1.1
    have:y = n:=by simpa using hb
    subst this hk
    exact List.mem_cons_self
   | false =>
    rw [hb] at h
    exact List.mem_cons_of_mem _ (ih h fun z hz=>hc z (List.mem_cons_of_mem _ hz))
  ·rw [if_neg hcond] at h
   simp only [List.lookup_cons] at h
   cases hb:y == n with
   | true =>
    rw [hb] at h
    have:y = n:=by simpa using hb
    subst this
    rcases h with h | h
    ·exact absurd (Option.some.inj h) (hc (y,k) List.mem_cons_self)
    ·have:k = .free:=Option.some.inj h
     subst this
     exact List.mem_cons_self
   | false =>
    rw [hb] at h
    exact List.mem_cons_of_mem _ (ih h fun z hz=>hc z (List.mem_cons_of_mem _ hz))
theorem pe_comp {N':List Str} (hc:X.calm = true) (hsh:shad x X.N = N') (hN:(x :: N').Nodup) (hkind:scope.kind = .function) (hcell:∀ y ∈ scope.names,y.2 ≠ .cell) (hnames:∀ y ∈ scope.names,y.2 = .local→scope.names.lookup y.1 = some .local)
  (hx:scope.names.lookup x = some .local) (hfree:∀ y ∈ scope.names,y.2 = .free→X.env.kindOf y.1 = some .cell∨X.env.kindOf y.1 = some .free) (hloc:∀ y ∈ X.N,y ≠ x→(relabel scope X.env).names.lookup y ≠ some .local) (hq:(relabel scope X.env).names.lookup ("?" : Str) = none) (hi:PI X (.Name x px) iter wi)
  (he:∀ C s₀ H₀ ex pn,PE (X.comp N' scope x C s₀ H₀ ex pn) elt te) (hs:∀ z,foldedSetIterable iter X.env z = pure z:=by intro _; rfl) :
  PE X (.ListComp elt [⟨.Name x px,iter,[],0⟩] scope pos) (tComp wi te):=by
 intro pins s σ H Q I h
 have hfr:∀ y ∈ scope.names,y.2 = .free→∃ c,X.env.cells.lookup y.1 = some c:=fun y hy e=>I.ok.has y.1 (hfree y hy e)
 rw [eval_ListComp]
 refine wpAny_comprehension_free (use:=none) rfl hs (closure_eq hfr) hkind hnames (thn (hi pins s σ H _ I h) fun v s1 h1=>thn h1 fun itv s2 h2=>?_)
 obtain ⟨it,fp,tn,J,H2,e,I2,T,st2,f2,R⟩:=h2
 subst e
 have nD:H2 s2.heap.objs.size = none:=I2.hok.fresh (Nat.le_refl _)
 obtain ⟨W,⟨m0,w0⟩,turn⟩:=R s2.heap.objs.size nD
 refine wpAny_newObj_type ?_ (by show 0 ≤ sizeLine; exact Nat.zero_le _)
 have I3:Inv X pins σ (upd H2 s2.heap.objs.size (.lst [])) { s2 with heap:=s2.heap.push { cls:=.type "list",dict:=none,data:=.seq ([] : List Value).toArray } }:=I2.lnew (t':=s2.toks) (ys:=[]) (its:=[]) .nil (Nat.zero_le _)
 have oldT:∀ b o,s2.heap.get? b = some o→(s2.heap.push { cls:=.type "list",dict:=none,data:=.seq ([] : List Value).toArray }).get? b = some o:=fun b o e=>Heap.get?_push_of_some _ e
 generalize hs3:({ s2 with heap:=s2.heap.push { cls:=.type "list",dict:=none,data:=.seq ([] : List Value).toArray } } : Shared) = s3 at I3 ⊢
 have st3:tn 0 s3.heap:=T.keep _ _ _ st2 fun b _ o e=>by rw [← hs3]; exact oldT b o e
 generalize hH3:upd H2 s2.heap.objs.size (.lst []) = H3 at I3 w0
 have f3:∀ b ∈ fp,FpOk X pins H3 b:=fun b hb=>by
  obtain ⟨a1,a2⟩:=f2 b hb
  refine ⟨?_,a2⟩
  obtain ⟨o,e,_⟩:=T.obj _ _ st2 b hb
  rw [← hH3,upd_ne (Nat.ne_of_lt (Heap.lt_size e))]
  exact a1
 refine wpAny_newFunctionEnv hcell (by intro y hy; simp at hy) (fun g hns hsb=>?_) hkind
 have kg:∀ b o,s3.heap.get? b = some o→g.get? b = some o:=fun b o e=>(hsb.2 b (Nat.ne_of_lt (Heap.lt_size e))).trans (Heap.get?_push_of_some _ e)
 have clm:∀ {y:Str} {c:Addr},(clOf X.env.cells scope.names []).lookup y = some c→X.env.cells.lookup y = some c:=fun {y c} e=>by
  rcases clOf_mem hfr (PySem.mem_of_lookup e) with z | z
  ·cases z
  ·exact z
 have kinds:∀ {y:Str},((relabel scope X.env).names.lookup y = some .cell∨(relabel scope X.env).names.lookup y = some .free)→(X.env.kindOf y = some .cell∨X.env.kindOf y = some .free)∧∃ c,(clOf X.env.cells scope.names []).lookup y = some c:=fun {y} e=>by
  have z:=relabel_free e hcell
  obtain ⟨c,hc'⟩:=clOf_has (cells:=X.env.cells) (acc:=[]) (.inl z)
  exact ⟨hfree _ z rfl,lookup_some_of_mem hc'⟩
 have lt3:∀ b ∈ fp,b < s3.heap.objs.size:=fun b hb=>by
  obtain ⟨o,e,_⟩:=T.obj _ _ st3 b hb
  exact Heap.lt_size e
 have nst:∀ b ∈ fp,b ∉ frs X.stack:=fun b hb=>I3.nostk' (f3 b hb).2.1 (f3 b hb).2.2.1
 generalize hX:X.comp N' scope x s3.heap.objs.size s3 H3 fp (X.pn ++ pins) = Y
 have ok':Y.Ok:=by
  subst hX
  exact ⟨I3.ok.mod,hkind,I3.ok.glob,I3.ok.blt,Nat.le_refl _,fun y z c h1 h2=>I3.ok.inj y z c (clm h1) (clm h2),fun y hy=>(kinds hy).2,fun _ _ z=>(nomatch z),I3.ok.hd,I3.ok.frames,.inl rfl,
   fun b hb=>⟨Nat.ne_of_lt (lt3 b hb),fun y c e=>(f3 b hb).2.2.2.2.1 y c (clm e)⟩,I3.bs,Nat.le_trans I3.ok.bsz I3.sz,fun b o e hb=>by
    rcases (f3 b hb).2.2.2.1 with z | z
    ·exact I3.ok.noex b o e z
    ·exact absurd (Nat.lt_of_lt_of_le (Nat.lt_of_lt_of_le (Heap.lt_size e) I3.ok.bsz) z) (Nat.lt_irrefl _),nst,I3.stack,I3.stkFree⟩
 have J4:∀ tk,Inv Y [] (none :: σ) H3 { s3 with heap:=g,toks:=tk }:=fun tk=>by
  subst hX
  refine ⟨ok',rfl,I3.bare,Un.kept kg,⟨_,hns,fun i y v e1 e2 e3=>?_⟩,fun y c e=>?_,I3.hok.fresh (Nat.le_refl _),fun y c e=>I3.freeC y c (clm e),fun p hp=>?_,I3.hok.kept kg,?_⟩
  ·cases i with
   | zero=>cases e2
   | succ j =>
    have e0:N'[j]? = some y:=e1
    rw [← hsh] at e0
    obtain ⟨y0,e1',ey⟩ : ∃ y0,X.N[j]? = some y0∧(if y0 = x then ("?" : Str) else y0) = y:=by
     unfold shad at e0
     rw [List.getElem?_map] at e0
     cases hz:X.N[j]? with
     | none=>rw [hz] at e0; cases e0
     | some y0=>rw [hz] at e0; exact ⟨y0,rfl,Option.some.inj e0⟩
    have e3:(relabel scope X.env).names.lookup y = some .local∨(relabel scope X.env).names.lookup y = some .cell∨(relabel scope X.env).names.lookup y = some .free:=e3
    have ne:¬ y0 = x:=fun z=>by
     rw [if_pos z] at ey
     subst ey
     rw [hq] at e3
     rcases e3 with z | z | z <;> cases z
    rw [if_neg ne] at ey
    subst ey
    have e2':σ[j]? = some (some v):=e2
    have e3':(relabel scope X.env).names.lookup y0 = some .cell∨(relabel scope X.env).names.lookup y0 = some .free:=by
     rcases e3 with z | z
     ·exact absurd z (hloc y0 (List.mem_of_getElem? e1') ne)
     ·exact z
    obtain ⟨kd,c,hcl⟩:=kinds e3'
    obtain ⟨m,_,hl⟩:=I3.loc
    obtain ⟨u,r,lk⟩:=hl j y0 v e1' e2' (.inr kd)
    refine ⟨u,r,.inr ⟨e3',c,hcl,?_⟩⟩
    rcases lk with ⟨k1,_⟩ | ⟨_,c',q1,o,q2,q3⟩
    ·exfalso
     have k1':X.env.kindOf y0 = some .local:=k1
     rcases kd with k2 | k2 <;> rw [k1'] at k2 <;> cases k2
    ·rw [clm hcl] at q1
     cases q1
     exact ⟨o,kg _ _ q2,q3⟩
  ·obtain ⟨v,o,q2,q3⟩:=I3.cell y c (clm e)
   exact ⟨v,o,kg _ _ q2,q3⟩
  ·have hp':p ∈ X.pn ++ pins:=by simpa [Cx.comp] using hp
   obtain ⟨a1,a2,a3,a4,a5⟩:=I3.pin p hp'
   exact ⟨kg _ _ a1,a2,Nat.ne_of_lt (Heap.lt_size a1),I3.nostk' a3 a4,a5⟩
  ·show (none :: σ).length = (x :: N').length
   have hln:N'.length = X.N.length:=by rw [← hsh]; unfold shad; rw [List.length_map]
   rw [List.length_cons,List.length_cons,I3.len,hln]
 have fpY:∀ {Hc:Hp},(∀ b ∈ fp,Hc b = none)→∀ b ∈ fp,FpOk Y [] Hc b:=fun {Hc} hn b hb=>by
  subst hX
  exact ⟨hn b hb,Nat.ne_of_lt (lt3 b hb),nst b hb,.inl hb,fun y c e=>(f3 b hb).2.2.2.2.1 y c (clm e),fun p hp=>(f3 b hb).2.2.2.2.2 p (by simpa [Cx.comp] using hp)⟩
 have loop:∀ s4:Shared,s4 = { s3 with heap:=g,toks:=s3.toks + ([] : List (Str × Value)).length } →
   codeAny (model X.prog X.w) X.A (.compLoop (.ListComp elt [⟨.Name x px,iter,[],0⟩] scope pos) 0 (.ref it) (.ref s2.heap.objs.size) Y.env) (compPost (model X.prog X.w) X.A X.xe none (EP X pins σ Q) (.ref s2.heap.objs.size) s3.heap.objs.size) s4:=by
  rintro s4 rfl
  have YP:Y.prog = X.prog∧Y.w = X.w∧Y.K = X.K∧Y.calm = X.calm∧Y.A = X.A∧Y.env.locals = s3.heap.objs.size:=by subst hX; exact ⟨rfl,rfl,rfl,rfl,rfl,rfl⟩
  obtain ⟨y1,y2,y3,y4,y5,y6⟩:=YP
  have he':PE Y elt te:=by subst hX; exact he _ _ _ _ _
  have yb:∀ {Hc:Hp} {w':Option V} {pn:List (Addr × Obj)} {s':Shared},Inv Y pn (w' :: σ) Hc s'→Un (frs X.stack) fp H3 Hc s3.heap s'.heap:=fun {Hc w' pn s'} Z=>by
   have:=Z.base
   subst hX
   exact this
  have yos:∀ {Hc:Hp} {w':Option V} {pn:List (Addr × Obj)} {s':Shared},Inv Y pn (w' :: σ) Hc s'→s'.os = s3.os:=fun {Hc w' pn s'} Z=>by
   have:=Z.os
   subst hX
   exact this
  refine codeAny_loop rfl (fun n s'=>∃ i ys Hc w',Inv Y [] (w' :: σ) Hc s'∧tn i s'.heap∧(∀ b ∈ fp,Hc b = none)∧W i n ys Hc) (fun n s5 hI=>?_) m0 ⟨0,[],H3,none,J4 _,T.keep _ _ _ st3 fun b _ o e=>kg b o e,fun b hb=>(f3 b hb).1,w0⟩
  obtain ⟨i,ys,Hc,w',Z,stc,frc,wc⟩:=hI
  show wpAny _ _ ((compTurn (.ListComp elt [⟨.Name x px,iter,[],0⟩] scope pos) 0 (.ref it) (.ref s2.heap.objs.size) Y.env).onRaise (fun z=>do noteFrame z Y.env; theTreesLotGoes z)) _ _ s5
  refine wpAny_noted (wpAny_noRaise ?_)
  rw [compTurn_list1]
  show wpAny (model X.prog X.w) X.A _ _ _ _
  rcases turn i n ys Hc wc with ⟨stop,qn⟩ | ⟨go,step⟩
  ·have hd:=T.done Y y1 y2 y3 (y4.trans hc) i [] s5 (w' :: σ) Hc (fun _ _=>False) Z (fpY frc) stc stop
   rw [y5] at hd
   refine wpAny_bind (wpAny_standAt (wpAny_bind (thn hd fun r s6 ⟨hr,Z6⟩=>?_)))
   subst hr
   refine wpAny_pure ?_
   obtain ⟨m,hn6,_⟩:=Z6.loc
   rw [y6] at hn6
   refine ⟨m,hn6,fun h' hs'=>?_⟩
   have kC:∀ b,b ≠ s3.heap.objs.size→h'.get? b = s6.heap.get? b:=fun b hb=>hs'.2 b hb
   have nC:∀ b o,s3.heap.get? b = some o→b ≠ s3.heap.objs.size:=fun b o e=>Nat.ne_of_lt (Heap.lt_size e)
   have u6:=yb Z6
   have tC:∀ b u,Hc b = some u→b ≠ s3.heap.objs.size:=fun b u e z=>by
    have:=Z6.free
    rw [y6,← z,e] at this; cases this
   have un:Un (frs X.stack) fp H3 Hc s3.heap h':=⟨fun b o e n' hb hx'=>(kC b (nC b o e)).trans (u6.keep b o e n' hb hx'),fun b o e n' hb hx'=>by
     obtain ⟨sl,z⟩:=u6.slot b o e n' hb hx'
     exact ⟨sl,(kC b (nC b o e)).trans z⟩,u6.free,fun b o e hx'=>by
     obtain ⟨o',z⟩:=u6.there b o e hx'
     exact ⟨o',(kC b (nC b o e)).trans z⟩,u6.tups,u6.frzs,u6.tbls⟩
   have hok:HOk X.prog X.w Hc h':=fun b u e=>by
    have z:=Z6.hok b u e
    rw [y1,y2] at z
    exact z.stay (fun c v hc' q=>(kC c (by
     rcases hc' with z | z
     ·subst z; exact tC _ _ e
     ·exact tC _ _ z)).trans q) (fun _ q=>q) fun _ _ q=>q
   exact ⟨.ref _,Hc,I3.call' (s':={ s6 with heap:=h' }) (ch:=fp) (show s6.os = s3.os from yos Z6) un hok Z6.bare fun b hb=>⟨(f3 b hb).2.2.2.1,(f3 b hb).2.1,(f3 b hb).2.2.2.2.1,(f3 b hb).2.2.2.2.2⟩,rfl,qn⟩
  ·have hd:=T.item Y y1 y2 y3 (y4.trans hc) i [] s5 (w' :: σ) Hc (fun _ _=>False) Z (fpY frc) stc go
   rw [y5] at hd
   refine wpAny_bind (wpAny_standAt (wpAny_bind (thn hd fun r s6 ⟨u,hr,h6⟩=>?_)))
   subst hr
   refine wpAny_bind (thn h6 fun _ s7 ⟨xv,H7,Z7,r7,yl,st7,fr7⟩=>?_)
   have Z7':=Z7.pinned (fpY fr7) (T.obj _ _ st7)
   have hst:wpAny (model X.prog X.w) X.A (assign (.Name x px) Y.env u) (fun _ s'=>Inv Y ([] ++ pinsAt fp s7.heap) (some xv :: σ) H7 s') (fun _ _=>False) s7:=by
    have lx:Y.env.scope.names.lookup x = some .local:=by subst hX; exact lookup_relabel_local hx
    have nx:Y.N[0]? = some x:=by subst hX; rfl
    have nn:Y.N.Nodup:=by subst hX; exact hN
    exact wpAny_assign_Name (store_ok Z7' nn nx (.inl lx) r7 (fun s' Z'=>Z') (.inr lx))
   refine wpAny_bind (thn hst fun _ s8 Z8=>?_)
   have hel:=he' _ s8 _ H7 _ Z8 (step xv H7 yl)
   have xeY:Y.xe = fun _ _=>False:=by subst hX; rfl
   rw [y1,y2,y5,xeY] at hel
   refine wpAny_bind (wpAny_bind (thn hel fun ev s9 ⟨yv,H9,Z9,r9,hz,hD9,m',hm',w9⟩=>?_))
   have hap:=mt_append (X:=Y) _ s9 _ H9 (.ref s2.heap.objs.size) [yv] (.ref s2.heap.objs.size) [ev] (fun _ Hf=>Hf = upd H9 s2.heap.objs.size (.lst (ys ++ [yv]))) Z9 rfl (.cons r9 .nil) ⟨_,ys,yv,rfl,rfl,hD9,hz,rfl⟩
   rw [y1,y2,y5,xeY] at hap
   refine wpAny_bind (thn hap fun av s10 ⟨_,H10,Z10,_,e10⟩=>?_)
   subst e10
   refine wpAny_pure (wpAny_pure ⟨rfl,m',hm',i + 1,ys ++ [yv],_,_,Z10.unpinned,T.keep _ _ _ st7 fun b hb o e=>(Z10.pin (b,o) (List.mem_append_right _ (List.mem_append_right _ (mem_pinsAt hb e)))).1,fun b hb=>?_,w9⟩)
   obtain ⟨o,e,_⟩:=T.obj _ _ st7 b hb
   exact (Z10.pin (b,o) (List.mem_append_right _ (List.mem_append_right _ (mem_pinsAt hb e)))).2.1
 have henv:Y.env = compEnvC scope (clOf X.env.cells scope.names []) s3.heap.objs.size X.env:=by subst hX; rfl
 rw [henv] at loop
 exact codeAny_compStart_list (loop _ rfl) (T.self _ 0 _ _ _ (T.keep _ _ _ st3 fun b _ o e=>kg b o e) (loop _ rfl))
end
end L2
set_option Elab.async false
set_option linter.all false
set_option maxRecDepth 100000
set_option maxHeartbeats 4000000
namespace L2
open PySem PySem.Spec PyProof.Rows
section
variable {X:Cx}
def rIsB (neg:Bool):R2:=fun x y H Q=>∃ b,y = .bl b∧Q (.bl (if neg then !decide (x = .bl b) else decide (x = .bl b))) H
def eqF:List V→List V→Bool
 | [],[]=>true
 | x :: xs,y :: ys=>eqV x y && eqF xs ys
 | _,_=>false
theorem eqF_range:∀ (xs ys:List V),(((List.range (min xs.length ys.length)).all fun j=>eqV (xs.getD j .non) (ys.getD j .non)) && (xs.length == ys.length)) = eqF xs ys
 | [],[]=>rfl
 | [],y :: ys=>by simp [eqF]
 | x :: xs,[]=>by simp [eqF]
 | x :: xs,y :: ys=>by
  have ih:=eqF_range xs ys
  unfold eqF
  rw [← ih]
  have e:min (x :: xs).length (y :: ys).length = min xs.length ys.length + 1:=by simp only [List.length_cons]; omega
  rw [e,List.range_succ_eq_map,List.all_cons,List.all_map]
  have e2:((x :: xs).length == (y :: ys).length) = (xs.length == ys.length):=by simp
  rw [e2]
  simp only [List.getD_cons_zero,Function.comp_def,List.getD_cons_succ,Bool.and_assoc]
theorem flat_get {xs:List V} (f:xs.all flatV = true) {j:Nat} {x:V} (e:xs[j]? = some x):flatV x = true:=List.all_eq_true.mp f x (List.mem_of_getElem? e)
theorem eq_items {A:Around} {s:Shared} {xs ys:List V} {us ws:List Value} (ru:Vals xs us) (rw':Vals ys ws) (fx:xs.all flatV = true) (fy:ys.all flatV = true) (j:Nat) (h1:j < us.toArray.size) (h2:j < ws.toArray.size) :
  SeqAt.EqAt A s us.toArray[j] ws.toArray[j] (eqV (xs.getD j .non) (ys.getD j .non)):=by
 have l1:=ru.length
 have l2:=rw'.length
 simp only [List.size_toArray] at h1 h2
 have g1:xs[j]? = some (xs.getD j .non):=by rw [List.getD_eq_getElem?_getD,List.getElem?_eq_getElem (by omega)]; rfl
 have g2:ys[j]? = some (ys.getD j .non):=by rw [List.getD_eq_getElem?_getD,List.getElem?_eq_getElem (by omega)]; rfl
 obtain ⟨u,e1,r1⟩:=ru.get g1
 obtain ⟨v,e2,r2⟩:=rw'.get g2
 have e1':us.toArray[j] = u:=by simp only [List.getElem_toArray]; exact (List.getElem?_eq_some_iff.mp e1).2
 have e2':ws.toArray[j] = v:=by simp only [List.getElem_toArray]; exact (List.getElem?_eq_some_iff.mp e2).2
 rw [e1',e2']
 exact eqAt_V r1 r2 (flat_get fx g1) (flat_get fy g2)
def eqH (H:Hp) (x y:V):Option Bool :=
 match x,y with
 | .ref a,.ref b=>match H a,H b with
  | some (.tup xs),some (.tup ys)=>if xs.all flatV && ys.all flatV then some (eqF xs ys) else none
  | some (.lst xs),some (.lst ys)=>if xs.all flatV && ys.all flatV then some (eqF xs ys) else none
  | some (.lst _),some (.tup _)=>some false
  | some (.tup _),some (.lst _)=>some false
  | _,_=>none
 | .ref a,y=>if flatV y then (match H a with
  | some (.tup _)=>some false
  | some (.lst _)=>some false
  | _=>none) else none
 | x,.ref b=>if flatV x then (match H b with
  | some (.tup _)=>some false
  | some (.lst _)=>some false
  | _=>none) else none
 | x,y=>if scal x y then some (decide (x = y)) else none
def rEqH:R2:=fun x y H Q=>∃ k,eqH H x y = some k∧Q (.bl k) H
theorem Inv.tupIs {pins:List (Addr × Obj)} {σ:L2.St} {H:Hp} {s:Shared} {a:Addr} {xs:List V} (I:Inv X pins σ H s) (h:H a = some (.tup xs)):∃ its,Vals xs its∧IsTup s.heap a its.toArray∧s.heap.IsTuple a its.toArray:=by
 obtain ⟨its,rv,ht,_⟩:=I.tuple (SqT.of h)
 exact ⟨its,rv,ht,ht⟩
theorem Inv.lstIs {pins:List (Addr × Obj)} {σ:L2.St} {H:Hp} {s:Shared} {a:Addr} {xs:List V} (I:Inv X pins σ H s) (h:H a = some (.lst xs)):∃ its,Vals xs its∧s.heap.IsList a its.toArray:=by
 obtain ⟨its,rv,ht,_⟩:=I.list (SqL.of h)
 exact ⟨its,rv,ht.isList⟩
theorem eq_seq_flat {A:Around} {s:Shared} {xs ys:List V} {us ws:List Value} (ru:Vals xs us) (rw':Vals ys ws) (f:(xs.all flatV && ys.all flatV) = true) (j:Nat) (h1:j < us.toArray.size) (h2:j < ws.toArray.size) :
  SeqAt.EqAt A s us.toArray[j] ws.toArray[j] (eqV (xs.getD j .non) (ys.getD j .non)):=by
 rw [Bool.and_eq_true] at f
 exact eq_items ru rw' f.1 f.2 j h1 h2
theorem op_eqH (hu:X.A.units < cLine):OpR X (compareOp .Eq) rEqH:=by
 intro pins s σ H x y v u Q I rx ry h
 obtain ⟨k,e,q⟩:=h
 have scl:scal x y = true→k = decide (x = y)→wpAny (model X.prog X.w) X.A (compareOp .Eq v u) (fun v s'=>∃ x H',Inv X pins σ H' s'∧RelV x v∧Q x H') X.xe s:=fun hs he=>op_eq pins s σ H x y v u Q I rx ry ⟨hs,he ▸ q⟩
 unfold eqH at e
 split at e
 ·rename_i a b
  cases rx; cases ry
  split at e
  ·rename_i xs ys ha hb
   split at e
   ·rename_i f
    obtain ⟨us,ru,iu⟩:=I.tupIs ha
    obtain ⟨ws,rw',iw⟩:=I.tupIs hb
    injection e with e
    refine SeqAt.RcAt.tuples iu.2 iw.2 hu (fun j h1 h2=>eq_seq_flat ru rw' f j h1 h2) _ _ _ _ ⟨.bl k,H,I,?_,q⟩
    have:=eqF_range xs ys
    rw [ru.length,rw'.length] at this
    simp only [List.size_toArray]
    rw [this,e]; rfl
   ·cases e
  ·rename_i xs ys ha hb
   split at e
   ·rename_i f
    obtain ⟨us,ru,iu⟩:=I.lstIs ha
    obtain ⟨ws,rw',iw⟩:=I.lstIs hb
    injection e with e
    have hr:=eqF_range xs ys
    rw [ru.length,rw'.length] at hr
    by_cases hl:us.length = ws.length
    ·refine SeqAt.RcAt.lists iu iw (by simp only [List.size_toArray]; exact hl) hu (fun j h1 h2=>eq_seq_flat ru rw' f j h1 h2) _ _ _ _ ⟨.bl k,H,I,?_,q⟩
     rw [hl,Nat.min_self,beq_self_eq_true,Bool.and_true] at hr
     simp only [List.size_toArray]
     rw [hl,hr,e]; rfl
    ·have hf:(us.length == ws.length) = false:=beq_eq_false_iff_ne.mpr hl
     rw [hf,Bool.and_false] at hr
     refine SeqAt.RcAt.lists_lengths iu iw (by simp only [List.size_toArray]; simp [hl]) hu _ _ _ _ ⟨.bl k,H,I,?_,q⟩
     rw [← e,← hr]; rfl
   ·cases e
  ·rename_i xs ys ha hb
   obtain ⟨us,ru,iu⟩:=I.lstIs ha
   obtain ⟨ws,rw',iw⟩:=I.tupIs hb
   injection e with e
   exact SeqAt.RcAt.list_tuple iu iw.2 hu _ _ _ _ ⟨.bl k,H,I,by rw [← e]; rfl,q⟩
  ·rename_i xs ys ha hb
   obtain ⟨us,ru,iu⟩:=I.tupIs ha
   obtain ⟨ws,rw',iw⟩:=I.lstIs hb
   injection e with e
   exact SeqAt.RcAt.tuple_list iu.2 iw hu _ _ _ _ ⟨.bl k,H,I,by rw [← e]; rfl,q⟩
  ·cases e
 ·rename_i a hne
  cases rx
  split at e
  ·rename_i f
   split at e
   ·rename_i ys hb
    obtain ⟨us,ru,iu⟩:=I.tupIs hb
    injection e with e
    cases y with
    | non=>cases ry; exact SeqAt.RcAt.tuple_none iu.2 hu _ _ _ _ ⟨.bl k,H,I,by rw [← e]; rfl,q⟩
    | bl b=>cases ry; exact SeqAt.RcAt.tuple_bool b iu.2 hu _ _ _ _ ⟨.bl k,H,I,by rw [← e]; rfl,q⟩
    | int b=>obtain ⟨t,rfl⟩:=ry; exact SeqAt.RcAt.tuple_int b t iu.2 hu _ _ _ _ ⟨.bl k,H,I,by rw [← e]; rfl,q⟩
    | str b=>obtain ⟨t,rfl⟩:=ry; exact SeqAt.RcAt.tuple_str b t iu.2 hu _ _ _ _ ⟨.bl k,H,I,by rw [← e]; rfl,q⟩
    | _=>exact absurd (show false = true from f) Bool.false_ne_true
   ·rename_i ys hb
    obtain ⟨us,ru,iu⟩:=I.lstIs hb
    injection e with e
    cases y with
    | non=>cases ry; exact SeqAt.RcAt.list_none iu hu _ _ _ _ ⟨.bl k,H,I,by rw [← e]; rfl,q⟩
    | bl b=>cases ry; exact SeqAt.RcAt.list_bool b iu hu _ _ _ _ ⟨.bl k,H,I,by rw [← e]; rfl,q⟩
    | int b=>obtain ⟨t,rfl⟩:=ry; exact SeqAt.RcAt.list_int b t iu hu _ _ _ _ ⟨.bl k,H,I,by rw [← e]; rfl,q⟩
    | str b=>obtain ⟨t,rfl⟩:=ry; exact SeqAt.RcAt.list_str b t iu hu _ _ _ _ ⟨.bl k,H,I,by rw [← e]; rfl,q⟩
    | _=>exact absurd (show false = true from f) Bool.false_ne_true
   ·cases e
  ·cases e
 ·rename_i b hne
  cases ry
  split at e
  ·rename_i f
   split at e
   ·rename_i ys hb
    obtain ⟨us,ru,iu⟩:=I.tupIs hb
    injection e with e
    cases x with
    | non=>cases rx; exact SeqAt.RcAt.none_tuple iu.2 hu _ _ _ _ ⟨.bl k,H,I,by rw [← e]; rfl,q⟩
    | bl b=>cases rx; exact SeqAt.RcAt.bool_tuple b iu.2 hu _ _ _ _ ⟨.bl k,H,I,by rw [← e]; rfl,q⟩
    | int b=>obtain ⟨t,rfl⟩:=rx; exact SeqAt.RcAt.int_tuple b t iu.2 hu _ _ _ _ ⟨.bl k,H,I,by rw [← e]; rfl,q⟩
    | str b=>obtain ⟨t,rfl⟩:=rx; exact SeqAt.RcAt.str_tuple b t iu.2 hu _ _ _ _ ⟨.bl k,H,I,by rw [← e]; rfl,q⟩
    | _=>exact absurd (show false = true from f) Bool.false_ne_true
   ·rename_i ys hb
    obtain ⟨us,ru,iu⟩:=I.lstIs hb
    injection e with e
    cases x with
    | non=>cases rx; exact SeqAt.RcAt.none_list iu hu _ _ _ _ ⟨.bl k,H,I,by rw [← e]; rfl,q⟩
    | bl b=>cases rx; exact SeqAt.RcAt.bool_list b iu hu _ _ _ _ ⟨.bl k,H,I,by rw [← e]; rfl,q⟩
    | int b=>obtain ⟨t,rfl⟩:=rx; exact SeqAt.RcAt.int_list b t iu hu _ _ _ _ ⟨.bl k,H,I,by rw [← e]; rfl,q⟩
    | str b=>obtain ⟨t,rfl⟩:=rx; exact SeqAt.RcAt.str_list b t iu hu _ _ _ _ ⟨.bl k,H,I,by rw [← e]; rfl,q⟩
    | _=>exact absurd (show false = true from f) Bool.false_ne_true
   ·cases e
  ·cases e
 ·split at e
  ·rename_i hs
   injection e with e
   exact scl hs e.symm
  ·cases e
theorem xfly_no:XFly X (fun _ _ _ _=>False):=fun _ _ _ _ _ _ _ _ _ _ _ _ z=>z.elim
def IsX (H:Hp) (a C:Addr):Prop:=∃ d,H a = some (XO a C d)
def rIsiN (C D:Addr) (b:Bool):List V→Hp→VK→Prop:=fun xs H Q=>∃ a,xs = [.ref a,.ref D]∧IsX H a C∧Q (.bl b) H
def rIsiT (C:Addr) (T:String) (b:Bool):List V→Hp→VK→Prop:=fun xs H Q=>∃ a,xs = [.ref a,.ty T]∧IsX H a C∧Q (.bl b) H
theorem pe_compF {elt iter:Expr} {x:Str} {px pos:Pos} {scope:Scope} {wi:TI} {te:TE} (sc:Scope) (N N':List Str) (hsc:X.env.scope = sc) (hNN:X.N = N) (hc:X.calm = true) (hsh:shad x N = N') (hN:(x :: N').Nodup) (hkind:scope.kind = .function) (hcell:∀ y ∈ scope.names,y.2 ≠ .cell) (hnames:∀ y ∈ scope.names,y.2 = .local→scope.names.lookup y.1 = some .local)
  (hx:scope.names.lookup x = some .local) (hfree:∀ y ∈ scope.names,y.2 = .free→sc.names.lookup y.1 = some .cell∨sc.names.lookup y.1 = some .free)
  (hloc:∀ y ∈ N,y ≠ x→(scope.names.map fun (n,k)=>if (k == NameKind.free && sc.kind == .function && sc.names.lookup n == some .cell) then (n,NameKind.cell) else (n,k)).lookup y ≠ some .local) (hq:(scope.names.map fun (n,k)=>if (k == NameKind.free && sc.kind == .function && sc.names.lookup n == some .cell) then (n,NameKind.cell) else (n,k)).lookup ("?" : Str) = none) (hi:PI X (.Name x px) iter wi)
  (he:∀ C s₀ H₀ ex pn,PE (X.comp N' scope x C s₀ H₀ ex pn) elt te) (hs:∀ z,foldedSetIterable iter X.env z = pure z:=by intro _; rfl) :
  PE X (.ListComp elt [⟨.Name x px,iter,[],0⟩] scope pos) (tComp wi te):=by
 subst hsc hNN
 exact pe_comp hc hsh hN hkind hcell hnames hx hfree hloc hq hi he hs
end
end L2
set_option Elab.async false
set_option linter.all false
set_option maxRecDepth 100000
set_option maxHeartbeats 4000000
namespace L2
open PySem PySem.Spec PyProof.Rows
def tDisp1 (tk tv:TE):TE:=fun σ H Q=>∀ p,H p = none→tk σ (upd H p (.dK [])) fun x H1=>∃ i,x = .int i∧tv σ H1 fun y H2=>H2 p = some (.dK [])∧Q (.ref p) (upd H2 p (.dK [(.inl i,y)]))
open PySem.SeqAt in
section
variable {X:Cx}
structure PEB (X:Cx) (e:Expr) (t:TE):Prop where
 out:PE X e t
structure PAB (X:Cx) (es:List Expr) (t:TA):Prop where
 out:PA X es t
structure PSB (X:Cx) (st:Stmt) (t:TS):Prop where
 out:PS X st t
structure PSsB (X:Cx) (b:List Stmt) (t:TS):Prop where
 out:PSs X b t
theorem peB_int {i j pos} : PEB X (.Constant (.int i) j pos) (tC (.int i)):=⟨pe_int⟩
theorem peB_lst {es:List Expr} {t:TA} {pos:Pos} (h:PAB X es t):PEB X (.List es pos) (tLst t):=⟨pe_lst h.out⟩
theorem paB_nil:PAB X [] tNil:=⟨pa_nil⟩
theorem paB_C {c:Const} {k:Nat} {p:Pos} {es:List Expr} {te:TE} {t:TA} (ha:PEB X (.Constant c k p) te) (hr:PAB X es t):PAB X (.Constant c k p :: es) (tCons te t):=⟨pa_cons ha.out hr.out rfl⟩
theorem psB_set {i:Nat} {x:Str} {e:Expr} {te:TE} {pos pos':Pos} (hN:X.N.Nodup) (hi:X.N[i]? = some x) (hx:Loc X.env.scope x) (he:PEB X e te) (hs:swapsWith e (some (.Name x pos')) pos.line X.env = pure false:=by rfl) (hf:X.fn x = true∨X.env.scope.names.lookup x = some .local:=by first | exact .inl rfl | exact .inr rfl | assumption) :
  PSB X (.Assign [.Name x pos'] e pos) (tAsg te (gName i)):=⟨ps_set hN hi hx he.out hs hf⟩
theorem pssB_cons {st:Stmt} {rest:List Stmt} {t u:TS} (h1:PSB X st t) (h2:PSsB X rest u):PSsB X (st :: rest) (tSeq t u):=⟨pss_cons h1.out h2.out⟩
end
section
variable {P:Program} {w:World} {K:PySem.W.Frag} {mg:Str→Option Value} {base:Heap}
theorem Fun.okB {x qual:Str} {st:Stmt} {f:Addr} {fd:FuncData} {N ps:List Str} {k:Nat} {sp:Sp} (F:Fun K x qual st f fd) (S:FnScope N ps (defScope st)) (len:∀ vs H Q E,sp vs H Q E→vs.length = ps.length)
  (hbody:∀ (cdv:Value) (A:Around) (outer:List Env) (s:Shared) (H:Hp) (vs:List V) (Q:VK) (E:XK),Room k (A.deeper (envOfC qual (defScope st) s.heap.objs.size f cdv))→sp vs H Q E →
   ∃ t,PSsB (cxOf CX0 P w K mg base N qual (defScope st) f cdv A outer s H E).nox (defBody st) t∧t { nx:=fun _ H'=>Q .non H',rt:=Q } (L2.start N vs) H):FnOk P w K mg base CX0 (k + 1) f fd ps sp :=
 F.ok S len fun cdv A outer s H vs Q E hr hsp=>let ⟨t,h1,h2⟩:=hbody cdv A outer s H vs Q E hr hsp; ⟨t,h1.out,h2⟩
end
end L2
set_option Elab.async false
set_option linter.all false
set_option maxRecDepth 100000
set_option maxHeartbeats 4000000
namespace L2
open PySem PySem.Spec PyProof.Rows
mutual
inductive Shows (H:Hp):V→PyData→Prop
 | non:Shows H .non .none
 | bl (b:Bool):Shows H (.bl b) (.bool b)
 | int (i:Int):Shows H (.int i) (.int i)
 | str (x:Str):Shows H (.str x) (.str x)
 | lst {a:Addr} {xs:List V} {ds:List PyData} : H a = some (.lst xs)→ShowsAll H xs ds→Shows H (.ref a) (.list ds)
 | tup {a:Addr} {xs:List V} {ds:List PyData} : H a = some (.tup xs)→ShowsAll H xs ds→Shows H (.ref a) (.tuple ds)
inductive ShowsAll (H:Hp):List V→List PyData→Prop
 | nil:ShowsAll H [] []
 | cons {x:V} {xs:List V} {d:PyData} {ds:List PyData} : Shows H x d→ShowsAll H xs ds→ShowsAll H (x :: xs) (d :: ds)
end
mutual
theorem Shows.same {H H':Hp} (S:Same H H'):∀ {x:V} {d:PyData},Shows H x d→Shows H' x d
 | _,_,.non=>.non
 | _,_,.bl b=>.bl b
 | _,_,.int i=>.int i
 | _,_,.str x=>.str x
 | _,_,.lst e h=>.lst (S _ _ e) (ShowsAll.same S h)
 | _,_,.tup e h=>.tup (S _ _ e) (ShowsAll.same S h)
theorem ShowsAll.same {H H':Hp} (S:Same H H'):∀ {xs:List V} {ds:List PyData},ShowsAll H xs ds→ShowsAll H' xs ds
 | _,_,.nil=>.nil
 | _,_,.cons h t=>.cons (Shows.same S h) (ShowsAll.same S t)
end
theorem ShowsAll.ints (H:Hp):∀ ns:List Int,ShowsAll H (ns.map V.int) (ns.map PyData.int)
 | []=>.nil
 | n :: ns=>.cons (.int n) (ShowsAll.ints H ns)
section
variable {X:Cx} {pins:List (Addr × Obj)} {σ:L2.St} {H:Hp} {s:Shared}
mutual
theorem Inv.reads (I:Inv X pins σ H s):∀ {x:V} {d:PyData} {v:Value},Shows H x d→RelV x v→∃ as,Reads s.heap v d as
 | _,_,_,.non,r=>by cases r; exact ⟨_,.none⟩
 | _,_,_,.bl b,r=>by cases r; exact ⟨_,.bool b⟩
 | _,_,_,.int i,r=>by obtain ⟨t,rfl⟩:=r; exact ⟨_,.int i t⟩
 | _,_,_,.str x,r=>by obtain ⟨t,rfl⟩:=r; exact ⟨_,.str x t⟩
 | _,_,_,.lst e h,r=>by
  cases r
  obtain ⟨its,rv,⟨o,ho,hc,n,hd⟩⟩:=I.lstIs e
  obtain ⟨as,q⟩:=Inv.readsAll I h rv
  exact ⟨_,.list ho hc hd q⟩
 | _,_,_,.tup e h,r=>by
  cases r
  obtain ⟨its,rv,_,⟨o,ho,hc,n,hd⟩⟩:=I.tupIs e
  obtain ⟨as,q⟩:=Inv.readsAll I h rv
  exact ⟨_,.tuple ho hc hd q⟩
theorem Inv.readsAll (I:Inv X pins σ H s):∀ {xs:List V} {ds:List PyData} {vs:List Value},ShowsAll H xs ds→Vals xs vs→∃ as,ReadsAll s.heap vs ds as
 | _,_,_,.nil,r=>by cases r; exact ⟨_,.nil⟩
 | _,_,_,.cons h t,r=>by
  cases r with
  | cons r1 r2 =>
   obtain ⟨a,q1⟩:=Inv.reads I h r1
   obtain ⟨b,q2⟩:=Inv.readsAll I t r2
   exact ⟨_,.cons q1 q2⟩
end
def rEqR (neg:Bool):R2:=fun x y H Q=>∃ d e,Shows H x d∧Shows H y e∧SeqAt.shaped d = true∧SeqAt.shaped e = true∧Q (.bl (if neg then !PyData.eqv d e else PyData.eqv d e)) H
def rSumH:List V→Hp→VK→Prop:=fun xs H Q=>∃ (l:Addr) (ns:List Int),xs = [.ref l]∧H l = some (.lst (ns.map V.int))∧Q (.int ns.sum) H
theorem call_sumH (hc:X.calm = true):CallR X (.builtin "sum") rSumH:=by
 intro pins s σ H xs us Q I r h
 obtain ⟨l,ns,rfl,hl,q⟩:=h
 obtain ⟨u,rfl,ru⟩:=r.one
 cases ru
 obtain ⟨its,rv,p⟩:=I.lstIs hl
 have hI:=intsAre_of rv
 obtain ⟨xs,e⟩:=hI.allInts.items
 have hn:=hI.numsOf
 rw [show its = its.toArray.toList from rfl,e,nums_intItems] at hn
 rw [e] at p
 refine sum_intListG (I.ok.hd hc) p fun h' tk t' k=>⟨.int ns.sum,H,I.kept k,?_,q⟩
 rw [preSum_eq,List.take_of_length_le (by simp),hn]
 exact ⟨_,rfl⟩
def rMaxH:List V→Hp→VK→Prop:=fun xs H Q=>∃ (l:Addr) (ns:List Int),xs = [.ref l]∧H l = some (.lst (ns.map V.int))∧0 < ns.length∧∀ M,M ∈ ns→(∀ a,a ∈ ns→a ≤ M)→Q (.int M) H
def rMinH:List V→Hp→VK→Prop:=fun xs H Q=>∃ (l:Addr) (ns:List Int),xs = [.ref l]∧H l = some (.lst (ns.map V.int))∧0 < ns.length∧∀ M,M ∈ ns→(∀ a,a ∈ ns→M ≤ a)→Q (.int M) H
def tRev (te ts:TE):TE:=fun σ H Q=>te σ H fun x H1=>ts σ H1 fun y H2=>y = .int (-1)∧∃ a xs,x = .ref a∧H2 a = some (.lst xs)∧∀ p,H2 p = none→Q (.ref p) (upd H2 p (.lst xs.reverse))
end
end L2
set_option Elab.async false
set_option linter.all false
set_option maxRecDepth 100000
set_option maxHeartbeats 4000000
namespace L2
open PySem PySem.Spec PyProof.Rows
section
variable {K:PySem.W.Frag} {tl:TE} {ta:TA} {g:TG} {tb:TS} {D:Ends} {σ:L2.St} {H:Hp}
theorem tFor_list (h:tl σ H fun x H1=>∃ a xs,x = .ref a∧H1 a = some (.lst xs)∧∃ J:Nat→L2.St→Hp→Prop,J 0 σ H1 ∧
   (∀ k x σ' H',xs[k]? = some x→J k σ' H'→H' a = some (.lst xs)→g x σ' H' fun σ2 H2=>tb { D with nx:=fun σ3 H3=>H3 a = some (.lst xs)∧J (k + 1) σ3 H3,ct:=fun σ3 H3=>H3 a = some (.lst xs)∧J (k + 1) σ3 H3,bk:=D.nx } σ2 H2) ∧
   ∀ σ' H',J xs.length σ' H'→H' a = some (.lst xs)→D.nx σ' H') (hm:∀ (P Q:V→Hp→Prop),(∀ x H',P x H'→Q x H')→tl σ H P→tl σ H Q):tFor (iList K tl) g tb D σ H:=by
 refine hm _ _ ?_ h
 rintro x H1 ⟨a,xs,rfl,hx,J,j0,step,fin⟩
 refine ⟨a,rfl,⟨xs,.of hx⟩,fun k m σ' H'=>k ≤ xs.length∧m = xs.length - k∧H' a = some (.lst xs)∧J k σ' H',⟨_,Nat.zero_le _,rfl,hx,j0⟩,?_⟩
 rintro k m σ' H' ⟨hk,rfl,hx',j⟩
 by_cases e:k = xs.length
 ·subst e
  exact .inl ⟨⟨xs,.of hx',Nat.le_refl _⟩,fin σ' H' j hx'⟩
 ·have hlt:k < xs.length:=by omega
  have e1:xs[k]? = some xs[k]:=List.getElem?_eq_getElem hlt
  refine .inr ⟨⟨xs,_,.of hx',e1⟩,fun σ3 H3=>H3 a = some (.lst xs)∧J (k + 1) σ3 H3,fun σ3 H3 ⟨z1,z2⟩=>⟨xs.length - (k + 1),by omega,by omega,rfl,z1,z2⟩,?_⟩
  rintro x H'' ⟨rfl,y⟩
  exact step k x σ' H'' (y xs (.of hx')) j hx'
theorem tFor_rng1 (h:ta σ H fun vs H1=>∃ n:Nat,vs = [.int n]∧n < 2 ^ 61∧∃ J:Nat→L2.St→Hp→Prop,J 0 σ H1 ∧
   (∀ (k:Nat) σ' H',k < n→J k σ' H'→g (.int k) σ' H' fun σ2 H2=>tb { D with nx:=J (k + 1),ct:=J (k + 1),bk:=D.nx } σ2 H2)∧∀ σ' H',J n σ' H'→D.nx σ' H')
  (hm:∀ (P Q:List V→Hp→Prop),(∀ x H',P x H'→Q x H')→ta σ H P→ta σ H Q):tFor (iRng1 ta) g tb D σ H:=by
 refine hm _ _ ?_ h
 rintro x H1 ⟨n,rfl,hn,J,j0,step,fin⟩
 refine ⟨n,rfl,by omega,by omega,?_⟩
 rw [Int.toNat_natCast]
 refine ⟨fun k m σ' H'=>k ≤ n∧m = n - k∧J k σ' H',⟨_,Nat.zero_le _,rfl,j0⟩,?_⟩
 rintro k m σ' H' ⟨hk,rfl,j⟩
 by_cases e:k = n
 ·subst e
  exact .inl ⟨Nat.le_refl _,fin σ' H' j⟩
 ·have hlt:k < n:=by omega
  refine .inr ⟨hlt,J (k + 1),fun σ3 H3 z=>⟨n - (k + 1),by omega,by omega,rfl,z⟩,?_⟩
  rintro x H'' ⟨rfl,rfl⟩
  rw [Int.zero_add]
  exact step k σ' H'' hlt j
end
theorem tComp_list {K:PySem.W.Frag} {tl te:TE} {σ:L2.St} {H:Hp} {Q:VK} (h:tl σ H fun x H1=>∃ a xs,x = .ref a∧H1 a = some (.lst xs)∧xs.length ≤ sizeLine∧∀ D,H1 D = none→∃ J:Nat→List V→Hp→Prop,J 0 [] (upd H1 D (.lst [])) ∧
   (∀ k x ys Hc,xs[k]? = some x→J k ys Hc→ys.length = k→Hc a = some (.lst xs)→te (some x :: σ) Hc fun y H2=>H2 D = some (.lst ys)∧H2 a = some (.lst xs)∧J (k + 1) (ys ++ [y]) (upd H2 D (.lst (ys ++ [y])))) ∧
   ∀ ys Hc,J xs.length ys Hc→ys.length = xs.length→Q (.ref D) Hc) (hm:∀ (P Q:V→Hp→Prop),(∀ x H',P x H'→Q x H')→tl σ H P→tl σ H Q)
  (hmE:∀ (x:V) Hc (P Q:VK),(∀ y H',P y H'→Q y H')→te (some x :: σ) Hc P→te (some x :: σ) Hc Q):tComp (iList K tl) te σ H Q:=by
 refine hm _ _ ?_ h
 rintro x H1 ⟨a,xs,rfl,hx,hz,rest⟩
 refine ⟨a,rfl,⟨xs,.of hx⟩,fun D hD=>?_⟩
 obtain ⟨J,j0,step,fin⟩:=rest D hD
 have ne:a ≠ D:=ne_of_none hx hD
 refine ⟨fun k m ys Hc=>k ≤ xs.length∧m = xs.length - k∧ys.length = k∧Hc a = some (.lst xs)∧J k ys Hc,⟨_,Nat.zero_le _,rfl,rfl,(upd_ne ne).trans hx,j0⟩,?_⟩
 rintro k m ys Hc ⟨hk,rfl,hy,hx',j⟩
 by_cases e:k = xs.length
 ·subst e
  exact .inl ⟨⟨xs,.of hx',Nat.le_refl _⟩,fin ys Hc j hy⟩
 ·have hlt:k < xs.length:=by omega
  refine .inr ⟨⟨xs,_,.of hx',List.getElem?_eq_getElem hlt⟩,?_⟩
  rintro x H'' ⟨rfl,y⟩
  refine hmE x _ _ _ ?_ (step k x ys H'' (y xs (.of hx')) j hy hx')
  rintro yv H2 ⟨z1,z2,z3⟩
  refine ⟨by omega,z1,xs.length - (k + 1),by omega,by omega,rfl,?_,?_,z3⟩
  ·rw [List.length_append]; simp; omega
  ·rw [upd_ne ne]; exact z2
end L2
set_option Elab.async false
set_option linter.all false
set_option maxRecDepth 100000
set_option maxHeartbeats 4000000
namespace L2
open PySem PySem.Spec PyProof.Rows
section
variable {X:Cx}
def tM (t:TE):TE:=fun σ H Q=>∃ R:VK,t σ H R∧∀ x H',R x H'→Q x H'
def tMA (t:TA):TA:=fun σ H Q=>∃ R:List V→Hp→Prop,t σ H R∧∀ x H',R x H'→Q x H'
theorem PE.mono {a:Expr} {t:TE} (h:PE X a t):PE X a (tM t):=fun pins s σ H Q I ⟨R,h1,h2⟩ =>
 thn (h pins s σ H R I h1) fun v s' ⟨x,H',I',r,q⟩=>⟨x,H',I',r,h2 x H' q⟩
theorem PA.mono {es:List Expr} {t:TA} (h:PA X es t):PA X es (tMA t):=fun pos pins s σ H Q I ⟨R,h1,h2⟩ =>
 thn (h pos pins s σ H R I h1) fun v s' ⟨x,H',I',r,q⟩=>⟨x,H',I',r,h2 x H' q⟩
theorem PE.imp {a:Expr} {t t':TE} (h:PE X a t) (i:∀ σ H Q,t' σ H Q→t σ H Q):PE X a t':=fun pins s σ H Q I q=>h pins s σ H Q I (i σ H Q q)
theorem tM_in {t:TE} {σ:L2.St} {H:Hp} {Q:VK} (h:t σ H Q):tM t σ H Q:=⟨Q,h,fun _ _ q=>q⟩
theorem tFor_listM {K:PySem.W.Frag} {tl:TE} {g:TG} {tb:TS} {D:Ends} {σ:L2.St} {H:Hp} (h:tl σ H fun x H1=>∃ a xs,x = .ref a∧H1 a = some (.lst xs)∧∃ J:Nat→L2.St→Hp→Prop,J 0 σ H1 ∧
   (∀ k x σ' H',xs[k]? = some x→J k σ' H'→H' a = some (.lst xs)→g x σ' H' fun σ2 H2=>tb { D with nx:=fun σ3 H3=>H3 a = some (.lst xs)∧J (k + 1) σ3 H3,ct:=fun σ3 H3=>H3 a = some (.lst xs)∧J (k + 1) σ3 H3,bk:=D.nx } σ2 H2) ∧
   ∀ σ' H',J xs.length σ' H'→H' a = some (.lst xs)→D.nx σ' H'):tFor (iList K (tM tl)) g tb D σ H :=
 tFor_list (tM_in h) fun _ _ i ⟨R,a,b⟩=>⟨R,a,fun x H' q=>i x H' (b x H' q)⟩
theorem tFor_rngM {ta:TA} {g:TG} {tb:TS} {D:Ends} {σ:L2.St} {H:Hp} (h:ta σ H fun vs H1=>∃ n:Nat,vs = [.int n]∧n < 2 ^ 61∧∃ J:Nat→L2.St→Hp→Prop,J 0 σ H1 ∧
   (∀ (k:Nat) σ' H',k < n→J k σ' H'→g (.int k) σ' H' fun σ2 H2=>tb { D with nx:=J (k + 1),ct:=J (k + 1),bk:=D.nx } σ2 H2)∧∀ σ' H',J n σ' H'→D.nx σ' H'):tFor (iRng1 (tMA ta)) g tb D σ H :=
 tFor_rng1 (ta:=tMA ta) ⟨_,h,fun _ _ q=>q⟩ fun _ _ i ⟨R,a,b⟩=>⟨R,a,fun x H' q=>i x H' (b x H' q)⟩
theorem tComp_listM {K:PySem.W.Frag} {tl te:TE} {σ:L2.St} {H:Hp} {Q:VK} (h:tl σ H fun x H1=>∃ a xs,x = .ref a∧H1 a = some (.lst xs)∧xs.length ≤ sizeLine∧∀ D,H1 D = none→∃ J:Nat→List V→Hp→Prop,J 0 [] (upd H1 D (.lst [])) ∧
   (∀ k x ys Hc,xs[k]? = some x→J k ys Hc→ys.length = k→Hc a = some (.lst xs)→te (some x :: σ) Hc fun y H2=>H2 D = some (.lst ys)∧H2 a = some (.lst xs)∧J (k + 1) (ys ++ [y]) (upd H2 D (.lst (ys ++ [y])))) ∧
   ∀ ys Hc,J xs.length ys Hc→ys.length = xs.length→Q (.ref D) Hc):tComp (iList K (tM tl)) (tM te) σ H Q:=by
 refine tComp_list (tl:=tM tl) (te:=tM te) ⟨_,h,?_⟩ (fun _ _ i ⟨R,a,b⟩=>⟨R,a,fun x H' q=>i x H' (b x H' q)⟩) fun x Hc _ _ i ⟨R,a,b⟩=>⟨R,a,fun y H' q=>i y H' (b y H' q)⟩
 rintro x H1 ⟨a,xs,e,hx,hz,rest⟩
 refine ⟨a,xs,e,hx,hz,fun D hD=>?_⟩
 obtain ⟨J,j0,step,fin⟩:=rest D hD
 exact ⟨J,j0,fun k x ys Hc h1 h2 h3 h4=>tM_in (step k x ys Hc h1 h2 h3 h4),fin⟩
def tApp (to:TE) (t:TA):TE:=fun σ H Q=>to σ H fun x H1=>∃ l xs,x = .ref l∧H1 l = some (.lst xs)∧t σ H1 fun vs H2=>∃ y ys,vs = [y]∧H2 l = some (.lst ys)∧ys.length < sizeLine∧Q .non (upd H2 l (.lst (ys ++ [y])))
theorem pe_app {o e:Expr} {to:TE} {t:TA} {apos cpos:Pos} (ho:PE X o to) (ha:PA X [e] t) (hb:attributeBase o "append" X.env (eval o X.env) = eval o X.env:=by rfl)
  (hf:((backTo cpos (starEach [e] X.env)).all (fun x=>!x.1) && (backToKw cpos (keywordEach [] X.env)).all (fun x=>x.1.isSome) && decide ([e].length + ([] : List Keyword).length + (if ([] : List Keyword).isEmpty then 0 else 1) < 30)) = true:=by rfl)
  (hl:(apos.endLine == cpos.line) = true:=by rfl) (hs:starEach [e] X.env = (false,eval e X.env) :: starEach [] X.env:=by rfl) (hp:(backTo cpos (starEach [] X.env)).any (·.1) = false:=by rfl) :
  PE X (.Call (.Attribute o "append" apos) [e] [] cpos) (tApp to t):=by
 refine (pe_bm PySem.F.plainAttrs_list PySem.F.slot_list_append PySem.F.type_list_append mt_append ho.mono ha.mono hb hf hl hs hp).imp fun σ H Q h=>?_
 refine ⟨_,h,?_⟩
 rintro x H1 ⟨l,xs,rfl,hx,h2⟩
 refine ⟨.inl ⟨rfl,_,SqL.of hx⟩,_,h2,?_⟩
 rintro vs H2 ⟨y,ys,rfl,hy,hz,q⟩
 exact ⟨l,ys,y,rfl,rfl,hy,hz,q⟩
def tClr (to:TE):TE:=fun σ H Q=>to σ H fun x H1=>∃ l xs,x = .ref l∧H1 l = some (.lst xs)∧Q .non (upd H1 l (.lst []))
def rListH:List V→Hp→VK→Prop:=fun xs H Q=>∃ p ys,xs = [.ref p]∧H p = some (.lst ys)∧∀ l,H l = none→Q (.ref l) (upd H l (.lst ys))
theorem call_listH:CallR X (.type "list") rListH:=call_list_of.imp fun xs H Q ⟨p,ys,a,b,c⟩=>⟨p,ys,a,.inl (.of b),c⟩
end
mutual
theorem canLay_int:∀ ns:List Int,PyData.canLayAll0 (ns.map PyData.int) = true
 | []=>rfl
 | n :: ns=>by
  rw [List.map_cons]; unfold PyData.canLayAll0
  rw [canLay_int ns]; rfl
end
inductive FL (H:Hp):List V→List (Int × Int)→Prop
 | nil:FL H [] []
 | cons {p:Addr} {f:Int × Int} {xs:List V} {fs:List (Int × Int)} : H p = some (.tup [.int f.1,.int f.2])→FL H xs fs→FL H (.ref p :: xs) (f :: fs)
theorem FL.imp {H H':Hp} (h:∀ p a b,H p = some (.tup [.int a,.int b])→H' p = some (.tup [.int a,.int b])):∀ {xs:List V} {fs:List (Int × Int)},FL H xs fs→FL H' xs fs
 | _,_,.nil=>.nil
 | _,_,.cons e t=>.cons (h _ _ _ e) (FL.imp h t)
theorem FL.same {H H':Hp} (S:Same H H') {xs:List V} {fs:List (Int × Int)} (h:FL H xs fs):FL H' xs fs:=h.imp fun p _ _ e=>S p _ e
theorem FL.length {H:Hp} : ∀ {xs:List V} {fs:List (Int × Int)},FL H xs fs→xs.length = fs.length
 | _,_,.nil=>rfl
 | _,_,.cons _ t=>by rw [List.length_cons,List.length_cons,FL.length t]
theorem FL.get {H:Hp} : ∀ {xs:List V} {fs:List (Int × Int)} {k:Nat} {x:V},FL H xs fs→xs[k]? = some x→∃ p f,x = .ref p∧fs[k]? = some f∧H p = some (.tup [.int f.1,.int f.2])
 | _,_,0,_,.cons e t,h=>by
  rw [List.getElem?_cons_zero] at h
  cases h
  exact ⟨_,_,rfl,rfl,e⟩
 | _ :: xs,_ :: fs,k + 1,x,.cons e t,h=>by
  rw [List.getElem?_cons_succ] at h
  obtain ⟨p,f,h1,h2,h3⟩:=FL.get (k:=k) t h
  exact ⟨p,f,h1,by rw [List.getElem?_cons_succ]; exact h2,h3⟩
theorem FL.append {H:Hp} : ∀ {xs ys:List V} {fs gs:List (Int × Int)},FL H xs fs→FL H ys gs→FL H (xs ++ ys) (fs ++ gs)
 | _,_,_,_,.nil,h=>h
 | _,_,_,_,.cons e t,h=>.cons e (FL.append t h)
theorem FL.one {H:Hp} {p:Addr} {a b:Int} (h:H p = some (.tup [.int a,.int b])):FL H [.ref p] [(a,b)]:=.cons (f:=(a,b)) h .nil
end L2
set_option Elab.async false
set_option linter.all false
set_option maxRecDepth 100000
set_option maxHeartbeats 4000000
namespace L2
open PySem PySem.Spec PyProof.Rows
def Its (x:Str):It:=⟨fun i _=>i < x.cps.size,fun i H v H'=>H' = H∧∃ c,x.cps[i]? = some c∧v = .str ⟨#[c]⟩,fun i _=>i = x.cps.size⟩
theorem turn_str {P:Program} {w:World} {K:PySem.W.Frag} {tg:Expr} (it:Addr) (x:Str) (t:Tok) (ty:String) (hty : ["enumerate", "zip", "dict_itemiterator", "dict_reverseitemiterator", "odict_iterator", "itertools.zip_longest", "itertools.pairwise"].contains ty = false)
  (W:∀ A:Around,A.handled = none→Walks P w A it [it] [it] x.cps.size (SignAt x) (fun i h=>h.IsStrIter it ty x t i))
  (hself:∀ (A:Around) (i:Nat) (s:Shared) (Q:Value→Shared→Prop) (E:Value→Shared→Prop),s.heap.IsStrIter it ty x t i→Q (.ref it) s→wpAny (model P w) A (pyIter (.ref it)) Q E s):Turn P w K tg (Its x) [it] it (fun i h=>h.IsStrIter it ty x t i) where
 mem:=by simp
 obj:=fun i h st b hb=>by
  have e:b = it:=by simpa using hb
  subst e
  obtain ⟨o,ho,_,hd⟩:=st
  exact ⟨o,ho,fun v z=>by rw [hd] at z; cases z⟩
 keep:=fun i h h' st k=>let ⟨o,ho,r⟩:=st; ⟨o,k it (by simp) o ho,r⟩
 item:=by
  intro X hP hw hK hc i pins s σ H E I hf st hg
  subst hP hw hK
  obtain ⟨f0,f1,f2,f3,f4,f5⟩:=hf it (by simp)
  refine (W X.A (I.ok.hd hc)).item i s _ _ hg st fun v h' tk hv st' kk=>?_
  obtain ⟨c,u,hx,rfl⟩:=hv
  have I1:Inv X pins σ H { s with heap:=h',toks:=tk }:=I.turned (fun b o hb e=>kk b o (by simpa using hb) e) f0 f1 f3 f4 f5
  obtain ⟨o,ho,hcl,hd⟩:=id st'
  exact ⟨_,rfl,go_of (s:={ s with heap:=h',toks:=tk }) ho hcl hd hty ⟨.str ⟨#[c]⟩,H,I1,⟨u,rfl⟩,⟨rfl,c,hx,rfl⟩,st',fun b hb=>(hf b hb).1⟩⟩
 done:=by
  intro X hP hw hK hc i pins s σ H E I hf st hg
  subst hP hw hK
  obtain ⟨f0,f1,f2,f3,f4,f5⟩:=hf it (by simp)
  have hg':i = x.cps.size:=hg
  subst hg'
  exact (W X.A (I.ok.hd hc)).done s _ _ st fun h' tk kk=>⟨rfl,I.turned (fun b o hb e=>kk b o (by simpa using hb) e) f0 f1 f3 f4 f5⟩
 self:=hself
section
variable {X:Cx} {tg:Expr}
def iStr (te:TE):TI:=fun σ H R=>te σ H fun v H1=>∃ x,v = .str x∧R (Its x) H1
theorem pi_str {l:Expr} {tl:TE} (hl:PE X l tl):PI X tg l (iStr tl):=by
 intro pins s σ H R I h
 refine thn (hl pins s σ H _ I h) fun v s1 ⟨x,H1,I1,r1,y,ey,q⟩=>?_
 subst ey
 obtain ⟨t,rfl⟩:=r1
 have fp:∀ b ∈ [s1.heap.objs.size],FpOk X pins H1 b:=fun b hb=>by
  have e:b = s1.heap.objs.size:=by simpa using hb
  subst e
  exact I1.fpOk (Nat.le_refl _) (I1.hok.fresh (Nat.le_refl _))
 have k:∀ o:Obj,Inv X pins σ H1 { s1 with heap:=s1.heap.push o }:=fun o=>I1.kept (t':=s1.toks) fun b ob z=>Heap.get?_push_of_some _ z
 cases ha:y.cps.all (· < 128)
 ·exact wpAny_pyIter_wide ha ⟨s1.heap.objs.size,[s1.heap.objs.size],_,Its y,H1,rfl,k _,turn_str _ y t "str_iterator" (by decide) (fun A hA=>Walks.strWide hA _ y t) (fun A i s Q E st h=>wpAny_pyIter_striter_wide st h),⟨_,Heap.get?_push_size _ rfl,rfl,rfl⟩,fp,q⟩
 ·exact wpAny_pyIter_ascii ha ⟨s1.heap.objs.size,[s1.heap.objs.size],_,Its y,H1,rfl,k _,turn_str _ y t "str_ascii_iterator" (by decide) (fun A hA=>Walks.strAscii hA _ y t) (fun A i s Q E st h=>wpAny_pyIter_striter_ascii st h),⟨_,Heap.get?_push_size _ rfl,rfl,rfl⟩,fp,q⟩
end
def cutS (x:Str) (lo hi:Option Int):Str:=⟨((x.cps.toList.drop (HT.sIx x.length 0 lo)).take (HT.sIx x.length x.length hi - HT.sIx x.length 0 lo)).toArray⟩
theorem strIdx (lo hi:Option Int) (n:Nat):Builtin.Str.strSliceIndices lo hi 1 n = (List.range (HT.sIx n n hi - HT.sIx n 0 lo)).map (HT.sIx n 0 lo + ·):=by
 rw [← sliceRange_one]
 unfold Builtin.Str.strSliceIndices
 have h1:∀ (o:Option Int) (d:Nat),d ≤ n→(match o with
   | none=>(d:Int)
   | some i=>(let i:=if i < 0 then i + (n:Int) else i; if (1:Int) > 0 then max 0 (min i n) else max (-1) (min i (n - 1)))) = ((HT.sIx n d o:Nat):Int):=by
  intro o d hd
  cases o with
  | none=>rfl
  | some i =>
   simp only [HT.sIx,show (1:Int) > 0 by decide,if_true]
   by_cases h:i < 0
   ·simp only [h,if_true] <;> omega
   ·simp only [h,if_false] <;> omega
 have e1:=h1 lo 0 (Nat.zero_le _)
 have e2:=h1 hi n (Nat.le_refl _)
 simp only [show (1:Int) > 0 by decide,if_true] at e1 e2 ⊢
 rw [← e1,← e2]
 rfl
theorem cutS_eq (x:Str) (lo hi:Option Int):(⟨((Builtin.Str.strSliceIndices lo hi 1 x.length).filterMap (x.cps[·]?)).toArray⟩ : Str) = cutS x lo hi:=by
 rw [strIdx,pick_run]; rfl
theorem cutS_whole (x:Str) (lo hi:Option Int) (h:(Builtin.Str.strSliceIndices lo hi 1 x.length).length = x.length):cutS x lo hi = x:=by
 rw [strIdx,List.length_map,List.length_range] at h
 have h2:=HT.sIx_le x.length x.length (Nat.le_refl _) hi
 unfold cutS
 have hx:x.length = x.cps.size:=rfl
 have e:x.cps.toList.length = x.length:=by simp [hx]
 by_cases z:x.length = 0
 ·have:x.cps.toList = []:=List.length_eq_zero_iff.mp (by omega)
  rw [this]
  obtain ⟨⟨l⟩⟩:=x
  simp at this
  subst this
  simp
 ·have e0:HT.sIx x.length 0 lo = 0:=by omega
  rw [e0,List.drop_zero,List.take_of_length_le (by omega)]
def rSlS:V→Option Int→Option Int→Hp→VK→Prop:=fun x lo hi H Q=>∃ y,x = .str y∧y.length ≤ sizeLine∧Q (.str (cutS y lo hi)) H
theorem part_of {v:Value} {o:Option Int} (h:IsPart v o):∃ l:Option (Int × Tok),v = partValue l∧l.map (·.1) = o:=by
 cases h with
 | none=>exact ⟨none,rfl,rfl⟩
 | int i t=>exact ⟨some (i,t),rfl,rfl⟩
theorem sl_str {X:Cx} : SlR X rSlS:=by
 intro pins s σ H x v vl vu lo hi sl Q I rx hs pl pu h
 obtain ⟨y,rfl,hz,q⟩:=h
 obtain ⟨t,rfl⟩:=rx
 obtain ⟨l,rfl,el⟩:=part_of pl
 obtain ⟨u,rfl,eu⟩:=part_of pu
 refine ⟨"str",_,F.slot_str_getitem.lookup,typeIs_str s y t,wpAny_getItem_str_slice (l:=l) (u:=u) (st:=none) hs rfl ?_⟩
 unfold sliceMade slicePicked
 rw [el,eu]
 split
 ·rename_i hw
  have hw':=(Bool.and_eq_true_iff.mp hw).2
  rw [beq_iff_eq] at hw'
  have e:=cutS_whole y lo hi hw'
  rw [e] at q
  exact ⟨.str y,H,I,⟨t,rfl⟩,q⟩
 ·have e:=cutS_eq y lo hi
  refine ⟨?_,.str (cutS y lo hi),H,I.tok _,⟨s.toks,?_⟩,q⟩
  ·refine Nat.le_trans ?_ hz
   refine Nat.le_trans (Nat.le_of_eq (congrArg Str.length e)) ?_
   show ((y.cps.toList.drop _).take _).toArray.size ≤ y.cps.size
   rw [List.size_toArray,List.length_take,List.length_drop,Array.length_toList]
   omega
  ·rw [← e]; rfl
end L2
set_option Elab.async false
set_option linter.all false
set_option maxRecDepth 100000
set_option maxHeartbeats 4000000
namespace L2
open PySem PySem.Spec PyProof.Rows
def tDispS (tk tv:TE):TE:=fun σ H Q=>∀ p,H p = none→tk σ (upd H p (.dK [])) fun x H1=>∃ i,x = .str i∧tv σ H1 fun y H2=>H2 p = some (.dK [])∧Q (.ref p) (upd H2 p (.dK [(.inr i,y)]))
section
variable {X:Cx}
def rAddS:R2:=fun x y H Q=>∃ i j,x = .str i∧y = .str j∧i.length + j.length ≤ sizeLine∧Q (.str (i ++ j)) H
theorem op_addS:OpR X (binaryOp .Add) rAddS:=op_add_str
def rLeS:R2:=fun x y H Q=>∃ i j,x = .str i∧y = .str j∧Q (.bl (!decide (j.cps.toList < i.cps.toList))) H
theorem op_leS:OpR X (compareOp .LtE) rLeS:=by
 intro pins s σ H x y v u Q I rx ry h
 obtain ⟨i,j,rfl,rfl,q⟩:=h
 obtain ⟨t,rfl⟩:=rx
 obtain ⟨t',rfl⟩:=ry
 exact PySem.P.le_str (fin_bl I q rfl)
def rInS (neg:Bool):R2:=fun x y H Q=>∃ i j,x = .str i∧y = .str j∧∃ c,i = ⟨#[c]⟩∧Q (.bl (if neg then !decide (c ∈ j.cps.toList) else decide (c ∈ j.cps.toList))) H
def rIntT:List V→Hp→VK→Prop:=fun xs H Q=>∃ x n,xs = [.str x]∧x.length ≤ 640∧PySem.intText? x = some n∧Q (.int n) H
theorem bools_are:∀ {bs:List Bool} {us:List Value},Vals (bs.map V.bl) us→∀ (i:Nat) (v:Value),us[i]? = some v→∃ b,bs[i]? = some b∧v = .bool b
 | [],_,.nil,i,v,h=>by cases i <;> cases h
 | b :: bs,_,.cons r t,0,v,h=>by
  rw [List.getElem?_cons_zero] at h
  cases h
  exact ⟨b,rfl,r⟩
 | b :: bs,_,.cons r t,i + 1,v,h=>by
  rw [List.getElem?_cons_succ] at h
  exact bools_are t i v h
def rAllH:List V→Hp→VK→Prop:=fun xs H Q=>∃ (l:Addr) (bs:List Bool),xs = [.ref l]∧H l = some (.lst (bs.map V.bl))∧Q (.bl (bs.all id)) H
theorem range_all_bools:∀ bs:List Bool,((List.range bs.length).all fun i=>(bs[i]?).getD true) = bs.all id
 | []=>rfl
 | b :: bs=>by
  rw [List.length_cons,List.range_succ_eq_map,List.all_cons,List.all_map,List.all_cons]
  have:=range_all_bools bs
  simp only [Function.comp_def,List.getElem?_cons_succ,List.getElem?_cons_zero,Option.getD_some,id] at this ⊢
  rw [this]
theorem call_allH (hc:X.calm = true):CallR X (.builtin "all") rAllH:=by
 intro pins s σ H xs us Q I r h
 obtain ⟨l,bs,rfl,hl,q⟩:=h
 obtain ⟨u,rfl,ru⟩:=r.one
 cases ru
 obtain ⟨its,rv,p⟩:=I.lstIs hl
 have hlt:l < s.heap.objs.size:=by obtain ⟨_,e,_⟩:=p; exact Heap.lt_size e
 refine call_all_walk (wpAny_pyIter_list p ?_)
 refine ⟨s.heap.objs.size,[s.heap.objs.size,l],[s.heap.objs.size],its.toArray.size,_,_,fun i=>(bs[i]?).getD true,rfl,Walks.list (A:=X.A.in1) (I.ok.hd hc) _ l (Nat.ne_of_lt hlt) its.toArray,
  ⟨⟨_,Heap.get?_push_size _ rfl,rfl,rfl⟩,p.push _⟩,fun i v s' Q' E' hP hQ=>?_,fun h' tk hk=>?_⟩
 ·obtain ⟨b,e,rfl⟩:=bools_are rv i v (by simpa using hP)
  simp only [e,Option.getD_some] at hQ
  exact wpAny_truthy_bool hQ
 ·have e:((List.range its.toArray.size).all fun i=>(bs[i]?).getD true) = bs.all id:=by
   rw [List.size_toArray,← rv.length,List.length_map]; exact range_all_bools bs
  refine ⟨.bl (bs.all id),H,I.kept (t':=tk) fun b o q=>hk b o (fun hm=>?_) (Heap.get?_push_of_some _ q),?_,q⟩
  ·rw [List.mem_singleton.mp hm] at q
   exact Nat.lt_irrefl _ (Heap.lt_size q)
  ·rw [e]; rfl
def rStarts:V→List V→Hp→VK→Prop:=fun x vs H Q=>∃ a b,x = .str a∧vs = [.str b]∧Q (.bl (decide (0 + b.length ≤ a.length) && Builtin.Str.subAt a b 0)) H
def findV:List Nat→Int
 | i :: _=>(i:Int)
 | []=>-1
def rFind:V→List V→Hp→VK→Prop:=fun x vs H Q=>∃ a b,x = .str a∧vs = [.str b]∧Q (.int (findV (Builtin.Str.occurrences a b 0 a.length 1))) H
def rSplit:V→List V→Hp→VK→Prop:=fun x vs H Q=>∃ a b,x = .str a∧vs = [.str b]∧1 ≤ b.length∧a.length < sizeLine∧∀ p,H p = none→Q (.ref p) (upd H p (.lst ((Txt.split a b).map V.str)))
def tSM (r:V→List V→Hp→VK→Prop) (to:TE) (t:TA):TE:=fun σ H Q=>to σ H fun x H1=>(∃ y,x = .str y)∧t σ H1 fun vs H2=>r x vs H2 Q
theorem pe_sm {o e:Expr} {to:TE} {t:TA} {name:Str} {id:String} {r:V→List V→Hp→VK→Prop} {apos cpos:Pos} (slot:Slot "str" name id) (hty:typeOf (.builtin id) = pure (.type "method_descriptor")) (hm:MtM X id r) (ho:PE X o to) (ha:PA X [e] t)
  (hb:attributeBase o name X.env (eval o X.env) = eval o X.env:=by rfl)
  (hf:((backTo cpos (starEach [e] X.env)).all (fun x=>!x.1) && (backToKw cpos (keywordEach [] X.env)).all (fun x=>x.1.isSome) && decide ([e].length + ([] : List Keyword).length + (if ([] : List Keyword).isEmpty then 0 else 1) < 30)) = true:=by rfl)
  (hl:(apos.endLine == cpos.line) = true:=by rfl) (hs:starEach [e] X.env = (false,eval e X.env) :: starEach [] X.env:=by rfl) (hp:(backTo cpos (starEach [] X.env)).any (·.1) = false:=by rfl) :
  PE X (.Call (.Attribute o name apos) [e] [] cpos) (tSM r to t):=by
 refine (pe_bm PySem.F.plainAttrs_str slot hty hm ho.mono ha hb hf hl hs hp).imp fun σ H Q h=>?_
 refine ⟨_,h,?_⟩
 rintro x H1 ⟨⟨y,rfl⟩,h2⟩
 exact ⟨rfl,h2⟩
theorem tComp_strB {tl te:TE} {σ:L2.St} {H:Hp} {Q:VK} (p:Nat→Bool) (y:Str) (hl:∀ R:VK,R (.str y) H→tl σ H R) (hz:y.length ≤ sizeLine) (he:∀ (c:Nat) (Hc:Hp) (R:VK),R (.bl (p c)) Hc→te (some (.str ⟨#[c]⟩) :: σ) Hc R)
  (q:∀ D,H D = none→Q (.ref D) (upd H D (.lst ((y.cps.toList.map p).map V.bl)))):tComp (iStr (tM tl)) (tM te) σ H Q:=by
 refine tM_in (hl _ ⟨y,rfl,fun D hD=>?_⟩)
 have hy:y.cps.size ≤ sizeLine:=hz
 refine ⟨fun k m ys Hc=>k ≤ y.cps.size∧m = y.cps.size - k∧ys = ((y.cps.toList.take k).map p).map V.bl∧Hc = upd H D (.lst ys),⟨_,Nat.zero_le _,rfl,rfl,rfl⟩,?_⟩
 rintro k m ys Hc ⟨hk,rfl,rfl,rfl⟩
 by_cases e:k = y.cps.size
 ·subst e
  refine .inl ⟨rfl,?_⟩
  rw [List.take_of_length_le (by simp)]
  exact q D hD
 ·have hlt:k < y.cps.size:=by omega
  refine .inr ⟨hlt,?_⟩
  rintro x H'' ⟨rfl,c,hc,rfl⟩
  refine tM_in (he c _ _ ⟨?_,upd_same,y.cps.size - (k + 1),by omega,by omega,rfl,?_,?_⟩)
  ·rw [List.length_map,List.length_map,List.length_take]
   simp only [Array.length_toList]
   omega
  ·have e1:y.cps.toList.take (k + 1) = y.cps.toList.take k ++ [c]:=by
    rw [List.take_succ]
    have:y.cps.toList[k]? = some c:=by simpa using hc
    rw [this]; rfl
   rw [e1,List.map_append,List.map_append]; rfl
  ·rw [upd_upd]
theorem pe_globE {x:Str} {v:V} {pos:Pos} (hg:Gl X x) (hm:∃ u,X.mg x = some u∧RelV v u) (hd:(x == ("__debug__" : Str)) = false:=by decide):PE X (.Name x pos) (tC v):=by
 obtain ⟨u,h1,h2⟩:=hm
 exact pe_glob hg h1 h2 hd
def rMulS:R2:=fun x y H Q=>∃ i n,x = .str i∧y = .int n∧i.length = 1∧0 ≤ n∧n ≤ 1000∧∀ z:Str,z.length ≤ n.toNat + 1→Q (.str z) H
theorem peB_ixL {a b:Expr} {ta tb:TE} {pos:Pos} (ha:PEB X a ta) (hb:PE X b tb) (hs:PlainIx b):PEB X (.Subscript a b pos) (tOp rIxLH ta tb):=⟨pe_ix ix_listH ha.out hb hs⟩
theorem pssB_one {st:Stmt} {t:TS} (h1:PSB X st t):PSsB X [st] t:=⟨pss_one h1.out⟩
end
end L2
set_option Elab.async false
set_option linter.all false
set_option maxRecDepth 100000
set_option maxHeartbeats 4000000
namespace L2
open PySem PySem.Spec PyProof.Rows
def hid (y:Str):Str:=Str.ofString "?" ++ y
def shadG (xs:List Str) (N:List Str):List Str:=N.map fun y=>if y ∈ xs then hid y else y
def Cx.compG (X:Cx) (N':List Str) (scope:Scope) (xs:List Str) (C:Addr) (s₀:Shared) (H₀:Hp) (ex:List Addr) (pn:List (Addr × Obj)):Cx :=
 { X with env:=compEnvC scope (clOf X.env.cells scope.names []) C X.env,N:=xs ++ N',s₀:=s₀,H₀:=H₀,outer:=X.stack,ex:=ex,fn:=fun _=>false,pn:=pn,xe:=fun _ _=>False }
def PTs (X:Cx) (ifs:List Expr) (tc:TT):Prop:=∀ (pins:List (Addr × Obj)) (s:Shared) (σ:L2.St) (H:Hp) (Q:Bool→Hp→Prop),Inv X pins σ H s→tc σ H Q →
 wpAny (model X.prog X.w) X.A (forIn ifs true fun c r=>if r = true then do let ok ← isTrue c X.env (eval c X.env); pure (ForInStep.yield ok) else pure (ForInStep.yield r)) (fun b s'=>∃ H',Inv X pins σ H' s'∧Q b H') X.xe s
def tYes:TT:=fun _ H Q=>Q true H
theorem pts_nil {X:Cx} : PTs X [] tYes:=fun _ _ _ H _ I q=>wpAny_tests_nil ⟨H,I,q⟩
theorem pts_one {X:Cx} {c:Expr} {tc:TT} (h:PT X c tc):PTs X [c] tc:=fun pins s σ H Q I q=>wpAny_tests_one (h pins s σ H Q I q)
def tCompG (wi:TI) (n:Nat) (gt:TG) (tc:TT) (te:TE):TE:=fun σ H Q=>wi σ H fun J H1=>∀ D,H1 D = none→∃ W:Nat→Nat→List V→Hp→Prop,(∃ m,W 0 m [] (upd H1 D (.lst [])))∧∀ i m ys Hc,W i m ys Hc →
 (J.stop i Hc∧Q (.ref D) Hc)∨(J.go i Hc∧∀ x H',J.yld i Hc x H'→∀ pre:L2.St,pre.length = n→gt x (pre ++ σ) H' fun σ2 H2=>∃ pre':L2.St,pre'.length = n∧σ2 = pre' ++ σ∧tc σ2 H2 fun b H3 =>
  match b with
  | true=>te σ2 H3 fun y H4=>ys.length < sizeLine∧H4 D = some (.lst ys)∧∃ m',m' < m∧W (i + 1) m' (ys ++ [y]) (upd H4 D (.lst (ys ++ [y])))
  | false=>∃ m',m' < m∧W (i + 1) m' ys H3)
section
variable {X:Cx} {elt iter:Expr} {pos:Pos} {scope:Scope} {wi:TI} {te:TE}
theorem compG_core {use:Option (Value→Sem Unit)} {post:Value→Shared→Prop} {Qv:VK} {pins:List (Addr × Obj)} {s:Shared} {σ:L2.St} {H:Hp} {pp:Pos} {xs N':List Str} {tg:Expr} {ifs:List Expr} {gt:TG} {tc:TT} (hc:X.calm = true) (hsh:shadG xs X.N = N') (hN:(xs ++ N').Nodup) (hkind:scope.kind = .function) (hcell:∀ y ∈ scope.names,y.2 ≠ .cell) (hnames:∀ y ∈ scope.names,y.2 = .local→scope.names.lookup y.1 = some .local)
  (hfree:∀ y ∈ scope.names,y.2 = .free→X.env.kindOf y.1 = some .cell∨X.env.kindOf y.1 = some .free) (hloc:∀ y ∈ X.N,y ∉ xs→(relabel scope X.env).names.lookup y ≠ some .local) (hq:∀ y ∈ X.N,y ∈ xs→(relabel scope X.env).names.lookup (hid y) = none) (hi:PI X tg iter wi)
  (hg:∀ C s₀ H₀ ex pn,PG (X.compG N' scope xs C s₀ H₀ ex pn) tg gt) (ht:∀ C s₀ H₀ ex pn,PTs (X.compG N' scope xs C s₀ H₀ ex pn) ifs tc) (he:∀ C s₀ H₀ ex pn,PE (X.compG N' scope xs C s₀ H₀ ex pn) elt te) (hs:∀ z,foldedSetIterable iter X.env z = pure z) (I:Inv X pins σ H s) (h:tCompG wi xs.length gt tc te σ H Qv)
  (endC:∀ (C D:Addr) (Hc:Hp) (s6:Shared) (m:Str→Option Value) (fl:Flow),s6.heap.Ns C m→Inv X pins σ Hc s6→FpOk X pins Hc C→Qv (.ref D) Hc→compPost (model X.prog X.w) X.A X.xe use post (.ref D) C (.ok fl) s6) :
  wpAny (model X.prog X.w) X.A (comprehension (.ListComp elt [⟨tg,iter,ifs,0⟩] scope pos) scope X.env pp (newList []) false (eval iter X.env) use) post X.xe s:=by
 have hfr:∀ y ∈ scope.names,y.2 = .free→∃ c,X.env.cells.lookup y.1 = some c:=fun y hy e=>I.ok.has y.1 (hfree y hy e)
 refine wpAny_comprehension_free (use:=use) (Q:=post) rfl hs (closure_eq hfr) hkind hnames (thn (hi pins s σ H _ I h) fun v s1 h1=>thn h1 fun itv s2 h2=>?_)
 obtain ⟨it,fp,tn,J,H2,e,I2,T,st2,f2,R⟩:=h2
 subst e
 have nD:H2 s2.heap.objs.size = none:=I2.hok.fresh (Nat.le_refl _)
 obtain ⟨W,⟨m0,w0⟩,turn⟩:=R s2.heap.objs.size nD
 refine wpAny_newObj_type ?_ (by show 0 ≤ sizeLine; exact Nat.zero_le _)
 have I3:Inv X pins σ (upd H2 s2.heap.objs.size (.lst [])) { s2 with heap:=s2.heap.push { cls:=.type "list",dict:=none,data:=.seq ([] : List Value).toArray } }:=I2.lnew (t':=s2.toks) (ys:=[]) (its:=[]) .nil (Nat.zero_le _)
 have oldT:∀ b o,s2.heap.get? b = some o→(s2.heap.push { cls:=.type "list",dict:=none,data:=.seq ([] : List Value).toArray }).get? b = some o:=fun b o e=>Heap.get?_push_of_some _ e
 generalize hs3:({ s2 with heap:=s2.heap.push { cls:=.type "list",dict:=none,data:=.seq ([] : List Value).toArray } } : Shared) = s3 at I3 ⊢
 have st3:tn 0 s3.heap:=T.keep _ _ _ st2 fun b _ o e=>by rw [← hs3]; exact oldT b o e
 generalize hH3:upd H2 s2.heap.objs.size (.lst []) = H3 at I3 w0
 have f3:∀ b ∈ fp,FpOk X pins H3 b:=fun b hb=>by
  obtain ⟨a1,a2⟩:=f2 b hb
  refine ⟨?_,a2⟩
  obtain ⟨o,e,_⟩:=T.obj _ _ st2 b hb
  rw [← hH3,upd_ne (Nat.ne_of_lt (Heap.lt_size e))]
  exact a1
 refine wpAny_newFunctionEnv hcell (by intro y hy; simp at hy) (fun g hns hsb=>?_) hkind
 have kg:∀ b o,s3.heap.get? b = some o→g.get? b = some o:=fun b o e=>(hsb.2 b (Nat.ne_of_lt (Heap.lt_size e))).trans (Heap.get?_push_of_some _ e)
 have clm:∀ {y:Str} {c:Addr},(clOf X.env.cells scope.names []).lookup y = some c→X.env.cells.lookup y = some c:=fun {y c} e=>by
  rcases clOf_mem hfr (PySem.mem_of_lookup e) with z | z
  ·cases z
  ·exact z
 have kinds:∀ {y:Str},((relabel scope X.env).names.lookup y = some .cell∨(relabel scope X.env).names.lookup y = some .free)→(X.env.kindOf y = some .cell∨X.env.kindOf y = some .free)∧∃ c,(clOf X.env.cells scope.names []).lookup y = some c:=fun {y} e=>by
  have z:=relabel_free e hcell
  obtain ⟨c,hc'⟩:=clOf_has (cells:=X.env.cells) (acc:=[]) (.inl z)
  exact ⟨hfree _ z rfl,lookup_some_of_mem hc'⟩
 have lt3:∀ b ∈ fp,b < s3.heap.objs.size:=fun b hb=>by
  obtain ⟨o,e,_⟩:=T.obj _ _ st3 b hb
  exact Heap.lt_size e
 have nst:∀ b ∈ fp,b ∉ frs X.stack:=fun b hb=>I3.nostk' (f3 b hb).2.1 (f3 b hb).2.2.1
 generalize hX:X.compG N' scope xs s3.heap.objs.size s3 H3 fp (X.pn ++ pins) = Y
 have ok':Y.Ok:=by
  subst hX
  exact ⟨I3.ok.mod,hkind,I3.ok.glob,I3.ok.blt,Nat.le_refl _,fun y z c h1 h2=>I3.ok.inj y z c (clm h1) (clm h2),fun y hy=>(kinds hy).2,fun _ _ z=>(nomatch z),I3.ok.hd,I3.ok.frames,.inl rfl,
   fun b hb=>⟨Nat.ne_of_lt (lt3 b hb),fun y c e=>(f3 b hb).2.2.2.2.1 y c (clm e)⟩,I3.bs,Nat.le_trans I3.ok.bsz I3.sz,fun b o e hb=>by
    rcases (f3 b hb).2.2.2.1 with z | z
    ·exact I3.ok.noex b o e z
    ·exact absurd (Nat.lt_of_lt_of_le (Nat.lt_of_lt_of_le (Heap.lt_size e) I3.ok.bsz) z) (Nat.lt_irrefl _),nst,I3.stack,I3.stkFree⟩
 have J4:∀ tk,Inv Y [] (List.replicate xs.length none ++ σ) H3 { s3 with heap:=g,toks:=tk }:=fun tk=>by
  subst hX
  refine ⟨ok',rfl,I3.bare,Un.kept kg,⟨_,hns,fun i y v e1 e2 e3=>?_⟩,fun y c e=>?_,I3.hok.fresh (Nat.le_refl _),fun y c e=>I3.freeC y c (clm e),fun p hp=>?_,I3.hok.kept kg,?_⟩
  ·by_cases hin:i < xs.length
   ·rw [List.getElem?_append_left (by rw [List.length_replicate]; exact hin),List.getElem?_replicate,if_pos hin] at e2
    cases e2
   ·obtain ⟨j,rfl⟩ : ∃ j,i = xs.length + j:=⟨i - xs.length,by omega⟩
    have e0:N'[j]? = some y:=by
     have e1:(xs ++ N')[xs.length + j]? = some y:=e1
     rw [List.getElem?_append_right (by omega)] at e1
     rw [show xs.length + j - xs.length = j by omega] at e1
     exact e1
    have e2':σ[j]? = some (some v):=by
     rw [List.getElem?_append_right (by rw [List.length_replicate]; omega),List.length_replicate] at e2
     rw [show xs.length + j - xs.length = j by omega] at e2
     exact e2
    rw [← hsh] at e0
    obtain ⟨y0,e1',ey⟩ : ∃ y0,X.N[j]? = some y0∧(if y0 ∈ xs then hid y0 else y0) = y:=by
     unfold shadG at e0
     rw [List.getElem?_map] at e0
     cases hz:X.N[j]? with
     | none=>rw [hz] at e0; cases e0
     | some y0=>rw [hz] at e0; exact ⟨y0,rfl,Option.some.inj e0⟩
    have e3:(relabel scope X.env).names.lookup y = some .local∨(relabel scope X.env).names.lookup y = some .cell∨(relabel scope X.env).names.lookup y = some .free:=e3
    have ne:¬ y0 ∈ xs:=fun z=>by
     rw [if_pos z] at ey
     subst ey
     rw [hq y0 (List.mem_of_getElem? e1') z] at e3
     rcases e3 with z | z | z <;> cases z
    rw [if_neg ne] at ey
    subst ey
    have e3':(relabel scope X.env).names.lookup y0 = some .cell∨(relabel scope X.env).names.lookup y0 = some .free:=by
     rcases e3 with z | z
     ·exact absurd z (hloc y0 (List.mem_of_getElem? e1') ne)
     ·exact z
    obtain ⟨kd,c,hcl⟩:=kinds e3'
    obtain ⟨m,_,hl⟩:=I3.loc
    obtain ⟨u,r,lk⟩:=hl j y0 v e1' e2' (.inr kd)
    refine ⟨u,r,.inr ⟨e3',c,hcl,?_⟩⟩
    rcases lk with ⟨k1,_⟩ | ⟨_,c',q1,o,q2,q3⟩
    ·exfalso
     have k1':X.env.kindOf y0 = some .local:=k1
     rcases kd with k2 | k2 <;> rw [k1'] at k2 <;> cases k2
    ·rw [clm hcl] at q1
     cases q1
     exact ⟨o,kg _ _ q2,q3⟩
  ·obtain ⟨v,o,q2,q3⟩:=I3.cell y c (clm e)
   exact ⟨v,o,kg _ _ q2,q3⟩
  ·have hp':p ∈ X.pn ++ pins:=by simpa [Cx.compG] using hp
   obtain ⟨a1,a2,a3,a4,a5⟩:=I3.pin p hp'
   exact ⟨kg _ _ a1,a2,Nat.ne_of_lt (Heap.lt_size a1),I3.nostk' a3 a4,a5⟩
  ·show (List.replicate xs.length none ++ σ).length = (xs ++ N').length
   have hln:N'.length = X.N.length:=by rw [← hsh]; unfold shadG; rw [List.length_map]
   rw [List.length_append,List.length_replicate,List.length_append,I3.len,hln]
 have fpY:∀ {Hc:Hp},(∀ b ∈ fp,Hc b = none)→∀ b ∈ fp,FpOk Y [] Hc b:=fun {Hc} hn b hb=>by
  subst hX
  exact ⟨hn b hb,Nat.ne_of_lt (lt3 b hb),nst b hb,.inl hb,fun y c e=>(f3 b hb).2.2.2.2.1 y c (clm e),fun p hp=>(f3 b hb).2.2.2.2.2 p (by simpa [Cx.compG] using hp)⟩
 have loop:∀ s4:Shared,s4 = { s3 with heap:=g,toks:=s3.toks + ([] : List (Str × Value)).length } →
   codeAny (model X.prog X.w) X.A (.compLoop (.ListComp elt [⟨tg,iter,ifs,0⟩] scope pos) 0 (.ref it) (.ref s2.heap.objs.size) Y.env) (compPost (model X.prog X.w) X.A X.xe use post (.ref s2.heap.objs.size) s3.heap.objs.size) s4:=by
  rintro s4 rfl
  have YP:Y.prog = X.prog∧Y.w = X.w∧Y.K = X.K∧Y.calm = X.calm∧Y.A = X.A∧Y.env.locals = s3.heap.objs.size:=by subst hX; exact ⟨rfl,rfl,rfl,rfl,rfl,rfl⟩
  obtain ⟨y1,y2,y3,y4,y5,y6⟩:=YP
  have he':PE Y elt te:=by subst hX; exact he _ _ _ _ _
  have hg':PG Y tg gt:=by subst hX; exact hg _ _ _ _ _
  have ht':PTs Y ifs tc:=by subst hX; exact ht _ _ _ _ _
  have xeY:Y.xe = fun _ _=>False:=by subst hX; rfl
  have yb:∀ {Hc:Hp} {w':L2.St} {pn:List (Addr × Obj)} {s':Shared},Inv Y pn w' Hc s'→Un (frs X.stack) fp H3 Hc s3.heap s'.heap:=fun {Hc w' pn s'} Z=>by
   have:=Z.base
   subst hX
   exact this
  have yos:∀ {Hc:Hp} {w':L2.St} {pn:List (Addr × Obj)} {s':Shared},Inv Y pn w' Hc s'→s'.os = s3.os:=fun {Hc w' pn s'} Z=>by
   have:=Z.os
   subst hX
   exact this
  refine codeAny_loop rfl (fun n s'=>∃ i ys Hc,∃ w':L2.St,w'.length = xs.length∧Inv Y [] (w' ++ σ) Hc s'∧tn i s'.heap∧(∀ b ∈ fp,Hc b = none)∧W i n ys Hc) (fun n s5 hI=>?_) m0 ⟨0,[],H3,List.replicate xs.length none,List.length_replicate,J4 _,T.keep _ _ _ st3 fun b _ o e=>kg b o e,fun b hb=>(f3 b hb).1,w0⟩
  obtain ⟨i,ys,Hc,w',hw',Z,stc,frc,wc⟩:=hI
  show wpAny _ _ ((compTurn (.ListComp elt [⟨tg,iter,ifs,0⟩] scope pos) 0 (.ref it) (.ref s2.heap.objs.size) Y.env).onRaise (fun z=>do noteFrame z Y.env; theTreesLotGoes z)) _ _ s5
  refine wpAny_noted (wpAny_noRaise ?_)
  rw [compTurn_list]
  show wpAny (model X.prog X.w) X.A _ _ _ _
  rcases turn i n ys Hc wc with ⟨stop,qn⟩ | ⟨go,step⟩
  ·have hd:=T.done Y y1 y2 y3 (y4.trans hc) i [] s5 (w' ++ σ) Hc (fun _ _=>False) Z (fpY frc) stc stop
   rw [y5] at hd
   refine wpAny_bind (wpAny_standAt (wpAny_bind (thn hd fun r s6 ⟨hr,Z6⟩=>?_)))
   subst hr
   refine wpAny_pure ?_
   obtain ⟨m,hn6,_⟩:=Z6.loc
   rw [y6] at hn6
   have u6:=yb Z6
   have hok:HOk X.prog X.w Hc s6.heap:=by
    have z:=Z6.hok
    rw [y1,y2] at z
    exact z
   have cn:Hc s3.heap.objs.size = none:=by
    have z:=Z6.free
    rw [y6] at z
    exact z
   have I6:Inv X pins σ Hc s6:=I3.call' (s':=s6) (ch:=fp) (yos Z6) u6 hok Z6.bare fun b hb=>⟨(f3 b hb).2.2.2.1,(f3 b hb).2.1,(f3 b hb).2.2.2.2.1,(f3 b hb).2.2.2.2.2⟩
   have fC:FpOk X pins Hc s3.heap.objs.size:=I3.fpOk (Nat.le_refl _) cn
   exact endC _ _ Hc s6 m _ hn6 I6 fC qn
  ·have hd:=T.item Y y1 y2 y3 (y4.trans hc) i [] s5 (w' ++ σ) Hc (fun _ _=>False) Z (fpY frc) stc go
   rw [y5] at hd
   refine wpAny_bind (wpAny_standAt (wpAny_bind (thn hd fun r s6 ⟨u,hr,h6⟩=>?_)))
   subst hr
   refine wpAny_bind (thn h6 fun _ s7 ⟨xv,H7,Z7,r7,yl,st7,fr7⟩=>?_)
   have Z7':=Z7.pinned (fpY fr7) (T.obj _ _ st7)
   have hst:=hg' _ s7 _ H7 xv u _ Z7' r7 (step xv H7 yl w' hw')
   rw [y1,y2,y5,xeY] at hst
   refine wpAny_bind (thn hst fun _ s8 ⟨σ8,H8,Z8,pre,hpre,e8,q8⟩=>?_)
   subst e8
   have hte:=ht' _ s8 _ H8 _ Z8 q8
   rw [y1,y2,y5,xeY] at hte
   have fin:∀ {m':Nat} {ys':List V} {H9:Hp} {s9:Shared},Inv Y ([] ++ pinsAt fp s7.heap) (pre ++ σ) H9 s9→m' < n→W (i + 1) m' ys' H9→∃ m,m < n∧∃ i ys Hc,∃ w':L2.St,w'.length = xs.length∧Inv Y [] (w' ++ σ) Hc s9∧tn i s9.heap∧(∀ b ∈ fp,Hc b = none)∧W i m ys Hc:=fun {m' ys' H9 s9} Z9 hm' w9 =>
    ⟨m',hm',i + 1,ys',H9,pre,hpre,Z9.unpinned,T.keep _ _ _ st7 fun b hb o e=>(Z9.pin (b,o) (List.mem_append_right _ (List.mem_append_right _ (mem_pinsAt hb e)))).1,fun b hb=>by
     obtain ⟨o,e,_⟩:=T.obj _ _ st7 b hb
     exact (Z9.pin (b,o) (List.mem_append_right _ (List.mem_append_right _ (mem_pinsAt hb e)))).2.1,w9⟩
   refine wpAny_bind (thn hte fun ok s9 ⟨H9,Z9,q9⟩=>?_)
   cases ok with
   | false =>
    obtain ⟨m',hm',w9⟩:=q9
    exact wpAny_pure ⟨rfl,fin Z9 hm' w9⟩
   | true =>
    have hel:=he' _ s9 _ H9 _ Z9 q9
    rw [y1,y2,y5,xeY] at hel
    refine wpAny_bind (wpAny_bind (thn hel fun ev s10 ⟨yv,H10,Z10,r10,hz,hD10,m',hm',w10⟩=>?_))
    have hap:=mt_append (X:=Y) _ s10 _ H10 (.ref s2.heap.objs.size) [yv] (.ref s2.heap.objs.size) [ev] (fun _ Hf=>Hf = upd H10 s2.heap.objs.size (.lst (ys ++ [yv]))) Z10 rfl (.cons r10 .nil) ⟨_,ys,yv,rfl,rfl,hD10,hz,rfl⟩
    rw [y1,y2,y5,xeY] at hap
    refine wpAny_bind (thn hap fun av s11 ⟨_,H11,Z11,_,e11⟩=>?_)
    subst e11
    exact wpAny_pure (wpAny_pure ⟨rfl,fin Z11 hm' w10⟩)
 have henv:Y.env = compEnvC scope (clOf X.env.cells scope.names []) s3.heap.objs.size X.env:=by subst hX; rfl
 rw [henv] at loop
 exact codeAny_compStart_list (loop _ rfl) (T.self _ 0 _ _ _ (T.keep _ _ _ st3 fun b _ o e=>kg b o e) (loop _ rfl))
theorem pe_compG {xs N':List Str} {tg:Expr} {ifs:List Expr} {gt:TG} {tc:TT} (hc:X.calm = true) (hsh:shadG xs X.N = N') (hN:(xs ++ N').Nodup) (hkind:scope.kind = .function) (hcell:∀ y ∈ scope.names,y.2 ≠ .cell) (hnames:∀ y ∈ scope.names,y.2 = .local→scope.names.lookup y.1 = some .local)
  (hfree:∀ y ∈ scope.names,y.2 = .free→X.env.kindOf y.1 = some .cell∨X.env.kindOf y.1 = some .free) (hloc:∀ y ∈ X.N,y ∉ xs→(relabel scope X.env).names.lookup y ≠ some .local) (hq:∀ y ∈ X.N,y ∈ xs→(relabel scope X.env).names.lookup (hid y) = none) (hi:PI X tg iter wi)
  (hg:∀ C s₀ H₀ ex pn,PG (X.compG N' scope xs C s₀ H₀ ex pn) tg gt) (ht:∀ C s₀ H₀ ex pn,PTs (X.compG N' scope xs C s₀ H₀ ex pn) ifs tc) (he:∀ C s₀ H₀ ex pn,PE (X.compG N' scope xs C s₀ H₀ ex pn) elt te) (hs:∀ z,foldedSetIterable iter X.env z = pure z:=by intro _; rfl) :
  PE X (.ListComp elt [⟨tg,iter,ifs,0⟩] scope pos) (tCompG wi xs.length gt tc te):=by
 intro pins s σ H Q I h
 rw [eval_ListComp]
 exact compG_core hc hsh hN hkind hcell hnames hfree hloc hq hi hg ht he hs I h fun C D Hc s6 m fl hn I6 fC q=>⟨m,hn,fun h' hs'=>⟨.ref D,Hc,I6.turned (it:=C) (h':=h') (t':=s6.toks) (fun b o hb e=>(hs'.2 b hb).trans e) fC.1 fC.2.1 fC.2.2.2.1 fC.2.2.2.2.1 fC.2.2.2.2.2,rfl,q⟩⟩
end
end L2
set_option Elab.async false
set_option linter.all false
set_option maxRecDepth 100000
set_option maxHeartbeats 4000000
namespace L2
open PySem PySem.Spec PyProof.Rows
section
variable {X:Cx} {k:Nat} {f C:Addr} {fd:FuncData} {ps:List Str} {sp:Sp} {dvs:List V} {ds:List Value} {x m:Str} {p pos apos:Pos} {e o:Expr} {es:List Expr} {ta:TE} {t:TA} {Ex:Value→Option Addr→L2.St→Hp→Prop}
def tMakeX (C:Addr) (sp:Sp) (dvs:List V) (Ex:Value→Option Addr→L2.St→Hp→Prop) (t:TA):TE:=fun σ H Q=>t σ H fun vs H1=>∀ x dx,H1 x = none→H1 dx = none→dx ≠ x→sp (.ref x :: (vs ++ dvs)) (upd (upd H1 dx (.own x)) x (.ins C dx [])) (fun v H2=>v = .non∧Q (.ref x) H2) fun C d H'=>Ex C d σ H'
theorem run_fnX {pins:List (Addr × Obj)} {σ:St} {H:Hp} {s:Shared} {Q:VK} {us:List Value} {vs:List V} (F:FnOk X.prog X.w X.K X.mg X.base (CXO X.prog X.w) k f fd ps sp) (hr:Room k X.A) (hb:Binds X.K fd ps ds) (hd:Vals dvs ds) (hx:XFly X Ex)
  (I:Inv X pins σ H s) (r:Vals vs us) (h:sp (vs ++ dvs) H Q fun C d H'=>Ex C d σ H'):wpAny (model X.prog X.w) X.A (call (.ref f) us) (EP X pins σ Q) X.xe s:=by
 have r2:Vals (vs ++ dvs) (us ++ ds):=r.append hd
 have hl:(us ++ ds).length = ps.length:=by rw [← r2.length]; exact F.len _ _ _ _ h
 refine wpAny_call (codeAny_mono (F.run X.A X.stack s H ⟨us,[]⟩ (us ++ ds) (vs ++ dvs) Q _ hr I.env0 (hb s us I.kIn hl) r2 h) fun r s' hq=>?_)
 cases r with
 | error e =>
  obtain ⟨a,C,d,H',B,rfl,Fl,q'⟩:=hq
  exact hx pins σ H s a C H' s' B d I Fl q'
 | ok fl =>
  cases fl with
  | ret u=>exact I.after hq
  | next=>exact False.elim hq
  | brk=>exact False.elim hq
  | cont=>exact False.elim hq
theorem run_makeX {pins:List (Addr × Obj)} {σ:St} {H:Hp} {s:Shared} {Q:VK} {us:List Value} {vs:List V} (M:Mk X.K C f) (F:FnOk X.prog X.w X.K X.mg X.base (CXO X.prog X.w) k f fd ps sp) (hr:Room (k + 1) X.A) (hb:Binds X.K fd ps ds) (hd:Vals dvs ds)
  (hx:XFly X Ex) (I:Inv X pins σ H s) (r:Vals vs us)
  (h:∀ x dx,H x = none→H dx = none→dx ≠ x→sp (.ref x :: (vs ++ dvs)) (upd (upd H dx (.own x)) x (.ins C dx [])) (fun v H2=>v = .non∧Q (.ref x) H2) fun C d H'=>Ex C d σ H') :
  wpAny (model X.prog X.w) X.A (call (.ref C) us) (EP X pins σ Q) X.xe s:=by
 have hq:=h (s.heap.objs.size + 1) s.heap.objs.size (I.hok.fresh (Nat.le_succ _)) (I.hok.fresh (Nat.le_refl _)) (Nat.ne_of_lt (Nat.lt_succ_self _))
 have I2:=Inv.made (C:=C) I
 have r2:Vals (V.ref (s.heap.objs.size + 1) :: (vs ++ dvs)) (Value.ref (s.heap.objs.size + 1) :: (us ++ ds)):=.cons rfl (r.append hd)
 have hl:(Value.ref (s.heap.objs.size + 1) :: us ++ ds).length = ps.length:=by
  have e:=r2.length
  rw [F.len _ _ _ _ hq] at e
  exact e.symm
 refine wpAny_call (make_map (f:=f) I.kIn M.makes M.init (beq_iff_eq.mp M.fn) (codeAny_mono (F.run _ X.stack _ _ ⟨Value.ref (s.heap.objs.size + 1) :: us,[]⟩ (Value.ref (s.heap.objs.size + 1) :: (us ++ ds)) _ _ _ (hr.make C us [])
  (I2.env0.make C us []) (hb _ (Value.ref (s.heap.objs.size + 1) :: us) I2.kIn hl) r2 hq) fun r s' hq'=>?_))
 cases r with
 | error e =>
  obtain ⟨a,C,d,H',B,rfl,Fl,q'⟩:=hq'
  exact hx pins σ _ _ a C H' s' B d I2 Fl q'
 | ok fl =>
  cases fl with
  | ret u =>
   obtain ⟨v,H',I3,rv,ev,q3⟩:=I2.after hq'
   subst ev
   exact ⟨rv,⟨V.ref (s.heap.objs.size + 1),H',I3,rfl,q3⟩⟩
  | next=>exact False.elim hq'
  | brk=>exact False.elim hq'
  | cont=>exact False.elim hq'
theorem pe_makeX (M:Mk X.K C f) (F:FnOk X.prog X.w X.K X.mg X.base (CXO X.prog X.w) k f fd ps sp) (hr:Room (k + 1) X.A) (hg:Gl X x) (hm:X.mg x = some (.ref C)) (hb:Binds X.K fd ps ds) (hd:Vals dvs ds) (hx:XFly X Ex)
  (ha:PA X (e :: es) t) (hdb:(x == ("__debug__" : Str)) = false:=by decide) (he:starEach (e :: es) X.env = (false,eval e X.env) :: starEach es X.env:=by rfl) (hpl:(backTo pos (starEach es X.env)).any (·.1) = false:=by rfl) :
  PE X (.Call (.Name x p) (e :: es) [] pos) (tMakeX C sp dvs Ex t):=by
 intro pins s σ H Q I h
 refine wpAny_Call_Name_kw (ld_glob I hg hm ?_ hdb)
 refine PySem.W.callWith_K (h₀:=X.base) I.ok.mod.kin M.kp (thn (ha pos pins s σ H _ I h) fun us s1 ⟨vs,H1,I1,r,q⟩=>⟨I1.kIn,?_⟩) he hpl
 exact run_makeX M F hr hb hd hx I1 r q
end
end L2
set_option Elab.async false
set_option linter.all false
set_option maxRecDepth 100000
set_option maxHeartbeats 4000000
namespace L2
open PySem PySem.Spec PyProof.Rows
structure ByCls (K:PySem.W.Frag) (B:Addr) (m:Str) (f:Addr):Prop where
 ga:PySem.W.specialIn K (.ref B) "__getattribute__" = some (some (.builtin "type.__getattribute__"))
 rd:PySem.W.readsIn K B (.type "type") = true
 at_:PySem.W.findCls K (.ref B) (.type "type") m = some (.val (.ref f))
 hd:PySem.W.handedIn (.ref f) = true
 kp:PySem.W.keepIn K (.ref f) = true
section
variable {X:Cx} {k:Nat} {f B:Addr} {fd:FuncData} {ps:List Str} {sp:Sp} {dvs:List V} {ds:List Value} {x m:Str} {p pos apos:Pos} {e:Expr} {es:List Expr} {t:TA} {Ex:Value→Option Addr→L2.St→Hp→Prop}
theorem ByCls.get {pins:List (Addr × Obj)} {σ:L2.St} {H:Hp} {s:Shared} {pl:Sem Bool} {A:Around} {E:Value→Shared→Prop} {Q:Value × List Value→Shared→Prop} (c:ByCls X.K B m f) (I:Inv X pins σ H s) (h:∀ t,Q (.ref f,[]) { s with toks:=t }) :
  wpAny (model X.prog X.w) A (getMethod (.ref B) m pl) Q E s :=
 PySem.W.method_cls I.kIn c.ga (PySem.W.cls_value I.kIn c.rd c.at_ c.hd (h _))
theorem pe_baseX {pl:Sem Bool} (c:ByCls X.K B m f) (F:FnOk X.prog X.w X.K X.mg X.base (CXO X.prog X.w) k f fd ps sp) (hr:Room k X.A) (hg:Gl X x) (hm:X.mg x = some (.ref B)) (hb:Binds X.K fd ps []) (hx:XFly X Ex) (ha:PA X (e :: es) t) (hdb:(x == ("__debug__" : Str)) = false:=by decide)
  (hst:starEach (e :: es) X.env = (false,eval e X.env) :: starEach es X.env:=by rfl) (hpl:(backTo pos (starEach es X.env)).any (·.1) = false:=by rfl)
  (ht:eval (.Call (.Attribute (.Name x p) m apos) (e :: es) [] pos) X.env = (do
   let ov ← eval (.Name x p) X.env
   standAt apos.atName
   let (f,first) ← holding [ov] (getMethod ov m pl)
   callWith pos f first (backTo pos (starEach (e :: es) X.env)) (backToKw pos (keywordEach [] X.env))):=by rfl) :
  PE X (.Call (.Attribute (.Name x p) m apos) (e :: es) [] pos) (tCallX sp Ex t):=by
 intro pins s σ H Q I h
 refine PySem.W.methodCall_KW (pl:=pl) (ld_glob I hg hm (c.get I fun tk=>?_) hdb) ht
 refine PySem.W.callWith_K (first:=[]) (h₀:=X.base) I.ok.mod.kin c.kp (thn (ha pos pins _ σ H _ (I.tok tk) h) fun us s2 ⟨vs,H2,I2,r,q2⟩=>⟨I2.kIn,?_⟩) hst hpl
 exact run_fnX (us:=us) (vs:=vs) F hr hb .nil hx I2 r (by rw [List.append_nil]; exact q2)
end
end L2
set_option Elab.async false
set_option linter.all false
set_option maxRecDepth 100000
set_option maxHeartbeats 4000000
namespace L2
open PySem PySem.Spec PyProof.Rows
section
variable {κ:Type} [DecidableEq κ]
def valV (kvs:List (κ × V)) (k:κ):Option V:=(kvs.find? fun kv=>decide (kv.1 = k)).map (·.2)
def putK (kvs:List (κ × V)) (k:κ) (v:V):List (κ × V) :=
 if (kvs.any fun kv=>decide (kv.1 = k)) = true then kvs.map (fun kv=>if kv.1 = k then (kv.1,v) else kv) else kvs ++ [(k,v)]
theorem valV_pos {p:κ × V} {r:List (κ × V)} {k:κ} (e:p.1 = k):valV (p :: r) k = some p.2:=by simp [valV,List.find?_cons,e]
theorem valV_neg {p:κ × V} {r:List (κ × V)} {k:κ} (e:¬ p.1 = k):valV (p :: r) k = valV r k:=by simp [valV,List.find?_cons,e]
theorem length_putK (kvs:List (κ × V)) (k:κ) (v:V):(putK kvs k v).length ≤ kvs.length + 1:=by
 unfold putK
 split
 ·rw [List.length_map]; omega
 ·rw [List.length_append,List.length_cons,List.length_nil]; omega
theorem RelO.isSome_eq {o:Option V} {u:Option Value} (r:RelO o u):o.isSome = u.isSome:=by
 cases o with
 | none=>cases u with
  | none=>rfl
  | some _=>exact (show False from r).elim
 | some _=>cases u with
  | none=>exact (show False from r).elim
  | some _=>rfl
theorem RelO.getD {o:Option V} {u:Option Value} {d:V} {d':Value} (r:RelO o u) (rd:RelV d d'):RelV (o.getD d) (u.getD d'):=by
 cases o with
 | none=>cases u with
  | none=>exact rd
  | some _=>exact (show False from r).elim
 | some _=>cases u with
  | none=>exact (show False from r).elim
  | some _=>exact r
theorem KV.val {kvs:List (κ × V)} {vs:List (κ × Value)} (r:KV kvs vs) (k:κ):RelO (valV kvs k) (valueAt vs k):=by
 unfold KV at r
 induction r with
 | nil=>exact True.intro
 | @cons p q ps qs h t ih =>
  obtain ⟨h1,h2⟩:=h
  by_cases e:p.1 = k
  ·have e':q.1 = k:=h1.symm.trans e
   have b:valueAt (q :: qs) k = some q.2:=by simp [valueAt,List.find?_cons,e']
   rw [valV_pos e,b]; exact h2
  ·have e':¬ q.1 = k:=fun z=>e (h1.trans z)
   have b:valueAt (q :: qs) k = valueAt qs k:=by simp [valueAt,List.find?_cons,e']
   rw [valV_neg e,b]; exact ih
theorem KV.any {kvs:List (κ × V)} {vs:List (κ × Value)} (r:KV kvs vs) (k:κ):(kvs.any fun kv=>decide (kv.1 = k)) = vs.any fun kv=>decide (kv.1 = k):=by
 unfold KV at r
 induction r with
 | nil=>rfl
 | cons h t ih=>rw [List.any_cons,List.any_cons,ih,h.1]
theorem KV.repl {kvs:List (κ × V)} {vs:List (κ × Value)} (r:KV kvs vs) (k:κ) {y:V} {u:Value} (ry:RelV y u) :
  KV (kvs.map fun kv=>if kv.1 = k then (kv.1,y) else kv) (vs.map fun kv=>if kv.1 = k then (kv.1,u) else kv):=by
 unfold KV at r ⊢
 induction r with
 | nil=>exact .nil
 | @cons p q ps qs h t ih =>
  rw [List.map_cons,List.map_cons]
  refine .cons ?_ ih
  obtain ⟨h1,h2⟩:=h
  by_cases e:p.1 = k
  ·rw [if_pos e,if_pos (h1.symm.trans e)]; exact ⟨h1,ry⟩
  ·rw [if_neg e,if_neg (fun z=>e (h1.trans z))]; exact ⟨h1,h2⟩
theorem KV.put {kvs:List (κ × V)} {vs:List (κ × Value)} (r:KV kvs vs) (k:κ) {y:V} {u:Value} (ry:RelV y u):KV (putK kvs k y) (stored vs k u):=by
 unfold putK stored
 rw [r.any k]
 by_cases e:(vs.any fun kv=>decide (kv.1 = k)) = true
 ·rw [if_pos e,if_pos e]; exact r.repl k ry
 ·rw [if_neg e,if_neg e]; exact Paired.snoc r ⟨rfl,ry⟩
theorem KV.length {kvs:List (κ × V)} {vs:List (κ × Value)} (r:KV kvs vs):kvs.length = vs.length:=Paired.length r
end
theorem kV_is {P:Program} {w:World} {k:Key} {u:Value} (r:RelV (kV k) u):(mixKind P w).is k u = true:=by
 cases k with
 | inl i=>obtain ⟨t,e⟩:=(show ∃ t,u = Value.int i t from r); subst e; exact mixKind_int P w i t
 | inr x=>obtain ⟨t,e⟩:=(show ∃ t,u = Value.str x t from r); subst e; exact mixKind_str P w x t
section
variable {P:Program} {w:World} {H:Hp} {h:Heap} {a:Addr}
theorem rd_of {u:HO} (ok:HOk P w H h) (e:Rd H a u):ObjOk P w H h a u:=e.ok ok
theorem dk_rd {kvs:List (Key × V)} (ok:HOk P w H h) (e:Rd H a (.dK kvs)):kvs.length ≤ sizeLine∧(a == sysModules) = false∧∃ vs,KV kvs vs∧h.DictOf (mixKind P w) a vs :=
 show ObjOk P w H h a (.dK kvs) from rd_of ok e
theorem dk_of {kvs:List (Key × V)} (ok:HOk P w H h) (e:H a = some (.dK kvs)):kvs.length ≤ sizeLine∧(a == sysModules) = false∧∃ vs,KV kvs vs∧h.DictOf (mixKind P w) a vs:=dk_rd ok (.inl e)
end
def DGet (H:Hp) (a:Addr) (y:V) (r:Option V):Prop :=
 (∃ kvs k,Rd H a (.dK kvs)∧y = kV k∧r = valV kvs k)∨False
def DPut (H:Hp) (a:Addr) (y v:V) (H':Hp):Prop :=
 (∃ kvs k,H a = some (.dK kvs)∧y = kV k∧kvs.length < sizeLine∧H' = upd H a (.dK (putK kvs k v)))∨False
theorem DGet.k {H:Hp} {a:Addr} {kvs:List (Key × V)} {k:Key} (e:H a = some (.dK kvs)):DGet H a (kV k) (valV kvs k):=.inl ⟨kvs,k,.inl e,rfl,rfl⟩
theorem DPut.k {H:Hp} {a:Addr} {kvs:List (Key × V)} {k:Key} {v:V} (e:H a = some (.dK kvs)) (hl:kvs.length < sizeLine):DPut H a (kV k) v (upd H a (.dK (putK kvs k v))):=.inl ⟨kvs,k,e,rfl,hl,rfl⟩
section
variable {X:Cx} {pins:List (Addr × Obj)} {σ:St} {H:Hp} {s:Shared} {a:Addr} {y v:V} {u r:Value} {o:Option V} {A:Around} {E:Value→Shared→Prop}
theorem Inv.big (I:Inv X pins σ H s):sysModules < s.heap.objs.size:=by
 have h:mainGlobals < s.heap.objs.size:=(I.mod.glob.keeps I.bk).lt
 exact Nat.lt_trans (by decide) h
theorem d_getItem {Q:Value→Shared→Prop} (hu:A.units + 1 < cLine) (I:Inv X pins σ H s) (g:DGet H a y (some v)) (ry:RelV y u) (h:∀ w' s',Inv X pins σ H s'→RelV v w'→Q w' s') :
  wpAny (model X.prog X.w) A (getItem (.ref a) u) Q E s:=by
 rcases g with ⟨kvs,k,e,ey,l⟩ | hF
 ·subst ey
  obtain ⟨z,hd,vs,rel,dd⟩:=dk_rd I.hok e
  obtain ⟨w',hw,rw'⟩:=RelO.some_of (v:=v) (o:=valueAt vs k) (by rw [l]; exact rel.val k)
  exact wpAny_getItem_of (kV_is ry) dd.mapOf hw (h w' _ (I.tok _) rw')
 ·exact hF.elim
theorem d_in {Q:Value→Shared→Prop} (hu:A.units + 1 < cLine) (I:Inv X pins σ H s) (g:DGet H a y o) (ry:RelV y u) (h:∀ s',Inv X pins σ H s'→Q (.bool o.isSome) s') :
  wpAny (model X.prog X.w) A (compareOp .In u (.ref a)) Q E s:=by
 rcases g with ⟨kvs,k,e,ey,l⟩ | hF
 ·subst ey
  obtain ⟨z,hd,vs,rel,dd⟩:=dk_rd I.hok e
  refine wpAny_in_of (kV_is ry) hd dd.mapOf ?_
  rw [← (rel.val k).isSome_eq,← l]
  exact h _ (I.tok _)
 ·exact hF.elim
theorem d_notIn {Q:Value→Shared→Prop} (hu:A.units + 1 < cLine) (I:Inv X pins σ H s) (g:DGet H a y o) (ry:RelV y u) (h:∀ s',Inv X pins σ H s'→Q (.bool (!o.isSome)) s') :
  wpAny (model X.prog X.w) A (compareOp .NotIn u (.ref a)) Q E s:=by
 rcases g with ⟨kvs,k,e,ey,l⟩ | hF
 ·subst ey
  obtain ⟨z,hd,vs,rel,dd⟩:=dk_rd I.hok e
  refine wpAny_notIn_of (kV_is ry) hd dd.mapOf ?_
  rw [← (rel.val k).isSome_eq,← l]
  exact h _ (I.tok _)
 ·exact hF.elim
theorem d_write {h':Heap} {t':Nat} {ob:HO} (I:Inv X pins σ H s) (mu:Mut (H a)) (hs:Heap.SameBut a s.heap h') (he:∃ q,h'.get? a = some q) (new:ObjOk X.prog X.w (upd H a ob) h' a ob) :
  Inv X pins σ (upd H a ob) { s with heap:=h',toks:=t' } :=
 I.write (x:=a) (e:=a) mu (.inl rfl) (fun b q hb z=>(hs.2 b hb).trans z) he new
theorem dk_new {P:Program} {w:World} {H':Hp} {h':Heap} {kvs:List (Key × V)} {vs:List (Key × Value)} (z:kvs.length ≤ sizeLine) (hd:(a == sysModules) = false) (rel:KV kvs vs) (dd:h'.DictOf (mixKind P w) a vs) :
  ObjOk P w H' h' a (.dK kvs):=⟨z,hd,vs,rel,dd⟩
theorem d_setItem {H':Hp} {Q:Unit→Shared→Prop} (hu:A.units + 1 < cLine) (I:Inv X pins σ H s) (g:DPut H a y v H') (ry:RelV y u) (rv:RelV v r) (h:∀ s',Inv X pins σ H' s'→Q () s') :
  wpAny (model X.prog X.w) A (setItem (.ref a) u r) Q E s:=by
 rcases g with ⟨kvs,k,e,ey,l,eH⟩ | hF
 ·subst ey eH
  obtain ⟨z,hd,vs,rel,dd⟩:=dk_of I.hok e
  have hz:vs.length ≤ sizeLine:=by rw [← rel.length]; exact z
  have hl:(putK kvs k v).length ≤ sizeLine:=by have:=length_putK kvs k v; omega
  refine wpAny_setItem_pairs (hsz:=hz) (kV_is ry) dd fun h' dd' hs=>h _ ?_
  have he:∃ q,h'.get? a = some q:=let ⟨q,_,_,hq,_⟩:=dd'; ⟨q,hq⟩
  exact d_write I (by rw [e]; exact True.intro) hs he (dk_new hl hd (rel.put k rv) dd')
 ·exact hF.elim
end
section
variable {X:Cx} {pins:List (Addr × Obj)} {σ:St} {H:Hp} {s:Shared} {a:Addr} {kvs:List (Key × V)} {k:Key} {u:Value} {A:Around} {E:Value→Shared→Prop}
end
def NoSl (i:Expr):Prop:=∀ ov iv,subscripted i false ov iv = operate [ov,iv] (getItem ov iv)
theorem subD_of {prog:Program} {w:World} {A:Around} {E:Value→Shared→Prop} {s:Shared} {env:Env} {value slice:Expr} {pos:Pos} {T id:String} {Q:Value→Shared→Prop}
  (hl:typeLookup (.type T) "__getitem__" = pure (some (.builtin id))) (hs:NoSl slice)
  (h:wpAny (model prog w) A (eval value env) (fun o s₁=>wpAny (model prog w) A (eval slice env) (fun i s₂=>s₂.TypeIs o T∧wpAny (model prog w) A (getItem o i) Q E s₂) E s₁) E s) :
  wpAny (model prog w) A (eval (.Subscript value slice pos) env) Q E s:=by
 refine Subscript_ (wpAny_mono h (fun o s₁ h₁=>wpAny_mono h₁ (fun i s₂ h₂=>?_) fun _ _ x=>x) fun _ _ x=>x)
 obtain ⟨hT,h₂⟩:=h₂
 unfold subscriptTail
 refine wpAny_bind ?_
 rw [getitemInPython_of_ne hT.not_modules]
 refine wpAny_bind (wpAny_specialOf hT hl ?_)
 have fin:wpAny (model prog w) A (subscripted slice false o i) (fun r s₃=>wpAny (model prog w) A (letTemporaryGo value o r >>= fun _=>pure r) Q E s₃) E s₂:=by
  rw [hs o i]
  exact wpAny_operating (wpAny_mono h₂ (fun r s₃ h₃=>wpAny_bind (wpAny_letTemporaryGo (wpAny_pure h₃))) fun _ _ x=>x)
 first
  | exact wpAny_pure (wpAny_bind fin)
  | exact wpAny_bind (wpAny_pure (wpAny_bind fin))
  | exact wpAny_bind fin
theorem dict_typeIs {X:Cx} {pins:List (Addr × Obj)} {σ:St} {H:Hp} {s:Shared} {a:Addr} {y:V} {o:Option V} (I:Inv X pins σ H s) (g:DGet H a y o):s.TypeIs (.ref a) "dict" := by
 rcases g with ⟨kvs,k,e,_,_⟩ | hF
 ·obtain ⟨_,_,vs,_,dd⟩:=dk_rd I.hok e
  exact dd.typeIs
 ·exact hF.elim
def tDGet (td ty:TE):TE:=fun σ H Q=>td σ H fun x H1=>ty σ H1 fun y H2=>∃ a v,x = .ref a∧DGet H2 a y (some v)∧Q v H2
def tDIn (ty td:TE):TE:=fun σ H Q=>ty σ H fun y H1=>td σ H1 fun x H2=>∃ a o,x = .ref a∧DGet H2 a y o∧Q (.bl o.isSome) H2
def tDNotIn (ty td:TE):TE:=fun σ H Q=>ty σ H fun y H1=>td σ H1 fun x H2=>∃ a o,x = .ref a∧DGet H2 a y o∧Q (.bl (!o.isSome)) H2
def sDPut (td ty tv:TE):TS:=fun D σ H=>tv σ H fun v H1=>td σ H1 fun x H2=>ty σ H2 fun y H3=>∃ a H4,x = .ref a∧DPut H3 a y v H4∧D.nx σ H4
section
variable {X:Cx} {o i e value:Expr} {pos pos' tpos:Pos} {td ty tv:TE}
theorem pe_dget (hu:X.A.units + 1 < cLine) (ho:PE X o td) (hi:PE X i ty) (hs:NoSl i):PE X (.Subscript o i pos) (tDGet td ty):=by
 intro pins s σ H Q I h
 refine subD_of PySem.F.slot_dict_getitem.lookup hs (thn (ho pins s σ H _ I h) fun u s1 ⟨x,H1,I1,rx,q1⟩=>thn (hi pins s1 σ H1 _ I1 q1) fun iv s2 ⟨y,H2,I2,ry,a,v,ex,g,q2⟩=>?_)
 subst ex
 obtain rfl:u = Value.ref a:=rx
 exact ⟨dict_typeIs I2 g,d_getItem hu I2 g ry fun w' s3 I3 rw'=>⟨v,H2,I3,rw',q2⟩⟩
theorem pc_din (hu:X.A.units + 1 < cLine) (hi:PE X i ty) (ho:PE X o td):PC X .In i o (tDIn ty td):=by
 intro pins s σ H Q I h
 refine thn (hi pins s σ H _ I h) fun iv s1 ⟨y,H1,I1,ry,q1⟩=>thn (ho pins s1 σ H1 _ I1 q1) fun u s2 ⟨x,H2,I2,rx,a,ov,ex,g,q2⟩=>?_
 subst ex
 obtain rfl:u = Value.ref a:=rx
 exact d_in hu I2 g ry fun s3 I3=>⟨.bl ov.isSome,H2,I3,rfl,q2⟩
theorem pc_dnotin (hu:X.A.units + 1 < cLine) (hi:PE X i ty) (ho:PE X o td):PC X .NotIn i o (tDNotIn ty td):=by
 intro pins s σ H Q I h
 refine thn (hi pins s σ H _ I h) fun iv s1 ⟨y,H1,I1,ry,q1⟩=>thn (ho pins s1 σ H1 _ I1 q1) fun u s2 ⟨x,H2,I2,rx,a,ov,ex,g,q2⟩=>?_
 subst ex
 obtain rfl:u = Value.ref a:=rx
 exact d_notIn hu I2 g ry fun s3 I3=>⟨.bl (!ov.isSome),H2,I3,rfl,q2⟩
theorem ps_dput (hu:X.A.units + 1 < cLine) (ho:PE X o td) (hi:PE X i ty) (hv:PE X value tv) (hs:swapsWith value (some (.Subscript o i pos')) pos.line X.env = pure false) :
  PS X (.Assign [.Subscript o i pos'] value pos) (sDPut td ty tv):=by
 intro pins s σ H D I h
 refine wpAny_Assign_Subscript (thn (hv pins s σ H _ I h) fun r s1 ⟨v,H1,I1,rv,q1⟩=>thn (ho pins s1 σ H1 _ I1 q1) fun u s2 ⟨x,H2,I2,rx,q2⟩=>thn (hi pins s2 σ H2 _ I2 q2) fun iv s3 ⟨y,H3,I3,ry,a,H4,ex,g,q3⟩=>?_) hs
 subst ex
 obtain rfl:u = Value.ref a:=rx
 exact d_setItem hu I3 g ry rv fun s4 I4=>⟨σ,H4,I4,q3⟩
end
theorem dk_empty {P:Program} {w:World} {H:Hp} (h:Heap) (hb:sysModules < h.objs.size):ObjOk P w H (h.push { cls:=.type "dict",data:=.dict #[] }) h.objs.size (.dK []) :=
 ⟨Nat.zero_le _,beq_eq_false_iff_ne.mpr (Ne.symm (Nat.ne_of_lt hb)),[],.nil,Heap.DictOf.new h⟩
def tDNewK:TE:=fun _ H Q=>∀ p,H p = none→Q (.ref p) (upd H p (.dK []))
section
variable {X:Cx} {pos:Pos}
theorem pe_dnewK:PE X (.Dict [] [] pos) tDNewK:=fun pins s σ H Q I h =>
 wpAny_Dict_empty ⟨.ref s.heap.objs.size,_,I.laid (a:=s.heap.objs.size) (o:=.dK []) (t':=s.toks) (fun _ _ q=>Heap.get?_push_of_some _ q) (Nat.le_refl _) (dk_empty s.heap I.big),rfl,h _ (I.hok.fresh (Nat.le_refl _))⟩
end
structure M2 (X:Cx) (o:Expr) (m:Str) (apos:Pos) (e f:Expr) (cpos:Pos):Prop where
 base:attributeBase o m X.env (eval o X.env) = eval o X.env
 few:((backTo cpos (starEach [e,f] X.env)).all (fun x=>!x.1) && (backToKw cpos (keywordEach [] X.env)).all (fun x=>x.1.isSome)
  && decide (([e,f] : List Expr).length + ([] : List Keyword).length + (if ([] : List Keyword).isEmpty then 0 else 1) < 30)) = true
 line:(apos.endLine == cpos.line) = true
 trees:backTo cpos (starEach [e,f] X.env) = [(false,eval e X.env),(false,eval f X.env)]
def IsD (H:Hp) (a:Addr):Prop:=(∃ kvs,Rd H a (.dK kvs))∨False
theorem isD_at {X:Cx} {pins:List (Addr × Obj)} {σ:St} {H:Hp} {s:Shared} {a:Addr} (I:Inv X pins σ H s) (d:IsD H a) :
  s.TypeIs (.ref a) "dict" ∧ (∀ b,Value.ref a = .ref b→∃ ob,s.heap.get? b = some ob∧ob.dict = none)∧(a == sysModules) = false:=by
 rcases d with ⟨kvs,e⟩ | hF
 ·obtain ⟨_,hd,vs,_,dd⟩:=dk_rd I.hok e
  refine ⟨dd.typeIs,fun b q=>?_,hd⟩
  cases q
  obtain ⟨ob,_,_,h1,h2,_⟩:=dd
  exact ⟨ob,h1,h2.2.1⟩
 ·exact hF.elim
section
variable {X:Cx} {pins:List (Addr × Obj)} {σ:St} {H:Hp} {s:Shared} {a:Addr} {y d:V} {u r:Value} {o:Option V} {A:Around} {E:Value→Shared→Prop}
theorem d_get2 {Q:Value→Shared→Prop} (hu:A.units + 1 < cLine) (I:Inv X pins σ H s) (g:DGet H a y o) (ry:RelV y u) (rd:RelV d r) (h:∀ w' s',Inv X pins σ H s'→RelV (o.getD d) w'→Q w' s') :
  wpAny (model X.prog X.w) A (call (.builtin "dict.get") [.ref a,u,r]) Q E s:=by
 rcases g with ⟨kvs,k,e,ey,l⟩ | hF
 ·subst ey
  obtain ⟨z,hd,vs,rel,dd⟩:=dk_rd I.hok e
  refine call_meetsIn PySem.F.slot_dict_get dd.typeIs PySem.F.entry_dict_get (PySem.F.args_dict_get_3 _ _ _) (meets_dict_get_default (mixKind X.prog X.w) a (kV_is ry) hd r) ⟨_,dd.mapOf,h _ _ (I.tok _) ?_⟩
  rw [l]
  exact (rel.val k).getD rd
 ·exact hF.elim
end
def tDGet2 (td ty tx:TE):TE:=fun σ H Q=>td σ H fun x H1=>∃ a,x = .ref a∧IsD H1 a∧ty σ H1 fun y H2=>tx σ H2 fun z H3=>∃ o,DGet H3 a y o∧Q (o.getD z) H3
section
variable {X:Cx} {o e f:Expr} {apos cpos:Pos} {td ty tx:TE}
theorem pe_dget2 (hu:X.A.units + 1 < cLine) (ho:PE X o td) (he:PE X e ty) (hf:PE X f tx) (m:M2 X o "get" apos e f cpos):PE X (.Call (.Attribute o "get" apos) [e,f] [] cpos) (tDGet2 td ty tx):=by
 intro pins s σ H Q I h
 refine wpAny_Call_method m.base m.few m.line PySem.F.plainAttrs_dict PySem.F.slot_dict_get PySem.F.type_dict_get (thn (ho pins s σ H _ I h) fun u s1 ⟨x,H1,I1,rx,a,ex,d,q1⟩=>?_)
 subst ex
 obtain rfl:u = Value.ref a:=rx
 obtain ⟨t1,t2,_⟩:=isD_at I1 d
 refine ⟨t1,t2,?_⟩
 rw [m.trees]
 refine Calls.callWith_builtin rfl (Calls.evalArgs_plain (Calls.spliced_cons (thn (he pins s1 σ H1 _ I1 q1) fun iv s2 ⟨y,H2,I2,ry,q2⟩ =>
  Calls.spliced_cons (thn (hf pins s2 σ H2 _ I2 q2) fun fv s3 ⟨z,H3,I3,rz,ov,g,q3⟩=>Calls.spliced_nil ?_))))
 exact d_get2 hu I3 g ry rz fun w' s4 I4 rw'=>⟨_,H3,I4,rw',q3⟩
end
section
variable {X:Cx} {pins:List (Addr × Obj)} {σ:St} {H:Hp} {s:Shared} {a:Addr} {kvs:List (Key × V)} {A:Around} {E:Value→Shared→Prop}
end
section
variable {X:Cx} {pins:List (Addr × Obj)} {σ:St} {H:Hp} {s:Shared} {a:Addr} {y:V} {u:Value} {A:Around} {E:Value→Shared→Prop}
end
section
variable {κ:Type} [DecidableEq κ]
end
end L2
set_option Elab.async false
set_option linter.all false
set_option maxRecDepth 100000
set_option maxHeartbeats 4000000
namespace L2
open PySem PySem.Spec PyProof.Rows
def Itk (a:Addr) (o:Obj) (kvs:List (Key × V)):It:=⟨fun i H=>H a = some (.frz o (.dK kvs))∧i < kvs.length,fun i H v H'=>H' = H∧∃ k y,kvs[i]? = some (k,y)∧v = kV k,fun i H=>H a = some (.frz o (.dK kvs))∧i = kvs.length⟩
theorem kV_of {P:Program} {w:World} {k:Key} {u:Value} (h:(mixKind P w).is k u = true):RelV (kV k) u:=by
 have h:keyIs k u = true:=h
 cases k with
 | inl i =>
  cases u <;> simp [keyIs,Value.isInt] at h
  ·subst h; exact ⟨_,rfl⟩
 | inr x =>
  cases u <;> simp [keyIs,Value.isStrOf] at h
  ·subst h; exact ⟨_,rfl⟩
theorem KV.at {κ:Type} {kvs:List (κ × V)} {vs:List (κ × Value)} (r:KV kvs vs):∀ {i:Nat} {k:κ} {y:V},kvs[i]? = some (k,y)→∃ u,vs[i]? = some (k,u)∧RelV y u:=by
 unfold KV at r
 induction r with
 | nil=>intro i k y h; cases h
 | @cons p q ps qs h t ih =>
  intro i k y e
  cases i with
  | zero =>
   rw [List.getElem?_cons_zero] at e
   cases e
   obtain ⟨q1,q2⟩:=q
   obtain ⟨h1,h2⟩:=h
   cases h1
   exact ⟨q2,rfl,h2⟩
  | succ i =>
   rw [List.getElem?_cons_succ] at e ⊢
   exact ih e
theorem turn_dict {P:Program} {w:World} {K:PySem.W.Frag} {tg:Expr} (it a:Addr) (o:Obj) (kvs:List (Key × V)) (vs:List (Key × Value)) (ep:Nat) (rel:KV kvs vs) (hD:∀ h:Heap,h.get? a = some o→h.DictAt (mixKind P w) a vs ep) :
  Turn P w K tg (Itk a o kvs) [it] it (fun i h=>h.IsKeyIter it a i vs.length ep) where
 mem:=by simp
 obj:=fun i h st b hb=>by
  have e:b = it:=by simpa using hb
  subst e
  obtain ⟨o,ho,_,hd⟩:=st
  exact ⟨o,ho,fun v z=>by rw [hd] at z; cases z⟩
 keep:=fun i h h' st k=>let ⟨o,ho,r⟩:=st; ⟨o,k it (by simp) o ho,r⟩
 item:=by
  intro X hP hw hK hc i pins s σ H E I hf st hg
  subst hP hw hK
  obtain ⟨hg,hlt⟩:=hg
  obtain ⟨ho,_⟩:=(show ObjOk X.prog X.w H s.heap a (.frz o (.dK kvs)) from I.hok a _ hg)
  obtain ⟨f0,f1,f2,f3,f4,f5⟩:=hf it (by simp)
  obtain ⟨⟨k,y⟩,hx⟩ : ∃ p,kvs[i]? = some p:=⟨kvs[i],by simp [hlt]⟩
  obtain ⟨u,hu,ru⟩:=rel.at hx
  refine wpAny_pyNext_dict_item st (hD _ ho) hu fun key h' hkey st' sb=>?_
  have I1:Inv X pins σ H { s with heap:=h' }:=I.turned (t':=s.toks) (fun b ob hb e=>(sb.2 b hb).trans e) f0 f1 f3 f4 f5
  obtain ⟨oi,e,c,d⟩:=id st'
  exact ⟨key,rfl,go_of (s:={ s with heap:=h' }) e c d (by decide) ⟨kV k,H,I1,kV_of hkey,⟨rfl,k,y,hx,rfl⟩,st',fun b hb=>(hf b hb).1⟩⟩
 done:=by
  intro X hP hw hK hc i pins s σ H E I hf st hg
  subst hP hw hK
  obtain ⟨hg,rfl⟩:=hg
  obtain ⟨ho,_⟩:=(show ObjOk X.prog X.w H s.heap a (.frz o (.dK kvs)) from I.hok a _ hg)
  obtain ⟨f0,f1,f2,f3,f4,f5⟩:=hf it (by simp)
  have hl:=rel.length
  exact wpAny_pyNext_dict_end (I.ok.hd hc) st (hD _ ho) (by simp; omega) fun h' eb=>⟨rfl,I.turned (t':=s.toks) (fun b ob hb e=>eb b ob hb e) f0 f1 f3 f4 f5⟩
 self:=fun _ _ _ _ _ st h=>wpAny_pyIter_keyiter st h
section
variable {X:Cx} {tg:Expr}
def iDict (te:TE):TI:=fun σ H R=>te σ H fun x H1=>∃ a kvs,x = .ref a∧H1 a = some (.dK kvs)∧∀ o,R (Itk a o kvs) (upd H1 a (.frz o (.dK kvs)))
theorem pi_dict {l:Expr} {tl:TE} (hl:PE X l tl):PI X tg l (iDict tl):=by
 intro pins s σ H R I h
 refine thn (hl pins s σ H _ I h) fun v s1 ⟨x,H1,I1,r1,a,kvs,ex,ha,q⟩=>?_
 subst ex
 cases r1
 have ok:=(show ObjOk X.prog X.w H1 s1.heap a (.dK kvs) from I1.hok a _ ha)
 obtain ⟨z,hd,vs,rel,o,es,ep,e,ex,ed,ek,epr,en⟩:=ok
 have hD:∀ h:Heap,h.get? a = some o→h.DictAt (mixKind X.prog X.w) a vs ep:=fun h e=>⟨o,es,e,ex,ed,ek,epr,en⟩
 have I2:Inv X pins σ (upd H1 a (.frz o (.dK kvs))) s1:=by
  have:=I1.write (x:=a) (e:=a) (o:=.frz o (.dK kvs)) (h':=s1.heap) (t':=s1.toks) (by rw [ha]; exact True.intro) (.inl rfl) (fun b u hb z=>z) ⟨o,e⟩ ⟨e,z,hd,vs,rel,o,es,ep,e,ex,ed,ek,epr,en⟩
  exact this
 refine wpAny_pyIter_dict hd (hD _ e) ?_
 refine ⟨s1.heap.objs.size,[s1.heap.objs.size],_,Itk a o kvs,_,rfl,I2.kept (t':=s1.toks) fun b ob z=>Heap.get?_push_of_some _ z,turn_dict _ a o kvs vs ep rel hD,⟨_,Heap.get?_push_size _ rfl,rfl,rfl⟩,fun b hb=>?_,q o⟩
 have e:b = s1.heap.objs.size:=by simpa using hb
 subst e
 exact I2.fpOk (Nat.le_refl _) (I2.hok.fresh (Nat.le_refl _))
def tMG (g:TG):TG:=fun v σ H Q=>∃ R:L2.St→Hp→Prop,g v σ H R∧∀ σ' H',R σ' H'→Q σ' H'
def tMT (t:TT):TT:=fun σ H Q=>∃ R:Bool→Hp→Prop,t σ H R∧∀ b H',R b H'→Q b H'
theorem PG.mono {e:Expr} {g:TG} (h:PG X e g):PG X e (tMG g):=fun pins s σ H v u Q I r ⟨R,h1,h2⟩=>thn (h pins s σ H v u R I r h1) fun _ s' ⟨σ',H',I',q⟩=>⟨σ',H',I',h2 σ' H' q⟩
theorem PTs.mono {ifs:List Expr} {t:TT} (h:PTs X ifs t):PTs X ifs (tMT t):=fun pins s σ H Q I ⟨R,h1,h2⟩=>thn (h pins s σ H R I h1) fun b s' ⟨H',I',q⟩=>⟨H',I',h2 b H' q⟩
theorem pe_compGF {elt iter tg:Expr} {pos:Pos} {scope:Scope} {wi:TI} {te:TE} {ifs:List Expr} {gt:TG} {tc:TT} (sc:Scope) (N N' xs:List Str) (hsc:X.env.scope = sc) (hNN:X.N = N) (hc:X.calm = true) (hsh:shadG xs N = N') (hN:(xs ++ N').Nodup) (hkind:scope.kind = .function) (hcell:∀ y ∈ scope.names,y.2 ≠ .cell)
  (hnames:∀ y ∈ scope.names,y.2 = .local→scope.names.lookup y.1 = some .local) (hfree:∀ y ∈ scope.names,y.2 = .free→sc.names.lookup y.1 = some .cell∨sc.names.lookup y.1 = some .free)
  (hloc:∀ y ∈ N,y ∉ xs→(scope.names.map fun (n,k)=>if (k == NameKind.free && sc.kind == .function && sc.names.lookup n == some .cell) then (n,NameKind.cell) else (n,k)).lookup y ≠ some .local)
  (hq:∀ y ∈ N,y ∈ xs→(scope.names.map fun (n,k)=>if (k == NameKind.free && sc.kind == .function && sc.names.lookup n == some .cell) then (n,NameKind.cell) else (n,k)).lookup (hid y) = none) (hi:PI X tg iter wi)
  (hg:∀ C s₀ H₀ ex pn,PG (X.compG N' scope xs C s₀ H₀ ex pn) tg gt) (ht:∀ C s₀ H₀ ex pn,PTs (X.compG N' scope xs C s₀ H₀ ex pn) ifs tc) (he:∀ C s₀ H₀ ex pn,PE (X.compG N' scope xs C s₀ H₀ ex pn) elt te) (hs:∀ z,foldedSetIterable iter X.env z = pure z:=by intro _; rfl) :
  PE X (.ListComp elt [⟨tg,iter,ifs,0⟩] scope pos) (tCompG wi xs.length (tMG gt) (tMT tc) (tM te)):=by
 subst hsc hNN
 exact pe_compG hc hsh hN hkind hcell hnames hfree hloc hq hi (fun C s₀ H₀ ex pn=>(hg C s₀ H₀ ex pn).mono) (fun C s₀ H₀ ex pn=>(ht C s₀ H₀ ex pn).mono) (fun C s₀ H₀ ex pn=>(he C s₀ H₀ ex pn).mono) hs
def tTurn (n:Nat) (gt:TG) (tc:TT) (te:TE) (x:V) (σ:L2.St) (H:Hp) (Y:VK) (No:Hp→Prop):Prop:=∀ pre:L2.St,pre.length = n→gt x (pre ++ σ) H fun σ2 H2=>∃ pre':L2.St,pre'.length = n∧σ2 = pre' ++ σ∧tc σ2 H2 fun b H3 =>
 match b with
 | true=>te σ2 H3 Y
 | false=>No H3
theorem tTurn.weak {n:Nat} {gt:TG} {tc:TT} {te:TE} {x:V} {σ:L2.St} {H:Hp} {Y Y':VK} {No No':Hp→Prop} (h:tTurn n gt tc te x σ H Y No) (h1:∀ y H',Y y H'→Y' y H') (h2:∀ H',No H'→No' H'):tTurn n (tMG gt) (tMT tc) (tM te) x σ H Y' No':=fun pre hp =>
 ⟨_,h pre hp,fun σ2 H2 ⟨pre',e1,e2,q⟩=>⟨pre',e1,e2,_,q,fun b H3 z=>match b,z with
  | true,z=>⟨_,z,h1⟩
  | false,z=>h2 H3 z⟩⟩
theorem tCompG_list {K:PySem.W.Frag} {tl te:TE} {gt:TG} {tc:TT} {n:Nat} {σ:L2.St} {H:Hp} {Q:VK} (h:tl σ H fun x H1=>∃ a xs,x = .ref a∧H1 a = some (.lst xs)∧xs.length ≤ sizeLine∧∀ D,H1 D = none→∃ J:Nat→List V→Hp→Prop,J 0 [] (upd H1 D (.lst [])) ∧
   (∀ k x ys Hc,xs[k]? = some x→J k ys Hc→ys.length ≤ k→Hc a = some (.lst xs)→tTurn n gt tc te x σ Hc (fun y H2=>H2 D = some (.lst ys)∧H2 a = some (.lst xs)∧J (k + 1) (ys ++ [y]) (upd H2 D (.lst (ys ++ [y])))) fun H2=>H2 a = some (.lst xs)∧J (k + 1) ys H2) ∧
   ∀ ys Hc,J xs.length ys Hc→ys.length ≤ xs.length→Q (.ref D) Hc):tCompG (iList K (tM tl)) n (tMG gt) (tMT tc) (tM te) σ H Q:=by
 refine ⟨_,h,?_⟩
 rintro x H1 ⟨a,xs,rfl,hx,hz,rest⟩
 refine ⟨a,rfl,⟨xs,.of hx⟩,fun D hD=>?_⟩
 obtain ⟨J,j0,step,fin⟩:=rest D hD
 have ne:a ≠ D:=ne_of_none hx hD
 refine ⟨fun k m ys Hc=>k ≤ xs.length∧m = xs.length - k∧ys.length ≤ k∧Hc a = some (.lst xs)∧J k ys Hc,⟨_,Nat.zero_le _,rfl,Nat.zero_le _,(upd_ne ne).trans hx,j0⟩,?_⟩
 rintro k m ys Hc ⟨hk,rfl,hy,hx',j⟩
 by_cases e:k = xs.length
 ·subst e
  exact .inl ⟨⟨xs,.of hx',Nat.le_refl _⟩,fin ys Hc j hy⟩
 ·have hlt:k < xs.length:=by omega
  refine .inr ⟨⟨xs,_,.of hx',List.getElem?_eq_getElem hlt⟩,?_⟩
  rintro x H'' ⟨rfl,y⟩
  refine (step k x ys H'' (y xs (.of hx')) j hy hx').weak ?_ ?_
  ·rintro yv H2 ⟨z1,z2,z3⟩
   refine ⟨by omega,z1,xs.length - (k + 1),by omega,by omega,rfl,?_,?_,z3⟩
   ·rw [List.length_append]; simp; omega
   ·rw [upd_ne ne]; exact z2
  ·rintro H2 ⟨z2,z3⟩
   exact ⟨xs.length - (k + 1),by omega,by omega,rfl,by omega,z2,z3⟩
theorem tCompG_dict {tl te:TE} {gt:TG} {tc:TT} {n:Nat} {σ:L2.St} {H:Hp} {Q:VK} (h:tl σ H fun x H1=>∃ a kvs,x = .ref a∧H1 a = some (.dK kvs)∧kvs.length ≤ sizeLine∧∀ o D,upd H1 a (.frz o (.dK kvs)) D = none→∃ J:Nat→List V→Hp→Prop,J 0 [] (upd (upd H1 a (.frz o (.dK kvs))) D (.lst [])) ∧
   (∀ i k y ys Hc,kvs[i]? = some (k,y)→J i ys Hc→ys.length ≤ i→Hc a = some (.frz o (.dK kvs))→tTurn n gt tc te (kV k) σ Hc (fun y H2=>H2 D = some (.lst ys)∧H2 a = some (.frz o (.dK kvs))∧J (i + 1) (ys ++ [y]) (upd H2 D (.lst (ys ++ [y])))) fun H2=>H2 a = some (.frz o (.dK kvs))∧J (i + 1) ys H2) ∧
   ∀ ys Hc,J kvs.length ys Hc→ys.length ≤ kvs.length→Q (.ref D) Hc):tCompG (iDict (tM tl)) n (tMG gt) (tMT tc) (tM te) σ H Q:=by
 refine ⟨_,h,?_⟩
 rintro x H1 ⟨a,kvs,rfl,hx,hz,rest⟩
 refine ⟨a,kvs,rfl,hx,fun o D hD=>?_⟩
 obtain ⟨J,j0,step,fin⟩:=rest o D hD
 have ne:a ≠ D:=ne_of_none upd_same hD
 refine ⟨fun k m ys Hc=>k ≤ kvs.length∧m = kvs.length - k∧ys.length ≤ k∧Hc a = some (.frz o (.dK kvs))∧J k ys Hc,⟨_,Nat.zero_le _,rfl,Nat.zero_le _,(upd_ne ne).trans upd_same,j0⟩,?_⟩
 rintro k m ys Hc ⟨hk,rfl,hy,hx',j⟩
 by_cases e:k = kvs.length
 ·subst e
  exact .inl ⟨⟨hx',rfl⟩,fin ys Hc j hy⟩
 ·have hlt:k < kvs.length:=by omega
  refine .inr ⟨⟨hx',hlt⟩,?_⟩
  rintro x H'' ⟨rfl,kk,yy,hkk,rfl⟩
  refine (step k kk yy ys H'' hkk j hy hx').weak ?_ ?_
  ·rintro yv H2 ⟨z1,z2,z3⟩
   refine ⟨by omega,z1,kvs.length - (k + 1),by omega,by omega,rfl,?_,?_,z3⟩
   ·rw [List.length_append]; simp; omega
   ·rw [upd_ne ne]; exact z2
  ·rintro H2 ⟨z2,z3⟩
   exact ⟨kvs.length - (k + 1),by omega,by omega,rfl,by omega,z2,z3⟩
end
end L2
set_option Elab.async false
set_option linter.all false
set_option maxRecDepth 100000
set_option maxHeartbeats 4000000
namespace L2
open PySem PySem.Spec PyProof.Rows
theorem Same.tup {K:PySem.W.Frag} {H H':Hp} {a:Addr} {xs:List V} (e:Same H H') (h:SqT K H a xs):SqT K H' a xs:=by
 rcases h with (h | ⟨o,h⟩) | h
 ·exact .inl (.inl (e _ _ h))
 ·exact .inl (.inr ⟨o,e _ _ h⟩)
 ·exact .inr h
theorem SqT.updO {K:PySem.W.Frag} {H:Hp} {a l:Addr} {xs:List V} {o u:HO} (h:SqT K H a xs) (hl:H l = some o) (h1:∀ ys,o ≠ .tup ys) (h2:∀ ob ys,o ≠ .frz ob (.tup ys)):SqT K (upd H l u) a xs:=by
 rcases h with (h | ⟨ob,h⟩) | h
 ·exact .inl (.inl ((upd_ne (ne_of h hl (fun z=>h1 xs z.symm))).trans h))
 ·exact .inl (.inr ⟨ob,(upd_ne (ne_of h hl (fun z=>h2 ob xs z.symm))).trans h⟩)
 ·exact .inr h
mutual
inductive ShowsK (K:PySem.W.Frag) (H:Hp):V→PyData→Prop
 | non:ShowsK K H .non .none
 | bl (b:Bool):ShowsK K H (.bl b) (.bool b)
 | int (i:Int):ShowsK K H (.int i) (.int i)
 | str (x:Str):ShowsK K H (.str x) (.str x)
 | lst {a:Addr} {xs:List V} {ds:List PyData} : H a = some (.lst xs)→ShowsAllK K H xs ds→ShowsK K H (.ref a) (.list ds)
 | tup {a:Addr} {xs:List V} {ds:List PyData} : SqT K H a xs→ShowsAllK K H xs ds→ShowsK K H (.ref a) (.tuple ds)
inductive ShowsAllK (K:PySem.W.Frag) (H:Hp):List V→List PyData→Prop
 | nil:ShowsAllK K H [] []
 | cons {x:V} {xs:List V} {d:PyData} {ds:List PyData} : ShowsK K H x d→ShowsAllK K H xs ds→ShowsAllK K H (x :: xs) (d :: ds)
end
mutual
theorem ShowsK.same {K:PySem.W.Frag} {H H':Hp} (S:Same H H'):∀ {x:V} {d:PyData},ShowsK K H x d→ShowsK K H' x d
 | _,_,.non=>.non
 | _,_,.bl b=>.bl b
 | _,_,.int i=>.int i
 | _,_,.str x=>.str x
 | _,_,.lst e h=>.lst (S _ _ e) (ShowsAllK.same S h)
 | _,_,.tup e h=>.tup (S.tup e) (ShowsAllK.same S h)
theorem ShowsAllK.same {K:PySem.W.Frag} {H H':Hp} (S:Same H H'):∀ {xs:List V} {ds:List PyData},ShowsAllK K H xs ds→ShowsAllK K H' xs ds
 | _,_,.nil=>.nil
 | _,_,.cons h t=>.cons (ShowsK.same S h) (ShowsAllK.same S t)
end
theorem ShowsAllK.ints (K:PySem.W.Frag) (H:Hp):∀ ns:List Int,ShowsAllK K H (ns.map V.int) (ns.map PyData.int)
 | []=>.nil
 | n :: ns=>.cons (.int n) (ShowsAllK.ints K H ns)
section
variable {X:Cx} {pins:List (Addr × Obj)} {σ:L2.St} {H:Hp} {s:Shared}
mutual
theorem Inv.readsK (I:Inv X pins σ H s):∀ {x:V} {d:PyData} {v:Value},ShowsK X.K H x d→RelV x v→∃ as,Reads s.heap v d as
 | _,_,_,.non,r=>by cases r; exact ⟨_,.none⟩
 | _,_,_,.bl b,r=>by cases r; exact ⟨_,.bool b⟩
 | _,_,_,.int i,r=>by obtain ⟨t,rfl⟩:=r; exact ⟨_,.int i t⟩
 | _,_,_,.str x,r=>by obtain ⟨t,rfl⟩:=r; exact ⟨_,.str x t⟩
 | _,_,_,.lst e h,r=>by
  cases r
  obtain ⟨its,rv,⟨o,ho,hc,n,hd⟩⟩:=I.lstIs e
  obtain ⟨as,q⟩:=Inv.readsAllK I h rv
  exact ⟨_,.list ho hc hd q⟩
 | _,_,_,.tup e h,r=>by
  cases r
  obtain ⟨its,rv,⟨o,ho,hc,n,hd⟩,_⟩:=I.tuple e
  obtain ⟨as,q⟩:=Inv.readsAllK I h rv
  exact ⟨_,.tuple ho hc hd q⟩
theorem Inv.readsAllK (I:Inv X pins σ H s):∀ {xs:List V} {ds:List PyData} {vs:List Value},ShowsAllK X.K H xs ds→Vals xs vs→∃ as,ReadsAll s.heap vs ds as
 | _,_,_,.nil,r=>by cases r; exact ⟨_,.nil⟩
 | _,_,_,.cons h t,r=>by
  cases r with
  | cons r1 r2 =>
   obtain ⟨a,q1⟩:=Inv.readsK I h r1
   obtain ⟨b,q2⟩:=Inv.readsAllK I t r2
   exact ⟨_,.cons q1 q2⟩
end
def rEqK (K:PySem.W.Frag) (neg:Bool):R2:=fun x y H Q=>∃ d e,ShowsK K H x d∧ShowsK K H y e∧SeqAt.shaped d = true∧SeqAt.shaped e = true∧Q (.bl (if neg then !PyData.eqv d e else PyData.eqv d e)) H
theorem op_neK (hu:X.A.units + 64 < cLine):OpR X (compareOp .NotEq) (rEqK X.K true):=by
 intro pins s σ H x y v u Q I rx ry h
 obtain ⟨d,e,hd,he,sd,se,q⟩:=h
 obtain ⟨as,ra⟩:=I.readsK hd rx
 obtain ⟨bs,rb⟩:=I.readsK he ry
 exact SeqAt.compareNe_shaped ra rb sd se hu ⟨.bl _,H,I,rfl,q⟩
end
section
variable {X:Cx}
def rLenK (K:PySem.W.Frag):List V→Hp→VK→Prop:=fun xs H Q=>∃ p ys,xs = [.ref p]∧SqT K H p ys∧Q (.int ys.length) H
theorem call_lenK:CallR X (.builtin "len") (rLenK X.K):=call_len_seq.imp fun xs H Q ⟨p,ys,a,b,c⟩=>⟨p,ys,a,.inr b,c⟩
def rIsiTup (K:PySem.W.Frag):List V→Hp→VK→Prop:=fun xs H Q=>∃ p T ys,xs = [.ref p,.ty T]∧T ∈ ["bool", "int", "str", "list", "tuple", "dict"]∧SqT K H p ys∧Q (.bl (subS "tuple" T)) H
theorem call_isiTup:CallR X (.builtin "isinstance") (rIsiTup X.K):=by
 intro pins s σ H xs us Q I r h
 obtain ⟨p,T,ys,rfl,hT,hp,q⟩:=h
 obtain ⟨u,v,rfl,ru,rv⟩:=r.two
 cases ru
 cases rv
 obtain ⟨its,rvs,⟨o,ho,hc,n,hd⟩,_⟩:=I.tuple hp
 refine PySem.W.kia_one (PySem.W.kitx_tuple (a:=p)) I.kIn ⟨o,ho,hc⟩ (kit_sub (K:=X.K) (t := "tuple") (by decide) hT) (fun z=>nomatch z) fun tk=>⟨.bl _,H,I.tok _,rfl,q⟩
end
end L2
set_option Elab.async false
set_option linter.all false
set_option maxRecDepth 100000
set_option maxHeartbeats 4000000
namespace L2
open PySem PySem.Spec PyProof.Rows
def OkI (P:Program) (w:World) (K:PySem.W.Frag) (mg:Str→Option Value) (base:Heap) (CX:CXT) (k:Nat) (f:Addr) (ps:List Str) (sp:Sp):Prop:=∃ fd,FnOk P w K mg base CX k f fd ps sp∧Binds K fd ps []
def HasI (K:PySem.W.Frag) (x qual:Str) (st:Stmt) (ps:List Str) (f:Addr):Prop:=∃ fd,Fun K x qual st f fd∧∀ us:List Value,us.length = ps.length→bindArgs fd ⟨us,[]⟩ = pure (ps.zip us)
theorem HasI.ok {P:Program} {w:World} {K:PySem.W.Frag} {mg:Str→Option Value} {base:Heap} {CX:CXT} {k:Nat} {x qual:Str} {st:Stmt} {ps:List Str} {f:Addr} {sp:Sp} (h:HasI K x qual st ps f) (hf:∀ fd,Fun K x qual st f fd→FnOk P w K mg base CX k f fd ps sp):OkI P w K mg base CX k f ps sp :=
 let ⟨fd,a,b⟩:=h; ⟨fd,hf fd a,.all b⟩
theorem hasI_mk {K:PySem.W.Frag} {x qual:Str} {st:Stmt} {ps:List Str} {f:Addr} {oc:Value} {od an:Option Addr} {osl:Array (Option Value)} {kV doc pm cdv ct:Value}
  (l:K.lookup f = some ⟨oc,od,.func (PySem.W.fnOf x qual (defArgs st) (defBody st) (defScope st) .none kV doc pm an cdv ct),osl⟩) (c:PySem.W.codeIn K cdv qual = true) (k:PySem.W.keepIn K (.ref f) = true)
  (hb:∀ (kV doc pm:Value) (an:Option Addr) (cdv ct:Value) (us:List Value),us.length = ps.length→bindArgs (PySem.W.fnOf x qual (defArgs st) (defBody st) (defScope st) .none kV doc pm an cdv ct) ⟨us,[]⟩ = pure (ps.zip us)):HasI K x qual st ps f :=
 ⟨_,fun_mk l c k,hb kV doc pm an cdv ct⟩
section
variable {X:Cx} {k:Nat} {f C B:Addr} {ps:List Str} {sp:Sp} {x m:Str} {p pos apos:Pos} {e o:Expr} {es:List Expr} {ta:TE} {t:TA} {Ex:Value→Option Addr→L2.St→Hp→Prop}
theorem PE.any {ι:Sort _} {R:ι→Prop} {a:Expr} {ts:ι→TE} (h:∀ i,R i→PE X a (ts i)):PE X a (fun σ H Q=>∃ i,R i∧ts i σ H Q):=fun pins s σ H Q I ⟨i,r,q⟩=>h i r pins s σ H Q I q
def tMakeI (C:Addr) (sp:Sp) (Ex:Value→Option Addr→L2.St→Hp→Prop) (t:TA):TE:=fun σ H Q=>t σ H fun vs H1=>∀ x dx,H1 x = none→H1 dx = none→dx ≠ x→sp (.ref x :: vs) (upd (upd H1 dx (.own x)) x (.ins C dx [])) (fun v H2=>v = .non∧Q (.ref x) H2) fun E d H'=>Ex E d σ H'
theorem pe_makeI (M:Mk X.K C f) (G:OkI X.prog X.w X.K X.mg X.base (CXO X.prog X.w) k f ps sp) (hr:Room (k + 1) X.A) (hg:Gl X x) (hm:X.mg x = some (.ref C)) (hx:XFly X Ex) (ha:PA X (e :: es) t) (hdb:(x == ("__debug__" : Str)) = false:=by decide)
  (he:starEach (e :: es) X.env = (false,eval e X.env) :: starEach es X.env:=by rfl) (hpl:(backTo pos (starEach es X.env)).any (·.1) = false:=by rfl):PE X (.Call (.Name x p) (e :: es) [] pos) (tMakeI C sp Ex t):=by
 obtain ⟨fd,F,hb⟩:=G
 refine (pe_makeX M F hr hg hm hb .nil hx ha.mono hdb he hpl).imp fun σ H Q h=>⟨_,h,fun vs H1 q x dx h1 h2 h3=>?_⟩
 rw [List.append_nil]
 exact q x dx h1 h2 h3
def tMethI (C:Addr) (m:Str) (sp:Sp) (ta:TE) (t:TA):TE:=fun σ H Q=>ta σ H fun x H1=>∃ a dx fs,x = .ref a∧H1 a = some (.ins C dx fs)∧fs.lookup m = none∧t σ H1 fun vs H2=>sp (x :: vs) H2 Q E0
theorem pe_methI {pl:Sem Bool} (he:PE X o ta) (c:Cls X.K C) (hm:Meth X.K C m f) (G:OkI X.prog X.w X.K X.mg X.base CX0 k f ps sp) (hr:Room k X.A) (ha:PA X (e :: es) t)
  (hst:starEach (e :: es) X.env = (false,eval e X.env) :: starEach es X.env:=by rfl) (hpl:(backTo pos (starEach es X.env)).any (·.1) = false:=by rfl)
  (ht:eval (.Call (.Attribute o m apos) (e :: es) [] pos) X.env = (do
   let ov ← eval o X.env
   standAt apos.atName
   let (f,first) ← holding [ov] (getMethod ov m pl)
   callWith pos f first (backTo pos (starEach (e :: es) X.env)) (backToKw pos (keywordEach [] X.env))):=by rfl) :
  PE X (.Call (.Attribute o m apos) (e :: es) [] pos) (tMethI C m sp ta t):=by
 obtain ⟨fd,F,hb⟩:=G
 refine (pe_meth (pl:=pl) he.mono c hm F hr hb .nil pass0 ha.mono hst hpl ht).imp fun σ H Q h=>⟨_,h,?_⟩
 rintro x H1 ⟨a,dx,fs,h1,h2,h3,h4⟩
 refine ⟨a,dx,fs,h1,h2,h3,_,h4,fun vs H2 q=>?_⟩
 show sp (x :: (vs ++ [])) H2 Q E0
 rw [List.append_nil]
 exact q
theorem pe_meth0I {pl:Sem Bool} (he:PE X o ta) (c:Cls X.K C) (hm:Meth X.K C m f) (G:OkI X.prog X.w X.K X.mg X.base CX0 k f ps sp) (hr:Room k X.A)
  (ht:eval (.Call (.Attribute o m apos) [] [] pos) X.env = (do
   let ov ← eval o X.env
   standAt apos.atName
   let (f,first) ← holding [ov] (getMethod ov m pl)
   callWith pos f first (backTo pos (starEach [] X.env)) (backToKw pos (keywordEach [] X.env))):=by rfl) :
  PE X (.Call (.Attribute o m apos) [] [] pos) (tMethI C m sp ta tNil):=by
 obtain ⟨fd,F,hb⟩:=G
 refine (pe_meth0 (pl:=pl) he.mono c hm F hr hb .nil pass0 ht).imp fun σ H Q h=>⟨_,h,?_⟩
 rintro x H1 ⟨a,dx,fs,h1,h2,h3,h4⟩
 exact ⟨a,dx,fs,h1,h2,h3,h4⟩
theorem pe_baseI {pl:Sem Bool} (c:ByCls X.K B m f) (G:OkI X.prog X.w X.K X.mg X.base (CXO X.prog X.w) k f ps sp) (hr:Room k X.A) (hg:Gl X x) (hm:X.mg x = some (.ref B)) (hx:XFly X Ex) (ha:PA X (e :: es) t) (hdb:(x == ("__debug__" : Str)) = false:=by decide)
  (hst:starEach (e :: es) X.env = (false,eval e X.env) :: starEach es X.env:=by rfl) (hpl:(backTo pos (starEach es X.env)).any (·.1) = false:=by rfl)
  (ht:eval (.Call (.Attribute (.Name x p) m apos) (e :: es) [] pos) X.env = (do
   let ov ← eval (.Name x p) X.env
   standAt apos.atName
   let (f,first) ← holding [ov] (getMethod ov m pl)
   callWith pos f first (backTo pos (starEach (e :: es) X.env)) (backToKw pos (keywordEach [] X.env))):=by rfl) :
  PE X (.Call (.Attribute (.Name x p) m apos) (e :: es) [] pos) (tCallX sp Ex t):=by
 obtain ⟨fd,F,hb⟩:=G
 exact pe_baseX (pl:=pl) c F hr hg hm hb hx ha hdb hst hpl ht
theorem pe_globT {D:Addr} {pos:Pos} (hg:Gl X x) (hm:X.mg x = some (.ref D)) (hd:(x == ("__debug__" : Str)) = false:=by decide):PE X (.Name x pos) (tC (.ref D)):=pe_glob hg hm rfl hd
end
theorem op_neKK {X:Cx} {K:PySem.W.Frag} (e:X.K = K) (hu:X.A.units + 64 < cLine):OpR X (compareOp .NotEq) (rEqK K true):=e ▸ op_neK hu
end L2
set_option Elab.async false
set_option linter.all false
set_option maxRecDepth 100000
set_option maxHeartbeats 4000000
namespace L2
open PySem PySem.Spec PyProof.Rows
theorem push_back {h:Heap} {o ob:Obj} {b:Addr} (e:(h.push o).get? b = some ob) (hs:b ≠ h.objs.size):h.get? b = some ob:=by
 obtain ⟨e1,e2⟩:=Heap.get?_some_iff.mp e
 refine Heap.get?_some_iff.mpr ⟨?_,e2⟩
 cases h
 simpa [Heap.push,Array.getElem?_push,hs] using e1
section
variable {X:Cx}
end
section
variable {ta:TA} {te:TE} {σ:L2.St} {H:Hp} {Q:VK}
end
section
variable {X:Cx}
theorem strs_are:∀ {ys:List Str} {vs:List Value},Vals (ys.map V.str) vs→StrsAre vs ys
 | [],_,h=>by cases h; exact .nil
 | y :: ys,_,h=>by
  rw [List.map_cons] at h
  cases h with
  | cons a b =>
   obtain ⟨t,rfl⟩:=a
   exact .cons y t (strs_are b)
def rJoin:V→List V→Hp→VK→Prop:=fun x vs H Q=>∃ a l ys,x = .str a∧vs = [.ref l]∧H l = some (.lst (ys.map V.str))∧(ys.map (·.length)).sum + ys.length * a.length ≤ 16777216∧Q (.str (Txt.join a ys)) H
theorem mt_join:MtM X "str.join" rJoin:=by
 intro pins s σ H x vs v us Q I rx rv h
 obtain ⟨a,l,ys,rfl,rfl,hl,hz,q⟩:=h
 obtain ⟨t,rfl⟩:=rx
 obtain ⟨u,rfl,ru⟩:=rv.one
 cases ru
 obtain ⟨_,its,n,r,_,e⟩:=I.lstM hl
 exact join_list ⟨_,e,rfl,n,rfl⟩ (by simpa using strs_are r) hz fun t' k=>⟨.str _,H,I.tok _,⟨_,rfl⟩,q⟩
structure InsK (K:PySem.W.Frag) (C:Addr):Prop where
 ha:PySem.W.findIn K (.ref C) "__class__" = some (some (.builtin "object.__class__"))
 hn:PySem.W.specialIn K (.builtin "object.__class__") "__get__" = some (some (.builtin "getset_descriptor.__get__"))
 tk:PySem.W.takesIn K (.builtin "object.__class__") = some true
 hm:PySem.W.mroIn K C (.type "object") = some true
def rIsiC (K:PySem.W.Frag):List V→Hp→VK→Prop:=fun xs H Q=>∃ a D C dx fs b,xs = [.ref a,.ref D]∧H a = some (.ins C dx fs)∧Cls K C∧InsK K C∧PySem.W.kitOne K (.ref C) (.ref D) = some b∧Q (.bl b) H
def rMin2:List V→Hp→VK→Prop:=fun xs H Q=>∃ i j,xs = [.int i,.int j]∧Q (.int (if j < i then j else i)) H
def rMax2:List V→Hp→VK→Prop:=fun xs H Q=>∃ i j,xs = [.int i,.int j]∧Q (.int (if j > i then j else i)) H
end
end L2
set_option Elab.async false
set_option linter.all false
set_option maxRecDepth 100000
set_option maxHeartbeats 4000000
namespace L2
open PySem PySem.Spec PyProof.Rows
section
variable {X:Cx} {elt iter:Expr} {pos:Pos} {scope:Scope} {wi:TI} {te:TE}
theorem ps_compG {i0:Nat} {y0:Str} {py spos:Pos} {xs N':List Str} {tg:Expr} {ifs:List Expr} {gt:TG} {tc:TT} (hc:X.calm = true) (hsh:shadG xs X.N = N') (hN:(xs ++ N').Nodup) (hkind:scope.kind = .function) (hcell:∀ y ∈ scope.names,y.2 ≠ .cell) (hnames:∀ y ∈ scope.names,y.2 = .local→scope.names.lookup y.1 = some .local)
  (hfree:∀ y ∈ scope.names,y.2 = .free→X.env.kindOf y.1 = some .cell∨X.env.kindOf y.1 = some .free) (hloc:∀ y ∈ X.N,y ∉ xs→(relabel scope X.env).names.lookup y ≠ some .local) (hq:∀ y ∈ X.N,y ∈ xs→(relabel scope X.env).names.lookup (hid y) = none) (hi:PI X tg iter wi)
  (hg:∀ C s₀ H₀ ex pn,PG (X.compG N' scope xs C s₀ H₀ ex pn) tg gt) (ht:∀ C s₀ H₀ ex pn,PTs (X.compG N' scope xs C s₀ H₀ ex pn) ifs tc) (he:∀ C s₀ H₀ ex pn,PE (X.compG N' scope xs C s₀ H₀ ex pn) elt te) (hgy:PG X (.Name y0 py) (gName i0)) (hsw:swapsWith (.ListComp elt [⟨tg,iter,ifs,0⟩] scope pos) (some (.Name y0 py)) spos.line X.env = pure true) (hs:∀ z,foldedSetIterable iter X.env z = pure z:=by intro _; rfl) :
  PS X (.Assign [.Name y0 py] (.ListComp elt [⟨tg,iter,ifs,0⟩] scope pos) spos) (tAsg (tCompG wi xs.length gt tc te) (gName i0)):=by
 intro pins s σ H D0 I h
 have h:tCompG wi xs.length gt tc te σ H (fun x H1=>gName i0 x σ H1 D0.nx):=h
 rw [exec_Assign_Name_used _ _ _ _ hsw]
 refine wpAny_bind (wpAny_standAt (wpAny_bind ?_))
 show wpAny _ X.A (comprehension (.ListComp elt [⟨tg,iter,ifs,0⟩] scope pos) scope X.env _ (newList []) false (eval iter X.env) (some (assign (.Name y0 py) X.env)) >>= fun _=>_) _ _ s
 refine wpAny_bind (wpAny_mono (compG_core (use:=some (assign (.Name y0 py) X.env)) (post:=fun _ s'=>SP X pins D0 .next s') hc hsh hN hkind hcell hnames hfree hloc hq hi hg ht he hs I h fun C D Hc s6 m fl hn6 I6 fC qn=>?_) (fun _ s' hq=>wpAny_pure (wpAny_pure hq)) fun _ _ e=>e)
 obtain ⟨oc,es,ep,ho,hdat,_⟩:=id hn6
 have I7:=I6.pinned (fp:=[C]) (fun b hb=>by rw [List.mem_singleton.mp hb]; exact fC) fun b hb=>by
  rw [List.mem_singleton.mp hb]
  exact ⟨oc,ho,fun v z=>by rw [hdat] at z; cases z⟩
 show wpAny _ X.A (assign (.Name y0 py) X.env _) _ _ s6
 refine thn (hgy _ s6 σ Hc (.ref D) _ D0.nx I7 rfl qn) fun _ s7 ⟨σ7,H7,Z7,q7⟩=>?_
 have pn7:=Z7.pin (C,oc) (List.mem_append_right _ (List.mem_append_right _ (mem_pinsAt (by simp) ho)))
 refine ⟨m,hn6.at' fun o e=>?_,fun h' hs'=>⟨σ7,H7,Z7.unpinned.turned (it:=C) (h':=h') (t':=s7.toks) (fun b o hb e=>(hs'.2 b hb).trans e) pn7.2.1 fC.2.1 fC.2.2.2.1 fC.2.2.2.2.1 fC.2.2.2.2.2,q7⟩⟩
 rw [ho] at e
 cases e
 exact pn7.1
theorem ps_compGF {i0:Nat} {y0:Str} {py spos:Pos} {elt iter tg:Expr} {pos:Pos} {scope:Scope} {wi:TI} {te:TE} {ifs:List Expr} {gt:TG} {tc:TT} (sc:Scope) (N N' xs:List Str) (hsc:X.env.scope = sc) (hNN:X.N = N) (hc:X.calm = true) (hsh:shadG xs N = N') (hN:(xs ++ N').Nodup) (hkind:scope.kind = .function) (hcell:∀ y ∈ scope.names,y.2 ≠ .cell)
  (hnames:∀ y ∈ scope.names,y.2 = .local→scope.names.lookup y.1 = some .local) (hfree:∀ y ∈ scope.names,y.2 = .free→sc.names.lookup y.1 = some .cell∨sc.names.lookup y.1 = some .free)
  (hloc:∀ y ∈ N,y ∉ xs→(scope.names.map fun (n,k)=>if (k == NameKind.free && sc.kind == .function && sc.names.lookup n == some .cell) then (n,NameKind.cell) else (n,k)).lookup y ≠ some .local)
  (hq:∀ y ∈ N,y ∈ xs→(scope.names.map fun (n,k)=>if (k == NameKind.free && sc.kind == .function && sc.names.lookup n == some .cell) then (n,NameKind.cell) else (n,k)).lookup (hid y) = none) (hi:PI X tg iter wi)
  (hg:∀ C s₀ H₀ ex pn,PG (X.compG N' scope xs C s₀ H₀ ex pn) tg gt) (ht:∀ C s₀ H₀ ex pn,PTs (X.compG N' scope xs C s₀ H₀ ex pn) ifs tc) (he:∀ C s₀ H₀ ex pn,PE (X.compG N' scope xs C s₀ H₀ ex pn) elt te) (hgy:PG X (.Name y0 py) (gName i0)) (hsw:swapsWith (.ListComp elt [⟨tg,iter,ifs,0⟩] scope pos) (some (.Name y0 py)) spos.line X.env = pure true:=by rfl) (hs:∀ z,foldedSetIterable iter X.env z = pure z:=by intro _; rfl) :
  PS X (.Assign [.Name y0 py] (.ListComp elt [⟨tg,iter,ifs,0⟩] scope pos) spos) (tAsg (tCompG wi xs.length (tMG gt) (tMT tc) (tM te)) (gName i0)):=by
 subst hsc hNN
 exact ps_compG hc hsh hN hkind hcell hnames hfree hloc hq hi (fun C s₀ H₀ ex pn=>(hg C s₀ H₀ ex pn).mono) (fun C s₀ H₀ ex pn=>(ht C s₀ H₀ ex pn).mono) (fun C s₀ H₀ ex pn=>(he C s₀ H₀ ex pn).mono) hgy hsw hs
theorem turn1 {te:TE} {x:V} {σ:L2.St} {H:Hp} {Y:VK} {No:Hp→Prop} (h:te (some x :: σ) H Y):tTurn 1 (gName 0) tYes te x σ H Y No:=fun pre hp=>by
 obtain ⟨u,rfl⟩:=List.length_eq_one_iff.mp hp
 exact ⟨[some x],rfl,rfl,h⟩
theorem tCompG1_list {K:PySem.W.Frag} {tl te:TE} {σ:L2.St} {H:Hp} {Q:VK} (h:tl σ H fun x H1=>∃ a xs,x = .ref a∧H1 a = some (.lst xs)∧xs.length ≤ sizeLine∧∀ D,H1 D = none→∃ J:Nat→List V→Hp→Prop,J 0 [] (upd H1 D (.lst [])) ∧
   (∀ k x ys Hc,xs[k]? = some x→J k ys Hc→ys.length = k→Hc a = some (.lst xs)→te (some x :: σ) Hc fun y H2=>H2 D = some (.lst ys)∧H2 a = some (.lst xs)∧J (k + 1) (ys ++ [y]) (upd H2 D (.lst (ys ++ [y])))) ∧
   ∀ ys Hc,J xs.length ys Hc→ys.length = xs.length→Q (.ref D) Hc):tCompG (iList K (tM tl)) 1 (tMG (gName 0)) (tMT tYes) (tM te) σ H Q:=by
 refine ⟨_,h,?_⟩
 rintro x H1 ⟨a,xs,rfl,hx,hz,rest⟩
 refine ⟨a,rfl,⟨xs,.of hx⟩,fun D hD=>?_⟩
 obtain ⟨J,j0,step,fin⟩:=rest D hD
 have ne:a ≠ D:=ne_of_none hx hD
 refine ⟨fun k m ys Hc=>k ≤ xs.length∧m = xs.length - k∧ys.length = k∧Hc a = some (.lst xs)∧J k ys Hc,⟨_,Nat.zero_le _,rfl,rfl,(upd_ne ne).trans hx,j0⟩,?_⟩
 rintro k m ys Hc ⟨hk,rfl,hy,hx',j⟩
 by_cases e:k = xs.length
 ·subst e
  exact .inl ⟨⟨xs,.of hx',Nat.le_refl _⟩,fin ys Hc j hy⟩
 ·have hlt:k < xs.length:=by omega
  refine .inr ⟨⟨xs,_,.of hx',List.getElem?_eq_getElem hlt⟩,?_⟩
  rintro x H'' ⟨rfl,y⟩
  refine (turn1 (No:=fun _=>False) (step k x ys H'' (y xs (.of hx')) j hy hx')).weak ?_ (fun _ z=>z.elim)
  rintro yv H2 ⟨z1,z2,z3⟩
  refine ⟨by omega,z1,xs.length - (k + 1),by omega,by omega,rfl,?_,?_,z3⟩
  ·rw [List.length_append,hy]; rfl
  ·rw [upd_ne ne]; exact z2
theorem compG_rngJ {te:TE} {σ:L2.St} {H:Hp} {Q:VK} {lo:Int} {n:Nat} (hn:n ≤ 64) (rest:∀ D,H D = none→∃ J:Nat→List V→Hp→Prop,J 0 [] (upd H D (.lst []))∧(∀ k ys Hc,k < n→J k ys Hc→ys.length = k→te (some (.int (lo + k)) :: σ) Hc fun y H2=>H2 D = some (.lst ys)∧J (k + 1) (ys ++ [y]) (upd H2 D (.lst (ys ++ [y]))))∧∀ ys Hc,J n ys Hc→ys.length = n→Q (.ref D) Hc) :
  ∀ D,H D = none→∃ W:Nat→Nat→List V→Hp→Prop,(∃ m,W 0 m [] (upd H D (.lst [])))∧∀ i m ys Hc,W i m ys Hc→((Itr lo n).stop i Hc∧Q (.ref D) Hc)∨((Itr lo n).go i Hc∧∀ x H',(Itr lo n).yld i Hc x H'→tTurn 1 (tMG (gName 0)) (tMT tYes) (tM te) x σ H' (fun y H2=>ys.length < sizeLine∧H2 D = some (.lst ys)∧∃ m',m' < m∧W (i + 1) m' (ys ++ [y]) (upd H2 D (.lst (ys ++ [y])))) fun H3=>∃ m',m' < m∧W (i + 1) m' ys H3):=by
 intro D hD
 obtain ⟨J,j0,step,fin⟩:=rest D hD
 have hz:64 ≤ sizeLine:=by decide
 refine ⟨fun k m ys Hc=>k ≤ n∧m = n - k∧ys.length = k∧J k ys Hc,⟨_,Nat.zero_le _,rfl,rfl,j0⟩,?_⟩
 rintro k m ys Hc ⟨hk,rfl,hy,j⟩
 by_cases e:k = n
 ·subst e
  exact .inl ⟨Nat.le_refl _,fin ys Hc j hy⟩
 ·have hlt:k < n:=by omega
  refine .inr ⟨hlt,?_⟩
  rintro x H'' ⟨rfl,rfl⟩
  refine (turn1 (No:=fun _=>False) (step k ys H'' hlt j hy)).weak ?_ (fun _ z=>z.elim)
  rintro yv H2 ⟨z1,z2⟩
  exact ⟨by omega,z1,n - (k + 1),by omega,by omega,rfl,by rw [List.length_append,hy]; rfl,z2⟩
theorem tCompG1_rng {ta:TA} {te:TE} {σ:L2.St} {H:Hp} {Q:VK} (h:ta σ H fun vs H1=>∃ n:Nat,vs = [.int n]∧n ≤ 64∧∀ D,H1 D = none→∃ J:Nat→List V→Hp→Prop,J 0 [] (upd H1 D (.lst []))∧(∀ (k:Nat) ys Hc,k < n→J k ys Hc→ys.length = k→te (some (.int k) :: σ) Hc fun y H2=>H2 D = some (.lst ys)∧J (k + 1) (ys ++ [y]) (upd H2 D (.lst (ys ++ [y]))))∧∀ ys Hc,J n ys Hc→ys.length = n→Q (.ref D) Hc) :
  tCompG (iRng1 (tMA ta)) 1 (tMG (gName 0)) (tMT tYes) (tM te) σ H Q:=by
 refine ⟨_,h,?_⟩
 rintro vs H1 ⟨n,rfl,hn,rest⟩
 refine ⟨n,rfl,by omega,by omega,?_⟩
 rw [Int.toNat_natCast]
 refine compG_rngJ hn fun D hD=>?_
 obtain ⟨J,j0,step,fin⟩:=rest D hD
 exact ⟨J,j0,fun k ys Hc h1 h2 h3=>by rw [Int.zero_add]; exact step k ys Hc h1 h2 h3,fin⟩
end
theorem FnOk.wild {P:Program} {w:World} {K:PySem.W.Frag} {mg:Str→Option Value} {base:Heap} {k:Nat} {f:Addr} {fd:FuncData} {ps:List Str} {sp:Sp} (F:FnOk P w K mg base CX0 k f fd ps sp):FnOk P w K mg base (CXO P w) k f fd ps sp:=by
 refine ⟨F.len,fun A outer s H args us vs Q E hr e0 hb r h=>?_⟩
 refine codeAny_mono (F.run A outer s H args us vs Q E hr e0 hb r h) fun res s' hs=>?_
 cases res with
 | error e=>exact False.elim hs
 | ok fl =>
  cases fl with
  | ret u=>exact hs
  | next=>exact hs
  | brk=>exact hs
  | cont=>exact hs
theorem OkF.wild {P:Program} {w:World} {K:PySem.W.Frag} {mg:Str→Option Value} {base:Heap} {k:Nat} {x:Str} {ps:List Str} {sp:Sp} (F:OkF P w K mg base k x ps sp):OkX P w K mg base k x ps sp:=let ⟨f,fd,a,b⟩:=F; ⟨f,fd,a.wild,b⟩
end L2
set_option Elab.async false
set_option linter.all false
set_option maxRecDepth 100000
set_option maxHeartbeats 4000000
namespace L2
open PySem PySem.Spec PyProof.Rows
section
variable {X:Cx} {pins:List (Addr × Obj)} {σ:L2.St} {H:Hp} {s:Shared} {h':Heap}
theorem Inv.turnedL {t':Nat} {ch:List Addr} (I:Inv X pins σ H s) (k:∀ b o,b ∉ ch→s.heap.get? b = some o→h'.get? b = some o) (hf:∀ b ∈ ch,FpOk X pins H b):Inv X pins σ H { s with heap:=h',toks:=t' }:=by
 have nit:∀ b u,H b = some u→b ∉ ch:=fun b u e z=>by rw [(hf b z).1] at e; cases e
 refine I.step (g':=s.gens) (d':=s.drawn) (ch:=ch) (fun b hb=>⟨(hf b hb).2.2.2.1,(hf b hb).2.1,(hf b hb).2.2.2.2.1,(hf b hb).2.2.2.2.2⟩) (fun b o _ _ hc e _=>k b o hc e) (fun b o _ _ hc e _=>⟨o.slots,k b o hc e⟩) (fun _ _ _ _ n=>n) (fun b o hc e=>⟨o,k b o hc e⟩) (fun _ _ e=>e) (fun _ _ _ e=>e) (fun b ps e=>⟨#[],by rw [e]; simp⟩) (fun m hm=>?_) (fun b u e=>?_) I.bare
 ·obtain ⟨o,es,ep,ho,r⟩:=hm
  exact ⟨o,es,ep,k _ o (fun z=>(hf _ z).2.1 rfl) ho,r⟩
 ·refine (I.hok b u e).stay (fun c v hc q=>k c v ?_ q) (fun _ q=>q) fun _ _ q=>q
  rcases hc with z | z
  ·rw [z]; exact nit b u e
  ·exact nit c _ z
end
def Itz (a b:Addr):It:=⟨fun i H=>∃ xs ys,H a = some (.lst xs)∧H b = some (.lst ys)∧i < xs.length∧i < ys.length,fun i H v H'=>∃ xs ys x y t,H a = some (.lst xs)∧H b = some (.lst ys)∧xs[i]? = some x∧ys[i]? = some y∧H t = none∧v = .ref t∧H' = upd H t (.tup [x,y]),fun i H=>∃ xs ys,H a = some (.lst xs)∧H b = some (.lst ys)∧(xs.length ≤ i∨ys.length ≤ i)⟩
theorem iter_move {h g:Heap} {a l:Addr} {i:Nat} (x:h.IsListIter a l i) (k:∀ o,h.get? a = some o→g.get? a = some o):g.IsListIter a l i:=let ⟨o,e,r⟩:=x; ⟨o,k o e,r⟩
theorem vals_at {xs:List V} {vs:List Value} : Vals xs vs→∀ {i:Nat} {x:V},xs[i]? = some x→∃ u,vs[i]? = some u∧RelV x u:=by
 intro h
 induction h with
 | nil=>intro i x e; cases e
 | cons a b ih =>
  intro i x e
  cases i with
  | zero=>rw [List.getElem?_cons_zero] at e; cases e; exact ⟨_,rfl,a⟩
  | succ i=>rw [List.getElem?_cons_succ] at e ⊢; exact ih e
theorem turn_zip {P:Program} {w:World} {K:PySem.W.Frag} {elts:List Expr} {x1} {pos:Pos} (z TI TO i1 i2 l1 l2:Addr) (D:ZipApart z TI TO i1 i2 l1 l2) :
  Turn P w K (.Tuple elts x1 pos) (Itz l1 l2) [z,TI,TO,i1,i2] z (fun i h=>IsZip h z TI TO .none∧IsPair h TI (.ref i1) (.ref i2)∧(∃ p q,IsPair h TO p q)∧h.IsListIter i1 l1 i∧h.IsListIter i2 l2 i) where
 mem:=by simp
 obj:=by
  rintro i h ⟨s1,s2,⟨p,q,s3⟩,⟨o4,s4,_,d4⟩,⟨o5,s5,_,d5⟩⟩ b hb
  simp only [List.mem_cons,List.not_mem_nil,or_false] at hb
  rcases hb with rfl | rfl | rfl | rfl | rfl
  ·exact ⟨_,s1,fun v e=>by cases e⟩
  ·exact ⟨_,s2,fun v e=>by cases e⟩
  ·exact ⟨_,s3,fun v e=>by cases e⟩
  ·exact ⟨_,s4,fun v e=>by rw [d4] at e; cases e⟩
  ·exact ⟨_,s5,fun v e=>by rw [d5] at e; cases e⟩
 keep:=fun i h h' ⟨s1,s2,⟨p,q,s3⟩,s4,s5⟩ k=>⟨k z (by simp) _ s1,k TI (by simp) _ s2,⟨p,q,k TO (by simp) _ s3⟩,iter_move s4 (k i1 (by simp)),iter_move s5 (k i2 (by simp))⟩
 item:=by
  intro X hP hw hK hc i pins s σ H E I hf st hg
  subst hP hw hK
  obtain ⟨s1,s2,⟨p,q,s3⟩,s4,s5⟩:=st
  obtain ⟨xs,ys,ha,hb,lt1,lt2⟩:=hg
  obtain ⟨_,it1,n1,rv1,le1,g1⟩:=I.lstM ha
  obtain ⟨_,it2,n2,rv2,le2,g2⟩:=I.lstM hb
  have ex:xs[i]? = some xs[i]:=List.getElem?_eq_getElem lt1
  have ey:ys[i]? = some ys[i]:=List.getElem?_eq_getElem lt2
  obtain ⟨u,hu,ru⟩:=vals_at rv1 ex
  obtain ⟨v,hv,rv⟩:=vals_at rv2 ey
  refine wpAny_pyNext_zip_item D s1 s2 s3 s4 s5 (xs:=it1.toArray) (ys:=it2.toArray) ⟨_,g1,rfl,n1,rfl⟩ ⟨_,g2,rfl,n2,rfl⟩ (x:=u) (y:=v) (by simpa using hu) (by simpa using hv) fun h' a1 a2 a3 a4 a5 a6 a7=>⟨_,rfl,?_⟩
  refine wpAny_letOwnedTupleGo_zip a1 fun h2 st2 sb=>?_
  have nt:H s.heap.objs.size = none:=I.fresh
  have I1:=I.laid (a:=s.heap.objs.size) (o:=.tup [xs[i],ys[i]]) (h':=s.heap.push { cls:=.type "tuple",data:=.seq #[u,v] }) (t':=s.toks) (fun b q z=>Heap.get?_push_of_some _ z) (Nat.le_refl _)
   ⟨(by show 2 ≤ sizeLine; decide),[u,v],.cons ru (.cons rv .nil),_,Heap.get?_push_size _ rfl,rfl,_,rfl⟩
  have nz:z ≠ s.heap.objs.size:=Nat.ne_of_lt (Heap.lt_size s1)
  have nO:TO ≠ s.heap.objs.size:=Nat.ne_of_lt (Heap.lt_size s3)
  have nI:TI ≠ s.heap.objs.size:=Nat.ne_of_lt (Heap.lt_size s2)
  have n1':i1 ≠ s.heap.objs.size:=by obtain ⟨o,e,_⟩:=s4; exact Nat.ne_of_lt (Heap.lt_size e)
  have n2':i2 ≠ s.heap.objs.size:=by obtain ⟨o,e,_⟩:=s5; exact Nat.ne_of_lt (Heap.lt_size e)
  have fpn:∀ b ∈ [z,TI,TO,i1,i2],upd H s.heap.objs.size (.tup [xs[i],ys[i]]) b = none:=by
   intro b hb
   have f0:=(hf b hb).1
   simp only [List.mem_cons,List.not_mem_nil,or_false] at hb
   rcases hb with rfl | rfl | rfl | rfl | rfl
   ·exact (upd_ne nz).trans f0
   ·exact (upd_ne nI).trans f0
   ·exact (upd_ne nO).trans f0
   ·exact (upd_ne n1').trans f0
   ·exact (upd_ne n2').trans f0
  have I2:=I1.turnedL (ch:=[z,TO,i1,i2]) (h':=h2) (t':=s.toks) (fun b ob hb e=>by
   simp only [List.mem_cons,List.not_mem_nil,or_false,not_or] at hb
   obtain ⟨b1,b2,b3,b4⟩:=hb
   refine (sb.2 b b1).trans ?_
   by_cases hs:b = s.heap.objs.size
   ·subst hs
    have e2:=Heap.get?_push_size s.heap (o:={ cls:=.type "tuple",data:=.seq #[u,v] }) rfl
    have e:(s.heap.push { cls:=.type "tuple",data:=.seq #[u,v] }).get? s.heap.objs.size = some ob:=e
    rw [e2] at e
    cases e
    exact a5
   ·exact a7 b _ b1 b2 b3 b4 (push_back e hs)) fun b hb=>by
    have hb':b ∈ [z,TI,TO,i1,i2]:=by
     simp only [List.mem_cons,List.not_mem_nil,or_false] at hb ⊢
     rcases hb with h | h | h | h <;> simp [h]
    exact ⟨fpn b hb',(hf b hb').2⟩
  have mv:∀ c o,c ≠ z→h'.get? c = some o→h2.get? c = some o:=fun c o n e=>(sb.2 c n).trans e
  exact ⟨.ref _,_,I2,rfl,⟨xs,ys,_,_,_,ha,hb,ex,ey,nt,rfl,rfl⟩,⟨st2,mv _ _ D.TIz (a7 _ _ D.TIz D.TITO D.TIi1 D.TIi2 s2),⟨_,_,mv _ _ D.TOz a2⟩,iter_move a3 fun o e=>mv _ _ D.i1z e,iter_move a4 fun o e=>mv _ _ D.i2z e⟩,fpn⟩
 done:=by
  intro X hP hw hK hc i pins s σ H E I hf st hg
  subst hP hw hK
  obtain ⟨s1,s2,⟨p,q,s3⟩,s4,s5⟩:=st
  obtain ⟨xs,ys,ha,hb,lt⟩:=hg
  obtain ⟨_,it1,n1,rv1,le1,g1⟩:=I.lstM ha
  obtain ⟨_,it2,n2,rv2,le2,g2⟩:=I.lstM hb
  refine wpAny_pyNext_zip_end (I.ok.hd hc) D s1 s2 s3 s4 s5 (xs:=it1.toArray) (ys:=it2.toArray) ⟨_,g1,rfl,n1,rfl⟩ ⟨_,g2,rfl,n2,rfl⟩ (by simp; omega) fun h' k=>⟨rfl,I.turnedL (ch:=[z,TO,i1,i2]) (t':=s.toks) (fun b ob hb e=>?_) fun b hb=>?_⟩
  ·simp only [List.mem_cons,List.not_mem_nil,or_false,not_or] at hb
   exact k b ob hb.1 hb.2.1 hb.2.2.1 hb.2.2.2 e
  ·exact hf b (by
    simp only [List.mem_cons,List.not_mem_nil,or_false] at hb ⊢
    rcases hb with h | h | h | h <;> simp [h])
 self:=fun _ _ _ _ _ ⟨s1,_⟩ h=>wpAny_pyIter_zip s1 h
section
variable {X:Cx}
theorem zip_apart (n l1 l2:Nat) (h1:l1 < n) (h2:l2 < n):ZipApart (n + 4) (n + 2) (n + 3) n (n + 1) l1 l2:=by
 constructor <;> first | exact Nat.ne_of_lt (by omega) | exact Nat.ne_of_gt (by omega)
theorem in_five (n b:Nat) (h:b = n + 4∨b = n + 2∨b = n + 3∨b = n∨b = n + 1):n ≤ b:=by omega
theorem boot_zip:bootBuiltins "zip" = some (.type "zip"):=by decide +kernel
def iZip (ta:TA):TI:=fun σ H R=>ta σ H fun vs H1=>∃ a b xs ys,vs = [.ref a,.ref b]∧H1 a = some (.lst xs)∧H1 b = some (.lst ys)∧R (Itz a b) H1
theorem pi_zip {a b:Expr} {ta:TA} {elts:List Expr} {x1} {p pos tpos:Pos} (hg:Gl X "zip") (hm:X.mg "zip" = none) (ha:PA X [a,b] ta) (hs:starEach [a,b] X.env = [(false,eval a X.env),(false,eval b X.env)]:=by rfl) (hs2:starEach [b] X.env = [(false,eval b X.env)]:=by rfl) :
  PI X (.Tuple elts x1 tpos) (.Call (.Name "zip" p) [a,b] [] pos) (iZip ta):=by
 intro pins s σ H R I h
 refine Call_ (ld_blt I hg hm boot_zip (PyProof.Rows.callWith_type1 (thn (ha pos pins s σ H _ I h) fun us s1 ⟨vs,H1,I1,r1,q1⟩=>?_) (by rw [hs,hs2]) (by rw [hs2]; rfl)))
 obtain ⟨l1,l2,xs,ys,e,h1,h2,q⟩:=q1
 subst e
 obtain ⟨u,v,rfl,ru,rv⟩:=r1.two
 cases ru
 cases rv
 obtain ⟨_,it1,n1,rv1,le1,g1⟩:=I1.lstM h1
 obtain ⟨_,it2,n2,rv2,le2,g2⟩:=I1.lstM h2
 have z1:=Heap.lt_size g1
 have z2:=Heap.lt_size g2
 refine call_zip_2 (xs:=it1.toArray) (ys:=it2.toArray) ⟨_,g1,rfl,n1,rfl⟩ ⟨_,g2,rfl,n2,rfl⟩ fun h' a1 a2 a3 a4 a5 a6 a7=>?_
 refine wpAny_pyIter_zip a1 ?_
 refine ⟨_,[s1.heap.objs.size + 4,s1.heap.objs.size + 2,s1.heap.objs.size + 3,s1.heap.objs.size,s1.heap.objs.size + 1],_,Itz l1 l2,H1,rfl,I1.kept (t':=s1.toks) fun b ob e=>a7 b ob e,turn_zip _ _ _ _ _ l1 l2 (zip_apart _ _ _ z1 z2),⟨a1,a2,⟨_,_,a3⟩,a4,a5⟩,fun b hb=>?_,q⟩
 have hb':s1.heap.objs.size ≤ b:=by
  simp only [List.mem_cons,List.not_mem_nil,or_false] at hb
  exact in_five _ _ hb
 exact I1.fpOk hb' (I1.hok.fresh hb')
end
theorem tCompG_zip {ta:TA} {te:TE} {gt:TG} {tc:TT} {n:Nat} {σ:L2.St} {H:Hp} {Q:VK} (h:ta σ H fun vs H1=>∃ a b xs ys,vs = [.ref a,.ref b]∧H1 a = some (.lst xs)∧H1 b = some (.lst ys)∧xs.length = ys.length∧xs.length ≤ 64∧∀ D,H1 D = none→∃ J:Nat→List V→Hp→Prop,J 0 [] (upd H1 D (.lst [])) ∧
   (∀ k x y zs Hc t,xs[k]? = some x→ys[k]? = some y→J k zs Hc→zs.length ≤ k→Hc t = none→Hc a = some (.lst xs)→Hc b = some (.lst ys)→tTurn n gt tc te (.ref t) σ (upd Hc t (.tup [x,y])) (fun v H2=>H2 D = some (.lst zs)∧H2 a = some (.lst xs)∧H2 b = some (.lst ys)∧J (k + 1) (zs ++ [v]) (upd H2 D (.lst (zs ++ [v])))) fun H2=>H2 a = some (.lst xs)∧H2 b = some (.lst ys)∧J (k + 1) zs H2) ∧
   ∀ zs Hc,J xs.length zs Hc→zs.length ≤ xs.length→Q (.ref D) Hc):tCompG (iZip (tMA ta)) n (tMG gt) (tMT tc) (tM te) σ H Q:=by
 refine ⟨_,h,?_⟩
 rintro vs H1 ⟨a,b,xs,ys,rfl,hx,hy,hl,h64,rest⟩
 refine ⟨a,b,xs,ys,rfl,hx,hy,fun D hD=>?_⟩
 obtain ⟨J,j0,step,fin⟩:=rest D hD
 have na:a ≠ D:=ne_of_none hx hD
 have nb:b ≠ D:=ne_of_none hy hD
 have z64:64 ≤ sizeLine:=by decide
 refine ⟨fun k m zs Hc=>k ≤ xs.length∧m = xs.length - k∧zs.length ≤ k∧Hc a = some (.lst xs)∧Hc b = some (.lst ys)∧J k zs Hc,⟨_,Nat.zero_le _,rfl,Nat.zero_le _,(upd_ne na).trans hx,(upd_ne nb).trans hy,j0⟩,?_⟩
 rintro k m zs Hc ⟨hk,rfl,hz,ha',hb',j⟩
 by_cases e:k = xs.length
 ·subst e
  exact .inl ⟨⟨xs,ys,ha',hb',.inl (Nat.le_refl _)⟩,fin zs Hc j hz⟩
 ·have hlt:k < xs.length:=by omega
  refine .inr ⟨⟨xs,ys,ha',hb',hlt,by omega⟩,?_⟩
  rintro v H'' ⟨xs',ys',x,y,t,e1,e2,e3,e4,e5,rfl,rfl⟩
  rw [ha'] at e1
  rw [hb'] at e2
  cases e1
  cases e2
  refine (step k x y zs Hc t e3 e4 j hz e5 ha' hb').weak ?_ ?_
  ·rintro yv H2 ⟨z1,z2,z3,z4⟩
   refine ⟨by omega,z1,xs.length - (k + 1),by omega,by omega,rfl,?_,(upd_ne na).trans z2,(upd_ne nb).trans z3,z4⟩
   rw [List.length_append]; simp; omega
  ·rintro H2 ⟨z2,z3,z4⟩
   exact ⟨xs.length - (k + 1),by omega,by omega,rfl,by omega,z2,z3,z4⟩
end L2
set_option Elab.async false
set_option linter.all false
set_option maxRecDepth 100000
set_option maxHeartbeats 4000000
namespace L2
open PySem PySem.Spec PyProof.Rows
section
variable {X:Cx}
def rLenD:List V→Hp→VK→Prop:=fun xs H Q=>∃ p kvs,xs = [.ref p]∧H p = some (.dK kvs)∧Q (.int kvs.length) H
theorem call_lenD:CallR X (.builtin "len") rLenD:=by
 intro pins s σ H xs us Q I r h
 obtain ⟨p,kvs,rfl,hq,q⟩:=h
 obtain ⟨u,rfl,rx⟩:=vals1 r
 cases rx
 obtain ⟨z,y,vs,kv,d⟩:=(show ObjOk X.prog X.w H s.heap p (.dK kvs) from I.hok p _ hq)
 have hl:=line63
 have hlen:kvs.length = vs.length:=kv.length
 exact call_len_dict y d (by omega) ⟨.int kvs.length,H,I.tok _,⟨_,by rw [hlen]⟩,q⟩
theorem pe_fldK {e:Expr} {ta:TE} {f:Str} {pos:Pos} {K':PySem.W.Frag} (hK:X.K = K') (he:PE X e ta) (hb:attributeBase e f X.env (eval e X.env) = eval e X.env):PE X (.Attribute e f pos) (tFld K' ta f):=hK ▸ pe_fld he hb
def ipM:TIp:=fun x y H Q=>∃ i j,x = .int i∧y = .int j∧Bd i∧Bd j∧Q (.int (i * j)) H
theorem ip_mulB:PIp X .Mult ipM:=by
 intro pins s σ H x y v u Q I r1 r2 h
 obtain ⟨i,j,e1,e2,b1,b2,q⟩:=h
 subst e1; subst e2
 obtain ⟨t,rfl⟩:=r1
 obtain ⟨t',rfl⟩:=r2
 exact imul_int ⟨.int _,H,I.tok _,⟨_,rfl⟩,q⟩ (.of_bits b1.bits b2.bits)
theorem rep_one (c:Nat):∀ (n:Nat) (acc:Array Nat),((List.replicate n #[c]).foldl (· ++ ·) acc).toList = acc.toList ++ List.replicate n c
 | 0,acc=>by simp
 | n + 1,acc=>by
  rw [List.replicate_succ,List.foldl_cons,rep_one c n,Array.toList_append,List.append_assoc]
  rfl
def rRepS:R2:=fun x y H Q=>∃ c n,x = .str ⟨#[c]⟩∧y = .int n∧1 ≤ n∧n ≤ 1000∧∀ z:Str,z.cps.toList = List.replicate n.toNat c→Q (.str z) H
theorem op_repS:OpR X (binaryOp .Mult) rRepS:=by
 intro pins s σ H x y v u Q I rx ry h
 obtain ⟨c,n,rfl,rfl,h0,h1,q⟩:=h
 obtain ⟨t,rfl⟩:=rx
 obtain ⟨t',rfl⟩:=ry
 have hi:(⟨#[c]⟩ : Str).length = 1:=rfl
 have made:∀ z:Str,z.cps.toList = List.replicate n.toNat c→(Made.str z).post (EP X pins σ Q) s:=fun z hz=>⟨by
  have:z.length = n.toNat:=by
   show z.cps.size = _
   rw [← Array.length_toList,hz,List.length_replicate]
  exact Nat.le_trans (show z.length ≤ 1001 by omega) (by decide),.str z,H,I.tok _,⟨_,rfl⟩,q z hz⟩
 refine PySem.P.mul_str ?_ (fun _ _=>?_) (fun _ _=>?_) ?_
 ·rw [decide_eq_false (by omega),decide_eq_false (by omega)]; rfl
 ·rw [hi]
  have:1 ≤ (2 ^ 63 - 1:Int) / n:=Int.le_ediv_of_mul_le (by omega) (by omega)
  omega
 ·rw [hi]
  unfold Builtin.Str.tooLong
  exact decide_eq_false (by
   have:n.toNat ≤ 1000:=by omega
   have e:1000 ≤ sizeLine:=by decide
   omega)
 ·split
  ·omega
  ·split
   ·rename_i hc
    rw [hi] at hc
    have e:n.toNat = 1:=by
     simp at hc
     omega
    refine ⟨.str ⟨#[c]⟩,H,I,⟨t,rfl⟩,q _ ?_⟩
    rw [e]; rfl
   ·refine made _ ?_
    show ((List.replicate n.toNat #[c]).foldl (· ++ ·) #[]).toList = _
    rw [rep_one]; rfl
theorem OkI.wild {P:Program} {w:World} {K:PySem.W.Frag} {mg:Str→Option Value} {base:Heap} {k:Nat} {f:Addr} {ps:List Str} {sp:Sp} (h:OkI P w K mg base CX0 k f ps sp):OkI P w K mg base (CXO P w) k f ps sp:=let ⟨fd,a,b⟩:=h; ⟨fd,a.wild,b⟩
end
end L2
namespace Lv
def lcmL (bs:List Nat):Nat:=bs.foldl Nat.lcm 1
theorem foldl_lcm_dvd:∀ (bs:List Nat) (a m:Nat),bs.foldl Nat.lcm a ∣ m ↔ a ∣ m∧∀ b ∈ bs,b ∣ m
 | [],a,m=>by simp
 | b :: bs,a,m=>by
  rw [List.foldl_cons,foldl_lcm_dvd bs,Nat.lcm_dvd_iff]
  simp only [List.mem_cons,forall_eq_or_imp,and_assoc]
theorem lcmL_dvd {bs:List Nat} {m:Nat} : lcmL bs ∣ m ↔ ∀ b ∈ bs,b ∣ m:=by
 unfold lcmL
 rw [foldl_lcm_dvd]
 simp
theorem dvd_lcmL {bs:List Nat} {b:Nat} (h:b ∈ bs):b ∣ lcmL bs:=lcmL_dvd.mp (Nat.dvd_refl _) b h
theorem foldl_lcm_pos:∀ (bs:List Nat) (a:Nat),0 < a→(∀ b ∈ bs,0 < b)→0 < bs.foldl Nat.lcm a
 | [],a,h,_=>h
 | b :: bs,a,h,hb=>foldl_lcm_pos bs _ (Nat.lcm_pos h (hb b List.mem_cons_self)) fun c hc=>hb c (List.mem_cons_of_mem _ hc)
theorem lcmL_pos {bs:List Nat} (h:∀ b ∈ bs,0 < b):0 < lcmL bs:=foldl_lcm_pos bs 1 (by decide) h
end Lv
set_option linter.all false
set_option maxRecDepth 100000
namespace Ac
def lw (t b:Int):Int × Int:=(t / (Int.gcd t b:Nat),b / (Int.gcd t b:Nat))
theorem gpos {t b:Int} (hb:0 < b):(0:Int) < (Int.gcd t b:Nat):=by
 have:=Int.gcd_pos_of_ne_zero_right t (show b ≠ 0 by omega)
 omega
theorem lw_pos {t b:Int} (hb:0 < b):0 < (lw t b).2:=Int.ediv_pos_of_pos_of_dvd hb (Int.le_of_lt (gpos hb)) (Int.gcd_dvd_right t b)
theorem lw_gcd {t b:Int} (hb:0 < b):Int.gcd (lw t b).1 (lw t b).2 = 1:=Int.gcd_ediv_gcd_ediv_gcd (by have:=gpos (t:=t) hb; omega)
theorem lw_eq {t b:Int} (hb:0 < b):(lw t b).1 * b = t * (lw t b).2:=by
 have d1:=Int.gcd_dvd_left t b
 have d2:=Int.gcd_dvd_right t b
 have g0:=gpos (t:=t) hb
 unfold lw
 generalize hg:((Int.gcd t b:Nat):Int) = g at *
 obtain ⟨x,rfl⟩:=d1
 obtain ⟨y,rfl⟩:=d2
 show g * x / g * (g * y) = g * x * (g * y / g)
 rw [Int.mul_ediv_cancel_left _ (by omega),Int.mul_ediv_cancel_left _ (by omega),Int.mul_left_comm,Int.mul_assoc]
theorem lw_b1 (t b:Int):(lw t b).1.natAbs ≤ t.natAbs:=Int.natAbs_ediv_le_natAbs _ _
theorem lw_b2 (t b:Int):(lw t b).2.natAbs ≤ b.natAbs:=Int.natAbs_ediv_le_natAbs _ _
theorem dvd_cop {a b c:Int} (h:a ∣ b * c) (g:Int.gcd a b = 1):a ∣ c:=by
 refine Int.natAbs_dvd_natAbs.mp ((show Nat.Coprime a.natAbs b.natAbs from g).dvd_of_dvd_mul_left ?_)
 rw [← Int.natAbs_mul]
 exact Int.natAbs_dvd_natAbs.mpr h
theorem uniq {x y u v:Int} (hy:0 < y) (hv:0 < v) (g1:Int.gcd x y = 1) (g2:Int.gcd u v = 1) (e:x * v = u * y):x = u∧y = v:=by
 have d1:y ∣ v:=by
  have h:y ∣ x * v:=⟨u,by rw [e,Int.mul_comm]⟩
  exact dvd_cop h (by rw [Int.gcd_comm]; exact g1)
 have d2:v ∣ y:=by
  have h:v ∣ u * y:=⟨x,by rw [← e,Int.mul_comm]⟩
  exact dvd_cop h (by rw [Int.gcd_comm]; exact g2)
 have e2:y = v:=Int.dvd_antisymm (by omega) (by omega) d1 d2
 subst e2
 exact ⟨Int.eq_of_mul_eq_mul_right (by omega) e,rfl⟩
theorem is_lw {t b x y:Int} (hb:0 < b) (hy:0 < y) (g:Int.gcd x y = 1) (e:x * b = t * y):x = (lw t b).1∧y = (lw t b).2:=by
 refine uniq hy (lw_pos hb) g (lw_gcd hb) ?_
 have h:=lw_eq (t:=t) hb
 have h1:x * (lw t b).2 * b = (lw t b).1 * y * b:=by
  rw [Int.mul_right_comm,e,Int.mul_right_comm _ y b,h,Int.mul_right_comm]
 exact Int.eq_of_mul_eq_mul_right (by omega) h1
theorem lw_add {W x S z o:Int} (hS:0 < S) (ho:0 < o) (g:Int.gcd z o = 1) (e:z * ((lw W S).2 * (lw x S).2) = ((lw W S).1 * (lw x S).2 + (lw x S).1 * (lw W S).2) * o):z = (lw (W + x) S).1∧o = (lw (W + x) S).2:=by
  refine is_lw hS ho g ?_
  have h1:=lw_eq (t:=W) hS
  have h2:=lw_eq (t:=x) hS
  have p1:=lw_pos (t:=W) hS
  have p2:=lw_pos (t:=x) hS
  generalize (lw W S).1 = a at *
  generalize (lw W S).2 = b at *
  generalize (lw x S).1 = c at *
  generalize (lw x S).2 = d at *
  have key:z * S * (b * d) = (W + x) * o * (b * d):=by
    calc z * S * (b * d) = z * (b * d) * S:=by rw [Int.mul_right_comm]
      _ = (a * d + c * b) * o * S:=by rw [e]
      _ = (a * S * d + c * S * b) * o:=by
        rw [Int.mul_right_comm,Int.add_mul,Int.mul_right_comm a d S,Int.mul_right_comm c b S]
      _ = (W * b * d + x * d * b) * o:=by rw [h1,h2]
      _ = (W + x) * o * (b * d):=by
        rw [Int.mul_assoc W,Int.mul_assoc x,Int.mul_comm d b,← Int.add_mul,Int.mul_right_comm]
  exact Int.eq_of_mul_eq_mul_right (Int.ne_of_gt (Int.mul_pos p1 p2)) key
theorem lw_rest {x S z o:Int} (hS:0 < S) (ho:0 < o) (g:Int.gcd z o = 1) (e:z * (1 * (lw x S).2) = (1 * (lw x S).2 - (lw x S).1 * 1) * o):z = (lw (S - x) S).1∧o = (lw (S - x) S).2:=by
  refine is_lw hS ho g ?_
  have h2:=lw_eq (t:=x) hS
  have p2:=lw_pos (t:=x) hS
  generalize (lw x S).1 = c at *
  generalize (lw x S).2 = d at *
  rw [Int.one_mul,Int.mul_one] at e
  have key:z * S * d = (S - x) * o * d:=by
    calc z * S * d = z * d * S:=by rw [Int.mul_right_comm]
      _ = (d - c) * o * S:=by rw [e]
      _ = (d * S - c * S) * o:=by rw [Int.mul_right_comm,Int.sub_mul]
      _ = (d * S - x * d) * o:=by rw [h2]
      _ = (S - x) * o * d:=by rw [Int.mul_comm d S,← Int.sub_mul,Int.mul_right_comm]
  exact Int.eq_of_mul_eq_mul_right (Int.ne_of_gt p2) key
theorem lw_nought {t b:Int} (hb:0 < b):((lw t b).1 = 0∧(lw t b).2 = 1) ↔ t = 0:=by
 have h:=lw_eq (t:=t) hb
 have p:=lw_pos (t:=t) hb
 constructor
 ·rintro ⟨h1,h2⟩
  rw [h1,h2] at h
  omega
 ·rintro rfl
  have g:=lw_gcd (t:=0) hb
  rw [Int.zero_mul] at h
  have h0:(lw 0 b).1 = 0:=by
   rcases Int.mul_eq_zero.mp h with z | z
   ·exact z
   ·omega
  rw [h0,Int.gcd_zero_left] at g
  exact ⟨h0,by omega⟩
theorem lw_lo {t b:Int} (hb:0 < b) (ht:0 ≤ t):0 ≤ (lw t b).1:=Int.ediv_nonneg ht (Int.le_of_lt (gpos hb))
theorem lw_hi {t b:Int} (hb:0 < b) (ht:t ≤ b):(lw t b).1 ≤ (lw t b).2:=Int.ediv_le_ediv (gpos hb) ht
theorem lw_one {b:Int} (hb:0 < b):(lw 1 b).1 = 1∧(lw 1 b).2 = b:=by
 have:=is_lw (t:=1) (b:=b) (x:=1) (y:=b) hb hb (by rw [Int.gcd_comm]; simp) (by rw [Int.mul_comm])
 exact ⟨this.1.symm,this.2.symm⟩
section
variable {κ:Type} [DecidableEq κ]
def look (acc:List (κ × Int)) (r:κ):Int:=((acc.find? fun g=>decide (g.1 = r)).map (·.2)).getD 0
def put (acc:List (κ × Int)) (r:κ) (y:Int):List (κ × Int):=if (acc.any fun g=>decide (g.1 = r)) = true then acc.map (fun g=>if g.1 = r then (g.1,y) else g) else acc ++ [(r,y)]
def accs (gs:List (κ × Int)):List (κ × Int):=gs.foldl (fun a g=>put a g.1 (look a g.1 + g.2)) []
theorem accs_snoc (gs:List (κ × Int)) (g:κ × Int):accs (gs ++ [g]) = put (accs gs) g.1 (look (accs gs) g.1 + g.2):=by
 unfold accs
 rw [List.foldl_append]; rfl
theorem put_len (acc:List (κ × Int)) (r:κ) (y:Int):(put acc r y).length ≤ acc.length + 1:=by
 unfold put
 split
 ·rw [List.length_map]; omega
 ·rw [List.length_append]; simp
theorem put_nd {acc:List (κ × Int)} (h:(acc.map (·.1)).Nodup) (r:κ) (y:Int):((put acc r y).map (·.1)).Nodup:=by
 unfold put
 split
 ·have e:(acc.map (fun g=>if g.1 = r then (g.1,y) else g)).map (·.1) = acc.map (·.1):=by
   rw [List.map_map]
   refine List.map_congr_left fun g _=>?_
   show (if g.1 = r then (g.1,y) else g).1 = g.1
   split <;> rfl
  rw [e]; exact h
 ·rename_i hn
  rw [List.map_append]
  refine List.nodup_append.mpr ⟨h,by simp,?_⟩
  intro a ha b hb e
  subst e
  simp only [List.map_cons,List.map_nil,List.mem_singleton] at hb
  subst hb
  obtain ⟨g,hg,e⟩:=List.mem_map.mp ha
  exact hn (List.any_eq_true.mpr ⟨g,hg,decide_eq_true e⟩)
theorem look_mem (acc:List (κ × Int)) (r:κ):look acc r = 0∨∃ g ∈ acc,look acc r = g.2:=by
 unfold look
 cases h:acc.find? fun g=>decide (g.1 = r) with
 | none=>exact .inl rfl
 | some g=>exact .inr ⟨g,List.mem_of_find?_eq_some h,rfl⟩
theorem put_mem {acc:List (κ × Int)} {r:κ} {y:Int} {g:κ × Int} (h:g ∈ put acc r y):g.2 = y∨g ∈ acc:=by
 unfold put at h
 split at h
 ·obtain ⟨g',hg,e⟩:=List.mem_map.mp h
  split at e
  ·subst e; exact .inl rfl
  ·subst e; exact .inr hg
 ·rcases List.mem_append.mp h with h | h
  ·exact .inr h
  ·rw [List.mem_singleton.mp h]; exact .inl rfl
theorem accs_all (gs:List (κ × Int)):(∀ g ∈ gs,0 ≤ g.2)→((accs gs).map (·.1)).Nodup∧(accs gs).length ≤ gs.length∧∀ g ∈ accs gs,0 ≤ g.2∧g.2 ≤ (gs.map (·.2)).sum:=by
 suffices H:∀ (n:Nat) (gs:List (κ × Int)),gs.length = n→(∀ g ∈ gs,0 ≤ g.2)→((accs gs).map (·.1)).Nodup∧(accs gs).length ≤ gs.length∧(0 ≤ (gs.map (·.2)).sum)∧∀ g ∈ accs gs,0 ≤ g.2∧g.2 ≤ (gs.map (·.2)).sum from fun h=>let ⟨a,b,_,c⟩:=H _ gs rfl h; ⟨a,b,c⟩
 intro n
 induction n with
 | zero =>
  intro gs h _
  rw [List.eq_nil_of_length_eq_zero h]
  exact ⟨by simp [accs],by simp [accs],by simp,by simp [accs]⟩
 | succ n ih =>
  intro gs h hp
  obtain ⟨gs',g,rfl⟩ : ∃ gs' g,gs = gs' ++ [g]:=⟨gs.dropLast,gs.getLast (by intro e; rw [e] at h; cases h),(List.dropLast_concat_getLast _).symm⟩
  have hl:gs'.length = n:=by rw [List.length_append] at h; simpa using h
  obtain ⟨h1,h2,h3,h4⟩:=ih gs' hl fun g hg=>hp g (List.mem_append_left _ hg)
  have hg:=hp g (List.mem_append_right _ (by simp))
  rw [accs_snoc]
  have hs:((gs' ++ [g]).map (·.2)).sum = (gs'.map (·.2)).sum + g.2:=by simp
  rw [hs]
  have lk:0 ≤ look (accs gs') g.1∧look (accs gs') g.1 ≤ (gs'.map (·.2)).sum:=by
   rcases look_mem (accs gs') g.1 with e | ⟨u,hu,e⟩
   ·rw [e]; exact ⟨Int.le_refl _,h3⟩
   ·rw [e]; exact h4 u hu
  refine ⟨put_nd h1 _ _,?_,by omega,fun u hu=>?_⟩
  ·have:=put_len (accs gs') g.1 (look (accs gs') g.1 + g.2)
   rw [List.length_append]
   simp only [List.length_cons,List.length_nil]
   omega
  ·rcases put_mem hu with e | hu
   ·rw [e]; omega
   ·have:=h4 u hu
    omega
theorem put_key {acc:List (κ × Int)} {r:κ} {y:Int} {g:κ × Int} (h:g ∈ put acc r y):g.1 = r∨g.1 ∈ acc.map (·.1):=by
 unfold put at h
 split at h
 ·obtain ⟨g',hg,e⟩:=List.mem_map.mp h
  split at e
  ·subst e; exact .inr (List.mem_map.mpr ⟨g',hg,rfl⟩)
  ·subst e; exact .inr (List.mem_map.mpr ⟨_,hg,rfl⟩)
 ·rcases List.mem_append.mp h with h | h
  ·exact .inr (List.mem_map.mpr ⟨_,h,rfl⟩)
  ·rw [List.mem_singleton.mp h]; exact .inl rfl
theorem accs_key (gs:List (κ × Int)):∀ g ∈ accs gs,g.1 ∈ gs.map (·.1):=by
 suffices H:∀ (n:Nat) (gs:List (κ × Int)),gs.length = n→∀ g ∈ accs gs,g.1 ∈ gs.map (·.1) from H _ gs rfl
 intro n
 induction n with
 | zero =>
  intro gs h g hg
  rw [List.eq_nil_of_length_eq_zero h] at hg
  simp [accs] at hg
 | succ n ih =>
  intro gs h u hu
  obtain ⟨gs',g,rfl⟩ : ∃ gs' g,gs = gs' ++ [g]:=⟨gs.dropLast,gs.getLast (by intro e; rw [e] at h; cases h),(List.dropLast_concat_getLast _).symm⟩
  have hl:gs'.length = n:=by rw [List.length_append] at h; simpa using h
  rw [accs_snoc] at hu
  rw [List.map_append]
  rcases put_key hu with e | e
  ·rw [e]; exact List.mem_append_right _ (by simp)
  ·obtain ⟨v,hv,e⟩:=List.mem_map.mp e
   rw [← e]
   exact List.mem_append_left _ (ih gs' hl v hv)
def ways (gs:List (κ × Int)) (S:Int):List (κ × Int × Int):=((accs gs).filter fun g=>decide (0 < g.2)).map fun g=>(g.1,lw g.2 S)
theorem ways_len {gs:List (κ × Int)} (h:∀ g ∈ gs,0 ≤ g.2) (S:Int):(ways gs S).length ≤ gs.length:=by
 unfold ways
 rw [List.length_map]
 exact Nat.le_trans (List.length_filter_le _ _) (accs_all gs h).2.1
theorem ways_key {gs:List (κ × Int)} {S:Int} {g:κ × Int × Int} (h:g ∈ ways gs S):g.1 ∈ gs.map (·.1):=by
 unfold ways at h
 obtain ⟨u,hu,rfl⟩:=List.mem_map.mp h
 exact accs_key gs u (List.mem_filter.mp hu).1
theorem ways_one {r:κ} : ways [(r,(1:Int))] 1 = [(r,(1,1))]:=by
 simp [ways,accs,put,look,lw]
end
end Ac
set_option Elab.async false
set_option linter.all false
set_option maxRecDepth 100000
set_option maxHeartbeats 4000000
namespace K30
open PySem PyProof.Rows L2
local macro_rules | `(tactic| walk_at "rd")=>`(tactic| simp only [tSeq,tIfS,tRet,tRetN,tOp,tUn,rU,rIxTH,rIxLH,rCat,tSl,tVar,tC,tPart,rI0,rI,rSlL,tLst,tTup,tCons,tNil,tCB,tCallF,tTest,tNot,tOr,tAnd,tNotV,tAndV,tOrV,tTru,tAsg,tPar,gName,gNil,gCons,gTupH,gLstH,rLenT,rLenL,rIsi,rSrtH,tyS_non,tyS_bl,tyS_int,tyS_str,subS,truB,rEq,rNe,scal,tNext,tDrop,tCallX,tDisp1,tRaise,tTryAs,rIsiN,rIsiT,rIsB,rEqH,Ends.unset,tApp,tClr,rListH,gSub,rSetL,rIxL,rEqR,rSumH,rMaxH,rMinH,tRev,tSM,tDispS,tMakeI,tMethI,tFld,sFld,tDGet,tDGet2,tDIn,tDNotIn,tDNewK,sDPut,rIsiC,rJoin,rMin2,rMax2,tB,rIxT,gTup,rEqK,rIsiTup,rLenK,rAddS,rLeS,rInS,rIntT,rAllH,rStarts,rFind,rSplit,rMulS,tChain,rSlS,rIxS,tNoPart,V.str.injEq,
 L2.start,List.replicate_succ,List.replicate_zero,Nat.reduceSub,Nat.reduceAdd,List.map_cons,List.map_nil,List.length_cons,List.length_nil,List.cons_append,List.nil_append,List.append_nil,List.getElem?_cons_zero,List.getElem?_cons_succ,List.set_cons_zero,List.set_cons_succ,List.set_nil,Option.some.injEq,exists_eq_left',exists_eq_left,exists_and_left,exists_and_right,exists_eq_right,exists_eq,exists_eq',and_assoc,V.int.injEq,V.ref.injEq,V.bl.injEq,V.ty.injEq,List.cons.injEq,HO.tup.injEq,HO.lst.injEq,and_true,true_and,reduceCtorEq,atI_0,atI_1,upd_same,decide_true,decide_false,Bool.not_true,Bool.not_false,if_true,if_false,ite_true,ite_false,Bool.false_eq_true,List.mem_cons,String.reduceEq,or_true,true_or,or_false,false_or,beq_self_eq_true,Bool.or_true,Bool.true_or,Bool.or_false,Bool.false_or,Bool.and_true,Bool.and_false,Bool.true_and,Bool.false_and,String.reduceBEq,Int.reduceToNat,Int.reducePow,Int.reduceMul,Int.reduceSub,Int.reduceAdd,Int.reduceNeg,Int.reduceLE,Int.reduceLT,Int.reduceEq,ne_eq,not_false_eq_true,not_true_eq_false,Int.cast_ofNat_Int])
open PySem.NumText
abbrev s__wall:Stmt:=top 0
abbrev ps__wall:List Str:=["k"]
abbrev nm__wall:Str := "_wall"
abbrev s_is_whole:Stmt:=top 9
abbrev ps_is_whole:List Str:=["thing"]
abbrev nm_is_whole:Str := "is_whole"
theorem sc_is_whole:FnScope ["thing"] ps_is_whole (defScope s_is_whole):=⟨rfl,rfl,rfl,by decide +kernel,rfl,by decide +kernel,by decide +kernel⟩
abbrev s_divisor:Stmt:=top 10
abbrev ps_divisor:List Str:=["one", "other"]
abbrev nm_divisor:Str := "divisor"
theorem sc_divisor:FnScope ["one", "other", "left", "right", "rest"] ps_divisor (defScope s_divisor):=⟨rfl,rfl,rfl,by decide +kernel,rfl,by decide +kernel,by decide +kernel⟩
abbrev s_ratio:Stmt:=top 14
abbrev ps_ratio:List Str:=["top", "bottom"]
abbrev nm_ratio:Str := "ratio"
theorem sc_ratio:FnScope ["top", "bottom", "common"] ps_ratio (defScope s_ratio):=⟨rfl,rfl,rfl,by decide +kernel,rfl,by decide +kernel,by decide +kernel⟩
abbrev s_is_ratio:Stmt:=top 15
abbrev ps_is_ratio:List Str:=["thing"]
abbrev nm_is_ratio:Str := "is_ratio"
theorem sc_is_ratio:FnScope ["thing", "top", "bottom"] ps_is_ratio (defScope s_is_ratio):=⟨rfl,rfl,rfl,by decide +kernel,rfl,by decide +kernel,by decide +kernel⟩
abbrev s_plus:Stmt:=top 16
abbrev ps_plus:List Str:=["one", "other"]
abbrev nm_plus:Str := "plus"
theorem sc_plus:FnScope ["one", "other"] ps_plus (defScope s_plus):=⟨rfl,rfl,rfl,by decide +kernel,rfl,by decide +kernel,by decide +kernel⟩
abbrev s_minus:Stmt:=top 17
abbrev ps_minus:List Str:=["one", "other"]
abbrev nm_minus:Str := "minus"
theorem sc_minus:FnScope ["one", "other"] ps_minus (defScope s_minus):=⟨rfl,rfl,rfl,by decide +kernel,rfl,by decide +kernel,by decide +kernel⟩
abbrev s_under:Stmt:=top 18
abbrev ps_under:List Str:=["one", "other"]
abbrev nm_under:Str := "under"
theorem sc_under:FnScope ["one", "other"] ps_under (defScope s_under):=⟨rfl,rfl,rfl,by decide +kernel,rfl,by decide +kernel,by decide +kernel⟩
abbrev s_level:Stmt:=top 20
abbrev ps_level:List Str:=["fractions"]
abbrev nm_level:Str := "level"
theorem sc_level:FnScope ["fractions", "bottom", "one"] ps_level (defScope s_level):=⟨rfl,rfl,rfl,by decide +kernel,rfl,by decide +kernel,by decide +kernel⟩
abbrev s_total:Stmt:=top 21
abbrev ps_total:List Str:=["fractions"]
abbrev nm_total:Str := "total"
theorem sc_total:FnScope ["fractions", "leveled"] ps_total (defScope s_total):=⟨rfl,rfl,rfl,by decide +kernel,rfl,by decide +kernel,by decide +kernel⟩
abbrev s_wait_of:Stmt:=top 23
abbrev ps_wait_of:List Str:=["hall"]
abbrev nm_wait_of:Str := "wait_of"
theorem sc_wait_of:FnScope ["hall", "top", "bottom", "many", "tops", "bottoms"] ps_wait_of (defScope s_wait_of):=⟨rfl,rfl,rfl,by decide +kernel,rfl,by decide +kernel,by decide +kernel⟩
abbrev s_most_mendings:Stmt:=top 24
abbrev ps_most_mendings:List Str:=["hall"]
abbrev nm_most_mendings:Str := "most_mendings"
theorem sc_most_mendings:FnScope ["hall", "doors"] ps_most_mendings (defScope s_most_mendings):=⟨rfl,rfl,rfl,by decide +kernel,rfl,by decide +kernel,by decide +kernel⟩
abbrev s_is_word:Stmt:=top 27
abbrev ps_is_word:List Str:=["thing"]
abbrev nm_is_word:Str := "is_word"
theorem sc_is_word:FnScope ["thing"] ps_is_word (defScope s_is_word):=⟨rfl,rfl,rfl,by decide +kernel,rfl,by decide +kernel,by decide +kernel⟩
abbrev s_check_head:Stmt:=top 29
abbrev ps_check_head:List Str:=["name", "pay"]
abbrev nm_check_head:Str := "check_head"
theorem sc_check_head:FnScope ["name", "pay"] ps_check_head (defScope s_check_head):=⟨rfl,rfl,rfl,by decide +kernel,rfl,by decide +kernel,by decide +kernel⟩
abbrev s_check_room_name:Stmt:=top 30
abbrev ps_check_room_name:List Str:=["room"]
abbrev nm_check_room_name:Str := "check_room_name"
theorem sc_check_room_name:FnScope ["room"] ps_check_room_name (defScope s_check_room_name):=⟨rfl,rfl,rfl,by decide +kernel,rfl,by decide +kernel,by decide +kernel⟩
abbrev s_check_chance:Stmt:=top 31
abbrev ps_check_chance:List Str:=["chance"]
abbrev nm_check_chance:Str := "check_chance"
theorem sc_check_chance:FnScope ["chance"] ps_check_chance (defScope s_check_chance):=⟨rfl,rfl,rfl,by decide +kernel,rfl,by decide +kernel,by decide +kernel⟩
abbrev s_check_pairs:Stmt:=top 32
abbrev ps_check_pairs:List Str:=["pairs"]
abbrev nm_check_pairs:Str := "check_pairs"
theorem sc_check_pairs:FnScope ["pairs", "room", "chance"] ps_check_pairs (defScope s_check_pairs):=⟨rfl,rfl,rfl,by decide +kernel,rfl,by decide +kernel,by decide +kernel⟩
abbrev s_joined_ways:Stmt:=top 33
abbrev ps_joined_ways:List Str:=["pairs"]
abbrev nm_joined_ways:Str := "joined_ways"
theorem sc_joined_ways:FnScope ["pairs", "chances", "room", "chance"] ps_joined_ways (defScope s_joined_ways):=⟨rfl,rfl,rfl,by decide +kernel,rfl,by decide +kernel,by decide +kernel⟩
abbrev s_check_share:Stmt:=top 40
abbrev ps_check_share:List Str:=["share"]
abbrev nm_check_share:Str := "check_share"
theorem sc_check_share:FnScope ["share"] ps_check_share (defScope s_check_share):=⟨rfl,rfl,rfl,by decide +kernel,rfl,by decide +kernel,by decide +kernel⟩
abbrev s_numbers_of:Stmt:=top 41
abbrev ps_numbers_of:List Str:=["rooms"]
abbrev nm_numbers_of:Str := "numbers_of"
theorem sc_numbers_of:FnScope ["rooms", "numbers", "room", "name"] ps_numbers_of (defScope s_numbers_of):=⟨rfl,rfl,rfl,by decide +kernel,rfl,by decide +kernel,by decide +kernel⟩
abbrev s_numbered_ways:Stmt:=top 42
abbrev ps_numbered_ways:List Str:=["door", "numbers"]
abbrev nm_numbered_ways:Str := "numbered_ways"
theorem sc_numbered_ways:FnScope ["door", "numbers", "numbered", "name", "chance"] ps_numbered_ways (defScope s_numbered_ways):=⟨rfl,rfl,rfl,by decide +kernel,rfl,by decide +kernel,by decide +kernel⟩
abbrev s_offers_of:Stmt:=top 43
abbrev ps_offers_of:List Str:=["doors", "numbers"]
abbrev nm_offers_of:Str := "offers_of"
theorem sc_offers_of:FnScope ["doors", "numbers", "taken", "told", "door"] ps_offers_of (defScope s_offers_of):=⟨rfl,rfl,rfl,by decide +kernel,rfl,by decide +kernel,by decide +kernel⟩
abbrev s_cell:Stmt:=top 46
abbrev ps_cell:List Str:=["_law_script", "_law_k"]
abbrev nm_cell:Str := "_law_cell"
theorem sc_cell:FnScope ["_law_script", "_law_k"] ps_cell (defScope s_cell):=⟨rfl,rfl,rfl,by decide +kernel,rfl,by decide +kernel,by decide +kernel⟩
abbrev s_stream:Stmt:=top 47
abbrev ps_stream:List Str:=["_law_cell_here", "_law_many"]
abbrev nm_stream:Str := "_law_stream"
theorem sc_stream:FnScope ["_law_cell_here", "_law_many", "_law_found", "_law_number", "_law_digits", "_law_k"] ps_stream (defScope s_stream):=⟨rfl,rfl,rfl,by decide +kernel,rfl,by decide +kernel,by decide +kernel⟩
abbrev s_gcd:Stmt:=top 48
abbrev ps_gcd:List Str:=["_law_one", "_law_other"]
abbrev nm_gcd:Str := "_law_gcd"
theorem sc_gcd:FnScope ["_law_one", "_law_other", "_law_low", "_law_high"] ps_gcd (defScope s_gcd):=⟨rfl,rfl,rfl,by decide +kernel,rfl,by decide +kernel,by decide +kernel⟩
abbrev s_lratio:Stmt:=top 49
abbrev ps_lratio:List Str:=["_law_top", "_law_bottom"]
abbrev nm_lratio:Str := "_law_ratio"
theorem sc_lratio:FnScope ["_law_top", "_law_bottom", "_law_common"] ps_lratio (defScope s_lratio):=⟨rfl,rfl,rfl,by decide +kernel,rfl,by decide +kernel,by decide +kernel⟩
abbrev s_names:Stmt:=top 50
abbrev ps_names:List Str:=["_law_cell_here", "_law_many"]
abbrev nm_names:Str := "_law_names"
theorem sc_names:FnScope ["_law_cell_here", "_law_many", "_law_letters", "_law_xs", "_law_base", "_law_at", "_law_step"] ps_names (defScope s_names):=⟨rfl,rfl,rfl,by decide +kernel,rfl,by decide +kernel,by decide +kernel⟩
abbrev s_pay:Stmt:=top 52
abbrev ps_pay:List Str:=["_law_cell_here", "_law_x", "_law_y"]
abbrev nm_pay:Str := "_law_pay"
theorem sc_pay:FnScope ["_law_cell_here", "_law_x", "_law_y"] ps_pay (defScope s_pay):=⟨rfl,rfl,rfl,by decide +kernel,rfl,by decide +kernel,by decide +kernel⟩
abbrev s_door:Stmt:=top 53
abbrev ps_door:List Str:=["_law_cell_here", "_law_many"]
abbrev nm_door:Str := "_law_door"
theorem sc_door:FnScope ["_law_cell_here", "_law_many", "_law_xs", "_law_rooms", "_law_sort", "_law_pairs", "_law_bottom", "_law_part", "_law_weights"] ps_door (defScope s_door):=⟨rfl,rfl,rfl,by decide +kernel,rfl,by decide +kernel,by decide +kernel⟩
abbrev s_doors:Stmt:=top 54
abbrev ps_doors:List Str:=["_law_script", "_law_at", "_law_many", "_law_most"]
abbrev nm_doors:Str := "_law_doors"
theorem sc_doors:FnScope ["_law_script", "_law_at", "_law_many", "_law_most", "_law_rooms", "_law_first", "_law_cells", "_law_cell_here", "_law_room", "_law_door_here"] ps_doors (defScope s_doors):=⟨rfl,rfl,rfl,by decide +kernel,rfl,by decide +kernel,by decide +kernel⟩
abbrev s_built:Stmt:=top 55
abbrev ps_built:List Str:=["_law_title", "_law_door_here", "_law_names_here"]
abbrev nm_built:Str := "_law_built"
theorem sc_built:FnScope ["_law_title", "_law_door_here", "_law_names_here", "_law_told", "_law_sort", "_law_pay_here", "_law_pairs"] ps_built (defScope s_built):=⟨rfl,rfl,rfl,by decide +kernel,rfl,by decide +kernel,by decide +kernel⟩
abbrev s_hall:Stmt:=top 56
abbrev ps_hall:List Str:=["_law_cell_here", "_law_share_here", "_law_rooms"]
abbrev nm_hall:Str := "_law_hall"
theorem sc_hall:FnScope ["_law_cell_here", "_law_share_here", "_law_rooms", "_law_names_here", "_law_found", "_law_k", "_law_titles"] ps_hall (defScope s_hall):=⟨rfl,rfl,rfl,by decide +kernel,rfl,by decide +kernel,by decide +kernel⟩
abbrev s_size:Stmt:=top 58
abbrev ps_size:List Str:=["_law_cell_here"]
abbrev nm_size:Str := "_law_size"
theorem sc_size:FnScope ["_law_cell_here", "_law_xs"] ps_size (defScope s_size):=⟨rfl,rfl,rfl,by decide +kernel,rfl,by decide +kernel,by decide +kernel⟩
abbrev s_whole:Stmt:=top 59
abbrev ps_whole:List Str:=["_law_found"]
abbrev nm_whole:Str := "_law_whole"
theorem sc_whole:FnScope ["_law_found"] ps_whole (defScope s_whole):=⟨rfl,rfl,rfl,by decide +kernel,rfl,by decide +kernel,by decide +kernel⟩
abbrev s_least:Stmt:=top 60
abbrev ps_least:List Str:=["_law_share_here", "_law_many"]
abbrev nm_least:Str := "_law_least"
theorem sc_least:FnScope ["_law_share_here", "_law_many", "_law_high", "_law_low", "_law_k", "_law_top", "_law_bottom"] ps_least (defScope s_least):=⟨rfl,rfl,rfl,by decide +kernel,rfl,by decide +kernel,by decide +kernel⟩
abbrev s_law:Stmt:=top 61
abbrev ps_law:List Str:=["_law_script"]
abbrev nm_law:Str := "law"
theorem sc_law:FnScope ["_law_script", "_law_bottom", "_law_share_here", "_law_rooms", "_law_hall_here", "_law_many", "_law_doors_here", "_law_found"] ps_law (defScope s_law):=⟨rfl,rfl,rfl,by decide +kernel,rfl,by decide +kernel,by decide +kernel⟩
abbrev s_Door_init:Stmt:=mtop 34 0
abbrev ps_Door_init:List Str:=["self", "name", "pay"]
abbrev nm_Door_init:Str := "__init__"
abbrev qn_Door_init:Str := "Door.__init__"
theorem sc_Door_init:FnScope ["self", "name", "pay"] ps_Door_init (defScope s_Door_init):=⟨rfl,rfl,rfl,by decide +kernel,rfl,by decide +kernel,by decide +kernel⟩
abbrev s_Door_ways:Stmt:=mtop 34 1
abbrev ps_Door_ways:List Str:=["self"]
abbrev nm_Door_ways:Str := "ways"
abbrev qn_Door_ways:Str := "Door.ways"
theorem sc_Door_ways:FnScope ["self"] ps_Door_ways (defScope s_Door_ways):=⟨rfl,rfl,rfl,by decide +kernel,rfl,by decide +kernel,by decide +kernel⟩
abbrev s_Door_chance_to:Stmt:=mtop 34 2
abbrev ps_Door_chance_to:List Str:=["self", "room"]
abbrev nm_Door_chance_to:Str := "chance_to"
abbrev qn_Door_chance_to:Str := "Door.chance_to"
abbrev s_Sure_init:Stmt:=mtop 35 0
abbrev ps_Sure_init:List Str:=["self", "name", "pay", "room"]
abbrev nm_Sure_init:Str := "__init__"
abbrev qn_Sure_init:Str := "Sure.__init__"
theorem sc_Sure_init:FnScope ["self", "name", "pay", "room"] ps_Sure_init (defScope s_Sure_init):=⟨rfl,rfl,rfl,by decide +kernel,rfl,by decide +kernel,by decide +kernel⟩
abbrev s_Mixed_init:Stmt:=mtop 36 0
abbrev ps_Mixed_init:List Str:=["self", "name", "pay", "pairs"]
abbrev nm_Mixed_init:Str := "__init__"
abbrev qn_Mixed_init:Str := "Mixed.__init__"
theorem sc_Mixed_init:FnScope ["self", "name", "pay", "pairs"] ps_Mixed_init (defScope s_Mixed_init):=⟨rfl,rfl,rfl,by decide +kernel,rfl,by decide +kernel,by decide +kernel⟩
abbrev s_Toss_init:Stmt:=mtop 37 0
abbrev ps_Toss_init:List Str:=["self", "name", "pay", "chance", "room", "other"]
abbrev nm_Toss_init:Str := "__init__"
abbrev qn_Toss_init:Str := "Toss.__init__"
theorem sc_Toss_init:FnScope ["self", "name", "pay", "chance", "room", "other"] ps_Toss_init (defScope s_Toss_init):=⟨rfl,rfl,rfl,by decide +kernel,rfl,by decide +kernel,by decide +kernel⟩
abbrev s_Even_init:Stmt:=mtop 38 0
abbrev ps_Even_init:List Str:=["self", "name", "pay", "rooms"]
abbrev nm_Even_init:Str := "__init__"
abbrev qn_Even_init:Str := "Even.__init__"
theorem sc_Even_init:FnScope ["self", "name", "pay", "rooms"] ps_Even_init (defScope s_Even_init):=⟨rfl,rfl,rfl,by decide +kernel,rfl,by decide +kernel,by decide +kernel⟩
abbrev s_Hall_init:Stmt:=mtop 44 0
abbrev ps_Hall_init:List Str:=["self", "share", "rooms"]
abbrev nm_Hall_init:Str := "__init__"
abbrev qn_Hall_init:Str := "Hall.__init__"
theorem sc_Hall_init:FnScope ["self", "share", "rooms"] ps_Hall_init (defScope s_Hall_init):=⟨rfl,rfl,rfl,by decide +kernel,rfl,by decide +kernel,by decide +kernel⟩
abbrev s_Hall_size:Stmt:=mtop 44 1
abbrev ps_Hall_size:List Str:=["self"]
abbrev nm_Hall_size:Str := "size"
abbrev qn_Hall_size:Str := "Hall.size"
theorem sc_Hall_size:FnScope ["self"] ps_Hall_size (defScope s_Hall_size):=⟨rfl,rfl,rfl,by decide +kernel,rfl,by decide +kernel,by decide +kernel⟩
abbrev s_Hall_names:Stmt:=mtop 44 2
abbrev ps_Hall_names:List Str:=["self"]
abbrev nm_Hall_names:Str := "names"
abbrev qn_Hall_names:Str := "Hall.names"
abbrev s_Hall_place:Stmt:=mtop 44 3
abbrev ps_Hall_place:List Str:=["self", "name"]
abbrev nm_Hall_place:Str := "place"
abbrev qn_Hall_place:Str := "Hall.place"
abbrev s_Hall_check_room:Stmt:=mtop 44 4
abbrev ps_Hall_check_room:List Str:=["self", "room"]
abbrev nm_Hall_check_room:Str := "check_room"
abbrev qn_Hall_check_room:Str := "Hall.check_room"
theorem sc_Hall_check_room:FnScope ["self", "room"] ps_Hall_check_room (defScope s_Hall_check_room):=⟨rfl,rfl,rfl,by decide +kernel,rfl,by decide +kernel,by decide +kernel⟩
abbrev s_Hall_door_at:Stmt:=mtop 44 5
abbrev ps_Hall_door_at:List Str:=["self", "room", "name"]
abbrev nm_Hall_door_at:Str := "door_at"
abbrev qn_Hall_door_at:Str := "Hall.door_at"
abbrev s_Hall_offers:Stmt:=mtop 44 6
abbrev ps_Hall_offers:List Str:=["self", "room"]
abbrev nm_Hall_offers:Str := "offers"
abbrev qn_Hall_offers:Str := "Hall.offers"
theorem sc_Hall_offers:FnScope ["self", "room"] ps_Hall_offers (defScope s_Hall_offers):=⟨rfl,rfl,rfl,by decide +kernel,rfl,by decide +kernel,by decide +kernel⟩
structure Adr where
 NoNumber:Addr
 NoName:Addr
 NoChance:Addr
 NoShare:Addr
 NoRoom:Addr
 Door:Addr
 Sure:Addr
 Mixed:Addr
 Toss:Addr
 Even:Addr
 Hall:Addr
 NOUGHT:Addr
 ONE:Addr
 Door_init:Addr
 Door_ways:Addr
 Door_chance_to:Addr
 Sure_init:Addr
 Mixed_init:Addr
 Toss_init:Addr
 Even_init:Addr
 Hall_init:Addr
 Hall_size:Addr
 Hall_names:Addr
 Hall_place:Addr
 Hall_check_room:Addr
 Hall_door_at:Addr
 Hall_offers:Addr
structure Txt (K:PySem.W.Frag) (mg:Str→Option Value) (D:Adr):Prop where
 c_Door:mg "Door" = some (.ref D.Door)
 c_Even:mg "Even" = some (.ref D.Even)
 c_Hall:mg "Hall" = some (.ref D.Hall)
 c_Mixed:mg "Mixed" = some (.ref D.Mixed)
 c_NOUGHT:mg "NOUGHT" = some (.ref D.NOUGHT)
 c_NoChance:mg "NoChance" = some (.ref D.NoChance)
 c_NoName:mg "NoName" = some (.ref D.NoName)
 c_NoNumber:mg "NoNumber" = some (.ref D.NoNumber)
 c_NoRoom:mg "NoRoom" = some (.ref D.NoRoom)
 c_NoShare:mg "NoShare" = some (.ref D.NoShare)
 c_ONE:mg "ONE" = some (.ref D.ONE)
 c_Sure:mg "Sure" = some (.ref D.Sure)
 c_Toss:mg "Toss" = some (.ref D.Toss)
 x_NoChance:ExcC K D.NoChance
 x_NoName:ExcC K D.NoName
 x_NoNumber:ExcC K D.NoNumber
 x_NoShare:ExcC K D.NoShare
 g_LONGEST_WORD:∃ u,mg "LONGEST_WORD" = some u∧RelV (.int 8) u
 kt_NOUGHT:∀ H,SqT K H D.NOUGHT [.int 0,.int 1]
 kt_ONE:∀ H,SqT K H D.ONE [.int 1,.int 1]
 mk_Door:Mk K D.Door D.Door_init
 cls_Door:Cls K D.Door
 in_Door:InsK K D.Door
 mm_Door_chance_to:Meth K D.Door "chance_to" D.Door_chance_to
 mm_Door_ways:Meth K D.Door "ways" D.Door_ways
 no_Door_leads:NoAttr K D.Door "leads"
 no_Door_name:NoAttr K D.Door "name"
 no_Door_numbers:NoAttr K D.Door "numbers"
 no_Door_offered:NoAttr K D.Door "offered"
 no_Door_pay:NoAttr K D.Door "pay"
 no_Door_share:NoAttr K D.Door "share"
 mk_Sure:Mk K D.Sure D.Sure_init
 cls_Sure:Cls K D.Sure
 in_Sure:InsK K D.Sure
 mm_Sure_chance_to:Meth K D.Sure "chance_to" D.Door_chance_to
 mm_Sure_ways:Meth K D.Sure "ways" D.Door_ways
 no_Sure_leads:NoAttr K D.Sure "leads"
 no_Sure_name:NoAttr K D.Sure "name"
 no_Sure_numbers:NoAttr K D.Sure "numbers"
 no_Sure_offered:NoAttr K D.Sure "offered"
 no_Sure_pay:NoAttr K D.Sure "pay"
 no_Sure_share:NoAttr K D.Sure "share"
 mk_Mixed:Mk K D.Mixed D.Mixed_init
 cls_Mixed:Cls K D.Mixed
 in_Mixed:InsK K D.Mixed
 mm_Mixed_chance_to:Meth K D.Mixed "chance_to" D.Door_chance_to
 mm_Mixed_ways:Meth K D.Mixed "ways" D.Door_ways
 no_Mixed_leads:NoAttr K D.Mixed "leads"
 no_Mixed_name:NoAttr K D.Mixed "name"
 no_Mixed_numbers:NoAttr K D.Mixed "numbers"
 no_Mixed_offered:NoAttr K D.Mixed "offered"
 no_Mixed_pay:NoAttr K D.Mixed "pay"
 no_Mixed_share:NoAttr K D.Mixed "share"
 mk_Toss:Mk K D.Toss D.Toss_init
 cls_Toss:Cls K D.Toss
 in_Toss:InsK K D.Toss
 mm_Toss_chance_to:Meth K D.Toss "chance_to" D.Door_chance_to
 mm_Toss_ways:Meth K D.Toss "ways" D.Door_ways
 no_Toss_leads:NoAttr K D.Toss "leads"
 no_Toss_name:NoAttr K D.Toss "name"
 no_Toss_numbers:NoAttr K D.Toss "numbers"
 no_Toss_offered:NoAttr K D.Toss "offered"
 no_Toss_pay:NoAttr K D.Toss "pay"
 no_Toss_share:NoAttr K D.Toss "share"
 mk_Even:Mk K D.Even D.Even_init
 cls_Even:Cls K D.Even
 in_Even:InsK K D.Even
 mm_Even_chance_to:Meth K D.Even "chance_to" D.Door_chance_to
 mm_Even_ways:Meth K D.Even "ways" D.Door_ways
 no_Even_leads:NoAttr K D.Even "leads"
 no_Even_name:NoAttr K D.Even "name"
 no_Even_numbers:NoAttr K D.Even "numbers"
 no_Even_offered:NoAttr K D.Even "offered"
 no_Even_pay:NoAttr K D.Even "pay"
 no_Even_share:NoAttr K D.Even "share"
 mk_Hall:Mk K D.Hall D.Hall_init
 cls_Hall:Cls K D.Hall
 in_Hall:InsK K D.Hall
 mm_Hall_check_room:Meth K D.Hall "check_room" D.Hall_check_room
 mm_Hall_door_at:Meth K D.Hall "door_at" D.Hall_door_at
 mm_Hall_names:Meth K D.Hall "names" D.Hall_names
 mm_Hall_offers:Meth K D.Hall "offers" D.Hall_offers
 mm_Hall_place:Meth K D.Hall "place" D.Hall_place
 mm_Hall_size:Meth K D.Hall "size" D.Hall_size
 no_Hall_leads:NoAttr K D.Hall "leads"
 no_Hall_name:NoAttr K D.Hall "name"
 no_Hall_numbers:NoAttr K D.Hall "numbers"
 no_Hall_offered:NoAttr K D.Hall "offered"
 no_Hall_pay:NoAttr K D.Hall "pay"
 no_Hall_share:NoAttr K D.Hall "share"
 by_Door_init:ByCls K D.Door "__init__" D.Door_init
 fm_Door_init:HasI K nm_Door_init qn_Door_init s_Door_init ps_Door_init D.Door_init
 by_Door_ways:ByCls K D.Door "ways" D.Door_ways
 fm_Door_ways:HasI K nm_Door_ways qn_Door_ways s_Door_ways ps_Door_ways D.Door_ways
 by_Door_chance_to:ByCls K D.Door "chance_to" D.Door_chance_to
 fm_Door_chance_to:HasI K nm_Door_chance_to qn_Door_chance_to s_Door_chance_to ps_Door_chance_to D.Door_chance_to
 by_Sure_init:ByCls K D.Sure "__init__" D.Sure_init
 fm_Sure_init:HasI K nm_Sure_init qn_Sure_init s_Sure_init ps_Sure_init D.Sure_init
 by_Mixed_init:ByCls K D.Mixed "__init__" D.Mixed_init
 fm_Mixed_init:HasI K nm_Mixed_init qn_Mixed_init s_Mixed_init ps_Mixed_init D.Mixed_init
 by_Toss_init:ByCls K D.Toss "__init__" D.Toss_init
 fm_Toss_init:HasI K nm_Toss_init qn_Toss_init s_Toss_init ps_Toss_init D.Toss_init
 by_Even_init:ByCls K D.Even "__init__" D.Even_init
 fm_Even_init:HasI K nm_Even_init qn_Even_init s_Even_init ps_Even_init D.Even_init
 by_Hall_init:ByCls K D.Hall "__init__" D.Hall_init
 fm_Hall_init:HasI K nm_Hall_init qn_Hall_init s_Hall_init ps_Hall_init D.Hall_init
 by_Hall_size:ByCls K D.Hall "size" D.Hall_size
 fm_Hall_size:HasI K nm_Hall_size qn_Hall_size s_Hall_size ps_Hall_size D.Hall_size
 by_Hall_names:ByCls K D.Hall "names" D.Hall_names
 fm_Hall_names:HasI K nm_Hall_names qn_Hall_names s_Hall_names ps_Hall_names D.Hall_names
 by_Hall_place:ByCls K D.Hall "place" D.Hall_place
 fm_Hall_place:HasI K nm_Hall_place qn_Hall_place s_Hall_place ps_Hall_place D.Hall_place
 by_Hall_check_room:ByCls K D.Hall "check_room" D.Hall_check_room
 fm_Hall_check_room:HasI K nm_Hall_check_room qn_Hall_check_room s_Hall_check_room ps_Hall_check_room D.Hall_check_room
 by_Hall_door_at:ByCls K D.Hall "door_at" D.Hall_door_at
 fm_Hall_door_at:HasI K nm_Hall_door_at qn_Hall_door_at s_Hall_door_at ps_Hall_door_at D.Hall_door_at
 by_Hall_offers:ByCls K D.Hall "offers" D.Hall_offers
 fm_Hall_offers:HasI K nm_Hall_offers qn_Hall_offers s_Hall_offers ps_Hall_offers D.Hall_offers
 b_abs:mg "abs" = none
 b_all:mg "all" = none
 b_bool:mg "bool" = none
 b_int:mg "int" = none
 b_isinstance:mg "isinstance" = none
 b_len:mg "len" = none
 b_list:mg "list" = none
 b_range:mg "range" = none
 b_sorted:mg "sorted" = none
 b_str:mg "str" = none
 b_sum:mg "sum" = none
 b_tuple:mg "tuple" = none
 b_zip:mg "zip" = none
 f__wall:HasF K mg nm__wall s__wall ps__wall
 f_is_whole:HasF K mg nm_is_whole s_is_whole ps_is_whole
 f_divisor:HasF K mg nm_divisor s_divisor ps_divisor
 f_ratio:HasF K mg nm_ratio s_ratio ps_ratio
 f_is_ratio:HasF K mg nm_is_ratio s_is_ratio ps_is_ratio
 f_plus:HasF K mg nm_plus s_plus ps_plus
 f_minus:HasF K mg nm_minus s_minus ps_minus
 f_under:HasF K mg nm_under s_under ps_under
 f_level:HasF K mg nm_level s_level ps_level
 f_total:HasF K mg nm_total s_total ps_total
 f_wait_of:HasF K mg nm_wait_of s_wait_of ps_wait_of
 f_most_mendings:HasF K mg nm_most_mendings s_most_mendings ps_most_mendings
 f_is_word:HasF K mg nm_is_word s_is_word ps_is_word
 f_check_head:HasF K mg nm_check_head s_check_head ps_check_head
 f_check_room_name:HasF K mg nm_check_room_name s_check_room_name ps_check_room_name
 f_check_chance:HasF K mg nm_check_chance s_check_chance ps_check_chance
 f_check_pairs:HasF K mg nm_check_pairs s_check_pairs ps_check_pairs
 f_joined_ways:HasF K mg nm_joined_ways s_joined_ways ps_joined_ways
 f_check_share:HasF K mg nm_check_share s_check_share ps_check_share
 f_numbers_of:HasF K mg nm_numbers_of s_numbers_of ps_numbers_of
 f_numbered_ways:HasF K mg nm_numbered_ways s_numbered_ways ps_numbered_ways
 f_offers_of:HasF K mg nm_offers_of s_offers_of ps_offers_of
 f_cell:HasF K mg nm_cell s_cell ps_cell
 f_stream:HasF K mg nm_stream s_stream ps_stream
 f_gcd:HasF K mg nm_gcd s_gcd ps_gcd
 f_lratio:HasF K mg nm_lratio s_lratio ps_lratio
 f_names:HasF K mg nm_names s_names ps_names
 f_pay:HasF K mg nm_pay s_pay ps_pay
 f_door:HasF K mg nm_door s_door ps_door
 f_doors:HasF K mg nm_doors s_doors ps_doors
 f_built:HasF K mg nm_built s_built ps_built
 f_hall:HasF K mg nm_hall s_hall ps_hall
 f_size:HasF K mg nm_size s_size ps_size
 f_whole:HasF K mg nm_whole s_whole ps_whole
 f_least:HasF K mg nm_least s_least ps_least
def Fam (D:Adr) (C:Addr):Prop:=C = D.Door∨C = D.Sure∨C = D.Mixed∨C = D.Toss∨C = D.Even∨C = D.Hall
theorem Txt.cl {K:PySem.W.Frag} {mg:Str→Option Value} {D:Adr} (T:Txt K mg D):∀ C,Fam D C→Cls K C:=by
 rintro C (rfl | rfl | rfl | rfl | rfl | rfl)
 ·exact T.cls_Door
 ·exact T.cls_Sure
 ·exact T.cls_Mixed
 ·exact T.cls_Toss
 ·exact T.cls_Even
 ·exact T.cls_Hall
theorem Txt.no_leads {K:PySem.W.Frag} {mg:Str→Option Value} {D:Adr} (T:Txt K mg D):∀ C,Fam D C→NoAttr K C "leads" := by
 rintro C (rfl | rfl | rfl | rfl | rfl | rfl)
 ·exact T.no_Door_leads
 ·exact T.no_Sure_leads
 ·exact T.no_Mixed_leads
 ·exact T.no_Toss_leads
 ·exact T.no_Even_leads
 ·exact T.no_Hall_leads
theorem Txt.no_name {K:PySem.W.Frag} {mg:Str→Option Value} {D:Adr} (T:Txt K mg D):∀ C,Fam D C→NoAttr K C "name" := by
 rintro C (rfl | rfl | rfl | rfl | rfl | rfl)
 ·exact T.no_Door_name
 ·exact T.no_Sure_name
 ·exact T.no_Mixed_name
 ·exact T.no_Toss_name
 ·exact T.no_Even_name
 ·exact T.no_Hall_name
theorem Txt.no_pay {K:PySem.W.Frag} {mg:Str→Option Value} {D:Adr} (T:Txt K mg D):∀ C,Fam D C→NoAttr K C "pay" := by
 rintro C (rfl | rfl | rfl | rfl | rfl | rfl)
 ·exact T.no_Door_pay
 ·exact T.no_Sure_pay
 ·exact T.no_Mixed_pay
 ·exact T.no_Toss_pay
 ·exact T.no_Even_pay
 ·exact T.no_Hall_pay
def Of_Hall_check_room (D:Adr) (C:Addr):Prop:=C = D.Hall
theorem Of_Hall_check_room.fam {D:Adr} {C:Addr} (h:Of_Hall_check_room D C):Fam D C:=by
 unfold Of_Hall_check_room at h
 unfold Fam
 simp [h]
theorem Txt.me_Hall_check_room {K:PySem.W.Frag} {mg:Str→Option Value} {D:Adr} (T:Txt K mg D):∀ C,Of_Hall_check_room D C→Meth K C "check_room" D.Hall_check_room:=by
 rintro C (rfl)
 ·exact T.mm_Hall_check_room
def Of_Hall_offers (D:Adr) (C:Addr):Prop:=C = D.Hall
theorem Of_Hall_offers.fam {D:Adr} {C:Addr} (h:Of_Hall_offers D C):Fam D C:=by
 unfold Of_Hall_offers at h
 unfold Fam
 simp [h]
theorem Txt.me_Hall_offers {K:PySem.W.Frag} {mg:Str→Option Value} {D:Adr} (T:Txt K mg D):∀ C,Of_Hall_offers D C→Meth K C "offers" D.Hall_offers:=by
 rintro C (rfl)
 ·exact T.mm_Hall_offers
def Of_Hall_size (D:Adr) (C:Addr):Prop:=C = D.Hall
theorem Of_Hall_size.fam {D:Adr} {C:Addr} (h:Of_Hall_size D C):Fam D C:=by
 unfold Of_Hall_size at h
 unfold Fam
 simp [h]
theorem Txt.me_Hall_size {K:PySem.W.Frag} {mg:Str→Option Value} {D:Adr} (T:Txt K mg D):∀ C,Of_Hall_size D C→Meth K C "size" D.Hall_size:=by
 rintro C (rfl)
 ·exact T.mm_Hall_size
def Of_Door_ways (D:Adr) (C:Addr):Prop:=C = D.Door∨C = D.Sure∨C = D.Mixed∨C = D.Toss∨C = D.Even
theorem Of_Door_ways.fam {D:Adr} {C:Addr} (h:Of_Door_ways D C):Fam D C:=by
 unfold Of_Door_ways at h
 unfold Fam
 rcases h with h | h | h | h | h <;> simp [h]
theorem Txt.me_Door_ways {K:PySem.W.Frag} {mg:Str→Option Value} {D:Adr} (T:Txt K mg D):∀ C,Of_Door_ways D C→Meth K C "ways" D.Door_ways:=by
 rintro C (rfl | rfl | rfl | rfl | rfl)
 ·exact T.mm_Door_ways
 ·exact T.mm_Sure_ways
 ·exact T.mm_Mixed_ways
 ·exact T.mm_Toss_ways
 ·exact T.mm_Even_ways
section
variable {P:Program} {w:World} {K:PySem.W.Frag} {mg:Str→Option Value} {base:Heap} {D:Adr}
theorem boot_abs:bootBuiltins "abs" = some (.builtin "abs"):=by decide +kernel
theorem line1:1 ≤ sizeLine:=by decide
theorem line2:2 ≤ sizeLine:=by decide
theorem cpow {n:Int} (h0:0 ≤ n) (h1:n ≤ 1000000):CPow 10 n:=⟨h0,h1,by decide⟩
theorem line64 {n:Nat} (h:n ≤ 64):n ≤ sizeLine:=Nat.le_trans h (by decide)
theorem cut_one (ns:List Int) (k:Nat):atI (cutV (ns.map V.int) (some (k:Int)) (some ((k:Int) + 1)) ++ [V.int 0]) 0 = some (V.int (ns.getD k 0)):=by
 unfold cutV
 rw [show ((k:Int) + 1) = ((k + 1:Nat):Int) by omega,HT.sIx_nat,HT.sIx_nat,List.length_map]
 refine atI_nat (j:=0) ?_
 by_cases h:k < ns.length
 ·rw [Nat.min_eq_left (Nat.le_of_lt h),Nat.min_eq_left (Nat.succ_le_of_lt h)]
  rw [show k + 1 - k = 1 by omega]
  rw [List.drop_eq_getElem_cons (by rw [List.length_map]; exact h)]
  simp [List.getD,h]
 ·have e1:min k ns.length = ns.length:=by omega
  have e2:min (k + 1) ns.length = ns.length:=by omega
  rw [e1,e2]
  simp [List.getD,List.getElem?_eq_none (Nat.le_of_not_lt h)]
def sp_whole:Sp:=fun vs H Q _=>∃ x t,vs = [x]∧tyS H x = some t∧Q (.bl (t == "int")) H
theorem ok_whole {f:Addr} {fd:FuncData} (F:Fun K nm_whole nm_whole s_whole f fd) (T:Txt K mg D):FnOk P w K mg base CX0 1 f fd ps_whole sp_whole:=by
 refine F.ok sc_whole (fun vs H Q E h=>?_) (fun cdv A outer s H vs Q E hr h=>?_)
 ·obtain ⟨x,t,rfl,_⟩:=h
  rfl
 ·obtain ⟨x,t,rfl,ht,q⟩:=h
  refine ⟨_,(pss_one (ps_ret (pe_and (pe_callB call_isi (by rfl) T.b_isinstance boot_isinstance (pa_cons (pv 0) (pa_cons (pe_bltn (v:=.ty "int") (by rfl) T.b_int boot_int rfl) pa_nil))) (pe_one (pe_not (pe_callB call_isi (by rfl) T.b_isinstance boot_isinstance (pa_cons (pv 0) (pa_cons (pe_bltn (v:=.ty "bool") (by rfl) T.b_bool boot_bool rfl) pa_nil)))))))),?_⟩
  walk_at "rd"
  rw [ht]
  walk_at "rd"
  have hm:=tyS_in ht
  simp only [List.mem_cons,List.not_mem_nil,or_false] at hm
  rcases hm with rfl | rfl | rfl | rfl | rfl | rfl | rfl <;> simpa using q
theorem ok_is_whole {f:Addr} {fd:FuncData} (F:Fun K nm_is_whole nm_is_whole s_is_whole f fd) (T:Txt K mg D):FnOk P w K mg base CX0 1 f fd ps_is_whole sp_whole:=by
 refine F.ok sc_is_whole (fun vs H Q E h=>?_) (fun cdv A outer s H vs Q E hr h=>?_)
 ·obtain ⟨x,t,rfl,_⟩:=h
  rfl
 ·obtain ⟨x,t,rfl,ht,q⟩:=h
  refine ⟨_,(pss_one (ps_ret (pe_and (pe_callB call_isi (by rfl) T.b_isinstance boot_isinstance (pa_cons (pv 0) (pa_cons (pe_bltn (v:=.ty "int") (by rfl) T.b_int boot_int rfl) pa_nil))) (pe_one (pe_not (pe_callB call_isi (by rfl) T.b_isinstance boot_isinstance (pa_cons (pv 0) (pa_cons (pe_bltn (v:=.ty "bool") (by rfl) T.b_bool boot_bool rfl) pa_nil)))))))),?_⟩
  walk_at "rd"
  rw [ht]
  walk_at "rd"
  have hm:=tyS_in ht
  simp only [List.mem_cons,List.not_mem_nil,or_false] at hm
  rcases hm with rfl | rfl | rfl | rfl | rfl | rfl | rfl <;> simpa using q
def sp_gcd:Sp:=fun vs H Q _=>∃ (a b:Int),vs = [.int a,.int b]∧Q (.int (Int.gcd a b:Nat)) H
theorem ok_gcd {f:Addr} {fd:FuncData} (F:Fun K nm_gcd nm_gcd s_gcd f fd) (T:Txt K mg D):FnOk P w K mg base CX0 1 f fd ps_gcd sp_gcd:=by
 refine FnOk.clean (sp:=fun vs H Q _=>∃ (a b:Int),vs = [.int a,.int b]∧∀ H',Same H H'→Q (.int (Int.gcd a b:Nat)) H')
  (F.ok sc_gcd (fun vs H Q E h=>?_) (fun cdv A outer s H vs Q E hr h=>?_)) fun vs H Q E ⟨a,b,h1,h4⟩=>⟨a,b,h1,fun H' S=>⟨S,h4⟩⟩
 ·obtain ⟨a,b,rfl,_⟩:=h
  rfl
 ·obtain ⟨a,b,rfl,q⟩:=h
  refine ⟨_,(pss_cons (ps_asg (pe_callB call_srtH (by rfl) T.b_sorted boot_sorted (pa_cons (pe_lst (pa_cons (pe_callB call_abs (by rfl) T.b_abs boot_abs (pa_cons (pv 0) pa_nil)) (pa_cons (pe_callB call_abs (by rfl) T.b_abs boot_abs (pa_cons (pv 1) pa_nil)) pa_nil))) pa_nil)) (pg_lstH (n:=2) rfl (pgs_cons (pg_name (i:=2) sc_gcd.nd rfl (Or.inl rfl)) (pgs_cons (pg_name (i:=3) sc_gcd.nd rfl (Or.inl rfl)) pgs_nil))))
   (pss_cons (ps_while PassesOwn.never (pt_cmpR op_gt (pv 2) pe_int (nomark _))
    (pss_one (ps_par (i:=2) (j:=3) rfl sc_gcd.nd rfl rfl (by decide) rfl rfl (pa_cons (pe_op op_modN (pv 3) (pv 2)) (pa_cons (pv 2) pa_nil)) rfl)))
   (pss_one (ps_ret (pv 3))))),?_⟩
  walk_at "rd"
  refine ⟨line2,fun p hp=>⟨[(a.natAbs:Int),(b.natAbs:Int)],?_,(by simp),fun ms p1 hp1 hm hs=>?_⟩⟩
  ·rw [abs_if,abs_if]; rfl
  have S:Same H (upd (upd H p (HO.lst [V.int (if a < 0 then -a else a),V.int (if b < 0 then -b else b)])) p1 (HO.lst (ms.map V.int))):=(Same.upd hp).trans (Same.upd hp1)
  generalize upd (upd H p (HO.lst [V.int (if a < 0 then -a else a),V.int (if b < 0 then -b else b)])) p1 (HO.lst (ms.map V.int)) = H1 at S
  have hk:∃ l k:Nat,ms = [(l:Int),(k:Int)]∧Nat.gcd l k = Int.gcd a b:=by
   rcases perm_two hm with rfl | rfl
   ·exact ⟨_,_,rfl,rfl⟩
   ·exact ⟨_,_,rfl,Nat.gcd_comm _ _⟩
  obtain ⟨l,k,rfl,hg⟩:=hk
  walk_at "rd"
  refine while_by (fun σ H2=>∃ l k:Nat,σ = [some (.int a),some (.int b),some (.int l),some (.int k)]∧H2 = H1∧Nat.gcd l k = Int.gcd a b)
   (fun σ _=>match σ with | [_,_,some (.int l),_]=>l.natAbs | _=>0) ⟨l,k,rfl,rfl,hg⟩ ?_ ?_
  ·rintro σ H2 ⟨l,k,rfl,rfl,hg⟩
   walk_at "rd"
   by_cases hl:l = 0
   ·subst hl
    simp only [Int.natCast_zero,Int.lt_irrefl,decide_false,Bool.false_eq_true,if_false]
    rw [show k = Int.gcd a b by rw [← hg,Nat.gcd_zero_left]]
    exact q _ S
   ·have hl':(0:Int) < l:=by omega
    rw [if_pos (decide_eq_true hl')]
    refine ⟨by omega,⟨k % l,fmod_nat _ _,l,rfl,?_⟩,?_⟩
    ·rw [← Nat.gcd_rec]; exact hg
    ·rw [fmod_nat]
     show (k % l) < l
     exact Nat.mod_lt _ (by omega)
  ·intro σ H2 Q1 Q2 hq
   walk_at "rd"
   rintro ⟨v,h1,i,h2,h3⟩
   exact ⟨v,h1,i,h2,hq _ _ h3⟩
theorem gcd_pos {a b:Int} (h:b ≠ 0):(0:Int) < (Int.gcd a b:Nat):=by
 have:=Int.gcd_pos_of_ne_zero_right a h
 omega
theorem gcd_bd {a b:Int} (h:b ≠ 0) (hb:Bd b):Bd (Int.gcd a b:Nat):=by
 unfold Bd at *
 refine Nat.lt_of_le_of_lt ?_ hb
 rw [Int.natAbs_natCast]
 exact Nat.le_of_dvd (by omega) (Int.gcd_dvd_natAbs_right a b)
def sp_divisor:Sp:=fun vs H Q _=>∃ (a b:Int),vs = [.int a,.int b]∧Q (.int (Int.gcd a b:Nat)) H
def dInv (a b:Int) (H1:Hp) (σ:L2.St) (H:Hp):Prop:=∃ (l k:Nat) (z:Option V),σ = [some (.int a),some (.int b),some (.int l),some (.int k),z]∧H = H1∧Nat.gcd l k = Int.gcd a b
theorem ok_divisor {f:Addr} {fd:FuncData} (F:Fun K nm_divisor nm_divisor s_divisor f fd) (T:Txt K mg D):FnOk P w K mg base CX0 1 f fd ps_divisor sp_divisor:=by
 refine F.ok sc_divisor (fun vs H Q E h=>?_) (fun cdv A outer s H vs Q E hr h=>?_)
 ·obtain ⟨a,b,rfl,_⟩:=h
  rfl
 ·obtain ⟨a,b,rfl,q⟩:=h
  refine ⟨_,(pss_cons (ps_set (i:=2) sc_divisor.nd rfl (Or.inl rfl) (pe_callB call_abs (by rfl) T.b_abs boot_abs (pa_cons (pv 0) pa_nil)))
   (pss_cons (ps_set (i:=3) sc_divisor.nd rfl (Or.inl rfl) (pe_callB call_abs (by rfl) T.b_abs boot_abs (pa_cons (pv 1) pa_nil)))
   (pss_cons (ps_while PassesOwn.never (pt_cmpR op_ne (pv 3) pe_int (nomark _))
    (pss_cons (ps_set (i:=4) sc_divisor.nd rfl (Or.inl rfl) (pe_op op_modN (pv 2) (pv 3)))
    (pss_cons (ps_set (i:=2) sc_divisor.nd rfl (Or.inl rfl) (pv 3))
    (pss_one (ps_set (i:=3) sc_divisor.nd rfl (Or.inl rfl) (pv 4))))))
   (pss_one (ps_ret (pv 2)))))),?_⟩
  walk_at "rd"
  rw [abs_if,abs_if]
  refine while_by (dInv a b H) (fun σ _=>match σ with | [_,_,_,some (.int k),_]=>k.natAbs | _=>0) ⟨a.natAbs,b.natAbs,none,rfl,rfl,rfl⟩ ?_ ?_
  ·rintro σ H2 ⟨l,k,z,rfl,rfl,hg⟩
   walk_at "rd"
   by_cases hl:k = 0
   ·subst hl
    rw [if_neg (by simp)]
    rw [show l = Int.gcd a b by rw [← hg,Nat.gcd_zero_right]]
    exact q
   ·have hl':¬ ((k:Int) = 0):=by omega
    rw [if_pos (by simpa using hl)]
    refine ⟨by omega,⟨k,l % k,some (.int ((l % k:Nat):Int)),?_,rfl,?_⟩,?_⟩
    ·rw [fmod_nat]
    ·rw [Nat.gcd_comm,← Nat.gcd_rec,Nat.gcd_comm]; exact hg
    ·rw [fmod_nat]
     show (l % k) < k
     exact Nat.mod_lt _ (by omega)
  ·intro σ H2 Q1 Q2 hq
   walk_at "rd"
   rintro ⟨v,h1,h2,h3⟩
   exact ⟨v,h1,h2,hq _ _ h3⟩
structure Low (t b x y:Int):Prop where
 pos:0 < y
 gcd:Int.gcd x y = 1
 eq:x * b = t * y
 lx:x.natAbs ≤ t.natAbs
 ly:y.natAbs ≤ b.natAbs
theorem fdiv_exact {c q:Int} (h:c ≠ 0):Int.fdiv (c * q) c = q:=by
 rw [Int.fdiv_eq_ediv_of_dvd (Int.dvd_mul_right c q),Int.mul_ediv_cancel_left _ h]
theorem abs_le_mul {c q:Int} (h:c ≠ 0):q.natAbs ≤ (c * q).natAbs:=by
 rw [Int.natAbs_mul]
 exact Nat.le_mul_of_pos_left _ (by omega)
theorem low_of {t b c:Int} (hb:b ≠ 0) (hc:c ≠ 0) (hg:c.natAbs = Int.gcd t b) (hs:0 < c * b):Low t b (Int.fdiv t c) (Int.fdiv b c):=by
 have d1:c ∣ t:=Int.natAbs_dvd.mp (by rw [hg]; exact Int.gcd_dvd_left t b)
 have d2:c ∣ b:=Int.natAbs_dvd.mp (by rw [hg]; exact Int.gcd_dvd_right t b)
 obtain ⟨x,rfl⟩:=d1
 obtain ⟨y,rfl⟩:=d2
 rw [fdiv_exact hc,fdiv_exact hc]
 refine ⟨?_,?_,?_,abs_le_mul hc,abs_le_mul hc⟩
 ·rw [← Int.mul_assoc] at hs
  have hp:0 < c * c:=by
   rcases Int.lt_or_lt_of_ne hc with z | z
   ·exact Int.mul_pos_of_neg_of_neg z z
   ·exact Int.mul_pos z z
  exact Int.pos_of_mul_pos_right hs hp
 ·rw [Int.gcd_mul_left] at hg
  have hp:0 < c.natAbs:=by omega
  exact Nat.eq_of_mul_eq_mul_left hp (by rw [Nat.mul_one]; exact hg.symm)
 ·rw [Int.mul_left_comm,Int.mul_assoc]
def sp_ratio:Sp:=fun vs H Q _=>∃ (t b:Int),vs = [.int t,.int b]∧b ≠ 0∧Bd b∧∀ p x y,Low t b x y→H p = none→Q (.ref p) (upd H p (.tup [.int x,.int y]))
theorem bd_neg {i:Int} (h:Bd i):Bd (-i):=by unfold Bd at *; rw [Int.natAbs_neg]; exact h
theorem ok_ratio {f:Addr} {fd:FuncData} (F:Fun K nm_ratio nm_ratio s_ratio f fd) (T:Txt K mg D) (G_is_whole:OkF P w K mg base 1 nm_is_whole ps_is_whole sp_whole) (G_divisor:OkF P w K mg base 1 nm_divisor ps_divisor sp_divisor):FnOk P w K mg base CX0 2 f fd ps_ratio sp_ratio:=by
 refine F.ok sc_ratio (fun vs H Q E h=>?_) (fun cdv A outer s H vs Q E hr h=>?_)
 ·obtain ⟨t,b,rfl,_⟩:=h
  rfl
 ·obtain ⟨t,b,rfl,hb,hbd,q⟩:=h
  refine ⟨_,(pss_cons (ps_if (pw_or (pt_not (pt_tru (pe_callF G_is_whole (hr.mono (by decide)) (by rfl) (pa_cons (pv 0) pa_nil)) (fun _=>rfl))) (pw_or1 (pt_not (pt_tru (pe_callF G_is_whole (hr.mono (by decide)) (by rfl) (pa_cons (pv 1) pa_nil)) (fun _=>rfl))))).pt
    (pss_one ps_never)
    pss_nil)
   (pss_cons (ps_if (pt_cmpR op_eq (pv 1) pe_int (nomark _))
    (pss_one ps_never)
    pss_nil)
   (pss_cons (ps_set (i:=2) sc_ratio.nd rfl (Or.inl rfl) (pe_callF G_divisor (hr.mono (by decide)) (by rfl) (pa_cons (pv 0) (pa_cons (pv 1) pa_nil))))
   (pss_cons (ps_if (pt_cmpR op_lt (pv 1) pe_int (nomark _))
    (pss_one (ps_set (i:=2) sc_ratio.nd rfl (Or.inl rfl) (pe_un un_neg (pv 2))))
    pss_nil)
   (pss_one (ps_ret (pe_tup (pa_cons (pe_op op_fdivB (pv 0) (pv 2)) (pa_cons (pe_op op_fdivB (pv 1) (pv 2)) pa_nil))))))))),?_⟩
  unfold sp_whole sp_divisor
  walk_at "rd"
  have g0:=gcd_pos (a:=t) hb
  have g1:=gcd_bd (a:=t) hb hbd
  rw [if_neg (by simpa using hb)]
  refine ite2 (fun hn=>?_) fun hn=>?_
  ·rw [decide_eq_true_eq] at hn
   refine ⟨by omega,bd_neg g1,by omega,bd_neg g1,line2,fun p hp=>q p _ _ (low_of hb (by omega) (by omega) ?_) hp⟩
   exact Int.mul_pos_of_neg_of_neg (by omega) hn
  ·rw [decide_eq_true_eq] at hn
   refine ⟨by omega,g1,by omega,g1,line2,fun p hp=>q p _ _ (low_of hb (by omega) (by omega) ?_) hp⟩
   exact Int.mul_pos g0 (by omega)
def sp_under:Sp:=fun vs H Q _=>∃ (p q:Addr) (x y u v:Int),vs = [.ref p,.ref q]∧SqT K H p [.int x,.int y]∧SqT K H q [.int u,.int v]∧Bd x∧Bd y∧Bd u∧Bd v∧Q (.bl (decide (x * v < u * y))) H
theorem ok_under {f:Addr} {fd:FuncData} (F:Fun K nm_under nm_under s_under f fd):FnOk P w K mg base CX0 1 f fd ps_under (sp_under (K:=K)):=by
 refine F.ok sc_under (fun vs H Q E h=>?_) (fun cdv A outer s H vs Q E hr h=>?_)
 ·obtain ⟨p,q,x,y,u,v,rfl,_⟩:=h
  rfl
 ·obtain ⟨p,q,x,y,u,v,rfl,hp,hq,bx,b_y,bu,bv,k⟩:=h
  refine ⟨_,(pss_one (ps_ret (pe_cmpR op_lt (pe_op op_mulB (pe_ix ix_tup (pv 0) pe_int (fun _ _=>rfl)) (pe_ix ix_tup (pv 1) pe_int (fun _ _=>rfl))) (pe_op op_mulB (pe_ix ix_tup (pv 1) pe_int (fun _ _=>rfl)) (pe_ix ix_tup (pv 0) pe_int (fun _ _=>rfl))) (nomark _)))),?_⟩
  walk_at "rd"
  exact ⟨_,hp,_,atI_0,_,hq,_,atI_1,_,rfl,_,rfl,bx,bv,_,hq,_,atI_0,_,hp,_,atI_1,_,rfl,_,rfl,bu,b_y,k⟩
def sp_sum (g:Int→Int→Int):Sp:=fun vs H Q _=>∃ (p q:Addr) (x y u v:Int),vs = [.ref p,.ref q]∧SqT K H p [.int x,.int y]∧SqT K H q [.int u,.int v]∧Bd x∧Bd y∧Bd u∧Bd v∧0 < y∧0 < v∧Bd (y * v) ∧
 ∀ r z o,Low (g (x * v) (u * y)) (y * v) z o→H r = none→Q (.ref r) (upd H r (.tup [.int z,.int o]))
theorem ok_plus {f:Addr} {fd:FuncData} (F:Fun K nm_plus nm_plus s_plus f fd) (G_ratio:OkF P w K mg base 2 nm_ratio ps_ratio sp_ratio):FnOk P w K mg base CX0 3 f fd ps_plus (sp_sum (K:=K) fun a b=>a + b):=by
 refine F.ok sc_plus (fun vs H Q E h=>?_) (fun cdv A outer s H vs Q E hr h=>?_)
 ·obtain ⟨p,q,x,y,u,v,rfl,_⟩:=h
  rfl
 ·obtain ⟨p,q,x,y,u,v,rfl,hp,hq,bx,b_y,bu,bv,y0,v0,byv,k⟩:=h
  refine ⟨_,(pss_one (ps_ret (pe_callF G_ratio (hr.mono (by decide)) (by rfl) (pa_cons (pe_op op_add (pe_op op_mulB (pe_ix ix_tup (pv 0) pe_int (fun _ _=>rfl)) (pe_ix ix_tup (pv 1) pe_int (fun _ _=>rfl))) (pe_op op_mulB (pe_ix ix_tup (pv 1) pe_int (fun _ _=>rfl)) (pe_ix ix_tup (pv 0) pe_int (fun _ _=>rfl)))) (pa_cons (pe_op op_mulB (pe_ix ix_tup (pv 0) pe_int (fun _ _=>rfl)) (pe_ix ix_tup (pv 1) pe_int (fun _ _=>rfl))) pa_nil))))),?_⟩
  unfold sp_ratio
  walk_at "rd"
  exact ⟨_,hp,_,atI_0,_,hq,_,atI_1,_,rfl,_,rfl,bx,bv,_,hq,_,atI_0,_,hp,_,atI_1,_,rfl,_,rfl,bu,b_y,_,hp,_,atI_1,_,hq,_,atI_1,_,rfl,_,rfl,b_y,bv,Int.ne_of_gt (Int.mul_pos y0 v0),byv,fun r z o l hr=>k r z o l hr⟩
theorem ok_minus {f:Addr} {fd:FuncData} (F:Fun K nm_minus nm_minus s_minus f fd) (G_ratio:OkF P w K mg base 2 nm_ratio ps_ratio sp_ratio):FnOk P w K mg base CX0 3 f fd ps_minus (sp_sum (K:=K) fun a b=>a - b):=by
 refine F.ok sc_minus (fun vs H Q E h=>?_) (fun cdv A outer s H vs Q E hr h=>?_)
 ·obtain ⟨p,q,x,y,u,v,rfl,_⟩:=h
  rfl
 ·obtain ⟨p,q,x,y,u,v,rfl,hp,hq,bx,b_y,bu,bv,y0,v0,byv,k⟩:=h
  refine ⟨_,(pss_one (ps_ret (pe_callF G_ratio (hr.mono (by decide)) (by rfl) (pa_cons (pe_op op_sub (pe_op op_mulB (pe_ix ix_tup (pv 0) pe_int (fun _ _=>rfl)) (pe_ix ix_tup (pv 1) pe_int (fun _ _=>rfl))) (pe_op op_mulB (pe_ix ix_tup (pv 1) pe_int (fun _ _=>rfl)) (pe_ix ix_tup (pv 0) pe_int (fun _ _=>rfl)))) (pa_cons (pe_op op_mulB (pe_ix ix_tup (pv 0) pe_int (fun _ _=>rfl)) (pe_ix ix_tup (pv 1) pe_int (fun _ _=>rfl))) pa_nil))))),?_⟩
  unfold sp_ratio
  walk_at "rd"
  exact ⟨_,hp,_,atI_0,_,hq,_,atI_1,_,rfl,_,rfl,bx,bv,_,hq,_,atI_0,_,hp,_,atI_1,_,rfl,_,rfl,bu,b_y,_,hp,_,atI_1,_,hq,_,atI_1,_,rfl,_,rfl,b_y,bv,Int.ne_of_gt (Int.mul_pos y0 v0),byv,fun r z o l hr=>k r z o l hr⟩
def letC (c:Nat):Bool:=decide (c ∈ (Str.ofString "abcdefghijklmnopqrstuvwxyz").cps.toList)
def wordB (l:List Nat):Bool:=decide (1 ≤ l.length) && decide (l.length ≤ 8) && l.all letC
theorem letC_eq (c:Nat):((!decide ([c] < [97])) && !decide ([122] < [c])) = letC c:=by
 have e:(Str.ofString "abcdefghijklmnopqrstuvwxyz").cps.toList = [97,98,99,100,101,102,103,104,105,106,107,108,109,110,111,112,113,114,115,116,117,118,119,120,121,122]:=by decide +kernel
 unfold letC
 rw [e]
 have h1:([c] < [97]) ↔ c < 97:=by rw [List.cons_lt_cons_iff]; simp
 have h2:([122] < [c]) ↔ 122 < c:=by rw [List.cons_lt_cons_iff]; simp
 by_cases h:97 ≤ c∧c ≤ 122
 ·rw [decide_eq_false (by rw [h1]; omega),decide_eq_false (by rw [h2]; omega),decide_eq_true]
  ·rfl
  ·simp only [List.mem_cons,List.not_mem_nil,or_false]; omega
 ·rw [decide_eq_false (p:=c ∈ _)]
  ·by_cases h3:c < 97
   ·rw [decide_eq_true (h1.mpr h3)]; rfl
   ·rw [decide_eq_true (h2.mpr (by omega))]; exact Bool.and_false _
  ·simp only [List.mem_cons,List.not_mem_nil,or_false]; omega
def sp_isw:Sp:=fun vs H Q _=>∃ v,vs = [v]∧((∃ x:Str,v = .str x∧x.length ≤ 1000∧Q (.bl (wordB x.cps.toList)) H)∨∃ t,tyS H v = some t∧t ≠ "str" ∧ Q (.bl false) H)
theorem ok_is_word {f:Addr} {fd:FuncData} (F:Fun K nm_is_word nm_is_word s_is_word f fd) (T:Txt K mg D):FnOk P w K mg base CX0 1 f fd ps_is_word sp_isw:=by
 refine FnOk.clean (sp:=fun vs H Q _=>∃ v,vs = [v]∧((∃ x:Str,v = .str x∧x.length ≤ 1000∧∀ H',Same H H'→Q (.bl (wordB x.cps.toList)) H')∨∃ t,tyS H v = some t∧t ≠ "str" ∧ ∀ H',Same H H'→Q (.bl false) H'))
  (F.ok sc_is_word (fun vs H Q E h=>?_) (fun cdv A outer s H vs Q E hr h=>?_)) fun vs H Q E ⟨v,h1,h2⟩=>⟨v,h1,h2.imp (fun ⟨x,a,b,c⟩=>⟨x,a,b,fun H' S=>⟨S,c⟩⟩) fun ⟨t,a,b,c⟩=>⟨t,a,b,fun H' S=>⟨S,c⟩⟩⟩
 ·obtain ⟨v,rfl,_⟩:=h
  rfl
 ·obtain ⟨v,rfl,h⟩:=h
  refine ⟨_,(pss_cons (ps_if (pw_or (pt_not (pt_tru (pe_callB call_isi (by rfl) T.b_isinstance boot_isinstance (pa_cons (pv 0) (pa_cons (pe_bltn (v:=.ty "str") (by rfl) T.b_str boot_str rfl) pa_nil))) (fun _=>rfl))) (pw_or1 (pt_not (pt_chain op_le op_le pe_int (pe_callB call_len_str (by rfl) T.b_len PySem.boot_len (pa_cons (pv 0) pa_nil)) (pe_globE (by rfl) T.g_LONGEST_WORD))))).pt
    (pss_one (ps_ret pe_bl))
    pss_nil)
   (pss_one (ps_ret (pe_callB (call_allH rfl) (by rfl) T.b_all boot_all (pa_cons (pe_compF (defScope s_is_word) ["thing"] ["thing"] rfl rfl rfl (by decide +kernel) (by decide +kernel) rfl (by decide +kernel) (by decide +kernel) rfl (by decide +kernel) (by decide +kernel) (by decide +kernel) (pi_str ((pv 0)).mono) (fun _ _ _ _ _=>((pe_chain op_leS op_leS pe_str (pv 0) pe_str)).mono)) pa_nil))))),?_⟩
  rcases h with ⟨x,rfl,hx,q⟩ | ⟨t,ht,hne,q⟩
  ·have hz:x.length ≤ sizeLine:=Nat.le_trans hx (by decide)
   have hl:x.cps.toList.length = x.length:=Array.length_toList
   have ea:Str.ofString "a" = ⟨#[97]⟩:=by decide +kernel
   have ez:Str.ofString "z" = ⟨#[122]⟩:=by decide +kernel
   walk_at "rd"
   refine ⟨hz,?_⟩
   by_cases h1:1 ≤ x.length
   ·rw [if_pos (decide_eq_true (by omega))]
    by_cases h2:x.length ≤ 8
    ·rw [if_neg (by rw [decide_eq_true (by omega)]; decide)]
     refine tComp_strB letC x (fun R h=>⟨_,rfl,h⟩) hz (fun c Hc R h=>?_) fun L hL=>⟨L,rfl,_,upd_same,?_⟩
     ·simp only [tSeq,tIfS,tRet,tRetN,tOp,tUn,rU,rIxTH,rIxLH,rCat,tSl,tVar,tC,tPart,rI0,rI,rSlL,tLst,tTup,tCons,tNil,tCB,tCallF,tTest,tNot,tOr,tAnd,tNotV,tAndV,tOrV,tTru,tAsg,tPar,gName,gNil,gCons,gTupH,gLstH,rLenT,rLenL,rIsi,rSrtH,tyS_non,tyS_bl,tyS_int,tyS_str,subS,truB,rEq,rNe,scal,tNext,tDrop,tCallX,tDisp1,tRaise,tTryAs,rIsiN,rIsiT,rIsB,rEqH,Ends.unset,tApp,tClr,rListH,gSub,rSetL,rIxL,rEqR,rSumH,rMaxH,rMinH,tRev,tSM,tDispS,tMakeI,tMethI,tFld,sFld,tDGet,tDGet2,tDIn,tDNotIn,tDNewK,sDPut,rIsiC,rJoin,rMin2,rMax2,tB,rIxT,gTup,rEqK,rIsiTup,rLenK,rAddS,rLeS,rInS,rIntT,rAllH,rStarts,rFind,rSplit,rMulS,tChain,rSlS,rIxS,tNoPart,V.str.injEq,L2.start,List.replicate_succ,List.replicate_zero,Nat.reduceSub,Nat.reduceAdd,List.map_cons,List.map_nil,List.length_cons,List.length_nil,List.cons_append,List.nil_append,List.append_nil,List.getElem?_cons_zero,List.getElem?_cons_succ,List.set_cons_zero,List.set_cons_succ,List.set_nil,Option.some.injEq,exists_eq_left',exists_eq_left,exists_and_left,exists_and_right,exists_eq_right,exists_eq,exists_eq',and_assoc,V.int.injEq,V.ref.injEq,V.bl.injEq,V.ty.injEq,List.cons.injEq,HO.tup.injEq,HO.lst.injEq,and_true,true_and,reduceCtorEq,atI_0,atI_1,upd_same,decide_true,decide_false,Bool.not_true,Bool.not_false,if_true,if_false,ite_true,ite_false,Bool.false_eq_true,List.mem_cons,String.reduceEq,or_true,true_or,or_false,false_or,beq_self_eq_true,Bool.or_true,Bool.true_or,Bool.or_false,Bool.false_or,Bool.and_true,Bool.and_false,Bool.true_and,Bool.false_and,String.reduceBEq,Int.reduceToNat,Int.reducePow,Int.reduceMul,Int.reduceSub,Int.reduceAdd,Int.reduceNeg,Int.reduceLE,Int.reduceLT,Int.reduceEq,ne_eq,not_false_eq_true,not_true_eq_false,Int.cast_ofNat_Int,ea,ez]
      have:=letC_eq c
      rw [← this] at h
      cases hd:(!decide ([c] < [97])) with
      | false=>rw [hd] at h; exact h
      | true=>rw [hd] at h; exact h
     ·have ew:wordB x.cps.toList = (x.cps.toList.map letC).all id:=by
       unfold wordB
       rw [hl,decide_eq_true h1,decide_eq_true h2,List.all_map]; rfl
      rw [← ew]
      exact q _ (Same.upd hL)
    ·rw [if_pos (by rw [decide_eq_false (by omega)]; rfl)]
     have ew:wordB x.cps.toList = false:=by
      unfold wordB
      rw [hl,decide_eq_false h2,Bool.and_false]; rfl
     rw [ew] at q
     exact q _ (Same.refl _)
   ·rw [if_neg (by rw [decide_eq_true_eq]; omega)]
    have ew:wordB x.cps.toList = false:=by
     unfold wordB
     rw [hl,decide_eq_false h1]; rfl
    rw [ew] at q
    exact q _ (Same.refl _)
  ·simp only [tSeq,tIfS,tRet,tRetN,tOp,tUn,rU,rIxTH,rIxLH,rCat,tSl,tVar,tC,tPart,rI0,rI,rSlL,tLst,tTup,tCons,tNil,tCB,tCallF,tTest,tNot,tOr,tAnd,tNotV,tAndV,tOrV,tTru,tAsg,tPar,gName,gNil,gCons,gTupH,gLstH,rLenT,rLenL,rIsi,rSrtH,tyS_non,tyS_bl,tyS_int,tyS_str,subS,truB,rEq,rNe,scal,tNext,tDrop,tCallX,tDisp1,tRaise,tTryAs,rIsiN,rIsiT,rIsB,rEqH,Ends.unset,tApp,tClr,rListH,gSub,rSetL,rIxL,rEqR,rSumH,rMaxH,rMinH,tRev,tSM,tDispS,tMakeI,tMethI,tFld,sFld,tDGet,tDGet2,tDIn,tDNotIn,tDNewK,sDPut,rIsiC,rJoin,rMin2,rMax2,tB,rIxT,gTup,rEqK,rIsiTup,rLenK,rAddS,rLeS,rInS,rIntT,rAllH,rStarts,rFind,rSplit,rMulS,tChain,rSlS,rIxS,tNoPart,V.str.injEq,L2.start,List.replicate_succ,List.replicate_zero,Nat.reduceSub,Nat.reduceAdd,List.map_cons,List.map_nil,List.length_cons,List.length_nil,List.cons_append,List.nil_append,List.append_nil,List.getElem?_cons_zero,List.getElem?_cons_succ,List.set_cons_zero,List.set_cons_succ,List.set_nil,Option.some.injEq,exists_eq_left',exists_eq_left,exists_and_left,exists_and_right,exists_eq_right,exists_eq,exists_eq',and_assoc,V.int.injEq,V.ref.injEq,V.bl.injEq,V.ty.injEq,List.cons.injEq,HO.tup.injEq,HO.lst.injEq,and_true,true_and,reduceCtorEq,atI_0,atI_1,upd_same,decide_true,decide_false,Bool.not_true,Bool.not_false,if_true,if_false,ite_true,ite_false,Bool.false_eq_true,List.mem_cons,String.reduceEq,or_true,true_or,or_false,false_or,beq_self_eq_true,Bool.or_true,Bool.true_or,Bool.or_false,Bool.false_or,Bool.and_true,Bool.and_false,Bool.true_and,Bool.false_and,String.reduceBEq,Int.reduceToNat,Int.reducePow,Int.reduceMul,Int.reduceSub,Int.reduceAdd,Int.reduceNeg,Int.reduceLE,Int.reduceLT,Int.reduceEq,ne_eq,not_false_eq_true,not_true_eq_false,Int.cast_ofNat_Int,ht]
   rw [beq_eq_false_iff_ne.mpr hne]
   exact q _ (Same.refl _)
structure Fk (K:PySem.W.Frag) (H:Hp) (p:Addr) (x y:Int):Prop where
 at_:SqT K H p [.int x,.int y]
 pos:0 < y
 gcd:Int.gcd x y = 1
theorem Fk.same {K:PySem.W.Frag} {H H':Hp} {p:Addr} {x y:Int} (h:Fk K H p x y) (S:Same H H'):Fk K H' p x y:=⟨S.tup h.at_,h.pos,h.gcd⟩
def sp_is_ratio:Sp:=fun vs H Q _=>∃ p x y,vs = [.ref p]∧Fk K H p x y∧Q (.bl true) H
theorem ok_is_ratio {f:Addr} {fd:FuncData} (F:Fun K nm_is_ratio nm_is_ratio s_is_ratio f fd) (T:Txt K mg D) (G_is_whole:OkF P w K mg base 1 nm_is_whole ps_is_whole sp_whole) (G_divisor:OkF P w K mg base 1 nm_divisor ps_divisor sp_divisor):FnOk P w K mg base CX0 2 f fd ps_is_ratio (sp_is_ratio (K:=K)):=by
 refine F.ok sc_is_ratio (fun vs H Q E h=>?_) (fun cdv A outer s H vs Q E hr h=>?_)
 ·obtain ⟨p,x,y,rfl,_⟩:=h
  rfl
 ·obtain ⟨p,x,y,rfl,hf,q⟩:=h
  have hp:=hf.at_
  refine ⟨_,(pss_cons (ps_if (pw_or (pt_not (pt_tru (pe_callB (call_isi.or call_isiTup) (by rfl) T.b_isinstance boot_isinstance (pa_cons (pv 0) (pa_cons (pe_bltn (v:=.ty "tuple") (by rfl) T.b_tuple boot_tuple rfl) pa_nil))) (fun _=>rfl))) (pw_or1 (pt_cmpR op_ne (pe_callB call_lenK (by rfl) T.b_len PySem.boot_len (pa_cons (pv 0) pa_nil)) pe_int (nomark _)))).pt
    (pss_one (ps_ret pe_bl))
    pss_nil)
   (pss_cons (ps_set (i:=1) sc_is_ratio.nd rfl (Or.inl rfl) (pe_ix ix_tup (pv 0) pe_int (fun _ _=>rfl)))
   (pss_cons (ps_set (i:=2) sc_is_ratio.nd rfl (Or.inl rfl) (pe_ix ix_tup (pv 0) pe_int (fun _ _=>rfl)))
   (pss_cons (ps_if (pw_or (pt_not (pt_tru (pe_callF G_is_whole (hr.mono (by decide)) (by rfl) (pa_cons (pv 1) pa_nil)) (fun _=>rfl))) (pw_or1 (pt_not (pt_tru (pe_callF G_is_whole (hr.mono (by decide)) (by rfl) (pa_cons (pv 2) pa_nil)) (fun _=>rfl))))).pt
    (pss_one (ps_ret pe_bl))
    pss_nil)
   (pss_one (ps_ret (pe_and (pe_cmpR op_ge (pv 2) pe_int (nomark _)) (pe_one (pe_cmpR op_eq (pe_callF G_divisor (hr.mono (by decide)) (by rfl) (pa_cons (pv 1) (pa_cons (pv 2) pa_nil))) pe_int (nomark _)))))))))),?_⟩
  unfold sp_whole sp_divisor
  walk_at "rd"
  refine .inr ⟨⟨_,hp⟩,_,hp,?_⟩
  rw [if_neg (by simp)]
  refine ⟨_,hp,_,atI_0,_,hp,_,atI_1,_,tyS_int,?_⟩
  rw [if_neg (by decide)]
  refine ⟨_,tyS_int,?_⟩
  rw [if_neg (by decide)]
  have hy:=hf.pos
  refine ⟨y,rfl,?_⟩
  rw [if_pos (decide_eq_true (by omega))]
  refine ⟨x,rfl,y,rfl,?_⟩
  rw [hf.gcd]
  exact q
def sp_check_head:Sp:=fun vs H Q _=>∃ (n:Str) (p:Addr) (x y:Int),vs = [.str n,.ref p]∧n.length ≤ 1000∧wordB n.cps.toList = true∧Fk K H p x y∧Q .non H
theorem ok_check_head {f:Addr} {fd:FuncData} (F:Fun K nm_check_head nm_check_head s_check_head f fd) (T:Txt K mg D) (G_is_word:OkF P w K mg base 1 nm_is_word ps_is_word sp_isw) (G_is_ratio:OkF P w K mg base 2 nm_is_ratio ps_is_ratio (sp_is_ratio (K:=K))):FnOk P w K mg base (CXO P w) 3 f fd ps_check_head (sp_check_head (K:=K)):=by
 refine F.okX sc_check_head (fun vs H Q E h=>?_) (fun cdv A outer s H vs Q E hr h=>?_)
 ·obtain ⟨n,p,x,y,rfl,_⟩:=h
  rfl
 ·obtain ⟨n,p,x,y,rfl,hn,hw,hf,q⟩:=h
  refine ⟨_,(pss_cons (ps_if (pt_not (pt_tru (pe_callF G_is_word (hr.mono (by decide)) (by rfl) (pa_cons (pv 0) pa_nil)) (fun _=>rfl)))
    (pss_one (ps_raise rfl (by rfl) T.c_NoName T.x_NoName def_made (pa_cons pe_str pa_nil)))
    pss_nil)
   (pss_one (ps_if (pt_not (pt_tru (pe_callF G_is_ratio (hr.mono (by decide)) (by rfl) (pa_cons (pv 1) pa_nil)) (fun _=>rfl)))
    (pss_one (ps_raise rfl (by rfl) T.c_NoNumber T.x_NoNumber def_made (pa_cons pe_str pa_nil)))
    pss_nil))),?_⟩
  unfold sp_isw sp_is_ratio
  walk_at "rd"
  rw [hw]
  exact .inl ⟨hn,⟨x,y,hf⟩,q⟩
def sp_Door_init (D:Adr):Sp:=fun vs H Q _=>∃ (s dx C:Addr) (n:Str) (p:Addr) (x y:Int),vs = [.ref s,.str n,.ref p]∧H s = some (.ins C dx [])∧Fam D C∧n.length ≤ 1000∧wordB n.cps.toList = true∧Fk K H p x y ∧
 ∀ l,upd H s (.ins C dx [("name",.str n),("pay",.ref p)]) l = none→Q .non (upd (upd H l (.lst [])) s (.ins C dx [("name",.str n),("pay",.ref p),("leads",.ref l)]))
theorem ok_Door_init {f:Addr} {fd:FuncData} (F:Fun K nm_Door_init qn_Door_init s_Door_init f fd) (T:Txt K mg D) (G_check_headX:OkX P w K mg base 3 nm_check_head ps_check_head (sp_check_head (K:=K))):FnOk P w K mg base (CXO P w) 4 f fd ps_Door_init (sp_Door_init (K:=K) D):=by
 refine F.okX sc_Door_init (fun vs H Q E h=>?_) (fun cdv A outer s H vs Q E hr h=>?_)
 ·obtain ⟨s,dx,C,n,p,x,y,rfl,_⟩:=h
  rfl
 ·obtain ⟨o,dx,C,n,p,x,y,rfl,ho,hC,hn,hw,hf,q⟩:=h
  refine ⟨_,(pss_cons (ps_expr (pe_callX G_check_headX (hr.mono (by decide)) (by rfl) def_fly (pa_cons (pv 1) (pa_cons (pv 2) pa_nil))))
   (pss_cons (ps_fld (pv 0) (pv 1) rfl)
   (pss_cons (ps_fld (pv 0) (pv 2) rfl)
   (pss_one (ps_fld (pv 0) (pe_lst pa_nil) rfl))))),?_⟩
  unfold sp_check_head
  walk_at "rd"
  have cl:=T.cl C hC
  refine ⟨hn,hw,⟨x,y,hf⟩,C,dx,[],ho,cl,T.no_name C hC,(by decide),C,dx,_,rfl,cl,T.no_pay C hC,(by show 1 < 1000; decide),Nat.zero_le _,fun l hl=>?_⟩
  rw [upd_upd] at hl ⊢
  have ne:o ≠ l:=ne_of_none upd_same hl
  refine ⟨C,dx,_,(upd_ne ne).trans upd_same,cl,T.no_leads C hC,(by show 2 < 1000; decide),?_⟩
  have e:upd (upd (upd H o (.ins C dx (putF "pay" (.ref p) (putF "name" (.str n) [])))) l (.lst [])) o (.ins C dx (putF "leads" (.ref l) (putF "pay" (.ref p) (putF "name" (.str n) [])))) = upd (upd H l (.lst [])) o (.ins C dx [("name",.str n),("pay",.ref p),("leads",.ref l)]):=by
   funext b
   by_cases h1:b = o
   ·subst h1; rw [upd_same,upd_same]; rfl
   ·rw [upd_ne h1,upd_ne h1]
    by_cases h2:b = l
    ·subst h2; rw [upd_same,upd_same]
    ·rw [upd_ne h2,upd_ne h2,upd_ne h1]
  rw [e]
  exact q l hl
def sp_room_name:Sp:=fun vs H Q _=>∃ n:Str,vs = [.str n]∧n.length ≤ 1000∧wordB n.cps.toList = true∧Q .non H
theorem ok_check_room_name {f:Addr} {fd:FuncData} (F:Fun K nm_check_room_name nm_check_room_name s_check_room_name f fd) (T:Txt K mg D) (G_is_word:OkF P w K mg base 1 nm_is_word ps_is_word sp_isw):FnOk P w K mg base (CXO P w) 2 f fd ps_check_room_name sp_room_name:=by
 refine F.okX sc_check_room_name (fun vs H Q E h=>?_) (fun cdv A outer s H vs Q E hr h=>?_)
 ·obtain ⟨n,rfl,_⟩:=h
  rfl
 ·obtain ⟨n,rfl,hn,hw,q⟩:=h
  refine ⟨_,(pss_one (ps_if (pt_not (pt_tru (pe_callF G_is_word (hr.mono (by decide)) (by rfl) (pa_cons (pv 0) pa_nil)) (fun _=>rfl)))
    (pss_one (ps_raise rfl (by rfl) T.c_NoName T.x_NoName def_made (pa_cons pe_str pa_nil)))
    pss_nil)),?_⟩
  unfold sp_isw
  walk_at "rd"
  rw [hw]
  exact .inl ⟨hn,q⟩
structure Ck (K:PySem.W.Frag) (H:Hp) (p:Addr) (x y:Int):Prop where
 fk:Fk K H p x y
 lo:0 ≤ x
 hi:x ≤ y
 by_:Bd y
def sp_chance:Sp:=fun vs H Q _=>∃ p x y,vs = [.ref p]∧Ck K H p x y∧Q .non H
theorem ok_check_chance {f:Addr} {fd:FuncData} (F:Fun K nm_check_chance nm_check_chance s_check_chance f fd) (T:Txt K mg D) (G_is_ratio:OkF P w K mg base 2 nm_is_ratio ps_is_ratio (sp_is_ratio (K:=K))) (G_under:OkF P w K mg base 1 nm_under ps_under (sp_under (K:=K))):FnOk P w K mg base (CXO P w) 3 f fd ps_check_chance (sp_chance (K:=K)):=by
 refine F.okX sc_check_chance (fun vs H Q E h=>?_) (fun cdv A outer s H vs Q E hr h=>?_)
 ·obtain ⟨p,x,y,rfl,_⟩:=h
  rfl
 ·obtain ⟨p,x,y,rfl,hc,q⟩:=h
  refine ⟨_,(pss_one (ps_if (pw_or (pt_not (pt_tru (pe_callF G_is_ratio (hr.mono (by decide)) (by rfl) (pa_cons (pv 0) pa_nil)) (fun _=>rfl))) (pw_or (pt_tru (pe_callF G_under (hr.mono (by decide)) (by rfl) (pa_cons (pv 0) (pa_cons (pe_globT (by rfl) T.c_NOUGHT) pa_nil))) (fun _=>rfl)) (pw_or1 (pt_tru (pe_callF G_under (hr.mono (by decide)) (by rfl) (pa_cons (pe_globT (by rfl) T.c_ONE) (pa_cons (pv 0) pa_nil))) (fun _=>rfl))))).pt
    (pss_one (ps_raise rfl (by rfl) T.c_NoChance T.x_NoChance def_made (pa_cons pe_str pa_nil)))
    pss_nil)),?_⟩
  unfold sp_is_ratio sp_under
  walk_at "rd"
  have hy:=hc.fk.pos
  have lo:=hc.lo
  have hi:=hc.hi
  have by_:=hc.by_
  have bx:Bd x:=Nat.lt_of_le_of_lt (by omega:x.natAbs ≤ y.natAbs) by_
  have b0:Bd 0:=Nat.two_pow_pos 8000
  have b1:Bd 1:=Nat.one_lt_two_pow (by decide)
  refine ⟨⟨x,y,hc.fk⟩,x,y,hc.fk.at_,0,1,T.kt_NOUGHT H,bx,by_,b0,b1,?_⟩
  rw [if_neg (by simp; omega)]
  refine ⟨1,1,T.kt_ONE H,x,y,hc.fk.at_,b1,b1,bx,by_,?_⟩
  rw [if_neg (by simp; omega)]
  exact q
def sp_Sure_init (D:Adr):Sp:=fun vs H Q _=>∃ (s dx:Addr) (n m:Str) (p:Addr) (x y:Int),vs = [.ref s,.str n,.ref p,.str m]∧H s = some (.ins D.Sure dx [])∧n.length ≤ 1000∧wordB n.cps.toList = true∧m.length ≤ 1000∧wordB m.cps.toList = true∧Fk K H p x y ∧
 ∀ t l H',H l = none→(∀ b o,b ≠ s→H b = some o→H' b = some o)→H' t = some (.tup [.str m,.ref D.ONE])→H' l = some (.lst [.ref t])→H' s = some (.ins D.Sure dx [("name",.str n),("pay",.ref p),("leads",.ref l)])→Q .non H'
theorem ok_Sure_init {f:Addr} {fd:FuncData} (F:Fun K nm_Sure_init qn_Sure_init s_Sure_init f fd) (T:Txt K mg D) (G_Door_initX:OkI P w K mg base (CXO P w) 4 D.Door_init ps_Door_init (sp_Door_init (K:=K) D)) (G_check_room_nameX:OkX P w K mg base 2 nm_check_room_name ps_check_room_name sp_room_name):FnOk P w K mg base (CXO P w) 5 f fd ps_Sure_init (sp_Sure_init (K:=K) D):=by
 refine F.okX sc_Sure_init (fun vs H Q E h=>?_) (fun cdv A outer s H vs Q E hr h=>?_)
 ·obtain ⟨s,dx,n,m,p,x,y,rfl,_⟩:=h
  rfl
 ·obtain ⟨o,dx,n,m,p,x,y,rfl,ho,hn,hw,hm,hv,hf,q⟩:=h
  refine ⟨_,(pss_cons (ps_expr (pe_baseI T.by_Door_init G_Door_initX (hr.mono (by decide)) (by rfl) T.c_Door def_fly (pa_cons (pv 0) (pa_cons (pv 1) (pa_cons (pv 2) pa_nil)))))
   (pss_cons (ps_expr (pe_callX G_check_room_nameX (hr.mono (by decide)) (by rfl) def_fly (pa_cons (pv 3) pa_nil)))
   (pss_one (ps_fld (pv 0) (pe_lst (pa_cons (pe_tup (pa_cons (pv 3) (pa_cons (pe_globT (by rfl) T.c_ONE) pa_nil))) pa_nil)) rfl)))),?_⟩
  unfold sp_Door_init sp_room_name
  walk_at "rd"
  refine ⟨dx,D.Sure,ho,(by simp [Fam]),hn,hw,⟨x,y,hf⟩,fun l hl=>⟨hm,hv,(by decide),fun t ht=>⟨(by decide),fun r hq=>?_⟩⟩⟩
  have ol:o ≠ l:=ne_of_none upd_same hl
  have ot:o ≠ t:=ne_of_none upd_same ht
  have lt:l ≠ t:=ne_of_none ((upd_ne ol.symm).trans upd_same) ht
  have tr:t ≠ r:=ne_of_none upd_same hq
  have or_:o ≠ r:=ne_of_none ((upd_ne ot).trans upd_same) hq
  refine ⟨D.Sure,dx,_,(upd_ne or_).trans ((upd_ne ot).trans upd_same),T.cls_Sure,T.no_Sure_leads,(by show 3 < 1000; decide),?_⟩
  rw [upd_ne ol.symm] at hl
  rw [upd_ne ot.symm,upd_ne lt.symm] at ht
  rw [upd_ne tr.symm,upd_ne or_.symm] at hq
  refine q t r _ ?_ (fun b u hb hu=>?_) ?_ ?_ upd_same
  ·cases z:H r with
   | none=>rfl
   | some o' =>
    have bl:r ≠ l:=ne_of_none z hl
    rw [upd_ne bl,z] at hq
    cases hq
  ·have bl:b ≠ l:=ne_of_none hu hl
   have bt:b ≠ t:=ne_of_none hu ht
   have br:b ≠ r:=by
    intro e; subst e; rw [upd_ne bl,hu] at hq; cases hq
   rw [upd_ne hb,upd_ne br,upd_ne bt,upd_ne hb,upd_ne bl]; exact hu
  ·rw [upd_ne ot.symm,upd_ne tr]; exact upd_same
  ·rw [upd_ne or_.symm]; exact upd_same
theorem Bd.sm {i:Int} (h:i.natAbs < 18446744073709551616):Bd i:=Nat.lt_of_lt_of_le h (Nat.le_trans (by decide:18446744073709551616 ≤ 2 ^ 64) (Nat.pow_le_pow_right (by decide) (by decide)))
def sp_stream:Sp:=fun vs H Q _=>∃ (c:Int) (n:Nat),vs = [.int c,.int n]∧n ≤ 100∧∀ (l:Addr) (xs:List Int) H',Same H H'→H l = none→H' l = some (.lst (xs.map V.int))→xs.length = n→(∀ x ∈ xs,0 ≤ x∧x < 2000000000)→Q (.ref l) H'
def jS (c:Int) (n:Nat) (p:Addr) (H:Hp) (k:Nat) (σ:L2.St) (H':Hp):Prop:=∃ (xs:List Int) (m d:Int) (v:Option V),σ = [some (.int c),some (.int n),some (.ref p),some (.int m),some (.int d),v]∧(0 ≤ m∧m < 1999999973)∧0 ≤ d∧xs.length = k∧(∀ x ∈ xs,0 ≤ x∧x < 2000000000)∧Same H H'∧H' p = some (.lst (xs.map V.int))
theorem ok_stream {f:Addr} {fd:FuncData} (F:Fun K nm_stream nm_stream s_stream f fd) (T:Txt K mg D):FnOk P w K mg base CX0 1 f fd ps_stream sp_stream:=by
 refine F.ok sc_stream (fun vs H Q E h=>?_) (fun cdv A outer s H vs Q E hr h=>?_)
 ·obtain ⟨c,n,rfl,_⟩:=h
  rfl
 ·obtain ⟨c,n,rfl,hn,q⟩:=h
  refine ⟨_,(pss_cons (ps_set (i:=2) sc_stream.nd rfl (Or.inl rfl) (pe_lst pa_nil))
   (pss_cons (ps_set (i:=3) sc_stream.nd rfl (Or.inl rfl) (pe_op op_mod (pe_op op_mul (pe_op op_add (pe_op op_mod (pv 0) pe_int) pe_int) pe_int) pe_int))
   (pss_cons (ps_set (i:=4) sc_stream.nd rfl (Or.inl rfl) pe_int)
   (pss_cons (ps_if (pw_or (pt_cmpR op_lt (pv 0) pe_int (nomark _)) (pw_or1 (pt_cmpR op_ge (pv 0) (pe_op op_pow pe_int pe_int) (nomark _)))).pt
    (pss_one (ps_set (i:=4) sc_stream.nd rfl (Or.inl rfl) (pe_callB call_abs (by rfl) T.b_abs boot_abs (pa_cons (pv 0) pa_nil))))
    pss_nil)
   (pss_cons (ps_for PassesOwn.never rfl (pi_range1 (by rfl) T.b_range (pa_cons (pv 1) pa_nil).mono) (pg_name (i:=5) sc_stream.nd rfl (Or.inl rfl))
    (pss_cons (ps_set (i:=3) sc_stream.nd rfl (Or.inl rfl) (pe_op op_mod (pe_op op_add (pe_op op_add (pe_op op_mulB (pv 3) (pe_op op_add (pe_op op_mod (pv 3) pe_int) pe_int)) (pe_op op_mulB pe_int (pv 5))) pe_int) pe_int))
    (pss_cons (ps_expr (pe_app (pv 2) (pa_cons (pe_ix ix_listH (pe_lst (pa_cons (pv 3) (pa_cons (pe_op op_mod (pv 4) pe_int) pa_nil))) (pe_callTy call_int1 (by rfl) T.b_int boot_int (pa_cons (pe_cmpR op_gt (pv 4) pe_int (nomark _)) pa_nil)) (fun _ _=>rfl)) pa_nil)))
    (pss_one (ps_set (i:=4) sc_stream.nd rfl (Or.inl rfl) (pe_op op_fdivB (pv 4) pe_int))))))
   (pss_one (ps_ret (pv 2)))))))),?_⟩
  walk_at "rd"
  refine ⟨Nat.zero_le _,fun p hp=>⟨.inr (by constructor <;> decide),?_⟩⟩
  have m0:0 ≤ (c % 1999999973 + 31) * 765432101 % 1999999973∧(c % 1999999973 + 31) * 765432101 % 1999999973 < 1999999973:=⟨Int.emod_nonneg _ (by decide),Int.emod_lt_of_pos _ (by decide)⟩
  generalize (c % 1999999973 + 31) * 765432101 % 1999999973 = m at m0 ⊢
  have a0:0 ≤ (if c < 0 then -c else c):=by split <;> omega
  generalize (if c < 0 then -c else c) = d0 at a0 ⊢
  have go:∀ d:Int,0 ≤ d→jS c n p H 0 [some (.int c),some (.int n),some (.ref p),some (.int m),some (.int d),none] (upd H p (.lst [])):=fun d hd=>⟨[],m,d,none,rfl,m0,hd,rfl,(by simp),Same.upd hp,upd_same⟩
  have fin:∀ (σ':L2.St) (H':Hp),jS c n p H n σ' H'→∃ v,σ'[2]? = some (some v)∧Q v H':=by
   rintro σ' H' ⟨xs,m,d,v,rfl,_,_,h1,h2,h3,h4⟩
   exact ⟨_,rfl,q p xs H' h3 hp h4 h1 h2⟩
  refine ite2 (fun _=>?_) fun _=>⟨cpow (by decide) (by decide),ite2 (fun _=>?_) fun _=>?_⟩
  all_goals
   refine tFor_rngM ?_
   walk_at "rd"
   refine ⟨n,rfl,Nat.lt_of_le_of_lt hn (by decide),jS c n p H,go _ (by first | exact a0 | decide),?_,fin⟩
  all_goals
   rintro k σ' H' hk ⟨xs,m,d,v,rfl,hm,hd,h1,h2,h3,h4⟩
   walk_at "rd"
   have b1:Bd m:=Bd.sm (by omega)
   have b2:Bd (m % 65521 + 40487):=Bd.sm (by omega)
   have b3:Bd (k:Int):=Bd.sm (by omega)
   have nx:0 ≤ (m * (m % 65521 + 40487) + 7 * k + 5) % 1999999973∧(m * (m % 65521 + 40487) + 7 * k + 5) % 1999999973 < 1999999973:=⟨Int.emod_nonneg _ (by decide),Int.emod_lt_of_pos _ (by decide)⟩
   generalize (m * (m % 65521 + 40487) + 7 * (k:Int) + 5) % 1999999973 = z at nx ⊢
   refine ⟨b1,b2,Bd.sm (by decide),b3,⟨_,h4⟩,(by decide),fun r hq=>.inr ?_⟩
   have pr:p ≠ r:=ne_of_none h4 hq
   have dd:0 ≤ d.fdiv 1000000:=by rw [Int.fdiv_eq_ediv_of_nonneg _ (by decide)]; omega
   have fin:∀ x:Int,0 ≤ x∧x < 2000000000→jS c n p H (k + 1) [some (.int c),some (.int n),some (.ref p),some (.int z),some (.int (d.fdiv 1000000)),some (.int k)] (upd (upd H' r (.lst [.int z,.int (d % 1000000)])) p (.lst (xs.map V.int ++ [.int x]))):=by
    intro x hx
    refine ⟨xs ++ [x],z,_,_,rfl,nx,dd,by simp [h1],?_,?_,?_⟩
    ·intro y hy
     rcases List.mem_append.mp hy with hy | hy
     ·exact h2 y hy
     ·rw [List.mem_singleton.mp hy]; exact hx
    ·intro b o hb
     have bp:b ≠ p:=ne_of_none hb hp
     have br:b ≠ r:=ne_of_none (h3 b o hb) hq
     rw [upd_ne bp,upd_ne br]; exact h3 b o hb
    ·rw [List.map_append]; exact upd_same
   by_cases h0:0 < d
   ·rw [if_pos (decide_eq_true h0)]
    exact ⟨_,atI_1,_,(upd_ne pr).trans h4,by rw [List.length_map,h1]; exact Nat.lt_of_lt_of_le hk (Nat.le_trans hn (by decide)),Bd.sm (by decide),fin _ (by omega)⟩
   ·rw [if_neg (by simp; omega)]
    exact ⟨_,atI_0,_,(upd_ne pr).trans h4,by rw [List.length_map,h1]; exact Nat.lt_of_lt_of_le hk (Nat.le_trans hn (by decide)),Bd.sm (by decide),fin _ (by omega)⟩
def DoorAt (H:Hp) (D:Adr) (s:Addr) (n:Str) (p l:Addr):Prop:=∃ C dx,Fam D C∧H s = some (.ins C dx [("name",.str n),("pay",.ref p),("leads",.ref l)])
def sp_Door_ways (D:Adr):Sp:=fun vs H Q _=>∃ (s:Addr) (n:Str) (p l:Addr) (xs:List V),vs = [.ref s]∧DoorAt H D s n p l∧H l = some (.lst xs)∧xs.length ≤ 100∧∀ r,H r = none→Q (.ref r) (upd H r (.lst xs))
theorem ok_Door_ways {f:Addr} {fd:FuncData} (F:Fun K nm_Door_ways qn_Door_ways s_Door_ways f fd) (T:Txt K mg D):FnOk P w K mg base CX0 1 f fd ps_Door_ways (sp_Door_ways D):=by
 refine F.ok sc_Door_ways (fun vs H Q E h=>?_) (fun cdv A outer s H vs Q E hr h=>?_)
 ·obtain ⟨s,n,p,l,xs,rfl,_⟩:=h
  rfl
 ·obtain ⟨o,n,p,l,xs,rfl,⟨C,dx,hC,ho⟩,hl,hz,q⟩:=h
  refine ⟨_,(pss_one (ps_ret (pe_callTy call_listH (by rfl) T.b_list boot_list (pa_cons (pe_fld (pv 0) rfl) pa_nil)))),?_⟩
  walk_at "rd"
  exact ⟨C,dx,_,ho,T.cl C hC,T.no_leads C hC,_,rfl,l,rfl,xs,hl,q⟩
structure Ways (H:Hp) (xs:List V) (ws:List (Str × Addr)):Prop where
 len:xs.length = ws.length
 at_:∀ (k:Nat) (g:Str × Addr),ws[k]? = some g→∃ t,xs[k]? = some (.ref t)∧H t = some (.tup [.str g.1,.ref g.2])
theorem Ways.same {H H':Hp} {xs:List V} {ws:List (Str × Addr)} (h:Ways H xs ws) (S:Same H H'):Ways H' xs ws:=⟨h.len,fun k g e=>let ⟨t,a,b⟩:=h.at_ k g e; ⟨t,a,S _ _ b⟩⟩
def cell (ns:List Int) (k:Int):Int:=ns.getD k.toNat 0
def sp_cell (K:PySem.W.Frag) (a:Addr) (ns:List Int):Sp:=fun vs H Q _=>∃ (k:Int),vs = [.ref a,.int k]∧SqL K H a (ns.map V.int)∧ns.length ≤ 63∧0 ≤ k∧Q (.int (cell ns k)) H
theorem ok_cell {f:Addr} {fd:FuncData} (F:Fun K nm_cell nm_cell s_cell f fd) (a:Addr) (ns:List Int):FnOk P w K mg base CX0 1 f fd ps_cell (sp_cell K a ns):=by
 refine FnOk.clean (sp:=fun vs H Q _=>∃ (k:Int),vs = [.ref a,.int k]∧SqL K H a (ns.map V.int)∧ns.length ≤ 63∧0 ≤ k∧∀ H',Same H H'→Q (.int (cell ns k)) H')
  (F.ok sc_cell (fun vs H Q E h=>?_) (fun cdv A outer s H vs Q E hr h=>?_)) fun vs H Q E ⟨k,h1,h2,h3,h4,h5⟩=>⟨k,h1,h2,h3,h4,fun H' S=>⟨S,h5⟩⟩
 ·obtain ⟨k,rfl,_⟩:=h
  rfl
 ·obtain ⟨k,rfl,hs,hl,hk,q⟩:=h
  refine ⟨_,(pss_one (ps_ret (pe_ix ix_listH (pe_op op_cat (pe_slice sl_list (pv 0) (po_some (pv 1)) (po_some (pe_op op_add (pv 1) pe_int))) (pe_lst (pa_cons pe_int pa_nil))) pe_int (fun _ _=>rfl)))),?_⟩
  walk_at "rd"
  refine ⟨_,hs,fun p hp=>⟨line1,fun p1 hp1=>?_⟩⟩
  have n1:p ≠ p1:=ne_of_none upd_same hp1
  refine ⟨_,(upd_ne n1).trans upd_same,?_,fun p2 hp2=>⟨_,?_,q _ ?_⟩⟩
  ·refine line64 ?_
   have:=cutV_length (ns.map V.int) (some k) (some (k + 1))
   rw [List.length_map] at this
   omega
  ·have:=cut_one ns k.toNat
   rw [Int.toNat_of_nonneg hk] at this
   exact this
  ·exact ((Same.upd hp).trans (Same.upd hp1)).trans (Same.upd hp2)
structure Fq (f:Int × Int):Prop where
 pos:0 < f.2
 gcd:Int.gcd f.1 f.2 = 1
 sa:f.1.natAbs ≤ 10 ^ 40
 sb:f.2.natAbs ≤ 10 ^ 40
theorem Fq.ba {f:Int × Int} (h:Fq f):Bd f.1:=Nat.lt_of_le_of_lt h.sa (by decide +kernel)
theorem Fq.bb {f:Int × Int} (h:Fq f):Bd f.2:=Nat.lt_of_le_of_lt h.sb (by decide +kernel)
def botN (fs:List (Int × Int)):List Nat:=fs.map fun f=>f.2.natAbs
def lvB (fs:List (Int × Int)):Nat:=Lv.lcmL (botN fs)
def lvT (fs:List (Int × Int)):List Int:=fs.map fun f=>f.1 * ((lvB fs:Nat) / f.2)
theorem foldl_lcm_le {B:Nat} : ∀ (bs:List Nat) (a:Nat),0 < a→(∀ b ∈ bs,0 < b∧b ≤ B)→bs.foldl Nat.lcm a ≤ a * B ^ bs.length
  | [],a,_,_=>by simp
  | b :: bs,a,ha,hb=>by
    have h1:=hb b List.mem_cons_self
    have h2:=foldl_lcm_le bs (Nat.lcm a b) (Nat.lcm_pos ha h1.1) fun c hc=>hb c (List.mem_cons_of_mem _ hc)
    rw [List.foldl_cons,List.length_cons,Nat.pow_succ]
    refine Nat.le_trans h2 ?_
    have h3:Nat.lcm a b ≤ a * B:=Nat.le_trans (Nat.le_of_dvd (Nat.mul_pos ha h1.1) (Nat.lcm_dvd_mul a b)) (Nat.mul_le_mul_left a h1.2)
    calc Nat.lcm a b * B ^ bs.length ≤ a * B * B ^ bs.length:=Nat.mul_le_mul_right _ h3
      _ = a * (B ^ bs.length * B):=by rw [Nat.mul_assoc,Nat.mul_comm B]
theorem botN_pos {fs:List (Int × Int)} (h:∀ f ∈ fs,Fq f):∀ b ∈ botN fs,0 < b:=fun b hb=>by
 obtain ⟨f,hf,rfl⟩:=List.mem_map.mp hb
 have:=(h f hf).pos
 omega
theorem lvB_pos {fs:List (Int × Int)} (h:∀ f ∈ fs,Fq f):0 < lvB fs:=Lv.lcmL_pos (botN_pos h)
theorem lvB_le {fs:List (Int × Int)} (h:∀ f ∈ fs,Fq f) (hz:fs.length ≤ 41):lvB fs ≤ (10 ^ 40) ^ 41:=by
 have h1:=foldl_lcm_le (B:=10 ^ 40) (botN fs) 1 (by decide) fun b hb=>by
  obtain ⟨f,hf,rfl⟩:=List.mem_map.mp hb
  have:=(h f hf).pos
  exact ⟨by omega,(h f hf).sb⟩
 rw [Nat.one_mul] at h1
 refine Nat.le_trans h1 (Nat.pow_le_pow_right (by decide) ?_)
 unfold botN
 rw [List.length_map]
 exact hz
theorem lvB_bd {fs:List (Int × Int)} (h:∀ f ∈ fs,Fq f) (hz:fs.length ≤ 41):Bd (lvB fs:Nat):=by
 unfold Bd
 rw [Int.natAbs_natCast]
 exact Nat.lt_of_le_of_lt (lvB_le h hz) (by decide +kernel)
theorem all_take {fs:List (Int × Int)} (h:∀ f ∈ fs,Fq f) (k:Nat):∀ f ∈ fs.take k,Fq f:=fun f hf=>h f (List.mem_of_mem_take hf)
theorem take_next {α:Type} {l:List α} {k:Nat} {x:α} (h:l[k]? = some x):l.take (k + 1) = l.take k ++ [x]:=by
 rw [List.take_succ,h]; rfl
theorem lvB_next {fs:List (Int × Int)} {k:Nat} {f:Int × Int} (h:fs[k]? = some f):lvB (fs.take (k + 1)) = Nat.lcm (lvB (fs.take k)) f.2.natAbs:=by
 unfold lvB Lv.lcmL botN
 rw [take_next h,List.map_append,List.foldl_append]; rfl
theorem lcm_int {n:Nat} {b:Int} (hb:0 < b) (hn:0 < n):Int.fdiv (n:Int) (Int.gcd (n:Int) b:Nat) * b = (Nat.lcm n b.natAbs:Nat):=by
 obtain ⟨m,rfl⟩ : ∃ m:Nat,b = m:=⟨b.toNat,by omega⟩
 have hg:0 < Nat.gcd n m:=Nat.gcd_pos_of_pos_left m hn
 rw [show Int.gcd (n:Int) (m:Int) = Nat.gcd n m from rfl,Int.natAbs_natCast,fdiv_pos _ (by omega),← Int.natCast_ediv,← Int.natCast_mul]
 congr 1
 unfold Nat.lcm
 exact Nat.div_mul_right_comm (Nat.gcd_dvd_left n m) m
theorem dvd_lvB {fs:List (Int × Int)} {f:Int × Int} (hf:f ∈ fs) (hq:Fq f):f.2 ∣ (lvB fs:Nat):=by
 have h1:f.2.natAbs ∣ lvB fs:=Lv.dvd_lcmL (List.mem_map.mpr ⟨f,hf,rfl⟩)
 have:=Int.natCast_dvd_natCast.mpr h1
 rwa [Int.natAbs_of_nonneg (Int.le_of_lt hq.pos)] at this
def sp_level:Sp:=fun vs H Q _=>∃ (l:Addr) (xs:List V) (fs:List (Int × Int)),vs = [.ref l]∧H l = some (.lst xs)∧FL H xs fs∧(∀ f ∈ fs,Fq f)∧fs.length ≤ 41 ∧
 ∀ D p,H D = none→upd H D (.lst ((lvT fs).map V.int)) p = none→Q (.ref p) (upd (upd H D (.lst ((lvT fs).map V.int))) p (.tup [.ref D,.int (lvB fs:Nat)]))
def lJ (l:Addr) (fs:List (Int × Int)) (H1:Hp) (k:Nat) (σ:L2.St) (H:Hp):Prop:=∃ z,σ = [some (.ref l),some (.int (lvB (fs.take k):Nat)),z]∧H = H1
def lK (fs:List (Int × Int)) (D:Addr) (H1:Hp) (k:Nat) (ys:List V) (H:Hp):Prop:=ys = ((lvT fs).take k).map V.int∧H = upd H1 D (.lst ys)
theorem ok_level {f:Addr} {fd:FuncData} (F:Fun K nm_level nm_level s_level f fd) (G_divisor:OkF P w K mg base 1 nm_divisor ps_divisor sp_divisor):FnOk P w K mg base CX0 2 f fd ps_level sp_level:=by
 refine F.ok sc_level (fun vs H Q E h=>?_) (fun cdv A outer s H vs Q E hr h=>?_)
 ·obtain ⟨l,xs,fs,rfl,_⟩:=h
  rfl
 ·obtain ⟨l,xs,fs,rfl,hl,hf,hq,hz,q⟩:=h
  refine ⟨_,(pss_cons (ps_set (i:=1) sc_level.nd rfl (Or.inr rfl) pe_int)
   (pss_cons (ps_for PassesOwn.never rfl (pi_list ((pv 0)).mono) (pg_name (i:=2) sc_level.nd rfl (Or.inl rfl))
    (pss_one (ps_set (i:=1) sc_level.nd rfl (Or.inr rfl) (pe_op op_mulB (pe_op op_fdivB (pv 1) (pe_callF G_divisor (hr.mono (by decide)) (by rfl) (pa_cons (pv 1) (pa_cons (pe_ix ix_tupH (pv 2) pe_int (fun _ _=>rfl)) pa_nil)))) (pe_ix ix_tupH (pv 2) pe_int (fun _ _=>rfl))))))
   (pss_one (ps_ret (pe_tup (pa_cons (pe_compF (defScope s_level) ["fractions", "bottom", "one"] ["fractions", "bottom", "?"] rfl rfl rfl (by decide +kernel) (by decide +kernel) rfl (by decide +kernel) (by decide +kernel) rfl (by decide +kernel) (by decide +kernel) (by decide +kernel) (pi_list ((pv 0)).mono) (fun _ _ _ _ _=>((pe_op op_mulB (pe_ix ix_tupH (pv 0) pe_int (fun _ _=>rfl)) (pe_op op_fdivB (pv 2) (pe_ix ix_tupH (pv 0) pe_int (fun _ _=>rfl))))).mono)) (pa_cons (pv 1) pa_nil))))))),?_⟩
  unfold sp_divisor
  walk_at "rd"
  have hx:xs.length ≤ 41:=by rw [hf.length]; exact hz
  refine tFor_listM ⟨_,rfl,l,xs,rfl,hl,lJ l fs H,⟨none,rfl,rfl⟩,?_,?_⟩
  ·rintro k x σ' H' hk ⟨z,rfl,rfl⟩ _
   obtain ⟨p,g,rfl,hg,hp⟩:=hf.get hk
   have hm:=List.mem_of_getElem? hg
   have b0:=lvB_pos (all_take hq k)
   have b1:=lvB_bd (all_take hq k) (by rw [List.length_take]; omega)
   have g0:=gcd_pos (a:=((lvB (fs.take k):Nat):Int)) (b:=g.2) (Int.ne_of_gt (hq g hm).pos)
   have g1:=gcd_bd (a:=((lvB (fs.take k):Nat):Int)) (b:=g.2) (Int.ne_of_gt (hq g hm).pos) (hq g hm).bb
   walk_at "rd"
   simp only [hp]
   walk_at "rd"
   refine ⟨by omega,g1,?_,(hq g hm).bb,hl,some (.ref p),?_,rfl⟩
   ·rw [fdiv_pos _ g0]
    exact b1.div g0
   ·rw [lcm_int (hq g hm).pos b0,← lvB_next hg]
  ·rintro σ' H' ⟨z,rfl,rfl⟩ _
   walk_at "rd"
   have e0:fs.take xs.length = fs:=by rw [hf.length]; exact List.take_length
   rw [e0]
   refine tComp_listM ⟨_,rfl,l,xs,rfl,hl,Nat.le_trans hx (by decide),fun D hD=>⟨lK fs D H',⟨rfl,rfl⟩,?_,?_⟩⟩
   ·rintro k x ys Hc hk ⟨rfl,rfl⟩ _ ha
    obtain ⟨p,g,rfl,hg,hp⟩:=hf.get hk
    have hm:=List.mem_of_getElem? hg
    have hpD:upd H' D (.lst (((lvT fs).take k).map V.int)) p = some (.tup [.int g.1,.int g.2]):=(upd_ne (ne_of_none hp hD)).trans hp
    walk_at "rd"
    simp only [hpD]
    walk_at "rd"
    refine ⟨Int.ne_of_gt (hq g hm).pos,(hq g hm).bb,(hq g hm).ba,?_,ha,?_,upd_upd⟩
    ·rw [fdiv_pos _ (hq g hm).pos]
     exact (lvB_bd hq hz).div (hq g hm).pos
    ·rw [fdiv_pos _ (hq g hm).pos]
     have e1:(lvT fs)[k]? = some (g.1 * ((lvB fs:Nat) / g.2)):=by
      unfold lvT
      rw [List.getElem?_map,hg]; rfl
     rw [take_next e1,List.map_append]; rfl
   ·rintro ys Hc ⟨rfl,rfl⟩ _
    have e2:(lvT fs).take xs.length = lvT fs:=by
     refine List.take_of_length_le ?_
     unfold lvT
     rw [List.length_map,hf.length]
     exact Nat.le_refl _
    rw [e2]
    exact ⟨line2,fun p hp=>q D p hD hp⟩
def sp_total:Sp:=fun vs H Q _=>∃ (l:Addr) (xs:List V) (fs:List (Int × Int)),vs = [.ref l]∧H l = some (.lst xs)∧FL H xs fs∧(∀ f ∈ fs,Fq f)∧fs.length ≤ 41 ∧
 ∀ p x y,Low (lvT fs).sum (lvB fs:Nat) x y→H p = none→Q (.ref p) (upd H p (.tup [.int x,.int y]))
theorem ok_total {f:Addr} {fd:FuncData} (F:Fun K nm_total nm_total s_total f fd) (T:Txt K mg D) (G_level:OkF P w K mg base 2 nm_level ps_level sp_level) (G_ratio:OkF P w K mg base 2 nm_ratio ps_ratio sp_ratio):FnOk P w K mg base CX0 3 f fd ps_total sp_total:=by
 refine FnOk.cleanP (sp:=fun vs H Q _=>∃ (l:Addr) (xs:List V) (fs:List (Int × Int)),vs = [.ref l]∧H l = some (.lst xs)∧FL H xs fs∧(∀ f ∈ fs,Fq f)∧fs.length ≤ 41 ∧
   ∀ p x y H',Low (lvT fs).sum (lvB fs:Nat) x y→Same H H'→H p = none→H' p = some (.tup [.int x,.int y])→Q (.ref p) H')
  (F.ok sc_total (fun vs H Q E h=>?_) (fun cdv A outer s H vs Q E hr h=>?_)) fun vs H Q E ⟨l,xs,fs,h1,h2,h3,h4,h5,h6⟩=>⟨l,xs,fs,h1,h2,h3,h4,h5,fun p x y H' l S e1 e2=>⟨S,p,_,e2,e1,h6 p x y l e1⟩⟩
 ·obtain ⟨l,xs,fs,rfl,_⟩:=h
  rfl
 ·obtain ⟨l,xs,fs,rfl,hl,hf,hq,hz,q⟩:=h
  refine ⟨_,(pss_cons (ps_set (i:=1) sc_total.nd rfl (Or.inl rfl) (pe_callF G_level (hr.mono (by decide)) (by rfl) (pa_cons (pv 0) pa_nil)))
   (pss_one (ps_ret (pe_callF G_ratio (hr.mono (by decide)) (by rfl) (pa_cons (pe_callB (call_sumH rfl) (by rfl) T.b_sum boot_sum (pa_cons (pe_ix ix_tupH (pv 1) pe_int (fun _ _=>rfl)) pa_nil)) (pa_cons (pe_ix ix_tupH (pv 1) pe_int (fun _ _=>rfl)) pa_nil)))))),?_⟩
  unfold sp_level sp_ratio
  walk_at "rd"
  refine ⟨xs,hl,fs,hf,hq,hz,fun D p hD hp=>⟨lvT fs,(upd_ne (ne_of_none upd_same hp)).trans upd_same,?_,lvB_bd hq hz,fun p1 x y lw hp1=>?_⟩⟩
  ·have:=lvB_pos hq
   omega
  ·have S:=(Same.upd hD (o:=.lst ((lvT fs).map V.int))).trans (Same.upd hp (o:=.tup [.ref D,.int (lvB fs:Nat)]))
   exact q p1 x y _ lw (S.trans (Same.upd hp1)) (S.free hp1) upd_same
structure Pairs (H:Hp) (xs:List V) (ps:List (Str × Int × Int)):Prop where
 len:xs.length = ps.length
 at_:∀ (k:Nat) (g:Str × Int × Int),ps[k]? = some g→∃ t c:Addr,xs[k]? = some (.ref t)∧H t = some (.tup [.str g.1,.ref c])∧H c = some (.tup [.int g.2.1,.int g.2.2])
structure PairOk (g:Str × Int × Int):Prop where
 len:g.1.length ≤ 1000
 wd:wordB g.1.cps.toList = true
 pos:0 < g.2.2
 gcd:Int.gcd g.2.1 g.2.2 = 1
 lo:0 ≤ g.2.1
 hi:g.2.1 ≤ g.2.2
 fq:Fq g.2
def sp_check_pairs:Sp:=fun vs H Q _=>∃ (l:Addr) (xs:List V) (ps:List (Str × Int × Int)),vs = [.ref l]∧H l = some (.lst xs)∧Pairs H xs ps∧(∀ g ∈ ps,PairOk g)∧ps.length ≤ 41∧(∀ x y,Low (lvT (ps.map (·.2))).sum (lvB (ps.map (·.2)):Nat) x y→x = 1∧y = 1)∧∀ H',Same H H'→Q .non H'
def jP (l:Addr) (H:Hp) (_:Nat) (σ:L2.St) (H':Hp):Prop:=∃ u v,σ = [some (.ref l),u,v]∧H' = H
def jQ (D1:Addr) (ps:List (Str × Int × Int)) (H:Hp) (k:Nat) (ys:List V) (Hc:Hp):Prop:=FL H ys ((ps.map (·.2)).take k)∧Hc = upd H D1 (.lst ys)
theorem ok_check_pairs {f:Addr} {fd:FuncData} (F:Fun K nm_check_pairs nm_check_pairs s_check_pairs f fd) (T:Txt K mg D) (G_check_room_nameX:OkX P w K mg base 2 nm_check_room_name ps_check_room_name sp_room_name) (G_check_chanceX:OkX P w K mg base 3 nm_check_chance ps_check_chance (sp_chance (K:=K))) (G_totalX:OkX P w K mg base 3 nm_total ps_total sp_total):FnOk P w K mg base (CXO P w) 4 f fd ps_check_pairs sp_check_pairs:=by
 refine F.okX sc_check_pairs (fun vs H Q E h=>?_) (fun cdv A outer s H vs Q E hr h=>?_)
 ·obtain ⟨l,xs,ps,rfl,_⟩:=h
  rfl
 ·obtain ⟨l,xs,ps,rfl,hl,hp,hg,hz,h1,q⟩:=h
  refine ⟨_,(pss_cons (ps_for PassesOwn.leaving rfl (pi_list ((pv 0)).mono) (pg_tupH (n:=2) rfl (pgs_cons (pg_name (i:=1) sc_check_pairs.nd rfl (Or.inl rfl)) (pgs_cons (pg_name (i:=2) sc_check_pairs.nd rfl (Or.inl rfl)) pgs_nil)))
    (pss_cons (ps_expr (pe_callX G_check_room_nameX (hr.mono (by decide)) (by rfl) def_fly (pa_cons (pv 1) pa_nil)))
    (pss_one (ps_expr (pe_callX G_check_chanceX (hr.mono (by decide)) (by rfl) def_fly (pa_cons (pv 2) pa_nil))))))
   (pss_one (ps_if (pt_cmpR (op_neKK (K:=K) rfl hr.units) (pe_callX G_totalX (hr.mono (by decide)) (by rfl) def_fly (pa_cons (pe_compF (defScope s_check_pairs) ["pairs", "room", "chance"] ["pairs", "room", "chance"] rfl rfl rfl (by decide +kernel) (by decide +kernel) rfl (by decide +kernel) (by decide +kernel) rfl (by decide +kernel) (by decide +kernel) (by decide +kernel) (pi_list ((pv 0)).mono) (fun _ _ _ _ _=>((pe_ix ix_tupH (pv 0) pe_int (fun _ _=>rfl))).mono)) pa_nil)) (pe_globT (by rfl) T.c_ONE) (nomark _))
    (pss_one (ps_raise rfl (by rfl) T.c_NoChance T.x_NoChance def_made (pa_cons pe_str pa_nil)))
    pss_nil))),?_⟩
  unfold sp_room_name sp_chance sp_total
  walk_at "rd"
  refine tFor_listM ?_
  walk_at "rd"
  refine ⟨xs,hl,jP l H,⟨none,none,rfl,rfl⟩,?_,?_⟩
  ·rintro k x σ' H' hk ⟨u,v,rfl,rfl⟩ _
   have lk:k < ps.length:=by rw [← hp.len]; exact (List.getElem?_eq_some_iff.mp hk).1
   have e:ps[k]? = some ps[k]:=List.getElem?_eq_getElem lk
   have ok:=hg _ (List.getElem_mem lk)
   obtain ⟨t,c,a,b,d⟩:=hp.at_ k _ e
   rw [hk] at a
   cases a
   exact ⟨t,rfl,_,b,rfl,_,_,rfl,_,_,rfl,rfl,_,rfl,_,rfl,ok.len,ok.wd,_,rfl,c,rfl,⟨_,_,⟨.of d,ok.pos,ok.gcd⟩,ok.lo,ok.hi,ok.fq.bb⟩,hl,_,_,rfl,rfl⟩
  ·rintro σ' H' ⟨u,v,rfl,rfl⟩ _
   refine tComp_listM ?_
   walk_at "rd"
   refine ⟨xs,hl,by rw [hp.len]; exact Nat.le_trans hz (by decide),fun D1 hD=>⟨jQ D1 ps H',⟨.nil,rfl⟩,?_,?_⟩⟩
   ·rintro k x ys Hc hk ⟨hf,rfl⟩ hy _
    have lk:k < ps.length:=by rw [← hp.len]; exact (List.getElem?_eq_some_iff.mp hk).1
    have e:ps[k]? = some ps[k]:=List.getElem?_eq_getElem lk
    obtain ⟨t,c,a,b,d⟩:=hp.at_ k _ e
    rw [hk] at a
    cases a
    walk_at "rd"
    refine ⟨_,(upd_ne (ne_of_none b hD)).trans b,_,atI_1,(upd_ne (ne_of_none hl hD)).trans hl,?_,upd_upd⟩
    rw [List.take_succ,List.getElem?_map,e]
    exact hf.append (.one d)
   ·rintro ys Hc ⟨hf,rfl⟩ hy
    have hk:(ps.map (·.2)).take xs.length = ps.map (·.2):=by rw [hp.len,← List.length_map (f:=fun g:Str × Int × Int=>g.2),List.take_length]
    rw [hk] at hf
    refine ⟨ys,upd_same,_,hf.same (Same.upd hD),?_,by rw [List.length_map]; exact hz,fun p x y lo hn=>?_⟩
    ·intro g hm
     obtain ⟨g',hm',rfl⟩:=List.mem_map.mp hm
     exact (hg g' hm').fq
    ·obtain ⟨rfl,rfl⟩:=h1 x y lo
     refine ⟨_,.tup (.of upd_same) (ShowsAllK.ints K _ [1,1]),_,.tup (T.kt_ONE _) (ShowsAllK.ints K _ [1,1]),rfl,rfl,?_⟩
     rw [if_neg (by decide)]
     exact q _ ((Same.upd hD).trans (Same.upd hn))
inductive DA (H:Hp) (S:Int):List (Key × V)→List (Str × Int)→Prop
 | nil:DA H S [] []
 | cons {n:Str} {W:Int} {c:Addr} {kvs:List (Key × V)} {acc:List (Str × Int)} (h:H c = some (.tup [.int (Ac.lw W S).1,.int (Ac.lw W S).2])) (t:DA H S kvs acc):DA H S ((.inr n,.ref c) :: kvs) ((n,W) :: acc)
theorem DA.imp {H H':Hp} {S:Int} (h:∀ c x y,H c = some (.tup [.int x,.int y])→H' c = some (.tup [.int x,.int y])):∀ {kvs:List (Key × V)} {acc:List (Str × Int)},DA H S kvs acc→DA H' S kvs acc
 | _,_,.nil=>.nil
 | _,_,.cons a t=>.cons (h _ _ _ a) (t.imp h)
theorem DA.len {H:Hp} {S:Int} : ∀ {kvs:List (Key × V)} {acc:List (Str × Int)},DA H S kvs acc→kvs.length = acc.length
 | _,_,.nil=>rfl
 | _,_,.cons _ t=>congrArg (· + 1) t.len
theorem DA.keys {H:Hp} {S:Int} : ∀ {kvs:List (Key × V)} {acc:List (Str × Int)},DA H S kvs acc→kvs.map (·.1) = (acc.map (·.1)).map Sum.inr
 | _,_,.nil=>rfl
 | _,_,.cons _ t=>by rw [List.map_cons,List.map_cons,List.map_cons,t.keys]
theorem DA.val {H:Hp} {S:Int} (r:Str):∀ {kvs:List (Key × V)} {acc:List (Str × Int)},DA H S kvs acc→(valV kvs (.inr r) = none∧Ac.look acc r = 0)∨∃ c,valV kvs (.inr r) = some (.ref c)∧H c = some (.tup [.int (Ac.lw (Ac.look acc r) S).1,.int (Ac.lw (Ac.look acc r) S).2])
 | _,_,.nil=>.inl ⟨rfl,rfl⟩
 | _,_,.cons (n:=n) (W:=W) (c:=c) (kvs:=kvs) (acc:=acc) h t=>by
  by_cases e:n = r
  ·subst e
   refine .inr ⟨c,valV_pos rfl,?_⟩
   have:Ac.look ((n,W) :: acc) n = W:=by simp [Ac.look]
   rw [this]; exact h
  ·have e1:valV ((Sum.inr n,V.ref c) :: kvs) (Sum.inr r:Key) = valV kvs (.inr r):=valV_neg fun z=>e (Sum.inr.inj z)
   have e2:Ac.look ((n,W) :: acc) r = Ac.look acc r:=by simp [Ac.look,List.find?_cons,e]
   rw [e1,e2]
   exact t.val r
theorem DA.any {H:Hp} {S:Int} (r:Str):∀ {kvs:List (Key × V)} {acc:List (Str × Int)},DA H S kvs acc→(kvs.any fun kv=>decide (kv.1 = (.inr r:Key))) = acc.any fun g=>decide (g.1 = r)
 | _,_,.nil=>rfl
 | _,_,.cons (n:=n) _ t=>by
  rw [List.any_cons,List.any_cons,t.any r]
  congr 1
  by_cases e:n = r
  ·subst e; rw [decide_eq_true rfl,decide_eq_true rfl]
  ·rw [decide_eq_false e,decide_eq_false fun z=>e (Sum.inr.inj z)]
theorem DA.sets {H:Hp} {S y:Int} {c:Addr} {r:Str} (hc:H c = some (.tup [.int (Ac.lw y S).1,.int (Ac.lw y S).2])):∀ {kvs:List (Key × V)} {acc:List (Str × Int)},DA H S kvs acc→DA H S (kvs.map fun kv=>if kv.1 = (.inr r:Key) then (kv.1,.ref c) else kv) (acc.map fun g=>if g.1 = r then (g.1,y) else g)
 | _,_,.nil=>.nil
 | _,_,.cons (n:=n) (W:=W) (c:=c') h t=>by
  rw [List.map_cons,List.map_cons]
  by_cases e:n = r
  ·subst e
   rw [if_pos rfl,if_pos rfl]
   exact .cons hc (t.sets hc)
  ·rw [if_neg e,if_neg fun z=>e (Sum.inr.inj z)]
   exact .cons h (t.sets hc)
theorem DA.snoc {H:Hp} {S y:Int} {c:Addr} {r:Str} (hc:H c = some (.tup [.int (Ac.lw y S).1,.int (Ac.lw y S).2])):∀ {kvs:List (Key × V)} {acc:List (Str × Int)},DA H S kvs acc→DA H S (kvs ++ [(.inr r,.ref c)]) (acc ++ [(r,y)])
 | _,_,.nil=>.cons hc .nil
 | _,_,.cons h t=>.cons h (t.snoc hc)
theorem DA.put {H:Hp} {S y:Int} {c:Addr} {r:Str} {kvs:List (Key × V)} {acc:List (Str × Int)} (hc:H c = some (.tup [.int (Ac.lw y S).1,.int (Ac.lw y S).2])) (h:DA H S kvs acc):DA H S (putK kvs (.inr r) (.ref c)) (Ac.put acc r y):=by
 unfold putK Ac.put
 rw [h.any r]
 split
 ·exact h.sets hc
 ·exact h.snoc hc
theorem DA.get {H:Hp} {S:Int} : ∀ {kvs:List (Key × V)} {acc:List (Str × Int)} {i:Nat} {k:Key} {v:V},DA H S kvs acc→kvs[i]? = some (k,v)→∃ n W c,acc[i]? = some (n,W)∧k = .inr n∧v = .ref c∧H c = some (.tup [.int (Ac.lw W S).1,.int (Ac.lw W S).2])
 | _,_,_,_,_,.nil,e=>by simp at e
 | _,_,0,_,_,.cons h _,e=>by
  rw [List.getElem?_cons_zero] at e
  cases e
  exact ⟨_,_,_,rfl,rfl,rfl,h⟩
 | _,_,i + 1,_,_,.cons _ t,e=>t.get (by rw [List.getElem?_cons_succ] at e; exact e)
theorem valV_at:∀ {kvs:List (Key × V)} {i:Nat} {k:Key} {v:V},(kvs.map (·.1)).Nodup→kvs[i]? = some (k,v)→valV kvs k = some v
 | [],_,_,_,_,e=>by simp at e
 | p :: kvs,0,k,v,_,e=>by
  rw [List.getElem?_cons_zero] at e
  cases e
  exact valV_pos rfl
 | p :: kvs,i + 1,k,v,hn,e=>by
  rw [List.getElem?_cons_succ] at e
  rw [List.map_cons,List.nodup_cons] at hn
  rw [valV_neg fun z=>hn.1 (by rw [z]; exact List.mem_map.mpr ⟨(k,v),List.mem_of_getElem? e,rfl⟩)]
  exact valV_at hn.2 e
inductive WF (K:PySem.W.Frag) (H:Hp):List V→List (Str × Int × Int)→List (Str × Addr)→Prop
 | nil:WF K H [] [] []
 | cons {t c:Addr} {n:Str} {x y:Int} {xs:List V} {gs:List (Str × Int × Int)} {ws:List (Str × Addr)} (h1:H t = some (.tup [.str n,.ref c])) (h2:SqT K H c [.int x,.int y]) (r:WF K H xs gs ws):WF K H (.ref t :: xs) ((n,x,y) :: gs) ((n,c) :: ws)
theorem WF.imp {H H':Hp} (h:∀ t ys,H t = some (.tup ys)→H' t = some (.tup ys)) (h':∀ c xs,SqT K H c xs→SqT K H' c xs):∀ {xs:List V} {gs:List (Str × Int × Int)} {ws:List (Str × Addr)},WF K H xs gs ws→WF K H' xs gs ws
 | _,_,_,.nil=>.nil
 | _,_,_,.cons a b r=>.cons (h _ _ a) (h' _ _ b) (r.imp h h')
theorem WF.same {H H':Hp} (S:Same H H') {xs:List V} {gs:List (Str × Int × Int)} {ws:List (Str × Addr)} (h:WF K H xs gs ws):WF K H' xs gs ws:=h.imp (fun t ys e=>S _ _ e) fun c xs e=>S.tup e
theorem WF.updL {H:Hp} {l:Addr} {ys zs:List V} (hl:H l = some (.lst ys)) {xs:List V} {gs:List (Str × Int × Int)} {ws:List (Str × Addr)} (h:WF K H xs gs ws):WF K (upd H l (.lst zs)) xs gs ws :=
 h.imp (fun t us e=>(upd_ne (ne_of e hl (by intro z; cases z))).trans e) fun c xs e=>e.updO hl (by intro ys z; cases z) (by intro ob ys z; cases z)
theorem WF.snoc {H:Hp} {t c:Addr} {n:Str} {x y:Int} (h1:H t = some (.tup [.str n,.ref c])) (h2:SqT K H c [.int x,.int y]):∀ {xs:List V} {gs:List (Str × Int × Int)} {ws:List (Str × Addr)},WF K H xs gs ws→WF K H (xs ++ [.ref t]) (gs ++ [(n,x,y)]) (ws ++ [(n,c)])
 | _,_,_,.nil=>.cons h1 h2 .nil
 | _,_,_,.cons a b r=>.cons a b (r.snoc h1 h2)
theorem WF.ways {H:Hp} : ∀ {xs:List V} {gs:List (Str × Int × Int)} {ws:List (Str × Addr)},WF K H xs gs ws→Ways H xs ws
 | _,_,_,.nil=>⟨rfl,fun k g e=>by simp at e⟩
 | _,_,_,.cons a b r=>⟨congrArg (· + 1) r.ways.len,fun k g e=>by
  cases k with
  | zero =>
   rw [List.getElem?_cons_zero] at e
   cases e
   exact ⟨_,rfl,a⟩
  | succ k =>
   rw [List.getElem?_cons_succ] at e ⊢
   exact r.ways.at_ k g e⟩
def wpart (S:Int) (acc:List (Str × Int)):List (Str × Int × Int):=(acc.filter fun g=>decide (0 < g.2)).map fun g=>(g.1,Ac.lw g.2 S)
theorem wpart_next {S:Int} {acc:List (Str × Int)} {i:Nat} {n:Str} {W:Int} (h:acc[i]? = some (n,W)):wpart S (acc.take (i + 1)) = wpart S (acc.take i) ++ if 0 < W then [(n,Ac.lw W S)] else []:=by
 unfold wpart
 rw [List.take_succ,h,List.filter_append,List.map_append]
 congr 1
 show List.map _ (List.filter _ [(n,W)]) = _
 by_cases e:0 < W
 ·rw [if_pos e,List.filter_cons,if_pos (decide_eq_true e)]; rfl
 ·rw [if_neg e,List.filter_cons,if_neg (by simpa using e)]; rfl
structure PW (H:Hp) (xs:List V) (gs:List (Str × Int)) (S:Int):Prop where
 len:xs.length = gs.length
 at_:∀ (k:Nat) (g:Str × Int),gs[k]? = some g→∃ t c:Addr,xs[k]? = some (.ref t)∧H t = some (.tup [.str g.1,.ref c])∧H c = some (.tup [.int (Ac.lw g.2 S).1,.int (Ac.lw g.2 S).2])
theorem PW.imp {H H':Hp} (h':∀ t ys,H t = some (.tup ys)→H' t = some (.tup ys)) {xs:List V} {gs:List (Str × Int)} {S:Int} (h:PW H xs gs S):PW H' xs gs S:=⟨h.len,fun k g e=>let ⟨t,c,a,b,d⟩:=h.at_ k g e; ⟨t,c,a,h' _ _ b,h' _ _ d⟩⟩
theorem PW.same {H H':Hp} {xs:List V} {gs:List (Str × Int)} {S:Int} (h:PW H xs gs S) (T:Same H H'):PW H' xs gs S:=h.imp fun _ _ e=>T _ _ e
theorem PW.pairs {H:Hp} {xs:List V} {gs:List (Str × Int)} {S:Int} (h:PW H xs gs S):Pairs H xs (gs.map fun g=>(g.1,Ac.lw g.2 S)):=⟨by rw [h.len,List.length_map],fun k g e=>by
 rw [List.getElem?_map] at e
 cases e0:gs[k]? with
 | none=>rw [e0] at e; cases e
 | some g0 =>
  rw [e0] at e
  cases e
  exact h.at_ k g0 e0⟩
structure Wt (gs:List (Str × Int)) (S:Int):Prop where
 pos:0 < S
 le:S ≤ 10 ^ 20
 len:gs.length ≤ 8
 wd:∀ g ∈ gs,g.1.length ≤ 1000∧wordB g.1.cps.toList = true
 lo:∀ g ∈ gs,0 ≤ g.2
 sum:(gs.map (·.2)).sum = S
theorem bd20 {i:Int} (h:i.natAbs ≤ 10 ^ 20):Bd i:=Nat.lt_of_le_of_lt h (by decide +kernel)
theorem sum_mem {gs:List (Str × Int)} : (∀ g ∈ gs,0 ≤ g.2)→0 ≤ (gs.map (·.2)).sum∧∀ g ∈ gs,g.2 ≤ (gs.map (·.2)).sum:=by
 induction gs with
 | nil=>intro _; exact ⟨by simp,by simp⟩
 | cons a gs ih =>
  intro h
  obtain ⟨h1,h2⟩:=ih fun g hg=>h g (List.mem_cons_of_mem _ hg)
  have h0:=h a List.mem_cons_self
  rw [List.map_cons,List.sum_cons]
  refine ⟨by omega,fun g hg=>?_⟩
  rcases List.mem_cons.mp hg with rfl | hg
  ·omega
  ·have:=h2 g hg
   omega
theorem Wt.hi {gs:List (Str × Int)} {S:Int} (h:Wt gs S) {g:Str × Int} (hg:g ∈ gs):g.2 ≤ S:=by
 rw [← h.sum]; exact (sum_mem h.lo).2 g hg
theorem Wt.pair {gs:List (Str × Int)} {S:Int} (h:Wt gs S) {g:Str × Int} (hg:g ∈ gs):PairOk (g.1,Ac.lw g.2 S):=by
 have p:=h.pos
 have l:=h.le
 have lo:=h.lo g hg
 have hi:=h.hi hg
 have p2:=Ac.lw_pos (t:=g.2) p
 have g1:=Ac.lw_gcd (t:=g.2) p
 exact ⟨(h.wd g hg).1,(h.wd g hg).2,p2,g1,Ac.lw_lo p lo,Ac.lw_hi p hi,p2,g1,Nat.le_trans (Ac.lw_b1 _ _) (Nat.le_trans (by omega:g.2.natAbs ≤ 10 ^ 20) (by decide)),Nat.le_trans (Ac.lw_b2 _ _) (Nat.le_trans (by omega:S.natAbs ≤ 10 ^ 20) (by decide))⟩
theorem eqv_two (a b c d:Int):PyData.eqv (.tuple (List.map PyData.int [a,b])) (.tuple (List.map PyData.int [c,d])) = (decide (a = c) && decide (b = d)):=by
 simp [PyData.eqv,PyData.eqvAll]
 rfl
def sp_joined (K:PySem.W.Frag):Sp:=fun vs H Q _=>∃ (l:Addr) (xs:List V) (gs:List (Str × Int)) (S:Int),vs = [.ref l]∧H l = some (.lst xs)∧PW H xs gs S∧Wt gs S ∧
 ∀ H' r ys ws,Same H H'→H r = none→H' r = some (.lst ys)→WF K H' ys (Ac.ways gs S) ws→Q (.ref r) H'
def jJ (l d:Addr) (gs:List (Str × Int)) (S:Int) (H:Hp) (k:Nat) (σ:L2.St) (H':Hp):Prop:=∃ u v kvs,σ = [some (.ref l),some (.ref d),u,v]∧Same H H'∧H' d = some (.dK kvs)∧DA H' S kvs (Ac.accs (gs.take k))
def jC (K:PySem.W.Frag) (acc:List (Str × Int)) (S:Int) (d D1:Addr) (u:HO) (H:Hp) (i:Nat) (ys:List V) (Hc:Hp):Prop:=Same (upd H d u) Hc∧Hc D1 = some (.lst ys)∧∃ ws,WF K Hc ys (wpart S (acc.take i)) ws
theorem ok_joined_ways {f:Addr} {fd:FuncData} (F:Fun K nm_joined_ways nm_joined_ways s_joined_ways f fd) (T:Txt K mg D) (G_plusX:OkX P w K mg base 3 nm_plus ps_plus (sp_sum (K:=K) (· + ·))):FnOk P w K mg base (CXO P w) 4 f fd ps_joined_ways (sp_joined K):=by
 refine F.okX sc_joined_ways (fun vs H Q E h=>?_) (fun cdv A outer s H vs Q E hr h=>?_)
 ·obtain ⟨l,xs,gs,S,rfl,_⟩:=h
  rfl
 ·obtain ⟨l,xs,gs,S,rfl,hl,hp,W,q⟩:=h
  have p0:=W.pos
  have sle:=W.le
  refine ⟨_,(pss_cons (ps_set (i:=1) sc_joined_ways.nd rfl (Or.inr rfl) pe_dnewK)
   (pss_cons (ps_for PassesOwn.leaving rfl (pi_list ((pv 0)).mono) (pg_tupH (n:=2) rfl (pgs_cons (pg_name (i:=2) sc_joined_ways.nd rfl (Or.inl rfl)) (pgs_cons (pg_name (i:=3) sc_joined_ways.nd rfl (Or.inl rfl)) pgs_nil)))
    (pss_one (ps_dput (hu_of hr) (pv 1) (pv 2) (pe_callX G_plusX (hr.mono (by decide)) (by rfl) def_fly (pa_cons (pe_dget2 (hu_of hr) (pv 1) (pv 2) (pe_globT (by rfl) T.c_NOUGHT) (by first | exact ⟨rfl,rfl,rfl,rfl,rfl⟩ | constructor <;> rfl)) (pa_cons (pv 3) pa_nil))) rfl)))
   (pss_one (ps_ret (pe_compGF (defScope s_joined_ways) ["pairs", "chances", "room", "chance"] ["pairs", "chances", "?room", "chance"] ["room"] rfl rfl rfl (by decide +kernel) (by decide +kernel) rfl (by decide +kernel) (by decide +kernel) (by decide +kernel) (by decide +kernel) (by decide +kernel) (pi_dict ((pv 1)).mono) (fun _ _ _ _ _=>(pg_name (i:=0) (show List.Nodup (["room", "pairs", "chances", "?room", "chance"] : List Str) from by decide +kernel) rfl (Or.inl rfl) (Or.inr rfl))) (fun _ _ _ _ _=>(pts_one (pt_cmpR (op_neKK (K:=K) rfl hr.units) (pe_dget (hu_of hr) (pv 2) (pv 0) (fun _ _=>rfl)) (pe_globT (by rfl) T.c_NOUGHT) (nomark _)))) (fun _ _ _ _ _=>(pe_tup (pa_cons (pv 0) (pa_cons (pe_dget (hu_of hr) (pv 2) (pv 0) (fun _ _=>rfl)) pa_nil))))))))),?_⟩
  unfold sp_sum
  walk_at "rd"
  refine fun d hd=>tFor_listM ?_
  walk_at "rd"
  have ld:l ≠ d:=ne_of_none hl hd
  refine ⟨xs,(upd_ne ld).trans hl,jJ l d gs S H,⟨none,none,[],rfl,Same.upd hd,upd_same,.nil⟩,?_,?_⟩
  ·rintro k x σ' H' hk ⟨u,v,kvs,rfl,S1,h1,da⟩ _
   have lk:k < gs.length:=by rw [← hp.len]; exact (List.getElem?_eq_some_iff.mp hk).1
   have e:gs[k]? = some gs[k]:=List.getElem?_eq_getElem lk
   have hm:=List.getElem_mem lk
   obtain ⟨t,c,a,b,cc⟩:=hp.at_ k _ e
   rw [hk] at a
   cases a
   generalize gs[k] = g at *
   obtain ⟨n,x⟩:=g
   have wx:=W.hi hm
   have wl:=W.lo _ hm
   have al:=Ac.accs_all (gs.take k) fun g hg=>W.lo g (List.mem_of_mem_take hg)
   have st:((gs.take k).map (·.2)).sum ≤ S:=by
    have e1:gs.map (·.2) = (gs.take k).map (·.2) ++ (gs.drop k).map (·.2):=by rw [← List.map_append,List.take_append_drop]
    have e2:=(sum_mem (gs:=gs.drop k) fun g hg=>W.lo g (List.mem_of_mem_drop hg)).1
    have e3:=W.sum
    rw [e1,List.sum_append] at e3
    omega
   have look:0 ≤ Ac.look (Ac.accs (gs.take k)) n∧(Ac.look (Ac.accs (gs.take k)) n).natAbs ≤ 10 ^ 20:=by
    rcases Ac.look_mem (Ac.accs (gs.take k)) n with e0 | ⟨g,hg,e0⟩
    ·rw [e0]; exact ⟨Int.le_refl _,by decide⟩
    ·rw [e0]
     have:=al.2.2 g hg
     omega
   obtain ⟨cq,hq,sq⟩ : ∃ cq,(valV kvs (.inr n)).getD (.ref D.NOUGHT) = .ref cq∧SqT K H' cq [.int (Ac.lw (Ac.look (Ac.accs (gs.take k)) n) S).1,.int (Ac.lw (Ac.look (Ac.accs (gs.take k)) n) S).2]:=by
    rcases da.val n with ⟨e1,e2⟩ | ⟨c',e1,e2⟩
    ·rw [e1,e2,((Ac.lw_nought p0).mpr rfl).1,((Ac.lw_nought p0).mpr rfl).2]
     exact ⟨_,rfl,T.kt_NOUGHT H'⟩
    ·rw [e1]
     exact ⟨c',rfl,.of e2⟩
   walk_at "rd"
   have q1:=Ac.lw_pos (t:=Ac.look (Ac.accs (gs.take k)) n) p0
   have q2:=Ac.lw_pos (t:=x) p0
   have d1:=Nat.le_trans (Ac.lw_b1 (Ac.look (Ac.accs (gs.take k)) n) S) look.2
   have d2:=Nat.le_trans (Ac.lw_b2 (Ac.look (Ac.accs (gs.take k)) n) S) (by omega:S.natAbs ≤ 10 ^ 20)
   have d3:=Nat.le_trans (Ac.lw_b1 x S) (by have:x ≤ S:=wx; have:0 ≤ x:=wl; omega:x.natAbs ≤ 10 ^ 20)
   have d4:=Nat.le_trans (Ac.lw_b2 x S) (by omega:S.natAbs ≤ 10 ^ 20)
   have d5:Bd ((Ac.lw (Ac.look (Ac.accs (gs.take k)) n) S).2 * (Ac.lw x S).2):=by
    refine Nat.lt_of_le_of_lt (m:=10 ^ 20 * 10 ^ 20) ?_ (by decide +kernel)
    rw [Int.natAbs_mul]
    exact Nat.mul_le_mul d2 d4
   have hlen:kvs.length < sizeLine:=by
    have h9:9 < sizeLine:=by decide
    have:=al.2.1
    have:=W.len
    rw [da.len]
    rw [List.length_take] at *
    omega
   refine ⟨_,S1 _ _ b,rfl,_,_,rfl,_,_,rfl,rfl,.inl ⟨kvs,.inl h1⟩,_,DGet.k (k:=.inr n) h1,cq,hq,c,rfl,_,_,sq,_,_,.of (S1 _ _ cc),bd20 d1,bd20 d2,bd20 d3,bd20 d4,q1,q2,d5,fun r z o lo hr=>?_⟩
   have rd:d ≠ r:=ne_of_none h1 hr
   refine ⟨_,DPut.k (k:=.inr n) ((upd_ne rd).trans h1) hlen,(upd_ne ld).trans ((upd_ne (ne_of_none ‹H' l = some (HO.lst xs)› hr)).trans ‹H' l = some (HO.lst xs)›),_,_,_,rfl,?_,upd_same,?_⟩
   ·intro b' o' e'
    rw [upd_ne (ne_of_none e' hd),upd_ne (ne_of_none (S1 _ _ e') hr)]
    exact S1 _ _ e'
   ·obtain ⟨ez,eo⟩:=Ac.lw_add p0 lo.pos lo.gcd lo.eq
    rw [take_next e,Ac.accs_snoc]
    refine DA.put ?_ (da.imp fun c' x' y' e'=>?_)
    ·rw [upd_ne rd.symm,← ez,← eo]; exact upd_same
    ·rw [upd_ne (ne_of e' h1 (by intro z; cases z)),upd_ne (ne_of_none e' hr)]; exact e'
  ·rintro σ' H' ⟨u,v,kvs,rfl,S1,h1,da⟩ _
   refine tCompG_dict ?_
   have e8:gs.take xs.length = gs:=by rw [hp.len,List.take_length]
   rw [e8] at da
   have al:=Ac.accs_all gs W.lo
   have nd:(kvs.map (·.1)).Nodup:=by
    rw [da.keys]
    exact al.1.map (f:=Sum.inr) (S:=(· ≠ ·)) fun a b h z=>h (Sum.inr.inj z)
   have hlen:kvs.length ≤ sizeLine:=by
    have h9:9 < sizeLine:=by decide
    have:=al.2.1
    have:=W.len
    rw [da.len]
    omega
   walk_at "rd"
   refine ⟨kvs,h1,hlen,fun o D1 hD1=>⟨jC K (Ac.accs gs) S d D1 (.frz o (.dK kvs)) H',⟨Same.upd hD1,upd_same,[],.nil⟩,?_,?_⟩⟩
   ·rintro i k y ys Hc hi ⟨S2,hD,ws,wf⟩ hy hfr pre hpre
    obtain ⟨u0,rfl⟩:=List.length_eq_one_iff.mp hpre
    obtain ⟨nm,X,c,ea,rfl,rfl,hc⟩:=da.get hi
    have vv:=valV_at nd hi
    have hcd:c ≠ d:=ne_of hc h1 (by intro z; cases z)
    have hcc:Hc c = some (.tup [.int (Ac.lw X S).1,.int (Ac.lw X S).2]):=S2 _ _ ((upd_ne hcd).trans hc)
    walk_at "rd"
    have dg:DGet Hc d (kV (.inr nm)) (some (.ref c)):=.inl ⟨kvs,.inr nm,.inr ⟨o,hfr⟩,rfl,vv.symm⟩
    refine ⟨[some (.str nm)],rfl,rfl,_,dg,_,.tup (.of hcc) (ShowsAllK.ints K _ [_,_]),_,.tup (T.kt_NOUGHT _) (ShowsAllK.ints K _ [0,1]),rfl,rfl,?_⟩
    have X0:=(al.2.2 _ (List.mem_of_getElem? ea)).1
    by_cases hX:X = 0
    ·subst hX
     obtain ⟨e1,e2⟩:=(Ac.lw_nought (b:=S) p0).mpr rfl
     rw [show PyData.eqv (.tuple (List.map PyData.int [(Ac.lw 0 S).1,(Ac.lw 0 S).2])) (.tuple (List.map PyData.int [0,1])) = true by rw [e1,e2]; rfl]
     refine ⟨hfr,S2,hD,ws,?_⟩
     rw [wpart_next ea,if_neg (by decide),List.append_nil]
     exact wf
    ·have e0:PyData.eqv (.tuple (List.map PyData.int [(Ac.lw X S).1,(Ac.lw X S).2])) (.tuple (List.map PyData.int [0,1])) = false:=by
      rw [eqv_two]
      simp only [Bool.and_eq_false_iff,decide_eq_false_iff_not]
      by_cases h1:(Ac.lw X S).1 = 0
      ·exact .inr fun h2=>hX ((Ac.lw_nought p0).mp ⟨h1,h2⟩)
      ·exact .inl h1
     rw [e0]
     refine ⟨_,dg,line2,fun p hp=>?_⟩
     have pD:D1 ≠ p:=ne_of_none hD hp
     have pd:d ≠ p:=ne_of_none hfr hp
     refine ⟨(upd_ne pD).trans hD,(upd_ne pd).trans hfr,?_,upd_same,ws ++ [(nm,c)],?_⟩
     ·intro b' o' e'
      rw [upd_ne (ne_of_none e' hD1),upd_ne (ne_of_none (S2 _ _ e') hp)]
      exact S2 _ _ e'
     ·rw [wpart_next ea,if_pos (by omega)]
      exact WF.updL ((upd_ne pD).trans hD) ((wf.same (Same.upd hp)).snoc upd_same (.of ((upd_ne (ne_of_none hcc hp)).trans hcc)))
   ·rintro ys Hc ⟨S2,hD,ws,wf⟩ _
    rw [da.len,List.take_length] at wf
    refine q _ D1 ys ws ?_ ?_ hD wf
    ·intro b o' e'
     exact S2 _ _ ((upd_ne (ne_of_none e' hd)).trans (S1 _ _ e'))
    ·cases z:H D1 with
     | none=>rfl
     | some o' =>
      have:=(upd_ne (H:=H') (o:=.frz o (.dK kvs)) (ne_of_none z hd)).trans (S1 _ _ z)
      rw [this] at hD1
      cases hD1
theorem wt_top {gs:List (Str × Int)} {S:Int} (W:Wt gs S):∀ (hs:List (Str × Int)) (L:Int),(∀ g ∈ hs,g ∈ gs∧(Ac.lw g.2 S).2 ∣ L)→((hs.map fun g=>(Ac.lw g.2 S).1 * (L / (Ac.lw g.2 S).2)).sum) * S = (hs.map (·.2)).sum * L
 | [],L,_=>by simp
 | g :: hs,L,h=>by
  have ih:=wt_top W hs L fun g hg=>h g (List.mem_cons_of_mem _ hg)
  obtain ⟨hm,q,hq⟩:=h g List.mem_cons_self
  have p:=Ac.lw_pos (t:=g.2) W.pos
  have e:=Ac.lw_eq (t:=g.2) W.pos
  rw [List.map_cons,List.sum_cons,List.map_cons,List.sum_cons,Int.add_mul,Int.add_mul,ih]
  congr 1
  generalize (Ac.lw g.2 S).1 = a at *
  generalize (Ac.lw g.2 S).2 = b at *
  rw [hq,Int.mul_ediv_cancel_left _ (Int.ne_of_gt p),Int.mul_right_comm,e,Int.mul_assoc]
theorem wt_total {gs:List (Str × Int)} {S:Int} (W:Wt gs S):∀ x y,Low (lvT ((gs.map fun g=>(g.1,Ac.lw g.2 S)).map (·.2))).sum (lvB ((gs.map fun g=>(g.1,Ac.lw g.2 S)).map (·.2)):Nat) x y→x = 1∧y = 1:=by
 intro x y lo
 have hq:∀ f ∈ ((gs.map fun g=>(g.1,Ac.lw g.2 S)).map (·.2)),Fq f:=by
  intro f hf
  obtain ⟨u,hu,rfl⟩:=List.mem_map.mp hf
  obtain ⟨g,hg,rfl⟩:=List.mem_map.mp hu
  exact (W.pair hg).fq
 have e0:(gs.map fun g=>(g.1,Ac.lw g.2 S)).map (·.2) = gs.map fun g=>Ac.lw g.2 S:=by rw [List.map_map]; rfl
 have bp:=lvB_pos hq
 have top:=wt_top W gs (lvB ((gs.map fun g=>(g.1,Ac.lw g.2 S)).map (·.2)):Nat) fun g hg=>⟨hg,dvd_lvB (f:=Ac.lw g.2 S) (List.mem_map.mpr ⟨(g.1,Ac.lw g.2 S),List.mem_map.mpr ⟨g,hg,rfl⟩,rfl⟩) (W.pair hg).fq⟩
 have e1:(lvT ((gs.map fun g=>(g.1,Ac.lw g.2 S)).map (·.2))).sum = (gs.map fun g=>(Ac.lw g.2 S).1 * ((lvB ((gs.map fun g=>(g.1,Ac.lw g.2 S)).map (·.2)):Nat) / (Ac.lw g.2 S).2)).sum:=by
  unfold lvT
  rw [List.map_map,List.map_map]; rfl
 rw [← e1,W.sum,Int.mul_comm S] at top
 have e2:=Int.eq_of_mul_eq_mul_right (Int.ne_of_gt W.pos) top
 rw [e2] at lo
 have h:=lo.eq
 rw [Int.mul_comm _ y] at h
 have e3:x = y:=Int.eq_of_mul_eq_mul_right (by omega) h
 subst e3
 have g:=lo.gcd
 have p:=lo.pos
 rw [Int.gcd_self] at g
 omega
def Keep (s:Addr) (H H':Hp):Prop:=∀ b o,b ≠ s→H b = some o→H' b = some o
theorem Keep.tup {s C dx:Addr} {fs:List (Str × V)} {H H':Hp} (h:Keep s H H') (hs:H s = some (.ins C dx fs)):∀ t ys,H t = some (.tup ys)→H' t = some (.tup ys):=fun t ys e=>h t _ (ne_of e hs (by intro z; cases z)) e
theorem Keep.lst {s C dx:Addr} {fs:List (Str × V)} {H H':Hp} (h:Keep s H H') (hs:H s = some (.ins C dx fs)) {t:Addr} {ys:List V} (e:H t = some (.lst ys)):H' t = some (.lst ys):=h t _ (ne_of e hs (by intro z; cases z)) e
theorem Keep.free {s r:Addr} {o:HO} {H H':Hp} (h:Keep s H H') (hr:H' r = none) (hs:H' s = some o):H r = none:=by
 cases z:H r with
 | none=>rfl
 | some u =>
  have:=h r u (ne_of_none hs hr).symm z
  rw [hr] at this
  cases this
theorem WF.updI {H:Hp} {o C dx:Addr} {fs:List (Str × V)} {u:HO} (ho:H o = some (.ins C dx fs)) {xs:List V} {gs:List (Str × Int × Int)} {ws:List (Str × Addr)} (h:WF K H xs gs ws):WF K (upd H o u) xs gs ws :=
 h.imp (fun t us e=>(upd_ne (ne_of e ho (by intro z; cases z))).trans e) fun c xs e=>e.updO ho (by intro ys z; cases z) (by intro ob ys z; cases z)
theorem PW.snoc {H:Hp} {xs:List V} {gs:List (Str × Int)} {S:Int} (h:PW H xs gs S) {t c:Addr} {g:Str × Int} (h1:H t = some (.tup [.str g.1,.ref c])) (h2:H c = some (.tup [.int (Ac.lw g.2 S).1,.int (Ac.lw g.2 S).2])):PW H (xs ++ [.ref t]) (gs ++ [g]) S:=by
 refine ⟨by rw [List.length_append,List.length_append,h.len]; rfl,fun k u e=>?_⟩
 by_cases hk:k < gs.length
 ·rw [List.getElem?_append_left hk] at e
  rw [List.getElem?_append_left (by rw [h.len]; exact hk)]
  exact h.at_ k u e
 ·rw [List.getElem?_append_right (by omega)] at e
  rw [List.getElem?_append_right (by rw [h.len]; omega),h.len]
  have e0:k - gs.length = 0:=by
   cases e1:k - gs.length with
   | zero=>rfl
   | succ m=>rw [e1] at e; simp at e
  rw [e0,List.getElem?_cons_zero] at e
  cases e
  rw [e0]
  exact ⟨t,c,rfl,h1,h2⟩
structure Door1 (K:PySem.W.Frag) (H:Hp) (s C:Addr) (n:Str) (p:Addr) (ds:List (Str × Int × Int)) (ld:Addr) (ys:List V) (ws:List (Str × Addr)):Prop where
 at_:∃ dx,H s = some (.ins C dx [("name",.str n),("pay",.ref p),("leads",.ref ld)])
 hl:H ld = some (.lst ys)
 wf:WF K H ys ds ws
def sp_Mixed_init (K:PySem.W.Frag) (D:Adr):Sp:=fun vs H Q _=>∃ (s dx C:Addr) (n:Str) (p l:Addr) (x y:Int) (xs:List V) (gs:List (Str × Int)) (S:Int),vs = [.ref s,.str n,.ref p,.ref l]∧H s = some (.ins C dx [])∧Fam D C∧n.length ≤ 1000∧wordB n.cps.toList = true∧Fk K H p x y ∧
 H l = some (.lst xs)∧PW H xs gs S∧Wt gs S∧∀ H' ld ys ws,H ld = none→Keep s H H'→Door1 K H' s C n p (Ac.ways gs S) ld ys ws→Q .non H'
theorem ok_Mixed_init {f:Addr} {fd:FuncData} (F:Fun K nm_Mixed_init qn_Mixed_init s_Mixed_init f fd) (T:Txt K mg D) (G_Door_initX:OkI P w K mg base (CXO P w) 4 D.Door_init ps_Door_init (sp_Door_init (K:=K) D)) (G_check_pairsX:OkX P w K mg base 4 nm_check_pairs ps_check_pairs sp_check_pairs)
  (G_joined_waysX:OkX P w K mg base 4 nm_joined_ways ps_joined_ways (sp_joined K)):FnOk P w K mg base (CXO P w) 5 f fd ps_Mixed_init (sp_Mixed_init K D):=by
 refine F.okX sc_Mixed_init (fun vs H Q E h=>?_) (fun cdv A outer s H vs Q E hr h=>?_)
 ·obtain ⟨s,dx,C,n,p,l,x,y,xs,gs,S,rfl,_⟩:=h
  rfl
 ·obtain ⟨o,dx,C,n,p,l,x,y,xs,gs,S,rfl,ho,hC,hn,hw,hf,hl,hp,W,q⟩:=h
  refine ⟨_,(pss_cons (ps_expr (pe_baseI T.by_Door_init G_Door_initX (hr.mono (by decide)) (by rfl) T.c_Door def_fly (pa_cons (pv 0) (pa_cons (pv 1) (pa_cons (pv 2) pa_nil)))))
   (pss_cons (ps_expr (pe_callX G_check_pairsX (hr.mono (by decide)) (by rfl) def_fly (pa_cons (pv 3) pa_nil)))
   (pss_one (ps_fld (pv 0) (pe_callX G_joined_waysX (hr.mono (by decide)) (by rfl) def_fly (pa_cons (pv 3) pa_nil)) rfl)))),?_⟩
  unfold sp_Door_init sp_check_pairs sp_joined
  walk_at "rd"
  refine ⟨dx,C,ho,hC,hn,hw,⟨x,y,hf⟩,fun l0 h0=>?_⟩
  have ol:o ≠ l0:=ne_of_none upd_same h0
  rw [upd_ne ol.symm] at h0
  have k1:Keep o H (upd (upd H l0 (.lst [])) o (.ins C dx [("name",.str n),("pay",.ref p),("leads",.ref l0)])):=fun b u hb e=>(upd_ne hb).trans ((upd_ne (ne_of_none e h0)).trans e)
  have o1:upd (upd H l0 (.lst [])) o (.ins C dx [("name",.str n),("pay",.ref p),("leads",.ref l0)]) o = some (.ins C dx [("name",.str n),("pay",.ref p),("leads",.ref l0)]):=upd_same
  generalize upd (upd H l0 (.lst [])) o (.ins C dx [("name",.str n),("pay",.ref p),("leads",.ref l0)]) = H1 at k1 o1 ⊢
  refine ⟨xs,k1.lst ho hl,_,(hp.imp (k1.tup ho)).pairs,?_,?_,wt_total W,fun H2 S2=>?_⟩
  ·intro g hg
   obtain ⟨u,hu,rfl⟩:=List.mem_map.mp hg
   exact W.pair hu
  ·rw [List.length_map]
   exact Nat.le_trans W.len (by decide)
  ·refine ⟨xs,S2 _ _ (k1.lst ho hl),gs,S,(hp.imp (k1.tup ho)).same S2,W,fun H3 r ys ws S3 hr3 hr hwf=>?_⟩
   have o3:=S3 _ _ (S2 _ _ o1)
   refine ⟨C,dx,_,o3,T.cl C hC,T.no_leads C hC,(by show 3 < 1000; decide),?_⟩
   refine q _ r ys ws (k1.free (S2.free hr3) o1) (fun b u hb e=>(upd_ne hb).trans (S3 _ _ (S2 _ _ (k1 b u hb e)))) ⟨⟨dx,upd_same⟩,(upd_ne (ne_of hr o3 (by intro z; cases z))).trans hr,hwf.updI o3⟩
def sp_Toss_init (K:PySem.W.Frag) (D:Adr):Sp:=fun vs H Q _=>∃ (s dx:Addr) (n r1 r2:Str) (p c:Addr) (x y w S:Int),vs = [.ref s,.str n,.ref p,.ref c,.str r1,.str r2]∧H s = some (.ins D.Toss dx [])∧n.length ≤ 1000∧wordB n.cps.toList = true∧Fk K H p x y ∧
 H c = some (.tup [.int (Ac.lw w S).1,.int (Ac.lw w S).2])∧Wt [(r1,w),(r2,S - w)] S∧∀ H' ld ys ws,H ld = none→Keep s H H'→Door1 K H' s D.Toss n p (Ac.ways [(r1,w),(r2,S - w)] S) ld ys ws→Q .non H'
theorem ok_Toss_init {f:Addr} {fd:FuncData} (F:Fun K nm_Toss_init qn_Toss_init s_Toss_init f fd) (T:Txt K mg D) (G_check_headX:OkX P w K mg base 3 nm_check_head ps_check_head (sp_check_head (K:=K))) (G_check_chanceX:OkX P w K mg base 3 nm_check_chance ps_check_chance (sp_chance (K:=K))) (G_minusX:OkX P w K mg base 3 nm_minus ps_minus (sp_sum (K:=K) (· - ·)))
  (G_Mixed_initX:OkI P w K mg base (CXO P w) 5 D.Mixed_init ps_Mixed_init (sp_Mixed_init K D)):FnOk P w K mg base (CXO P w) 6 f fd ps_Toss_init (sp_Toss_init K D):=by
 refine F.okX sc_Toss_init (fun vs H Q E h=>?_) (fun cdv A outer s H vs Q E hr h=>?_)
 ·obtain ⟨s,dx,n,r1,r2,p,c,x,y,w,S,rfl,_⟩:=h
  rfl
 ·obtain ⟨o,dx,n,r1,r2,p,c,x,y,w,S,rfl,ho,hn,hw,hf,hc,W,q⟩:=h
  refine ⟨_,(pss_cons (ps_expr (pe_callX G_check_headX (hr.mono (by decide)) (by rfl) def_fly (pa_cons (pv 1) (pa_cons (pv 2) pa_nil))))
   (pss_cons (ps_expr (pe_callX G_check_chanceX (hr.mono (by decide)) (by rfl) def_fly (pa_cons (pv 3) pa_nil)))
   (pss_one (ps_expr (pe_baseI T.by_Mixed_init G_Mixed_initX (hr.mono (by decide)) (by rfl) T.c_Mixed def_fly (pa_cons (pv 0) (pa_cons (pv 1) (pa_cons (pv 2) (pa_cons (pe_lst (pa_cons (pe_tup (pa_cons (pv 4) (pa_cons (pv 3) pa_nil))) (pa_cons (pe_tup (pa_cons (pv 5) (pa_cons (pe_callX G_minusX (hr.mono (by decide)) (by rfl) def_fly (pa_cons (pe_globT (by rfl) T.c_ONE) (pa_cons (pv 3) pa_nil))) pa_nil))) pa_nil))) pa_nil))))))))),?_⟩
  unfold sp_check_head sp_chance sp_sum sp_Mixed_init
  walk_at "rd"
  have p0:=W.pos
  have sle:=W.le
  have w0:0 ≤ w:=W.lo (r1,w) (by simp)
  have w1:w ≤ S:=W.hi (g:=(r1,w)) (by simp)
  have q2:=Ac.lw_pos (t:=w) p0
  have b3:=bd20 (Nat.le_trans (Ac.lw_b1 w S) (by omega:w.natAbs ≤ 10 ^ 20))
  have b4:=bd20 (Nat.le_trans (Ac.lw_b2 w S) (by omega:S.natAbs ≤ 10 ^ 20))
  have b1:Bd 1:=Bd.sm (by decide)
  refine ⟨hn,hw,⟨x,y,hf⟩,⟨_,_,⟨.of hc,q2,Ac.lw_gcd p0⟩,Ac.lw_lo p0 w0,Ac.lw_hi p0 w1,b4⟩,line2,fun p1 h1=>⟨1,1,T.kt_ONE _,_,_,.of (Same.upd h1 _ _ hc),b1,b1,b3,b4,by decide,q2,by rw [Int.one_mul]; exact b4,fun r z o1 lo hr=>⟨line2,fun p2 h2=>⟨line2,fun p3 h3=>?_⟩⟩⟩⟩
  have T2:Same (upd H p1 (.tup [.str r1,.ref c])) (upd (upd H p1 (.tup [.str r1,.ref c])) r (.tup [.int z,.int o1])):=Same.upd hr
  have T3:Same (upd (upd H p1 (.tup [.str r1,.ref c])) r (.tup [.int z,.int o1])) (upd (upd (upd H p1 (.tup [.str r1,.ref c])) r (.tup [.int z,.int o1])) p2 (.tup [.str r2,.ref r])):=Same.upd h2
  have T4:Same (upd (upd (upd H p1 (.tup [.str r1,.ref c])) r (.tup [.int z,.int o1])) p2 (.tup [.str r2,.ref r])) (upd (upd (upd (upd H p1 (.tup [.str r1,.ref c])) r (.tup [.int z,.int o1])) p2 (.tup [.str r2,.ref r])) p3 (.lst [.ref p1,.ref p2])):=Same.upd h3
  have TS:Same H (upd (upd (upd (upd H p1 (.tup [.str r1,.ref c])) r (.tup [.int z,.int o1])) p2 (.tup [.str r2,.ref r])) p3 (.lst [.ref p1,.ref p2])):=(Same.upd h1).trans (T2.trans (T3.trans T4))
  have e1:=T4 _ _ (T3 _ _ (T2 p1 _ upd_same))
  have e2:=T4 _ _ (T3 r _ upd_same)
  have e3:=T4 p2 _ upd_same
  obtain ⟨ez,eo⟩:=Ac.lw_rest p0 lo.pos lo.gcd lo.eq
  generalize upd (upd (upd (upd H p1 (.tup [.str r1,.ref c])) r (.tup [.int z,.int o1])) p2 (.tup [.str r2,.ref r])) p3 (.lst [.ref p1,.ref p2]) = Hn at TS e1 e2 e3 ⊢
  refine ⟨dx,D.Toss,TS _ _ ho,(by simp [Fam]),hn,hw,⟨x,y,hf.same TS⟩,[(r1,w),(r2,S - w)],S,⟨rfl,fun k g e=>?_⟩,W,fun H' ld ys ws f k d=>q H' ld ys ws (TS.free f) (fun b u hb e=>k b u hb (TS b u e)) d⟩
  match k,e with
  | 0,e =>
   cases e
   exact ⟨p1,c,rfl,e1,TS _ _ hc⟩
  | 1,e =>
   cases e
   exact ⟨p2,r,rfl,e3,by rw [← ez,← eo]; exact e2⟩
  | k + 2,e=>cases e
def jE (D1:Addr) (rs:List Str) (H:Hp) (k:Nat) (ys:List V) (Hc:Hp):Prop:=PW Hc ys ((rs.map fun r=>(r,(1:Int))).take k) rs.length∧Same H Hc∧Hc D1 = some (.lst ys)
def sp_Even_init (K:PySem.W.Frag) (D:Adr):Sp:=fun vs H Q _=>∃ (s dx:Addr) (n:Str) (p l:Addr) (x y:Int) (rs:List Str),vs = [.ref s,.str n,.ref p,.ref l]∧H s = some (.ins D.Even dx [])∧n.length ≤ 1000∧wordB n.cps.toList = true∧Fk K H p x y ∧
 H l = some (.lst (rs.map V.str))∧Wt (rs.map fun r=>(r,(1:Int))) rs.length∧∀ H' ld ys ws,H ld = none→Keep s H H'→Door1 K H' s D.Even n p (Ac.ways (rs.map fun r=>(r,(1:Int))) rs.length) ld ys ws→Q .non H'
theorem ok_Even_init {f:Addr} {fd:FuncData} (F:Fun K nm_Even_init qn_Even_init s_Even_init f fd) (T:Txt K mg D) (G_Mixed_initX:OkI P w K mg base (CXO P w) 5 D.Mixed_init ps_Mixed_init (sp_Mixed_init K D)):FnOk P w K mg base (CXO P w) 6 f fd ps_Even_init (sp_Even_init K D):=by
 refine F.okX sc_Even_init (fun vs H Q E h=>?_) (fun cdv A outer s H vs Q E hr h=>?_)
 ·obtain ⟨s,dx,n,p,l,x,y,rs,rfl,_⟩:=h
  rfl
 ·obtain ⟨o,dx,n,p,l,x,y,rs,rfl,ho,hn,hw,hf,hl,W,q⟩:=h
  refine ⟨_,(pss_one (ps_expr (pe_baseI T.by_Mixed_init G_Mixed_initX (hr.mono (by decide)) (by rfl) T.c_Mixed def_fly (pa_cons (pv 0) (pa_cons (pv 1) (pa_cons (pv 2) (pa_cons (pe_compF (defScope s_Even_init) ["self", "name", "pay", "rooms"] ["self", "name", "pay", "rooms"] rfl rfl rfl (by decide +kernel) (by decide +kernel) rfl (by decide +kernel) (by decide +kernel) rfl (by decide +kernel) (by decide +kernel) (by decide +kernel) (pi_list ((pv 3)).mono) (fun _ _ _ _ _=>((pe_tup (pa_cons (pv 0) (pa_cons (pe_tup (pa_cons pe_int (pa_cons (pe_callB call_lenL (by rfl) T.b_len PySem.boot_len (pa_cons (pv 4) pa_nil)) pa_nil))) pa_nil)))).mono)) pa_nil))))))),?_⟩
  unfold sp_Mixed_init
  walk_at "rd"
  refine tComp_listM ?_
  walk_at "rd"
  have l8:=W.len
  rw [List.length_map] at l8
  have p0:=W.pos
  have z9:9 < sizeLine:=by decide
  refine ⟨_,hl,by rw [List.length_map]; omega,fun D1 hD=>⟨jE D1 rs H,⟨⟨rfl,fun k g e=>by simp at e⟩,Same.upd hD,upd_same⟩,?_,?_⟩⟩
  ·rintro k x1 ys Hc hk ⟨pw,S1,hD1⟩ hy hlc
   rw [List.getElem?_map] at hk
   cases er:rs[k]? with
   | none=>rw [er] at hk; cases hk
   | some r =>
    rw [er] at hk
    cases hk
    refine ⟨_,hlc,line2,fun p1 hp1=>⟨line2,fun p2 hp2=>?_⟩⟩
    have T1:Same Hc (upd (upd Hc p1 (.tup [.int 1,.int (rs.map V.str).length])) p2 (.tup [.str r,.ref p1])):=(Same.upd hp1).trans (Same.upd hp2)
    have e1:upd (upd Hc p1 (.tup [.int 1,.int (rs.map V.str).length])) p2 (.tup [.str r,.ref p1]) p1 = some (.tup [.int 1,.int (rs.map V.str).length]):=Same.upd hp2 p1 _ upd_same
    have e2:upd (upd Hc p1 (.tup [.int 1,.int (rs.map V.str).length])) p2 (.tup [.str r,.ref p1]) p2 = some (.tup [.str r,.ref p1]):=upd_same
    generalize upd (upd Hc p1 (.tup [.int 1,.int (rs.map V.str).length])) p2 (.tup [.str r,.ref p1]) = Hn at T1 e1 e2 ⊢
    have nD:∀ t us,Hn t = some (.tup us)→upd Hn D1 (.lst (ys ++ [.ref p2])) t = some (.tup us):=fun t us e=>(upd_ne (ne_of e (T1 _ _ hD1) (by intro z; cases z))).trans e
    refine ⟨T1 _ _ hD1,T1 _ _ hlc,?_,?_,upd_same⟩
    ·rw [List.take_succ,List.getElem?_map,er]
     refine ((pw.same T1).imp nD).snoc (c:=p1) (nD _ _ e2) ?_
     obtain ⟨h1,h2⟩:=Ac.lw_one p0
     show _ = some (HO.tup [.int (Ac.lw 1 (rs.length:Int)).1,.int (Ac.lw 1 (rs.length:Int)).2])
     rw [h1,h2,nD _ _ e1,List.length_map]
    ·intro b u e
     rw [upd_ne (ne_of_none e hD)]
     exact T1 _ _ (S1 _ _ e)
  ·rintro ys Hc ⟨pw,S1,hD1⟩ hy
   have ek:(rs.map fun r=>(r,(1:Int))).take (rs.map V.str).length = rs.map fun r=>(r,(1:Int)):=List.take_of_length_le (by rw [List.length_map,List.length_map]; exact Nat.le_refl _)
   rw [ek] at pw
   exact ⟨dx,D.Even,S1 _ _ ho,(by simp [Fam]),hn,hw,⟨x,y,hf.same S1⟩,ys,hD1,_,_,pw,W,fun H' ld ys ws f k d=>q H' ld ys ws (S1.free f) (fun b u hb e=>k b u hb (S1 b u e)) d⟩
def Lt (x:Str):Prop:=x.cps.toList.all letC = true
theorem add_cps (x y:Str):(x ++ y).cps.toList = x.cps.toList ++ y.cps.toList:=by
 show (x.cps ++ y.cps).toList = _
 rw [Array.toList_append]
theorem len_add (x y:Str):(x ++ y).length = x.length + y.length:=by
 show (x.cps ++ y.cps).size = _
 rw [Array.size_append]; rfl
theorem atI_some {α:Type} {xs:List α} {i:Int} (h0:0 ≤ i) (h1:i < xs.length):∃ v,atI xs i = some v∧v ∈ xs:=by
 obtain ⟨n,rfl⟩:=Int.eq_ofNat_of_zero_le h0
 have hn:n < xs.length:=by omega
 exact ⟨xs[n],atI_nat (List.getElem?_eq_getElem hn),List.getElem_mem hn⟩
theorem Lt.one {i:Int} (h0:0 ≤ i) (h1:i < 26):∃ c,atI (Str.ofString "abcdefghijklmnopqrstuvwxyz").cps.toList i = some c∧Lt ⟨#[c]⟩:=by
 have l1:(Str.ofString "abcdefghijklmnopqrstuvwxyz").cps.toList.length = 26:=by decide +kernel
 obtain ⟨v,e,e2⟩:=atI_some (xs:=(Str.ofString "abcdefghijklmnopqrstuvwxyz").cps.toList) h0 (by rw [l1]; exact h1)
 refine ⟨v,e,?_⟩
 unfold Lt letC
 simp only [List.all_cons,List.all_nil,Bool.and_true,decide_eq_true_eq]
 exact e2
structure Wd (x:Str):Prop where
 lt:Lt x
 lo:1 ≤ x.length
 hi:x.length ≤ 8
theorem Wd.word {x:Str} (h:Wd x):wordB x.cps.toList = true:=by
 have l:=h.lt
 have lo:=h.lo
 have hi:=h.hi
 have hl:x.cps.toList.length = x.length:=Array.length_toList
 unfold Lt at l
 unfold wordB
 rw [l,hl,decide_eq_true lo,decide_eq_true hi]; rfl
theorem Lt.fold:∀ (ys:List Str) (acc:Array Nat),acc.toList.all letC = true→(∀ y ∈ ys,Lt y)→(ys.foldl (fun acc p=>acc ++ (Str.ofString "").cps ++ p.cps) acc).toList.all letC = true
 | [],acc,h,_=>h
 | y :: ys,acc,h,hy=>by
  rw [List.foldl_cons]
  refine Lt.fold ys _ ?_ fun z hz=>hy z (List.mem_cons_of_mem _ hz)
  have e0:(Str.ofString "").cps = #[]:=by decide +kernel
  have hy0:y.cps.toList.all letC = true:=hy y List.mem_cons_self
  rw [e0,Array.append_empty,Array.toList_append,List.all_append,h,hy0]; rfl
theorem Lt.glued {ys:List Str} (h:∀ y ∈ ys,Lt y):Lt (Txt.join (Str.ofString "") ys):=by
 show ((ys.drop 1).foldl (fun acc p=>acc ++ (Str.ofString "").cps ++ p.cps) (ys.headD Str.empty).cps).toList.all letC = true
 refine Lt.fold _ _ ?_ fun y hy=>h y (List.mem_of_mem_drop hy)
 cases ys with
 | nil=>rfl
 | cons y ys=>exact h y List.mem_cons_self
def numKo (ns:List Str) (o:Nat):List (Key × V):=(ns.zipIdx o).map fun g=>(.inr g.1,.int (g.2:Nat))
abbrev numK (ns:List Str):List (Key × V):=numKo ns 0
theorem numK_len {ns:List Str} {o:Nat} : (numKo ns o).length = ns.length:=by unfold numKo; rw [List.length_map,List.length_zipIdx]
theorem numK_cons {n:Str} {ns:List Str} {o:Nat} : numKo (n :: ns) o = (.inr n,.int (o:Nat)) :: numKo ns (o + 1):=by unfold numKo; rw [List.zipIdx_cons]; rfl
theorem numK_no {n:Str} : ∀ {ns:List Str} {o:Nat},n ∉ ns→valV (numKo ns o) (.inr n) = none
 | [],_,_=>rfl
 | a :: ns,o,h=>by
  rw [numK_cons]
  have ne:¬ (Sum.inr a:Key) = .inr n:=fun z=>h (by injection z with z; rw [z]; exact List.mem_cons_self)
  unfold valV
  rw [List.find?_cons,decide_eq_false ne]
  exact numK_no fun m=>h (List.mem_cons_of_mem _ m)
theorem numK_val {n:Str} : ∀ {ns:List Str} {o k:Nat},ns.Nodup→ns[k]? = some n→valV (numKo ns o) (.inr n) = some (.int ((o + k:Nat):Int))
 | [],_,_,_,h=>by simp at h
 | a :: ns,o,0,_,h=>by
  rw [List.getElem?_cons_zero] at h
  cases h
  rw [numK_cons]
  unfold valV
  rw [List.find?_cons,decide_eq_true rfl]; rfl
 | a :: ns,o,k + 1,nd,h=>by
  rw [List.getElem?_cons_succ] at h
  obtain ⟨na,nd'⟩:=List.nodup_cons.mp nd
  have ne:¬ (Sum.inr a:Key) = .inr n:=fun z=>na (by injection z with z; rw [z]; exact List.mem_of_getElem? h)
  have ih:=numK_val (o:=o + 1) nd' h
  rw [numK_cons]
  unfold valV at ih ⊢
  rw [List.find?_cons,decide_eq_false ne]
  rw [show o + (k + 1) = o + 1 + k by omega]
  exact ih
theorem numK_put {n:Str} {ns:List Str} (h:n ∉ ns):putK (numK ns) (.inr n) (.int (ns.length:Nat)) = numK (ns ++ [n]):=by
 have a:((numK ns).any fun kv=>decide (kv.1 = .inr n)) = false:=by
  rw [List.any_eq_false]
  intro kv hk
  unfold numK numKo at hk
  obtain ⟨g,hg,rfl⟩:=List.mem_map.mp hk
  have:g.1 ∈ ns:=by
   have:=List.mem_map_of_mem (f:=Prod.fst) hg
   rwa [List.zipIdx_map_fst] at this  
  intro z
  have z:(Sum.inr g.1:Key) = .inr n:=of_decide_eq_true z
  injection z with z
  exact h (z ▸ this)
 unfold putK
 rw [a,if_neg (by decide)]
 unfold numK numKo
 rw [List.zipIdx_append,List.map_append,Nat.zero_add]; rfl
structure RoomsAt (H:Hp) (xs:List V) (ns:List Str):Prop where
 len:xs.length = ns.length
 at_:∀ (k:Nat) (n:Str),ns[k]? = some n→∃ t v,xs[k]? = some (.ref t)∧H t = some (.tup [.str n,v])
theorem nodup_take {α:Type} {l:List α} {k:Nat} {a:α} (nd:l.Nodup) (e:l[k]? = some a):a ∉ l.take k:=by
 obtain ⟨lk,rfl⟩:=List.getElem?_eq_some_iff.mp e
 rw [← List.take_append_drop k l,List.nodup_append] at nd
 intro z
 refine nd.2.2 _ z _ ?_ rfl
 rw [List.drop_eq_getElem_cons lk]
 exact List.mem_cons_self
def sp_check_share:Sp:=fun vs H Q _=>∃ (p:Addr) (x y:Int),vs = [.ref p]∧Fk K H p x y∧0 ≤ x∧x < y∧Bd x∧Bd y∧Q .non H
theorem ok_check_share {f:Addr} {fd:FuncData} (F:Fun K nm_check_share nm_check_share s_check_share f fd) (T:Txt K mg D) (G_is_ratio:OkF P w K mg base 2 nm_is_ratio ps_is_ratio (sp_is_ratio (K:=K))) (G_under:OkF P w K mg base 1 nm_under ps_under (sp_under (K:=K))):FnOk P w K mg base CX0 3 f fd ps_check_share (sp_check_share (K:=K)):=by
 refine F.ok sc_check_share (fun vs H Q E h=>?_) (fun cdv A outer s H vs Q E hr h=>?_)
 ·obtain ⟨p,x,y,rfl,_⟩:=h
  rfl
 ·obtain ⟨p,x,y,rfl,fk,x0,xy,bx,b_y,q⟩:=h
  refine ⟨_,(pss_one (ps_if (pw_or (pt_not (pt_tru (pe_callF G_is_ratio (hr.mono (by decide)) (by rfl) (pa_cons (pv 0) pa_nil)) (fun _=>rfl))) (pw_or (pt_tru (pe_callF G_under (hr.mono (by decide)) (by rfl) (pa_cons (pv 0) (pa_cons (pe_globT (by rfl) T.c_NOUGHT) pa_nil))) (fun _=>rfl)) (pw_or1 (pt_not (pt_tru (pe_callF G_under (hr.mono (by decide)) (by rfl) (pa_cons (pv 0) (pa_cons (pe_globT (by rfl) T.c_ONE) pa_nil))) (fun _=>rfl)))))).pt
    (pss_one ps_never)
    pss_nil)),?_⟩
  unfold sp_is_ratio sp_under
  walk_at "rd"
  have hy:=fk.pos
  have b0:Bd 0:=Nat.two_pow_pos 8000
  have b1:Bd 1:=Nat.one_lt_two_pow (by decide)
  refine ⟨⟨x,y,fk⟩,x,y,fk.at_,0,1,T.kt_NOUGHT H,bx,b_y,b0,b1,?_⟩
  rw [if_neg (by simp; omega)]
  refine ⟨x,y,fk.at_,1,1,T.kt_ONE H,bx,b_y,b1,b1,?_⟩
  rw [if_neg (by simp; omega)]
  exact q
def sp_numbers_of:Sp:=fun vs H Q _=>∃ (l:Addr) (xs:List V) (rs:List Str),vs = [.ref l]∧H l = some (.lst xs)∧RoomsAt H xs rs∧rs.Nodup∧(∀ g ∈ rs,Wd g)∧rs.length ≤ 20 ∧
 ∀ d H',Same H H'→H d = none→H' d = some (.dK (numK rs))→Q (.ref d) H'
def nJ (l d:Addr) (rs:List Str) (H:Hp) (k:Nat) (σ:L2.St) (H':Hp):Prop:=∃ u v,σ = [some (.ref l),some (.ref d),u,v]∧Same H H'∧H' d = some (.dK (numK (rs.take k)))
theorem ok_numbers_of {f:Addr} {fd:FuncData} (F:Fun K nm_numbers_of nm_numbers_of s_numbers_of f fd) (T:Txt K mg D) (G_is_word:OkF P w K mg base 1 nm_is_word ps_is_word sp_isw):FnOk P w K mg base CX0 2 f fd ps_numbers_of sp_numbers_of:=by
 refine F.ok sc_numbers_of (fun vs H Q E h=>?_) (fun cdv A outer s H vs Q E hr h=>?_)
 ·obtain ⟨l,xs,rs,rfl,_⟩:=h
  rfl
 ·obtain ⟨l,xs,rs,rfl,hl,ra,nd,wd,n20,q⟩:=h
  refine ⟨_,(pss_cons (ps_set (i:=1) sc_numbers_of.nd rfl (Or.inl rfl) pe_dnewK)
   (pss_cons (ps_for PassesOwn.never rfl (pi_list ((pv 0)).mono) (pg_name (i:=2) sc_numbers_of.nd rfl (Or.inl rfl))
    (pss_cons (ps_set (i:=3) sc_numbers_of.nd rfl (Or.inl rfl) (pe_ix ix_tupH (pv 2) pe_int (fun _ _=>rfl)))
    (pss_cons (ps_if (pw_or (pt_not (pt_tru (pe_callF G_is_word (hr.mono (by decide)) (by rfl) (pa_cons (pv 3) pa_nil)) (fun _=>rfl))) (pw_or1 (pt_cmp (pc_din (hu_of hr) (pv 3) (pv 1))))).pt
     (pss_one ps_never)
     pss_nil)
    (pss_one (ps_dput (hu_of hr) (pv 1) (pv 3) (pe_callB call_lenD (by rfl) T.b_len PySem.boot_len (pa_cons (pv 1) pa_nil)) rfl)))))
   (pss_one (ps_ret (pv 1))))),?_⟩
  unfold sp_isw
  walk_at "rd"
  refine fun d hd=>tFor_listM ?_
  walk_at "rd"
  have ld:l ≠ d:=ne_of_none hl hd
  refine ⟨xs,(upd_ne ld).trans hl,nJ l d rs H,⟨none,none,rfl,Same.upd hd,upd_same⟩,?_,?_⟩
  ·rintro k x σ' H' hk ⟨u,v,rfl,S1,h1⟩ hl'
   have lk:k < rs.length:=by rw [← ra.len]; exact (List.getElem?_eq_some_iff.mp hk).1
   have e:rs[k]? = some rs[k]:=List.getElem?_eq_getElem lk
   have hm:=List.getElem_mem lk
   obtain ⟨t,dv,a,b⟩:=ra.at_ k _ e
   rw [hk] at a
   cases a
   have hw:=wd _ hm
   have no:rs[k] ∉ rs.take k:=by exact nodup_take nd e
   generalize rs[k] = n at *
   walk_at "rd"
   have l9:=hw.hi
   refine ⟨_,S1 _ _ b,_,atI_0,.inl ⟨n,rfl,Nat.le_trans l9 (by decide),?_⟩⟩
   rw [if_neg (by rw [hw.word]; decide)]
   refine ⟨_,DGet.k (k:=.inr n) h1,?_⟩
   rw [numK_no no,if_neg (by decide)]
   have hlen:(numK (rs.take k)).length < sizeLine:=by
    have h9:21 < sizeLine:=by decide
    rw [numK_len,List.length_take]
    omega
   refine ⟨d,_,rfl,h1,_,DPut.k (k:=.inr n) h1 hlen,(upd_ne ld).trans hl',_,_,rfl,fun b' o' e'=>(upd_ne (ne_of_none e' hd)).trans (S1 _ _ e'),?_⟩
   rw [upd_same,numK_len,numK_put no,take_next e]
  ·rintro σ' H' ⟨u,v,rfl,S1,h1⟩ _
   rw [ra.len,List.take_length] at h1
   walk_at "rd"
   exact q d H' S1 hd h1
structure NWs (ns:List Str) (H:Hp) (zs:List V) (ws:List (Str × Addr)):Prop where
 len:zs.length = ws.length
 at_:∀ (k:Nat) (g:Str × Addr),ws[k]? = some g→∃ t i,zs[k]? = some (.ref t)∧ns[i]? = some g.1∧H t = some (.tup [.int (i:Nat),.ref g.2])
theorem NWs.imp {ns:List Str} {H H':Hp} {zs:List V} {ws:List (Str × Addr)} (h':∀ t ys,H t = some (.tup ys)→H' t = some (.tup ys)) (h:NWs ns H zs ws):NWs ns H' zs ws:=⟨h.len,fun k g e=>let ⟨t,i,a,b,c⟩:=h.at_ k g e; ⟨t,i,a,b,h' _ _ c⟩⟩
theorem NWs.snoc {ns:List Str} {H:Hp} {zs:List V} {ws:List (Str × Addr)} {t:Addr} {i:Nat} {g:Str × Addr} (h:NWs ns H zs ws) (hi:ns[i]? = some g.1) (ht:H t = some (.tup [.int (i:Nat),.ref g.2])):NWs ns H (zs ++ [.ref t]) (ws ++ [g]):=by
 refine ⟨by rw [List.length_append,List.length_append,h.len]; rfl,fun k g' e=>?_⟩
 by_cases hk:k < ws.length
 ·rw [List.getElem?_append_left hk] at e
  obtain ⟨t',i',a,b,c⟩:=h.at_ k g' e
  exact ⟨t',i',by rw [List.getElem?_append_left (by rw [h.len]; exact hk)]; exact a,b,c⟩
 ·rw [List.getElem?_append_right (by omega)] at e
  have e0:k - ws.length = 0:=by
   have:=(List.getElem?_eq_some_iff.mp e).1
   simp at this; omega
  rw [e0] at e
  cases e
  refine ⟨t,i,?_,hi,ht⟩
  rw [List.getElem?_append_right (by rw [h.len]; omega),h.len,e0]; rfl
def sp_numbered_ways (D:Adr):Sp:=fun vs H Q _=>∃ (s n C dx p l:Addr) (nm:Str) (xs:List V) (ws:List (Str × Addr)) (ns:List Str),vs = [.ref s,.ref n]∧Of_Door_ways D C∧H s = some (.ins C dx [("name",.str nm),("pay",.ref p),("leads",.ref l)])∧H l = some (.lst xs)∧Ways H xs ws∧ws.length ≤ 100∧H n = some (.dK (numK ns))∧ns.Nodup∧(∀ g ∈ ws,g.1 ∈ ns) ∧
 ∀ r H' zs,Same H H'→H r = none→H' r = some (.lst zs)→NWs ns H' zs ws→Q (.ref r) H'
def nwJ (s n r:Addr) (ns:List Str) (ws:List (Str × Addr)) (H:Hp) (k:Nat) (σ:L2.St) (H':Hp):Prop:=∃ u v zs,σ = [some (.ref s),some (.ref n),some (.ref r),u,v]∧Same H H'∧H' r = some (.lst zs)∧NWs ns H' zs (ws.take k)
theorem ok_numbered_ways {f:Addr} {fd:FuncData} (F:Fun K nm_numbered_ways nm_numbered_ways s_numbered_ways f fd) (T:Txt K mg D) (G_Door_ways:OkI P w K mg base CX0 1 D.Door_ways ps_Door_ways (sp_Door_ways D)):FnOk P w K mg base CX0 2 f fd ps_numbered_ways (sp_numbered_ways D):=by
 refine F.ok sc_numbered_ways (fun vs H Q E h=>?_) (fun cdv A outer s H vs Q E hr h=>?_)
 ·obtain ⟨d,n,C,dx,p,l,nm,xs,ws,ns,rfl,_⟩:=h
  rfl
 ·obtain ⟨d,n,C,dx,p,l,nm,xs,ws,ns,rfl,hC,hs,hl,hw,n100,hn,nd,hin,q⟩:=h
  refine ⟨_,(pss_cons (ps_set (i:=2) sc_numbered_ways.nd rfl (Or.inl rfl) (pe_lst pa_nil))
   (pss_cons (ps_for PassesOwn.never rfl (pi_list ((PE.any fun C (hC:Of_Door_ways D C)=>(pe_meth0I (pv 0) (T.cl C hC.fam) (T.me_Door_ways C hC) G_Door_ways (hr.mono (by decide))))).mono) (pg_tupH (n:=2) rfl (pgs_cons (pg_name (i:=3) sc_numbered_ways.nd rfl (Or.inl rfl)) (pgs_cons (pg_name (i:=4) sc_numbered_ways.nd rfl (Or.inl rfl)) pgs_nil)))
    (pss_cons (ps_if (pt_cmp (pc_dnotin (hu_of hr) (pv 3) (pv 1)))
     (pss_one ps_never)
     pss_nil)
    (pss_one (ps_expr (pe_app (pv 2) (pa_cons (pe_tup (pa_cons (pe_dget (hu_of hr) (pv 1) (pv 3) (fun _ _=>rfl)) (pa_cons (pv 4) pa_nil))) pa_nil))))))
   (pss_one (ps_ret (pv 2))))),?_⟩
  unfold sp_Door_ways
  walk_at "rd"
  refine ⟨by decide,fun r hrn=>tFor_listM ?_⟩
  walk_at "rd"
  have sr:∀ {b o},H b = some o→(upd H r (.lst [])) b = some o:=fun {b o} e=>(upd_ne (ne_of_none e hrn)).trans e
  refine ⟨C,hC,dx,_,sr hs,rfl,nm,p,l,⟨C,dx,hC.fam,sr hs⟩,xs,sr hl,by rw [hw.len]; exact n100,fun r2 hr2=>⟨nwJ d n r ns ws H,?_,?_,?_⟩⟩
  ·have rr:r ≠ r2:=ne_of_none upd_same hr2
   refine ⟨none,none,[],rfl,fun b o e=>(upd_ne (ne_of_none (sr e) hr2)).trans (sr e),(upd_ne rr).trans upd_same,rfl,fun k g e=>by simp at e⟩
  ·rintro k x σ' H' hk ⟨u,v,zs,rfl,S1,h1,nw⟩ hx
   have lk:k < ws.length:=by rw [← hw.len]; exact (List.getElem?_eq_some_iff.mp hk).1
   have e:ws[k]? = some ws[k]:=List.getElem?_eq_getElem lk
   have hm:=hin _ (List.getElem_mem lk)
   obtain ⟨t,a,b⟩:=hw.at_ k _ e
   rw [hk] at a
   cases a
   generalize ws[k] = g at *
   obtain ⟨m,c⟩:=g
   obtain ⟨i,hi⟩:=List.getElem?_of_mem hm
   walk_at "rd"
   have rr:r ≠ r2:=ne_of_none upd_same hr2
   have vl:valV (numK ns) (.inr m) = some (.int ((0 + i:Nat):Int)):=numK_val nd hi
   have dg:DGet H' n (kV (.inr m)) (some (.int ((0 + i:Nat):Int))):=vl ▸ DGet.k (k:=.inr m) (S1 _ _ hn)
   refine ⟨_,S1 _ _ b,rfl,_,_,rfl,_,_,rfl,rfl,_,dg,?_⟩
   rw [if_neg (by simp)]
   refine ⟨⟨_,h1⟩,_,dg,line2,fun p hp=>?_⟩
   have rp:r ≠ p:=ne_of_none h1 hp
   have zl:zs.length < sizeLine:=by
    have h9:101 < sizeLine:=by decide
    rw [nw.len,List.length_take]
    omega
   refine ⟨zs,(upd_ne rp).trans h1,zl,(upd_ne rr.symm).trans ((upd_ne (ne_of_none hx hp)).trans hx),_,_,_,rfl,fun b' o' e'=>(upd_ne (ne_of_none e' hrn)).trans ((upd_ne (ne_of_none (S1 _ _ e') hp)).trans (S1 _ _ e')),upd_same,?_⟩
   rw [take_next e]
   refine (nw.imp fun t ys e'=>?_).snoc hi ?_
   ·rw [upd_ne (ne_of e' h1 (by intro z; cases z)),upd_ne (ne_of_none e' hp)]; exact e'
   ·rw [upd_ne rp.symm,upd_same,Nat.zero_add]
  ·rintro σ' H' ⟨u,v,zs,rfl,S1,h1,nw⟩ hx
   rw [hw.len,List.take_length] at nw
   walk_at "rd"
   exact q r H' zs S1 hrn h1 nw
def del (as:List Addr) (H:Hp):Hp:=fun b=>if b ∈ as then none else H b
theorem del_at {as:List Addr} {H:Hp} {b:Addr} {o:HO} (h:b ∉ as) (e:H b = some o):del as H b = some o:=by unfold del; rw [if_neg h]; exact e
theorem del_in {as:List Addr} {H:Hp} {b:Addr} {o:HO} (e:del as H b = some o):b ∉ as∧H b = some o:=by
 unfold del at e
 split at e
 ·cases e
 ·exact ⟨by assumption,e⟩
theorem del_same {as:List Addr} {H:Hp} : Same (del as H) H:=fun b o e=>(del_in e).2
theorem del_step {as:List Addr} {H H':Hp} (h:∀ b o,b ∉ as→H b = some o→H' b = some o):Same (del as H) (del as H'):=fun b o e=>let ⟨a,c⟩:=del_in e; del_at a (h b o a c)
structure Dr where
 nm:Str
 p:Addr
 ws:List (Str × Addr)
def DrAt (D:Adr) (H:Hp) (s:Addr) (g:Dr):Prop:=∃ C dx l xs,Of_Door_ways D C∧H s = some (.ins C dx [("name",.str g.nm),("pay",.ref g.p),("leads",.ref l)])∧H l = some (.lst xs)∧Ways H xs g.ws∧g.ws.length ≤ 100
theorem DrAt.same {H H':Hp} {s:Addr} {g:Dr} (S:Same H H') (h:DrAt D H s g):DrAt D H' s g:=let ⟨C,dx,l,xs,a,b,c,d,e⟩:=h; ⟨C,dx,l,xs,a,S _ _ b,S _ _ c,d.same S,e⟩
structure DrsAt (D:Adr) (H:Hp) (xs:List V) (gs:List Dr):Prop where
 len:xs.length = gs.length
 at_:∀ (k:Nat) (g:Dr),gs[k]? = some g→∃ s,xs[k]? = some (.ref s)∧DrAt D H s g
theorem DrsAt.same {H H':Hp} {xs:List V} {gs:List Dr} (S:Same H H') (h:DrsAt D H xs gs):DrsAt D H' xs gs:=⟨h.len,fun k g e=>let ⟨s,a,b⟩:=h.at_ k g e; ⟨s,a,b.same S⟩⟩
structure OffAt (ns:List Str) (H:Hp) (zs:List V) (gs:List Dr):Prop where
 len:zs.length = gs.length
 at_:∀ (k:Nat) (g:Dr),gs[k]? = some g→∃ t r ys,zs[k]? = some (.ref t)∧H t = some (.tup [.str g.nm,.ref g.p,.ref r])∧H r = some (.lst ys)∧NWs ns H ys g.ws
theorem OffAt.same {ns:List Str} {H H':Hp} {zs:List V} {gs:List Dr} (S:Same H H') (h:OffAt ns H zs gs):OffAt ns H' zs gs:=⟨h.len,fun k g e=>let ⟨t,r,ys,a,b,c,d⟩:=h.at_ k g e; ⟨t,r,ys,a,S _ _ b,S _ _ c,d.imp fun _ _ z=>S _ _ z⟩⟩
theorem OffAt.snoc {ns:List Str} {H:Hp} {zs ys:List V} {gs:List Dr} {t r:Addr} {g:Dr} (h:OffAt ns H zs gs) (ht:H t = some (.tup [.str g.nm,.ref g.p,.ref r])) (hr:H r = some (.lst ys)) (hn:NWs ns H ys g.ws):OffAt ns H (zs ++ [.ref t]) (gs ++ [g]):=by
 refine ⟨by rw [List.length_append,List.length_append,h.len]; rfl,fun k g' e=>?_⟩
 by_cases hk:k < gs.length
 ·rw [List.getElem?_append_left hk] at e
  obtain ⟨t',r',ys',a,b⟩:=h.at_ k g' e
  exact ⟨t',r',ys',by rw [List.getElem?_append_left (by rw [h.len]; exact hk)]; exact a,b⟩
 ·rw [List.getElem?_append_right (by omega)] at e
  have e0:k - gs.length = 0:=by
   have:=(List.getElem?_eq_some_iff.mp e).1
   simp at this; omega
  rw [e0] at e
  cases e
  refine ⟨t,r,ys,?_,ht,hr,hn⟩
  rw [List.getElem?_append_right (by rw [h.len]; omega),h.len,e0]; rfl
def takK (ns:List Str):List (Key × V):=ns.map fun n=>(.inr n,.bl true)
theorem takK_no {n:Str} {ns:List Str} (h:n ∉ ns):valV (takK ns) (.inr n) = none:=by
 unfold valV
 rw [List.find?_eq_none.mpr]
 ·rfl
 ·intro kv hk z
  unfold takK at hk
  obtain ⟨m,hm,rfl⟩:=List.mem_map.mp hk
  have z:(Sum.inr m:Key) = .inr n:=of_decide_eq_true z
  injection z with z
  exact h (z ▸ hm)
theorem takK_put {n:Str} {ns:List Str} (h:n ∉ ns):putK (takK ns) (.inr n) (.bl true) = takK (ns ++ [n]):=by
 have a:((takK ns).any fun kv=>decide (kv.1 = .inr n)) = false:=by
  rw [List.any_eq_false]
  intro kv hk z
  unfold takK at hk
  obtain ⟨m,hm,rfl⟩:=List.mem_map.mp hk
  have z:(Sum.inr m:Key) = .inr n:=of_decide_eq_true z
  injection z with z
  exact h (z ▸ hm)
 unfold putK
 rw [a,if_neg (by decide)]
 unfold takK
 rw [List.map_append]; rfl
def Noted (H:Hp) (as:List Addr):Prop:=∀ a ∈ as,∃ u,H a = some u∧∀ ys,u ≠ .tup ys
def sp_offers_of (D:Adr):Sp:=fun vs H Q _=>∃ (l n:Addr) (xs:List V) (gs:List Dr) (ns:List Str),vs = [.ref l,.ref n]∧H l = some (.lst xs)∧DrsAt D H xs gs∧gs.length ≤ 100∧(gs.map (·.nm)).Nodup∧H n = some (.dK (numK ns))∧ns.Nodup∧(∀ g ∈ gs,∀ z ∈ g.ws,z.1 ∈ ns) ∧
 ∀ r H' zs,Same H H'→H r = none→H' r = some (.lst zs)→(∀ as,Noted H as→OffAt ns (del as H') zs gs)→Q (.ref r) H'
def oJ (l n d r:Addr) (ns:List Str) (gs:List Dr) (H:Hp) (k:Nat) (σ:L2.St) (H':Hp):Prop:=∃ u zs,σ = [some (.ref l),some (.ref n),some (.ref d),some (.ref r),u]∧Same H H'∧H' d = some (.dK (takK ((gs.take k).map (·.nm))))∧H' r = some (.lst zs)∧∀ as,Noted H as→OffAt ns (del (d :: r :: as) H') zs (gs.take k)
theorem ok_offers_of {f:Addr} {fd:FuncData} (F:Fun K nm_offers_of nm_offers_of s_offers_of f fd) (T:Txt K mg D) (G_numbered_ways:OkF P w K mg base 2 nm_numbered_ways ps_numbered_ways (sp_numbered_ways D)):FnOk P w K mg base CX0 3 f fd ps_offers_of (sp_offers_of D):=by
 refine F.ok sc_offers_of (fun vs H Q E h=>?_) (fun cdv A outer s H vs Q E hr h=>?_)
 ·obtain ⟨l,n,xs,gs,ns,rfl,_⟩:=h
  rfl
 ·obtain ⟨l,n,xs,gs,ns,rfl,hl,dr,n100,ndg,hn,nd,hin,q⟩:=h
  refine ⟨_,(pss_cons (ps_set (i:=2) sc_offers_of.nd rfl (Or.inl rfl) pe_dnewK)
   (pss_cons (ps_set (i:=3) sc_offers_of.nd rfl (Or.inl rfl) (pe_lst pa_nil))
   (pss_cons (ps_for PassesOwn.never rfl (pi_list ((pv 0)).mono) (pg_name (i:=4) sc_offers_of.nd rfl (Or.inl rfl))
    (pss_cons (ps_if (pt_cmp (pc_din (hu_of hr) (pe_fld (pv 4) rfl) (pv 2)))
     (pss_one ps_never)
     pss_nil)
    (pss_cons (ps_dput (hu_of hr) (pv 2) (pe_fld (pv 4) rfl) pe_bl rfl)
    (pss_one (ps_expr (pe_app (pv 3) (pa_cons (pe_tup (pa_cons (pe_fld (pv 4) rfl) (pa_cons (pe_fld (pv 4) rfl) (pa_cons (pe_callF G_numbered_ways (hr.mono (by decide)) (by rfl) (pa_cons (pv 4) (pa_cons (pv 1) pa_nil))) pa_nil)))) pa_nil)))))))
   (pss_one (ps_ret (pv 3)))))),?_⟩
  unfold sp_numbered_ways
  walk_at "rd"
  refine fun d hd=>⟨by decide,fun r hrn=>tFor_listM ?_⟩
  walk_at "rd"
  have dr0:d ≠ r:=ne_of_none upd_same hrn
  have hrn':H r = none:=(upd_ne dr0.symm).symm.trans hrn
  have st:Same H (upd (upd H d (.dK [])) r (.lst [])):=fun b o e=>(upd_ne (ne_of_none e hrn')).trans ((upd_ne (ne_of_none e hd)).trans e)
  refine ⟨xs,st _ _ hl,oJ l n d r ns gs H,⟨none,[],rfl,st,(upd_ne dr0).trans upd_same,upd_same,fun as _=>⟨rfl,fun k g e=>by simp at e⟩⟩,?_,?_⟩
  ·rintro k x σ' H' hk ⟨u,zs,rfl,S1,h1,h2,of_⟩ hx
   have lk:k < gs.length:=by rw [← dr.len]; exact (List.getElem?_eq_some_iff.mp hk).1
   have e:gs[k]? = some gs[k]:=List.getElem?_eq_getElem lk
   have hm:=hin _ (List.getElem_mem lk)
   obtain ⟨t,a,b⟩:=dr.at_ k _ e
   rw [hk] at a
   cases a
   have no:gs[k].nm ∉ (gs.take k).map (·.nm):=by
    rw [List.map_take]
    exact nodup_take ndg (by rw [List.getElem?_map,e]; rfl)
   generalize gs[k] = g at *
   obtain ⟨C,dx,ll,ys,hC,hs,hll,hw,w100⟩:=b.same S1
   walk_at "rd"
   refine ⟨C,dx,_,hs,T.cl C hC.fam,T.no_name C hC.fam,_,rfl,_,DGet.k (k:=.inr g.nm) h1,?_⟩
   rw [takK_no no,if_neg (by decide)]
   have hlen:(takK ((gs.take k).map (·.nm))).length < sizeLine:=by
    have h9:101 < sizeLine:=by decide
    unfold takK
    rw [List.length_map,List.length_map,List.length_take]
    omega
   have up:∀ {b o},b ≠ d→H' b = some o→upd H' d (.dK (putK (takK ((gs.take k).map (·.nm))) (.inr g.nm) (.bl true))) b = some o:=fun {b o} h e=>(upd_ne h).trans e
   have td:t ≠ d:=ne_of hs h1 (by intro z; cases z)
   have ld:ll ≠ d:=ne_of hll h1 (by intro z; cases z)
   have nd_:n ≠ d:=ne_of_none hn hd
   refine ⟨C,dx,_,hs,T.cl C hC.fam,T.no_name C hC.fam,_,rfl,_,DPut.k (k:=.inr g.nm) h1 hlen,⟨zs,up dr0.symm h2⟩,C,dx,_,up td hs,T.cl C hC.fam,T.no_name C hC.fam,_,rfl,C,dx,_,up td hs,T.cl C hC.fam,T.no_pay C hC.fam,_,rfl,C,hC,dx,g.p,ll,⟨g.nm,up td hs⟩,ys,up ld hll,g.ws,⟨hw.len,fun k g e=>let ⟨t,a,b⟩:=hw.at_ k g e; ⟨t,a,up (ne_of b h1 (by intro z; cases z)) b⟩⟩,w100,ns,up nd_ (S1 _ _ hn),nd,hm,?_⟩
   intro r3 H3 z3 S3 f3 e3 w3
   refine ⟨by decide,fun p hp=>?_⟩
   have lr:l ≠ r:=ne_of_none hl hrn'
   have ld0:l ≠ d:=ne_of_none hl hd
   have a1:=S3 _ _ (up dr0.symm h2)
   have a2:=S3 d _ upd_same
   have rp:r ≠ p:=ne_of_none a1 hp
   have dp:d ≠ p:=ne_of_none a2 hp
   have a3:=S3 _ _ (up ld0 hx)
   have zl:zs.length < sizeLine:=by
    have h9:101 < sizeLine:=by decide
    rw [(of_ [] (by intro a ha; cases ha)).len,List.length_take]
    omega
   have r3p:r3 ≠ p:=ne_of_none e3 hp
   refine ⟨zs,(upd_ne rp).trans a1,zl,(upd_ne lr).trans ((upd_ne (ne_of_none a3 hp)).trans a3),_,_,rfl,fun b o e'=>?_,?_,upd_same,?_⟩
   ·have c:=S3 _ _ (up (ne_of_none e' hd) (S1 _ _ e'))
    rw [upd_ne (ne_of_none e' hrn'),upd_ne (ne_of_none c hp)]
    exact c
   ·rw [upd_ne dr0,upd_ne dp,a2,takK_put no,take_next e,List.map_append]; rfl
   ·intro as has
    have r3n:r3 ∉ d :: r :: as:=by
     simp only [List.mem_cons,not_or]
     refine ⟨fun z=>(by rw [z,upd_same] at f3; cases f3),fun z=>(by rw [z,up dr0.symm h2] at f3; cases f3),fun z=>?_⟩
     obtain ⟨u,hu,_⟩:=has _ z
     rw [up (ne_of_none hu hd) (S1 _ _ hu)] at f3
     cases f3
    have asp:∀ a ∈ as,∃ u,H3 a = some u∧∀ ys,u ≠ .tup ys:=fun a ha=>let ⟨u,hu,n⟩:=has a ha; ⟨u,S3 _ _ (up (ne_of_none hu hd) (S1 _ _ hu)),n⟩
    have pn:p ∉ d :: r :: as:=by
     simp only [List.mem_cons,not_or]
     exact ⟨dp.symm,rp.symm,fun z=>let ⟨u,hu,_⟩:=asp _ z; ne_of_none hu hp rfl⟩
    have u2:∀ {b o},b ∉ d :: r :: as→(upd H3 p (.tup [.str g.nm,.ref g.p,.ref r3])) b = some o→del (d :: r :: as) (upd (upd H3 p (.tup [.str g.nm,.ref g.p,.ref r3])) r (.lst (zs ++ [.ref p]))) b = some o:=fun {b o} h e=>del_at h ((upd_ne (by simp only [List.mem_cons,not_or] at h; exact h.2.1)).trans e)
    rw [take_next e]
    refine ((of_ as has).same fun b o e'=>?_).snoc (u2 pn upd_same) (u2 r3n ((upd_ne r3p).trans e3)) (w3.imp fun t ys e'=>?_)
    ·obtain ⟨b1,b2⟩:=del_in e'
     have c:=S3 _ _ (up (by simp only [List.mem_cons,not_or] at b1; exact b1.1) b2)
     exact u2 b1 ((upd_ne (ne_of_none c hp)).trans c)
    ·refine u2 ?_ ((upd_ne (ne_of_none e' hp)).trans e')
     simp only [List.mem_cons,not_or]
     exact ⟨ne_of e' a2 (by intro z; cases z),ne_of e' a1 (by intro z; cases z),fun z=>let ⟨u,hu,n⟩:=asp _ z; n _ (Option.some.inj (hu.symm.trans e'))⟩
  ·rintro σ' H' ⟨u,zs,rfl,S1,h1,h2,of_⟩ hx
   rw [dr.len,List.take_length] at of_
   walk_at "rd"
   exact q r H' zs S1 hrn' h2 fun as has=>(of_ as has).same fun b o e=>let ⟨a,c⟩:=del_in e; del_at (fun z=>a (List.mem_cons_of_mem _ (List.mem_cons_of_mem _ z))) c
structure HRooms (D:Adr) (H:Hp) (xs:List V) (rms:List (Str × List Dr)):Prop where
 len:xs.length = rms.length
 at_:∀ (k:Nat) (g:Str × List Dr),rms[k]? = some g→∃ t l ys,xs[k]? = some (.ref t)∧H t = some (.tup [.str g.1,.ref l])∧H l = some (.lst ys)∧DrsAt D H ys g.2
theorem HRooms.rooms {H:Hp} {xs:List V} {rms:List (Str × List Dr)} (h:HRooms D H xs rms):RoomsAt H xs (rms.map (·.1)):=⟨by rw [h.len,List.length_map],fun k n e=>by
 rw [List.getElem?_map] at e
 cases e0:rms[k]? with
 | none=>rw [e0] at e; cases e
 | some g =>
  rw [e0] at e
  cases e
  obtain ⟨t,l,ys,a,b,_⟩:=h.at_ k g e0
  exact ⟨t,_,a,b⟩⟩
theorem HRooms.same {H H':Hp} {xs:List V} {rms:List (Str × List Dr)} (S:Same H H') (h:HRooms D H xs rms):HRooms D H' xs rms:=⟨h.len,fun k g e=>let ⟨t,l,ys,a,b,c,d⟩:=h.at_ k g e; ⟨t,l,ys,a,S _ _ b,S _ _ c,d.same S⟩⟩
structure OffsAt (ns:List Str) (H:Hp) (zs:List V) (gss:List (List Dr)):Prop where
 len:zs.length = gss.length
 at_:∀ (k:Nat) (gs:List Dr),gss[k]? = some gs→∃ l ys,zs[k]? = some (.ref l)∧H l = some (.lst ys)∧OffAt ns H ys gs
theorem OffsAt.same {ns:List Str} {H H':Hp} {zs:List V} {gss:List (List Dr)} (S:Same H H') (h:OffsAt ns H zs gss):OffsAt ns H' zs gss:=⟨h.len,fun k g e=>let ⟨l,ys,a,b,c⟩:=h.at_ k g e; ⟨l,ys,a,S _ _ b,c.same S⟩⟩
theorem OffsAt.snoc {ns:List Str} {H:Hp} {zs ys:List V} {gss:List (List Dr)} {l:Addr} {gs:List Dr} (h:OffsAt ns H zs gss) (hl:H l = some (.lst ys)) (ho:OffAt ns H ys gs):OffsAt ns H (zs ++ [.ref l]) (gss ++ [gs]):=by
 refine ⟨by rw [List.length_append,List.length_append,h.len]; rfl,fun k g' e=>?_⟩
 by_cases hk:k < gss.length
 ·rw [List.getElem?_append_left hk] at e
  obtain ⟨l',ys',a,b⟩:=h.at_ k g' e
  exact ⟨l',ys',by rw [List.getElem?_append_left (by rw [h.len]; exact hk)]; exact a,b⟩
 ·rw [List.getElem?_append_right (by omega)] at e
  have e0:k - gss.length = 0:=by
   have:=(List.getElem?_eq_some_iff.mp e).1
   simp at this; omega
  rw [e0] at e
  cases e
  refine ⟨l,ys,?_,hl,ho⟩
  rw [List.getElem?_append_right (by rw [h.len]; omega),h.len,e0]; rfl
theorem off_at {H:Hp} {o b C0 dx0:Addr} {u:HO} (ho:H o = some (.ins C0 dx0 [])) (e:H b = some u) (n:u ≠ .ins C0 dx0 []):del [o] H b = some u:=del_at (by simp only [List.mem_singleton]; exact ne_of e ho n) e
theorem HRooms.off {H:Hp} {o C0 dx0:Addr} {xs:List V} {rms:List (Str × List Dr)} (ho:H o = some (.ins C0 dx0 [])) (h:HRooms D H xs rms):HRooms D (del [o] H) xs rms:=⟨h.len,fun k g e=>by
 obtain ⟨t,l,ys,a,b,c,d⟩:=h.at_ k g e
 refine ⟨t,l,ys,a,off_at ho b (by intro z; cases z),off_at ho c (by intro z; cases z),d.len,fun k g e=>?_⟩
 obtain ⟨s,a,C,dx,l,xs,h1,h2,h3,h4,h5⟩:=d.at_ k g e
 exact ⟨s,a,C,dx,l,xs,h1,off_at ho h2 (by intro z; injection z with _ _ z; cases z),off_at ho h3 (by intro z; cases z),⟨h4.len,fun k g e=>let ⟨t,a,b⟩:=h4.at_ k g e; ⟨t,a,off_at ho b (by intro z; cases z)⟩⟩,h5⟩⟩
structure RmsOk (rms:List (Str × List Dr)):Prop where
 len:rms.length ≤ 20
 nd:(rms.map (·.1)).Nodup
 wd:∀ g ∈ rms,Wd g.1
 few:∀ g ∈ rms,g.2.length ≤ 100
 dn:∀ g ∈ rms,(g.2.map (·.nm)).Nodup
 to_:∀ g ∈ rms,∀ d ∈ g.2,∀ z ∈ d.ws,z.1 ∈ rms.map (·.1)
def HallAt (D:Adr) (H:Hp) (a p:Addr) (rms:List (Str × List Dr)):Prop:=∃ dx n l zs,H a = some (.ins D.Hall dx [("share",.ref p),("numbers",.ref n),("offered",.ref l)])∧H n = some (.dK (numK (rms.map (·.1))))∧H l = some (.lst zs)∧OffsAt (rms.map (·.1)) H zs (rms.map (·.2))
theorem HallAt.same {H H':Hp} {a p:Addr} {rms:List (Str × List Dr)} (S:Same H H') (h:HallAt D H a p rms):HallAt D H' a p rms:=let ⟨dx,n,l,zs,b,c,d,e⟩:=h; ⟨dx,n,l,zs,S _ _ b,S _ _ c,S _ _ d,e.same S⟩
def sp_Hall_init (K:PySem.W.Frag) (D:Adr):Sp:=fun vs H Q _=>∃ (o dx p l:Addr) (x y:Int) (xs:List V) (rms:List (Str × List Dr)),vs = [.ref o,.ref p,.ref l]∧H o = some (.ins D.Hall dx [])∧Fk K H p x y∧0 ≤ x∧x < y∧Bd x∧Bd y∧H l = some (.lst xs)∧HRooms D H xs rms∧RmsOk rms ∧
 ∀ H',Keep o H H'→HallAt D H' o p rms→Q .non H'
def hJ (o D1:Addr) (rms:List (Str × List Dr)) (H:Hp) (k:Nat) (zs:List V) (H':Hp):Prop:=Same H H'∧H' D1 = some (.lst zs)∧OffsAt (rms.map (·.1)) (del [o,D1] H') zs ((rms.take k).map (·.2))
theorem ok_Hall_init {f:Addr} {fd:FuncData} (F:Fun K nm_Hall_init qn_Hall_init s_Hall_init f fd) (T:Txt K mg D) (G_check_share:OkF P w K mg base 3 nm_check_share ps_check_share (sp_check_share (K:=K))) (G_numbers_of:OkF P w K mg base 2 nm_numbers_of ps_numbers_of sp_numbers_of) (G_offers_of:OkF P w K mg base 3 nm_offers_of ps_offers_of (sp_offers_of D)):FnOk P w K mg base CX0 4 f fd ps_Hall_init (sp_Hall_init K D):=by
 refine F.ok sc_Hall_init (fun vs H Q E h=>?_) (fun cdv A outer s H vs Q E hr h=>?_)
 ·obtain ⟨o,dx,p,l,x,y,xs,rms,rfl,_⟩:=h
  rfl
 ·obtain ⟨o,dx,p,l,x,y,xs,rms,rfl,ho,fk,x0,xy,bx,b_y,hl,hR,ok,q⟩:=h
  refine ⟨_,(pss_cons (ps_expr (pe_callF G_check_share (hr.mono (by decide)) (by rfl) (pa_cons (pv 1) pa_nil)))
   (pss_cons (ps_fld (pv 0) (pv 1) rfl)
   (pss_cons (ps_fld (pv 0) (pe_callF G_numbers_of (hr.mono (by decide)) (by rfl) (pa_cons (pv 2) pa_nil)) rfl)
   (pss_one (ps_fld (pv 0) (pe_compGF (defScope s_Hall_init) ["self", "share", "rooms"] ["self", "share", "rooms"] ["room"] rfl rfl rfl (by decide +kernel) (by decide +kernel) rfl (by decide +kernel) (by decide +kernel) (by decide +kernel) (by decide +kernel) (by decide +kernel) (pi_list ((pv 2)).mono) (fun _ _ _ _ _=>(pg_name (i:=0) (show List.Nodup (["room", "self", "share", "rooms"] : List Str) from by decide +kernel) rfl (Or.inl rfl) (Or.inr rfl))) (fun _ _ _ _ _=>pts_nil) (fun _ _ _ _ _=>(pe_callF G_offers_of (hr.mono (by decide)) (by rfl) (pa_cons (pe_ix ix_tupH (pv 0) pe_int (fun _ _=>rfl)) (pa_cons (pe_fldK (K':=K) rfl (pv 1) rfl) pa_nil))))) rfl))))),?_⟩
  unfold sp_check_share sp_numbers_of sp_offers_of
  walk_at "rd"
  have hR0:=hR.off ho
  have hl0:del [o] H l = some (.lst xs):=off_at ho hl (by intro z; cases z)
  have S1:∀ u,Same (del [o] H) (upd H o u):=fun u b v e=>by
   obtain ⟨b1,b2⟩:=del_in e
   exact (upd_ne (by simpa using b1)).trans b2
  have cl:=T.cls_Hall
  refine ⟨x,y,fk,x0,xy,bx,b_y,D.Hall,dx,[],ho,cl,T.no_Hall_share,(by show 0 < 1000; decide),xs,S1 _ _ _ hl0,_,(hR0.same (S1 _)).rooms,ok.nd,fun g hg=>?_,by rw [List.length_map]; exact ok.len,fun d H2 S2 f2 e2=>?_⟩
  ·obtain ⟨g',hg',rfl⟩:=List.mem_map.mp hg
   exact ok.wd g' hg'
  have od:d ≠ o:=fun z=>by rw [z,upd_same] at f2; cases f2
  refine ⟨D.Hall,dx,_,S2 _ _ upd_same,cl,T.no_Hall_numbers,(by show 1 < 1000; decide),tCompG1_list ?_⟩
  have S3:∀ u,Same (del [o] H) (upd H2 o u):=fun u b v e=>(upd_ne (by have:=(del_in e).1; simpa using this)).trans (S2 _ _ (S1 _ _ _ e))
  walk_at "rd"
  have hz9:21 < sizeLine:=by decide
  have n20:=ok.len
  refine ⟨xs,S3 _ _ _ hl0,by rw [hR.len]; omega,fun D1 hD1=>?_⟩
  have eo:upd H2 o (.ins D.Hall dx (putF "numbers" (.ref d) (putF "share" (.ref p) []))) o = some (.ins D.Hall dx [("share",.ref p),("numbers",.ref d)]):=upd_same
  have ed:upd H2 o (.ins D.Hall dx (putF "numbers" (.ref d) (putF "share" (.ref p) []))) d = some (.dK (numK (rms.map (·.1)))):=(upd_ne od).trans e2
  have S4:=S3 (.ins D.Hall dx (putF "numbers" (.ref d) (putF "share" (.ref p) [])))
  generalize upd H2 o (.ins D.Hall dx (putF "numbers" (.ref d) (putF "share" (.ref p) []))) = H3 at eo ed S4 hD1 ⊢
  have oD:o ≠ D1:=ne_of_none eo hD1
  refine ⟨hJ o D1 rms H3,⟨Same.upd hD1,upd_same,rfl,fun k g e=>by simp at e⟩,?_,?_⟩
  ·rintro k x1 ys Hc hk ⟨S5,h5,of_⟩ hy hlc
   have lk:k < rms.length:=by rw [← hR.len]; exact (List.getElem?_eq_some_iff.mp hk).1
   have e:rms[k]? = some rms[k]:=List.getElem?_eq_getElem lk
   have hm:=List.getElem_mem lk
   obtain ⟨t,ll,ds,a,b,c,dd⟩:=(hR0.same (S4.trans S5)).at_ k _ e
   rw [hk] at a
   cases a
   generalize rms[k] = g at *
   refine ⟨t,rfl,_,b,_,atI_1,D.Hall,dx,_,S5 _ _ eo,cl,T.no_Hall_numbers,_,rfl,ll,rfl,d,rfl,ds,c,g.2,dd,ok.few g hm,ok.dn g hm,_,S5 _ _ ed,ok.nd,ok.to_ g hm,?_⟩
   intro r H4 zs S6 f6 e6 o6
   have h4:=S6 _ _ h5
   have ho4:=S6 _ _ (S5 _ _ eo)
   refine ⟨h4,S6 _ _ hlc,fun b v e'=>?_,upd_same,?_⟩
   ·exact (upd_ne (ne_of_none e' hD1)).trans (S6 _ _ (S5 _ _ e'))
   ·have ee:del [o,D1] (upd H4 D1 (.lst (ys ++ [.ref r]))) = del [o,D1] H4:=by
     funext b
     unfold del
     split
     ·rfl
     ·rename_i hb
      exact upd_ne (by simp at hb; exact hb.2)
    rw [ee,take_next e,List.map_append]
    refine (of_.same (del_step fun b v _ e'=>S6 _ _ e')).snoc (del_at ?_ e6) (o6 [o,D1] ?_)
    ·simp only [List.mem_cons,List.not_mem_nil,or_false,not_or]
     exact ⟨fun z=>(by rw [z,S5 _ _ eo] at f6; cases f6),fun z=>(by rw [z,h5] at f6; cases f6)⟩
    ·intro a ha
     simp only [List.mem_cons,List.not_mem_nil,or_false] at ha
     rcases ha with rfl | rfl
     ·exact ⟨_,S5 _ _ eo,by intro ys z; cases z⟩
     ·exact ⟨_,h5,by intro ys z; cases z⟩
  ·rintro ys Hc ⟨S5,h5,of_⟩ hy
   rw [hR.len,List.take_length] at of_
   refine ⟨D.Hall,dx,_,S5 _ _ eo,cl,T.no_Hall_offered,(by show 2 < 1000; decide),q _ (fun b v nb e=>?_) ⟨dx,d,D1,ys,upd_same,(upd_ne (fun z=>od (by rw [z]))).trans (S5 _ _ ed),(upd_ne oD.symm).trans h5,of_.same fun b v e=>?_⟩⟩
   ·exact (upd_ne nb).trans (S5 _ _ (S4 _ _ (del_at (by simpa using nb) e)))
   ·obtain ⟨b1,b2⟩:=del_in e
    exact (upd_ne (by simp at b1; exact b1.1)).trans b2
def sp_Hall_size (D:Adr):Sp:=fun vs H Q _=>∃ (o p:Addr) (rms:List (Str × List Dr)),vs = [.ref o]∧HallAt D H o p rms∧Q (.int rms.length) H
theorem ok_Hall_size {f:Addr} {fd:FuncData} (F:Fun K nm_Hall_size qn_Hall_size s_Hall_size f fd) (T:Txt K mg D):FnOk P w K mg base CX0 1 f fd ps_Hall_size (sp_Hall_size D):=by
 refine F.ok sc_Hall_size (fun vs H Q E h=>?_) (fun cdv A outer s H vs Q E hr h=>?_)
 ·obtain ⟨o,p,rms,rfl,_⟩:=h
  rfl
 ·obtain ⟨o,p,rms,rfl,⟨dx,n,l,zs,ho,hn,hl,of_⟩,q⟩:=h
  refine ⟨_,(pss_one (ps_ret (pe_callB call_lenD (by rfl) T.b_len PySem.boot_len (pa_cons (pe_fld (pv 0) rfl) pa_nil)))),?_⟩
  walk_at "rd"
  refine ⟨D.Hall,dx,_,ho,T.cls_Hall,T.no_Hall_numbers,_,rfl,n,_,rfl,hn,?_⟩
  rw [numK_len,List.length_map]
  exact q
def sp_check_room (D:Adr):Sp:=fun vs H Q _=>∃ (o p:Addr) (k:Nat) (rms:List (Str × List Dr)),vs = [.ref o,.int k]∧HallAt D H o p rms∧k < rms.length∧Q .non H
theorem ok_Hall_check_room {f:Addr} {fd:FuncData} (F:Fun K nm_Hall_check_room qn_Hall_check_room s_Hall_check_room f fd) (T:Txt K mg D) (G_is_whole:OkF P w K mg base 1 nm_is_whole ps_is_whole sp_whole) (G_Hall_size:OkI P w K mg base CX0 1 D.Hall_size ps_Hall_size (sp_Hall_size D)): FnOk P w K mg base CX0 2 f fd ps_Hall_check_room (sp_check_room D):=by
 refine F.ok sc_Hall_check_room (fun vs H Q E h=>?_) (fun cdv A outer s H vs Q E hr h=>?_)
 ·obtain ⟨o,p,k,rms,rfl,_⟩:=h
  rfl
 ·obtain ⟨o,p,k,rms,rfl,hh,lk,q⟩:=h
  refine ⟨_,(pss_one (ps_if (pw_or (pt_not (pt_tru (pe_callF G_is_whole (hr.mono (by decide)) (by rfl) (pa_cons (pv 1) pa_nil)) (fun _=>rfl))) (pw_or1 (pt_not (pt_chain op_le op_lt pe_int (pv 1) (PE.any fun C (hC:Of_Hall_size D C)=>(pe_meth0I (pv 0) (T.cl C hC.fam) (T.me_Hall_size C hC) G_Hall_size (hr.mono (by decide)))))))).pt
    (pss_one ps_never)
    pss_nil)),?_⟩
  unfold sp_whole sp_Hall_size
  walk_at "rd"
  obtain ⟨dx,n,l,zs,ho,hn,hl,of_⟩:=hh
  rw [if_pos (by simp)]
  refine ⟨D.Hall,(by unfold Of_Hall_size; simp),dx,_,ho,rfl,p,rms,⟨dx,n,l,zs,ho,hn,hl,of_⟩,?_⟩
  rw [if_neg (by simp; omega)]
  exact q
def fJ (D1:Addr) (ns:List Str) (gs:List Dr) (H:Hp) (k:Nat) (zs:List V) (H':Hp):Prop:=Same H H'∧H' D1 = some (.lst zs)∧∀ as,Noted H as→OffAt ns (del (D1 :: as) H') zs (gs.take k)
def sp_Hall_offers (D:Adr):Sp:=fun vs H Q _=>∃ (o p:Addr) (k:Nat) (rms:List (Str × List Dr)) (g:Str × List Dr),vs = [.ref o,.int k]∧HallAt D H o p rms∧rms[k]? = some g∧g.2.length ≤ 100∧(∀ d ∈ g.2,d.ws.length ≤ 100) ∧
 ∀ r H' zs,Same H H'→H r = none→H' r = some (.lst zs)→(∀ as,Noted H as→OffAt (rms.map (·.1)) (del as H') zs g.2)→Q (.ref r) H'
theorem ok_Hall_offers {f:Addr} {fd:FuncData} (F:Fun K nm_Hall_offers qn_Hall_offers s_Hall_offers f fd) (T:Txt K mg D) (G_Hall_check_room:OkI P w K mg base CX0 2 D.Hall_check_room ps_Hall_check_room (sp_check_room D)): FnOk P w K mg base CX0 3 f fd ps_Hall_offers (sp_Hall_offers D):=by
 refine F.ok sc_Hall_offers (fun vs H Q E h=>?_) (fun cdv A outer s H vs Q E hr h=>?_)
 ·obtain ⟨o,p,k,rms,g,rfl,_⟩:=h
  rfl
 ·obtain ⟨o,p,k,rms,g,rfl,hh,hg,g100,w100,q⟩:=h
  refine ⟨_,(pss_cons (ps_expr (PE.any fun C (hC:Of_Hall_check_room D C)=>(pe_methI (pv 0) (T.cl C hC.fam) (T.me_Hall_check_room C hC) G_Hall_check_room (hr.mono (by decide)) (pa_cons (pv 1) pa_nil))))
   (pss_one (ps_ret (pe_compGF (defScope s_Hall_offers) ["self", "room"] ["self", "room"] ["name", "pay", "numbered"] rfl rfl rfl (by decide +kernel) (by decide +kernel) rfl (by decide +kernel) (by decide +kernel) (by decide +kernel) (by decide +kernel) (by decide +kernel) (pi_list ((pe_ix ix_listH (pe_fld (pv 0) rfl) (pv 1) (fun _ _=>rfl))).mono) (fun _ _ _ _ _=>(pg_tupH (n:=3) rfl (pgs_cons (pg_name (i:=0) (show List.Nodup (["name", "pay", "numbered", "self", "room"] : List Str) from by decide +kernel) rfl (Or.inl rfl) (Or.inr rfl)) (pgs_cons (pg_name (i:=1) (show List.Nodup (["name", "pay", "numbered", "self", "room"] : List Str) from by decide +kernel) rfl (Or.inl rfl) (Or.inr rfl)) (pgs_cons (pg_name (i:=2) (show List.Nodup (["name", "pay", "numbered", "self", "room"] : List Str) from by decide +kernel) rfl (Or.inl rfl) (Or.inr rfl)) pgs_nil))))) (fun _ _ _ _ _=>pts_nil) (fun _ _ _ _ _=>(pe_tup (pa_cons (pv 0) (pa_cons (pv 1) (pa_cons (pe_callTy call_listH (by rfl) T.b_list boot_list (pa_cons (pv 2) pa_nil)) pa_nil))))))))),?_⟩
  unfold sp_check_room
  walk_at "rd"
  obtain ⟨dx,n,l,zs,ho,hn,hl,of_⟩:=hh
  have lk:=(List.getElem?_eq_some_iff.mp hg).1
  refine ⟨D.Hall,(by unfold Of_Hall_check_room; simp),dx,_,ho,rfl,p,k,rfl,rms,⟨dx,n,l,zs,ho,hn,hl,of_⟩,lk,tCompG_list ?_⟩
  obtain ⟨ll,ys,a,b,c⟩:=of_.at_ k g.2 (by rw [List.getElem?_map,hg]; rfl)
  have z9:101 < sizeLine:=by decide
  walk_at "rd"
  refine ⟨D.Hall,dx,_,ho,T.cls_Hall,T.no_Hall_offered,_,rfl,l,rfl,zs,hl,_,atI_nat a,ll,rfl,ys,b,by rw [c.len]; omega,fun D1 hD=>?_⟩
  refine ⟨fJ D1 (rms.map (·.1)) g.2 H,⟨Same.upd hD,upd_same,fun as _=>⟨rfl,fun k g e=>by simp at e⟩⟩,?_,?_⟩
  ·rintro i x1 zs1 Hc hi ⟨S5,h5,o5⟩ hy hlc pre hpre
   have li:i < g.2.length:=by rw [← c.len]; exact (List.getElem?_eq_some_iff.mp hi).1
   have e:g.2[i]? = some g.2[i]:=List.getElem?_eq_getElem li
   have hm:=w100 _ (List.getElem_mem li)
   obtain ⟨t,r,ws,ea,eb,ec,ed⟩:=(c.same S5).at_ i _ e
   rw [hi] at ea
   cases ea
   generalize g.2[i] = d at *
   obtain ⟨u1,u2,u3,rfl⟩ : ∃ a b c,pre = [a,b,c]:=by
    match pre,hpre with
    | [a,b,c],_=>exact ⟨a,b,c,rfl⟩
   walk_at "rd"
   refine ⟨_,eb,rfl,_,_,rfl,_,_,rfl,_,_,rfl,rfl,[_,_,_],rfl,rfl,?_⟩
   refine ⟨r,rfl,ws,ec,fun l1 hl1=>⟨by decide,fun p1 hp1=>?_⟩⟩
   have lp:l1 ≠ p1:=ne_of_none upd_same hp1
   have hp1':Hc p1 = none:=(upd_ne lp.symm).symm.trans hp1
   have S6:Same Hc (upd (upd Hc l1 (.lst ws)) p1 (.tup [.str d.nm,.ref d.p,.ref l1])):=(Same.upd hl1).trans (Same.upd hp1)
   have e6:upd (upd Hc l1 (.lst ws)) p1 (.tup [.str d.nm,.ref d.p,.ref l1]) l1 = some (.lst ws):=(upd_ne lp).trans upd_same
   have e7:upd (upd Hc l1 (.lst ws)) p1 (.tup [.str d.nm,.ref d.p,.ref l1]) p1 = some (.tup [.str d.nm,.ref d.p,.ref l1]):=upd_same
   generalize upd (upd Hc l1 (.lst ws)) p1 (.tup [.str d.nm,.ref d.p,.ref l1]) = H7 at S6 e6 e7 ⊢
   refine ⟨S6 _ _ h5,S6 _ _ hlc,fun b v e'=>(upd_ne (ne_of_none e' hD)).trans (S6 _ _ (S5 _ _ e')),upd_same,fun as has=>?_⟩
   have nin:∀ {b},Hc b = none→b ∉ D1 :: as:=fun {b} hb=>by
    simp only [List.mem_cons,not_or]
    exact ⟨fun z=>(by rw [z,h5] at hb; cases hb),fun z=>let ⟨u,hu,_⟩:=has _ z; ne_of_none (S5 _ _ hu) hb rfl⟩
   have u2:∀ {b o},b ∉ D1 :: as→H7 b = some o→del (D1 :: as) (upd H7 D1 (.lst (zs1 ++ [.ref p1]))) b = some o:=fun {b o} h e=>del_at h ((upd_ne (by simp only [List.mem_cons,not_or] at h; exact h.1)).trans e)
   rw [take_next e]
   refine ((o5 as has).same fun b v e'=>?_).snoc (u2 (nin hp1') e7) (u2 (nin hl1) e6) (ed.imp fun t us e'=>u2 ?_ (S6 _ _ e'))
   ·obtain ⟨b1,b2⟩:=del_in e'
    exact u2 b1 (S6 _ _ b2)
   ·simp only [List.mem_cons,not_or]
    exact ⟨ne_of e' h5 (by intro z; cases z),fun z=>let ⟨u,hu,n⟩:=has _ z; n _ (Option.some.inj ((S5 _ _ hu).symm.trans e'))⟩
  ·rintro zs1 Hc ⟨S5,h5,o5⟩ _
   rw [c.len,List.take_length] at o5
   exact q D1 Hc zs1 S5 hD h5 fun as has=>(o5 as has).same fun b o e=>let ⟨a,c⟩:=del_in e; del_at (fun z=>a (List.mem_cons_of_mem _ z)) c
theorem wait_all:((List.range 101).all fun b=>(List.range b).all fun t=>Nat.blt (t ^ 459 * b) ((b - t) * b ^ 459)) = true:=by decide +kernel
theorem wait_nat {t b:Nat} (h:t < b) (h1:b ≤ 100):t ^ 459 * b < (b - t) * b ^ 459:=by
 have a:=List.all_eq_true.mp wait_all b (List.mem_range.mpr (by omega))
 have c:=List.all_eq_true.mp a t (List.mem_range.mpr h)
 exact Nat.blt_eq.mp c
theorem wait_int {x y:Int} (h0:0 ≤ x) (h:x < y) (h1:y ≤ 100):x ^ 459 * y < (y - x) * y ^ 459:=by
 obtain ⟨t,rfl⟩:=Int.eq_ofNat_of_zero_le h0
 obtain ⟨b,rfl⟩:=Int.eq_ofNat_of_zero_le (by omega:0 ≤ y)
 have:=wait_nat (t:=t) (b:=b) (by omega) (by omega)
 have e:(b:Int) - t = ((b - t:Nat):Int):=by omega
 rw [e]
 exact_mod_cast this
theorem pow_bd {x:Int} {m:Nat} (h0:x.natAbs ≤ 100) (hm:m ≤ 600):Bd (x ^ m):=by
 refine Nat.lt_of_le_of_lt (m:=100 ^ 600) ?_ (by decide +kernel)
 rw [Int.natAbs_pow]
 exact Nat.le_trans (Nat.pow_le_pow_left h0 m) (Nat.pow_le_pow_right (by decide) hm)
theorem sm_bd {x:Int} (h0:x.natAbs ≤ 100):Bd x:=Nat.lt_of_le_of_lt h0 (by decide +kernel)
structure Waits (x y:Int) (m:Nat):Prop where
 lo:1 ≤ m
 hi:m ≤ 459
 at_:x ^ m * y < (y - x) * y ^ m
 ahead:∀ j,1 ≤ j→j < m→(y - x) * y ^ j ≤ x ^ j * y
def sp_wait_of (D:Adr):Sp:=fun vs H Q _=>∃ (o p:Addr) (rms:List (Str × List Dr)) (x y:Int),vs = [.ref o]∧HallAt D H o p rms∧H p = some (.tup [.int x,.int y])∧0 ≤ x∧x < y∧y ≤ 100∧∀ m:Nat,Waits x y m→Q (.int m) H
theorem ok_wait_of {f:Addr} {fd:FuncData} (F:Fun K nm_wait_of nm_wait_of s_wait_of f fd) (T:Txt K mg D):FnOk P w K mg base CX0 1 f fd ps_wait_of (sp_wait_of D):=by
 refine F.ok sc_wait_of (fun vs H Q E h=>?_) (fun cdv A outer s H vs Q E hr h=>?_)
 ·obtain ⟨o,p,rms,x,y,rfl,_⟩:=h
  rfl
 ·obtain ⟨o,p,rms,x,y,rfl,⟨dx,n,l,zs,ho,hn,hl,of_⟩,hp,x0,xy,y1,q⟩:=h
  refine ⟨_,(pss_cons (ps_set (i:=1) sc_wait_of.nd rfl (Or.inl rfl) (pe_ix ix_tupH (pe_fld (pv 0) rfl) pe_int (fun _ _=>rfl)))
   (pss_cons (ps_set (i:=2) sc_wait_of.nd rfl (Or.inl rfl) (pe_ix ix_tupH (pe_fld (pv 0) rfl) pe_int (fun _ _=>rfl)))
   (pss_cons (ps_set (i:=3) sc_wait_of.nd rfl (Or.inl rfl) pe_int)
   (pss_cons (ps_set (i:=4) sc_wait_of.nd rfl (Or.inl rfl) (pv 1))
   (pss_cons (ps_set (i:=5) sc_wait_of.nd rfl (Or.inl rfl) (pv 2))
   (pss_cons (ps_while PassesOwn.never (pt_cmpR op_ge (pe_op op_mulB (pv 4) (pv 2)) (pe_op op_mulB (pe_op op_sub (pv 2) (pv 1)) (pv 5)) (nomark _))
    (pss_cons (ps_aug (i:=3) sc_wait_of.nd rfl (Or.inl rfl) pe_int ip_add)
    (pss_cons (ps_aug (i:=4) sc_wait_of.nd rfl (Or.inl rfl) (pv 1) ip_mulB)
    (pss_one (ps_aug (i:=5) sc_wait_of.nd rfl (Or.inl rfl) (pv 2) ip_mulB)))))
   (pss_one (ps_ret (pv 3))))))))),?_⟩
  unfold ipM
  walk_at "rd"
  refine ⟨D.Hall,dx,_,ho,T.cls_Hall,T.no_Hall_share,_,rfl,p,rfl,_,hp,_,atI_0,D.Hall,dx,_,ho,T.cls_Hall,T.no_Hall_share,_,rfl,p,rfl,_,hp,_,atI_1,?_⟩
  refine while_by (fun σ H2=>∃ m:Nat,σ = [some (.ref o),some (.int x),some (.int y),some (.int m),some (.int (x ^ m)),some (.int (y ^ m))]∧H2 = H∧1 ≤ m∧m ≤ 459∧∀ j,1 ≤ j→j < m→(y - x) * y ^ j ≤ x ^ j * y)
   (fun σ _=>match σ with | [_,_,_,some (.int m),_,_]=>459 - m.natAbs | _=>0) ⟨1,by rw [Int.pow_succ,Int.pow_zero,Int.one_mul,Int.pow_succ,Int.pow_zero,Int.one_mul]; rfl,rfl,Nat.le_refl _,by decide,fun j h1 h2=>by omega⟩ ?_ ?_
  ·rintro σ H2 ⟨m,rfl,rfl,m1,m9,ah⟩
   have bx:Bd (x ^ m):=pow_bd (by omega) (by omega)
   have b_y:Bd (y ^ m):=pow_bd (by omega) (by omega)
   walk_at "rd"
   refine ⟨bx,sm_bd (by omega),sm_bd (by omega),b_y,?_⟩
   by_cases hc:(y - x) * y ^ m ≤ x ^ m * y
   ·rw [if_pos (decide_eq_true hc)]
    have m8:m ≠ 459:=fun z=>by
     have:=wait_int x0 xy y1
     rw [z] at hc
     omega
    refine ⟨_,rfl,_,_,rfl,rfl,?_⟩
    refine ⟨_,rfl,_,rfl,_,rfl,_,rfl,bx,sm_bd (by omega),?_⟩
    refine ⟨_,rfl,_,rfl,_,rfl,_,rfl,b_y,sm_bd (by omega),?_⟩
    refine ⟨⟨m + 1,?_,rfl,by omega,by omega,fun j h1 h2=>?_⟩,?_⟩
    ·rw [Int.pow_succ,Int.pow_succ]; rfl
    ·by_cases e:j = m
     ·rw [e]; exact hc
     ·exact ah j h1 (by omega)
    ·show 459 - ((m:Int) + 1).natAbs < 459 - (m:Int).natAbs
     omega
   ·rw [if_neg (by simpa using hc)]
    exact q m ⟨m1,m9,by omega,ah⟩
  ·intro σ H2 Q1 Q2 hq
   walk_at "rd"
   rintro ⟨a,b,c,d,e,f,g,h,i,j,k,l,m,n,o,p,q,r,s,t,u,v,w,x,y⟩
   exact ⟨a,b,c,d,e,f,g,h,i,j,k,l,m,n,o,p,q,r,s,t,u,v,w,x,hq _ _ y⟩
def doorsN (rms:List (Str × List Dr)):List Int:=rms.map fun g=>(g.2.length:Int)
def lessN (ls:List Int):List Int:=(ls.filter fun z=>decide (0 < z)).map fun z=>z - 1
structure RmsFew (rms:List (Str × List Dr)):Prop where
 len:rms.length ≤ 20
 few:∀ g ∈ rms,g.2.length ≤ 100
 ways:∀ g ∈ rms,∀ d ∈ g.2,d.ws.length ≤ 100
def sp_most_mendings (D:Adr):Sp:=fun vs H Q _=>∃ (o p:Addr) (rms:List (Str × List Dr)) (x y:Int),vs = [.ref o]∧HallAt D H o p rms∧RmsFew rms∧H p = some (.tup [.int x,.int y])∧0 ≤ x∧x < y∧y ≤ 100∧∀ (m:Nat) H',Waits x y m→Same H H'→Q (.int (1 + m * (lessN (doorsN rms)).sum)) H'
def mJ (D1:Addr) (ls:List Int) (H:Hp) (k:Nat) (ys:List V) (H':Hp):Prop:=Same H H'∧H' D1 = some (.lst ys)∧ys = (ls.take k).map V.int
def mJ2 (D1:Addr) (ls:List Int) (H:Hp) (k:Nat) (ys:List V) (H':Hp):Prop:=Same H H'∧H' D1 = some (.lst ys)∧ys = (lessN (ls.take k)).map V.int
theorem lessN_next {ls:List Int} {k:Nat} {z:Int} (h:ls[k]? = some z):lessN (ls.take (k + 1)) = lessN (ls.take k) ++ if 0 < z then [z - 1] else []:=by
 unfold lessN
 rw [List.take_succ,h,List.filter_append,List.map_append]
 congr 1
 show List.map _ (List.filter _ [z]) = _
 by_cases e:0 < z
 ·rw [if_pos e,List.filter_cons,if_pos (decide_eq_true e)]; rfl
 ·rw [if_neg e,List.filter_cons,if_neg (by simpa using e)]; rfl
theorem lessN_sum:∀ {ls:List Int},(∀ z ∈ ls,0 ≤ z∧z ≤ 100)→0 ≤ (lessN ls).sum∧(lessN ls).sum ≤ 100 * ls.length
 | [],_=>by constructor <;> decide
 | z :: ls,h=>by
  have hz:=h z List.mem_cons_self
  have ih:=lessN_sum (ls:=ls) fun y hy=>h y (List.mem_cons_of_mem _ hy)
  unfold lessN at ih ⊢
  rw [List.length_cons,List.filter_cons]
  split
  ·rename_i hp
   have hp:0 < z:=of_decide_eq_true hp
   rw [List.map_cons,List.sum_cons]; omega
  ·omega
theorem RmsFew.sum {rms:List (Str × List Dr)} (h:RmsFew rms):0 ≤ (lessN (doorsN rms)).sum∧(lessN (doorsN rms)).sum ≤ 2000:=by
 have a:=lessN_sum (ls:=doorsN rms) fun z hz=>by
  unfold doorsN at hz
  obtain ⟨g,hg,rfl⟩:=List.mem_map.mp hz
  have:=h.few g hg
  omega
 have b:=h.len
 have c:(doorsN rms).length = rms.length:=List.length_map ..
 omega
theorem ok_most_mendings {f:Addr} {fd:FuncData} (F:Fun K nm_most_mendings nm_most_mendings s_most_mendings f fd) (T:Txt K mg D) (G_wait_of:OkF P w K mg base 1 nm_wait_of ps_wait_of (sp_wait_of D)) (G_Hall_size:OkI P w K mg base CX0 1 D.Hall_size ps_Hall_size (sp_Hall_size D)) (G_Hall_offers:OkI P w K mg base CX0 3 D.Hall_offers ps_Hall_offers (sp_Hall_offers D)):FnOk P w K mg base CX0 4 f fd ps_most_mendings (sp_most_mendings D):=by
 refine F.ok sc_most_mendings (fun vs H Q E h=>?_) (fun cdv A outer s H vs Q E hr h=>?_)
 ·obtain ⟨o,p,rms,x,y,rfl,_⟩:=h
  rfl
 ·obtain ⟨o,p,rms,x,y,rfl,hh,few,hp,x0,xy,y1,q⟩:=h
  refine ⟨_,(pss_cons (ps_compGF (defScope s_most_mendings) ["hall", "doors"] ["hall", "doors"] ["room"] rfl rfl rfl (by decide +kernel) (by decide +kernel) rfl (by decide +kernel) (by decide +kernel) (by decide +kernel) (by decide +kernel) (by decide +kernel) (pi_range1 (by rfl) T.b_range (pa_cons (PE.any fun C (hC:Of_Hall_size D C)=>(pe_meth0I (pv 0) (T.cl C hC.fam) (T.me_Hall_size C hC) G_Hall_size (hr.mono (by decide)))) pa_nil).mono) (fun _ _ _ _ _=>(pg_name (i:=0) (show List.Nodup (["room", "hall", "doors"] : List Str) from by decide +kernel) rfl (Or.inl rfl) (Or.inr rfl))) (fun _ _ _ _ _=>pts_nil) (fun _ _ _ _ _=>(pe_callB call_lenL (by rfl) T.b_len PySem.boot_len (pa_cons (PE.any fun C (hC:Of_Hall_offers D C)=>(pe_methI (pv 1) (T.cl C hC.fam) (T.me_Hall_offers C hC) G_Hall_offers (hr.mono (by decide)) (pa_cons (pv 0) pa_nil))) pa_nil))) (pg_name (i:=1) sc_most_mendings.nd rfl (Or.inl rfl)))
   (pss_one (ps_ret (pe_op op_add pe_int (pe_op op_mulB (pe_callF G_wait_of (hr.mono (by decide)) (by rfl) (pa_cons (pv 0) pa_nil)) (pe_callB (call_sumH rfl) (by rfl) T.b_sum boot_sum (pa_cons (pe_compGF (defScope s_most_mendings) ["hall", "doors"] ["hall", "doors"] ["many"] rfl rfl rfl (by decide +kernel) (by decide +kernel) rfl (by decide +kernel) (by decide +kernel) (by decide +kernel) (by decide +kernel) (by decide +kernel) (pi_list ((pv 1)).mono) (fun _ _ _ _ _=>(pg_name (i:=0) (show List.Nodup (["many", "hall", "doors"] : List Str) from by decide +kernel) rfl (Or.inl rfl) (Or.inr rfl))) (fun _ _ _ _ _=>(pts_one (pt_cmpR op_gt (pv 0) pe_int (nomark _)))) (fun _ _ _ _ _=>(pe_op op_sub (pv 0) pe_int))) pa_nil))))))),?_⟩
  unfold sp_wait_of sp_Hall_size sp_Hall_offers
  walk_at "rd"
  refine tCompG1_rng ?_
  walk_at "rd"
  have ss:=few.sum
  have n20:=few.len
  have hI:=hh
  obtain ⟨dx,n,l,zs,ho,hn,hl,of_⟩:=hI
  have dl:(doorsN rms).length = rms.length:=List.length_map ..
  have z9:21 < sizeLine:=by decide
  refine ⟨D.Hall,(by unfold Of_Hall_size; simp),dx,_,ho,rfl,p,rms,hh,rms.length,rfl,by omega,fun D1 hD=>⟨mJ D1 (doorsN rms) H,⟨Same.upd hD,upd_same,rfl⟩,?_,?_⟩⟩
  ·rintro k ys Hc hk ⟨S1,h1,ey⟩ hy
   have e:rms[k]? = some rms[k]:=List.getElem?_eq_getElem hk
   have hm:=List.getElem_mem hk
   generalize rms[k] = g at *
   have e':(doorsN rms)[k]? = some (g.2.length:Int):=by unfold doorsN; rw [List.getElem?_map,e]; rfl
   refine ⟨D.Hall,(by unfold Of_Hall_offers; simp),dx,_,S1 _ _ ho,rfl,p,k,rfl,rms,hh.same S1,g,e,few.few g hm,few.ways g hm,fun r H2 zs S2 f2 e2 o2=>?_⟩
   have ln:=(o2 [] (by intro a ha; cases ha)).len
   refine ⟨zs,e2,S2 _ _ h1,fun b v e3=>(upd_ne (ne_of_none e3 hD)).trans (S2 _ _ (S1 _ _ e3)),upd_same,?_⟩
   rw [take_next e',List.map_append,ey,ln]; rfl
  ·rintro ys Hc ⟨S1,h1,ey⟩ hy
   rw [← dl,List.take_length] at ey
   subst ey
   refine ⟨p,⟨rms,hh.same S1⟩,x,y,S1 _ _ hp,x0,xy,y1,fun m hw=>tCompG_list ?_⟩
   walk_at "rd"
   refine ⟨_,h1,by rw [List.length_map]; omega,fun D2 hD2=>⟨mJ2 D2 (doorsN rms) Hc,⟨Same.upd hD2,upd_same,rfl⟩,?_,?_⟩⟩
   ·rintro k v ys H3 hk ⟨S3,h3,ey⟩ hy3 h13 pre hpre
    obtain ⟨u1,rfl⟩:=List.length_eq_one_iff.mp hpre
    rw [List.getElem?_map] at hk
    cases e:(doorsN rms)[k]? with
    | none=>rw [e] at hk; cases hk
    | some z =>
     rw [e] at hk
     cases hk
     refine ⟨[some (.int z)],rfl,rfl,?_⟩
     refine ⟨_,rfl,_,_,rfl,rfl,_,rfl,?_⟩
     by_cases hz:0 < z
     ·rw [show decide (0 < z) = true from decide_eq_true hz]
      refine ⟨_,rfl,_,_,rfl,rfl,h3,h13,fun b v e3=>(upd_ne (ne_of_none e3 hD2)).trans (S3 _ _ e3),upd_same,?_⟩
      rw [lessN_next e,if_pos hz,List.map_append,ey]; rfl
     ·rw [show decide (0 < z) = false from decide_eq_false hz]
      refine ⟨h13,S3,h3,?_⟩
      rw [lessN_next e,if_neg hz,List.append_nil]
      exact ey
   ·rintro ys H3 ⟨S3,h3,ey⟩ _
    rw [List.length_map,List.take_length] at ey
    subst ey
    have w9:=hw.hi
    refine ⟨_,h3,bd20 (by omega),bd20 (by omega),q m H3 hw (S1.trans S3)⟩
def sp_lratio:Sp:=fun vs H Q _=>∃ (a b:Int),vs = [.int a,.int b]∧0 < b∧Bd b∧∀ p,H p = none→Q (.ref p) (upd H p (.tup [.int (Ac.lw a b).1,.int (Ac.lw a b).2]))
theorem ok_lratio {f:Addr} {fd:FuncData} (F:Fun K nm_lratio nm_lratio s_lratio f fd) (G_gcd:OkF P w K mg base 1 nm_gcd ps_gcd sp_gcd):FnOk P w K mg base CX0 2 f fd ps_lratio sp_lratio:=by
 refine F.ok sc_lratio (fun vs H Q E h=>?_) (fun cdv A outer s H vs Q E hr h=>?_)
 ·obtain ⟨a,b,rfl,_⟩:=h
  rfl
 ·obtain ⟨a,b,rfl,hb,hbd,q⟩:=h
  refine ⟨_,(pss_cons (ps_set (i:=2) sc_lratio.nd rfl (Or.inl rfl) (pe_callF G_gcd (hr.mono (by decide)) (by rfl) (pa_cons (pv 0) (pa_cons (pv 1) pa_nil))))
   (pss_one (ps_ret (pe_tup (pa_cons (pe_op op_fdivB (pv 0) (pv 2)) (pa_cons (pe_op op_fdivB (pv 1) (pv 2)) pa_nil)))))),?_⟩
  have g0:=gcd_pos (a:=a) (b:=b) (by omega)
  have g1:=gcd_bd (a:=a) (b:=b) (by omega) hbd
  unfold sp_gcd
  walk_at "rd"
  rw [fdiv_pos _ g0,fdiv_pos _ g0]
  exact ⟨by omega,g1,by omega,g1,line2,q⟩
theorem Same.sql {K:PySem.W.Frag} {H H':Hp} {a:Addr} {xs:List V} (S:Same H H') (h:SqL K H a xs):SqL K H' a xs:=by
 rcases h with (h | ⟨o,h⟩) | h
 ·exact .inl (.inl (S _ _ h))
 ·exact .inl (.inr ⟨o,S _ _ h⟩)
 ·exact .inr h
theorem two_ofI {α:Type} : ∀ {l:List α},l.length = 2→∃ a b,l = [a,b]
 | [a,b],_=>⟨a,b,rfl⟩
def sp_size:Sp:=fun vs H Q _=>∃ c:Int,vs = [.int c]∧∀ (n:Nat) H',n ≤ 12→Same H H'→Q (.int n) H'
theorem ok_size {f:Addr} {fd:FuncData} (F:Fun K nm_size nm_size s_size f fd) (T:Txt K mg D) (G_stream:OkF P w K mg base 1 nm_stream ps_stream sp_stream):FnOk P w K mg base CX0 2 f fd ps_size sp_size:=by
 refine F.ok sc_size (fun vs H Q E h=>?_) (fun cdv A outer s H vs Q E hr h=>?_)
 ·obtain ⟨c,rfl,_⟩:=h
  rfl
 ·obtain ⟨c,rfl,q⟩:=h
  refine ⟨_,(pss_cons (ps_set (i:=1) sc_size.nd rfl (Or.inl rfl) (pe_callF G_stream (hr.mono (by decide)) (by rfl) (pa_cons (pv 0) (pa_cons pe_int pa_nil))))
   (pss_cons (ps_if (pt_cmpR op_eq (pe_op op_mod (pe_ix ix_listH (pv 1) pe_int (fun _ _=>rfl)) pe_int) pe_int (nomark _))
    (pss_one (ps_ret pe_int))
    pss_nil)
   (pss_one (ps_ret (pe_op op_add pe_int (pe_op op_mod (pe_ix ix_listH (pv 1) pe_int (fun _ _=>rfl)) pe_int)))))),?_⟩
  unfold sp_stream
  walk_at "rd"
  refine ⟨2,rfl,by decide,fun l xs H' S _ hl ln hx=>?_⟩
  obtain ⟨a,b,rfl⟩:=two_ofI ln
  refine ⟨_,hl,_,atI_0,a,rfl,?_⟩
  split
  ·exact q 0 H' (by decide) S
  ·refine ⟨_,hl,_,atI_1,b,rfl,?_⟩
   have:1 + b % 12 = ((1 + b % 12).toNat:Int):=by omega
   rw [this]
   exact q _ H' (by omega) S
theorem pow_bd2 {x y:Int} {k:Nat} (h0:x.natAbs ≤ 100) (h1:y.natAbs ≤ 100) (hk:k ≤ 500):Bd (y * x ^ k):=by
 refine Nat.lt_of_le_of_lt (m:=100 ^ 501) ?_ (by decide +kernel)
 rw [Int.natAbs_mul,Int.natAbs_pow,Nat.pow_succ,Nat.mul_comm (100 ^ 500)]
 exact Nat.mul_le_mul h1 (Nat.le_trans (Nat.pow_le_pow_left h0 k) (Nat.pow_le_pow_right (by decide) hk))
def sp_least:Sp:=fun vs H Q _=>∃ (p:Addr) (x y:Int) (m:Nat),vs = [.ref p,.int m]∧H p = some (.tup [.int x,.int y])∧0 ≤ x∧x < y∧y ≤ 100∧Waits x y m∧Q (.bl true) H
def leJ (p:Addr) (x y:Int) (m:Nat) (H:Hp) (k:Nat) (σ:L2.St) (H':Hp):Prop:=∃ u,σ = [some (.ref p),some (.int m),some (.int (x ^ k)),some (.int (y ^ k)),u,some (.int x),some (.int y)]∧H' = H
theorem ok_least {f:Addr} {fd:FuncData} (F:Fun K nm_least nm_least s_least f fd) (T:Txt K mg D):FnOk P w K mg base CX0 1 f fd ps_least sp_least:=by
 refine F.ok sc_least (fun vs H Q E h=>?_) (fun cdv A outer s H vs Q E hr h=>?_)
 ·obtain ⟨p,x,y,m,rfl,_⟩:=h
  rfl
 ·obtain ⟨p,x,y,m,rfl,hp,x0,xy,y1,hw,q⟩:=h
  obtain ⟨k,rfl⟩ : ∃ k,m = k + 1:=⟨m - 1,by have:=hw.lo; omega⟩
  have k9:=hw.hi
  refine ⟨_,(pss_cons (ps_asg (pv 0) (pg_tupH (n:=2) rfl (pgs_cons (pg_name (i:=5) sc_least.nd rfl (Or.inl rfl)) (pgs_cons (pg_name (i:=6) sc_least.nd rfl (Or.inl rfl)) pgs_nil))))
   (pss_cons (ps_set (i:=2) sc_least.nd rfl (Or.inl rfl) pe_int)
   (pss_cons (ps_set (i:=3) sc_least.nd rfl (Or.inl rfl) pe_int)
   (pss_cons (ps_for PassesOwn.never rfl (pi_range1 (by rfl) T.b_range (pa_cons (pe_op op_sub (pv 1) pe_int) pa_nil).mono) (pg_name (i:=4) sc_least.nd rfl (Or.inl rfl))
    (pss_cons (ps_set (i:=2) sc_least.nd rfl (Or.inl rfl) (pe_op op_mulB (pv 2) (pv 5)))
    (pss_one (ps_set (i:=3) sc_least.nd rfl (Or.inl rfl) (pe_op op_mulB (pv 3) (pv 6))))))
   (pss_cons (ps_if (pw_and (pt_cmpR op_gt (pv 1) pe_int (nomark _)) (pw_and1 (pt_cmpR op_lt (pe_op op_mulB (pv 2) (pv 6)) (pe_op op_mulB (pe_op op_sub (pv 6) (pv 5)) (pv 3)) (nomark _)))).pt
    (pss_one (ps_ret pe_bl))
    pss_nil)
   (pss_one (ps_ret (pe_cmpR op_lt (pe_op op_mulB (pe_op op_mulB (pv 2) (pv 5)) (pv 6)) (pe_op op_mulB (pe_op op_mulB (pe_op op_sub (pv 6) (pv 5)) (pv 3)) (pv 6)) (nomark _))))))))),?_⟩
  walk_at "rd"
  refine ⟨_,hp,rfl,_,_,rfl,_,_,rfl,rfl,tFor_rngM ?_⟩
  walk_at "rd"
  refine ⟨k,by omega,Nat.lt_of_le_of_lt (by omega:k ≤ 500) (by decide),leJ p x y (k + 1) H,⟨none,by rw [Int.pow_zero,Int.pow_zero],rfl⟩,?_,?_⟩
  ·rintro j σ' H' hj ⟨u,rfl,rfl⟩
   walk_at "rd"
   refine ⟨pow_bd (by omega) (by omega),sm_bd (by omega),pow_bd (by omega) (by omega),sm_bd (by omega),some (.int j),?_,rfl⟩
   rw [Int.pow_succ,Int.pow_succ]
  ·rintro σ' H' ⟨u,rfl,rfl⟩
   walk_at "rd"
   have a:=hw.at_
   rw [Int.pow_succ,Int.pow_succ,← Int.mul_assoc] at a
   have b1:Bd (x ^ k):=pow_bd (by omega) (by omega)
   have b2:Bd (y ^ k):=pow_bd (by omega) (by omega)
   have b3:Bd (x ^ k * x):=by rw [← Int.pow_succ]; exact pow_bd (by omega) (by omega)
   have b4:Bd ((y - x) * y ^ k):=pow_bd2 (by omega) (by omega) (by omega)
   have bx:Bd x:=sm_bd (by omega)
   have b_y:Bd y:=sm_bd (by omega)
   have bd:Bd (y - x):=sm_bd (by omega)
   have fin:Q (.bl (decide (x ^ k * x * y < (y - x) * y ^ k * y))) H':=by rw [decide_eq_true a]; exact q
   split
   ·rename_i hk
    have hk:1 < ((k + 1:Nat):Int):=of_decide_eq_true hk
    have c:=hw.ahead k (by omega) (by omega)
    refine ⟨b1,b_y,bd,b2,?_⟩
    rw [if_neg (by simp; omega)]
    exact ⟨b1,bx,b3,b_y,bd,b2,b4,b_y,fin⟩
   ·exact ⟨b1,bx,b3,b_y,bd,b2,b4,b_y,fin⟩
def sp_pay:Sp:=fun vs H Q _=>∃ (c a b:Int),vs = [.int c,.int a,.int b]∧∀ (p:Addr) (x y:Int),H p = none→0 < y→Int.gcd x y = 1→x.natAbs ≤ 10 ^ 30→y ≤ 1000→Q (.ref p) (upd H p (.tup [.int x,.int y]))
theorem ok_pay {f:Addr} {fd:FuncData} (F:Fun K nm_pay nm_pay s_pay f fd) (T:Txt K mg D) (G_lratio:OkF P w K mg base 2 nm_lratio ps_lratio sp_lratio):FnOk P w K mg base CX0 3 f fd ps_pay sp_pay:=by
 refine F.ok sc_pay (fun vs H Q E h=>?_) (fun cdv A outer s H vs Q E hr h=>?_)
 ·obtain ⟨p,n,y,rfl,_⟩:=h
  rfl
 ·obtain ⟨c,x,y,rfl,q⟩:=h
  have lo:∀ (a b:Int) (p:Addr),0 < b→a.natAbs ≤ 10 ^ 30→b ≤ 1000→H p = none→Q (.ref p) (upd H p (.tup [.int (Ac.lw a b).1,.int (Ac.lw a b).2])):=fun a b p b0 ha hb hp=>by
   have h2:=Ac.lw_b2 a b
   have h3:=Ac.lw_pos (t:=a) b0
   exact q p _ _ hp h3 (Ac.lw_gcd b0) (Nat.le_trans (Ac.lw_b1 a b) ha) (by omega)
  refine ⟨_,(pss_cons (ps_if (pt_cmpR op_lt (pe_op op_mod (pv 1) pe_int) pe_int (nomark _))
    (pss_one (ps_ret (pe_tup (pa_cons (pe_op op_sub (pe_op op_mod (pv 2) pe_int) pe_int) (pa_cons pe_int pa_nil)))))
    pss_nil)
   (pss_cons (ps_if (pt_cmpR op_lt (pe_op op_mod (pv 1) pe_int) pe_int (nomark _))
    (pss_one (ps_ret (pe_callF G_lratio (hr.mono (by decide)) (by rfl) (pa_cons (pe_op op_sub (pe_op op_mod (pv 2) pe_int) pe_int) (pa_cons (pe_op op_add pe_int (pe_op op_mod (pe_op op_fdivB (pv 1) pe_int) pe_int)) pa_nil)))))
    pss_nil)
   (pss_cons (ps_if (pt_cmpR op_eq (pe_op op_mod (pv 1) pe_int) pe_int (nomark _))
    (pss_one (ps_ret (pe_tup (pa_cons (pe_op op_sub (pe_op op_mod (pv 0) pe_int) pe_int) (pa_cons pe_int pa_nil)))))
    pss_nil)
   (pss_one (ps_ret (pe_callF G_lratio (hr.mono (by decide)) (by rfl) (pa_cons (pe_op op_sub (pe_op op_mod (pe_op op_add (pe_op op_mul (pv 0) pe_int) (pv 2)) (pe_op op_add (pe_op op_mulB pe_int (pe_op op_pow pe_int pe_int)) pe_int)) (pe_op op_pow pe_int pe_int)) (pa_cons (pe_op op_add pe_int (pe_op op_mod (pe_op op_fdivB (pv 1) pe_int) pe_int)) pa_nil)))))))),?_⟩
  unfold sp_lratio
  walk_at "rd"
  have b30:Bd 1000000000000000000000000000000:=Nat.lt_of_le_of_lt (Nat.le_refl _) (by decide +kernel)
  rw [fdiv_pos _ (by decide)]
  split
  ·exact ⟨line2,fun p hp=>q p _ _ hp (by decide) (by simp) (by omega) (by decide)⟩
  split
  ·exact ⟨Bd.sm (by decide),by omega,Bd.sm (by omega),fun p hp=>lo _ _ p (by omega) (by omega) (by omega) hp⟩
  split
  ·exact ⟨line2,fun p hp=>q p _ _ hp (by decide) (by simp) (by omega) (by decide)⟩
  ·exact ⟨.inr (by constructor <;> decide),cpow (by decide) (by decide),Bd.sm (by decide),b30,cpow (by decide) (by decide),Bd.sm (by decide),by omega,Bd.sm (by omega),fun p hp=>lo _ _ p (by omega) (by omega) (by omega) hp⟩
def ltL:List Nat:=(Str.ofString "abcdefghijklmnopqrstuvwxyz").cps.toList
theorem ltL_len:ltL.length = 26:=by decide +kernel
theorem ltL_inj:∀ a b:Fin 26,ltL[a.val]? = ltL[b.val]?→a = b:=by decide +kernel
theorem ltL_eq {a b:Int} {c:Nat} (a0:0 ≤ a) (a1:a < 26) (b0:0 ≤ b) (b1:b < 26) (ha:ltL[a.toNat]? = some c) (hb:ltL[b.toNat]? = some c):a = b:=by
 have:=ltL_inj ⟨a.toNat,by omega⟩ ⟨b.toNat,by omega⟩ (ha.trans hb.symm)
 have:=congrArg Fin.val this
 simp only at this
 omega
theorem ltL_at {a:Int} (a0:0 ≤ a) (a1:a < 26):∃ c,atI (Str.ofString "abcdefghijklmnopqrstuvwxyz").cps.toList a = some c∧ltL[a.toNat]? = some c∧letC c = true:=by
 obtain ⟨k,rfl⟩:=Int.eq_ofNat_of_zero_le a0
 have h:k < ltL.length:=by rw [ltL_len]; omega
 exact ⟨ltL[k],atI_nat (List.getElem?_eq_getElem h),List.getElem?_eq_getElem h,decide_eq_true (List.getElem_mem h)⟩
def rJ (R:Nat→Str→Prop) (D:Addr) (H:Hp) (k:Nat) (ys:List V) (Hc:Hp):Prop:=∃ ss:List Str,ys = ss.map V.str∧ss.length = k∧(∀ i x,ss[i]? = some x→R i x)∧Hc = upd H D (.lst ys)
theorem rJ.next {R:Nat→Str→Prop} {D:Addr} {H:Hp} {k:Nat} {ys:List V} {Hc:Hp} (h:rJ R D H k ys Hc) {x:Str} (h0:R k x):rJ R D H (k + 1) (ys ++ [.str x]) (upd Hc D (.lst (ys ++ [.str x]))):=by
 obtain ⟨ws,rfl,rfl,ha,rfl⟩:=h
 refine ⟨ws ++ [x],by rw [List.map_append]; rfl,by rw [List.length_append]; rfl,fun i y hy=>?_,upd_upd⟩
 by_cases hi:i < ws.length
 ·rw [List.getElem?_append_left hi] at hy
  exact ha i y hy
 ·have hl:=(List.getElem?_eq_some_iff.mp hy).1
  rw [List.length_append] at hl
  have hl:i < ws.length + 1:=hl
  have e:i = ws.length:=by omega
  subst e
  rw [List.getElem?_append_right (Nat.le_refl _),Nat.sub_self] at hy
  cases hy
  exact h0
theorem rJ.at_ {R:Nat→Str→Prop} {D:Addr} {H:Hp} {k:Nat} {ys:List V} {Hc:Hp} (h:rJ R D H k ys Hc):Hc D = some (.lst ys):=by
 obtain ⟨ws,rfl,hl,ha,rfl⟩:=h
 exact upd_same
theorem rJ.same {R:Nat→Str→Prop} {D:Addr} {H:Hp} {k:Nat} {ys:List V} {Hc:Hp} (h:rJ R D H k ys Hc) (hD:H D = none):Same H Hc:=by
 obtain ⟨ws,rfl,hl,ha,rfl⟩:=h
 exact Same.upd hD
theorem nodup_R {R:Nat→Str→Prop} {ss:List Str} (h:∀ i x,ss[i]? = some x→R i x) (u:∀ i j x,i < j→j < ss.length→R i x→R j x→False):ss.Nodup:=by
 unfold List.Nodup
 rw [List.pairwise_iff_getElem]
 intro i j hi hj ij e
 exact u i j ss[i] ij hj (h i _ (List.getElem?_eq_getElem hi)) (by rw [e]; exact h j _ (List.getElem?_eq_getElem hj))
theorem all_R {R:Nat→Str→Prop} {P:Str→Prop} {ss:List Str} (h:∀ i x,ss[i]? = some x→R i x) (u:∀ i x,i < ss.length→R i x→P x):∀ x ∈ ss,P x:=fun x hx=>by
 obtain ⟨i,hi⟩:=List.getElem?_of_mem hx
 exact u i x (List.getElem?_eq_some_iff.mp hi).1 (h i x hi)
theorem cut_to {x:Str} {n:Nat} : (cutS x none (some (n:Int))).cps.toList = x.cps.toList.take n:=by
 unfold cutS
 have hl:x.cps.toList.length = x.length:=Array.length_toList
 show ((x.cps.toList.drop 0).take (HT.sIx x.length x.length (some (n:Int)) - 0)) = _
 rw [HT.sIx_nat,List.drop_zero,Nat.sub_zero,← hl]
 rw [List.take_eq_take_iff]
 omega
theorem cut_from {x:Str} {n:Nat} : (cutS x (some (n:Int)) none).cps.toList = x.cps.toList.drop n:=by
 unfold cutS
 have hl:x.cps.toList.length = x.length:=Array.length_toList
 show ((x.cps.toList.drop (HT.sIx x.length 0 (some (n:Int)))).take (x.length - HT.sIx x.length 0 (some (n:Int)))) = _
 rw [HT.sIx_nat,← hl]
 by_cases h:n ≤ x.cps.toList.length
 ·rw [Nat.min_eq_left h]
  exact List.take_of_length_le (by rw [List.length_drop]; omega)
 ·rw [List.drop_eq_nil_of_le (by omega:x.cps.toList.length ≤ n),List.drop_eq_nil_of_le (by omega),List.take_nil]
theorem cut_mid {ys:List V} {a b:Nat} (ab:a ≤ b) (h:b ≤ ys.length):cutV ys (some (a:Int)) (some (b:Int)) = (ys.drop a).take (b - a):=by
 unfold cutV
 rw [HT.sIx_nat,HT.sIx_nat,Nat.min_eq_left h,Nat.min_eq_left (Nat.le_trans ab h)]
theorem sum_onesN:∀ {ss:List Str},(∀ y ∈ ss,y.length = 1)→(ss.map (·.length)).sum = ss.length
 | [],_=>rfl
 | y :: ss,h=>by
  rw [List.map_cons,List.sum_cons,sum_onesN fun z hz=>h z (List.mem_cons_of_mem _ hz),h y List.mem_cons_self,List.length_cons]; omega
def nm1 (c:Nat) (i:Nat) (x:Str):Prop:=x.cps.toList = List.replicate (i + 1) c
def nm2 (b:List Nat) (at_:Nat) (x0 st:Int) (i:Nat) (x:Str):Prop:=∃ c,ltL[((x0 + st * i) % 26).toNat]? = some c∧letC c = true∧x.cps.toList = b.take at_ ++ c :: b.drop at_
theorem nm2_one {b:List Nat} {at_:Nat} {x0 st:Int} {i j:Nat} {x:Str} (hs:st = 1∨st = 3∨st = 5∨st = 7∨st = 9∨st = 11) (ij:i < j) (hj:j < 13) (h1:nm2 b at_ x0 st i x) (h2:nm2 b at_ x0 st j x):False:=by
 obtain ⟨c,a1,_,e1⟩:=h1
 obtain ⟨d,a2,_,e2⟩:=h2
 have e:=e1.symm.trans e2
 have e:=List.append_cancel_left e
 injection e with e _
 subst e
 have:=ltL_eq (by omega) (by omega) (by omega) (by omega) a1 a2
 rcases hs with rfl | rfl | rfl | rfl | rfl | rfl <;> omega
theorem len_cps (x:Str):x.cps.toList.length = x.length:=Array.length_toList
theorem nm1_wd {c i:Nat} {x:Str} (hc:letC c = true) (hi:i < 8) (h:nm1 c i x):Wd x:=by
 have l:=len_cps x
 rw [h,List.length_replicate] at l
 refine ⟨?_,by omega,by omega⟩
 unfold Lt
 rw [h,List.all_eq_true]
 intro d hd
 rw [(List.mem_replicate.mp hd).2]; exact hc
theorem nm2_wd {b:List Nat} {at_:Nat} {x0 st:Int} {i:Nat} {x:Str} (hb:b.all letC = true) (hl:b.length ≤ 7) (h:nm2 b at_ x0 st i x):Wd x:=by
 obtain ⟨c,_,hc,e⟩:=h
 have l:=len_cps x
 rw [e,List.length_append,List.length_cons,List.length_take,List.length_drop] at l
 refine ⟨?_,by omega,by omega⟩
 unfold Lt
 rw [e,List.all_eq_true]
 rw [List.all_eq_true] at hb
 intro d hd
 rcases List.mem_append.mp hd with hd | hd
 ·exact hb d (List.mem_of_mem_take hd)
 ·rcases List.mem_cons.mp hd with rfl | hd
  ·exact hc
  ·exact hb d (List.mem_of_mem_drop hd)
def sJN (P:Str→Prop) (D:Addr) (H:Hp) (k:Nat) (ys:List V) (Hc:Hp):Prop:=∃ ss:List Str,ys = ss.map V.str∧ss.length = k∧(∀ x ∈ ss,P x)∧Hc = upd H D (.lst ys)
theorem sJN.next {P:Str→Prop} {D:Addr} {H:Hp} {k:Nat} {ys:List V} {Hc:Hp} (h:sJN P D H k ys Hc) {x:Str} (h0:P x):sJN P D H (k + 1) (ys ++ [.str x]) (upd Hc D (.lst (ys ++ [.str x]))):=by
 obtain ⟨ws,rfl,hl,ha,rfl⟩:=h
 refine ⟨ws ++ [x],by rw [List.map_append]; rfl,by rw [List.length_append,hl]; rfl,fun y hy=>?_,upd_upd⟩
 rcases List.mem_append.mp hy with hy | hy
 ·exact ha y hy
 ·rw [List.mem_singleton.mp hy]; exact h0
theorem sJN.at_ {P:Str→Prop} {D:Addr} {H:Hp} {k:Nat} {ys:List V} {Hc:Hp} (h:sJN P D H k ys Hc):Hc D = some (.lst ys):=by
 obtain ⟨ws,rfl,hl,ha,rfl⟩:=h
 exact upd_same
def sp_names:Sp:=fun vs H Q _=>∃ (c:Int) (n:Nat),vs = [.int c,.int n]∧n ≤ 12∧∀ (l:Addr) (xs:List Str) H',Same H H'→H l = none→H' l = some (.lst (xs.map V.str))→xs.length = n→(∀ x ∈ xs,Wd x)→xs.Nodup→Q (.ref l) H'
theorem seq_ifs_and {a b:TT} {t v:TS} {D:Ends} {σ:L2.St} {H:Hp} (p q:Bool) (ha:∀ Q:Bool→Hp→Prop,Q p H→a σ H Q) (hb:∀ Q:Bool→Hp→Prop,Q q H→b σ H Q) (ht:(p && q) = true→t { D with nx:=v D } σ H) (hu:v D σ H):tSeq (tIfS (tAnd a b) t tNext) v D σ H:=by
 refine ha _ ?_
 cases p with
 | false=>exact hu
 | true =>
  refine hb _ ?_
  cases q with
  | false=>exact hu
  | true=>exact ht rfl
theorem ok_names {f:Addr} {fd:FuncData} (F:Fun K nm_names nm_names s_names f fd) (T:Txt K mg D) (G_stream:OkF P w K mg base 1 nm_stream ps_stream sp_stream):FnOk P w K mg base CX0 2 f fd ps_names sp_names:=by
 refine F.okB sc_names (fun vs H Q E h=>?_) (fun cdv A outer s H vs Q E hr h=>?_)
 ·obtain ⟨c,n,rfl,_⟩:=h
  rfl
 ·obtain ⟨c,n,rfl,hn,q⟩:=h
  have z1000:1000 ≤ sizeLine:=by decide
  have lL:(Str.ofString "abcdefghijklmnopqrstuvwxyz").length ≤ sizeLine:=Nat.le_trans (show (Str.ofString "abcdefghijklmnopqrstuvwxyz").length ≤ 1000 by decide +kernel) z1000
  refine ⟨_,(pssB_cons (PSB.mk (ps_set (i:=2) sc_names.nd rfl (Or.inr rfl) pe_str))
   (pssB_cons (PSB.mk (ps_set (i:=3) sc_names.nd rfl (Or.inr rfl) (pe_callF G_stream (hr.mono (by decide)) (by rfl) (pa_cons (pv 0) (pa_cons pe_int pa_nil)))))
   (pssB_cons (PSB.mk (ps_if (pw_and (pt_cmpR op_eq (pe_op op_mod (pe_ix ix_listH (pv 3) pe_int (fun _ _=>rfl)) pe_int) pe_int (nomark _)) (pw_and1 (pt_cmpR op_le (pv 1) pe_int (nomark _)))).pt
    (pss_one (ps_ret (pe_compGF (defScope s_names) ["_law_cell_here", "_law_many", "_law_letters", "_law_xs", "_law_base", "_law_at", "_law_step"] ["_law_cell_here", "_law_many", "_law_letters", "_law_xs", "_law_base", "_law_at", "_law_step"] ["_law_k"] rfl rfl rfl (by decide +kernel) (by decide +kernel) rfl (by decide +kernel) (by decide +kernel) (by decide +kernel) (by decide +kernel) (by decide +kernel) (pi_range1 (by rfl) T.b_range (pa_cons (pv 1) pa_nil).mono) (fun _ _ _ _ _=>(pg_name (i:=0) (show List.Nodup (["_law_k", "_law_cell_here", "_law_many", "_law_letters", "_law_xs", "_law_base", "_law_at", "_law_step"] : List Str) from by decide +kernel) rfl (Or.inl rfl) (Or.inr rfl))) (fun _ _ _ _ _=>pts_nil) (fun _ _ _ _ _=>(pe_op op_repS (pe_ix ix_str (pv 3) (pe_op op_mod (pe_ix ix_listH (pv 4) pe_int (fun _ _=>rfl)) pe_int) (fun _ _=>rfl)) (pe_op op_add (pv 0) pe_int))))))
    pss_nil))
   (pssB_cons (PSB.mk (ps_set (i:=4) sc_names.nd rfl (Or.inr rfl) (pe_sm PySem.F.slot_str_join PySem.F.type_str_join mt_join pe_str (pa_cons (pe_compGF (defScope s_names) ["_law_cell_here", "_law_many", "_law_letters", "_law_xs", "_law_base", "_law_at", "_law_step"] ["_law_cell_here", "_law_many", "_law_letters", "_law_xs", "_law_base", "_law_at", "_law_step"] ["_law_x"] rfl rfl rfl (by decide +kernel) (by decide +kernel) rfl (by decide +kernel) (by decide +kernel) (by decide +kernel) (by decide +kernel) (by decide +kernel) (pi_list ((pe_slice sl_list (pv 3) (po_some pe_int) (po_some (pe_op op_add pe_int (pe_op op_mod (pe_ix ix_listH (pv 3) pe_int (fun _ _=>rfl)) pe_int))))).mono) (fun _ _ _ _ _=>(pg_name (i:=0) (show List.Nodup (["_law_x", "_law_cell_here", "_law_many", "_law_letters", "_law_xs", "_law_base", "_law_at", "_law_step"] : List Str) from by decide +kernel) rfl (Or.inl rfl) (Or.inr rfl))) (fun _ _ _ _ _=>pts_nil) (fun _ _ _ _ _=>(pe_ix ix_str (pv 3) (pe_op op_mod (pv 0) pe_int) (fun _ _=>rfl)))) pa_nil))))
   (pssB_cons (PSB.mk (ps_set (i:=5) sc_names.nd rfl (Or.inr rfl) (pe_op op_mod (pe_ix ix_listH (pv 3) pe_int (fun _ _=>rfl)) pe_int)))
   (pssB_cons (psB_set (i:=6) sc_names.nd rfl (Or.inr rfl) (peB_ixL (peB_lst (paB_C peB_int (paB_C peB_int (paB_C peB_int (paB_C peB_int (paB_C peB_int (paB_C peB_int paB_nil))))))) (pe_op op_mod (pe_ix ix_listH (pv 3) pe_int (fun _ _=>rfl)) pe_int) (fun _ _=>rfl)))
   (pssB_one (PSB.mk (ps_ret (pe_compGF (defScope s_names) ["_law_cell_here", "_law_many", "_law_letters", "_law_xs", "_law_base", "_law_at", "_law_step"] ["_law_cell_here", "_law_many", "_law_letters", "_law_xs", "_law_base", "_law_at", "_law_step"] ["_law_k"] rfl rfl rfl (by decide +kernel) (by decide +kernel) rfl (by decide +kernel) (by decide +kernel) (by decide +kernel) (by decide +kernel) (by decide +kernel) (pi_range1 (by rfl) T.b_range (pa_cons (pv 1) pa_nil).mono) (fun _ _ _ _ _=>(pg_name (i:=0) (show List.Nodup (["_law_k", "_law_cell_here", "_law_many", "_law_letters", "_law_xs", "_law_base", "_law_at", "_law_step"] : List Str) from by decide +kernel) rfl (Or.inl rfl) (Or.inr rfl))) (fun _ _ _ _ _=>pts_nil) (fun _ _ _ _ _=>(pe_op op_addS (pe_op op_addS (pe_slice sl_str (pv 5) po_none (po_some (pv 6))) (pe_ix ix_str (pv 3) (pe_op op_mod (pe_op op_add (pe_ix ix_listH (pv 4) pe_int (fun _ _=>rfl)) (pe_op op_mulB (pv 7) (pv 0))) pe_int) (fun _ _=>rfl))) (pe_slice sl_str (pv 5) (po_some (pv 6)) po_none))))))))))))),?_⟩
  unfold sp_stream
  refine ⟨_,rfl,c,11,rfl,by decide,fun l xs H1 S1 hl hl1 hx hr'=>?_⟩
  have at_:∀ j,j < 11→∃ y,atI (xs.map V.int) (j:Nat) = some (.int y)∧0 ≤ y:=fun j hj=>by
   have:j < xs.length:=by omega
   exact ⟨xs[j],atI_nat (j:=j) (by rw [List.getElem?_map,List.getElem?_eq_getElem this]; rfl),(hr' _ (List.getElem_mem this)).1⟩
  obtain ⟨x0,a0,p0⟩:=at_ 0 (by decide)
  obtain ⟨x1,a1,p1⟩:=at_ 1 (by decide)
  obtain ⟨x9,a9,p9⟩:=at_ 9 (by decide)
  obtain ⟨x10,a10,p10⟩:=at_ 10 (by decide)
  dsimp only [gName]
  refine seq_ifs_and (decide (x0 % 3 = 1)) (decide ((n:Int) ≤ 8)) (fun Q' hq=>?_) (fun Q' hq=>?_) (fun hc=>?_) ?_
  ·walk_at "rd"
   exact ⟨_,hl1,_,a0,_,rfl,hq⟩
  ·walk_at "rd"
   exact hq
  ·simp only [Bool.and_eq_true,decide_eq_true_eq] at hc
   obtain ⟨c1,e1,g1,lc1⟩:=ltL_at (a:=x1 % 26) (by omega) (by omega)
   refine tCompG1_rng ?_
   walk_at "rd"
   refine ⟨n,rfl,by omega,fun D2 hD2=>⟨rJ (nm1 c1) D2 H1,⟨[],rfl,rfl,by simp,rfl⟩,?_,?_⟩⟩
   ·rintro k ys Hc hk j hy
    have hlc:Hc l = some (.lst (xs.map V.int)):=j.same hD2 _ _ hl1
    unfold rRepS
    walk_at "rd"
    refine ⟨_,hlc,_,a1,_,rfl,lL,c1,e1,c1,rfl,by omega,by omega,fun z hz=>⟨j.at_,j.next ?_⟩⟩
    rw [show ((k:Int) + 1).toNat = k + 1 by omega] at hz
    exact hz
   ·rintro ys Hc ⟨ss,rfl,hsl,hss,rfl⟩ hy
    refine q D2 ss _ (S1.trans (Same.upd hD2)) (Same.free S1 hD2) upd_same hsl (all_R hss fun i x hi h=>nm1_wd lc1 (by omega) h) (nodup_R hss fun i j x ij hj h1 h2=>?_)
    have:=congrArg List.length (h1.symm.trans h2)
    rw [List.length_replicate,List.length_replicate] at this
    omega
  ·walk_at "rd"
   refine tCompG1_list ?_
   walk_at "rd"
   obtain ⟨m,em,hm⟩ : ∃ m:Nat,x1 % 8 = m∧m ≤ 7:=⟨(x1 % 8).toNat,by omega,by omega⟩
   refine ⟨_,hl1,_,a1,_,rfl,_,.of hl1,fun p hp=>?_⟩
   have ec:cutV (xs.map V.int) (some 2) (some (2 + x1 % 8)) = ((xs.drop 2).take m).map V.int:=by
    rw [em,List.map_take,List.map_drop]
    have:=cut_mid (ys:=xs.map V.int) (a:=2) (b:=2 + m) (by omega) (by rw [List.length_map]; omega)
    rw [show 2 + m - 2 = m by omega] at this
    exact this
   rw [ec]
   have ml:((xs.drop 2).take m).length = m:=by rw [List.length_take,List.length_drop]; omega
   have S2:Same H1 (upd H1 p (.lst (((xs.drop 2).take m).map V.int))):=Same.upd hp
   generalize upd H1 p (.lst (((xs.drop 2).take m).map V.int)) = H2 at S2 ⊢
   generalize (xs.drop 2).take m = us at ml ⊢
   refine ⟨by rw [List.length_map]; omega,fun D1 hD1=>⟨sJN (fun x=>Lt x∧x.length = 1) D1 H2,⟨[],rfl,rfl,by simp,rfl⟩,?_,?_⟩⟩
   ·rintro k y1 ys Hc hk j hy hpc
    rw [List.getElem?_map] at hk
    cases er:us[k]? with
    | none=>rw [er] at hk; cases hk
    | some i =>
     rw [er] at hk
     cases hk
     obtain ⟨c',e',hc'⟩:=Lt.one (Int.emod_nonneg i (show (26:Int) ≠ 0 by decide)) (Int.emod_lt_of_pos i (by decide))
     exact ⟨i,rfl,lL,c',e',j.at_,hpc,j.next ⟨hc',rfl⟩⟩
   ·rintro ys Hc ⟨ss,rfl,hl8,hss,rfl⟩ hy
    rw [List.length_map,ml] at hl8
    have stL:Lt (Txt.join (Str.ofString "") ss):=Lt.glued fun y hy=>(hss y hy).1
    have sum1:(ss.map (·.length)).sum = m:=by rw [sum_onesN fun y hy=>(hss y hy).2,hl8]
    have e0:(Str.ofString "").length = 0:=by decide +kernel
    have stN:(Txt.join (Str.ofString "") ss).length = m:=by
     show (Builtin.Str.glued (Str.ofString "") ss).length = m
     rw [size_glued,sum1,e0,Nat.mul_zero]; rfl
    have S3:Same H (upd H2 D1 (.lst (ss.map V.str))):=S1.trans (S2.trans (Same.upd hD1))
    have hl3:upd H2 D1 (.lst (ss.map V.str)) l = some (.lst (xs.map V.int)):=Same.upd hD1 _ _ (S2 _ _ hl1)
    refine ⟨ss,upd_same,by rw [sum1,e0]; omega,?_⟩
    generalize upd H2 D1 (.lst (ss.map V.str)) = H3 at S3 hl3 ⊢
    generalize Txt.join (Str.ofString "") ss = st at stL stN ⊢
    refine ⟨_,hl3,_,a9,_,rfl,by decide,fun p2 hp2=>?_⟩
    have hl4:upd H3 p2 (.lst [.int 1,.int 3,.int 5,.int 7,.int 9,.int 11]) l = some (.lst (xs.map V.int)):=Same.upd hp2 _ _ hl3
    have S4:Same H (upd H3 p2 (.lst [.int 1,.int 3,.int 5,.int 7,.int 9,.int 11])):=S3.trans (Same.upd hp2)
    have hp4:upd H3 p2 (.lst [.int 1,.int 3,.int 5,.int 7,.int 9,.int 11]) p2 = some (.lst [.int 1,.int 3,.int 5,.int 7,.int 9,.int 11]):=upd_same
    generalize upd H3 p2 (.lst [.int 1,.int 3,.int 5,.int 7,.int 9,.int 11]) = H4 at S4 hl4 hp4 ⊢
    refine ⟨_,hl4,_,a10,_,rfl,?_⟩
    obtain ⟨sv,es,hs⟩ : ∃ sv:Int,atI [V.int 1,V.int 3,V.int 5,V.int 7,V.int 9,V.int 11] (x10 % 6) = some (.int sv)∧(sv = 1∨sv = 3∨sv = 5∨sv = 7∨sv = 9∨sv = 11):=by
     obtain e | e | e | e | e | e:x10 % 6 = 0∨x10 % 6 = 1∨x10 % 6 = 2∨x10 % 6 = 3∨x10 % 6 = 4∨x10 % 6 = 5:=by omega
     ·exact ⟨1,by rw [e]; exact atI_nat (j:=0) rfl,by decide⟩
     ·exact ⟨3,by rw [e]; exact atI_nat (j:=1) rfl,by decide⟩
     ·exact ⟨5,by rw [e]; exact atI_nat (j:=2) rfl,by decide⟩
     ·exact ⟨7,by rw [e]; exact atI_nat (j:=3) rfl,by decide⟩
     ·exact ⟨9,by rw [e]; exact atI_nat (j:=4) rfl,by decide⟩
     ·exact ⟨11,by rw [e]; exact atI_nat (j:=5) rfl,by decide⟩
    obtain ⟨ap,eap,hap⟩ : ∃ ap:Nat,x9 % 8 = ap∧ap ≤ 7:=⟨(x9 % 8).toNat,by omega,by omega⟩
    refine ⟨_,es,tCompG1_rng ?_⟩
    rw [eap]
    walk_at "rd"
    refine ⟨n,rfl,by omega,fun D2 hD2=>⟨rJ (nm2 st.cps.toList ap x0 sv) D2 H4,⟨[],rfl,rfl,by simp,rfl⟩,?_,?_⟩⟩
    ·rintro k ys Hc hk j hy
     have hlc:Hc l = some (.lst (xs.map V.int)):=j.same hD2 _ _ hl4
     obtain ⟨c2,e2,g2,lc2⟩:=ltL_at (a:=(x0 + sv * k) % 26) (by omega) (by omega)
     have t1:(cutS st none (some (ap:Int))).length ≤ 7:=by rw [← len_cps,cut_to,List.length_take,len_cps]; omega
     have t2:(cutS st (some (ap:Int)) none).length ≤ 7:=by rw [← len_cps,cut_from,List.length_drop,len_cps]; omega
     have t3:({ cps:=#[c2] } : Str).length = 1:=rfl
     refine ⟨by omega,_,hlc,_,a0,Bd.sm (by omega),Bd.sm (by omega),_,rfl,lL,c2,e2,by omega,by omega,by rw [len_add]; omega,j.at_,j.next ⟨c2,g2,lc2,?_⟩⟩
     rw [add_cps,add_cps,cut_to,cut_from,List.append_assoc]; rfl
    ·rintro ys Hc ⟨ns,rfl,hsl,hns,rfl⟩ hy
     refine q D2 ns _ (S4.trans (Same.upd hD2)) (Same.free S4 hD2) upd_same hsl (all_R hns fun i x hi h=>nm2_wd stL (by rw [len_cps]; omega) h) (nodup_R hns fun i j x ij hj h1 h2=>nm2_one hs ij (by omega) h1 h2)
def clsOf (D:Adr) (so:Int):Addr:=if so = 0 then D.Sure else if so = 1 then D.Toss else if so = 2 then D.Even else D.Mixed
structure Drawn (so:Int) (rs:List Str) (ws:List Int) (S:Int):Prop where
 s0:0 ≤ so
 s3:so ≤ 3
 len:rs.length = ws.length
 wt:Wt (rs.zip ws) S
 ne:1 ≤ rs.length
 a0:so = 0→rs.length = 1∧ws = [1]∧S = 1
 a1:so = 1→rs.length = 2
 a2:so = 2→ws = List.replicate rs.length 1∧S = rs.length
theorem two_of {α:Type} : ∀ {l:List α},l.length = 2→∃ a b,l = [a,b]
 | [a,b],_=>⟨a,b,rfl⟩
theorem zip_ones:∀ rs:List Str,rs.zip (List.replicate rs.length (1:Int)) = rs.map fun r=>(r,(1:Int))
 | []=>rfl
 | r :: rs=>by rw [List.length_cons,List.replicate_succ,List.zip_cons_cons,zip_ones rs]; rfl
structure PI (H:Hp) (ps:List V) (rs:List Nat) (ws:List Int) (S:Int):Prop where
 len:ps.length = rs.length
 at_:∀ (k r:Nat) (x:Int),rs[k]? = some r→ws[k]? = some x→∃ t c:Addr,ps[k]? = some (.ref t)∧H t = some (.tup [.int (r:Nat),.ref c])∧H c = some (.tup [.int (Ac.lw x S).1,.int (Ac.lw x S).2])
theorem PI.same {H H':Hp} {ps:List V} {rs:List Nat} {ws:List Int} {S:Int} (h:PI H ps rs ws S) (T:Same H H'):PI H' ps rs ws S:=⟨h.len,fun k r x e1 e2=>let ⟨t,c,a,b,d⟩:=h.at_ k r x e1 e2; ⟨t,c,a,T _ _ b,T _ _ d⟩⟩
def NamesOf (ns:List Str) (rs:List Nat) (nms:List Str):Prop:=nms.length = rs.length∧∀ (k r:Nat) (m:Str),rs[k]? = some r→nms[k]? = some m→ns[r]? = some m
def sp_built (K:PySem.W.Frag) (D:Adr):Sp:=fun vs H Q _=>∃ (so:Int) (d n lp p:Addr) (t:Str) (x y S:Int) (rs:List Nat) (ws:List Int) (ps:List V) (ns nms:List Str),vs = [.str t,.ref d,.ref n]∧H d = some (.tup [.int so,.ref p,.ref lp])∧Wd t∧Fk K H p x y∧H lp = some (.lst ps)∧PI H ps rs ws S∧H n = some (.lst (ns.map V.str))∧NamesOf ns rs nms∧Drawn so nms ws S ∧
 ∀ H' s ld ys us,Same H H'→H s = none→H ld = none→Door1 K H' s (clsOf D so) t p (Ac.ways (nms.zip ws) S) ld ys us→Q (.ref s) H'
def bJ (D1:Addr) (gs:List (Str × Int)) (S:Int) (H:Hp) (k:Nat) (ys:List V) (H':Hp):Prop:=Same H H'∧H' D1 = some (.lst ys)∧PW H' ys (gs.take k) S
def eJ (D1:Addr) (ss:List Str) (H:Hp) (k:Nat) (ys:List V) (H':Hp):Prop:=Same H H'∧H' D1 = some (.lst ys)∧ys = (ss.take k).map V.str
theorem PW.snocT {H:Hp} {xs:List V} {gs:List (Str × Int)} {S x:Int} {m:Str} {t c:Addr} (h:PW H xs gs S) (ht:H t = some (.tup [.str m,.ref c])) (hc:H c = some (.tup [.int (Ac.lw x S).1,.int (Ac.lw x S).2])):PW H (xs ++ [.ref t]) (gs ++ [(m,x)]) S:=by
 refine ⟨by rw [List.length_append,List.length_append,h.len]; rfl,fun k g' e=>?_⟩
 by_cases hk:k < gs.length
 ·rw [List.getElem?_append_left hk] at e
  obtain ⟨t',c',a,b⟩:=h.at_ k g' e
  exact ⟨t',c',by rw [List.getElem?_append_left (by rw [h.len]; exact hk)]; exact a,b⟩
 ·rw [List.getElem?_append_right (by omega)] at e
  have e0:k - gs.length = 0:=by
   have:=(List.getElem?_eq_some_iff.mp e).1
   simp at this; omega
  rw [e0] at e
  cases e
  refine ⟨t,c,?_,ht,hc⟩
  rw [List.getElem?_append_right (by rw [h.len]; omega),h.len,e0]; rfl
theorem ok_built {f:Addr} {fd:FuncData} (F:Fun K nm_built nm_built s_built f fd) (T:Txt K mg D) (G_Sure_initX:OkI P w K mg base (CXO P w) 5 D.Sure_init ps_Sure_init (sp_Sure_init (K:=K) D)) (G_Mixed_initX:OkI P w K mg base (CXO P w) 5 D.Mixed_init ps_Mixed_init (sp_Mixed_init K D)) (G_Toss_initX:OkI P w K mg base (CXO P w) 6 D.Toss_init ps_Toss_init (sp_Toss_init K D))
  (G_Even_initX:OkI P w K mg base (CXO P w) 6 D.Even_init ps_Even_init (sp_Even_init K D)):FnOk P w K mg base CX0 8 f fd ps_built (sp_built K D):=by
 refine F.ok sc_built (fun vs H Q E h=>?_) (fun cdv A outer s H vs Q E hr h=>?_)
 ·obtain ⟨so,d,n,lp,p,t,x,y,S,rs,ws,ps,ns,nms,rfl,_⟩:=h
  rfl
 ·obtain ⟨so,d,n,lp,p,t,x,y,S,rs,ws,ps,ns,nms,rfl,hd,ht,hf,hlp,hp,hns,no,dr,q⟩:=h
  have fam:∀ C,(C = D.Sure∨C = D.Mixed∨C = D.Toss∨C = D.Even)→Fam D C:=by
   intro C hC
   unfold Fam
   rcases hC with h | h | h | h <;> simp [h]
  have s0:=dr.s0
  have s3:=dr.s3
  have hlen:=dr.len
  have gl:(nms.zip ws).length = nms.length:=by rw [List.length_zip]; omega
  have g8:=dr.wt.len
  have z9:100 < sizeLine:=by decide
  refine ⟨_,(pss_cons (ps_asg (pv 1) (pg_tupH (n:=3) rfl (pgs_cons (pg_name (i:=4) sc_built.nd rfl (Or.inl rfl)) (pgs_cons (pg_name (i:=5) sc_built.nd rfl (Or.inl rfl)) (pgs_cons (pg_name (i:=6) sc_built.nd rfl (Or.inl rfl)) pgs_nil)))))
   (pss_cons (ps_compGF (defScope s_built) ["_law_title", "_law_door_here", "_law_names_here", "_law_told", "_law_sort", "_law_pay_here", "_law_pairs"] ["_law_title", "_law_door_here", "_law_names_here", "_law_told", "_law_sort", "_law_pay_here", "_law_pairs"] ["_law_room", "_law_chance"] rfl rfl rfl (by decide +kernel) (by decide +kernel) rfl (by decide +kernel) (by decide +kernel) (by decide +kernel) (by decide +kernel) (by decide +kernel) (pi_list ((pv 6)).mono) (fun _ _ _ _ _=>(pg_tupH (n:=2) rfl (pgs_cons (pg_name (i:=0) (show List.Nodup (["_law_room", "_law_chance", "_law_title", "_law_door_here", "_law_names_here", "_law_told", "_law_sort", "_law_pay_here", "_law_pairs"] : List Str) from by decide +kernel) rfl (Or.inl rfl) (Or.inr rfl)) (pgs_cons (pg_name (i:=1) (show List.Nodup (["_law_room", "_law_chance", "_law_title", "_law_door_here", "_law_names_here", "_law_told", "_law_sort", "_law_pay_here", "_law_pairs"] : List Str) from by decide +kernel) rfl (Or.inl rfl) (Or.inr rfl)) pgs_nil)))) (fun _ _ _ _ _=>pts_nil) (fun _ _ _ _ _=>(pe_tup (pa_cons (pe_ix ix_listH (pv 4) (pv 0) (fun _ _=>rfl)) (pa_cons (pv 1) pa_nil)))) (pg_name (i:=3) sc_built.nd rfl (Or.inl rfl)))
   (pss_cons (ps_if (pt_cmpR op_eq (pv 4) pe_int (nomark _))
    (pss_one (ps_ret (pe_makeI T.mk_Sure G_Sure_initX (hr.mono (by decide)) (by rfl) T.c_Sure xfly_no (pa_cons (pv 0) (pa_cons (pv 5) (pa_cons (pe_ix ix_tupH (pe_ix ix_listH (pv 3) pe_int (fun _ _=>rfl)) pe_int (fun _ _=>rfl)) pa_nil))))))
    pss_nil)
   (pss_cons (ps_if (pt_cmpR op_eq (pv 4) pe_int (nomark _))
    (pss_one (ps_ret (pe_makeI T.mk_Toss G_Toss_initX (hr.mono (by decide)) (by rfl) T.c_Toss xfly_no (pa_cons (pv 0) (pa_cons (pv 5) (pa_cons (pe_ix ix_tupH (pe_ix ix_listH (pv 3) pe_int (fun _ _=>rfl)) pe_int (fun _ _=>rfl)) (pa_cons (pe_ix ix_tupH (pe_ix ix_listH (pv 3) pe_int (fun _ _=>rfl)) pe_int (fun _ _=>rfl)) (pa_cons (pe_ix ix_tupH (pe_ix ix_listH (pv 3) pe_int (fun _ _=>rfl)) pe_int (fun _ _=>rfl)) pa_nil))))))))
    pss_nil)
   (pss_cons (ps_if (pt_cmpR op_eq (pv 4) pe_int (nomark _))
    (pss_one (ps_ret (pe_makeI T.mk_Even G_Even_initX (hr.mono (by decide)) (by rfl) T.c_Even xfly_no (pa_cons (pv 0) (pa_cons (pv 5) (pa_cons (pe_compGF (defScope s_built) ["_law_title", "_law_door_here", "_law_names_here", "_law_told", "_law_sort", "_law_pay_here", "_law_pairs"] ["_law_title", "_law_door_here", "_law_names_here", "_law_told", "_law_sort", "_law_pay_here", "_law_pairs"] ["_law_room", "_law_chance"] rfl rfl rfl (by decide +kernel) (by decide +kernel) rfl (by decide +kernel) (by decide +kernel) (by decide +kernel) (by decide +kernel) (by decide +kernel) (pi_list ((pv 3)).mono) (fun _ _ _ _ _=>(pg_tupH (n:=2) rfl (pgs_cons (pg_name (i:=0) (show List.Nodup (["_law_room", "_law_chance", "_law_title", "_law_door_here", "_law_names_here", "_law_told", "_law_sort", "_law_pay_here", "_law_pairs"] : List Str) from by decide +kernel) rfl (Or.inl rfl) (Or.inr rfl)) (pgs_cons (pg_name (i:=1) (show List.Nodup (["_law_room", "_law_chance", "_law_title", "_law_door_here", "_law_names_here", "_law_told", "_law_sort", "_law_pay_here", "_law_pairs"] : List Str) from by decide +kernel) rfl (Or.inl rfl) (Or.inr rfl)) pgs_nil)))) (fun _ _ _ _ _=>pts_nil) (fun _ _ _ _ _=>(pv 0))) pa_nil))))))
    pss_nil)
   (pss_one (ps_ret (pe_makeI T.mk_Mixed G_Mixed_initX (hr.mono (by decide)) (by rfl) T.c_Mixed xfly_no (pa_cons (pv 0) (pa_cons (pv 5) (pa_cons (pv 3) pa_nil))))))))))),?_⟩
  unfold sp_Sure_init sp_Toss_init sp_Even_init sp_Mixed_init
  walk_at "rd"
  refine ⟨_,hd,rfl,_,_,rfl,_,_,rfl,_,_,rfl,rfl,tCompG_list ?_⟩
  walk_at "rd"
  have l100:ps.length ≤ sizeLine:=by rw [hp.len,← no.1]; omega
  refine ⟨ps,hlp,l100,fun D1 hD=>⟨bJ D1 (nms.zip ws) S H,⟨Same.upd hD,upd_same,rfl,fun k g e=>by simp at e⟩,?_,?_⟩⟩
  ·rintro k v ys Hc hk ⟨S1,h1,pw⟩ hy hlc pre hpre
   have lk:k < rs.length:=by rw [← hp.len]; exact (List.getElem?_eq_some_iff.mp hk).1
   have e1:rs[k]? = some rs[k]:=List.getElem?_eq_getElem lk
   have e2:nms[k]? = some (nms[k]'(by rw [no.1]; exact lk)):=List.getElem?_eq_getElem _
   have e3:ws[k]? = some (ws[k]'(by rw [← hlen,no.1]; exact lk)):=List.getElem?_eq_getElem _
   have eg:(nms.zip ws)[k]? = some (nms[k]'(by rw [no.1]; exact lk),ws[k]'(by rw [← hlen,no.1]; exact lk)):=List.getElem?_zip_eq_some.mpr ⟨e2,e3⟩
   have en:=no.2 _ _ _ e1 e2
   obtain ⟨tt,c,ea,eb,ec⟩:=(hp.same S1).at_ k _ _ e1 e3
   rw [hk] at ea
   cases ea
   generalize rs[k] = r at *
   generalize nms[k]'(by rw [no.1]; exact lk) = m at *
   generalize ws[k]'(by rw [← hlen,no.1]; exact lk) = z at *
   obtain ⟨u1,u2,rfl⟩:=two_of hpre
   walk_at "rd"
   refine ⟨_,eb,rfl,_,_,rfl,_,_,rfl,rfl,[_,_],rfl,rfl,?_⟩
   refine ⟨_,_,rfl,S1 _ _ hns,_,atI_nat (by rw [List.getElem?_map,en]; rfl),line2,fun p1 hp1=>?_⟩
   have nD:D1 ≠ p1:=ne_of_none h1 hp1
   refine ⟨(upd_ne nD).trans h1,(upd_ne (ne_of_none hlc hp1)).trans hlc,fun b o e=>(upd_ne (ne_of_none e hD)).trans ((upd_ne (ne_of_none (S1 _ _ e) hp1)).trans (S1 _ _ e)),upd_same,?_⟩
   rw [take_next eg]
   refine (pw.imp fun t ys e=>?_).snocT (c:=c) ?_ ?_
   ·exact (upd_ne (ne_of e h1 (by intro z; cases z))).trans ((upd_ne (ne_of_none e hp1)).trans e)
   ·exact (upd_ne nD.symm).trans upd_same
   ·exact (upd_ne (ne_of ec h1 (by intro z; cases z))).trans ((upd_ne (ne_of_none ec hp1)).trans ec)
  ·rintro ys Hc ⟨S1,h1,pw⟩ hy
   rw [hp.len,← no.1,← gl,List.take_length] at pw
   have hw:=ht.word
   have h1000:t.length ≤ 1000:=Nat.le_trans ht.hi (by decide)
   have hf':=hf.same S1
   have mk:∀ {G:Hp} {C s dx:Addr},G s = none→G dx = none→¬ dx = s→Same G (upd (upd G dx (.own s)) s (.ins C dx [])):=fun {G C s dx} h1 h2 h3 b o e=>by
    rw [upd_ne (ne_of_none e h1),upd_ne (ne_of_none e h2)]; exact e
   have kp:∀ {G:Hp} {C s dx:Addr} {H':Hp},Same H G→G s = none→G dx = none→¬ dx = s→Keep s (upd (upd G dx (.own s)) s (.ins C dx [])) H'→Same H H':=fun {G C s dx H'} SG h1 h2 h3 k b o e=>k b o (ne_of_none (SG _ _ e) h1) (mk h1 h2 h3 b o (SG _ _ e))
   obtain e | e | e | e:so = 0∨so = 1∨so = 2∨so = 3:=by omega
   ·subst e
    obtain ⟨l1,rfl,rfl⟩:=dr.a0 rfl
    obtain ⟨r,rfl⟩:=List.length_eq_one_iff.mp l1
    have wr:=dr.wt.wd (r,1) (by simp)
    obtain ⟨t0,c0,ea,eb,ec⟩:=pw.at_ 0 (r,1) rfl
    rw [if_pos (by decide)]
    refine ⟨_,h1,_,atI_nat (j:=0) ea,t0,rfl,_,eb,_,atI_0,fun o dx h1 h2 h3=>⟨dx,r,rfl,rfl,h1000,hw,wr.1,wr.2,⟨x,y,hf'.same (mk h1 h2 h3)⟩,fun t l H' f k e1 e2 e3=>?_⟩⟩
    refine q H' o l [.ref t] [(r,D.ONE)] (kp S1 h1 h2 h3 k) (Same.free S1 h1) (Same.free S1 (Same.free (mk h1 h2 h3) f)) ⟨⟨dx,e3⟩,e2,?_⟩
    show WF K H' [.ref t] (Ac.ways [(r,1)] 1) [(r,D.ONE)]
    rw [Ac.ways_one]
    exact .cons e1 (T.kt_ONE H') .nil
   ·subst e
    have l2:=dr.a1 rfl
    obtain ⟨r1,r2,rfl⟩:=two_of l2
    obtain ⟨w1,w2,rfl⟩:=two_of (hlen.symm.trans l2)
    have wt:=dr.wt
    have es:w2 = S - w1:=by
     have:=wt.sum
     simp at this
     omega
    subst es
    obtain ⟨t0,c0,ea,eb,ec⟩:=pw.at_ 0 (r1,w1) rfl
    obtain ⟨t1,c1,fa,fb,fc⟩:=pw.at_ 1 (r2,S - w1) rfl
    rw [if_neg (by decide),if_pos (by decide)]
    refine ⟨_,h1,_,atI_nat (j:=0) ea,t0,rfl,_,eb,_,atI_1,_,h1,_,atI_nat (j:=0) ea,t0,rfl,_,eb,_,atI_0,_,h1,_,atI_nat (j:=1) fa,t1,rfl,_,fb,_,atI_0,fun o dx h1' h2 h3=>?_⟩
    refine ⟨dx,r1,r2,c0,rfl,rfl,rfl,rfl,h1000,hw,⟨x,y,hf'.same (mk h1' h2 h3)⟩,w1,S,mk h1' h2 h3 _ _ ec,wt,fun H' ld ys us f k d=>?_⟩
    exact q H' o ld ys us (kp S1 h1' h2 h3 k) (Same.free S1 h1') (Same.free S1 (Same.free (mk h1' h2 h3) f)) d
   ·subst e
    obtain ⟨ew,rfl⟩:=dr.a2 rfl
    subst ew
    have hz:nms.zip (List.replicate nms.length (1:Int)) = nms.map fun r=>(r,(1:Int)):=zip_ones nms
    have wt:=dr.wt
    rw [hz] at wt q
    rw [if_neg (by decide),if_neg (by decide),if_pos (by decide)]
    refine tCompG_list ?_
    walk_at "rd"
    have ml:(nms.map fun r=>(r,(1:Int))).length = nms.length:=List.length_map ..
    rw [hz] at pw
    refine ⟨ys,h1,by rw [pw.len,ml]; omega,fun D2 hD2=>⟨eJ D2 nms Hc,⟨Same.upd hD2,upd_same,rfl⟩,?_,?_⟩⟩
    ·rintro k v zs H3 hk ⟨S3,h3,ez⟩ hy3 h13 pre hpre
     have lk:k < nms.length:=by rw [← ml,← pw.len]; exact (List.getElem?_eq_some_iff.mp hk).1
     have e2:nms[k]? = some nms[k]:=List.getElem?_eq_getElem lk
     obtain ⟨t0,c0,ea,eb,ec⟩:=pw.at_ k (nms[k],1) (by rw [List.getElem?_map,e2]; rfl)
     rw [hk] at ea
     cases ea
     generalize nms[k] = m at *
     obtain ⟨u1,u2,rfl⟩:=two_of hpre
     walk_at "rd"
     refine ⟨_,S3 _ _ eb,rfl,_,_,rfl,_,_,rfl,rfl,[_,_],rfl,rfl,?_⟩
     refine ⟨h3,h13,fun b o e=>(upd_ne (ne_of_none e hD2)).trans (S3 _ _ e),upd_same,?_⟩
     rw [take_next e2,List.map_append,ez]; rfl
    ·rintro zs H3 ⟨S3,h3,ez⟩ hy3 o dx h1' h2 h3'
     rw [pw.len,ml,List.take_length] at ez
     subst ez
     refine ⟨⟨dx,rfl⟩,h1000,hw,⟨x,y,(hf'.same S3).same (mk h1' h2 h3')⟩,nms,mk h1' h2 h3' _ _ h3,wt,fun H' ld ys us f k d=>?_⟩
     exact q H' o ld ys us (kp (S1.trans S3) h1' h2 h3' k) (Same.free (S1.trans S3) h1') (Same.free (S1.trans S3) (Same.free (mk h1' h2 h3') f)) d
   ·subst e
    rw [if_neg (by decide),if_neg (by decide),if_neg (by decide)]
    intro o dx h1' h2 h3
    refine ⟨dx,D.Mixed,rfl,fam _ (by simp),h1000,hw,⟨x,y,hf'.same (mk h1' h2 h3)⟩,ys,mk h1' h2 h3 _ _ h1,_,_,pw.same (mk h1' h2 h3),dr.wt,fun H' ld ys us f k d=>?_⟩
    exact q H' o ld ys us (kp S1 h1' h2 h3 k) (Same.free S1 h1') (Same.free S1 (Same.free (mk h1' h2 h3) f)) d
theorem lw_rest {t b:Int} : Ac.lw (b - t) b = ((Ac.lw t b).2 - (Ac.lw t b).1,(Ac.lw t b).2):=by
 unfold Ac.lw
 rw [Int.gcd_self_sub_left,Int.sub_ediv_of_dvd b (Int.gcd_dvd_left t b)]
theorem lw_ones {b:Int} : Ac.lw 1 b = (1,b):=by
 unfold Ac.lw
 rw [Int.one_gcd]
 simp
structure DrawnN (n:Nat) (so:Int) (rs:List Nat) (ws:List Int) (S:Int):Prop where
 s0:0 ≤ so
 s3:so ≤ 3
 len:rs.length = ws.length
 pos:0 < S
 le:S ≤ 10 ^ 20
 l8:rs.length ≤ 8
 lo:∀ x ∈ ws,0 ≤ x
 sum:ws.sum = S
 ne:1 ≤ rs.length
 a0:so = 0→rs.length = 1∧ws = [1]∧S = 1
 a1:so = 1→rs.length = 2
 a2:so = 2→ws = List.replicate rs.length 1∧S = rs.length
 lt:∀ r ∈ rs,r < n
theorem DrawnN.drawn {n:Nat} {so S:Int} {rs:List Nat} {ws:List Int} {ns nms:List Str} (h:DrawnN n so rs ws S) (no:NamesOf ns rs nms) (hw:∀ m ∈ ns,Wd m):Drawn so nms ws S:=by
 have e:=no.1
 have l:=h.len
 refine ⟨h.s0,h.s3,by omega,⟨h.pos,h.le,?_,fun g hg=>?_,fun g hg=>?_,?_⟩,by rw [e]; exact h.ne,fun z=>by rw [e]; exact h.a0 z,fun z=>by rw [e]; exact h.a1 z,fun z=>by rw [e]; exact h.a2 z⟩
 ·rw [List.length_zip]
  have:=h.l8
  omega
 ·obtain ⟨k,hk⟩:=List.getElem?_of_mem hg
  obtain ⟨a,b⟩:=List.getElem?_zip_eq_some.mp hk
  have lk:=(List.getElem?_eq_some_iff.mp a).1
  have er:rs[k]? = some (rs[k]'(by omega)):=List.getElem?_eq_getElem _
  have w:=hw _ (List.mem_of_getElem? (no.2 k _ _ er a))
  exact ⟨Nat.le_trans w.hi (by decide),w.word⟩
 ·exact h.lo _ (List.of_mem_zip hg).2
 ·have:(nms.zip ws).map (·.2) = ws:=List.map_snd_zip (by omega)
  rw [this]; exact h.sum
theorem seq_hide {t u:TS} {D:Ends} {σ:L2.St} {H:Hp} (h:∀ u',u' = u→tSeq t u' D σ H):tSeq t u D σ H:=h u rfl
theorem seq_hide3 {a b c d:TS} {D:Ends} {σ:L2.St} {H:Hp} (h:∀ d',d' = d→tSeq a (tSeq b (tSeq c d')) D σ H):tSeq a (tSeq b (tSeq c d)) D σ H:=h d rfl
theorem seq_if_no {t v:TS} {D:Ends} {σ:L2.St} {H:Hp} {i k:Int} (hσ:σ[4]? = some (some (.int i))) (ne:i ≠ k) (h:v D σ H):tSeq (tIfS (tTest (tOp rEq (tVar 4) (tC (.int k)))) t tNext) v D σ H:=by
 refine ⟨_,hσ,rfl,_,rfl,?_⟩
 dsimp only
 rw [if_neg (by simp [ne])]
 exact h
theorem seq_if_yes {t v:TS} {D:Ends} {σ:L2.St} {H:Hp} {i k:Int} (hσ:σ[4]? = some (some (.int i))) (e:i = k) (h:∀ Kn:L2.St→Hp→Prop,(∀ σ' H',v D σ' H'→Kn σ' H')→t { D with nx:=Kn } σ H):tSeq (tIfS (tTest (tOp rEq (tVar 4) (tC (.int k)))) t tNext) v D σ H:=by
 refine ⟨_,hσ,rfl,_,rfl,?_⟩
 dsimp only
 rw [if_pos (by simp [e])]
 exact h _ fun _ _ z=>z
theorem PI.imp {H H':Hp} {ps:List V} {rs:List Nat} {ws:List Int} {S:Int} (T:∀ t ys,H t = some (.tup ys)→H' t = some (.tup ys)) (h:PI H ps rs ws S):PI H' ps rs ws S:=⟨h.len,fun k r x e1 e2=>let ⟨t,c,a,b,d⟩:=h.at_ k r x e1 e2; ⟨t,c,a,T _ _ b,T _ _ d⟩⟩
theorem PI.snoc {H:Hp} {ps:List V} {rs:List Nat} {ws:List Int} {S x:Int} {r:Nat} {t c:Addr} (h:PI H ps rs ws S) (hl:ws.length = rs.length) (ht:H t = some (.tup [.int r,.ref c])) (hc:H c = some (.tup [.int (Ac.lw x S).1,.int (Ac.lw x S).2])):PI H (ps ++ [.ref t]) (rs ++ [r]) (ws ++ [x]) S:=by
 refine ⟨by rw [List.length_append,List.length_append,h.len]; rfl,fun k r' x' e1 e2=>?_⟩
 by_cases hk:k < rs.length
 ·rw [List.getElem?_append_left hk] at e1
  rw [List.getElem?_append_left (by omega)] at e2
  obtain ⟨t',c',a,b⟩:=h.at_ k r' x' e1 e2
  exact ⟨t',c',by rw [List.getElem?_append_left (by rw [h.len]; exact hk)]; exact a,b⟩
 ·rw [List.getElem?_append_right (by omega)] at e1
  rw [List.getElem?_append_right (by omega)] at e2
  have e0:k - rs.length = 0:=by
   have:=(List.getElem?_eq_some_iff.mp e1).1
   simp at this; omega
  rw [e0] at e1
  rw [hl,e0] at e2
  cases e1
  cases e2
  refine ⟨t,c,?_,ht,hc⟩
  rw [List.getElem?_append_right (by rw [h.len]; omega),h.len,e0]; rfl
theorem cut_list30 {ys:List V} {n:Nat} (h:n ≤ ys.length):cutV ys none (some (n:Int)) = ys.take n:=by
 unfold cutV
 rw [HT.sIx_nat,Nat.min_eq_left h]
 show ((ys.drop 0).take (n - 0)) = _
 rw [List.drop_zero,Nat.sub_zero]
theorem rep_sum30 (n:Nat):(List.replicate n (1:Int)).sum = n:=by
 induction n with
 | zero=>rfl
 | succ n ih=>rw [List.replicate_succ,List.sum_cons,ih]; omega
def evJ (D1:Addr) (rs:List Nat) (ws:List Int) (S:Int) (H:Hp) (k:Nat) (ys:List V) (H':Hp):Prop:=Same H H'∧H' D1 = some (.lst ys)∧PI H' ys (rs.take k) (ws.take k) S
def weJ (D1:Addr) (H:Hp) (k:Nat) (ys:List V) (H':Hp):Prop:=∃ ws:List Int,ys = ws.map V.int∧ws.length = k∧(∀ x ∈ ws,0 ≤ x∧x ≤ 1000)∧Same H H'∧H' D1 = some (.lst ys)
theorem int_sum30:∀ l:List Int,(∀ x ∈ l,0 ≤ x∧x ≤ 1001)→0 ≤ l.sum∧l.sum ≤ 1001 * l.length∧∀ x ∈ l,x ≤ l.sum
 | [],_=>⟨by simp,by simp,by simp⟩
 | a :: l,h=>by
  obtain ⟨h1,h2,h3⟩:=int_sum30 l fun x hx=>h x (List.mem_cons_of_mem _ hx)
  have h0:=h a List.mem_cons_self
  rw [List.sum_cons,List.length_cons]
  refine ⟨by omega,by omega,fun x hx=>?_⟩
  rcases List.mem_cons.mp hx with rfl | hx
  ·omega
  ·have:=h3 x hx
   omega
theorem ixN_last {n:Nat} (h:1 ≤ n):ixN n (-1) = some (n - 1):=by
 unfold ixN
 rw [if_neg (by omega),if_pos (by omega)]
 congr 1
 omega
theorem four_of {α:Type} : ∀ {l:List α},l.length = 4→∃ a b c d,l = [a,b,c,d]
 | [a,b,c,d],_=>⟨a,b,c,d,rfl⟩
def rooms4 (D1:Addr) (n:Nat) (H:Hp) (k:Nat) (ys:List V) (Hc:Hp):Prop:=∃ r4:List Nat,ys = (r4.map fun r=>V.int (r:Nat))∧r4.length = k∧(∀ r ∈ r4,r < n)∧Hc = upd H D1 (.lst ys)
def sp_door:Sp:=fun vs H Q _=>∃ (c:Int) (n:Nat),vs = [.int c,.int n]∧1 ≤ n∧n ≤ 12∧∀ (r d p lp:Addr) (room:Nat) (so x y S:Int) (rs:List Nat) (ws:List Int) (ps:List V) H',Same H H'→H r = none→H d = none→H' r = some (.tup [.int room,.ref d])→room < n→H' d = some (.tup [.int so,.ref p,.ref lp])→H' p = some (.tup [.int x,.int y])→0 < y→Int.gcd x y = 1→H' lp = some (.lst ps)→H lp = none→PI H' ps rs ws S→DrawnN n so rs ws S→Q (.ref r) H'
theorem ok_door {f:Addr} {fd:FuncData} (F:Fun K nm_door nm_door s_door f fd) (T:Txt K mg D) (G_stream:OkF P w K mg base 1 nm_stream ps_stream sp_stream) (G_lratio:OkF P w K mg base 2 nm_lratio ps_lratio sp_lratio) (G_pay:OkF P w K mg base 3 nm_pay ps_pay sp_pay):FnOk P w K mg base CX0 4 f fd ps_door sp_door:=by
 refine F.okB sc_door (fun vs H Q E h=>?_) (fun cdv A outer s H vs Q E hr h=>?_)
 ·obtain ⟨c,n,rfl,_⟩:=h
  rfl
 ·obtain ⟨c,n,rfl,n1,n12,q⟩:=h
  refine ⟨_,(pssB_cons (PSB.mk (ps_set (i:=2) sc_door.nd rfl (Or.inr rfl) (pe_callF G_stream (hr.mono (by decide)) (by rfl) (pa_cons (pv 0) (pa_cons pe_int pa_nil)))))
   (pssB_cons (PSB.mk (ps_set (i:=3) sc_door.nd rfl (Or.inr rfl) (pe_compGF (defScope s_door) ["_law_cell_here", "_law_many", "_law_xs", "_law_rooms", "_law_sort", "_law_pairs", "_law_bottom", "_law_part", "_law_weights"] ["_law_cell_here", "_law_many", "_law_xs", "_law_rooms", "_law_sort", "_law_pairs", "_law_bottom", "_law_part", "_law_weights"] ["_law_x"] rfl rfl rfl (by decide +kernel) (by decide +kernel) rfl (by decide +kernel) (by decide +kernel) (by decide +kernel) (by decide +kernel) (by decide +kernel) (pi_list ((pe_slice sl_list (pv 2) (po_some pe_int) (po_some pe_int))).mono) (fun _ _ _ _ _=>(pg_name (i:=0) (show List.Nodup (["_law_x", "_law_cell_here", "_law_many", "_law_xs", "_law_rooms", "_law_sort", "_law_pairs", "_law_bottom", "_law_part", "_law_weights"] : List Str) from by decide +kernel) rfl (Or.inl rfl) (Or.inr rfl))) (fun _ _ _ _ _=>pts_nil) (fun _ _ _ _ _=>(pe_op op_modN (pv 0) (pv 2))))))
   (pssB_cons (PSB.mk (ps_set (i:=4) sc_door.nd rfl (Or.inl rfl) (pe_op op_mod (pe_ix ix_listH (pv 2) pe_int (fun _ _=>rfl)) pe_int)))
   (pssB_cons (PSB.mk (ps_set (i:=5) sc_door.nd rfl (Or.inl rfl) (pe_lst (pa_cons (pe_tup (pa_cons (pe_ix ix_listH (pv 3) pe_int (fun _ _=>rfl)) (pa_cons (pe_tup (pa_cons pe_int (pa_cons pe_int pa_nil))) pa_nil))) pa_nil))))
   (pssB_cons (PSB.mk (ps_if (pt_cmpR op_eq (pv 4) pe_int (nomark _))
    (pss_cons (ps_set (i:=6) sc_door.nd rfl (Or.inl rfl) (pe_op op_add pe_int (pe_op op_mod (pe_ix ix_listH (pv 2) pe_int (fun _ _=>rfl)) pe_int)))
    (pss_cons (ps_set (i:=7) sc_door.nd rfl (Or.inl rfl) (pe_callF G_lratio (hr.mono (by decide)) (by rfl) (pa_cons (pe_op op_modN (pe_ix ix_listH (pv 2) pe_int (fun _ _=>rfl)) (pe_op op_add (pv 6) pe_int)) (pa_cons (pv 6) pa_nil))))
    (pss_one (ps_set (i:=5) sc_door.nd rfl (Or.inl rfl) (pe_lst (pa_cons (pe_tup (pa_cons (pe_ix ix_listH (pv 3) pe_int (fun _ _=>rfl)) (pa_cons (pv 7) pa_nil))) (pa_cons (pe_tup (pa_cons (pe_ix ix_listH (pv 3) pe_int (fun _ _=>rfl)) (pa_cons (pe_tup (pa_cons (pe_op op_sub (pe_ix ix_tupH (pv 7) pe_int (fun _ _=>rfl)) (pe_ix ix_tupH (pv 7) pe_int (fun _ _=>rfl))) (pa_cons (pe_ix ix_tupH (pv 7) pe_int (fun _ _=>rfl)) pa_nil))) pa_nil))) pa_nil)))))))
    pss_nil))
   (pssB_cons (PSB.mk (ps_if (pt_cmpR op_eq (pv 4) pe_int (nomark _))
    (pss_cons (ps_set (i:=3) sc_door.nd rfl (Or.inr rfl) (pe_slice sl_list (pv 3) po_none (po_some (pe_op op_add pe_int (pe_op op_mod (pe_ix ix_listH (pv 2) pe_int (fun _ _=>rfl)) pe_int)))))
    (pss_one (ps_compGF (defScope s_door) ["_law_cell_here", "_law_many", "_law_xs", "_law_rooms", "_law_sort", "_law_pairs", "_law_bottom", "_law_part", "_law_weights"] ["_law_cell_here", "_law_many", "_law_xs", "_law_rooms", "_law_sort", "_law_pairs", "_law_bottom", "_law_part", "_law_weights"] ["_law_room"] rfl rfl rfl (by decide +kernel) (by decide +kernel) rfl (by decide +kernel) (by decide +kernel) (by decide +kernel) (by decide +kernel) (by decide +kernel) (pi_list ((pv 3)).mono) (fun _ _ _ _ _=>(pg_name (i:=0) (show List.Nodup (["_law_room", "_law_cell_here", "_law_many", "_law_xs", "_law_rooms", "_law_sort", "_law_pairs", "_law_bottom", "_law_part", "_law_weights"] : List Str) from by decide +kernel) rfl (Or.inl rfl) (Or.inr rfl))) (fun _ _ _ _ _=>pts_nil) (fun _ _ _ _ _=>(pe_tup (pa_cons (pv 0) (pa_cons (pe_tup (pa_cons pe_int (pa_cons (pe_callB call_lenL (by rfl) T.b_len PySem.boot_len (pa_cons (pv 4) pa_nil)) pa_nil))) pa_nil)))) (pg_name (i:=5) sc_door.nd rfl (Or.inl rfl)))))
    pss_nil))
   (pssB_cons (PSB.mk (ps_if (pt_cmpR op_eq (pv 4) pe_int (nomark _))
    (pss_cons (ps_set (i:=8) sc_door.nd rfl (Or.inr rfl) (pe_compGF (defScope s_door) ["_law_cell_here", "_law_many", "_law_xs", "_law_rooms", "_law_sort", "_law_pairs", "_law_bottom", "_law_part", "_law_weights"] ["_law_cell_here", "_law_many", "_law_xs", "_law_rooms", "_law_sort", "_law_pairs", "_law_bottom", "_law_part", "_law_weights"] ["_law_x"] rfl rfl rfl (by decide +kernel) (by decide +kernel) rfl (by decide +kernel) (by decide +kernel) (by decide +kernel) (by decide +kernel) (by decide +kernel) (pi_list ((pe_slice sl_list (pv 2) (po_some pe_int) (po_some (pe_op op_add pe_int (pe_op op_mod (pe_ix ix_listH (pv 2) pe_int (fun _ _=>rfl)) pe_int))))).mono) (fun _ _ _ _ _=>(pg_name (i:=0) (show List.Nodup (["_law_x", "_law_cell_here", "_law_many", "_law_xs", "_law_rooms", "_law_sort", "_law_pairs", "_law_bottom", "_law_part", "_law_weights"] : List Str) from by decide +kernel) rfl (Or.inl rfl) (Or.inr rfl))) (fun _ _ _ _ _=>pts_nil) (fun _ _ _ _ _=>(pe_op op_modN (pv 0) (pe_ix ix_listH (pe_lst (pa_cons pe_int (pa_cons pe_int (pa_cons pe_int (pa_cons pe_int pa_nil))))) (pe_op op_mod (pe_ix ix_listH (pv 3) pe_int (fun _ _=>rfl)) pe_int) (fun _ _=>rfl))))))
    (pss_cons (ps_asg (pe_op op_add (pe_ix ix_listH (pv 8) (pe_un un_neg pe_int) (fun _ _=>rfl)) pe_int) (pg_sub (pv 8) (pe_un un_neg pe_int) set_list))
    (pss_one (ps_compGF (defScope s_door) ["_law_cell_here", "_law_many", "_law_xs", "_law_rooms", "_law_sort", "_law_pairs", "_law_bottom", "_law_part", "_law_weights"] ["_law_cell_here", "_law_many", "_law_xs", "_law_rooms", "_law_sort", "_law_pairs", "_law_bottom", "_law_part", "_law_weights"] ["_law_k"] rfl rfl rfl (by decide +kernel) (by decide +kernel) rfl (by decide +kernel) (by decide +kernel) (by decide +kernel) (by decide +kernel) (by decide +kernel) (pi_range1 (by rfl) T.b_range (pa_cons (pe_callB call_lenL (by rfl) T.b_len PySem.boot_len (pa_cons (pv 8) pa_nil)) pa_nil).mono) (fun _ _ _ _ _=>(pg_name (i:=0) (show List.Nodup (["_law_k", "_law_cell_here", "_law_many", "_law_xs", "_law_rooms", "_law_sort", "_law_pairs", "_law_bottom", "_law_part", "_law_weights"] : List Str) from by decide +kernel) rfl (Or.inl rfl) (Or.inr rfl))) (fun _ _ _ _ _=>pts_nil) (fun _ _ _ _ _=>(pe_tup (pa_cons (pe_ix ix_listH (pv 4) (pv 0) (fun _ _=>rfl)) (pa_cons (pe_callF G_lratio (hr.mono (by decide)) (by rfl) (pa_cons (pe_ix ix_listH (pv 9) (pv 0) (fun _ _=>rfl)) (pa_cons (pe_callB (call_sumH rfl) (by rfl) T.b_sum boot_sum (pa_cons (pv 9) pa_nil)) pa_nil))) pa_nil)))) (pg_name (i:=5) sc_door.nd rfl (Or.inl rfl))))))
    pss_nil))
   (pssB_one (PSB.mk (ps_ret (pe_tup (pa_cons (pe_op op_modN (pe_ix ix_listH (pv 2) pe_int (fun _ _=>rfl)) (pv 1)) (pa_cons (pe_tup (pa_cons (pv 4) (pa_cons (pe_callF G_pay (hr.mono (by decide)) (by rfl) (pa_cons (pv 0) (pa_cons (pe_ix ix_listH (pv 2) pe_int (fun _ _=>rfl)) (pa_cons (pe_ix ix_listH (pv 2) pe_int (fun _ _=>rfl)) pa_nil)))) (pa_cons (pv 5) pa_nil)))) pa_nil))))))))))))),?_⟩
  unfold sp_stream sp_lratio sp_pay
  refine ⟨_,rfl,c,14,rfl,by decide,fun l xs H1 S1 hl hl1 hx hr'=>?_⟩
  dsimp only [gName]
  have at_:∀ j,j < 14→∃ y,atI (xs.map V.int) (j:Nat) = some (.int y)∧0 ≤ y∧y < 2000000000:=fun j hj=>by
   have:j < xs.length:=by omega
   exact ⟨xs[j],atI_nat (j:=j) (by rw [List.getElem?_map,List.getElem?_eq_getElem this]; rfl),hr' _ (List.getElem_mem this)⟩
  refine seq_hide fun R1 hR1=>?_
  walk_at "rd"
  refine tCompG1_list ?_
  walk_at "rd"
  refine ⟨_,.of hl1,fun p hp=>?_⟩
  have ec:cutV (xs.map V.int) (some 2) (some 6) = ((xs.drop 2).take 4).map V.int:=by
   rw [List.map_take,List.map_drop]
   exact cut_mid (ys:=xs.map V.int) (a:=2) (b:=6) (by decide) (by rw [List.length_map]; omega)
  rw [ec]
  have ul:((xs.drop 2).take 4).length = 4:=by rw [List.length_take,List.length_drop]; omega
  have u0:∀ x ∈ (xs.drop 2).take 4,0 ≤ x:=fun x hx=>(hr' x (List.mem_of_mem_drop (List.mem_of_mem_take hx))).1
  have S2:Same H1 (upd H1 p (.lst (((xs.drop 2).take 4).map V.int))):=Same.upd hp
  generalize upd H1 p (.lst (((xs.drop 2).take 4).map V.int)) = H2 at S2 ⊢
  generalize (xs.drop 2).take 4 = us at ul u0 ⊢
  have z9:100 < sizeLine:=by decide
  refine ⟨by rw [List.length_map]; omega,fun D1 hD1=>⟨rooms4 D1 n H2,⟨[],rfl,rfl,by simp,rfl⟩,?_,?_⟩⟩
  ·rintro k v ys Hc hk ⟨r4,rfl,rl,rn,rfl⟩ hy hpc
   rw [List.getElem?_map] at hk
   cases er:us[k]? with
   | none=>rw [er] at hk; cases hk
   | some i =>
    rw [er] at hk
    cases hk
    have i0:=u0 i (List.mem_of_getElem? er)
    have m0:0 ≤ i % (n:Int):=Int.emod_nonneg _ (by omega)
    have m1:i % (n:Int) < n:=Int.emod_lt_of_pos _ (by omega)
    have ef:i.fmod (n:Int) = (((i % (n:Int)).toNat:Nat):Int):=by rw [Int.fmod_eq_emod_of_nonneg _ (by omega)]; omega
    refine ⟨i,rfl,by omega,?_⟩
    rw [ef]
    refine ⟨upd_same,hpc,r4 ++ [(i % (n:Int)).toNat],by rw [List.map_append]; rfl,by rw [List.length_append,rl]; rfl,fun r hr=>?_,upd_upd⟩
    rcases List.mem_append.mp hr with hr | hr
    ·exact rn r hr
    ·rw [List.mem_singleton.mp hr]; omega
  ·rintro ys Hc ⟨r4,rfl,rl,rn,rfl⟩ hy
   rw [List.length_map,ul] at rl
   have S3:Same H (upd H2 D1 (.lst (r4.map fun r=>V.int (r:Nat)))):=S1.trans (S2.trans (Same.upd hD1))
   have hl3:upd H2 D1 (.lst (r4.map fun r=>V.int (r:Nat))) l = some (.lst (xs.map V.int)):=Same.upd hD1 _ _ (S2 _ _ hl1)
   have hr3:upd H2 D1 (.lst (r4.map fun r=>V.int (r:Nat))) D1 = some (.lst (r4.map fun r=>V.int (r:Nat))):=upd_same
   generalize upd H2 D1 (.lst (r4.map fun r=>V.int (r:Nat))) = H3 at S3 hl3 hr3 ⊢
   obtain ⟨x6,a6,p6⟩:=at_ 6 (by decide)
   subst hR1
   refine seq_hide fun R2 hR2=>?_
   walk_at "rd"
   refine ⟨_,hl3,_,a6,_,rfl,?_⟩
   subst hR2
   refine seq_hide fun R3 hR3=>?_
   walk_at "rd"
   obtain ⟨ra,rb,rc,rd,rfl⟩:=four_of rl
   refine ⟨_,hr3,_,atI_0,line2,fun q1 h1=>⟨line2,fun q2 h2=>⟨by decide,fun q3 h3=>?_⟩⟩⟩
   have d12:q1 ≠ q2:=ne_of_none upd_same h2
   have d23:q2 ≠ q3:=ne_of_none upd_same h3
   have d13:q1 ≠ q3:=ne_of_none ((upd_ne d12).trans upd_same) h3
   have S4:Same H3 (upd (upd (upd H3 q1 (.tup [.int 1,.int 1])) q2 (.tup [.int ra,.ref q1])) q3 (.lst [.ref q2])):=(Same.upd h1).trans ((Same.upd h2).trans (Same.upd h3))
   have e1:upd (upd (upd H3 q1 (.tup [.int 1,.int 1])) q2 (.tup [.int ra,.ref q1])) q3 (.lst [.ref q2]) q1 = some (.tup [.int 1,.int 1]):=(upd_ne d13).trans ((upd_ne d12).trans upd_same)
   have e2:upd (upd (upd H3 q1 (.tup [.int 1,.int 1])) q2 (.tup [.int ra,.ref q1])) q3 (.lst [.ref q2]) q2 = some (.tup [.int ra,.ref q1]):=(upd_ne d23).trans upd_same
   have e3:upd (upd (upd H3 q1 (.tup [.int 1,.int 1])) q2 (.tup [.int ra,.ref q1])) q3 (.lst [.ref q2]) q3 = some (.lst [.ref q2]):=upd_same
   have f3:H q3 = none:=Same.free S3 (Same.free (Same.upd h1) (Same.free (Same.upd h2) h3))
   generalize upd (upd (upd H3 q1 (.tup [.int 1,.int 1])) q2 (.tup [.int ra,.ref q1])) q3 (.lst [.ref q2]) = H4 at S4 e1 e2 e3 ⊢
   have hl4:=S4 _ _ hl3
   have hr4:=S4 _ _ hr3
   have S4:=S3.trans S4
   obtain ⟨so,es,s0,s3⟩ : ∃ so,x6 % 4 = so∧0 ≤ so∧so ≤ 3:=⟨_,rfl,by omega,by omega⟩
   rw [es]
   subst hR3
   refine seq_hide3 fun R hR=>?_
   have fin:∀ (u3 u6 u7 u8:Option V) (lp:Addr) (rs:List Nat) (ws:List Int) (S:Int) (ps:List V) (H9:Hp),Same H H9→H9 l = some (.lst (xs.map V.int))→H lp = none→H9 lp = some (.lst ps)→PI H9 ps rs ws S→DrawnN n so rs ws S→R { nx:=fun _ H'=>Q .non H',rt:=Q } [some (.int c),some (.int n),some (.ref l),u3,some (.int so),some (.ref lp),u6,u7,u8] H9:=by
    intro u3 u6 u7 u8 lp rs ws S ps H9 S9 hl9 fl hlp hpi hdr
    obtain ⟨x0,a0,p0⟩:=at_ 0 (by decide)
    obtain ⟨x1,a1,p1⟩:=at_ 1 (by decide)
    obtain ⟨x13,a13,p13⟩:=at_ 13 (by decide)
    subst hR
    walk_at "rd"
    have m0:0 ≤ x13 % (n:Int):=Int.emod_nonneg _ (by omega)
    have m1:x13 % (n:Int) < n:=Int.emod_lt_of_pos _ (by omega)
    have ef:x13.fmod (n:Int) = (((x13 % (n:Int)).toNat:Nat):Int):=by rw [Int.fmod_eq_emod_of_nonneg _ (by omega)]; omega
    refine ⟨_,hl9,_,a13,_,rfl,by omega,_,hl9,_,a0,_,hl9,_,a1,⟨_,rfl⟩,⟨_,rfl⟩,fun p1 x y f1 y0 g1 _ _=>⟨by decide,fun p2 f2=>⟨line2,fun p3 f3'=>?_⟩⟩⟩
    rw [ef]
    have g12:p1 ≠ p2:=ne_of_none upd_same f2
    have g23:p2 ≠ p3:=ne_of_none upd_same f3'
    have g13:p1 ≠ p3:=ne_of_none ((upd_ne g12).trans upd_same) f3'
    have S10:Same H9 (upd (upd (upd H9 p1 (.tup [.int x,.int y])) p2 (.tup [.int so,.ref p1,.ref lp])) p3 (.tup [.int ((x13 % (n:Int)).toNat:Nat),.ref p2])):=(Same.upd f1).trans ((Same.upd f2).trans (Same.upd f3'))
    exact q p3 p2 p1 lp _ so x y S rs ws ps _ (S9.trans S10) (Same.free S9 (Same.free (Same.upd f1) (Same.free (Same.upd f2) f3'))) (Same.free S9 (Same.free (Same.upd f1) f2)) upd_same (by omega) ((upd_ne g23).trans upd_same) ((upd_ne g13).trans ((upd_ne g12).trans upd_same)) y0 g1 (S10 _ _ hlp) fl (hpi.same S10) hdr
   clear hR
   obtain e | e | e | e:so = 0∨so = 1∨so = 2∨so = 3:=by omega
   ·subst e
    refine seq_if_no rfl (by decide) (seq_if_no rfl (by decide) (seq_if_no rfl (by decide) (fin _ _ _ _ q3 [ra] [1] 1 [.ref q2] H4 S4 hl4 f3 e3 ⟨rfl,fun k r x h1 h2=>?_⟩ ?_)))
    ·match k with
     | 0 =>
      cases h1
      cases h2
      exact ⟨q2,q1,rfl,e2,by rw [lw_ones]; exact e1⟩
     | k + 1=>simp at h1
    ·exact ⟨by decide,by decide,rfl,by decide,by decide,by simp,by simp,rfl,by simp,fun _=>⟨rfl,rfl,rfl⟩,fun z=>by simp at z,fun z=>by simp at z,fun r hr=>rn r (by rw [List.mem_singleton.mp hr]; simp)⟩
   ·subst e
    obtain ⟨x8,a8,p8⟩:=at_ 8 (by decide)
    obtain ⟨x9,a9,p9⟩:=at_ 9 (by decide)
    refine seq_if_yes rfl rfl fun Kn hK=>?_
    walk_at "rd"
    obtain ⟨b,eb,b0,b6⟩ : ∃ b,1 + x8 % 6 = b∧1 ≤ b∧b ≤ 6:=⟨_,rfl,by omega,by omega⟩
    obtain ⟨wt,ew,w0,w1⟩ : ∃ wt,x9.fmod (b + 1) = wt∧0 ≤ wt∧wt ≤ b:=by
     have m0:0 ≤ x9 % (b + 1):=Int.emod_nonneg _ (by omega)
     have m1:x9 % (b + 1) < b + 1:=Int.emod_lt_of_pos _ (by omega)
     exact ⟨_,rfl,by rw [Int.fmod_eq_emod_of_nonneg _ (by omega)]; exact m0,by rw [Int.fmod_eq_emod_of_nonneg _ (by omega)]; omega⟩
    refine ⟨_,hl4,_,a8,_,rfl,_,hl4,_,a9,_,rfl,by omega,by omega,Bd.sm (by omega),fun c1 g1=>?_⟩
    rw [eb,ew]
    have T1:Same H4 (upd H4 c1 (.tup [.int (Ac.lw wt b).1,.int (Ac.lw wt b).2])):=Same.upd g1
    have k1:upd H4 c1 (.tup [.int (Ac.lw wt b).1,.int (Ac.lw wt b).2]) c1 = some (.tup [.int (Ac.lw wt b).1,.int (Ac.lw wt b).2]):=upd_same
    generalize upd H4 c1 (.tup [.int (Ac.lw wt b).1,.int (Ac.lw wt b).2]) = H5 at T1 k1 ⊢
    refine ⟨_,T1 _ _ hr4,_,atI_0,line2,fun t1 g2=>?_⟩
    have T2:Same H5 (upd H5 t1 (.tup [.int ra,.ref c1])):=Same.upd g2
    have k2:upd H5 t1 (.tup [.int ra,.ref c1]) t1 = some (.tup [.int ra,.ref c1]):=upd_same
    generalize upd H5 t1 (.tup [.int ra,.ref c1]) = H6 at T2 k2 ⊢
    have j1:=T2 _ _ k1
    refine ⟨_,T2 _ _ (T1 _ _ hr4),_,atI_1,_,j1,_,atI_1,_,j1,_,atI_0,_,rfl,_,rfl,_,j1,_,atI_1,line2,fun c2 g3=>⟨line2,fun t2 g4=>⟨line2,fun lp g5=>hK _ _ (seq_if_no rfl (by decide) (seq_if_no rfl (by decide) ?_))⟩⟩⟩
    have m34:c2 ≠ t2:=ne_of_none upd_same g4
    have m45:t2 ≠ lp:=ne_of_none upd_same g5
    have m35:c2 ≠ lp:=ne_of_none ((upd_ne m34).trans upd_same) g5
    have T3:Same H6 (upd (upd (upd H6 c2 (.tup [.int ((Ac.lw wt b).2 - (Ac.lw wt b).1),.int (Ac.lw wt b).2])) t2 (.tup [.int rb,.ref c2])) lp (.lst [.ref t1,.ref t2])):=(Same.upd g3).trans ((Same.upd g4).trans (Same.upd g5))
    have S6:Same H H6:=S4.trans (T1.trans T2)
    refine fin _ _ _ _ lp [ra,rb] [wt,b - wt] b [.ref t1,.ref t2] _ (S6.trans T3) (T3 _ _ (T2 _ _ (T1 _ _ hl4))) (Same.free S6 (Same.free (Same.upd g3) (Same.free (Same.upd g4) g5))) upd_same ⟨rfl,fun k r x h1 h2=>?_⟩ ?_
    ·match k with
     | 0 =>
      cases h1
      cases h2
      exact ⟨t1,c1,rfl,T3 _ _ k2,T3 _ _ j1⟩
     | 1 =>
      cases h1
      cases h2
      exact ⟨t2,c2,rfl,(upd_ne m45).trans upd_same,by rw [lw_rest]; exact (upd_ne m35).trans ((upd_ne m34).trans upd_same)⟩
     | k + 2=>simp at h1
    ·refine ⟨by decide,by decide,rfl,by omega,by omega,by simp,?_,?_,by simp,fun z=>by simp at z,fun _=>rfl,fun z=>by simp at z,?_⟩
     ·intro x hx
      simp only [List.mem_cons,List.not_mem_nil,or_false] at hx
      omega
     ·simp
      omega
     ·intro r hr
      simp only [List.mem_cons,List.not_mem_nil,or_false] at hr
      rcases hr with rfl | rfl
      ·exact rn _ (by simp)
      ·exact rn _ (by simp)
   ·subst e
    obtain ⟨x7,a7,p7⟩:=at_ 7 (by decide)
    refine seq_if_no rfl (by decide) (seq_if_yes rfl rfl fun Kn hK=>?_)
    walk_at "rd"
    obtain ⟨m,em,m1,m4⟩ : ∃ m:Nat,1 + x7 % 4 = m∧1 ≤ m∧m ≤ 4:=⟨(1 + x7 % 4).toNat,by omega,by omega,by omega⟩
    refine ⟨_,hl4,_,a7,_,rfl,_,.of hr4,fun p5 g5=>?_⟩
    rw [em,cut_list30 (by rw [List.length_map]; simp; omega),← List.map_take]
    have l5:([ra,rb,rc,rd].take m).length = m:=by rw [List.length_take]; simp; omega
    have r5:∀ r ∈ [ra,rb,rc,rd].take m,r < n:=fun r hr=>rn r (List.mem_of_mem_take hr)
    generalize [ra,rb,rc,rd].take m = rs at l5 r5 ⊢
    have T1:Same H4 (upd H4 p5 (.lst (rs.map fun r=>V.int (r:Nat)))):=Same.upd g5
    have k1:upd H4 p5 (.lst (rs.map fun r=>V.int (r:Nat))) p5 = some (.lst (rs.map fun r=>V.int (r:Nat))):=upd_same
    generalize upd H4 p5 (.lst (rs.map fun r=>V.int (r:Nat))) = H5 at T1 k1 ⊢
    have S5:=S4.trans T1
    have rl5:(List.replicate m (1:Int)).length = m:=List.length_replicate
    refine tCompG1_list ?_
    walk_at "rd"
    refine ⟨_,k1,by rw [List.length_map]; omega,fun D2 hD2=>⟨evJ D2 rs (List.replicate m 1) m H5,⟨Same.upd hD2,upd_same,by simp; exact ⟨rfl,fun k r x h1 _=>by simp at h1⟩⟩,?_,?_⟩⟩
    ·rintro k v ys Hc hk ⟨T5,h5,pi⟩ hy hpc
     rw [List.getElem?_map] at hk
     cases er:rs[k]? with
     | none=>rw [er] at hk; cases hk
     | some r =>
      rw [er] at hk
      cases hk
      have lk:k < m:=by rw [← l5]; exact (List.getElem?_eq_some_iff.mp er).1
      have ew:(List.replicate m (1:Int))[k]? = some 1:=by rw [List.getElem?_replicate,if_pos lk]
      refine ⟨_,hpc,?_⟩
      rw [List.length_map,l5]
      refine ⟨line2,fun c1 g1=>⟨line2,fun t1 g2=>?_⟩⟩
      have T6:Same Hc (upd (upd Hc c1 (.tup [.int 1,.int m])) t1 (.tup [.int r,.ref c1])):=(Same.upd g1).trans (Same.upd g2)
      have i1:upd (upd Hc c1 (.tup [.int 1,.int m])) t1 (.tup [.int r,.ref c1]) c1 = some (.tup [.int 1,.int m]):=(upd_ne (ne_of_none upd_same g2)).trans upd_same
      have i2:upd (upd Hc c1 (.tup [.int 1,.int m])) t1 (.tup [.int r,.ref c1]) t1 = some (.tup [.int r,.ref c1]):=upd_same
      generalize upd (upd Hc c1 (.tup [.int 1,.int m])) t1 (.tup [.int r,.ref c1]) = H7 at T6 i1 i2 ⊢
      have nt:∀ t us,H7 t = some (.tup us)→upd H7 D2 (.lst (ys ++ [.ref t1])) t = some (.tup us):=fun t us e=>(upd_ne (ne_of e (T6 _ _ h5) (by intro z; cases z))).trans e
      refine ⟨T6 _ _ h5,T6 _ _ hpc,fun b o e=>(upd_ne (ne_of_none e hD2)).trans (T6 _ _ (T5 _ _ e)),upd_same,?_⟩
      rw [take_next er,take_next ew]
      refine ((pi.same T6).imp nt).snoc ?_ (nt _ _ i2) (by rw [lw_ones]; exact nt _ _ i1)
      rw [List.length_take,List.length_take,rl5,l5]
    ·rintro ys Hc ⟨T5,h5,pi⟩ hy
     rw [List.length_map,List.take_length,l5,List.take_of_length_le (by rw [rl5]; exact Nat.le_refl _)] at pi
     refine hK _ _ (seq_if_no rfl (by decide) (fin _ _ _ _ D2 rs (List.replicate m 1) m ys Hc (S5.trans T5) (T5 _ _ (T1 _ _ hl4)) (Same.free S5 hD2) h5 pi ?_))
     exact ⟨by decide,by decide,by rw [rl5,l5],by omega,by omega,by omega,fun x hx=>by rw [(List.mem_replicate.mp hx).2]; decide,rep_sum30 m,by omega,fun z=>by simp at z,fun z=>by simp at z,fun _=>⟨by rw [l5],by rw [l5]⟩,r5⟩
   ·subst e
    obtain ⟨x7,a7,p7⟩:=at_ 7 (by decide)
    obtain ⟨x12,a12,p12⟩:=at_ 12 (by decide)
    refine seq_if_no rfl (by decide) (seq_if_no rfl (by decide) (seq_if_yes rfl rfl fun Kn hK=>?_))
    walk_at "rd"
    refine tCompG1_list ?_
    walk_at "rd"
    obtain ⟨m,em,m1,m4⟩ : ∃ m:Nat,9 + x7 % 4 = ((8 + m:Nat):Int)∧1 ≤ m∧m ≤ 4:=⟨(1 + x7 % 4).toNat,by omega,by omega,by omega⟩
    refine ⟨_,hl4,_,a7,_,rfl,_,.of hl4,fun p5 g5=>?_⟩
    have ec:cutV (xs.map V.int) (some 8) (some (9 + x7 % 4)) = ((xs.drop 8).take m).map V.int:=by
     rw [em,List.map_take,List.map_drop]
     have:=cut_mid (ys:=xs.map V.int) (a:=8) (b:=8 + m) (by omega) (by rw [List.length_map]; omega)
     rw [show 8 + m - 8 = m by omega] at this
     exact this
    rw [ec]
    have l5:((xs.drop 8).take m).length = m:=by rw [List.length_take,List.length_drop]; omega
    have r5:∀ x ∈ (xs.drop 8).take m,0 ≤ x:=fun x hx=>(hr' x (List.mem_of_mem_drop (List.mem_of_mem_take hx))).1
    have T1:Same H4 (upd H4 p5 (.lst (((xs.drop 8).take m).map V.int))):=Same.upd g5
    generalize upd H4 p5 (.lst (((xs.drop 8).take m).map V.int)) = H5 at T1 ⊢
    generalize (xs.drop 8).take m = vs at l5 r5 ⊢
    have S5:=S4.trans T1
    obtain ⟨md,ed,hmd⟩ : ∃ md:Int,atI [V.int 3,V.int 3,V.int 3,V.int 1000] (x12 % 4) = some (.int md)∧(md = 3∨md = 1000):=by
     obtain e | e | e | e:x12 % 4 = 0∨x12 % 4 = 1∨x12 % 4 = 2∨x12 % 4 = 3:=by omega
     ·exact ⟨3,by rw [e]; exact atI_nat (j:=0) rfl,.inl rfl⟩
     ·exact ⟨3,by rw [e]; exact atI_nat (j:=1) rfl,.inl rfl⟩
     ·exact ⟨3,by rw [e]; exact atI_nat (j:=2) rfl,.inl rfl⟩
     ·exact ⟨1000,by rw [e]; exact atI_nat (j:=3) rfl,.inr rfl⟩
    refine ⟨by rw [List.length_map]; omega,fun D2 hD2=>⟨weJ D2 H5,⟨[],rfl,rfl,by simp,Same.upd hD2,upd_same⟩,?_,?_⟩⟩
    ·rintro k v ys Hc hk ⟨ws,rfl,wl,wb,T5,h5⟩ hy hpc
     rw [List.getElem?_map] at hk
     cases er:vs[k]? with
     | none=>rw [er] at hk; cases hk
     | some i =>
      rw [er] at hk
      cases hk
      have i0:=r5 i (List.mem_of_getElem? er)
      have f0:0 ≤ i.fmod md∧i.fmod md ≤ 1000:=by
       rcases hmd with rfl | rfl
       ·rw [Int.fmod_eq_emod_of_nonneg _ (by decide)]; omega
       ·rw [Int.fmod_eq_emod_of_nonneg _ (by decide)]; omega
      refine ⟨by decide,fun p6 g6=>⟨_,(upd_ne (ne_of_none (T5 _ _ (T1 _ _ hl4)) g6)).trans (T5 _ _ (T1 _ _ hl4)),_,a12,_,rfl,_,ed,i,rfl,md,rfl,by omega,(upd_ne (ne_of_none h5 g6)).trans h5,(upd_ne (ne_of_none hpc g6)).trans hpc,ws ++ [i.fmod md],by rw [List.map_append]; rfl,by rw [List.length_append,wl]; rfl,fun x hx=>?_,fun b o e=>(upd_ne (ne_of_none e hD2)).trans ((upd_ne (ne_of_none (T5 _ _ e) g6)).trans (T5 _ _ e)),upd_same⟩⟩
      rcases List.mem_append.mp hx with hx | hx
      ·exact wb x hx
      ·rw [List.mem_singleton.mp hx]; exact f0
    ·rintro ys Hc ⟨ws,rfl,wl,wb,T5,h5⟩ hy
     rw [List.length_map,l5] at wl
     have lm:m - 1 < ws.length:=by omega
     have el:ws[m - 1]? = some ws[m - 1]:=List.getElem?_eq_getElem lm
     have bl:=wb _ (List.getElem_mem lm)
     generalize ws[m - 1] = wl0 at el bl
     have ix:ixN (ws.map V.int).length (-1) = some (m - 1):=by rw [List.length_map,wl]; exact ixN_last m1
     have ea:atI (ws.map V.int) (-1) = some (.int wl0):=by
      unfold atI
      rw [ix]
      show (ws.map V.int)[m - 1]? = _
      rw [List.getElem?_map,el]; rfl
     refine ⟨_,h5,_,ea,wl0,rfl,_,h5,_,ix,?_⟩
     rw [← List.map_set]
     have l6:(ws.set (m - 1) (wl0 + 1)).length = m:=by rw [List.length_set,wl]
     have b6:∀ x ∈ ws.set (m - 1) (wl0 + 1),0 ≤ x∧x ≤ 1001:=fun x hx=>by
      rcases List.mem_or_eq_of_mem_set hx with hx | rfl
      ·have:=wb x hx
       omega
      ·omega
     have in6:wl0 + 1 ∈ ws.set (m - 1) (wl0 + 1):=List.mem_set lm _
     generalize ws.set (m - 1) (wl0 + 1) = ww at l6 b6 in6 ⊢
     obtain ⟨s1,s2,s3'⟩:=int_sum30 ww b6
     have sp:=s3' _ in6
     have T6:Same H (upd Hc D2 (.lst (ww.map V.int))):=fun b o e=>(upd_ne (ne_of_none (S5 _ _ e) hD2)).trans (T5 _ _ (S5 _ _ e))
     have k6:upd Hc D2 (.lst (ww.map V.int)) D2 = some (.lst (ww.map V.int)):=upd_same
     have r6:upd Hc D2 (.lst (ww.map V.int)) D1 = some (.lst ([ra,rb,rc,rd].map fun r=>V.int (r:Nat))):=(upd_ne (ne_of_none (T1 _ _ hr4) hD2)).trans (T5 _ _ (T1 _ _ hr4))
     have hl6:upd Hc D2 (.lst (ww.map V.int)) l = some (.lst (xs.map V.int)):=(upd_ne (ne_of_none (T1 _ _ hl4) hD2)).trans (T5 _ _ (T1 _ _ hl4))
     generalize upd Hc D2 (.lst (ww.map V.int)) = H6 at T6 k6 r6 hl6 ⊢
     have lt4:([ra,rb,rc,rd].take m).length = m:=by rw [List.length_take]; simp; omega
     refine tCompG1_rng ?_
     walk_at "rd"
     refine ⟨_,k6,m,by rw [List.length_map,l6],by omega,fun D3 hD3=>⟨evJ D3 ([ra,rb,rc,rd].take m) ww ww.sum H6,⟨Same.upd hD3,upd_same,by simp; exact ⟨rfl,fun k r x h1 _=>by simp at h1⟩⟩,?_,?_⟩⟩
     ·rintro k ys Hc hk ⟨T7,h7,pi⟩ hy
      have er : [ra,rb,rc,rd][k]? = some ([ra,rb,rc,rd][k]'(by simp; omega)):=List.getElem?_eq_getElem _
      have et:([ra,rb,rc,rd].take m)[k]? = some ([ra,rb,rc,rd][k]'(by simp; omega)):=by rw [List.getElem?_take,if_pos hk]; exact er
      have ew:ww[k]? = some (ww[k]'(by omega)):=List.getElem?_eq_getElem _
      generalize [ra,rb,rc,rd][k]'(by simp; omega) = r at er et
      generalize ww[k]'(by omega) = wk at ew
      refine ⟨_,T7 _ _ r6,_,atI_nat (j:=k) (by rw [List.getElem?_map,er]; rfl),_,T7 _ _ k6,_,atI_nat (j:=k) (by rw [List.getElem?_map,ew]; rfl),ww,T7 _ _ k6,wk,rfl,by omega,Bd.sm (by omega),fun c1 g1=>⟨line2,fun t1 g2=>?_⟩⟩
      have T8:Same Hc (upd (upd Hc c1 (.tup [.int (Ac.lw wk ww.sum).1,.int (Ac.lw wk ww.sum).2])) t1 (.tup [.int r,.ref c1])):=(Same.upd g1).trans (Same.upd g2)
      have i1:upd (upd Hc c1 (.tup [.int (Ac.lw wk ww.sum).1,.int (Ac.lw wk ww.sum).2])) t1 (.tup [.int r,.ref c1]) c1 = some (.tup [.int (Ac.lw wk ww.sum).1,.int (Ac.lw wk ww.sum).2]):=(upd_ne (ne_of_none upd_same g2)).trans upd_same
      have i2:upd (upd Hc c1 (.tup [.int (Ac.lw wk ww.sum).1,.int (Ac.lw wk ww.sum).2])) t1 (.tup [.int r,.ref c1]) t1 = some (.tup [.int r,.ref c1]):=upd_same
      generalize upd (upd Hc c1 (.tup [.int (Ac.lw wk ww.sum).1,.int (Ac.lw wk ww.sum).2])) t1 (.tup [.int r,.ref c1]) = H8 at T8 i1 i2 ⊢
      have nt:∀ t us,H8 t = some (.tup us)→upd H8 D3 (.lst (ys ++ [.ref t1])) t = some (.tup us):=fun t us e=>(upd_ne (ne_of e (T8 _ _ h7) (by intro z; cases z))).trans e
      refine ⟨T8 _ _ h7,fun b o e=>(upd_ne (ne_of_none e hD3)).trans (T8 _ _ (T7 _ _ e)),upd_same,?_⟩
      rw [take_next et,take_next ew]
      refine ((pi.same T8).imp nt).snoc ?_ (nt _ _ i2) (nt _ _ i1)
      rw [List.length_take,List.length_take,l6,lt4]
     ·rintro ys Hc ⟨T7,h7,pi⟩ hy
      have pi:PI Hc ys ([ra,rb,rc,rd].take m) ww ww.sum:=by
       have e1:([ra,rb,rc,rd].take m).take m = [ra,rb,rc,rd].take m:=List.take_of_length_le (by rw [lt4]; exact Nat.le_refl _)
       have e2:ww.take m = ww:=List.take_of_length_le (by rw [l6]; exact Nat.le_refl _)
       rw [e1,e2] at pi
       exact pi
      refine hK _ _ (fin _ _ _ _ D3 ([ra,rb,rc,rd].take m) ww ww.sum ys Hc (T6.trans T7) (T7 _ _ hl6) (Same.free T6 hD3) h7 pi ?_)
      exact ⟨by decide,by decide,by rw [lt4,l6],by omega,by omega,by omega,fun x hx=>(b6 x hx).1,rfl,by omega,fun z=>by simp at z,fun z=>by simp at z,fun z=>by simp at z,fun r hr=>rn r (List.mem_of_mem_take hr)⟩
structure DD (n:Nat) (H:Hp) (d:Addr):Prop where
 ex:∃ (p lp:Addr) (so x y S:Int) (rs:List Nat) (ws:List Int) (ps:List V),H d = some (.tup [.int so,.ref p,.ref lp])∧H p = some (.tup [.int x,.int y])∧0 < y∧Int.gcd x y = 1∧H lp = some (.lst ps)∧PI H ps rs ws S∧DrawnN n so rs ws S
theorem DD.same {n:Nat} {H H':Hp} {d:Addr} (h:DD n H d) (S:Same H H'):DD n H' d:=⟨let ⟨p,lp,so,x,y,S',rs,ws,ps,a,b,b1,b2,c,d,e⟩:=h.ex; ⟨p,lp,so,x,y,S',rs,ws,ps,S _ _ a,S _ _ b,b1,b2,S _ _ c,d.same S,e⟩⟩
structure RD (n:Nat) (H:Hp) (xs:List V) (dss:List (List Addr)):Prop where
 len:xs.length = dss.length
 at_:∀ (k:Nat) (ds:List Addr),dss[k]? = some ds→∃ l,xs[k]? = some (.ref l)∧H l = some (.lst (ds.map V.ref))∧∀ d ∈ ds,DD n H d
theorem RD.same {n:Nat} {H H':Hp} {xs:List V} {dss:List (List Addr)} (h:RD n H xs dss) (S:Same H H'):RD n H' xs dss:=⟨h.len,fun k ds e=>let ⟨l,a,b,c⟩:=h.at_ k ds e; ⟨l,a,S _ _ b,fun d hd=>(c d hd).same S⟩⟩
theorem DD.off {n:Nat} {H:Hp} {ls:List Addr} {d p lp:Addr} {so x y S:Int} {rs:List Nat} {ws:List Int} {ps:List V} (hls:∀ l ∈ ls,∃ zs,H l = some (.lst zs)) (nl:lp ∉ ls) (h1:H d = some (.tup [.int so,.ref p,.ref lp])) (h2:H p = some (.tup [.int x,.int y])) (y0:0 < y) (g:Int.gcd x y = 1) (h3:H lp = some (.lst ps)) (h4:PI H ps rs ws S) (h5:DrawnN n so rs ws S):DD n (del ls H) d:=by
 have nt:∀ t us,H t = some (.tup us)→del ls H t = some (.tup us):=fun t us e=>del_at (fun z=>by
  obtain ⟨zs,hz⟩:=hls t z
  rw [hz] at e
  cases e) e
 exact ⟨p,lp,so,x,y,S,rs,ws,ps,nt _ _ h1,nt _ _ h2,y0,g,del_at nl h3,h4.imp nt,h5⟩
def sp_doors (K:PySem.W.Frag) (a:Addr) (ns:List Int):Sp:=fun vs H Q _=>∃ (c:Int) (n:Nat) (m:Nat),vs = [.ref a,.int c,.int n,.int m]∧SqL K H a (ns.map V.int)∧ns.length ≤ 63∧0 ≤ c∧n ≤ 12∧m ≤ 100∧∀ (r:Addr) (xs:List V) (dss:List (List Addr)) H',Same H H'→H r = none→H' r = some (.lst xs)→dss.length = n→RD n H' xs dss→(∀ ds ∈ dss,ds.length ≤ m)→Q (.ref r) H'
structure RL (n m:Nat) (H0 H:Hp) (ls:List Addr) (dss:List (List Addr)):Prop where
 len:ls.length = dss.length
 nd:ls.Nodup
 new:∀ l ∈ ls,H0 l = none
 at_:∀ (k:Nat) (l:Addr) (ds:List Addr),ls[k]? = some l→dss[k]? = some ds→H l = some (.lst (ds.map V.ref))∧ds.length ≤ m∧∀ d ∈ ds,DD n (del ls H) d
theorem RL.rd {n m:Nat} {H0 H:Hp} {ls:List Addr} {dss:List (List Addr)} (h:RL n m H0 H ls dss):RD n H (ls.map V.ref) dss:=⟨by rw [List.length_map,h.len],fun k ds e=>by
 have lk:k < ls.length:=by rw [h.len]; exact (List.getElem?_eq_some_iff.mp e).1
 have el:ls[k]? = some ls[k]:=List.getElem?_eq_getElem lk
 obtain ⟨a,_,c⟩:=h.at_ k _ ds el e
 exact ⟨ls[k],by rw [List.getElem?_map,el]; rfl,a,fun d hd=>(c d hd).same del_same⟩⟩
theorem RL.lists {n m:Nat} {H0 H:Hp} {ls:List Addr} {dss:List (List Addr)} (h:RL n m H0 H ls dss):∀ l ∈ ls,∃ zs,H l = some (.lst zs):=fun l hl=>by
 obtain ⟨k,hk⟩:=List.getElem?_of_mem hl
 have lk:k < dss.length:=by rw [← h.len]; exact (List.getElem?_eq_some_iff.mp hk).1
 exact ⟨_,(h.at_ k l _ hk (List.getElem?_eq_getElem lk)).1⟩
theorem RL.same {n m:Nat} {H0 H H':Hp} {ls:List Addr} {dss:List (List Addr)} (h:RL n m H0 H ls dss) (S:Same H H'):RL n m H0 H' ls dss:=⟨h.len,h.nd,h.new,fun k l ds e1 e2=>let ⟨a,b,c⟩:=h.at_ k l ds e1 e2; ⟨S _ _ a,b,fun d hd=>(c d hd).same (del_step fun b o _ e=>S _ _ e)⟩⟩
theorem RL.put {n m:Nat} {H0 H:Hp} {ls:List Addr} {dss:List (List Addr)} {k:Nat} {l d:Addr} {ds:List Addr} (h:RL n m H0 H ls dss) (el:ls[k]? = some l) (ed:dss[k]? = some ds) (hm:ds.length < m) (hd:DD n (del ls H) d):RL n m H0 (upd H l (.lst ((ds ++ [d]).map V.ref))) ls (dss.set k (ds ++ [d])):=by
 have lm:=List.mem_of_getElem? el
 have ee:del ls (upd H l (.lst ((ds ++ [d]).map V.ref))) = del ls H:=by
  funext b
  unfold del
  split
  ·rfl
  ·rename_i hb
   exact upd_ne fun z=>hb (z ▸ lm)
 refine ⟨by rw [List.length_set,h.len],h.nd,h.new,fun j l' ds' e1 e2=>?_⟩
 rw [ee]
 by_cases e:k = j
 ·subst e
  rw [el] at e1
  cases e1
  rw [List.getElem?_set_self (List.getElem?_eq_some_iff.mp ed).1] at e2
  cases e2
  obtain ⟨a,b,c⟩:=h.at_ k l ds el ed
  refine ⟨upd_same,by rw [List.length_append]; simp; omega,fun d' hd'=>?_⟩
  rcases List.mem_append.mp hd' with hd' | hd'
  ·exact c d' hd'
  ·rw [List.mem_singleton.mp hd']; exact hd
 ·rw [List.getElem?_set_ne e] at e2
  obtain ⟨a,b,c⟩:=h.at_ j l' ds' e1 e2
  refine ⟨(upd_ne fun z=>?_).trans a,b,c⟩
  subst z
  have l1:=List.getElem?_eq_some_iff.mp el
  have l2:=List.getElem?_eq_some_iff.mp e1
  have pw:=List.pairwise_iff_getElem.mp h.nd
  rcases Nat.lt_or_gt_of_ne e with lt | lt
  ·exact pw k j l1.1 l2.1 lt (l1.2.trans l2.2.symm)
  ·exact pw j k l2.1 l1.1 lt (l2.2.trans l1.2.symm)
def dJ0 (n m:Nat) (D1:Addr) (H H1:Hp) (k:Nat) (ys:List V) (Hc:Hp):Prop:=∃ ls:List Addr,ys = ls.map V.ref∧RL n m H Hc ls (List.replicate k [])∧Same H1 Hc∧Hc D1 = some (.lst ys)∧D1 ∉ ls
theorem RL.nil {n m:Nat} {H0 H:Hp} : RL n m H0 H [] (List.replicate 0 []):=⟨rfl,List.nodup_nil,by simp,fun k l ds e=>by simp at e⟩
theorem RL.more {n m k:Nat} {H0 H:Hp} {ls:List Addr} {l:Addr} (h:RL n m H0 H ls (List.replicate k [])) (h0:H0 l = none) (hl:H l = none):RL n m H0 (upd H l (.lst [])) (ls ++ [l]) (List.replicate (k + 1) []):=by
 have hk:ls.length = k:=by rw [h.len,List.length_replicate]
 have nin:l ∉ ls:=fun z=>by
  obtain ⟨zs,hz⟩:=h.lists l z
  rw [hl] at hz
  cases hz
 refine ⟨by rw [List.length_append,hk,List.length_replicate]; rfl,?_,fun l' hl'=>?_,fun j l' ds e1 e2=>?_⟩
 ·rw [List.nodup_append]
  refine ⟨h.nd,by simp,fun a ha b hb z=>?_⟩
  rw [List.mem_singleton.mp hb] at z
  exact nin (z ▸ ha)
 ·rcases List.mem_append.mp hl' with hl' | hl'
  ·exact h.new l' hl'
  ·rw [List.mem_singleton.mp hl']; exact h0
 ·have lj:=(List.getElem?_eq_some_iff.mp e2).1
  rw [List.length_replicate] at lj
  rw [List.getElem?_replicate,if_pos lj] at e2
  cases e2
  by_cases hj:j < ls.length
  ·rw [List.getElem?_append_left hj] at e1
   obtain ⟨a,_⟩:=h.at_ j l' [] e1 (by rw [List.getElem?_replicate,if_pos (by omega)])
   exact ⟨(upd_ne (fun z=>by rw [z,hl] at a; cases a)).trans a,Nat.zero_le _,by simp⟩
  ·rw [List.getElem?_append_right (by omega)] at e1
   have e0:j - ls.length = 0:=by omega
   rw [e0] at e1
   cases e1
   exact ⟨upd_same,Nat.zero_le _,by simp⟩
theorem RL.other {n m k:Nat} {H0 H:Hp} {ls:List Addr} {D1:Addr} {o:HO} (h:RL n m H0 H ls (List.replicate k [])) (nd:D1 ∉ ls):RL n m H0 (upd H D1 o) ls (List.replicate k []):=by
 refine ⟨h.len,h.nd,h.new,fun j l ds e1 e2=>?_⟩
 obtain ⟨a,b,_⟩:=h.at_ j l ds e1 e2
 have lj:=(List.getElem?_eq_some_iff.mp e2).1
 rw [List.length_replicate] at lj
 rw [List.getElem?_replicate,if_pos lj] at e2
 cases e2
 exact ⟨(upd_ne fun z=>by subst z; exact nd (List.mem_of_getElem? e1)).trans a,b,by simp⟩
def dJ (a D1:Addr) (c:Int) (n m:Nat) (ls:List Addr) (u5 u6:Option V) (H:Hp) (k:Nat) (σ:L2.St) (H':Hp):Prop:=∃ (u7 u8 u9:Option V) (dss:List (List Addr)),σ = [some (.ref a),some (.int c),some (.int n),some (.int m),some (.ref D1),u5,u6,u7,u8,u9]∧Same H H'∧H' D1 = some (.lst (ls.map V.ref))∧dss.length = n∧RL n m H H' ls dss
theorem ok_doors {f:Addr} {fd:FuncData} (F:Fun K nm_doors nm_doors s_doors f fd) (T:Txt K mg D) (a:Addr) (ns:List Int) (G_cell:OkF P w K mg base 1 nm_cell ps_cell (sp_cell K a ns)) (G_stream:OkF P w K mg base 1 nm_stream ps_stream sp_stream) (G_door:OkF P w K mg base 4 nm_door ps_door sp_door):FnOk P w K mg base CX0 5 f fd ps_doors (sp_doors K a ns):=by
 refine F.ok sc_doors (fun vs H Q E h=>?_) (fun cdv A outer s H vs Q E hr h=>?_)
 ·obtain ⟨c,n,m,rfl,_⟩:=h
  rfl
 ·obtain ⟨c,n,m,rfl,hs,n63,c0,n12,m100,q⟩:=h
  refine ⟨_,(pss_cons (ps_compGF (defScope s_doors) ["_law_script", "_law_at", "_law_many", "_law_most", "_law_rooms", "_law_first", "_law_cells", "_law_cell_here", "_law_room", "_law_door_here"] ["_law_script", "_law_at", "_law_many", "_law_most", "_law_rooms", "_law_first", "_law_cells", "_law_cell_here", "_law_room", "_law_door_here"] ["_law_k"] rfl rfl rfl (by decide +kernel) (by decide +kernel) rfl (by decide +kernel) (by decide +kernel) (by decide +kernel) (by decide +kernel) (by decide +kernel) (pi_range1 (by rfl) T.b_range (pa_cons (pv 2) pa_nil).mono) (fun _ _ _ _ _=>(pg_name (i:=0) (show List.Nodup (["_law_k", "_law_script", "_law_at", "_law_many", "_law_most", "_law_rooms", "_law_first", "_law_cells", "_law_cell_here", "_law_room", "_law_door_here"] : List Str) from by decide +kernel) rfl (Or.inl rfl) (Or.inr rfl))) (fun _ _ _ _ _=>pts_nil) (fun _ _ _ _ _=>(pe_lst pa_nil)) (pg_name (i:=4) sc_doors.nd rfl (Or.inl rfl)))
   (pss_cons (ps_if (pt_cmpR op_gt (pv 2) pe_int (nomark _))
    (pss_cons (ps_set (i:=5) sc_doors.nd rfl (Or.inl rfl) (pe_callF G_cell (hr.mono (by decide)) (by rfl) (pa_cons (pv 0) (pa_cons (pv 1) pa_nil))))
    (pss_cons (ps_set (i:=6) sc_doors.nd rfl (Or.inl rfl) (pe_callF G_stream (hr.mono (by decide)) (by rfl) (pa_cons (pv 5) (pa_cons (pe_op op_modN (pe_op op_mod (pe_op op_mul (pv 5) pe_int) pe_int) (pe_op op_add (pe_op op_mulB pe_int (pv 2)) pe_int)) pa_nil))))
    (pss_one (ps_for PassesOwn.never rfl (pi_list ((pe_op op_cat (pv 6) (pe_slice sl_list (pv 0) (po_some (pe_op op_add (pv 1) pe_int)) (po_some (pe_op op_add (pv 1) pe_int))))).mono) (pg_name (i:=7) sc_doors.nd rfl (Or.inl rfl))
     (pss_cons (ps_asg (pe_callF G_door (hr.mono (by decide)) (by rfl) (pa_cons (pv 7) (pa_cons (pv 2) pa_nil))) (pg_tupH (n:=2) rfl (pgs_cons (pg_name (i:=8) sc_doors.nd rfl (Or.inl rfl)) (pgs_cons (pg_name (i:=9) sc_doors.nd rfl (Or.inl rfl)) pgs_nil))))
     (pss_one (ps_if (pt_cmpR op_lt (pe_callB call_lenL (by rfl) T.b_len PySem.boot_len (pa_cons (pe_ix ix_listH (pv 4) (pv 8) (fun _ _=>rfl)) pa_nil)) (pv 3) (nomark _))
      (pss_one (ps_expr (pe_app (pe_ix ix_listH (pv 4) (pv 8) (fun _ _=>rfl)) (pa_cons (pv 9) pa_nil))))
      pss_nil)))))))
    pss_nil)
   (pss_one (ps_ret (pv 4))))),?_⟩
  unfold sp_cell sp_stream sp_door
  refine seq_hide fun R1 hR1=>?_
  walk_at "rd"
  refine tCompG1_rng ?_
  walk_at "rd"
  refine ⟨n,rfl,by omega,fun D1 hD1=>⟨dJ0 n m D1 H H,⟨[],rfl,.nil,Same.upd hD1,upd_same,by simp⟩,?_,?_⟩⟩
  ·rintro k ys Hc hk ⟨ls,rfl,rl,S1,h1,nd⟩ hy
   refine ⟨Nat.zero_le _,fun l hl=>?_⟩
   have nD:D1 ≠ l:=ne_of_none h1 hl
   refine ⟨(upd_ne nD).trans h1,ls ++ [l],by rw [List.map_append]; rfl,(rl.more (Same.free S1 hl) hl).other ?_,fun b o e=>(upd_ne (ne_of_none e hD1)).trans ((upd_ne (ne_of_none (S1 _ _ e) hl)).trans (S1 _ _ e)),upd_same,?_⟩
   ·simp only [List.mem_append,List.mem_singleton,not_or]
    exact ⟨nd,nD⟩
   ·simp only [List.mem_append,List.mem_singleton,not_or]
    exact ⟨nd,nD⟩
  ·rintro ys Hc ⟨ls,rfl,rl,S1,h1,nd⟩ hy
   subst hR1
   refine seq_hide fun R2 hR2=>?_
   have fin:∀ (u5 u6 u7 u8 u9:Option V) (dss:List (List Addr)) (H9:Hp),Same H H9→H9 D1 = some (.lst (ls.map V.ref))→dss.length = n→RL n m H H9 ls dss→R2 { nx:=fun _ H'=>Q .non H',rt:=Q } [some (.ref a),some (.int c),some (.int n),some (.int m),some (.ref D1),u5,u6,u7,u8,u9] H9:=by
    intro u5 u6 u7 u8 u9 dss H9 S9 h9 ld r9
    subst hR2
    refine ⟨_,rfl,q D1 _ dss H9 S9 hD1 h9 ld r9.rd fun ds hds=>?_⟩
    obtain ⟨k,hk⟩:=List.getElem?_of_mem hds
    have lk:k < ls.length:=by rw [r9.len]; exact (List.getElem?_eq_some_iff.mp hk).1
    exact (r9.at_ k _ ds (List.getElem?_eq_getElem lk) hk).2.1
   clear hR2
   walk_at "rd"
   refine ite2 (fun hn=>?_) fun _=>fin none none none none none (List.replicate n []) Hc S1 h1 List.length_replicate rl
   have hn:0 < (n:Int):=of_decide_eq_true hn
   have v0:0 ≤ cell ns c * 48271 % 104729 % (3 * (n:Int) + 1):=Int.emod_nonneg _ (by omega)
   have v1:cell ns c * 48271 % 104729 % (3 * (n:Int) + 1) < 3 * (n:Int) + 1:=Int.emod_lt_of_pos _ (by omega)
   refine ⟨Same.sql S1 hs,n63,c0,.inr (by constructor <;> decide),Bd.sm (by decide),Bd.sm (by omega),by omega,(cell ns c * 48271 % 104729 % (3 * (n:Int) + 1)).toNat,by rw [Int.fmod_eq_emod_of_nonneg _ (by omega)]; omega,by omega,fun l xs H2 S2 fl hl2 _ _=>tFor_listM ?_⟩
   walk_at "rd"
   refine ⟨_,Same.sql (S1.trans S2) hs,fun p5 g5=>⟨_,(upd_ne (ne_of_none hl2 g5)).trans hl2,?_,fun p6 g6=>⟨dJ a D1 c n m ls (some (.int (cell ns c))) (some (.ref l)) H,?_,?_,?_⟩⟩⟩
   ·have z9:1000 < sizeLine:=by decide
    have:(cutV (ns.map V.int) (some (c + 1)) (some (c + 25))).length ≤ (ns.map V.int).length:=by
     unfold cutV
     rw [List.length_take,List.length_drop]
     omega
    rw [List.length_map] at this ⊢
    omega
   ·have T5:Same Hc (upd (upd H2 p5 (.lst (cutV (ns.map V.int) (some (c + 1)) (some (c + 25))))) p6 (.lst (xs.map V.int ++ cutV (ns.map V.int) (some (c + 1)) (some (c + 25))))):=S2.trans ((Same.upd g5).trans (Same.upd g6))
    exact ⟨none,none,none,List.replicate n [],rfl,S1.trans T5,T5 _ _ h1,List.length_replicate,rl.same T5⟩
   ·rintro k v σ' H' hk ⟨u7,u8,u9,dss,rfl,S9,h9,ld,r9⟩ hp6
    obtain ⟨i,rfl⟩ : ∃ i,v = V.int i:=by
     rcases List.mem_append.mp (List.mem_of_getElem? hk) with z | z
     ·obtain ⟨i,_,rfl⟩:=List.mem_map.mp z
      exact ⟨i,rfl⟩
     ·obtain ⟨i,_,rfl⟩:=List.mem_map.mp (List.mem_of_mem_drop (List.mem_of_mem_take z))
      exact ⟨i,rfl⟩
    refine ⟨_,rfl,_,rfl,⟨_,rfl⟩,n,rfl,by omega,n12,fun r d p lp room so x y S rs ws ps H3 S3 fr fd hr hroom hd hp y0 g hlp flp hpi hdr=>?_⟩
    have kd:dss[room]? = some (dss[room]'(by omega)):=List.getElem?_eq_getElem _
    have kl:ls[room]? = some (ls[room]'(by rw [r9.len]; omega)):=List.getElem?_eq_getElem _
    generalize dss[room]'(by omega) = ds at kd
    generalize ls[room]'(by rw [r9.len]; omega) = lr at kl
    have r3:=r9.same S3
    have al:=r3.at_ room lr ds kl kd
    refine ⟨_,hr,rfl,_,_,rfl,_,_,rfl,rfl,_,rfl,_,rfl,D1,rfl,_,_,rfl,S3 _ _ h9,_,atI_nat (j:=room) (by rw [List.getElem?_map,kl]; rfl),lr,rfl,_,al.1,_,rfl,m,rfl,?_⟩
    rw [List.length_map]
    by_cases hm:ds.length < m
    ·rw [if_pos (decide_eq_true (by omega))]
     have lin:=List.mem_of_getElem? kl
     have nD:D1 ≠ lr:=fun z=>nd (by rw [z]; exact lin)
     have n6:lr ≠ p6:=by
      obtain ⟨zs,hz⟩:=rl.lists lr lin
      exact ne_of_none (Same.upd g5 _ _ (S2 _ _ hz)) g6
     have nl:lp ∉ ls:=fun z=>by
      obtain ⟨zs,hz⟩:=r9.lists lp z
      rw [hz] at flp
      cases flp
     have dd:=DD.off r3.lists nl hd hp y0 g hlp hpi hdr
     have r4:=r3.put kl kd hm dd
     rw [List.map_append] at r4
     have z9:1000 < sizeLine:=by decide
     refine ⟨_,rfl,_,rfl,D1,rfl,_,_,rfl,S3 _ _ h9,_,atI_nat (j:=room) (by rw [List.getElem?_map,kl]; rfl),lr,rfl,⟨_,al.1⟩,_,rfl,_,al.1,by rw [List.length_map]; omega,(upd_ne n6.symm).trans (S3 _ _ hp6),_,_,_,dss.set room (ds ++ [d]),rfl,fun b o e=>(upd_ne (fun z=>?_)).trans (S3 _ _ (S9 _ _ e)),(upd_ne nD).trans (S3 _ _ h9),by rw [List.length_set]; exact ld,r4⟩
     rw [z,r9.new lr lin] at e
     cases e
    ·rw [if_neg (by simp; omega)]
     exact ⟨S3 _ _ hp6,_,_,_,dss,rfl,S9.trans S3,S3 _ _ h9,ld,r3⟩
   ·rintro σ' H' ⟨u7,u8,u9,dss,rfl,S9,h9,ld,r9⟩ _
    exact fin _ _ _ _ _ dss H' S9 h9 ld r9
theorem WF.keys {H:Hp} : ∀ {xs:List V} {gs:List (Str × Int × Int)} {ws:List (Str × Addr)},WF K H xs gs ws→ws.map (·.1) = gs.map (·.1)
 | _,_,_,.nil=>rfl
 | _,_,_,.cons _ _ r=>by rw [List.map_cons,List.map_cons,r.keys]
theorem names_of {ns:List Str} {rs:List Nat} (h:∀ r ∈ rs,r < ns.length):∃ nms,NamesOf ns rs nms:=by
 refine ⟨rs.map fun r=>(ns[r]?).getD Str.empty,List.length_map ..,fun k r m e1 e2=>?_⟩
 rw [List.getElem?_map,e1,Option.map_some,List.getElem?_eq_getElem (h r (List.mem_of_getElem? e1))] at e2
 cases e2
 exact List.getElem?_eq_getElem _
structure DrIs (K:PySem.W.Frag) (n:Nat) (ns:List Str) (H H':Hp) (d:Addr) (g:Dr):Prop where
 ex:∃ (p lp:Addr) (so x y S:Int) (rs:List Nat) (ws:List Int) (ps xs:List V) (nms:List Str),H d = some (.tup [.int so,.ref p,.ref lp])∧H p = some (.tup [.int x,.int y])∧0 < y∧Int.gcd x y = 1∧H lp = some (.lst ps)∧PI H ps rs ws S∧DrawnN n so rs ws S∧NamesOf ns rs nms∧g.p = p∧WF K H' xs (Ac.ways (nms.zip ws) S) g.ws
theorem DrIs.on {n:Nat} {ns:List Str} {H H' H2:Hp} {d:Addr} {g:Dr} (S:Same H' H2) (h:DrIs K n ns H H' d g):DrIs K n ns H H2 d g:=let ⟨p,lp,so,x,y,S',rs,ws,ps,xs,nms,a1,a2,a3,a4,a5,a6,a7,a8,a9,b⟩:=h.ex; ⟨p,lp,so,x,y,S',rs,ws,ps,xs,nms,a1,a2,a3,a4,a5,a6,a7,a8,a9,b.same S⟩
theorem DrIs.up {n:Nat} {ns:List Str} {H H' H2:Hp} {d:Addr} {g:Dr} (S:Same H H2) (h:DrIs K n ns H H' d g):DrIs K n ns H2 H' d g:=let ⟨p,lp,so,x,y,S',rs,ws,ps,xs,nms,a1,a2,a3,a4,a5,a6,a7,a8,a9,b⟩:=h.ex; ⟨p,lp,so,x,y,S',rs,ws,ps,xs,nms,S _ _ a1,S _ _ a2,a3,a4,S _ _ a5,a6.same S,a7,a8,a9,b⟩
theorem DrIs.few {n:Nat} {ns:List Str} {H H':Hp} {d:Addr} {g:Dr} (h:DrIs K n ns H H' d g):g.ws.length ≤ 8∧∀ z ∈ g.ws,z.1 ∈ ns:=by
 obtain ⟨p,lp,so,x,y,S',rs,ws,ps,xs,nms,a1,a2,a3,a4,a5,a6,a7,a8,a9,b⟩:=h.ex
 have lo:∀ z ∈ nms.zip ws,0 ≤ z.2:=fun z hz=>a7.lo _ (List.of_mem_zip (a:=z.1) (b:=z.2) hz).2
 have k:=b.keys
 constructor
 ·have e1:=congrArg List.length k
  rw [List.length_map,List.length_map] at e1
  have e2:=Ac.ways_len lo S'
  have e3:(nms.zip ws).length ≤ nms.length:=by rw [List.length_zip]; omega
  have:=a8.1
  have:=a7.l8
  omega
 ·intro z hz
  have hz:=List.mem_map_of_mem (f:=(·.1)) hz
  rw [k] at hz
  obtain ⟨v,hv,e⟩:=List.mem_map.mp hz
  have hv:=Ac.ways_key hv
  obtain ⟨u,hu,e'⟩:=List.mem_map.mp hv
  have hu:=(List.of_mem_zip (a:=u.1) (b:=u.2) hu).1
  rw [← e,← e']
  obtain ⟨j,hj⟩:=List.getElem?_of_mem hu
  have lj:j < rs.length:=by rw [← a8.1]; exact (List.getElem?_eq_some_iff.mp hj).1
  exact List.mem_of_getElem? (a8.2 j _ _ (List.getElem?_eq_getElem lj) hj)
structure RmIs (K:PySem.W.Frag) (n:Nat) (ns:List Str) (H H':Hp) (ds:List Addr) (gs:List Dr):Prop where
 len:gs.length = ds.length
 at_:∀ (j:Nat) (d:Addr) (g:Dr),ds[j]? = some d→gs[j]? = some g→DrIs K n ns H H' d g
theorem RmIs.on {n:Nat} {ns:List Str} {H H' H2:Hp} {ds:List Addr} {gs:List Dr} (S:Same H' H2) (h:RmIs K n ns H H' ds gs):RmIs K n ns H H2 ds gs:=⟨h.len,fun j d g e1 e2=>(h.at_ j d g e1 e2).on S⟩
theorem RmIs.up {n:Nat} {ns:List Str} {H H' H2:Hp} {ds:List Addr} {gs:List Dr} (S:Same H H2) (h:RmIs K n ns H H' ds gs):RmIs K n ns H2 H' ds gs:=⟨h.len,fun j d g e1 e2=>(h.at_ j d g e1 e2).up S⟩
theorem RmIs.mem {n:Nat} {ns:List Str} {H H':Hp} {ds:List Addr} {gs:List Dr} (h:RmIs K n ns H H' ds gs) {g:Dr} (hg:g ∈ gs):∃ d,DrIs K n ns H H' d g:=by
 obtain ⟨j,hj⟩:=List.getElem?_of_mem hg
 have lj:j < ds.length:=by rw [← h.len]; exact (List.getElem?_eq_some_iff.mp hj).1
 exact ⟨_,h.at_ j _ g (List.getElem?_eq_getElem lj) hj⟩
theorem at_snoc {α:Type} {l:List α} {a b:α} {k:Nat} (h:(l ++ [a])[k]? = some b):(k < l.length∧l[k]? = some b)∨(k = l.length∧b = a):=by
 by_cases hk:k < l.length
 ·rw [List.getElem?_append_left hk] at h
  exact .inl ⟨hk,h⟩
 ·have hl:=(List.getElem?_eq_some_iff.mp h).1
  rw [List.length_append,List.length_cons,List.length_nil] at hl
  have e:k = l.length:=by omega
  subst e
  rw [List.getElem?_append_right (Nat.le_refl _),Nat.sub_self] at h
  cases h
  exact .inr ⟨rfl,rfl⟩
theorem RmIs.snoc {n:Nat} {ns:List Str} {H H':Hp} {ds:List Addr} {gs:List Dr} {d:Addr} {g:Dr} (h:RmIs K n ns H H' ds gs) (hd:DrIs K n ns H H' d g):RmIs K n ns H H' (ds ++ [d]) (gs ++ [g]):=by
 have l:=h.len
 refine ⟨by rw [List.length_append,List.length_append,l]; rfl,fun j d' g' e1 e2=>?_⟩
 rcases at_snoc e1 with ⟨a,b⟩ | ⟨a,b⟩ <;> rcases at_snoc e2 with ⟨c,e⟩ | ⟨c,e⟩
 ·exact h.at_ j d' g' b e
 ·omega
 ·omega
 ·subst b; subst e; exact hd
theorem DrsAt.snoc {H:Hp} {xs:List V} {gs:List Dr} {s:Addr} {g:Dr} (h:DrsAt D H xs gs) (hs:DrAt D H s g):DrsAt D H (xs ++ [.ref s]) (gs ++ [g]):=by
 have l:=h.len
 refine ⟨by rw [List.length_append,List.length_append,l]; rfl,fun k g' e=>?_⟩
 rcases at_snoc e with ⟨a,b⟩ | ⟨a,b⟩
 ·obtain ⟨s',c,d⟩:=h.at_ k g' b
  exact ⟨s',by rw [List.getElem?_append_left (by omega)]; exact c,d⟩
 ·subst b
  exact ⟨s,by rw [List.getElem?_append_right (by omega),l,a,Nat.sub_self]; rfl,hs⟩
theorem HRooms.snoc {H:Hp} {xs ys:List V} {rms:List (Str × List Dr)} {t l:Addr} {g:Str × List Dr} (h:HRooms D H xs rms) (ht:H t = some (.tup [.str g.1,.ref l])) (hl:H l = some (.lst ys)) (hd:DrsAt D H ys g.2):HRooms D H (xs ++ [.ref t]) (rms ++ [g]):=by
 have le:=h.len
 refine ⟨by rw [List.length_append,List.length_append,le]; rfl,fun k g' e=>?_⟩
 rcases at_snoc e with ⟨a,b⟩ | ⟨a,b⟩
 ·obtain ⟨t',l',ys',c,d⟩:=h.at_ k g' b
  exact ⟨t',l',ys',by rw [List.getElem?_append_left (by omega)]; exact c,d⟩
 ·subst b
  exact ⟨t,l,ys,by rw [List.getElem?_append_right (by omega),le,a,Nat.sub_self]; rfl,ht,hl,hd⟩
structure HallIs (K:PySem.W.Frag) (n:Nat) (H:Hp) (dss:List (List Addr)) (rms:List (Str × List Dr)):Prop where
 len:rms.length = dss.length
 at_:∀ (j:Nat) (ds:List Addr) (g:Str × List Dr),dss[j]? = some ds→rms[j]? = some g→RmIs K n (rms.map (·.1)) H H ds g.2
theorem of_cls {so:Int} (s0:0 ≤ so) (s3:so ≤ 3):Of_Door_ways D (clsOf D so):=by
 unfold Of_Door_ways
 obtain rfl | rfl | rfl | rfl:so = 0∨so = 1∨so = 2∨so = 3:=by omega
 all_goals simp [clsOf]
theorem del_upd {as:List Addr} {H:Hp} {a:Addr} {u:HO} (h:a ∈ as):del as (upd H a u) = del as H:=by
 funext b
 unfold del
 split
 ·rfl
 ·rename_i hb
  exact upd_ne fun z=>hb (z ▸ h)
theorem del_list {as:List Addr} {H:Hp} (hls:∀ l ∈ as,∃ zs,H l = some (.lst zs)) {b:Addr} {u:HO} (nu:∀ zs,u ≠ .lst zs) (e:H b = some u):del as H b = some u:=del_at (fun z=>by
 obtain ⟨zs,hz⟩:=hls b z
 rw [hz] at e
 injection e with e
 exact nu zs e.symm) e
theorem WF.off {as:List Addr} {H:Hp} (hls:∀ l ∈ as,∃ zs,H l = some (.lst zs)) {xs:List V} {gs:List (Str × Int × Int)} {ws:List (Str × Addr)} (h:WF K H xs gs ws):WF K (del as H) xs gs ws:=by
 refine h.imp (fun t ys e=>del_list hls (by intro z y; cases y) e) fun c xs e=>?_
 rcases e with (e | ⟨o,e⟩) | e
 ·exact .inl (.inl (del_list hls (by intro z y; cases y) e))
 ·exact .inl (.inr ⟨o,del_list hls (by intro z y; cases y) e⟩)
 ·exact .inr e
def sp_hall (K:PySem.W.Frag) (D:Adr):Sp:=fun vs H Q _=>∃ (c x y:Int) (p r:Addr) (xs:List V) (dss:List (List Addr)) (n m:Nat),vs = [.int c,.ref p,.ref r]∧H p = some (.tup [.int x,.int y])∧0 ≤ x∧x < y∧y ≤ 100∧Int.gcd x y = 1∧H r = some (.lst xs)∧RD n H xs dss∧dss.length = n∧n ≤ 12∧m ≤ 12∧(∀ ds ∈ dss,ds.length ≤ m) ∧
 ∀ (o:Addr) (H':Hp) (rms:List (Str × List Dr)),Same H H'→H o = none→HallAt D H' o p rms→RmsOk rms→HallIs K n H' dss rms→Q (.ref o) H'
def hlJ (K:PySem.W.Frag) (D:Adr) (σ0:List (Option V)) (D1:Addr) (n:Nat) (ns:List Str) (dss:List (List Addr)) (H H1:Hp) (k:Nat) (σ:L2.St) (H':Hp):Prop:=∃ (u5 u6:Option V) (zs:List V) (rms:List (Str × List Dr)),σ = σ0 ++ [u5,u6]∧Same H1 H'∧H' D1 = some (.lst zs)∧HRooms D (del [D1] H') zs rms∧rms.map (·.1) = ns.take k∧(∀ g ∈ rms,(g.2.map (·.nm)).Nodup)∧∀ (j:Nat) (ds:List Addr) (g:Str × List Dr),dss[j]? = some ds→rms[j]? = some g→RmIs K n ns H (del [D1] H') ds g.2
def dlJ (K:PySem.W.Frag) (D:Adr) (D1 D2:Addr) (n:Nat) (ns ts:List Str) (ds:List Addr) (H H1:Hp) (k:Nat) (zs:List V) (H':Hp):Prop:=∃ gs:List Dr,Same H1 H'∧H' D2 = some (.lst zs)∧DrsAt D (del [D1,D2] H') zs gs∧gs.map (·.nm) = ts.take k∧RmIs K n ns H (del [D1,D2] H') (ds.take k) gs
theorem ok_hall {f:Addr} {fd:FuncData} (F:Fun K nm_hall nm_hall s_hall f fd) (T:Txt K mg D) (G_names:OkF P w K mg base 2 nm_names ps_names sp_names) (G_built:OkF P w K mg base 8 nm_built ps_built (sp_built K D)) (G_Hall_initX:OkI P w K mg base (CXO P w) 4 D.Hall_init ps_Hall_init (sp_Hall_init K D)):FnOk P w K mg base CX0 9 f fd ps_hall (sp_hall K D):=by
 refine F.ok sc_hall (fun vs H Q E h=>?_) (fun cdv A outer s H vs Q E hr h=>?_)
 ·obtain ⟨c,x,y,p,r,xs,dss,n,m,rfl,_⟩:=h
  rfl
 ·obtain ⟨c,x,y,p,r,xs,dss,n,m,rfl,hp,x0,xy,y1,gx,hrm,rd,ln,n12,m12,hm,q⟩:=h
  refine ⟨_,(pss_cons (ps_set (i:=3) sc_hall.nd rfl (Or.inr rfl) (pe_callF G_names (hr.mono (by decide)) (by rfl) (pa_cons (pv 0) (pa_cons (pe_callB call_lenL (by rfl) T.b_len PySem.boot_len (pa_cons (pv 2) pa_nil)) pa_nil))))
   (pss_cons (ps_set (i:=4) sc_hall.nd rfl (Or.inl rfl) (pe_lst pa_nil))
   (pss_cons (ps_for PassesOwn.never rfl (pi_range1 (by rfl) T.b_range (pa_cons (pe_callB call_lenL (by rfl) T.b_len PySem.boot_len (pa_cons (pv 2) pa_nil)) pa_nil).mono) (pg_name (i:=5) sc_hall.nd rfl (Or.inl rfl))
    (pss_cons (ps_set (i:=6) sc_hall.nd rfl (Or.inl rfl) (pe_callF G_names (hr.mono (by decide)) (by rfl) (pa_cons (pe_op op_add (pv 0) (pv 5)) (pa_cons (pe_callB call_lenL (by rfl) T.b_len PySem.boot_len (pa_cons (pe_ix ix_listH (pv 2) (pv 5) (fun _ _=>rfl)) pa_nil)) pa_nil))))
    (pss_one (ps_expr (pe_app (pv 4) (pa_cons (pe_tup (pa_cons (pe_ix ix_listH (pv 3) (pv 5) (fun _ _=>rfl)) (pa_cons (pe_compGF (defScope s_hall) ["_law_cell_here", "_law_share_here", "_law_rooms", "_law_names_here", "_law_found", "_law_k", "_law_titles"] ["_law_cell_here", "_law_share_here", "_law_rooms", "_law_names_here", "_law_found", "_law_k", "_law_titles"] ["_law_title", "_law_door_here"] rfl rfl rfl (by decide +kernel) (by decide +kernel) rfl (by decide +kernel) (by decide +kernel) (by decide +kernel) (by decide +kernel) (by decide +kernel) (pi_zip (by rfl) T.b_zip (pa_cons (pv 6) (pa_cons (pe_ix ix_listH (pv 2) (pv 5) (fun _ _=>rfl)) pa_nil)).mono) (fun _ _ _ _ _=>(pg_tupH (n:=2) rfl (pgs_cons (pg_name (i:=0) (show List.Nodup (["_law_title", "_law_door_here", "_law_cell_here", "_law_share_here", "_law_rooms", "_law_names_here", "_law_found", "_law_k", "_law_titles"] : List Str) from by decide +kernel) rfl (Or.inl rfl) (Or.inr rfl)) (pgs_cons (pg_name (i:=1) (show List.Nodup (["_law_title", "_law_door_here", "_law_cell_here", "_law_share_here", "_law_rooms", "_law_names_here", "_law_found", "_law_k", "_law_titles"] : List Str) from by decide +kernel) rfl (Or.inl rfl) (Or.inr rfl)) pgs_nil)))) (fun _ _ _ _ _=>pts_nil) (fun _ _ _ _ _=>(pe_callF G_built (hr.mono (by decide)) (by rfl) (pa_cons (pv 0) (pa_cons (pv 1) (pa_cons (pv 5) pa_nil)))))) pa_nil))) pa_nil))))))
   (pss_one (ps_ret (pe_makeI T.mk_Hall G_Hall_initX (hr.mono (by decide)) (by rfl) T.c_Hall xfly_no (pa_cons (pv 1) (pa_cons (pv 4) pa_nil)))))))),?_⟩
  unfold sp_names sp_built sp_Hall_init
  walk_at "rd"
  have lx:xs.length = n:=by rw [rd.len,ln]
  refine ⟨_,hrm,n,by rw [lx],n12,fun l0 ns H1 S1 f0 hl0 lns wns nns=>⟨Nat.zero_le _,fun D1 hD1=>tFor_rngM ?_⟩⟩
  walk_at "rd"
  have z9:100 < sizeLine:=by decide
  refine ⟨_,(upd_ne (ne_of_none (S1 _ _ hrm) hD1)).trans (S1 _ _ hrm),n,by rw [lx],by omega,hlJ K D [some (.int c),some (.ref p),some (.ref r),some (.ref l0),some (.ref D1)] D1 n ns dss H H1,⟨none,none,[],[],rfl,Same.upd hD1,upd_same,⟨rfl,fun k g e=>by simp at e⟩,rfl,by simp,fun j ds g _ e=>by simp at e⟩,?_,?_⟩
  ·rintro k σ' H' hk ⟨u5,u6,zs,rms,rfl,S2,hD,hR,hn,hd,hi⟩
   have ed:dss[k]? = some (dss[k]'(by omega)):=List.getElem?_eq_getElem _
   have em:=List.getElem_mem (l:=dss) (n:=k) (by omega)
   have en:ns[k]? = some (ns[k]'(by omega)):=List.getElem?_eq_getElem _
   generalize dss[k]'(by omega) = ds at ed em
   generalize ns[k]'(by omega) = nk at en
   have dm:=hm ds em
   obtain ⟨lk,ek,hlk,dd⟩:=rd.at_ k ds ed
   have SH:=S1.trans S2
   walk_at "rd"
   refine ⟨_,SH _ _ hrm,_,atI_nat ek,lk,rfl,_,SH _ _ hlk,ds.length,by rw [List.length_map],by omega,fun l1 ts H3 S3 f3 hl3 lts wts nts=>⟨⟨_,S3 _ _ hD⟩,_,S3 _ _ (S2 _ _ hl0),_,atI_nat (by rw [List.getElem?_map,en]; rfl),tCompG_zip ?_⟩⟩
   have SH3:=SH.trans S3
   have S13:=S2.trans S3
   walk_at "rd"
   refine ⟨_,SH3 _ _ hrm,_,atI_nat ek,lk,rfl,_,hl3,_,SH3 _ _ hlk,by rw [List.length_map,List.length_map,lts],by rw [List.length_map]; omega,fun D2 hD2=>⟨dlJ K D D1 D2 n ns ts ds H H3,⟨[],Same.upd hD2,upd_same,⟨rfl,fun k g e=>by simp at e⟩,rfl,⟨rfl,fun j d g _ e=>by simp at e⟩⟩,?_,?_⟩⟩
   ·rintro j xv yv zs2 Hc t hx hy ⟨gs,S5,h5,dr,gn,ri⟩ hz ht ha hb pre hpre
    obtain ⟨u1,u2,rfl⟩:=two_of hpre
    rw [List.getElem?_map] at hx hy
    have lj:j < ds.length:=by
     by_cases z:j < ds.length
     ·exact z
     ·rw [List.getElem?_eq_none (by omega)] at hy
      cases hy
    have e1:ts[j]? = some (ts[j]'(by omega)):=List.getElem?_eq_getElem _
    have e2:ds[j]? = some ds[j]:=List.getElem?_eq_getElem _
    rw [e1] at hx
    rw [e2] at hy
    cases hx
    cases hy
    generalize ts[j]'(by omega) = tj at e1 ⊢
    generalize ds[j] = d at e2 ⊢
    obtain ⟨p1,lp,so,x1,y2,S',rs,ws,ps,a1,a2,a3,a4,a5,a6,a7⟩:=(dd d (List.mem_of_getElem? e2)).ex
    obtain ⟨nms,no⟩:=names_of (ns:=ns) (rs:=rs) fun r hr=>by rw [lns]; exact a7.lt r hr
    have SHc:Same H Hc:=SH3.trans S5
    have SU:=SHc.trans (Same.upd ht (o:=.tup [.str tj,.ref d]))
    have hl0c:=Same.upd ht (o:=.tup [.str tj,.ref d]) _ _ (S5 _ _ (S13 _ _ hl0))
    walk_at "rd"
    refine ⟨[_,_],rfl,rfl,so,lp,p1,SU _ _ a1,wts _ (List.mem_of_getElem? e1),⟨x1,y2,.inl (.inl (SU _ _ a2)),a3,a4⟩,S',rs,ws,ps,SU _ _ a5,a6.same SU,ns,hl0c,nms,no,a7.drawn no wns,fun H4 s ld ys us S6 fs fld d1=>?_⟩
    have S7:Same Hc H4:=(Same.upd ht).trans S6
    have hD4:H4 D1 = some (.lst zs):=S7 _ _ (S5 _ _ (S3 _ _ hD))
    have h54:=S7 _ _ h5
    have hls:∀ l ∈ [D1,D2],∃ zs,H4 l = some (.lst zs):=fun l hl=>by
     simp only [List.mem_cons,List.not_mem_nil,or_false] at hl
     rcases hl with rfl | rfl
     ·exact ⟨_,hD4⟩
     ·exact ⟨_,h54⟩
    have nw:∀ b,upd Hc t (.tup [.str tj,.ref d]) b = none→b ∉ [D1,D2]:=fun b hb z=>by
     simp only [List.mem_cons,List.not_mem_nil,or_false] at z
     rcases z with rfl | rfl
     ·rw [Same.upd ht _ _ (S5 _ _ (S3 _ _ hD))] at hb
      cases hb
     ·rw [Same.upd ht _ _ h5] at hb
      cases hb
    obtain ⟨dx,hs⟩:=d1.at_
    have wo:=d1.wf.off hls
    have st:Same (del [D1,D2] Hc) (del [D1,D2] H4):=del_step fun b o _ e=>S7 _ _ e
    have di:DrIs K n ns H (del [D1,D2] H4) d ⟨tj,p1,us⟩:=⟨p1,lp,so,x1,y2,S',rs,ws,ps,ys,nms,a1,a2,a3,a4,a5,a6,a7,no,rfl,wo⟩
    refine ⟨h54,S7 _ _ ha,S7 _ _ hb,gs ++ [⟨tj,p1,us⟩],fun b u e=>(upd_ne (ne_of_none e hD2)).trans (S7 _ _ (S5 _ _ e)),upd_same,?_,?_,?_⟩
    ·rw [del_upd (by simp)]
     exact (dr.same st).snoc ⟨clsOf D so,dx,ld,ys,of_cls a7.s0 a7.s3,del_at (nw _ fs) hs,del_at (nw _ fld) d1.hl,wo.ways,Nat.le_trans di.few.1 (by decide)⟩
    ·rw [List.map_append,gn,take_next e1]; rfl
    ·rw [del_upd (by simp),take_next e2]
     exact (ri.on st).snoc di
   ·rintro zs2 Hc ⟨gs,S5,h5,dr,gn,ri⟩ hz
    rw [List.length_map,List.take_of_length_le (Nat.le_refl _)] at gn
    rw [List.length_map,List.take_of_length_le (by omega)] at ri
    have rk:rms.length = k:=by
     have:=congrArg List.length hn
     rw [List.length_map,List.length_take] at this
     omega
    have zl:=hR.len
    have hDc:Hc D1 = some (.lst zs):=S5 _ _ (S3 _ _ hD)
    have n12':D1 ≠ D2:=ne_of_none (S3 _ _ hD) hD2
    refine ⟨line2,fun t2 g2=>?_⟩
    have n1:D1 ≠ t2:=ne_of_none hDc g2
    have st:Same (del [D1] H') (del [D1] (upd Hc t2 (.tup [.str nk,.ref D2]))):=del_step fun b o _ e=>Same.upd g2 _ _ (S5 _ _ (S3 _ _ e))
    have s2:Same (del [D1,D2] Hc) (del [D1] (upd Hc t2 (.tup [.str nk,.ref D2]))):=fun b o e=>by
     obtain ⟨a,e⟩:=del_in e
     exact del_at (by simp at a ⊢; exact a.1) (Same.upd g2 _ _ e)
    refine ⟨zs,(upd_ne n1).trans hDc,by omega,some (.int k),some (.ref l1),zs ++ [.ref t2],rms ++ [(nk,gs)],rfl,fun b u e=>(upd_ne (ne_of_none e hD1)).trans (Same.upd g2 _ _ (S5 _ _ (S13 _ _ e))),upd_same,?_,?_,?_,?_⟩
    ·rw [del_upd (by simp)]
     exact (hR.same st).snoc (del_at (by simp; exact n1.symm) upd_same) (del_at (by simp; exact n12'.symm) ((upd_ne (ne_of_none h5 g2)).trans h5)) (dr.same s2)
    ·rw [List.map_append,hn,take_next en]; rfl
    ·intro g hg
     rcases List.mem_append.mp hg with hg | hg
     ·exact hd g hg
     ·rw [List.mem_singleton.mp hg,gn]; exact nts
    ·intro j ds' g h1 h2
     rw [del_upd (by simp)]
     rcases at_snoc h2 with ⟨_,b⟩ | ⟨a,rfl⟩
     ·exact (hi j ds' g h1 b).on st
     ·rw [a,rk,ed] at h1
      cases h1
      exact ri.on s2
  ·rintro σ' H' ⟨u5,u6,zs,rms,rfl,S2,hD,hR,hn,hd,hi⟩
   walk_at "rd"
   intro o dx g1 g2 g3
   have SM:Same H' (upd (upd H' dx (.own o)) o (.ins D.Hall dx [])):=fun b u e=>by rw [upd_ne (ne_of_none e g1),upd_ne (ne_of_none e g2)]; exact e
   have SH:=S1.trans S2
   rw [List.take_of_length_le (by omega)] at hn
   have rl:rms.length = n:=by rw [← lns,← hn,List.length_map]
   have ri:∀ g ∈ rms,∃ ds ∈ dss,RmIs K n ns H (del [D1] H') ds g.2:=fun g hg=>by
    obtain ⟨j,hj⟩:=List.getElem?_of_mem hg
    have lj:j < dss.length:=by have:=(List.getElem?_eq_some_iff.mp hj).1; omega
    exact ⟨_,List.getElem_mem lj,hi j _ g (List.getElem?_eq_getElem lj) hj⟩
   have ok:RmsOk rms:=by
    refine ⟨by omega,by rw [hn]; exact nns,fun g hg=>wns _ (by rw [← hn]; exact List.mem_map_of_mem hg),fun g hg=>?_,hd,fun g hg d hd' z hz=>?_⟩
    ·obtain ⟨ds,h1,h2⟩:=ri g hg
     have:=hm ds h1
     have:=h2.len
     omega
    ·obtain ⟨ds,h1,h2⟩:=ri g hg
     obtain ⟨_,h3⟩:=h2.mem hd'
     rw [hn]
     exact h3.few.2 z hz
   refine ⟨⟨dx,rfl⟩,x,y,⟨.inl (.inl (SM _ _ (SH _ _ hp))),by omega,gx⟩,x0,xy,Bd.sm (by omega),Bd.sm (by omega),zs,SM _ _ hD,rms,(hR.same del_same).same SM,ok,fun H5 kp hh=>?_⟩
   have SS:Same H' H5:=fun b u e=>kp b u (ne_of_none e g1) (SM b u e)
   refine q o H5 rms (SH.trans SS) (Same.free SH g1) hh ok ⟨by rw [rl,ln],fun j ds g h1 h2=>?_⟩
   rw [hn]
   exact ((hi j ds g h1 h2).on (del_same.trans SS)).up (SH.trans SS)
theorem lessN_count:∀ {ls:List Int},ls.sum - ((ls.filter fun z=>decide (0 < z)).length:Nat) = (lessN ls).sum + (ls.filter fun z=>!decide (0 < z)).sum
 | []=>rfl
 | z :: ls=>by
  have ih:=lessN_count (ls:=ls)
  unfold lessN at ih ⊢
  rw [List.filter_cons,List.filter_cons,List.sum_cons]
  by_cases e:0 < z
  ·rw [if_pos (decide_eq_true e),if_neg (by simp [e]),List.length_cons,List.map_cons,List.sum_cons]
   omega
  ·rw [if_neg (by simpa using e),if_pos (by simpa using e),List.sum_cons]
   omega
theorem lessN_less {ls:List Int} (h:∀ z ∈ ls,0 ≤ z):ls.sum - ((ls.filter fun z=>decide (0 < z)).length:Nat) = (lessN ls).sum:=by
 rw [lessN_count]
 have:∀ {l:List Int},(∀ z ∈ l,z = 0)→l.sum = 0:=fun {l} hl=>by
  induction l with
  | nil=>rfl
  | cons z l ih=>rw [List.sum_cons,hl z List.mem_cons_self,ih fun y hy=>hl y (List.mem_cons_of_mem _ hy)]; rfl
 rw [this (l:=ls.filter fun z=>!decide (0 < z)) fun z hz=>by
  obtain ⟨a,b⟩:=List.mem_filter.mp hz
  have:=h z a
  have b:¬ 0 < z:=by simpa using b
  omega]
 omega
def lensN (dss:List (List Addr)):List Int:=dss.map fun ds=>(ds.length:Int)
theorem HallIs.lens {n:Nat} {H:Hp} {dss:List (List Addr)} {rms:List (Str × List Dr)} (h:HallIs K n H dss rms):doorsN rms = lensN dss:=by
 unfold doorsN lensN
 refine List.ext_getElem? fun k=>?_
 rw [List.getElem?_map,List.getElem?_map]
 by_cases hk:k < rms.length
 ·have hk':k < dss.length:=by rw [← h.len]; exact hk
  rw [List.getElem?_eq_getElem hk,List.getElem?_eq_getElem hk']
  have:=(h.at_ k _ _ (List.getElem?_eq_getElem hk') (List.getElem?_eq_getElem hk)).len
  show some ((rms[k].2.length:Nat):Int) = some ((dss[k].length:Nat):Int)
  rw [this]
 ·rw [List.getElem?_eq_none (by omega),List.getElem?_eq_none (by rw [← h.len]; omega)]
  rfl
theorem HallIs.few {n:Nat} {H:Hp} {dss:List (List Addr)} {rms:List (Str × List Dr)} (h:HallIs K n H dss rms) (ok:RmsOk rms):RmsFew rms:=by
 refine ⟨ok.len,ok.few,fun g hg d hd=>?_⟩
 obtain ⟨j,hj⟩:=List.getElem?_of_mem hg
 have lj:j < dss.length:=by rw [← h.len]; exact (List.getElem?_eq_some_iff.mp hj).1
 obtain ⟨_,z⟩:=(h.at_ j _ g (List.getElem?_eq_getElem lj) hj).mem hd
 exact Nat.le_trans z.few.1 (by decide)
theorem Waits.one {x y:Int} {m k:Nat} (h:Waits x y m) (g:Waits x y k):m = k:=by
 rcases Nat.lt_trichotomy m k with l | l | l
 ·have:=g.ahead m h.lo l
  have:=h.at_
  omega
 ·exact l
 ·have:=h.ahead k g.lo l
  have:=g.at_
  omega
def ndJ (D1:Addr) (ls:List Int) (H:Hp) (k:Nat) (ys:List V) (H':Hp):Prop:=Same H H'∧H' D1 = some (.lst ys)∧ys.length = ((ls.take k).filter fun z=>decide (0 < z)).length
theorem ok_law {f:Addr} {fd:FuncData} (F:Fun K nm_law nm_law s_law f fd) (T:Txt K mg D) (G_cell0:∀ a ns,OkF P w K mg base 1 nm_cell ps_cell (sp_cell K a ns)) (G_lratio:OkF P w K mg base 2 nm_lratio ps_lratio sp_lratio) (G_size:OkF P w K mg base 2 nm_size ps_size sp_size) (G_doors0:∀ a ns,OkF P w K mg base 5 nm_doors ps_doors (sp_doors K a ns)) (G_hall:OkF P w K mg base 9 nm_hall ps_hall (sp_hall K D))
  (G_wait_of:OkF P w K mg base 1 nm_wait_of ps_wait_of (sp_wait_of D)) (G_whole:OkF P w K mg base 1 nm_whole ps_whole sp_whole) (G_least:OkF P w K mg base 1 nm_least ps_least sp_least) (G_most_mendings:OkF P w K mg base 4 nm_most_mendings ps_most_mendings (sp_most_mendings D)):FnOk P w K mg base CX0 10 f fd ps_law (spLaw K):=by
 refine F.ok sc_law (fun vs H Q E h=>?_) (fun cdv A outer s H vs Q E hr h=>?_)
 ·obtain ⟨a,ns,rfl,_⟩:=h
  rfl
 ·obtain ⟨a,ns,rfl,hs,hl,_,hQ⟩:=h
  have G_cell:=G_cell0 a ns
  have G_doors:=G_doors0 a ns
  refine ⟨_,(pss_cons (ps_set (i:=1) sc_law.nd rfl (Or.inl rfl) (pe_op op_add pe_int (pe_op op_mod (pe_callF G_cell (hr.mono (by decide)) (by rfl) (pa_cons (pv 0) (pa_cons pe_int pa_nil))) pe_int)))
   (pss_cons (ps_set (i:=2) sc_law.nd rfl (Or.inl rfl) (pe_callF G_lratio (hr.mono (by decide)) (by rfl) (pa_cons (pe_op op_modN (pe_callF G_cell (hr.mono (by decide)) (by rfl) (pa_cons (pv 0) (pa_cons pe_int pa_nil))) (pv 1)) (pa_cons (pv 1) pa_nil))))
   (pss_cons (ps_set (i:=3) sc_law.nd rfl (Or.inl rfl) (pe_callF G_doors (hr.mono (by decide)) (by rfl) (pa_cons (pv 0) (pa_cons pe_int (pa_cons (pe_callF G_size (hr.mono (by decide)) (by rfl) (pa_cons (pe_callF G_cell (hr.mono (by decide)) (by rfl) (pa_cons (pv 0) (pa_cons pe_int pa_nil))) pa_nil)) (pa_cons pe_int pa_nil))))))
   (pss_cons (ps_set (i:=4) sc_law.nd rfl (Or.inl rfl) (pe_callF G_hall (hr.mono (by decide)) (by rfl) (pa_cons (pe_callF G_cell (hr.mono (by decide)) (by rfl) (pa_cons (pv 0) (pa_cons pe_int pa_nil))) (pa_cons (pv 2) (pa_cons (pv 3) pa_nil)))))
   (pss_cons (ps_set (i:=5) sc_law.nd rfl (Or.inl rfl) (pe_callF G_wait_of (hr.mono (by decide)) (by rfl) (pa_cons (pv 4) pa_nil)))
   (pss_cons (ps_if (pw_or (pt_not (pt_tru (pe_callF G_whole (hr.mono (by decide)) (by rfl) (pa_cons (pv 5) pa_nil)) (fun _=>rfl))) (pw_or (pt_cmpR op_lt (pv 5) pe_int (nomark _)) (pw_or (pt_cmpR op_gt (pv 5) pe_int (nomark _)) (pw_or1 (pt_not (pt_tru (pe_callF G_least (hr.mono (by decide)) (by rfl) (pa_cons (pv 2) (pa_cons (pv 5) pa_nil))) (fun _=>rfl))))))).pt
    (pss_one (ps_ret pe_bl))
    pss_nil)
   (pss_cons (ps_set (i:=6) sc_law.nd rfl (Or.inl rfl) (pe_callB (call_sumH rfl) (by rfl) T.b_sum boot_sum (pa_cons (pe_compGF (defScope s_law) ["_law_script", "_law_bottom", "_law_share_here", "_law_rooms", "_law_hall_here", "_law_many", "_law_doors_here", "_law_found"] ["_law_script", "_law_bottom", "_law_share_here", "_law_rooms", "_law_hall_here", "_law_many", "_law_doors_here", "_law_found"] ["_law_some"] rfl rfl rfl (by decide +kernel) (by decide +kernel) rfl (by decide +kernel) (by decide +kernel) (by decide +kernel) (by decide +kernel) (by decide +kernel) (pi_list ((pv 3)).mono) (fun _ _ _ _ _=>(pg_name (i:=0) (show List.Nodup (["_law_some", "_law_script", "_law_bottom", "_law_share_here", "_law_rooms", "_law_hall_here", "_law_many", "_law_doors_here", "_law_found"] : List Str) from by decide +kernel) rfl (Or.inl rfl) (Or.inr rfl))) (fun _ _ _ _ _=>pts_nil) (fun _ _ _ _ _=>(pe_callB call_lenL (by rfl) T.b_len PySem.boot_len (pa_cons (pv 0) pa_nil)))) pa_nil)))
   (pss_cons (ps_set (i:=6) sc_law.nd rfl (Or.inl rfl) (pe_op op_sub (pv 6) (pe_callB call_lenL (by rfl) T.b_len PySem.boot_len (pa_cons (pe_compGF (defScope s_law) ["_law_script", "_law_bottom", "_law_share_here", "_law_rooms", "_law_hall_here", "_law_many", "_law_doors_here", "_law_found"] ["_law_script", "_law_bottom", "_law_share_here", "_law_rooms", "_law_hall_here", "_law_many", "_law_doors_here", "_law_found"] ["_law_some"] rfl rfl rfl (by decide +kernel) (by decide +kernel) rfl (by decide +kernel) (by decide +kernel) (by decide +kernel) (by decide +kernel) (by decide +kernel) (pi_list ((pv 3)).mono) (fun _ _ _ _ _=>(pg_name (i:=0) (show List.Nodup (["_law_some", "_law_script", "_law_bottom", "_law_share_here", "_law_rooms", "_law_hall_here", "_law_many", "_law_doors_here", "_law_found"] : List Str) from by decide +kernel) rfl (Or.inl rfl) (Or.inr rfl))) (fun _ _ _ _ _=>(pts_one (pt_cmpR op_gt (pe_callB call_lenL (by rfl) T.b_len PySem.boot_len (pa_cons (pv 0) pa_nil)) pe_int (nomark _)))) (fun _ _ _ _ _=>(pv 0))) pa_nil))))
   (pss_cons (ps_set (i:=7) sc_law.nd rfl (Or.inl rfl) (pe_callF G_most_mendings (hr.mono (by decide)) (by rfl) (pa_cons (pv 4) pa_nil)))
   (pss_one (ps_ret (pe_and (pe_callF G_whole (hr.mono (by decide)) (by rfl) (pa_cons (pv 7) pa_nil)) (pe_one (pe_cmpR (op_eqH hr.units0) (pv 7) (pe_op op_add pe_int (pe_op op_mulB (pv 5) (pv 6))) (nomark _))))))))))))))),?_⟩
  unfold sp_cell sp_lratio sp_size sp_doors sp_hall
  refine seq_hide fun R1 hR1=>?_
  walk_at "rd"
  refine ⟨hs,hl,?_⟩
  obtain ⟨b,eb,b0,b1⟩ : ∃ b,1 + cell ns 2 % 100 = b∧1 ≤ b∧b ≤ 100:=⟨_,rfl,by omega,by omega⟩
  rw [eb]
  subst hR1
  refine seq_hide fun R1 hR1=>?_
  walk_at "rd"
  obtain ⟨u,eu,u0,u1⟩ : ∃ u,(cell ns 3).fmod b = u∧0 ≤ u∧u < b:=⟨_,rfl,by rw [Int.fmod_eq_emod_of_nonneg _ (by omega)]; exact Int.emod_nonneg _ (by omega),by rw [Int.fmod_eq_emod_of_nonneg _ (by omega)]; exact Int.emod_lt_of_pos _ (by omega)⟩
  refine ⟨hs,hl,by omega,by omega,Bd.sm (by omega),fun p hp=>?_⟩
  rw [eu]
  have y0:=Ac.lw_pos (t:=u) (b:=b) (by omega)
  have yg:=Ac.lw_gcd (t:=u) (b:=b) (by omega)
  have x0:=Ac.lw_lo (t:=u) (b:=b) (by omega) u0
  have y1:=Ac.lw_b2 u b
  have xy:(Ac.lw u b).1 < (Ac.lw u b).2:=by
   have e:=Ac.lw_eq (t:=u) (b:=b) (by omega)
   refine Int.lt_of_not_ge fun z=>?_
   have z1:(Ac.lw u b).2 * b ≤ (Ac.lw u b).1 * b:=Int.mul_le_mul_of_nonneg_right z (by omega)
   have z2:u * (Ac.lw u b).2 < b * (Ac.lw u b).2:=Int.mul_lt_mul_of_pos_right u1 y0
   rw [Int.mul_comm b] at z2
   omega
  generalize (Ac.lw u b).1 = x at *
  generalize (Ac.lw u b).2 = y at *
  have S1:Same H (upd H p (.tup [.int x,.int y])):=Same.upd hp
  have hp1:upd H p (.tup [.int x,.int y]) p = some (.tup [.int x,.int y]):=upd_same
  generalize upd H p (.tup [.int x,.int y]) = H1 at S1 hp1 ⊢
  subst hR1
  refine seq_hide fun R1 hR1=>?_
  walk_at "rd"
  refine ⟨Same.sql S1 hs,hl,fun n H2 n12 S2=>⟨n,rfl,6,rfl,Same.sql (S1.trans S2) hs,hl,n12,by decide,fun r xs dss H3 S3 fr hr3 ld rd dm=>?_⟩⟩
  have SH3:=S1.trans (S2.trans S3)
  have hp3:=S3 _ _ (S2 _ _ hp1)
  subst hR1
  refine seq_hide fun R1 hR1=>?_
  walk_at "rd"
  refine ⟨Same.sql SH3 hs,hl,x,y,hp3,x0,xy,by omega,yg,xs,hr3,dss,n,rd,ld,n12,6,by decide,dm,fun o H4 rms S4 fo hh ok hi=>?_⟩
  have hp4:=S4 _ _ hp3
  have hr4:=S4 _ _ hr3
  have rd4:=rd.same S4
  subst hR1
  refine seq_hide fun R1 hR1=>?_
  unfold sp_wait_of
  walk_at "rd"
  refine ⟨p,⟨rms,hh⟩,x,y,hp4,x0,xy,by omega,fun m hw=>?_⟩
  subst hR1
  refine seq_hide fun R1 hR1=>?_
  unfold sp_whole sp_least
  walk_at "rd"
  have m0:=hw.lo
  have m9:=hw.hi
  rw [if_neg (by simp; omega),if_neg (by simp; omega)]
  refine ⟨x,y,m,rfl,hp4,x0,xy,by omega,hw,?_⟩
  have lx:xs.length = dss.length:=rd4.len
  have ll:(lensN dss).length = dss.length:=List.length_map ..
  have el:∀ k:Nat,∀ v,xs[k]? = some v→∃ (l:Addr) (ds:List Addr),v = .ref l∧H4 l = some (.lst (ds.map V.ref))∧(lensN dss)[k]? = some (ds.length:Int):=fun k v e=>by
   have lk:k < dss.length:=by rw [← lx]; exact (List.getElem?_eq_some_iff.mp e).1
   have e1:dss[k]? = some dss[k]:=List.getElem?_eq_getElem lk
   obtain ⟨l,a1,a2,_⟩:=rd4.at_ k _ e1
   rw [e] at a1
   cases a1
   exact ⟨l,_,rfl,a2,by unfold lensN; rw [List.getElem?_map,e1]; rfl⟩
  have z9:21 < sizeLine:=by decide
  subst hR1
  refine seq_hide fun R1 hR1=>?_
  walk_at "rd"
  refine tCompG1_list ?_
  walk_at "rd"
  refine ⟨_,hr4,by omega,fun D1 hD1=>⟨mJ D1 (lensN dss) H4,⟨Same.upd hD1,upd_same,rfl⟩,?_,?_⟩⟩
  ·rintro k v ys Hc hk ⟨T1,h1,ey⟩ hy hx
   obtain ⟨l,ds,rfl,e1,e2⟩:=el k v hk
   refine ⟨l,rfl,_,T1 _ _ e1,h1,hx,fun b v e=>(upd_ne (ne_of_none e hD1)).trans (T1 _ _ e),upd_same,?_⟩
   rw [take_next e2,List.map_append,ey,List.length_map]; rfl
  rintro ys Hc ⟨T1,h1,ey⟩ hy
  rw [lx,← ll,List.take_length] at ey
  subst ey
  refine ⟨_,h1,?_⟩
  subst hR1
  refine seq_hide fun R1 hR1=>?_
  walk_at "rd"
  refine tCompG_list ?_
  walk_at "rd"
  refine ⟨_,T1 _ _ hr4,by omega,fun D2 hD2=>⟨ndJ D2 (lensN dss) Hc,⟨Same.upd hD2,upd_same,rfl⟩,?_,?_⟩⟩
  ·rintro k v ys H5 hk ⟨T2,h2,ey⟩ hy hx pre hpre
   obtain ⟨u1,rfl⟩:=List.length_eq_one_iff.mp hpre
   obtain ⟨l,ds,rfl,e1,e2⟩:=el k v hk
   refine ⟨[some (.ref l)],rfl,rfl,_,rfl,l,_,rfl,T2 _ _ (T1 _ _ e1),_,_,rfl,rfl,_,rfl,?_⟩
   rw [List.length_map]
   have e3:((lensN dss).take (k + 1)).filter (fun z=>decide (0 < z)) = ((lensN dss).take k).filter (fun z=>decide (0 < z)) ++ if (0:Int) < ds.length then [(ds.length:Int)] else []:=by
    rw [take_next e2,List.filter_append]
    congr 1
    by_cases z:(0:Int) < ds.length
    ·rw [if_pos z,List.filter_cons,if_pos (decide_eq_true z)]; rfl
    ·rw [if_neg z,List.filter_cons,if_neg (by simpa using z)]; rfl
   by_cases z:(0:Int) < ds.length
   ·rw [show decide ((0:Int) < ds.length) = true from decide_eq_true z]
    refine ⟨_,rfl,h2,hx,fun b v e=>(upd_ne (ne_of_none e hD2)).trans (T2 _ _ e),upd_same,?_⟩
    rw [e3,if_pos z,List.length_append,List.length_append,ey]; rfl
   ·rw [show decide ((0:Int) < ds.length) = false from decide_eq_false z]
    refine ⟨hx,T2,h2,?_⟩
    rw [e3,if_neg z,List.append_nil]; exact ey
  rintro ys H5 ⟨T2,h2,ey⟩ hy
  rw [lx,← ll,List.take_length] at ey
  subst hR1
  unfold sp_most_mendings
  walk_at "rd"
  have ec:=hi.lens
  have few:=hi.few ok
  have ss:=few.sum
  have le:=lessN_less (ls:=lensN dss) fun z hz=>by
   obtain ⟨ds,_,rfl⟩:=List.mem_map.mp hz
   omega
  rw [ec] at ss
  have TT:=T1.trans T2
  refine ⟨_,h2,p,rms,hh.same TT,few,x,y,TT _ _ hp4,x0,xy,by omega,fun m2 H6 hw2 S6=>?_⟩
  have em:m2 = m:=hw2.one hw
  subst em
  rw [ec,ey,le]
  refine ⟨_,_,rfl,rfl,true,rfl,?_⟩
  rw [if_pos rfl]
  have z8000:(2000:Nat) < 2 ^ 8000:=by decide +kernel
  refine ⟨Bd.sm (by omega),Bd.sm (by omega),true,?_,hQ _⟩
  unfold eqH
  simp [scal]
end
theorem law_fn {l:PySem.W.OpenLaw} {w:World} {K:PySem.W.Frag} {mg:Str→Option Value} (T0:∃ D,Txt K mg D) (base:Heap) (f:Addr) (fd:FuncData) (F:Fun K nm_law nm_law s_law f fd) :
  FnOk l.prog w K mg base CX0 10 f fd ps_law (spLaw K):=by
 obtain ⟨D,T⟩:=T0
 have G_cell:∀ a ns,OkF l.prog w K mg base 1 nm_cell ps_cell (sp_cell K a ns):=fun a ns=>T.f_cell.ok fun _ _ F=>ok_cell F a ns
 have G_whole:OkF l.prog w K mg base 1 nm_whole ps_whole sp_whole:=T.f_whole.ok fun _ _ F=>ok_whole F T
 have G_is_whole:OkF l.prog w K mg base 1 nm_is_whole ps_is_whole sp_whole:=T.f_is_whole.ok fun _ _ F=>ok_is_whole F T
 have G_gcd:OkF l.prog w K mg base 1 nm_gcd ps_gcd sp_gcd:=T.f_gcd.ok fun _ _ F=>ok_gcd F T
 have G_divisor:OkF l.prog w K mg base 1 nm_divisor ps_divisor sp_divisor:=T.f_divisor.ok fun _ _ F=>ok_divisor F T
 have G_lratio:OkF l.prog w K mg base 2 nm_lratio ps_lratio sp_lratio:=T.f_lratio.ok fun _ _ F=>ok_lratio F G_gcd
 have G_ratio:OkF l.prog w K mg base 2 nm_ratio ps_ratio sp_ratio:=T.f_ratio.ok fun _ _ F=>ok_ratio F T G_is_whole G_divisor
 have G_under:OkF l.prog w K mg base 1 nm_under ps_under (sp_under (K:=K)):=T.f_under.ok fun _ _ F=>ok_under F
 have G_plus:OkF l.prog w K mg base 3 nm_plus ps_plus (sp_sum (K:=K) fun a b=>a + b):=T.f_plus.ok fun _ _ F=>ok_plus F G_ratio
 have G_minus:OkF l.prog w K mg base 3 nm_minus ps_minus (sp_sum (K:=K) fun a b=>a - b):=T.f_minus.ok fun _ _ F=>ok_minus F G_ratio
 have G_is_word:OkF l.prog w K mg base 1 nm_is_word ps_is_word sp_isw:=T.f_is_word.ok fun _ _ F=>ok_is_word F T
 have G_is_ratio:OkF l.prog w K mg base 2 nm_is_ratio ps_is_ratio (sp_is_ratio (K:=K)):=T.f_is_ratio.ok fun _ _ F=>ok_is_ratio F T G_is_whole G_divisor
 have G_check_headX:OkX l.prog w K mg base 3 nm_check_head ps_check_head (sp_check_head (K:=K)):=T.f_check_head.okX fun _ _ F=>ok_check_head F T G_is_word G_is_ratio
 have G_room_nameX:OkX l.prog w K mg base 2 nm_check_room_name ps_check_room_name sp_room_name:=T.f_check_room_name.okX fun _ _ F=>ok_check_room_name F T G_is_word
 have G_chanceX:OkX l.prog w K mg base 3 nm_check_chance ps_check_chance (sp_chance (K:=K)):=T.f_check_chance.okX fun _ _ F=>ok_check_chance F T G_is_ratio G_under
 have G_Door_initX:OkI l.prog w K mg base (CXO l.prog w) 4 D.Door_init ps_Door_init (sp_Door_init (K:=K) D):=T.fm_Door_init.ok fun _ F=>ok_Door_init F T G_check_headX
 have G_Sure_initX:OkI l.prog w K mg base (CXO l.prog w) 5 D.Sure_init ps_Sure_init (sp_Sure_init (K:=K) D):=T.fm_Sure_init.ok fun _ F=>ok_Sure_init F T G_Door_initX G_room_nameX
 have G_Door_ways:OkI l.prog w K mg base CX0 1 D.Door_ways ps_Door_ways (sp_Door_ways D):=T.fm_Door_ways.ok fun _ F=>ok_Door_ways F T
 have G_level:OkF l.prog w K mg base 2 nm_level ps_level sp_level:=T.f_level.ok fun _ _ F=>ok_level F G_divisor
 have G_total:OkF l.prog w K mg base 3 nm_total ps_total sp_total:=T.f_total.ok fun _ _ F=>ok_total F T G_level G_ratio
 have G_pairsX:OkX l.prog w K mg base 4 nm_check_pairs ps_check_pairs sp_check_pairs:=T.f_check_pairs.okX fun _ _ F=>ok_check_pairs F T G_room_nameX G_chanceX G_total.wild
 have G_joinedX:OkX l.prog w K mg base 4 nm_joined_ways ps_joined_ways (sp_joined K):=T.f_joined_ways.okX fun _ _ F=>ok_joined_ways F T G_plus.wild
 have G_Mixed_initX:OkI l.prog w K mg base (CXO l.prog w) 5 D.Mixed_init ps_Mixed_init (sp_Mixed_init K D):=T.fm_Mixed_init.ok fun _ F=>ok_Mixed_init F T G_Door_initX G_pairsX G_joinedX
 have G_Toss_initX:OkI l.prog w K mg base (CXO l.prog w) 6 D.Toss_init ps_Toss_init (sp_Toss_init K D):=T.fm_Toss_init.ok fun _ F=>ok_Toss_init F T G_check_headX G_chanceX G_minus.wild G_Mixed_initX
 have G_Even_initX:OkI l.prog w K mg base (CXO l.prog w) 6 D.Even_init ps_Even_init (sp_Even_init K D):=T.fm_Even_init.ok fun _ F=>ok_Even_init F T G_Mixed_initX
 have G_check_share:OkF l.prog w K mg base 3 nm_check_share ps_check_share (sp_check_share (K:=K)):=T.f_check_share.ok fun _ _ F=>ok_check_share F T G_is_ratio G_under
 have G_numbers_of:OkF l.prog w K mg base 2 nm_numbers_of ps_numbers_of sp_numbers_of:=T.f_numbers_of.ok fun _ _ F=>ok_numbers_of F T G_is_word
 have G_numbered_ways:OkF l.prog w K mg base 2 nm_numbered_ways ps_numbered_ways (sp_numbered_ways D):=T.f_numbered_ways.ok fun _ _ F=>ok_numbered_ways F T G_Door_ways
 have G_offers_of:OkF l.prog w K mg base 3 nm_offers_of ps_offers_of (sp_offers_of D):=T.f_offers_of.ok fun _ _ F=>ok_offers_of F T G_numbered_ways
 have G_Hall_init:OkI l.prog w K mg base CX0 4 D.Hall_init ps_Hall_init (sp_Hall_init K D):=T.fm_Hall_init.ok fun _ F=>ok_Hall_init F T G_check_share G_numbers_of G_offers_of
 have G_Hall_size:OkI l.prog w K mg base CX0 1 D.Hall_size ps_Hall_size (sp_Hall_size D):=T.fm_Hall_size.ok fun _ F=>ok_Hall_size F T
 have G_Hall_check_room:OkI l.prog w K mg base CX0 2 D.Hall_check_room ps_Hall_check_room (sp_check_room D):=T.fm_Hall_check_room.ok fun _ F=>ok_Hall_check_room F T G_is_whole G_Hall_size
 have G_Hall_offers:OkI l.prog w K mg base CX0 3 D.Hall_offers ps_Hall_offers (sp_Hall_offers D):=T.fm_Hall_offers.ok fun _ F=>ok_Hall_offers F T G_Hall_check_room
 have G_wait_of:OkF l.prog w K mg base 1 nm_wait_of ps_wait_of (sp_wait_of D):=T.f_wait_of.ok fun _ _ F=>ok_wait_of F T
 have G_most_mendings:OkF l.prog w K mg base 4 nm_most_mendings ps_most_mendings (sp_most_mendings D):=T.f_most_mendings.ok fun _ _ F=>ok_most_mendings F T G_wait_of G_Hall_size G_Hall_offers
 have G_stream:OkF l.prog w K mg base 1 nm_stream ps_stream sp_stream:=T.f_stream.ok fun _ _ F=>ok_stream F T
 have G_size:OkF l.prog w K mg base 2 nm_size ps_size sp_size:=T.f_size.ok fun _ _ F=>ok_size F T G_stream
 have G_least:OkF l.prog w K mg base 1 nm_least ps_least sp_least:=T.f_least.ok fun _ _ F=>ok_least F T
 have G_pay:OkF l.prog w K mg base 3 nm_pay ps_pay sp_pay:=T.f_pay.ok fun _ _ F=>ok_pay F T G_lratio
 have G_names:OkF l.prog w K mg base 2 nm_names ps_names sp_names:=T.f_names.ok fun _ _ F=>ok_names F T G_stream
 have G_built:OkF l.prog w K mg base 8 nm_built ps_built (sp_built K D):=T.f_built.ok fun _ _ F=>ok_built F T G_Sure_initX G_Mixed_initX G_Toss_initX G_Even_initX
 have G_door:OkF l.prog w K mg base 4 nm_door ps_door sp_door:=T.f_door.ok fun _ _ F=>ok_door F T G_stream G_lratio G_pay
 have G_doors:∀ a ns,OkF l.prog w K mg base 5 nm_doors ps_doors (sp_doors K a ns):=fun a ns=>T.f_doors.ok fun _ _ F=>ok_doors F T a ns (G_cell a ns) G_stream G_door
 have G_hall:OkF l.prog w K mg base 9 nm_hall ps_hall (sp_hall K D):=T.f_hall.ok fun _ _ F=>ok_hall F T G_names G_built G_Hall_init.wild
 exact ok_law F T G_cell G_lratio G_size G_doors G_hall G_wait_of G_whole G_least G_most_mendings
theorem txt_mk {K:PySem.W.Frag} {h:Heap} {mg:Str→Option Value} {a_NoNumber a_NoName a_NoChance a_NoShare a_NoRoom a_Door a_Sure a_Mixed a_Toss a_Even a_Hall a_NOUGHT a_ONE a_Door_init a_Door_ways a_Door_chance_to a_Sure_init a_Mixed_init a_Toss_init a_Even_init a_Hall_init a_Hall_size a_Hall_names a_Hall_place a_Hall_check_room a_Hall_door_at a_Hall_offers:Addr} {t_LONGEST_WORD:Tok} (X:K.In h) (G:h.Ns mainGlobals mg) (c_Door:PySem.W.nsIn K mainGlobals "Door" = some (some (.ref a_Door))) (c_Even:PySem.W.nsIn K mainGlobals "Even" = some (some (.ref a_Even))) (c_Hall:PySem.W.nsIn K mainGlobals "Hall" = some (some (.ref a_Hall))) (c_Mixed:PySem.W.nsIn K mainGlobals "Mixed" = some (some (.ref a_Mixed))) (c_NOUGHT:PySem.W.nsIn K mainGlobals "NOUGHT" = some (some (.ref a_NOUGHT))) (c_NoChance:PySem.W.nsIn K mainGlobals "NoChance" = some (some (.ref a_NoChance))) (c_NoName:PySem.W.nsIn K mainGlobals "NoName" = some (some (.ref a_NoName))) (c_NoNumber:PySem.W.nsIn K mainGlobals "NoNumber" = some (some (.ref a_NoNumber))) (c_NoRoom:PySem.W.nsIn K mainGlobals "NoRoom" = some (some (.ref a_NoRoom))) (c_NoShare:PySem.W.nsIn K mainGlobals "NoShare" = some (some (.ref a_NoShare))) (c_ONE:PySem.W.nsIn K mainGlobals "ONE" = some (some (.ref a_ONE))) (c_Sure:PySem.W.nsIn K mainGlobals "Sure" = some (some (.ref a_Sure))) (c_Toss:PySem.W.nsIn K mainGlobals "Toss" = some (some (.ref a_Toss))) (x_NoChance:PySem.W.excIn K a_NoChance [.type "ValueError",.type "Exception",.type "BaseException",.type "object"] "ValueError.__new__" = true) (x_NoName:PySem.W.excIn K a_NoName [.type "ValueError",.type "Exception",.type "BaseException",.type "object"] "ValueError.__new__" = true) (x_NoNumber:PySem.W.excIn K a_NoNumber [.type "ValueError",.type "Exception",.type "BaseException",.type "object"] "ValueError.__new__" = true) (x_NoShare:PySem.W.excIn K a_NoShare [.type "ValueError",.type "Exception",.type "BaseException",.type "object"] "ValueError.__new__" = true) (ad_Door_init:PySem.W.findCls K (.ref a_Door) (.type "type") "__init__" = some (.val (.ref a_Door_init))) (ad_Door_ways:PySem.W.findCls K (.ref a_Door) (.type "type") "ways" = some (.val (.ref a_Door_ways))) (ad_Door_chance_to:PySem.W.findCls K (.ref a_Door) (.type "type") "chance_to" = some (.val (.ref a_Door_chance_to))) (ad_Sure_init:PySem.W.findCls K (.ref a_Sure) (.type "type") "__init__" = some (.val (.ref a_Sure_init))) (ad_Mixed_init:PySem.W.findCls K (.ref a_Mixed) (.type "type") "__init__" = some (.val (.ref a_Mixed_init))) (ad_Toss_init:PySem.W.findCls K (.ref a_Toss) (.type "type") "__init__" = some (.val (.ref a_Toss_init))) (ad_Even_init:PySem.W.findCls K (.ref a_Even) (.type "type") "__init__" = some (.val (.ref a_Even_init))) (ad_Hall_init:PySem.W.findCls K (.ref a_Hall) (.type "type") "__init__" = some (.val (.ref a_Hall_init))) (ad_Hall_size:PySem.W.findCls K (.ref a_Hall) (.type "type") "size" = some (.val (.ref a_Hall_size))) (ad_Hall_names:PySem.W.findCls K (.ref a_Hall) (.type "type") "names" = some (.val (.ref a_Hall_names))) (ad_Hall_place:PySem.W.findCls K (.ref a_Hall) (.type "type") "place" = some (.val (.ref a_Hall_place))) (ad_Hall_check_room:PySem.W.findCls K (.ref a_Hall) (.type "type") "check_room" = some (.val (.ref a_Hall_check_room))) (ad_Hall_door_at:PySem.W.findCls K (.ref a_Hall) (.type "type") "door_at" = some (.val (.ref a_Hall_door_at))) (ad_Hall_offers:PySem.W.findCls K (.ref a_Hall) (.type "type") "offers" = some (.val (.ref a_Hall_offers))) (kt_NOUGHT:∃ d n sl,∃ t0 t1,K.lookup a_NOUGHT = some ⟨.type "tuple",d,.seq #[.int 0 t0,.int 1 t1] n,sl⟩) (kt_ONE:∃ d n sl,∃ t0 t1,K.lookup a_ONE = some ⟨.type "tuple",d,.seq #[.int 1 t0,.int 1 t1] n,sl⟩) (mk_Door:Mk K a_Door a_Door_init) (cls_Door:Cls K a_Door) (in_Door:InsK K a_Door) (mm_Door_chance_to:Meth K a_Door "chance_to" a_Door_chance_to) (mm_Door_ways:Meth K a_Door "ways" a_Door_ways) (no_Door_leads:NoAttr K a_Door "leads") (no_Door_name:NoAttr K a_Door "name") (no_Door_numbers:NoAttr K a_Door "numbers") (no_Door_offered:NoAttr K a_Door "offered") (no_Door_pay:NoAttr K a_Door "pay") (no_Door_share:NoAttr K a_Door "share") (mk_Sure:Mk K a_Sure a_Sure_init) (cls_Sure:Cls K a_Sure) (in_Sure:InsK K a_Sure) (mm_Sure_chance_to:Meth K a_Sure "chance_to" a_Door_chance_to) (mm_Sure_ways:Meth K a_Sure "ways" a_Door_ways) (no_Sure_leads:NoAttr K a_Sure "leads") (no_Sure_name:NoAttr K a_Sure "name") (no_Sure_numbers:NoAttr K a_Sure "numbers") (no_Sure_offered:NoAttr K a_Sure "offered") (no_Sure_pay:NoAttr K a_Sure "pay") (no_Sure_share:NoAttr K a_Sure "share") (mk_Mixed:Mk K a_Mixed a_Mixed_init) (cls_Mixed:Cls K a_Mixed) (in_Mixed:InsK K a_Mixed) (mm_Mixed_chance_to:Meth K a_Mixed "chance_to" a_Door_chance_to) (mm_Mixed_ways:Meth K a_Mixed "ways" a_Door_ways) (no_Mixed_leads:NoAttr K a_Mixed "leads") (no_Mixed_name:NoAttr K a_Mixed "name") (no_Mixed_numbers:NoAttr K a_Mixed "numbers") (no_Mixed_offered:NoAttr K a_Mixed "offered") (no_Mixed_pay:NoAttr K a_Mixed "pay") (no_Mixed_share:NoAttr K a_Mixed "share") (mk_Toss:Mk K a_Toss a_Toss_init) (cls_Toss:Cls K a_Toss) (in_Toss:InsK K a_Toss) (mm_Toss_chance_to:Meth K a_Toss "chance_to" a_Door_chance_to) (mm_Toss_ways:Meth K a_Toss "ways" a_Door_ways) (no_Toss_leads:NoAttr K a_Toss "leads") (no_Toss_name:NoAttr K a_Toss "name") (no_Toss_numbers:NoAttr K a_Toss "numbers") (no_Toss_offered:NoAttr K a_Toss "offered") (no_Toss_pay:NoAttr K a_Toss "pay") (no_Toss_share:NoAttr K a_Toss "share") (mk_Even:Mk K a_Even a_Even_init) (cls_Even:Cls K a_Even) (in_Even:InsK K a_Even) (mm_Even_chance_to:Meth K a_Even "chance_to" a_Door_chance_to) (mm_Even_ways:Meth K a_Even "ways" a_Door_ways) (no_Even_leads:NoAttr K a_Even "leads") (no_Even_name:NoAttr K a_Even "name") (no_Even_numbers:NoAttr K a_Even "numbers") (no_Even_offered:NoAttr K a_Even "offered") (no_Even_pay:NoAttr K a_Even "pay") (no_Even_share:NoAttr K a_Even "share") (mk_Hall:Mk K a_Hall a_Hall_init) (cls_Hall:Cls K a_Hall) (in_Hall:InsK K a_Hall) (mm_Hall_check_room:Meth K a_Hall "check_room" a_Hall_check_room) (mm_Hall_door_at:Meth K a_Hall "door_at" a_Hall_door_at) (mm_Hall_names:Meth K a_Hall "names" a_Hall_names) (mm_Hall_offers:Meth K a_Hall "offers" a_Hall_offers) (mm_Hall_place:Meth K a_Hall "place" a_Hall_place) (mm_Hall_size:Meth K a_Hall "size" a_Hall_size) (no_Hall_leads:NoAttr K a_Hall "leads") (no_Hall_name:NoAttr K a_Hall "name") (no_Hall_numbers:NoAttr K a_Hall "numbers") (no_Hall_offered:NoAttr K a_Hall "offered") (no_Hall_pay:NoAttr K a_Hall "pay") (no_Hall_share:NoAttr K a_Hall "share") (by_Door_init:ByCls K a_Door "__init__" a_Door_init) (fm_Door_init:HasI K nm_Door_init qn_Door_init s_Door_init ps_Door_init a_Door_init) (by_Door_ways:ByCls K a_Door "ways" a_Door_ways) (fm_Door_ways:HasI K nm_Door_ways qn_Door_ways s_Door_ways ps_Door_ways a_Door_ways) (by_Door_chance_to:ByCls K a_Door "chance_to" a_Door_chance_to) (fm_Door_chance_to:HasI K nm_Door_chance_to qn_Door_chance_to s_Door_chance_to ps_Door_chance_to a_Door_chance_to) (by_Sure_init:ByCls K a_Sure "__init__" a_Sure_init) (fm_Sure_init:HasI K nm_Sure_init qn_Sure_init s_Sure_init ps_Sure_init a_Sure_init) (by_Mixed_init:ByCls K a_Mixed "__init__" a_Mixed_init) (fm_Mixed_init:HasI K nm_Mixed_init qn_Mixed_init s_Mixed_init ps_Mixed_init a_Mixed_init) (by_Toss_init:ByCls K a_Toss "__init__" a_Toss_init) (fm_Toss_init:HasI K nm_Toss_init qn_Toss_init s_Toss_init ps_Toss_init a_Toss_init) (by_Even_init:ByCls K a_Even "__init__" a_Even_init) (fm_Even_init:HasI K nm_Even_init qn_Even_init s_Even_init ps_Even_init a_Even_init) (by_Hall_init:ByCls K a_Hall "__init__" a_Hall_init) (fm_Hall_init:HasI K nm_Hall_init qn_Hall_init s_Hall_init ps_Hall_init a_Hall_init) (by_Hall_size:ByCls K a_Hall "size" a_Hall_size) (fm_Hall_size:HasI K nm_Hall_size qn_Hall_size s_Hall_size ps_Hall_size a_Hall_size) (by_Hall_names:ByCls K a_Hall "names" a_Hall_names) (fm_Hall_names:HasI K nm_Hall_names qn_Hall_names s_Hall_names ps_Hall_names a_Hall_names) (by_Hall_place:ByCls K a_Hall "place" a_Hall_place) (fm_Hall_place:HasI K nm_Hall_place qn_Hall_place s_Hall_place ps_Hall_place a_Hall_place) (by_Hall_check_room:ByCls K a_Hall "check_room" a_Hall_check_room) (fm_Hall_check_room:HasI K nm_Hall_check_room qn_Hall_check_room s_Hall_check_room ps_Hall_check_room a_Hall_check_room) (by_Hall_door_at:ByCls K a_Hall "door_at" a_Hall_door_at) (fm_Hall_door_at:HasI K nm_Hall_door_at qn_Hall_door_at s_Hall_door_at ps_Hall_door_at a_Hall_door_at) (by_Hall_offers:ByCls K a_Hall "offers" a_Hall_offers) (fm_Hall_offers:HasI K nm_Hall_offers qn_Hall_offers s_Hall_offers ps_Hall_offers a_Hall_offers) (g_LONGEST_WORD:PySem.W.nsIn K mainGlobals "LONGEST_WORD" = some (some (.int 8 t_LONGEST_WORD))) (z0:PySem.W.nsIn K mainGlobals "abs" = some none) (z1:PySem.W.nsIn K mainGlobals "all" = some none) (z2:PySem.W.nsIn K mainGlobals "bool" = some none) (z3:PySem.W.nsIn K mainGlobals "int" = some none) (z4:PySem.W.nsIn K mainGlobals "isinstance" = some none) (z5:PySem.W.nsIn K mainGlobals "len" = some none) (z6:PySem.W.nsIn K mainGlobals "list" = some none) (z7:PySem.W.nsIn K mainGlobals "range" = some none) (z8:PySem.W.nsIn K mainGlobals "sorted" = some none) (z9:PySem.W.nsIn K mainGlobals "str" = some none) (z10:PySem.W.nsIn K mainGlobals "sum" = some none) (z11:PySem.W.nsIn K mainGlobals "tuple" = some none) (z12:PySem.W.nsIn K mainGlobals "zip" = some none) (f0:HasF K mg nm__wall s__wall ps__wall) (f1:HasF K mg nm_is_whole s_is_whole ps_is_whole) (f2:HasF K mg nm_divisor s_divisor ps_divisor) (f3:HasF K mg nm_ratio s_ratio ps_ratio) (f4:HasF K mg nm_is_ratio s_is_ratio ps_is_ratio) (f5:HasF K mg nm_plus s_plus ps_plus) (f6:HasF K mg nm_minus s_minus ps_minus) (f7:HasF K mg nm_under s_under ps_under) (f8:HasF K mg nm_level s_level ps_level) (f9:HasF K mg nm_total s_total ps_total) (f10:HasF K mg nm_wait_of s_wait_of ps_wait_of) (f11:HasF K mg nm_most_mendings s_most_mendings ps_most_mendings) (f12:HasF K mg nm_is_word s_is_word ps_is_word) (f13:HasF K mg nm_check_head s_check_head ps_check_head) (f14:HasF K mg nm_check_room_name s_check_room_name ps_check_room_name) (f15:HasF K mg nm_check_chance s_check_chance ps_check_chance) (f16:HasF K mg nm_check_pairs s_check_pairs ps_check_pairs) (f17:HasF K mg nm_joined_ways s_joined_ways ps_joined_ways) (f18:HasF K mg nm_check_share s_check_share ps_check_share) (f19:HasF K mg nm_numbers_of s_numbers_of ps_numbers_of) (f20:HasF K mg nm_numbered_ways s_numbered_ways ps_numbered_ways) (f21:HasF K mg nm_offers_of s_offers_of ps_offers_of) (f22:HasF K mg nm_cell s_cell ps_cell) (f23:HasF K mg nm_stream s_stream ps_stream) (f24:HasF K mg nm_gcd s_gcd ps_gcd) (f25:HasF K mg nm_lratio s_lratio ps_lratio) (f26:HasF K mg nm_names s_names ps_names) (f27:HasF K mg nm_pay s_pay ps_pay) (f28:HasF K mg nm_door s_door ps_door) (f29:HasF K mg nm_doors s_doors ps_doors) (f30:HasF K mg nm_built s_built ps_built) (f31:HasF K mg nm_hall s_hall ps_hall) (f32:HasF K mg nm_size s_size ps_size) (f33:HasF K mg nm_whole s_whole ps_whole) (f34:HasF K mg nm_least s_least ps_least):Txt K mg ⟨a_NoNumber,a_NoName,a_NoChance,a_NoShare,a_NoRoom,a_Door,a_Sure,a_Mixed,a_Toss,a_Even,a_Hall,a_NOUGHT,a_ONE,a_Door_init,a_Door_ways,a_Door_chance_to,a_Sure_init,a_Mixed_init,a_Toss_init,a_Even_init,a_Hall_init,a_Hall_size,a_Hall_names,a_Hall_place,a_Hall_check_room,a_Hall_door_at,a_Hall_offers⟩ :=
 ⟨PySem.W.mg_of X G c_Door,PySem.W.mg_of X G c_Even,PySem.W.mg_of X G c_Hall,PySem.W.mg_of X G c_Mixed,PySem.W.mg_of X G c_NOUGHT,PySem.W.mg_of X G c_NoChance,PySem.W.mg_of X G c_NoName,PySem.W.mg_of X G c_NoNumber,PySem.W.mg_of X G c_NoRoom,PySem.W.mg_of X G c_NoShare,PySem.W.mg_of X G c_ONE,PySem.W.mg_of X G c_Sure,PySem.W.mg_of X G c_Toss,x_NoChance,x_NoName,x_NoNumber,x_NoShare,⟨_,PySem.W.mg_of X G g_LONGEST_WORD,_,rfl⟩,fun H=>let ⟨d,n,sl,t0,t1,l⟩:=kt_NOUGHT; .inr ⟨_,_,_,l,rfl,rfl,(by show 2 ≤ sizeLine; decide),.cons ⟨_,rfl⟩ (.cons ⟨_,rfl⟩ (.nil))⟩,fun H=>let ⟨d,n,sl,t0,t1,l⟩:=kt_ONE; .inr ⟨_,_,_,l,rfl,rfl,(by show 2 ≤ sizeLine; decide),.cons ⟨_,rfl⟩ (.cons ⟨_,rfl⟩ (.nil))⟩,mk_Door,cls_Door,in_Door,mm_Door_chance_to,mm_Door_ways,no_Door_leads,no_Door_name,no_Door_numbers,no_Door_offered,no_Door_pay,no_Door_share,mk_Sure,cls_Sure,in_Sure,mm_Sure_chance_to,mm_Sure_ways,no_Sure_leads,no_Sure_name,no_Sure_numbers,no_Sure_offered,no_Sure_pay,no_Sure_share,mk_Mixed,cls_Mixed,in_Mixed,mm_Mixed_chance_to,mm_Mixed_ways,no_Mixed_leads,no_Mixed_name,no_Mixed_numbers,no_Mixed_offered,no_Mixed_pay,no_Mixed_share,mk_Toss,cls_Toss,in_Toss,mm_Toss_chance_to,mm_Toss_ways,no_Toss_leads,no_Toss_name,no_Toss_numbers,no_Toss_offered,no_Toss_pay,no_Toss_share,mk_Even,cls_Even,in_Even,mm_Even_chance_to,mm_Even_ways,no_Even_leads,no_Even_name,no_Even_numbers,no_Even_offered,no_Even_pay,no_Even_share,mk_Hall,cls_Hall,in_Hall,mm_Hall_check_room,mm_Hall_door_at,mm_Hall_names,mm_Hall_offers,mm_Hall_place,mm_Hall_size,no_Hall_leads,no_Hall_name,no_Hall_numbers,no_Hall_offered,no_Hall_pay,no_Hall_share,by_Door_init,fm_Door_init,by_Door_ways,fm_Door_ways,by_Door_chance_to,fm_Door_chance_to,by_Sure_init,fm_Sure_init,by_Mixed_init,fm_Mixed_init,by_Toss_init,fm_Toss_init,by_Even_init,fm_Even_init,by_Hall_init,fm_Hall_init,by_Hall_size,fm_Hall_size,by_Hall_names,fm_Hall_names,by_Hall_place,fm_Hall_place,by_Hall_check_room,fm_Hall_check_room,by_Hall_door_at,fm_Hall_door_at,by_Hall_offers,fm_Hall_offers,PySem.W.mg_none_of X G z0,PySem.W.mg_none_of X G z1,PySem.W.mg_none_of X G z2,PySem.W.mg_none_of X G z3,PySem.W.mg_none_of X G z4,PySem.W.mg_none_of X G z5,PySem.W.mg_none_of X G z6,PySem.W.mg_none_of X G z7,PySem.W.mg_none_of X G z8,PySem.W.mg_none_of X G z9,PySem.W.mg_none_of X G z10,PySem.W.mg_none_of X G z11,PySem.W.mg_none_of X G z12,f0,f1,f2,f3,f4,f5,f6,f7,f8,f9,f10,f11,f12,f13,f14,f15,f16,f17,f18,f19,f20,f21,f22,f23,f24,f25,f26,f27,f28,f29,f30,f31,f32,f33,f34⟩
end K30
open PySem PySem.W PyProof.Rows
set_option maxRecDepth 100000 in
set_option maxHeartbeats 0 in
theorem PySem.Challenge.cw_chancehall_k30_most_mendings_holds : PySem.Challenge.rw_chancehall_k30_most_mendings.Holds := by
 w_on
 refine holds_law (by kernel_rfl) fun said=>?_
 refine holds_open (q:=H30.qv) (loose:=[]) (XP:=XL H30.qv []) (YP:=InK H30.KH) H30.left (InK.of H30.asK) InK.keeps H30.hX XL.keeps (by rfl) (by rfl) (by rfl) H30.hR (by rfl) said (by decide +kernel) ⟨rfl,rfl,rfl,rfl,rfl,by decide +kernel⟩ ?hw ?hc
 (case hw=>w_witness2)
 k_fill
 refine L2.walkF (l:=PySem.Challenge.rw_chancehall_k30_most_mendings) (k:=10) (x := "_law_script") rfl rfl ⟨rfl,by decide,by decide⟩ (fun w h Y=>(show (H30.KH w.params).In h from Y)) ?F
 case F =>
  intro w mg fa h KX G hmg
  refine ⟨K30.s_law,?_,fun base f fd F=>K30.law_fn ?T base f fd F⟩
  ·(refine' L2.hasF_mk KX G ?a ?l ?c ?k (fun _ _ _ _ _ _ us hl=>match us,hl with | [_],_=>rfl); (case a=>k_is); (case l=>k_is); (case c=>k_is); (case k=>k_is))
  case T =>
   refine' ⟨_,K30.txt_mk KX G ?c_Door ?c_Even ?c_Hall ?c_Mixed ?c_NOUGHT ?c_NoChance ?c_NoName ?c_NoNumber ?c_NoRoom ?c_NoShare ?c_ONE ?c_Sure ?c_Toss ?x_NoChance ?x_NoName ?x_NoNumber ?x_NoShare ?ad_Door_init ?ad_Door_ways ?ad_Door_chance_to ?ad_Sure_init ?ad_Mixed_init ?ad_Toss_init ?ad_Even_init ?ad_Hall_init ?ad_Hall_size ?ad_Hall_names ?ad_Hall_place ?ad_Hall_check_room ?ad_Hall_door_at ?ad_Hall_offers ?kt_NOUGHT ?kt_ONE ?mk_Door ?cls_Door ?in_Door ?mm_Door_chance_to ?mm_Door_ways ?no_Door_leads ?no_Door_name ?no_Door_numbers ?no_Door_offered ?no_Door_pay ?no_Door_share ?mk_Sure ?cls_Sure ?in_Sure ?mm_Sure_chance_to ?mm_Sure_ways ?no_Sure_leads ?no_Sure_name ?no_Sure_numbers ?no_Sure_offered ?no_Sure_pay ?no_Sure_share ?mk_Mixed ?cls_Mixed ?in_Mixed ?mm_Mixed_chance_to ?mm_Mixed_ways ?no_Mixed_leads ?no_Mixed_name ?no_Mixed_numbers ?no_Mixed_offered ?no_Mixed_pay ?no_Mixed_share ?mk_Toss ?cls_Toss ?in_Toss ?mm_Toss_chance_to ?mm_Toss_ways ?no_Toss_leads ?no_Toss_name ?no_Toss_numbers ?no_Toss_offered ?no_Toss_pay ?no_Toss_share ?mk_Even ?cls_Even ?in_Even ?mm_Even_chance_to ?mm_Even_ways ?no_Even_leads ?no_Even_name ?no_Even_numbers ?no_Even_offered ?no_Even_pay ?no_Even_share ?mk_Hall ?cls_Hall ?in_Hall ?mm_Hall_check_room ?mm_Hall_door_at ?mm_Hall_names ?mm_Hall_offers ?mm_Hall_place ?mm_Hall_size ?no_Hall_leads ?no_Hall_name ?no_Hall_numbers ?no_Hall_offered ?no_Hall_pay ?no_Hall_share ?by_Door_init ?fm_Door_init ?by_Door_ways ?fm_Door_ways ?by_Door_chance_to ?fm_Door_chance_to ?by_Sure_init ?fm_Sure_init ?by_Mixed_init ?fm_Mixed_init ?by_Toss_init ?fm_Toss_init ?by_Even_init ?fm_Even_init ?by_Hall_init ?fm_Hall_init ?by_Hall_size ?fm_Hall_size ?by_Hall_names ?fm_Hall_names ?by_Hall_place ?fm_Hall_place ?by_Hall_check_room ?fm_Hall_check_room ?by_Hall_door_at ?fm_Hall_door_at ?by_Hall_offers ?fm_Hall_offers ?g_LONGEST_WORD ?z0 ?z1 ?z2 ?z3 ?z4 ?z5 ?z6 ?z7 ?z8 ?z9 ?z10 ?z11 ?z12 ?f0 ?f1 ?f2 ?f3 ?f4 ?f5 ?f6 ?f7 ?f8 ?f9 ?f10 ?f11 ?f12 ?f13 ?f14 ?f15 ?f16 ?f17 ?f18 ?f19 ?f20 ?f21 ?f22 ?f23 ?f24 ?f25 ?f26 ?f27 ?f28 ?f29 ?f30 ?f31 ?f32 ?f33 ?f34⟩
   case c_Door=>k_is
   case c_Even=>k_is
   case c_Hall=>k_is
   case c_Mixed=>k_is
   case c_NOUGHT=>k_is
   case c_NoChance=>k_is
   case c_NoName=>k_is
   case c_NoNumber=>k_is
   case c_NoRoom=>k_is
   case c_NoShare=>k_is
   case c_ONE=>k_is
   case c_Sure=>k_is
   case c_Toss=>k_is
   case x_NoChance=>k_exc
   case x_NoName=>k_exc
   case x_NoNumber=>k_exc
   case x_NoShare=>k_exc
   case ad_Door_init=>k_is
   case ad_Door_ways=>k_is
   case ad_Door_chance_to=>k_is
   case ad_Sure_init=>k_is
   case ad_Mixed_init=>k_is
   case ad_Toss_init=>k_is
   case ad_Even_init=>k_is
   case ad_Hall_init=>k_is
   case ad_Hall_size=>k_is
   case ad_Hall_names=>k_is
   case ad_Hall_place=>k_is
   case ad_Hall_check_room=>k_is
   case ad_Hall_door_at=>k_is
   case ad_Hall_offers=>k_is
   case kt_NOUGHT=>exact ⟨_,_,_,_,_,(by k_is)⟩
   case kt_ONE=>exact ⟨_,_,_,_,_,(by k_is)⟩
   case mk_Door=>(refine ⟨?m1,?m2,?m3,?m4⟩; (case m2=>k_is); (case m1=>k_is); (case m3=>k_is); (case m4=>k_is))
   case cls_Door=>(refine' ⟨?_,?_,?_,?_⟩ <;> k_is)
   case in_Door=>(refine' ⟨?_,?_,?_,?_⟩ <;> k_is)
   case mm_Door_chance_to=>(refine ⟨?m1,?m2,?m3⟩; (case m1=>k_is); (case m2=>k_is); (case m3=>k_is))
   case mm_Door_ways=>(refine ⟨?m1,?m2,?m3⟩; (case m1=>k_is); (case m2=>k_is); (case m3=>k_is))
   case no_Door_leads=>(unfold L2.NoAttr; k_is)
   case no_Door_name=>(unfold L2.NoAttr; k_is)
   case no_Door_numbers=>(unfold L2.NoAttr; k_is)
   case no_Door_offered=>(unfold L2.NoAttr; k_is)
   case no_Door_pay=>(unfold L2.NoAttr; k_is)
   case no_Door_share=>(unfold L2.NoAttr; k_is)
   case mk_Sure=>(refine ⟨?m1,?m2,?m3,?m4⟩; (case m2=>k_is); (case m1=>k_is); (case m3=>k_is); (case m4=>k_is))
   case cls_Sure=>(refine' ⟨?_,?_,?_,?_⟩ <;> k_is)
   case in_Sure=>(refine' ⟨?_,?_,?_,?_⟩ <;> k_is)
   case mm_Sure_chance_to=>(refine ⟨?m1,?m2,?m3⟩; (case m1=>k_is); (case m2=>k_is); (case m3=>k_is))
   case mm_Sure_ways=>(refine ⟨?m1,?m2,?m3⟩; (case m1=>k_is); (case m2=>k_is); (case m3=>k_is))
   case no_Sure_leads=>(unfold L2.NoAttr; k_is)
   case no_Sure_name=>(unfold L2.NoAttr; k_is)
   case no_Sure_numbers=>(unfold L2.NoAttr; k_is)
   case no_Sure_offered=>(unfold L2.NoAttr; k_is)
   case no_Sure_pay=>(unfold L2.NoAttr; k_is)
   case no_Sure_share=>(unfold L2.NoAttr; k_is)
   case mk_Mixed=>(refine ⟨?m1,?m2,?m3,?m4⟩; (case m2=>k_is); (case m1=>k_is); (case m3=>k_is); (case m4=>k_is))
   case cls_Mixed=>(refine' ⟨?_,?_,?_,?_⟩ <;> k_is)
   case in_Mixed=>(refine' ⟨?_,?_,?_,?_⟩ <;> k_is)
   case mm_Mixed_chance_to=>(refine ⟨?m1,?m2,?m3⟩; (case m1=>k_is); (case m2=>k_is); (case m3=>k_is))
   case mm_Mixed_ways=>(refine ⟨?m1,?m2,?m3⟩; (case m1=>k_is); (case m2=>k_is); (case m3=>k_is))
   case no_Mixed_leads=>(unfold L2.NoAttr; k_is)
   case no_Mixed_name=>(unfold L2.NoAttr; k_is)
   case no_Mixed_numbers=>(unfold L2.NoAttr; k_is)
   case no_Mixed_offered=>(unfold L2.NoAttr; k_is)
   case no_Mixed_pay=>(unfold L2.NoAttr; k_is)
   case no_Mixed_share=>(unfold L2.NoAttr; k_is)
   case mk_Toss=>(refine ⟨?m1,?m2,?m3,?m4⟩; (case m2=>k_is); (case m1=>k_is); (case m3=>k_is); (case m4=>k_is))
   case cls_Toss=>(refine' ⟨?_,?_,?_,?_⟩ <;> k_is)
   case in_Toss=>(refine' ⟨?_,?_,?_,?_⟩ <;> k_is)
   case mm_Toss_chance_to=>(refine ⟨?m1,?m2,?m3⟩; (case m1=>k_is); (case m2=>k_is); (case m3=>k_is))
   case mm_Toss_ways=>(refine ⟨?m1,?m2,?m3⟩; (case m1=>k_is); (case m2=>k_is); (case m3=>k_is))
   case no_Toss_leads=>(unfold L2.NoAttr; k_is)
   case no_Toss_name=>(unfold L2.NoAttr; k_is)
   case no_Toss_numbers=>(unfold L2.NoAttr; k_is)
   case no_Toss_offered=>(unfold L2.NoAttr; k_is)
   case no_Toss_pay=>(unfold L2.NoAttr; k_is)
   case no_Toss_share=>(unfold L2.NoAttr; k_is)
   case mk_Even=>(refine ⟨?m1,?m2,?m3,?m4⟩; (case m2=>k_is); (case m1=>k_is); (case m3=>k_is); (case m4=>k_is))
   case cls_Even=>(refine' ⟨?_,?_,?_,?_⟩ <;> k_is)
   case in_Even=>(refine' ⟨?_,?_,?_,?_⟩ <;> k_is)
   case mm_Even_chance_to=>(refine ⟨?m1,?m2,?m3⟩; (case m1=>k_is); (case m2=>k_is); (case m3=>k_is))
   case mm_Even_ways=>(refine ⟨?m1,?m2,?m3⟩; (case m1=>k_is); (case m2=>k_is); (case m3=>k_is))
   case no_Even_leads=>(unfold L2.NoAttr; k_is)
   case no_Even_name=>(unfold L2.NoAttr; k_is)
   case no_Even_numbers=>(unfold L2.NoAttr; k_is)
   case no_Even_offered=>(unfold L2.NoAttr; k_is)
   case no_Even_pay=>(unfold L2.NoAttr; k_is)
   case no_Even_share=>(unfold L2.NoAttr; k_is)
   case mk_Hall=>(refine ⟨?m1,?m2,?m3,?m4⟩; (case m2=>k_is); (case m1=>k_is); (case m3=>k_is); (case m4=>k_is))
   case cls_Hall=>(refine' ⟨?_,?_,?_,?_⟩ <;> k_is)
   case in_Hall=>(refine' ⟨?_,?_,?_,?_⟩ <;> k_is)
   case mm_Hall_check_room=>(refine ⟨?m1,?m2,?m3⟩; (case m1=>k_is); (case m2=>k_is); (case m3=>k_is))
   case mm_Hall_door_at=>(refine ⟨?m1,?m2,?m3⟩; (case m1=>k_is); (case m2=>k_is); (case m3=>k_is))
   case mm_Hall_names=>(refine ⟨?m1,?m2,?m3⟩; (case m1=>k_is); (case m2=>k_is); (case m3=>k_is))
   case mm_Hall_offers=>(refine ⟨?m1,?m2,?m3⟩; (case m1=>k_is); (case m2=>k_is); (case m3=>k_is))
   case mm_Hall_place=>(refine ⟨?m1,?m2,?m3⟩; (case m1=>k_is); (case m2=>k_is); (case m3=>k_is))
   case mm_Hall_size=>(refine ⟨?m1,?m2,?m3⟩; (case m1=>k_is); (case m2=>k_is); (case m3=>k_is))
   case no_Hall_leads=>(unfold L2.NoAttr; k_is)
   case no_Hall_name=>(unfold L2.NoAttr; k_is)
   case no_Hall_numbers=>(unfold L2.NoAttr; k_is)
   case no_Hall_offered=>(unfold L2.NoAttr; k_is)
   case no_Hall_pay=>(unfold L2.NoAttr; k_is)
   case no_Hall_share=>(unfold L2.NoAttr; k_is)
   case by_Door_init=>(refine ⟨?m1,?m2,?m3,?m4,?m5⟩; (case m3=>k_is); (case m1=>k_is); (case m2=>k_is); (case m4=>rfl); (case m5=>k_is))
   case fm_Door_init=>(refine' L2.hasI_mk ?l ?c ?k (fun _ _ _ _ _ _ us hl=>match us,hl with | [_,_,_],_=>rfl); (case l=>k_is); (case c=>k_is); (case k=>k_is))
   case by_Door_ways=>(refine ⟨?m1,?m2,?m3,?m4,?m5⟩; (case m3=>k_is); (case m1=>k_is); (case m2=>k_is); (case m4=>rfl); (case m5=>k_is))
   case fm_Door_ways=>(refine' L2.hasI_mk ?l ?c ?k (fun _ _ _ _ _ _ us hl=>match us,hl with | [_],_=>rfl); (case l=>k_is); (case c=>k_is); (case k=>k_is))
   case by_Door_chance_to=>(refine ⟨?m1,?m2,?m3,?m4,?m5⟩; (case m3=>k_is); (case m1=>k_is); (case m2=>k_is); (case m4=>rfl); (case m5=>k_is))
   case fm_Door_chance_to=>(refine' L2.hasI_mk ?l ?c ?k (fun _ _ _ _ _ _ us hl=>match us,hl with | [_,_],_=>rfl); (case l=>k_is); (case c=>k_is); (case k=>k_is))
   case by_Sure_init=>(refine ⟨?m1,?m2,?m3,?m4,?m5⟩; (case m3=>k_is); (case m1=>k_is); (case m2=>k_is); (case m4=>rfl); (case m5=>k_is))
   case fm_Sure_init=>(refine' L2.hasI_mk ?l ?c ?k (fun _ _ _ _ _ _ us hl=>match us,hl with | [_,_,_,_],_=>rfl); (case l=>k_is); (case c=>k_is); (case k=>k_is))
   case by_Mixed_init=>(refine ⟨?m1,?m2,?m3,?m4,?m5⟩; (case m3=>k_is); (case m1=>k_is); (case m2=>k_is); (case m4=>rfl); (case m5=>k_is))
   case fm_Mixed_init=>(refine' L2.hasI_mk ?l ?c ?k (fun _ _ _ _ _ _ us hl=>match us,hl with | [_,_,_,_],_=>rfl); (case l=>k_is); (case c=>k_is); (case k=>k_is))
   case by_Toss_init=>(refine ⟨?m1,?m2,?m3,?m4,?m5⟩; (case m3=>k_is); (case m1=>k_is); (case m2=>k_is); (case m4=>rfl); (case m5=>k_is))
   case fm_Toss_init=>(refine' L2.hasI_mk ?l ?c ?k (fun _ _ _ _ _ _ us hl=>match us,hl with | [_,_,_,_,_,_],_=>rfl); (case l=>k_is); (case c=>k_is); (case k=>k_is))
   case by_Even_init=>(refine ⟨?m1,?m2,?m3,?m4,?m5⟩; (case m3=>k_is); (case m1=>k_is); (case m2=>k_is); (case m4=>rfl); (case m5=>k_is))
   case fm_Even_init=>(refine' L2.hasI_mk ?l ?c ?k (fun _ _ _ _ _ _ us hl=>match us,hl with | [_,_,_,_],_=>rfl); (case l=>k_is); (case c=>k_is); (case k=>k_is))
   case by_Hall_init=>(refine ⟨?m1,?m2,?m3,?m4,?m5⟩; (case m3=>k_is); (case m1=>k_is); (case m2=>k_is); (case m4=>rfl); (case m5=>k_is))
   case fm_Hall_init=>(refine' L2.hasI_mk ?l ?c ?k (fun _ _ _ _ _ _ us hl=>match us,hl with | [_,_,_],_=>rfl); (case l=>k_is); (case c=>k_is); (case k=>k_is))
   case by_Hall_size=>(refine ⟨?m1,?m2,?m3,?m4,?m5⟩; (case m3=>k_is); (case m1=>k_is); (case m2=>k_is); (case m4=>rfl); (case m5=>k_is))
   case fm_Hall_size=>(refine' L2.hasI_mk ?l ?c ?k (fun _ _ _ _ _ _ us hl=>match us,hl with | [_],_=>rfl); (case l=>k_is); (case c=>k_is); (case k=>k_is))
   case by_Hall_names=>(refine ⟨?m1,?m2,?m3,?m4,?m5⟩; (case m3=>k_is); (case m1=>k_is); (case m2=>k_is); (case m4=>rfl); (case m5=>k_is))
   case fm_Hall_names=>(refine' L2.hasI_mk ?l ?c ?k (fun _ _ _ _ _ _ us hl=>match us,hl with | [_],_=>rfl); (case l=>k_is); (case c=>k_is); (case k=>k_is))
   case by_Hall_place=>(refine ⟨?m1,?m2,?m3,?m4,?m5⟩; (case m3=>k_is); (case m1=>k_is); (case m2=>k_is); (case m4=>rfl); (case m5=>k_is))
   case fm_Hall_place=>(refine' L2.hasI_mk ?l ?c ?k (fun _ _ _ _ _ _ us hl=>match us,hl with | [_,_],_=>rfl); (case l=>k_is); (case c=>k_is); (case k=>k_is))
   case by_Hall_check_room=>(refine ⟨?m1,?m2,?m3,?m4,?m5⟩; (case m3=>k_is); (case m1=>k_is); (case m2=>k_is); (case m4=>rfl); (case m5=>k_is))
   case fm_Hall_check_room=>(refine' L2.hasI_mk ?l ?c ?k (fun _ _ _ _ _ _ us hl=>match us,hl with | [_,_],_=>rfl); (case l=>k_is); (case c=>k_is); (case k=>k_is))
   case by_Hall_door_at=>(refine ⟨?m1,?m2,?m3,?m4,?m5⟩; (case m3=>k_is); (case m1=>k_is); (case m2=>k_is); (case m4=>rfl); (case m5=>k_is))
   case fm_Hall_door_at=>(refine' L2.hasI_mk ?l ?c ?k (fun _ _ _ _ _ _ us hl=>match us,hl with | [_,_,_],_=>rfl); (case l=>k_is); (case c=>k_is); (case k=>k_is))
   case by_Hall_offers=>(refine ⟨?m1,?m2,?m3,?m4,?m5⟩; (case m3=>k_is); (case m1=>k_is); (case m2=>k_is); (case m4=>rfl); (case m5=>k_is))
   case fm_Hall_offers=>(refine' L2.hasI_mk ?l ?c ?k (fun _ _ _ _ _ _ us hl=>match us,hl with | [_,_],_=>rfl); (case l=>k_is); (case c=>k_is); (case k=>k_is))
   case g_LONGEST_WORD=>k_is
   case z0=>k_is
   case z1=>k_is
   case z2=>k_is
   case z3=>k_is
   case z4=>k_is
   case z5=>k_is
   case z6=>k_is
   case z7=>k_is
   case z8=>k_is
   case z9=>k_is
   case z10=>k_is
   case z11=>k_is
   case z12=>k_is
   case f0=>(refine' L2.hasF_mk KX G ?a ?l ?c ?k (fun _ _ _ _ _ _ us hl=>match us,hl with | [_],_=>rfl); (case a=>k_is); (case l=>k_is); (case c=>k_is); (case k=>k_is))
   case f1=>(refine' L2.hasF_mk KX G ?a ?l ?c ?k (fun _ _ _ _ _ _ us hl=>match us,hl with | [_],_=>rfl); (case a=>k_is); (case l=>k_is); (case c=>k_is); (case k=>k_is))
   case f2=>(refine' L2.hasF_mk KX G ?a ?l ?c ?k (fun _ _ _ _ _ _ us hl=>match us,hl with | [_,_],_=>rfl); (case a=>k_is); (case l=>k_is); (case c=>k_is); (case k=>k_is))
   case f3=>(refine' L2.hasF_mk KX G ?a ?l ?c ?k (fun _ _ _ _ _ _ us hl=>match us,hl with | [_,_],_=>rfl); (case a=>k_is); (case l=>k_is); (case c=>k_is); (case k=>k_is))
   case f4=>(refine' L2.hasF_mk KX G ?a ?l ?c ?k (fun _ _ _ _ _ _ us hl=>match us,hl with | [_],_=>rfl); (case a=>k_is); (case l=>k_is); (case c=>k_is); (case k=>k_is))
   case f5=>(refine' L2.hasF_mk KX G ?a ?l ?c ?k (fun _ _ _ _ _ _ us hl=>match us,hl with | [_,_],_=>rfl); (case a=>k_is); (case l=>k_is); (case c=>k_is); (case k=>k_is))
   case f6=>(refine' L2.hasF_mk KX G ?a ?l ?c ?k (fun _ _ _ _ _ _ us hl=>match us,hl with | [_,_],_=>rfl); (case a=>k_is); (case l=>k_is); (case c=>k_is); (case k=>k_is))
   case f7=>(refine' L2.hasF_mk KX G ?a ?l ?c ?k (fun _ _ _ _ _ _ us hl=>match us,hl with | [_,_],_=>rfl); (case a=>k_is); (case l=>k_is); (case c=>k_is); (case k=>k_is))
   case f8=>(refine' L2.hasF_mk KX G ?a ?l ?c ?k (fun _ _ _ _ _ _ us hl=>match us,hl with | [_],_=>rfl); (case a=>k_is); (case l=>k_is); (case c=>k_is); (case k=>k_is))
   case f9=>(refine' L2.hasF_mk KX G ?a ?l ?c ?k (fun _ _ _ _ _ _ us hl=>match us,hl with | [_],_=>rfl); (case a=>k_is); (case l=>k_is); (case c=>k_is); (case k=>k_is))
   case f10=>(refine' L2.hasF_mk KX G ?a ?l ?c ?k (fun _ _ _ _ _ _ us hl=>match us,hl with | [_],_=>rfl); (case a=>k_is); (case l=>k_is); (case c=>k_is); (case k=>k_is))
   case f11=>(refine' L2.hasF_mk KX G ?a ?l ?c ?k (fun _ _ _ _ _ _ us hl=>match us,hl with | [_],_=>rfl); (case a=>k_is); (case l=>k_is); (case c=>k_is); (case k=>k_is))
   case f12=>(refine' L2.hasF_mk KX G ?a ?l ?c ?k (fun _ _ _ _ _ _ us hl=>match us,hl with | [_],_=>rfl); (case a=>k_is); (case l=>k_is); (case c=>k_is); (case k=>k_is))
   case f13=>(refine' L2.hasF_mk KX G ?a ?l ?c ?k (fun _ _ _ _ _ _ us hl=>match us,hl with | [_,_],_=>rfl); (case a=>k_is); (case l=>k_is); (case c=>k_is); (case k=>k_is))
   case f14=>(refine' L2.hasF_mk KX G ?a ?l ?c ?k (fun _ _ _ _ _ _ us hl=>match us,hl with | [_],_=>rfl); (case a=>k_is); (case l=>k_is); (case c=>k_is); (case k=>k_is))
   case f15=>(refine' L2.hasF_mk KX G ?a ?l ?c ?k (fun _ _ _ _ _ _ us hl=>match us,hl with | [_],_=>rfl); (case a=>k_is); (case l=>k_is); (case c=>k_is); (case k=>k_is))
   case f16=>(refine' L2.hasF_mk KX G ?a ?l ?c ?k (fun _ _ _ _ _ _ us hl=>match us,hl with | [_],_=>rfl); (case a=>k_is); (case l=>k_is); (case c=>k_is); (case k=>k_is))
   case f17=>(refine' L2.hasF_mk KX G ?a ?l ?c ?k (fun _ _ _ _ _ _ us hl=>match us,hl with | [_],_=>rfl); (case a=>k_is); (case l=>k_is); (case c=>k_is); (case k=>k_is))
   case f18=>(refine' L2.hasF_mk KX G ?a ?l ?c ?k (fun _ _ _ _ _ _ us hl=>match us,hl with | [_],_=>rfl); (case a=>k_is); (case l=>k_is); (case c=>k_is); (case k=>k_is))
   case f19=>(refine' L2.hasF_mk KX G ?a ?l ?c ?k (fun _ _ _ _ _ _ us hl=>match us,hl with | [_],_=>rfl); (case a=>k_is); (case l=>k_is); (case c=>k_is); (case k=>k_is))
   case f20=>(refine' L2.hasF_mk KX G ?a ?l ?c ?k (fun _ _ _ _ _ _ us hl=>match us,hl with | [_,_],_=>rfl); (case a=>k_is); (case l=>k_is); (case c=>k_is); (case k=>k_is))
   case f21=>(refine' L2.hasF_mk KX G ?a ?l ?c ?k (fun _ _ _ _ _ _ us hl=>match us,hl with | [_,_],_=>rfl); (case a=>k_is); (case l=>k_is); (case c=>k_is); (case k=>k_is))
   case f22=>(refine' L2.hasF_mk KX G ?a ?l ?c ?k (fun _ _ _ _ _ _ us hl=>match us,hl with | [_,_],_=>rfl); (case a=>k_is); (case l=>k_is); (case c=>k_is); (case k=>k_is))
   case f23=>(refine' L2.hasF_mk KX G ?a ?l ?c ?k (fun _ _ _ _ _ _ us hl=>match us,hl with | [_,_],_=>rfl); (case a=>k_is); (case l=>k_is); (case c=>k_is); (case k=>k_is))
   case f24=>(refine' L2.hasF_mk KX G ?a ?l ?c ?k (fun _ _ _ _ _ _ us hl=>match us,hl with | [_,_],_=>rfl); (case a=>k_is); (case l=>k_is); (case c=>k_is); (case k=>k_is))
   case f25=>(refine' L2.hasF_mk KX G ?a ?l ?c ?k (fun _ _ _ _ _ _ us hl=>match us,hl with | [_,_],_=>rfl); (case a=>k_is); (case l=>k_is); (case c=>k_is); (case k=>k_is))
   case f26=>(refine' L2.hasF_mk KX G ?a ?l ?c ?k (fun _ _ _ _ _ _ us hl=>match us,hl with | [_,_],_=>rfl); (case a=>k_is); (case l=>k_is); (case c=>k_is); (case k=>k_is))
   case f27=>(refine' L2.hasF_mk KX G ?a ?l ?c ?k (fun _ _ _ _ _ _ us hl=>match us,hl with | [_,_,_],_=>rfl); (case a=>k_is); (case l=>k_is); (case c=>k_is); (case k=>k_is))
   case f28=>(refine' L2.hasF_mk KX G ?a ?l ?c ?k (fun _ _ _ _ _ _ us hl=>match us,hl with | [_,_],_=>rfl); (case a=>k_is); (case l=>k_is); (case c=>k_is); (case k=>k_is))
   case f29=>(refine' L2.hasF_mk KX G ?a ?l ?c ?k (fun _ _ _ _ _ _ us hl=>match us,hl with | [_,_,_,_],_=>rfl); (case a=>k_is); (case l=>k_is); (case c=>k_is); (case k=>k_is))
   case f30=>(refine' L2.hasF_mk KX G ?a ?l ?c ?k (fun _ _ _ _ _ _ us hl=>match us,hl with | [_,_,_],_=>rfl); (case a=>k_is); (case l=>k_is); (case c=>k_is); (case k=>k_is))
   case f31=>(refine' L2.hasF_mk KX G ?a ?l ?c ?k (fun _ _ _ _ _ _ us hl=>match us,hl with | [_,_,_],_=>rfl); (case a=>k_is); (case l=>k_is); (case c=>k_is); (case k=>k_is))
   case f32=>(refine' L2.hasF_mk KX G ?a ?l ?c ?k (fun _ _ _ _ _ _ us hl=>match us,hl with | [_],_=>rfl); (case a=>k_is); (case l=>k_is); (case c=>k_is); (case k=>k_is))
   case f33=>(refine' L2.hasF_mk KX G ?a ?l ?c ?k (fun _ _ _ _ _ _ us hl=>match us,hl with | [_],_=>rfl); (case a=>k_is); (case l=>k_is); (case c=>k_is); (case k=>k_is))
   case f34=>(refine' L2.hasF_mk KX G ?a ?l ?c ?k (fun _ _ _ _ _ _ us hl=>match us,hl with | [_,_],_=>rfl); (case a=>k_is); (case l=>k_is); (case c=>k_is); (case k=>k_is))
#print axioms PySem.Challenge.cw_chancehall_k30_most_mendings_holds
