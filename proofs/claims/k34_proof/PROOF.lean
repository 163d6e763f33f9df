import PyProof.Rows.All
import Wide.All
import OpenK.AllK
import Wide.FinOn
import Lean
import PyProof.EqAt
import PyProof.EqKinds
import PyProof.TupleCall
import PyProof.EqLayable
import KE.KIntText
import PyProof.EnumMake
import PyProof.EnumStmt
import PyProof.EnumFor
import PyProof.Rows.EnumRows
import PyProof.ExcInit
import PyProof.ExcClass2
import PyProof.InstStoreFacts
import PySem.Challenge.RW_chancehall_k34_sure_rooms
def aj := @List.getElem?_eq_getElem
def ak := @List.length_map
def ao := @List.getElem?_eq_some_iff
def aq := @List.getElem?_map
def au := @List.getD_eq_getElem?_getD
def aA := @List.length_append
def aB := @List.mem_of_getElem?
def aC := @List.getElem?_append_right
def aD := @List.getElem?_append_left
def aF := @Nat.le_refl
def aG := @PySem.Heap.get?_push_of_some
def aH := @List.mem_cons_of_mem
def aJ := @PySem.Heap.lt_size
def aK := @List.take_of_length_le
def aL := @Nat.le_trans
def aM := @List.getElem?_eq_none
def aN := @List.length_replicate
def aO := @List.mem_cons_self
def aP := @List.take_length
def aQ := @List.mem_append_right
def aR := @Nat.ne_of_lt
def aU := @Nat.lt_of_lt_of_le
def aV := @List.getElem_mem
def aW := @List.getElem?_of_mem
def aX := @Int.fmod_eq_emod_of_nonneg
def aY := @PySem.Heap.get?_push_size
def aZ := @List.size_toArray
def bf := @List.length_take
def bh := @Nat.zero_le
def bw := @List.map_append
def bA := @Bool.false_ne_true
open PySem.W (Frag)
set_option Elab.async false
set_option linter.all false
set_option maxRecDepth 100000
set_option maxHeartbeats 4000000
namespace L2.Once
open PySem PySem.W
def z:Pos:=⟨0,0,0,0⟩
noncomputable def tE:Obj:=⟨.type "tuple",none,.seq ⟨[]⟩ 0,⟨[]⟩⟩
noncomputable def fE:Obj:=⟨.none,none,.fields ⟨[]⟩,⟨[]⟩⟩
noncomputable def tN (t:Nat) (l:List Str):Obj:=⟨.type "tuple",none,.seq ⟨(l.zipIdx t).map fun x=>.str x.1 x.2⟩ 0,⟨[]⟩⟩
noncomputable def cO (n q:Str) (t:Nat) (l a f:Int) (r u:Nat):Obj:=⟨.type "code",none,.fields ⟨[.str n t,.str q (t + 1),.str "/claim/cut.py" (t + 2),.int l 0,.int a 0,.int 0 0,.int 0 0,.int f 0,.ref r,.bool true,.int 181 0,.ref (r + 1),.none,.ref (r + 2),.ref (r + 3),.ref (r + 4),.int u 0,.int l 0,.str "/claim/cut.py" (u + 1)]⟩,⟨[]⟩⟩
def o11:Obj:={ cls:=.type "tuple",data:=.seq #[] }
def o12:Obj:={ cls:=.none,data:=.fields #[] }
def o13:Obj:={ cls:=.type "code",data:=.fields #[.str "<module>" 182,.str "<module>" 183,.str "/claim/cut.py" 184,.int 1 0,.int 0 0,.int 0 0,.int 0 0,.int 0 0,.ref 11,.bool false,.int 181 0,.ref 12,.none,.none,.none,.none,.int 185 0,.int 1 0,.str "/claim/cut.py" 186] }
def o14:Obj:={ cls:=.type "frame",slots:=#[some (.ref 13),some (.ref 3),some (.ref 3),none,some (.str "__main__" 164),none,some (.ref 0)] }
noncomputable def cP (n q:Str) (t:Nat) (l a f:Int) (r u:Nat):Obj:=⟨.type "code",none,.fields ⟨[.str n t,.str q (t + 1),.str "/claim/cut.py" (t + 2),.int l 0,.int a 0,.int 0 0,.int 0 0,.int f 0,.ref r,.bool true,.int 181 0,.ref (r + 1),.none,.none,.none,.ref (r + 2),.int u 0,.int l 0,.str "/claim/cut.py" (u + 1)]⟩,⟨[]⟩⟩
noncomputable def dE (P:Params) (x:Str) (t:Nat) (v:Value):DictEntry:=⟨PyData.keyHash P x,.str x t,v⟩
abbrev lf (o:Obj):BT:=.node o .nil .nil
noncomputable def tr (P:Params):BT:=.node (boot_o_0 P)
 (.node (boot_o_1 P) (.node (boot_o_3 P) (lf (boot_o_7 P)) (lf o11)) (.node (boot_o_5 P) (lf (boot_o_9 P)) (lf o13)))
 (.node (boot_o_2 P) (.node (boot_o_4 P) (lf (boot_o_8 P)) (lf o12)) (.node (boot_o_6 P) (lf (boot_o_10 P)) (lf o14)))
noncomputable def S0 (w:World) (os:OsState):Shared:=⟨boot_heap w.params,Array.mk [],boot_drawn,boot_toks,os⟩
noncomputable def Sa (w:World) (os:OsState):Shared:=⟨⟨Array.mk [boot_o_0 w.params,boot_o_1 w.params,boot_o_2 w.params,boot_o_3 w.params,boot_o_4 w.params,boot_o_5 w.params,boot_o_6 w.params,boot_o_7 w.params,boot_o_8 w.params,boot_o_9 w.params,boot_o_10 w.params,o11,o12,o13,o14],{}⟩,Array.mk [],{},187,os⟩
noncomputable def Sb (w:World) (os:OsState):SharedT:=⟨tr w.params,15,{},⟨[]⟩,{},187,os⟩
def env (p:Program):Env:={ scope:=p.main.scope,locals:=mainNs,globals:=mainNs,cells:=[],code:=.ref 13,frame:=some 14 }
def cE (p:Program):Code:=.body (behindTheImports p) (env p)
abbrev ann:Option Value:=some (.ref 6)
abbrev B:List Frame:=[topFrame z]
theorem size (w:World):((boot_heap w.params).isNs mainGlobals && (Array.mk [] : Array GenState).size == 0,(boot_heap w.params).objs.size,(boot_heap w.params).nsMap mainGlobals "__annotations__") = (true,11,ann):=by
 rw [Fast.te8920871248978507458]; kernel_rfl
def m5 (p:Program) (w:World) (M:Nat) (S:SharedT) (l:List Stmt) (q:Pos) (G:Shared->Prop):Prop:=∃ s,topRun treeTable p w 11 ann M S.abs (restOf l (env p) (cE p) q B) = some s/\G s
theorem m5.cut {p:Program} {w:World} {n M:Nat} {S S':SharedT} {l1 l2:List Stmt} {q q':Pos} {G:Shared->Prop} (h:segRunT treeTable p w 11 ann 1 n S (piecesOf l1 (env p) (cE p) q B) = some (.next,S',cE p,q')) (k:m5 p w M S' l2 q' G):m5 p w (n + M) S (l1 ++ l2) q G :=
 let ⟨s,a,b⟩:=k
 ⟨s,piece_app (segRun_of h) a,b⟩
theorem m5.cutAt {p:Program} {w:World} {n m M:Nat} {S S':SharedT} {l:List Stmt} {q q':Pos} {G:Shared->Prop} (h:segRunT treeTable p w 11 ann 1 n S (piecesOf (l.take m) (env p) (cE p) q B) = some (.next,S',cE p,q')) (k:m5 p w M S' (l.drop m) q' G):m5 p w (n + M) S l q G:=by
 have:=m5.cut h k
 rwa [List.take_append_drop] at this
def Good {α:Type} (p q:Program) (loose:List Str) (Xt:Shared->Bool) (Yf:Shared->α) (Ya:World->α) (g0:Bool) (w:World) (s:Shared):Prop :=
 (staticsOk (importedModules p.main.body) (boot_heap w.params) s.heap && namesBound p s.heap && gensDone s && laidKept (boot_heap w.params) s.heap,openSeen q loose (importedModules p.main.body) Xt g0 s,Yf s) = (true,openGood q loose,Ya w)
theorem m5.last {p q:Program} {loose:List Str} {Xt:Shared->Bool} {α:Type} {Yf:Shared->α} {Ya:World->α} {g0:Bool} {w:World} {n k:Nat} {S:SharedT} {l:List Stmt} {q0 e:Pos}
  (big:(segRunT treeTable p w 11 ann 1 n S (piecesOf l (env p) (cE p) q0 B)).map (fun r =>
    (r.1,r.2.2.1,r.2.2.2,(topRun treeTable p w 11 ann k r.2.1.abs ⟨doneF .next,cE p,e,B⟩).map fun s =>
     (staticsOk (importedModules p.main.body) (boot_heap w.params) s.heap && namesBound p s.heap && gensDone s && laidKept (boot_heap w.params) s.heap,openSeen q loose (importedModules p.main.body) Xt g0 s,Yf s))) =
   some (.next,cE p,e,some (true,openGood q loose,Ya w))):m5 p w (n + k) S l q0 (Good p q loose Xt Yf Ya g0 w):=by
 obtain ⟨⟨f,sT,c,ps⟩,r1,r2⟩:=Option.map_eq_some_iff.mp big
 obtain ⟨rfl,rfl,rfl,r3⟩ : f = .next/\c = cE p/\ps = e/\_:=by simpa only [Prod.mk.injEq] using r2
 obtain ⟨s,t1,t2⟩:=Option.map_eq_some_iff.mp r3
 have q1:=piece_app (rest:=[]) (segRun_of r1) (piece_nil t1)
 rw [List.append_nil] at q1
 exact ⟨s,q1,t2⟩
theorem Ui {p q:Program} {loose:List Str} {Xt:Shared->Bool} {α:Type} {Yf:Shared->α} {Ya:World->α} {N:Nat} {g0:Bool} {a b M:Nat}
  (open_:∀ w:World,(fencedOpening treeTable p w N).map (fun s=>(s.heap,s.gens,s.drawn,s.toks)) = some (boot_heap w.params,Array.mk [],boot_drawn,boot_toks))
  (pre:∀ w:World,(fun os=>topGo treeTable p w 11 ann a (S0 w os) (topStub p)) = fun os=>some (Sa w os,⟨denote treeTable (cE p),cE p,z,B⟩))
  (block:∀ w:World,(fun os=>segRun treeTable p w 11 ann 1 b (Sa w os) (blockOf (behindTheImports p) (env p) (cE p) z B)) = fun os=>some (.next,(Sb w os).abs,cE p,z))
  (ends:∀ (w:World) (os:OsState),m5 p w M (Sb w os) (behindTheImports p) z (Good p q loose Xt Yf Ya g0 w))
  (le:Nat.ble (a + (b + M)) N = true):LeftO p q loose Xt Yf Ya N g0:=fun w=>by
 obtain ⟨⟨h,gs,d,ks,os⟩,e1,e2⟩:=Option.map_eq_some_iff.mp (open_ w)
 obtain ⟨rfl,rfl,rfl,rfl⟩ : h = boot_heap w.params/\gs = Array.mk []/\d = boot_drawn/\ks = boot_toks:=by simpa using e2
 obtain ⟨z1,z2,z3⟩ : _/\_/\_:=by simpa only [Prod.mk.injEq] using size w
 obtain ⟨s,q1,t2⟩:=ends w os
 obtain ⟨l1,l2,l3⟩ : _/\_/\_:=by simpa only [Good,Prod.mk.injEq] using t2
 have q2:=go_top (congrFun (pre w) os) (piece_block (congrFun (block w) os) q1)
 have q3:=topRun_mono (N - (a + (b + M))) _ _ _ _ q2
 rw [show a + (b + M) + (N - (a + (b + M))) = N by have:=Nat.le_of_ble_eq_true le; omega] at q3
 have t:topFrom treeTable p w N ⟨boot_heap w.params,Array.mk [],boot_drawn,boot_toks,os⟩ = some s:=by
  unfold topFrom
  dsimp only
  rw [z1,z2,z3,show topRun treeTable p w 11 ann N ⟨boot_heap w.params,Array.mk [],boot_drawn,boot_toks,os⟩ (topStub p) = some s from q3]
  show (match staticsOk (importedModules p.main.body) (boot_heap w.params) s.heap && namesBound p s.heap && gensDone s && laidKept (boot_heap w.params) s.heap with | true=>_ | false=>_) = _
  rw [l1]
 unfold openEnds
 rw [e1]
 show (topFrom treeTable p w N _).map _ = _
 rw [t]
 exact congrArg some (Prod.ext l2 l3)
end L2.Once
namespace L2
open PySem
def jt (s:Stmt):Arguments:=match s with
 | .FunctionDef _ a _ _ _ _ _ _ _ _=>a
 | _=>{ posonlyargs:=[],args:=[],vararg:=none,kwonlyargs:=[],kw_defaults:=[],kwarg:=none,defaults:=[] }
def gj (s:Stmt):List Stmt:=match s with
 | .FunctionDef _ _ b _ _ _ _ _ _ _=>b
 | _=>[]
def bK (s:Stmt):Scope:=match s with
 | .FunctionDef _ _ _ _ _ _ sc _ _ _=>sc
 | _=>{ kind:=.function,names:=[],isGenerator:=false,isCoroutine:=false }
end L2
namespace K34
open PySem L2
def top (i:Nat):Stmt:=PySem.Challenge.pw_chancehall_k34_sure_rooms.main.body.getD i (.Pass ⟨0,0,0,0⟩)
def fB (i j:Nat):Stmt:=match top i with | .ClassDef _ _ _ b _ _ _ _ _ _ _=>b.getD j (.Pass ⟨0,0,0,0⟩) | _=>.Pass ⟨0,0,0,0⟩
end K34
namespace H34
open PySem PySem.W L2 L2.Once K34
abbrev p:Program:=PySem.Challenge.pw_chancehall_k34_sure_rooms
noncomputable section
noncomputable def fO (n q:Str) (s:Stmt) (m:Value) (c:Nat):Obj:=⟨.type "function",none,.func (fnOf n q (jt s) (gj s) (bK s) .none .none .none m none (.ref c) .none),⟨[]⟩⟩
noncomputable def fT (n q:Str) (s:Stmt):Obj:=⟨.none,none,.func { fnOf n q (jt s) (gj s) (bK s) .none .none .none .none none .none .none with globals:=0,builtins:=0 },⟨[]⟩⟩
def afo (P:Params):Obj:=⟨(.type "dict"),none,(.dict ⟨dE P "__name__" 165 (.str "law_chancehall_k34_sure_rooms" 749) :: dE P "__doc__" 166 .none :: dE P "__package__" 167 .none :: dE P "__loader__" 168 (.builtin "__main__.__loader__#opaque") :: dE P "__spec__" 169 .none :: dE P "__annotations__" 170 (.ref 6) :: dE P "__builtins__" 171 (.ref 4) :: dE P "__file__" 173 (.str "/claim/cut.py" 172) :: dE P "__cached__" 174 .none :: dE P "_wall" 193 (.ref 21) :: dE P "goal_marks" 205 (.ref 28) :: dE P "leads_of" 211 (.ref 33) :: dE P "meets" 217 (.ref 38) :: dE P "by_some" 223 (.ref 43) :: dE P "steps_to" 229 (.ref 48) :: dE P "staying" 235 (.ref 53) :: dE P "sure_rooms" 241 (.ref 58) :: dE P "HallError" 261 (.ref 68) :: dE P "NoNumber" 277 (.ref 81) :: dE P "NoName" 293 (.ref 93) :: dE P "NoChance" 309 (.ref 105) :: dE P "NoShare" 325 (.ref 117) :: dE P "NoRoom" 350 (.ref 136) :: dE P "is_whole" 359 (.ref 145) :: dE P "divisor" 370 (.ref 152) :: dE P "NOUGHT" 375 (.ref 153) :: dE P "ONE" 378 (.ref 154) :: dE P "ratio" 387 (.ref 161) :: dE P "is_ratio" 396 (.ref 168) :: dE P "plus" 404 (.ref 175) :: dE P "minus" 412 (.ref 182) :: dE P "under" 420 (.ref 189) :: dE P "level" 428 (.ref 194) :: dE P "total" 436 (.ref 201) :: dE P "LONGEST_WORD" 440 (.int 8 439) :: dE P "is_word" 446 (.ref 206) :: dE P "check_head" 456 (.ref 213) :: dE P "check_room_name" 463 (.ref 220) :: dE P "check_chance" 470 (.ref 227) :: dE P "check_pairs" 476 (.ref 232) :: dE P "joined_ways" 482 (.ref 237) :: dE P "Door" 529 (.ref 268) :: dE P "Sure" 556 (.ref 289) :: dE P "Mixed" 583 (.ref 308) :: dE P "Toss" 611 (.ref 327) :: dE P "Even" 633 (.ref 344) :: dE P "check_share" 642 (.ref 353) :: dE P "numbers_of" 652 (.ref 360) :: dE P "numbered_ways" 663 (.ref 367) :: dE P "offers_of" 674 (.ref 374) :: dE P "Hall" 748 (.ref 429) :: dE P "_law_cell" 758 (.ref 440) :: dE P "_law_stream" 770 (.ref 447) :: dE P "_law_gcd" 780 (.ref 454) :: dE P "_law_ratio" 789 (.ref 461) :: dE P "_law_names" 795 (.ref 466) :: dE P "_law_door" 801 (.ref 471) :: dE P "_law_doors" 807 (.ref 476) :: dE P "_law_built" 813 (.ref 481) :: dE P "_law_hall" 819 (.ref 486) :: dE P "_law_size" 827 (.ref 493) :: dE P "_law_ways" 833 (.ref 498) :: dE P "_law_leads" 839 (.ref 503) :: dE P "_law_goals" 845 (.ref 508) :: dE P "_law_on" 851 (.ref 513) :: dE P "_law_good" 857 (.ref 518) :: dE P "_law_lots" 863 (.ref 523) :: dE P "_law_right" 869 (.ref 528) :: dE P "_law_refused" 879 (.ref 535) :: dE P "_law_odd" 887 (.ref 542) :: []⟩ 70),⟨[]⟩⟩
noncomputable def adF:Obj:=⟨.none,none,(.fields ⟨(.int 1 0) :: (.int 0 0) :: (.ref 20) :: (.int 5 0) :: (.int 0 0) :: (.ref 27) :: (.int 11 0) :: (.int 0 0) :: (.ref 32) :: (.int 17 0) :: (.int 0 0) :: (.ref 37) :: (.int 19 0) :: (.int 0 0) :: (.ref 42) :: (.int 21 0) :: (.int 0 0) :: (.ref 47) :: (.int 31 0) :: (.int 0 0) :: (.ref 52) :: (.int 33 0) :: (.int 0 0) :: (.ref 57) :: (.int 43 0) :: (.int 0 0) :: (.ref 64) :: (.int 45 0) :: (.int 0 0) :: (.ref 77) :: (.int 47 0) :: (.int 0 0) :: (.ref 89) :: (.int 49 0) :: (.int 0 0) :: (.ref 101) :: (.int 51 0) :: (.int 0 0) :: (.ref 113) :: (.int 53 0) :: (.int 0 0) :: (.ref 125) :: (.int 59 0) :: (.int 0 0) :: (.ref 144) :: (.int 61 0) :: (.int 0 0) :: (.ref 151) :: (.int 72 0) :: (.int 0 0) :: (.ref 160) :: (.int 81 0) :: (.int 0 0) :: (.ref 167) :: (.int 89 0) :: (.int 0 0) :: (.ref 174) :: (.int 91 0) :: (.int 0 0) :: (.ref 181) :: (.int 93 0) :: (.int 0 0) :: (.ref 188) :: (.int 96 0) :: (.int 0 0) :: (.ref 193) :: (.int 101 0) :: (.int 0 0) :: (.ref 200) :: (.int 106 0) :: (.int 0 0) :: (.ref 205) :: (.int 111 0) :: (.int 0 0) :: (.ref 212) :: (.int 116 0) :: (.int 0 0) :: (.ref 219) :: (.int 119 0) :: (.int 0 0) :: (.ref 226) :: (.int 122 0) :: (.int 0 0) :: (.ref 231) :: (.int 128 0) :: (.int 0 0) :: (.ref 236) :: (.int 133 0) :: (.int 0 0) :: (.ref 243) :: (.int 146 0) :: (.int 0 0) :: (.ref 278) :: (.int 152 0) :: (.int 0 0) :: (.ref 297) :: (.int 158 0) :: (.int 0 0) :: (.ref 316) :: (.int 164 0) :: (.int 0 0) :: (.ref 335) :: (.int 169 0) :: (.int 0 0) :: (.ref 352) :: (.int 172 0) :: (.int 0 0) :: (.ref 359) :: (.int 180 0) :: (.int 0 0) :: (.ref 366) :: (.int 187 0) :: (.int 0 0) :: (.ref 373) :: (.int 196 0) :: (.int 0 0) :: (.ref 380) :: (.int 226 0) :: (.int 0 0) :: (.ref 439) :: (.int 228 0) :: (.int 0 0) :: (.ref 446) :: (.int 239 0) :: (.int 0 0) :: (.ref 453) :: (.int 244 0) :: (.int 0 0) :: (.ref 460) :: (.int 247 0) :: (.int 0 0) :: (.ref 465) :: (.int 256 0) :: (.int 0 0) :: (.ref 470) :: (.int 273 0) :: (.int 0 0) :: (.ref 475) :: (.int 283 0) :: (.int 0 0) :: (.ref 480) :: (.int 293 0) :: (.int 0 0) :: (.ref 485) :: (.int 300 0) :: (.int 0 0) :: (.ref 492) :: (.int 305 0) :: (.int 0 0) :: (.ref 497) :: (.int 311 0) :: (.int 0 0) :: (.ref 502) :: (.int 313 0) :: (.int 0 0) :: (.ref 507) :: (.int 318 0) :: (.int 0 0) :: (.ref 512) :: (.int 323 0) :: (.int 0 0) :: (.ref 517) :: (.int 330 0) :: (.int 0 0) :: (.ref 522) :: (.int 335 0) :: (.int 0 0) :: (.ref 527) :: (.int 344 0) :: (.int 0 0) :: (.ref 534) :: (.int 351 0) :: (.int 0 0) :: (.ref 541) :: []⟩),⟨[]⟩⟩
def q21:Obj:=(fO "_wall" "_wall" (top 0) (.str "__main__" 164) 20)
def q27:Obj:=(cO "goal_marks" "goal_marks" 196 5 2 3 22 203)
def q28:Obj:=(fO "goal_marks" "goal_marks" (top 2) (.str "chancehall.ways" 194) 27)
def q33:Obj:=(fO "leads_of" "leads_of" (top 3) (.str "chancehall.ways" 194) 32)
def q38:Obj:=(fO "meets" "meets" (top 4) (.str "chancehall.ways" 194) 37)
def q43:Obj:=(fO "by_some" "by_some" (top 5) (.str "chancehall.ways" 194) 42)
def q48:Obj:=(fO "steps_to" "steps_to" (top 6) (.str "chancehall.ways" 194) 47)
def q53:Obj:=(fO "staying" "staying" (top 7) (.str "chancehall.ways" 194) 52)
def q57:Obj:=(cP "sure_rooms" "sure_rooms" 236 33 2 3 54 239)
def q58:Obj:=(fO "sure_rooms" "sure_rooms" (top 8) (.str "chancehall.ways" 194) 57)
noncomputable def q59:Obj:=⟨(.type "tuple"),none,(.seq ⟨(.type "ValueError") :: []⟩ 0),⟨[]⟩⟩
noncomputable def q60:Obj:=⟨(.type "builtin_function_or_method"),none,(.fields ⟨(.builtin "type.__prepare__") :: (.type "type") :: []⟩),⟨[]⟩⟩
def q61 (P:Params):Obj:=⟨(.type "dict"),none,(.dict ⟨dE P "__module__" 251 (.str "chancehall.errors" 242) :: dE P "__qualname__" 253 (.str "HallError" 252) :: dE P "__firstlineno__" 255 (.int 43 254) :: dE P "__static_attributes__" 256 (.ref 66) :: []⟩ 4),⟨[]⟩⟩
noncomputable def q64:Obj:=⟨(.type "code"),none,(.fields ⟨(.str "HallError" 246) :: (.str "HallError" 247) :: (.str "/claim/cut.py" 248) :: (.int 43 0) :: (.int 0 0) :: (.int 0 0) :: (.int 0 0) :: (.int 0 0) :: (.ref 62) :: (.bool false) :: (.int 181 0) :: (.ref 63) :: .none :: .none :: .none :: .none :: (.int 249 0) :: (.int 43 0) :: (.str "/claim/cut.py" 250) :: []⟩),⟨[]⟩⟩
noncomputable def q65:Obj:=⟨(.type "frame"),none,.plain,⟨(some (.ref 64)) :: (some (.ref 3)) :: (some (.ref 61)) :: none :: (some (.str "chancehall.errors" 242)) :: none :: (some (.ref 0)) :: []⟩⟩
def q67 (P:Params):Obj:=⟨(.type "dict"),none,(.dict ⟨dE P "__module__" 251 (.str "chancehall.errors" 242) :: dE P "__firstlineno__" 255 (.int 43 254) :: dE P "__static_attributes__" 256 (.ref 66) :: dE P "__weakref__" 258 (.ref 69) :: dE P "__doc__" 259 .none :: []⟩ 3),⟨[]⟩⟩
noncomputable def q68:Obj:=⟨(.type "type"),none,(.cls ⟨"HallError",[(.type "ValueError")],[(.ref 68),(.type "ValueError"),(.type "Exception"),(.type "BaseException"),(.type "object")],67, "HallError",true,[],[(.ref 81),(.ref 93),(.ref 105),(.ref 117),(.ref 136)],false,none,false⟩),⟨(some (.ref 59)) :: none :: (some (.str "HallError" 244)) :: (some (.str "HallError" 252)) :: (some (.builtin "ValueError.__new__")) :: (some (.bool true)) :: []⟩⟩
noncomputable def q69:Obj:=⟨(.type "getset_descriptor"),none,(.fields ⟨(.str "__weakref__" 257) :: (.ref 68) :: (.builtin "ExceptionGroup.__weakref__") :: .none :: []⟩),⟨[]⟩⟩
noncomputable def q70:Obj:=⟨(.type "super"),none,(.fields ⟨(.ref 68) :: (.ref 68) :: (.ref 68) :: []⟩),⟨[]⟩⟩
noncomputable def q71:Obj:=⟨(.type "builtin_function_or_method"),none,(.fields ⟨(.builtin "object.__init_subclass__") :: (.ref 68) :: []⟩),⟨[]⟩⟩
noncomputable def q72:Obj:=⟨(.type "tuple"),none,(.seq ⟨(.ref 68) :: []⟩ 0),⟨[]⟩⟩
noncomputable def q73:Obj:=⟨(.type "builtin_function_or_method"),none,(.fields ⟨(.builtin "type.__prepare__") :: (.type "type") :: []⟩),⟨[]⟩⟩
def q74 (P:Params):Obj:=⟨(.type "dict"),none,(.dict ⟨dE P "__module__" 269 (.str "chancehall.errors" 242) :: dE P "__qualname__" 271 (.str "NoNumber" 270) :: dE P "__firstlineno__" 273 (.int 45 272) :: dE P "__static_attributes__" 274 (.ref 79) :: []⟩ 4),⟨[]⟩⟩
noncomputable def q77:Obj:=⟨(.type "code"),none,(.fields ⟨(.str "NoNumber" 264) :: (.str "NoNumber" 265) :: (.str "/claim/cut.py" 266) :: (.int 45 0) :: (.int 0 0) :: (.int 0 0) :: (.int 0 0) :: (.int 0 0) :: (.ref 75) :: (.bool false) :: (.int 181 0) :: (.ref 76) :: .none :: .none :: .none :: .none :: (.int 267 0) :: (.int 45 0) :: (.str "/claim/cut.py" 268) :: []⟩),⟨[]⟩⟩
noncomputable def q78:Obj:=⟨(.type "frame"),none,.plain,⟨(some (.ref 77)) :: (some (.ref 3)) :: (some (.ref 74)) :: none :: (some (.str "chancehall.errors" 242)) :: none :: (some (.ref 0)) :: []⟩⟩
def q80 (P:Params):Obj:=⟨(.type "dict"),none,(.dict ⟨dE P "__module__" 269 (.str "chancehall.errors" 242) :: dE P "__firstlineno__" 273 (.int 45 272) :: dE P "__static_attributes__" 274 (.ref 79) :: dE P "__doc__" 275 .none :: []⟩ 2),⟨[]⟩⟩
noncomputable def q81:Obj:=⟨(.type "type"),none,(.cls ⟨"NoNumber",[(.ref 68)],[(.ref 81),(.ref 68),(.type "ValueError"),(.type "Exception"),(.type "BaseException"),(.type "object")],80, "NoNumber",true,[],[],false,none,false⟩),⟨(some (.ref 72)) :: none :: (some (.str "NoNumber" 262)) :: (some (.str "NoNumber" 270)) :: (some (.builtin "ValueError.__new__")) :: (some (.bool true)) :: []⟩⟩
noncomputable def q82:Obj:=⟨(.type "super"),none,(.fields ⟨(.ref 81) :: (.ref 81) :: (.ref 81) :: []⟩),⟨[]⟩⟩
noncomputable def q83:Obj:=⟨(.type "builtin_function_or_method"),none,(.fields ⟨(.builtin "object.__init_subclass__") :: (.ref 81) :: []⟩),⟨[]⟩⟩
noncomputable def q84:Obj:=⟨(.type "tuple"),none,(.seq ⟨(.ref 68) :: []⟩ 0),⟨[]⟩⟩
noncomputable def q85:Obj:=⟨(.type "builtin_function_or_method"),none,(.fields ⟨(.builtin "type.__prepare__") :: (.type "type") :: []⟩),⟨[]⟩⟩
def q86 (P:Params):Obj:=⟨(.type "dict"),none,(.dict ⟨dE P "__module__" 285 (.str "chancehall.errors" 242) :: dE P "__qualname__" 287 (.str "NoName" 286) :: dE P "__firstlineno__" 289 (.int 47 288) :: dE P "__static_attributes__" 290 (.ref 91) :: []⟩ 4),⟨[]⟩⟩
noncomputable def q89:Obj:=⟨(.type "code"),none,(.fields ⟨(.str "NoName" 280) :: (.str "NoName" 281) :: (.str "/claim/cut.py" 282) :: (.int 47 0) :: (.int 0 0) :: (.int 0 0) :: (.int 0 0) :: (.int 0 0) :: (.ref 87) :: (.bool false) :: (.int 181 0) :: (.ref 88) :: .none :: .none :: .none :: .none :: (.int 283 0) :: (.int 47 0) :: (.str "/claim/cut.py" 284) :: []⟩),⟨[]⟩⟩
noncomputable def q90:Obj:=⟨(.type "frame"),none,.plain,⟨(some (.ref 89)) :: (some (.ref 3)) :: (some (.ref 86)) :: none :: (some (.str "chancehall.errors" 242)) :: none :: (some (.ref 0)) :: []⟩⟩
def q92 (P:Params):Obj:=⟨(.type "dict"),none,(.dict ⟨dE P "__module__" 285 (.str "chancehall.errors" 242) :: dE P "__firstlineno__" 289 (.int 47 288) :: dE P "__static_attributes__" 290 (.ref 91) :: dE P "__doc__" 291 .none :: []⟩ 2),⟨[]⟩⟩
noncomputable def q93:Obj:=⟨(.type "type"),none,(.cls ⟨"NoName",[(.ref 68)],[(.ref 93),(.ref 68),(.type "ValueError"),(.type "Exception"),(.type "BaseException"),(.type "object")],92, "NoName",true,[],[],false,none,false⟩),⟨(some (.ref 84)) :: none :: (some (.str "NoName" 278)) :: (some (.str "NoName" 286)) :: (some (.builtin "ValueError.__new__")) :: (some (.bool true)) :: []⟩⟩
noncomputable def q94:Obj:=⟨(.type "super"),none,(.fields ⟨(.ref 93) :: (.ref 93) :: (.ref 93) :: []⟩),⟨[]⟩⟩
noncomputable def q95:Obj:=⟨(.type "builtin_function_or_method"),none,(.fields ⟨(.builtin "object.__init_subclass__") :: (.ref 93) :: []⟩),⟨[]⟩⟩
noncomputable def q96:Obj:=⟨(.type "tuple"),none,(.seq ⟨(.ref 68) :: []⟩ 0),⟨[]⟩⟩
noncomputable def q97:Obj:=⟨(.type "builtin_function_or_method"),none,(.fields ⟨(.builtin "type.__prepare__") :: (.type "type") :: []⟩),⟨[]⟩⟩
def q98 (P:Params):Obj:=⟨(.type "dict"),none,(.dict ⟨dE P "__module__" 301 (.str "chancehall.errors" 242) :: dE P "__qualname__" 303 (.str "NoChance" 302) :: dE P "__firstlineno__" 305 (.int 49 304) :: dE P "__static_attributes__" 306 (.ref 103) :: []⟩ 4),⟨[]⟩⟩
noncomputable def af8:Obj:=⟨(.type "code"),none,(.fields ⟨(.str "NoChance" 296) :: (.str "NoChance" 297) :: (.str "/claim/cut.py" 298) :: (.int 49 0) :: (.int 0 0) :: (.int 0 0) :: (.int 0 0) :: (.int 0 0) :: (.ref 99) :: (.bool false) :: (.int 181 0) :: (.ref 100) :: .none :: .none :: .none :: .none :: (.int 299 0) :: (.int 49 0) :: (.str "/claim/cut.py" 300) :: []⟩),⟨[]⟩⟩
noncomputable def afl:Obj:=⟨(.type "frame"),none,.plain,⟨(some (.ref 101)) :: (some (.ref 3)) :: (some (.ref 98)) :: none :: (some (.str "chancehall.errors" 242)) :: none :: (some (.ref 0)) :: []⟩⟩
def aen (P:Params):Obj:=⟨(.type "dict"),none,(.dict ⟨dE P "__module__" 301 (.str "chancehall.errors" 242) :: dE P "__firstlineno__" 305 (.int 49 304) :: dE P "__static_attributes__" 306 (.ref 103) :: dE P "__doc__" 307 .none :: []⟩ 2),⟨[]⟩⟩
noncomputable def aeP:Obj:=⟨(.type "type"),none,(.cls ⟨"NoChance",[(.ref 68)],[(.ref 105),(.ref 68),(.type "ValueError"),(.type "Exception"),(.type "BaseException"),(.type "object")],104, "NoChance",true,[],[],false,none,false⟩),⟨(some (.ref 96)) :: none :: (some (.str "NoChance" 294)) :: (some (.str "NoChance" 302)) :: (some (.builtin "ValueError.__new__")) :: (some (.bool true)) :: []⟩⟩
noncomputable def af0:Obj:=⟨(.type "super"),none,(.fields ⟨(.ref 105) :: (.ref 105) :: (.ref 105) :: []⟩),⟨[]⟩⟩
noncomputable def agu:Obj:=⟨(.type "builtin_function_or_method"),none,(.fields ⟨(.builtin "object.__init_subclass__") :: (.ref 105) :: []⟩),⟨[]⟩⟩
noncomputable def aeQ:Obj:=⟨(.type "tuple"),none,(.seq ⟨(.ref 68) :: []⟩ 0),⟨[]⟩⟩
noncomputable def ags:Obj:=⟨(.type "builtin_function_or_method"),none,(.fields ⟨(.builtin "type.__prepare__") :: (.type "type") :: []⟩),⟨[]⟩⟩
def afF (P:Params):Obj:=⟨(.type "dict"),none,(.dict ⟨dE P "__module__" 317 (.str "chancehall.errors" 242) :: dE P "__qualname__" 319 (.str "NoShare" 318) :: dE P "__firstlineno__" 321 (.int 51 320) :: dE P "__static_attributes__" 322 (.ref 115) :: []⟩ 4),⟨[]⟩⟩
noncomputable def afD:Obj:=⟨(.type "code"),none,(.fields ⟨(.str "NoShare" 312) :: (.str "NoShare" 313) :: (.str "/claim/cut.py" 314) :: (.int 51 0) :: (.int 0 0) :: (.int 0 0) :: (.int 0 0) :: (.int 0 0) :: (.ref 111) :: (.bool false) :: (.int 181 0) :: (.ref 112) :: .none :: .none :: .none :: .none :: (.int 315 0) :: (.int 51 0) :: (.str "/claim/cut.py" 316) :: []⟩),⟨[]⟩⟩
noncomputable def ago:Obj:=⟨(.type "frame"),none,.plain,⟨(some (.ref 113)) :: (some (.ref 3)) :: (some (.ref 110)) :: none :: (some (.str "chancehall.errors" 242)) :: none :: (some (.ref 0)) :: []⟩⟩
def adA (P:Params):Obj:=⟨(.type "dict"),none,(.dict ⟨dE P "__module__" 317 (.str "chancehall.errors" 242) :: dE P "__firstlineno__" 321 (.int 51 320) :: dE P "__static_attributes__" 322 (.ref 115) :: dE P "__doc__" 323 .none :: []⟩ 2),⟨[]⟩⟩
noncomputable def aeY:Obj:=⟨(.type "type"),none,(.cls ⟨"NoShare",[(.ref 68)],[(.ref 117),(.ref 68),(.type "ValueError"),(.type "Exception"),(.type "BaseException"),(.type "object")],116, "NoShare",true,[],[],false,none,false⟩),⟨(some (.ref 108)) :: none :: (some (.str "NoShare" 310)) :: (some (.str "NoShare" 318)) :: (some (.builtin "ValueError.__new__")) :: (some (.bool true)) :: []⟩⟩
noncomputable def afz:Obj:=⟨(.type "super"),none,(.fields ⟨(.ref 117) :: (.ref 117) :: (.ref 117) :: []⟩),⟨[]⟩⟩
noncomputable def agr:Obj:=⟨(.type "builtin_function_or_method"),none,(.fields ⟨(.builtin "object.__init_subclass__") :: (.ref 117) :: []⟩),⟨[]⟩⟩
noncomputable def ae5:Obj:=⟨(.type "tuple"),none,(.seq ⟨(.ref 68) :: []⟩ 0),⟨[]⟩⟩
noncomputable def afg:Obj:=⟨(.type "builtin_function_or_method"),none,(.fields ⟨(.builtin "type.__prepare__") :: (.type "type") :: []⟩),⟨[]⟩⟩
def agk (P:Params):Obj:=⟨(.type "dict"),none,(.dict ⟨dE P "__module__" 333 (.str "chancehall.errors" 242) :: dE P "__qualname__" 335 (.str "NoRoom" 334) :: dE P "__firstlineno__" 337 (.int 53 336) :: dE P "__init__" 345 (.ref 133) :: dE P "__static_attributes__" 347 (.ref 134) :: []⟩ 5),⟨[]⟩⟩
noncomputable def afr:Obj:=⟨.none,none,(.fields ⟨(.int 55 0) :: (.int 4 0) :: (.ref 132) :: []⟩),⟨[]⟩⟩
noncomputable def afX:Obj:=⟨(.type "code"),none,(.fields ⟨(.str "NoRoom" 328) :: (.str "NoRoom" 329) :: (.str "/claim/cut.py" 330) :: (.int 53 0) :: (.int 0 0) :: (.int 0 0) :: (.int 0 0) :: (.int 0 0) :: (.ref 123) :: (.bool false) :: (.int 181 0) :: (.ref 124) :: .none :: .none :: .none :: .none :: (.int 331 0) :: (.int 53 0) :: (.str "/claim/cut.py" 332) :: []⟩),⟨[]⟩⟩
noncomputable def afw:Obj:=⟨(.type "frame"),none,.plain,⟨(some (.ref 125)) :: (some (.ref 3)) :: (some (.ref 122)) :: none :: (some (.str "chancehall.errors" 242)) :: none :: (some (.ref 0)) :: []⟩⟩
def aeB:Obj:=(cO "__init__" "NoRoom.__init__" 338 55 2 3 127 343)
def adl:Obj:=(fO "__init__" "NoRoom.__init__" (fB 15 0) (.str "chancehall.errors" 242) 132)
def adM (P:Params):Obj:=⟨(.type "dict"),none,(.dict ⟨dE P "__module__" 333 (.str "chancehall.errors" 242) :: dE P "__firstlineno__" 337 (.int 53 336) :: dE P "__init__" 345 (.ref 133) :: dE P "__static_attributes__" 347 (.ref 134) :: dE P "__doc__" 348 .none :: []⟩ 2),⟨[]⟩⟩
noncomputable def aeD:Obj:=⟨(.type "type"),none,(.cls ⟨"NoRoom",[(.ref 68)],[(.ref 136),(.ref 68),(.type "ValueError"),(.type "Exception"),(.type "BaseException"),(.type "object")],135, "NoRoom",true,[],[],false,none,false⟩),⟨(some (.ref 120)) :: none :: (some (.str "NoRoom" 326)) :: (some (.str "NoRoom" 334)) :: (some (.builtin "ValueError.__new__")) :: (some (.bool true)) :: []⟩⟩
noncomputable def aga:Obj:=⟨(.type "super"),none,(.fields ⟨(.ref 136) :: (.ref 136) :: (.ref 136) :: []⟩),⟨[]⟩⟩
noncomputable def afQ:Obj:=⟨(.type "builtin_function_or_method"),none,(.fields ⟨(.builtin "object.__init_subclass__") :: (.ref 136) :: []⟩),⟨[]⟩⟩
def aea:Obj:=(fO "is_whole" "is_whole" (top 17) (.str "chancehall.wholes" 351) 144)
def acC:Obj:=(tN 363 ["one", "other", "left", "right", "rest"])
def acE:Obj:=(fO "divisor" "divisor" (top 18) (.str "chancehall.wholes" 351) 151)
noncomputable def adW:Obj:=⟨(.type "tuple"),none,(.seq ⟨(.int 0 373) :: (.int 1 374) :: []⟩ 0),⟨[]⟩⟩
noncomputable def acr:Obj:=⟨(.type "tuple"),none,(.seq ⟨(.int 1 376) :: (.int 1 377) :: []⟩ 0),⟨[]⟩⟩
def adk:Obj:=(fO "ratio" "ratio" (top 22) (.str "chancehall.ratios" 371) 160)
def aef:Obj:=(fO "is_ratio" "is_ratio" (top 23) (.str "chancehall.ratios" 371) 167)
def ac7:Obj:=(fO "plus" "plus" (top 24) (.str "chancehall.ratios" 371) 174)
def ac6:Obj:=(fO "minus" "minus" (top 25) (.str "chancehall.ratios" 371) 181)
def aeV:Obj:=(fO "under" "under" (top 26) (.str "chancehall.ratios" 371) 188)
def adV:Obj:=(fO "level" "level" (top 28) (.str "chancehall.levels" 421) 193)
def adY:Obj:=(fO "total" "total" (top 29) (.str "chancehall.levels" 421) 200)
def aev:Obj:=(fO "is_word" "is_word" (top 32) (.str "chancehall.words" 437) 205)
def aeb:Obj:=(cO "check_head" "check_head" 449 111 2 3 207 454)
def adH:Obj:=(fO "check_head" "check_head" (top 34) (.str "chancehall.doors" 447) 212)
def agn:Obj:=(fT "check_room_name" "check_room_name" (top 35))
def adq:Obj:=(cO "check_room_name" "check_room_name" 457 116 1 3 214 461)
def aeA:Obj:=(fO "check_room_name" "check_room_name" (top 35) (.str "chancehall.doors" 447) 219)
def acY:Obj:=(cO "check_chance" "check_chance" 464 119 1 3 221 468)
def acP:Obj:=(fO "check_chance" "check_chance" (top 36) (.str "chancehall.doors" 447) 226)
def adD:Obj:=(cP "check_pairs" "check_pairs" 471 122 1 3 228 474)
def aeH:Obj:=(fO "check_pairs" "check_pairs" (top 37) (.str "chancehall.doors" 447) 231)
def aes:Obj:=(cP "joined_ways" "joined_ways" 477 128 1 3 233 480)
def ad7:Obj:=(fO "joined_ways" "joined_ways" (top 38) (.str "chancehall.doors" 447) 236)
noncomputable def afI:Obj:=⟨(.type "builtin_function_or_method"),none,(.fields ⟨(.builtin "type.__prepare__") :: (.type "type") :: []⟩),⟨[]⟩⟩
def afY (P:Params):Obj:=⟨(.type "dict"),none,(.dict ⟨dE P "__module__" 490 (.str "chancehall.doors" 447) :: dE P "__qualname__" 492 (.str "Door" 491) :: dE P "__firstlineno__" 494 (.int 133 493) :: dE P "__init__" 503 (.ref 251) :: dE P "ways" 510 (.ref 258) :: dE P "chance_to" 518 (.ref 265) :: dE P "__static_attributes__" 522 (.ref 266) :: []⟩ 7),⟨[]⟩⟩
noncomputable def af5:Obj:=⟨.none,none,(.fields ⟨(.int 135 0) :: (.int 4 0) :: (.ref 250) :: (.int 141 0) :: (.int 4 0) :: (.ref 257) :: (.int 144 0) :: (.int 4 0) :: (.ref 264) :: []⟩),⟨[]⟩⟩
noncomputable def agj:Obj:=⟨(.type "code"),none,(.fields ⟨(.str "Door" 485) :: (.str "Door" 486) :: (.str "/claim/cut.py" 487) :: (.int 133 0) :: (.int 0 0) :: (.int 0 0) :: (.int 0 0) :: (.int 0 0) :: (.ref 241) :: (.bool false) :: (.int 181 0) :: (.ref 242) :: .none :: .none :: .none :: .none :: (.int 488 0) :: (.int 133 0) :: (.str "/claim/cut.py" 489) :: []⟩),⟨[]⟩⟩
noncomputable def afS:Obj:=⟨(.type "frame"),none,.plain,⟨(some (.ref 243)) :: (some (.ref 3)) :: (some (.ref 240)) :: none :: (some (.str "chancehall.doors" 447)) :: none :: (some (.ref 0)) :: []⟩⟩
def ae3:Obj:=(cO "__init__" "Door.__init__" 495 135 3 3 245 501)
def aeE:Obj:=(fO "__init__" "Door.__init__" (fB 39 0) (.str "chancehall.doors" 447) 250)
def aee:Obj:=(fO "ways" "Door.ways" (fB 39 1) (.str "chancehall.doors" 447) 257)
def acS:Obj:=(cO "chance_to" "Door.chance_to" 511 144 2 3 259 516)
def ac1:Obj:=(fO "chance_to" "Door.chance_to" (fB 39 2) (.str "chancehall.doors" 447) 264)
def ad6 (P:Params):Obj:=⟨(.type "dict"),none,(.dict ⟨dE P "__module__" 490 (.str "chancehall.doors" 447) :: dE P "__firstlineno__" 494 (.int 133 493) :: dE P "__init__" 503 (.ref 251) :: dE P "ways" 510 (.ref 258) :: dE P "chance_to" 518 (.ref 265) :: dE P "__static_attributes__" 522 (.ref 266) :: dE P "__dict__" 524 (.ref 269) :: dE P "__weakref__" 526 (.ref 270) :: dE P "__doc__" 527 .none :: []⟩ 4),⟨[]⟩⟩
noncomputable def acT:Obj:=⟨(.type "type"),none,(.cls ⟨"Door",[(.type "object")],[(.ref 268),(.type "object")],267, "Door",true,[],[(.ref 289),(.ref 308)],false,none,false⟩),⟨none :: none :: (some (.str "Door" 483)) :: (some (.str "Door" 491)) :: (some (.builtin "object.__new__")) :: (some (.bool true)) :: []⟩⟩
noncomputable def adQ:Obj:=⟨(.type "getset_descriptor"),none,(.fields ⟨(.str "__dict__" 523) :: (.ref 268) :: (.builtin "function.__dict__") :: (.builtin "function.__dict__#set") :: []⟩),⟨[]⟩⟩
noncomputable def adN:Obj:=⟨(.type "getset_descriptor"),none,(.fields ⟨(.str "__weakref__" 525) :: (.ref 268) :: (.builtin "ExceptionGroup.__weakref__") :: .none :: []⟩),⟨[]⟩⟩
noncomputable def afh:Obj:=⟨(.type "super"),none,(.fields ⟨(.ref 268) :: (.ref 268) :: (.ref 268) :: []⟩),⟨[]⟩⟩
noncomputable def afv:Obj:=⟨(.type "builtin_function_or_method"),none,(.fields ⟨(.builtin "object.__init_subclass__") :: (.ref 268) :: []⟩),⟨[]⟩⟩
noncomputable def ada:Obj:=⟨(.type "tuple"),none,(.seq ⟨(.ref 268) :: []⟩ 0),⟨[]⟩⟩
noncomputable def af4:Obj:=⟨(.type "builtin_function_or_method"),none,(.fields ⟨(.builtin "type.__prepare__") :: (.type "type") :: []⟩),⟨[]⟩⟩
def afH (P:Params):Obj:=⟨(.type "dict"),none,(.dict ⟨dE P "__module__" 537 (.str "chancehall.doors" 447) :: dE P "__qualname__" 539 (.str "Sure" 538) :: dE P "__firstlineno__" 541 (.int 146 540) :: dE P "__init__" 551 (.ref 286) :: dE P "__static_attributes__" 553 (.ref 287) :: []⟩ 5),⟨[]⟩⟩
noncomputable def af6:Obj:=⟨.none,none,(.fields ⟨(.int 148 0) :: (.int 4 0) :: (.ref 285) :: []⟩),⟨[]⟩⟩
noncomputable def af2:Obj:=⟨(.type "code"),none,(.fields ⟨(.str "Sure" 532) :: (.str "Sure" 533) :: (.str "/claim/cut.py" 534) :: (.int 146 0) :: (.int 0 0) :: (.int 0 0) :: (.int 0 0) :: (.int 0 0) :: (.ref 276) :: (.bool false) :: (.int 181 0) :: (.ref 277) :: .none :: .none :: .none :: .none :: (.int 535 0) :: (.int 146 0) :: (.str "/claim/cut.py" 536) :: []⟩),⟨[]⟩⟩
noncomputable def agm:Obj:=⟨(.type "frame"),none,.plain,⟨(some (.ref 278)) :: (some (.ref 3)) :: (some (.ref 275)) :: none :: (some (.str "chancehall.doors" 447)) :: none :: (some (.ref 0)) :: []⟩⟩
def adp:Obj:=(cO "__init__" "Sure.__init__" 542 148 4 3 280 549)
def acw:Obj:=(fO "__init__" "Sure.__init__" (fB 40 0) (.str "chancehall.doors" 447) 285)
def adb (P:Params):Obj:=⟨(.type "dict"),none,(.dict ⟨dE P "__module__" 537 (.str "chancehall.doors" 447) :: dE P "__firstlineno__" 541 (.int 146 540) :: dE P "__init__" 551 (.ref 286) :: dE P "__static_attributes__" 553 (.ref 287) :: dE P "__doc__" 554 .none :: []⟩ 2),⟨[]⟩⟩
noncomputable def aeo:Obj:=⟨(.type "type"),none,(.cls ⟨"Sure",[(.ref 268)],[(.ref 289),(.ref 268),(.type "object")],288, "Sure",true,[],[],false,none,false⟩),⟨(some (.ref 273)) :: none :: (some (.str "Sure" 530)) :: (some (.str "Sure" 538)) :: (some (.builtin "object.__new__")) :: (some (.bool true)) :: []⟩⟩
noncomputable def afj:Obj:=⟨(.type "super"),none,(.fields ⟨(.ref 289) :: (.ref 289) :: (.ref 289) :: []⟩),⟨[]⟩⟩
noncomputable def afs:Obj:=⟨(.type "builtin_function_or_method"),none,(.fields ⟨(.builtin "object.__init_subclass__") :: (.ref 289) :: []⟩),⟨[]⟩⟩
noncomputable def aep:Obj:=⟨(.type "tuple"),none,(.seq ⟨(.ref 268) :: []⟩ 0),⟨[]⟩⟩
noncomputable def afx:Obj:=⟨(.type "builtin_function_or_method"),none,(.fields ⟨(.builtin "type.__prepare__") :: (.type "type") :: []⟩),⟨[]⟩⟩
def afU (P:Params):Obj:=⟨(.type "dict"),none,(.dict ⟨dE P "__module__" 564 (.str "chancehall.doors" 447) :: dE P "__qualname__" 566 (.str "Mixed" 565) :: dE P "__firstlineno__" 568 (.int 152 567) :: dE P "__init__" 578 (.ref 305) :: dE P "__static_attributes__" 580 (.ref 306) :: []⟩ 5),⟨[]⟩⟩
noncomputable def af9:Obj:=⟨.none,none,(.fields ⟨(.int 154 0) :: (.int 4 0) :: (.ref 304) :: []⟩),⟨[]⟩⟩
noncomputable def afu:Obj:=⟨(.type "code"),none,(.fields ⟨(.str "Mixed" 559) :: (.str "Mixed" 560) :: (.str "/claim/cut.py" 561) :: (.int 152 0) :: (.int 0 0) :: (.int 0 0) :: (.int 0 0) :: (.int 0 0) :: (.ref 295) :: (.bool false) :: (.int 181 0) :: (.ref 296) :: .none :: .none :: .none :: .none :: (.int 562 0) :: (.int 152 0) :: (.str "/claim/cut.py" 563) :: []⟩),⟨[]⟩⟩
noncomputable def agg:Obj:=⟨(.type "frame"),none,.plain,⟨(some (.ref 297)) :: (some (.ref 3)) :: (some (.ref 294)) :: none :: (some (.str "chancehall.doors" 447)) :: none :: (some (.ref 0)) :: []⟩⟩
def acN:Obj:=(cO "__init__" "Mixed.__init__" 569 154 4 3 299 576)
def adG:Obj:=(fO "__init__" "Mixed.__init__" (fB 41 0) (.str "chancehall.doors" 447) 304)
def acK (P:Params):Obj:=⟨(.type "dict"),none,(.dict ⟨dE P "__module__" 564 (.str "chancehall.doors" 447) :: dE P "__firstlineno__" 568 (.int 152 567) :: dE P "__init__" 578 (.ref 305) :: dE P "__static_attributes__" 580 (.ref 306) :: dE P "__doc__" 581 .none :: []⟩ 2),⟨[]⟩⟩
noncomputable def aeW:Obj:=⟨(.type "type"),none,(.cls ⟨"Mixed",[(.ref 268)],[(.ref 308),(.ref 268),(.type "object")],307, "Mixed",true,[],[(.ref 327),(.ref 344)],false,none,false⟩),⟨(some (.ref 292)) :: none :: (some (.str "Mixed" 557)) :: (some (.str "Mixed" 565)) :: (some (.builtin "object.__new__")) :: (some (.bool true)) :: []⟩⟩
noncomputable def afN:Obj:=⟨(.type "super"),none,(.fields ⟨(.ref 308) :: (.ref 308) :: (.ref 308) :: []⟩),⟨[]⟩⟩
noncomputable def afR:Obj:=⟨(.type "builtin_function_or_method"),none,(.fields ⟨(.builtin "object.__init_subclass__") :: (.ref 308) :: []⟩),⟨[]⟩⟩
noncomputable def ac9:Obj:=⟨(.type "tuple"),none,(.seq ⟨(.ref 308) :: []⟩ 0),⟨[]⟩⟩
noncomputable def agb:Obj:=⟨(.type "builtin_function_or_method"),none,(.fields ⟨(.builtin "type.__prepare__") :: (.type "type") :: []⟩),⟨[]⟩⟩
def agd (P:Params):Obj:=⟨(.type "dict"),none,(.dict ⟨dE P "__module__" 591 (.str "chancehall.doors" 447) :: dE P "__qualname__" 593 (.str "Toss" 592) :: dE P "__firstlineno__" 595 (.int 158 594) :: dE P "__init__" 607 (.ref 324) :: dE P "__static_attributes__" 608 (.ref 325) :: []⟩ 5),⟨[]⟩⟩
noncomputable def agh:Obj:=⟨.none,none,(.fields ⟨(.int 160 0) :: (.int 4 0) :: (.ref 323) :: []⟩),⟨[]⟩⟩
noncomputable def afK:Obj:=⟨(.type "code"),none,(.fields ⟨(.str "Toss" 586) :: (.str "Toss" 587) :: (.str "/claim/cut.py" 588) :: (.int 158 0) :: (.int 0 0) :: (.int 0 0) :: (.int 0 0) :: (.int 0 0) :: (.ref 314) :: (.bool false) :: (.int 181 0) :: (.ref 315) :: .none :: .none :: .none :: .none :: (.int 589 0) :: (.int 158 0) :: (.str "/claim/cut.py" 590) :: []⟩),⟨[]⟩⟩
noncomputable def afM:Obj:=⟨(.type "frame"),none,.plain,⟨(some (.ref 316)) :: (some (.ref 3)) :: (some (.ref 313)) :: none :: (some (.str "chancehall.doors" 447)) :: none :: (some (.ref 0)) :: []⟩⟩
def ac5:Obj:=(tN 599 ["self", "name", "pay", "chance", "room", "other"])
def aeJ:Obj:=(cO "__init__" "Toss.__init__" 596 160 6 3 318 605)
def acA:Obj:=(fO "__init__" "Toss.__init__" (fB 42 0) (.str "chancehall.doors" 447) 323)
def ad9 (P:Params):Obj:=⟨(.type "dict"),none,(.dict ⟨dE P "__module__" 591 (.str "chancehall.doors" 447) :: dE P "__firstlineno__" 595 (.int 158 594) :: dE P "__init__" 607 (.ref 324) :: dE P "__static_attributes__" 608 (.ref 325) :: dE P "__doc__" 609 .none :: []⟩ 2),⟨[]⟩⟩
noncomputable def aeG:Obj:=⟨(.type "type"),none,(.cls ⟨"Toss",[(.ref 308)],[(.ref 327),(.ref 308),(.ref 268),(.type "object")],326, "Toss",true,[],[],false,none,false⟩),⟨(some (.ref 311)) :: none :: (some (.str "Toss" 584)) :: (some (.str "Toss" 592)) :: (some (.builtin "object.__new__")) :: (some (.bool true)) :: []⟩⟩
noncomputable def afL:Obj:=⟨(.type "super"),none,(.fields ⟨(.ref 327) :: (.ref 327) :: (.ref 327) :: []⟩),⟨[]⟩⟩
noncomputable def agv:Obj:=⟨(.type "builtin_function_or_method"),none,(.fields ⟨(.builtin "object.__init_subclass__") :: (.ref 327) :: []⟩),⟨[]⟩⟩
noncomputable def adB:Obj:=⟨(.type "tuple"),none,(.seq ⟨(.ref 308) :: []⟩ 0),⟨[]⟩⟩
noncomputable def afZ:Obj:=⟨(.type "builtin_function_or_method"),none,(.fields ⟨(.builtin "type.__prepare__") :: (.type "type") :: []⟩),⟨[]⟩⟩
def afG (P:Params):Obj:=⟨(.type "dict"),none,(.dict ⟨dE P "__module__" 619 (.str "chancehall.doors" 447) :: dE P "__qualname__" 621 (.str "Even" 620) :: dE P "__firstlineno__" 623 (.int 164 622) :: dE P "__init__" 629 (.ref 341) :: dE P "__static_attributes__" 630 (.ref 342) :: []⟩ 5),⟨[]⟩⟩
noncomputable def agi:Obj:=⟨.none,none,(.fields ⟨(.int 166 0) :: (.int 4 0) :: (.ref 340) :: []⟩),⟨[]⟩⟩
noncomputable def afT:Obj:=⟨(.type "code"),none,(.fields ⟨(.str "Even" 614) :: (.str "Even" 615) :: (.str "/claim/cut.py" 616) :: (.int 164 0) :: (.int 0 0) :: (.int 0 0) :: (.int 0 0) :: (.int 0 0) :: (.ref 333) :: (.bool false) :: (.int 181 0) :: (.ref 334) :: .none :: .none :: .none :: .none :: (.int 617 0) :: (.int 164 0) :: (.str "/claim/cut.py" 618) :: []⟩),⟨[]⟩⟩
noncomputable def afp:Obj:=⟨(.type "frame"),none,.plain,⟨(some (.ref 335)) :: (some (.ref 3)) :: (some (.ref 332)) :: none :: (some (.str "chancehall.doors" 447)) :: none :: (some (.ref 0)) :: []⟩⟩
def aeh:Obj:=(cP "__init__" "Even.__init__" 624 166 4 3 337 627)
def adJ:Obj:=(fO "__init__" "Even.__init__" (fB 43 0) (.str "chancehall.doors" 447) 340)
def adR (P:Params):Obj:=⟨(.type "dict"),none,(.dict ⟨dE P "__module__" 619 (.str "chancehall.doors" 447) :: dE P "__firstlineno__" 623 (.int 164 622) :: dE P "__init__" 629 (.ref 341) :: dE P "__static_attributes__" 630 (.ref 342) :: dE P "__doc__" 631 .none :: []⟩ 2),⟨[]⟩⟩
noncomputable def aei:Obj:=⟨(.type "type"),none,(.cls ⟨"Even",[(.ref 308)],[(.ref 344),(.ref 308),(.ref 268),(.type "object")],343, "Even",true,[],[],false,none,false⟩),⟨(some (.ref 330)) :: none :: (some (.str "Even" 612)) :: (some (.str "Even" 620)) :: (some (.builtin "object.__new__")) :: (some (.bool true)) :: []⟩⟩
noncomputable def afV:Obj:=⟨(.type "super"),none,(.fields ⟨(.ref 344) :: (.ref 344) :: (.ref 344) :: []⟩),⟨[]⟩⟩
noncomputable def afA:Obj:=⟨(.type "builtin_function_or_method"),none,(.fields ⟨(.builtin "object.__init_subclass__") :: (.ref 344) :: []⟩),⟨[]⟩⟩
def acO:Obj:=(cO "check_share" "check_share" 636 169 1 3 347 640)
def aeU:Obj:=(fO "check_share" "check_share" (top 45) (.str "chancehall.halls" 634) 352)
def ad2:Obj:=(cO "numbers_of" "numbers_of" 643 172 1 3 354 650)
def aeZ:Obj:=(fO "numbers_of" "numbers_of" (top 46) (.str "chancehall.halls" 634) 359)
def ad4:Obj:=(tN 656 ["door", "numbers", "numbered", "name", "chance"])
def aeM:Obj:=(cO "numbered_ways" "numbered_ways" 653 180 2 3 361 661)
def ac2:Obj:=(fO "numbered_ways" "numbered_ways" (top 47) (.str "chancehall.halls" 634) 366)
def ac8:Obj:=(tN 667 ["doors", "numbers", "taken", "told", "door"])
def adh:Obj:=(cO "offers_of" "offers_of" 664 187 2 3 368 672)
def acH:Obj:=(fO "offers_of" "offers_of" (top 48) (.str "chancehall.halls" 634) 373)
noncomputable def afq:Obj:=⟨(.type "builtin_function_or_method"),none,(.fields ⟨(.builtin "type.__prepare__") :: (.type "type") :: []⟩),⟨[]⟩⟩
def afW (P:Params):Obj:=⟨(.type "dict"),none,(.dict ⟨dE P "__module__" 682 (.str "chancehall.halls" 634) :: dE P "__qualname__" 684 (.str "Hall" 683) :: dE P "__firstlineno__" 686 (.int 196 685) :: dE P "__init__" 692 (.ref 386) :: dE P "size" 699 (.ref 393) :: dE P "names" 706 (.ref 400) :: dE P "place" 714 (.ref 407) :: dE P "check_room" 722 (.ref 414) :: dE P "door_at" 731 (.ref 421) :: dE P "offers" 737 (.ref 426) :: dE P "__static_attributes__" 741 (.ref 427) :: []⟩ 11),⟨[]⟩⟩
noncomputable def afO:Obj:=⟨.none,none,(.fields ⟨(.int 198 0) :: (.int 4 0) :: (.ref 385) :: (.int 204 0) :: (.int 4 0) :: (.ref 392) :: (.int 207 0) :: (.int 4 0) :: (.ref 399) :: (.int 210 0) :: (.int 4 0) :: (.ref 406) :: (.int 215 0) :: (.int 4 0) :: (.ref 413) :: (.int 219 0) :: (.int 4 0) :: (.ref 420) :: (.int 222 0) :: (.int 4 0) :: (.ref 425) :: []⟩),⟨[]⟩⟩
noncomputable def afJ:Obj:=⟨(.type "code"),none,(.fields ⟨(.str "Hall" 677) :: (.str "Hall" 678) :: (.str "/claim/cut.py" 679) :: (.int 196 0) :: (.int 0 0) :: (.int 0 0) :: (.int 0 0) :: (.int 0 0) :: (.ref 378) :: (.bool false) :: (.int 181 0) :: (.ref 379) :: .none :: .none :: .none :: .none :: (.int 680 0) :: (.int 196 0) :: (.str "/claim/cut.py" 681) :: []⟩),⟨[]⟩⟩
noncomputable def afP:Obj:=⟨(.type "frame"),none,.plain,⟨(some (.ref 380)) :: (some (.ref 3)) :: (some (.ref 377)) :: none :: (some (.str "chancehall.halls" 634)) :: none :: (some (.ref 0)) :: []⟩⟩
def acR:Obj:=(cP "__init__" "Hall.__init__" 687 198 3 3 382 690)
def aej:Obj:=(fO "__init__" "Hall.__init__" (fB 49 0) (.str "chancehall.halls" 634) 385)
def acI:Obj:=(fO "size" "Hall.size" (fB 49 1) (.str "chancehall.halls" 634) 392)
def acD:Obj:=(fO "names" "Hall.names" (fB 49 2) (.str "chancehall.halls" 634) 399)
def acB:Obj:=(fO "place" "Hall.place" (fB 49 3) (.str "chancehall.halls" 634) 406)
def afE:Obj:=(fT "check_room" "Hall.check_room" (fB 49 4))
def aeT:Obj:=(cO "check_room" "Hall.check_room" 715 215 2 3 408 720)
def acM:Obj:=(fO "check_room" "Hall.check_room" (fB 49 4) (.str "chancehall.halls" 634) 413)
def acz:Obj:=(cO "door_at" "Hall.door_at" 723 219 3 3 415 729)
def ady:Obj:=(fO "door_at" "Hall.door_at" (fB 49 5) (.str "chancehall.halls" 634) 420)
def aem:Obj:=(cP "offers" "Hall.offers" 732 222 2 3 422 735)
def adX:Obj:=(fO "offers" "Hall.offers" (fB 49 6) (.str "chancehall.halls" 634) 425)
def adw (P:Params):Obj:=⟨(.type "dict"),none,(.dict ⟨dE P "__module__" 682 (.str "chancehall.halls" 634) :: dE P "__firstlineno__" 686 (.int 196 685) :: dE P "__init__" 692 (.ref 386) :: dE P "size" 699 (.ref 393) :: dE P "names" 706 (.ref 400) :: dE P "place" 714 (.ref 407) :: dE P "check_room" 722 (.ref 414) :: dE P "door_at" 731 (.ref 421) :: dE P "offers" 737 (.ref 426) :: dE P "__static_attributes__" 741 (.ref 427) :: dE P "__dict__" 743 (.ref 430) :: dE P "__weakref__" 745 (.ref 431) :: dE P "__doc__" 746 .none :: []⟩ 4),⟨[]⟩⟩
noncomputable def aec:Obj:=⟨(.type "type"),none,(.cls ⟨"Hall",[(.type "object")],[(.ref 429),(.type "object")],428, "Hall",true,[],[],false,none,false⟩),⟨none :: none :: (some (.str "Hall" 675)) :: (some (.str "Hall" 683)) :: (some (.builtin "object.__new__")) :: (some (.bool true)) :: []⟩⟩
noncomputable def aeO:Obj:=⟨(.type "getset_descriptor"),none,(.fields ⟨(.str "__dict__" 742) :: (.ref 429) :: (.builtin "function.__dict__") :: (.builtin "function.__dict__#set") :: []⟩),⟨[]⟩⟩
noncomputable def aeu:Obj:=⟨(.type "getset_descriptor"),none,(.fields ⟨(.str "__weakref__" 744) :: (.ref 429) :: (.builtin "ExceptionGroup.__weakref__") :: .none :: []⟩),⟨[]⟩⟩
noncomputable def af3:Obj:=⟨(.type "super"),none,(.fields ⟨(.ref 429) :: (.ref 429) :: (.ref 429) :: []⟩),⟨[]⟩⟩
noncomputable def agt:Obj:=⟨(.type "builtin_function_or_method"),none,(.fields ⟨(.builtin "object.__init_subclass__") :: (.ref 429) :: []⟩),⟨[]⟩⟩
def adU:Obj:=(cO "_law_cell" "_law_cell" 751 226 2 3 434 756)
def aew:Obj:=(fO "_law_cell" "_law_cell" (top 51) (.str "law_chancehall_k34_sure_rooms" 749) 439)
def adS:Obj:=(tN 762 ["_law_cell_here", "_law_many", "_law_found", "_law_number", "_law_digits", "_law_k"])
def adT:Obj:=(cO "_law_stream" "_law_stream" 759 228 2 3 441 768)
def acU:Obj:=(fO "_law_stream" "_law_stream" (top 52) (.str "law_chancehall_k34_sure_rooms" 749) 446)
def aeI:Obj:=(tN 774 ["_law_one", "_law_other", "_law_low", "_law_high"])
def acG:Obj:=(cO "_law_gcd" "_law_gcd" 771 239 2 3 448 778)
def adu:Obj:=(fO "_law_gcd" "_law_gcd" (top 53) (.str "law_chancehall_k34_sure_rooms" 749) 453)
def aeX:Obj:=(tN 784 ["_law_top", "_law_bottom", "_law_common"])
def adg:Obj:=(cO "_law_ratio" "_law_ratio" 781 244 2 3 455 787)
def ad5:Obj:=(fO "_law_ratio" "_law_ratio" (top 54) (.str "law_chancehall_k34_sure_rooms" 749) 460)
def adn:Obj:=(cP "_law_names" "_law_names" 790 247 2 3 462 793)
def adx:Obj:=(fO "_law_names" "_law_names" (top 55) (.str "law_chancehall_k34_sure_rooms" 749) 465)
def aeL:Obj:=(cP "_law_door" "_law_door" 796 256 2 3 467 799)
def adf:Obj:=(fO "_law_door" "_law_door" (top 56) (.str "law_chancehall_k34_sure_rooms" 749) 470)
def ae1:Obj:=(cP "_law_doors" "_law_doors" 802 273 4 3 472 805)
def acL:Obj:=(fO "_law_doors" "_law_doors" (top 57) (.str "law_chancehall_k34_sure_rooms" 749) 475)
def ae6:Obj:=(cP "_law_built" "_law_built" 808 283 3 3 477 811)
def ac0:Obj:=(fO "_law_built" "_law_built" (top 58) (.str "law_chancehall_k34_sure_rooms" 749) 480)
def aez:Obj:=(cP "_law_hall" "_law_hall" 814 293 3 3 482 817)
def adZ:Obj:=(fO "_law_hall" "_law_hall" (top 59) (.str "law_chancehall_k34_sure_rooms" 749) 485)
def ae2:Obj:=(cO "_law_size" "_law_size" 820 300 1 3 487 825)
def acu:Obj:=(fO "_law_size" "_law_size" (top 60) (.str "law_chancehall_k34_sure_rooms" 749) 492)
def ado:Obj:=(cP "_law_ways" "_law_ways" 828 305 1 3 494 831)
def adv:Obj:=(fO "_law_ways" "_law_ways" (top 61) (.str "law_chancehall_k34_sure_rooms" 749) 497)
def ae4:Obj:=(cP "_law_leads" "_law_leads" 834 311 1 3 499 837)
def aeK:Obj:=(fO "_law_leads" "_law_leads" (top 62) (.str "law_chancehall_k34_sure_rooms" 749) 502)
def ac3:Obj:=(cP "_law_goals" "_law_goals" 840 313 2 3 504 843)
def ae7:Obj:=(fO "_law_goals" "_law_goals" (top 63) (.str "law_chancehall_k34_sure_rooms" 749) 507)
def ael:Obj:=(fO "_law_on" "_law_on" (top 64) (.str "law_chancehall_k34_sure_rooms" 749) 512)
def ad0:Obj:=(cP "_law_good" "_law_good" 852 323 3 3 514 855)
def acZ:Obj:=(fO "_law_good" "_law_good" (top 65) (.str "law_chancehall_k34_sure_rooms" 749) 517)
def aek:Obj:=(cP "_law_lots" "_law_lots" 858 330 1 3 519 861)
def aeN:Obj:=(fO "_law_lots" "_law_lots" (top 66) (.str "law_chancehall_k34_sure_rooms" 749) 522)
def adE:Obj:=(cP "_law_right" "_law_right" 864 335 3 3 524 867)
def aex:Obj:=(fO "_law_right" "_law_right" (top 67) (.str "law_chancehall_k34_sure_rooms" 749) 527)
def acs:Obj:=(tN 873 ["_law_hall_here", "_law_goals_here", "_law_found", "e"])
def aeg:Obj:=(cO "_law_refused" "_law_refused" 870 344 2 3 529 877)
def ae0:Obj:=(fO "_law_refused" "_law_refused" (top 68) (.str "law_chancehall_k34_sure_rooms" 749) 534)
def adt:Obj:=(cO "_law_odd" "_law_odd" 880 351 2 3 536 885)
def acQ:Obj:=(fO "_law_odd" "_law_odd" (top 69) (.str "law_chancehall_k34_sure_rooms" 749) 541)
def tr1 (P:Params):BT:=(.node (boot_o_0 P) (.node (boot_o_1 P) (.node (afo P) (.node (boot_o_7 P) (.node tE (.node (fT "leads_of" "leads_of" (top 3)) (.node fE (.node tE (.node tE (lf (fT "_law_on" "_law_on" (top 64))) .nil) (lf fE)) (.node fE (lf fE) (lf acU))) (.node q95 (.node (fT "ratio" "ratio" (top 22)) (lf (tN 552 ["leads"])) (lf tE)) (.node (tN 467 ["chance"]) (lf (fT "check_share" "check_share" (top 45))) (lf (fT "_law_built" "_law_built" (top 58)))))) (.node (cP "steps_to" "steps_to" 224 21 3 3 44 227) (.node tE (.node (fT "is_whole" "is_whole" (top 17)) (.node afh (lf adE) .nil) (lf (cO "names" "Hall.names" 700 207 1 3 394 704))) (.node tE (lf afT) (lf fE))) (.node tE (.node ac7 (lf (fT "__init__" "Mixed.__init__" (fB 41 0))) (lf aeu)) (.node afI (lf ac2) (lf fE))))) (.node fE (.node tE (.node q71 (.node (adM P) (.node (fT "chance_to" "Door.chance_to" (fB 39 2)) (lf tE) .nil) (lf (fT "size" "Hall.size" (fB 49 1)))) (.node (fT "total" "total" (top 29)) (lf aeG) (lf tE))) (.node tE (.node (cO "is_ratio" "is_ratio" 388 81 1 3 162 394) (lf tE) (lf fE)) (.node adD (lf ad2) (lf tE)))) (.node fE (.node tE (.node (cO "divisor" "divisor" 360 61 2 3 146 368) (.node agm (lf ae0) .nil) (lf acB)) (.node fE (lf (adR P)) (lf adf))) (.node agr (.node tE (lf ac9) (lf adU)) (.node (tN 498 ["self", "name", "pay"]) (lf tE) (lf aeK)))))) (.node o11 (.node (fT "_wall" "_wall" (top 0)) (.node fE (.node (q67 P) (.node (fT "__init__" "NoRoom.__init__" (fB 15 0)) (.node tE (lf fE) .nil) (lf tE)) (.node tE (lf aeJ) (lf tE))) (.node tE (.node fE (lf afs) (lf (fT "door_at" "Hall.door_at" (fB 49 5)))) (.node acP (lf fE) (lf fE)))) (.node (fT "staying" "staying" (top 7)) (.node q83 (.node fE (.node (afH P) (lf acs) .nil) (lf (tN 710 ["self", "name"]))) (.node (fT "check_head" "check_head" (top 34)) (lf (fT "__init__" "Even.__init__" (fB 43 0))) (lf tE))) (.node tE (.node tE (lf (acK P)) (lf fE)) (.node agj (lf tE) (lf tE))))) (.node q27 (.node q43 (.node tE (.node tE (.node (ad6 P) (lf aeN) .nil) (lf fE)) (.node fE (lf afZ) (lf (fT "_law_ratio" "_law_ratio" (top 54))))) (.node agu (.node (tN 400 ["one", "other"]) (lf tE) (lf (tN 738 ["numbers", "offered", "share"]))) (.node (fT "joined_ways" "joined_ways" (top 38)) (lf ad4) (lf (fT "_law_size" "_law_size" (top 60)))))) (.node q59 (.node tE (.node tE (.node tE (lf tE) .nil) (lf tE)) (.node adq (lf tE) (lf ae1))) (.node tE (.node (fT "under" "under" (top 26)) (lf agh) (lf adS)) (.node aeE (lf afO) (lf ac3))))))) (.node (boot_o_5 P) (.node (boot_o_9 P) (.node (tN 190 ["k"]) (.node q33 (.node q65 (.node (tN 341 ["self", "room"]) (.node (cO "ways" "Door.ways" 504 141 1 3 252 508) (lf ael) .nil) (lf acR)) (.node (cP "level" "level" 423 96 1 3 190 426) (lf tE) (lf fE))) (.node q97 (.node adk (lf aeo) (lf (tN 726 ["self", "room", "name"]))) (.node (fT "check_chance" "check_chance" (top 36)) (lf aeU) (lf ac0)))) (.node tE (.node q81 (.node aea (.node ada (lf tE) .nil) (lf tE)) (.node (tN 452 ["name", "pay"]) (lf tE) (lf adn))) (.node afD (.node fE (lf adG) (lf agt)) (.node tE (lf fE) (lf ado))))) (.node tE (.node (fT "by_some" "by_some" (top 5)) (.node q73 (.node aga (.node ac1 (lf (fT "_law_lots" "_law_lots" (top 66))) .nil) (lf acI)) (.node adY (lf agv) (lf aeX))) (.node aeP (.node tE (lf afu) (lf aem)) (.node tE (lf tE) (lf (tN 823 ["_law_cell_here", "_law_xs"]))))) (.node q57 (.node q89 (.node adW (.node fE (lf fE) .nil) (lf fE)) (.node tE (lf afV) (lf fE))) (.node afg (.node (tN 416 ["one", "other"]) (lf (agd P)) (lf tE)) (.node (fT "__init__" "Door.__init__" (fB 39 0)) (lf (afW P)) (lf fE)))))) (.node o13 (.node q21 (.node (cP "meets" "meets" 212 17 2 3 34 215) (.node q69 (.node adl (.node (tN 514 ["self", "room"]) (lf ad0) .nil) (lf (tN 696 ["self"]))) (.node (tN 432 ["fractions", "leveled"]) (lf tE) (lf acG))) (.node af8 (.node tE (lf afx) (lf ady)) (.node fE (lf tE) (lf aez)))) (.node q53 (.node q85 (.node tE (.node af6 (lf (fT "_law_refused" "_law_refused" (top 68))) .nil) (lf (fT "place" "Hall.place" (fB 49 3)))) (.node adH (lf adJ) (lf (fT "_law_door" "_law_door" (top 56))))) (.node aeY (.node (cO "minus" "minus" 405 91 2 3 176 410) (lf afN) (lf tE)) (.node tE (lf adh) (lf (fT "_law_leads" "_law_leads" (top 62))))))) (.node tE (.node fE (.node q77 (.node (tN 356 ["thing"]) (.node adQ (lf fE) .nil) (lf tE)) (.node (cP "is_word" "is_word" 441 106 1 3 202 444) (lf tE) (lf ad5))) (.node ags (.node (fT "plus" "plus" (top 24)) (lf (tN 572 ["self", "name", "pay", "pairs"])) (lf aec)) (.node ad7 (lf (fT "numbered_ways" "numbered_ways" (top 47))) (lf acu)))) (.node (q61 P) (.node q93 (.node (tN 382 ["top", "bottom", "common"]) (.node adp (lf adt) .nil) (lf aeT)) (.node tE (lf (tN 639 ["share"])) (lf tE))) (.node afX (.node aeV (lf afM) (lf (fT "_law_stream" "_law_stream" (top 52)))) (.node fE (lf afP) (lf tE)))))))) (.node (boot_o_2 P) (.node (boot_o_4 P) (.node (boot_o_8 P) (.node fE (.node (cP "leads_of" "leads_of" 206 11 2 3 29 209) (.node q64 (.node fE (.node (fT "ways" "Door.ways" (fB 39 1)) (lf (cP "_law_on" "_law_on" 846 318 3 3 509 849)) .nil) (lf (fT "__init__" "Hall.__init__" (fB 49 0)))) (.node (fT "level" "level" (top 28)) (lf ac5) (lf tE))) (.node q96 (.node (cO "ratio" "ratio" 379 72 2 3 155 385) (lf (adb P)) (lf fE)) (.node tE (lf acO) (lf ae6)))) (.node q48 (.node (q80 P) (.node (cO "is_whole" "is_whole" 353 59 1 3 139 357) (.node afv (lf aex) .nil) (lf acD)) (.node fE (lf afp) (lf (fT "_law_names" "_law_names" (top 55))))) (.node fE (.node tE (lf acN) (lf af3)) (.node (afY P) (lf tE) (lf (fT "_law_ways" "_law_ways" (top 61))))))) (.node (tN 199 ["hall", "goals", "marks", "goal"]) (.node fE (.node q72 (.node aeD (.node acS (lf fE) .nil) (lf (cO "size" "Hall.size" 693 204 1 3 387 697))) (.node (cO "total" "total" 429 101 1 3 195 434) (lf afL) (lf fE))) (.node (aen P) (.node aef (lf af9) (lf (fT "offers" "Hall.offers" (fB 49 6)))) (.node aeH (lf aeZ) (lf fE)))) (.node (fT "sure_rooms" "sure_rooms" (top 8)) (.node fE (.node acE (.node tE (lf tE) .nil) (lf tE)) (.node (tN 460 ["room"]) (lf aei) (lf tE))) (.node ae5 (.node fE (lf agb) (lf aew)) (.node tE (lf afq) (lf tE)))))) (.node adF (.node (cO "_wall" "_wall" 187 1 1 3 15 191) (.node (fT "meets" "meets" (top 4)) (.node q68 (.node aeB (.node fE (lf (fT "_law_good" "_law_good" (top 65))) .nil) (lf fE)) (.node fE (lf acA) (lf (fT "_law_gcd" "_law_gcd" (top 53))))) (.node fE (.node (tN 391 ["thing", "top", "bottom"]) (lf aep) (lf acz)) (.node tE (lf (tN 646 ["rooms", "numbers", "room", "name"])) (lf (fT "_law_hall" "_law_hall" (top 59)))))) (.node (cP "staying" "staying" 230 31 2 3 49 233) (.node q84 (.node acC (.node tE (lf tE) .nil) (lf tE)) (.node aeb (lf aeh) (lf fE))) (.node (adA P) (.node (fT "minus" "minus" (top 25)) (lf aeW) (lf (tN 754 ["_law_script", "_law_k"]))) (.node afS (lf (fT "offers_of" "offers_of" (top 48))) (lf fE))))) (.node q28 (.node tE (.node fE (.node fE (.node acT (lf tE) .nil) (lf (tN 703 ["self"]))) (.node (fT "is_word" "is_word" (top 32)) (lf (afG P)) (lf adg))) (.node aeQ (.node tE (lf fE) (lf (adw P))) (.node aes (lf tE) (lf ae2)))) (.node q60 (.node (q92 P) (.node fE (.node (fT "__init__" "Sure.__init__" (fB 40 0)) (lf (fT "_law_odd" "_law_odd" (top 69))) .nil) (lf afE)) (.node aeA (lf fE) (lf acL))) (.node afr (.node (cO "under" "under" 413 93 2 3 183 418) (lf afK) (lf tE)) (.node tE (lf afJ) (lf ae7))))))) (.node (boot_o_6 P) (.node (boot_o_10 P) (.node tE (.node tE (.node tE (.node tE (.node aee (lf tE) .nil) (lf aej)) (.node adV (lf (fT "__init__" "Toss.__init__" (fB 42 0))) (lf aeI))) (.node (q98 P) (.node tE (lf afj) (lf tE)) (.node acY (lf tE) (lf tE)))) (.node fE (.node q82 (.node tE (.node af4 (lf fE) .nil) (lf fE)) (.node tE (lf fE) (lf adx))) (.node ago (.node (tN 408 ["one", "other"]) (lf (tN 579 ["leads"])) (lf tE)) (.node af5 (lf ac8) (lf adv))))) (.node (fT "goal_marks" "goal_marks" (top 2)) (.node (cP "by_some" "by_some" 218 19 2 3 39 221) (.node (q74 P) (.node afQ (.node (tN 519 ["leads", "name", "pay"]) (lf aek) .nil) (lf tE)) (.node tE (lf adB) (lf tE))) (.node af0 (.node fE (lf agg) (lf adX)) (.node fE (lf fE) (lf tE)))) (.node q58 (.node q90 (.node acr (.node (tN 545 ["self", "name", "pay", "room"]) (lf (tN 883 ["_law_cell_here", "_law_many"])) .nil) (lf (tN 718 ["self", "room"]))) (.node agn (lf afA) (lf (fT "_law_doors" "_law_doors" (top 57))))) (.node (agk P) (.node tE (lf tE) (lf fE)) (.node ae3 (lf tE) (lf (fT "_law_goals" "_law_goals" (top 63)))))))) (.node o14 (.node tE (.node q38 (.node q70 (.node (tN 346 ["room"]) (.node tE (lf acZ) .nil) (lf tE)) (.node tE (lf (ad9 P)) (lf adu))) (.node afl (.node (fT "is_ratio" "is_ratio" (top 23)) (lf (afU P)) (lf tE)) (.node (fT "check_pairs" "check_pairs" (top 37)) (lf (fT "numbers_of" "numbers_of" (top 46))) (lf adZ)))) (.node tE (.node (q86 P) (.node (fT "divisor" "divisor" (top 18)) (.node af2 (lf aeg) .nil) (lf (cO "place" "Hall.place" 707 210 2 3 401 712))) (.node tE (lf tE) (lf aeL))) (.node afz (.node ac6 (lf afR) (lf (fT "_law_cell" "_law_cell" (top 51)))) (.node fE (lf acH) (lf ae4))))) (.node fE (.node (fT "steps_to" "steps_to" (top 6)) (.node q78 (.node tE (.node adN (lf (fT "_law_right" "_law_right" (top 67))) .nil) (lf (fT "names" "Hall.names" (fB 49 2)))) (.node aev (lf agi) (lf tE))) (.node (afF P) (.node (cO "plus" "plus" 397 89 2 3 169 402) (lf tE) (lf aeO)) (.node tE (lf aeM) (lf tE)))) (.node tE (.node q94 (.node tE (.node acw (lf acQ) .nil) (lf acM)) (.node fE (lf tE) (lf fE))) (.node afw (.node tE (lf tE) (lf adT)) (.node (tN 507 ["self"]) (lf tE) (lf fE)))))))))
noncomputable def S1 (w:World) (os:OsState):SharedT:=⟨tr1 w.params,543,{},⟨[]⟩,{},888,os⟩
def e1:Pos:=⟨351,0,352,141⟩
noncomputable def KH:Params->Frag:=fun P=>(
 (nat_lit 2,(boot_o_2 P)) ::
 (nat_lit 3,⟨(.type "dict"),none,(.dict ⟨dE P "__name__" 165 (.str "law_chancehall_k34_sure_rooms" 749) :: dE P "__doc__" 166 .none :: dE P "__package__" 167 .none :: dE P "__loader__" 168 (.builtin "__main__.__loader__#opaque") :: dE P "__spec__" 169 .none :: dE P "__annotations__" 170 (.ref 6) :: dE P "__builtins__" 171 (.ref 4) :: dE P "__file__" 173 (.str "/claim/cut.py" 172) :: dE P "__cached__" 174 .none :: dE P "_wall" 193 (.ref 21) :: dE P "goal_marks" 205 (.ref 28) :: dE P "leads_of" 211 (.ref 33) :: dE P "meets" 217 (.ref 38) :: dE P "by_some" 223 (.ref 43) :: dE P "steps_to" 229 (.ref 48) :: dE P "staying" 235 (.ref 53) :: dE P "sure_rooms" 241 (.ref 58) :: dE P "HallError" 261 (.ref 68) :: dE P "NoNumber" 277 (.ref 81) :: dE P "NoName" 293 (.ref 93) :: dE P "NoChance" 309 (.ref 105) :: dE P "NoShare" 325 (.ref 117) :: dE P "NoRoom" 350 (.ref 136) :: dE P "is_whole" 359 (.ref 145) :: dE P "divisor" 370 (.ref 152) :: dE P "NOUGHT" 375 (.ref 153) :: dE P "ONE" 378 (.ref 154) :: dE P "ratio" 387 (.ref 161) :: dE P "is_ratio" 396 (.ref 168) :: dE P "plus" 404 (.ref 175) :: dE P "minus" 412 (.ref 182) :: dE P "under" 420 (.ref 189) :: dE P "level" 428 (.ref 194) :: dE P "total" 436 (.ref 201) :: dE P "LONGEST_WORD" 440 (.int 8 439) :: dE P "is_word" 446 (.ref 206) :: dE P "check_head" 456 (.ref 213) :: dE P "check_room_name" 463 (.ref 220) :: dE P "check_chance" 470 (.ref 227) :: dE P "check_pairs" 476 (.ref 232) :: dE P "joined_ways" 482 (.ref 237) :: dE P "Door" 529 (.ref 268) :: dE P "Sure" 556 (.ref 289) :: dE P "Mixed" 583 (.ref 308) :: dE P "Toss" 611 (.ref 327) :: dE P "Even" 633 (.ref 344) :: dE P "check_share" 642 (.ref 353) :: dE P "numbers_of" 652 (.ref 360) :: dE P "numbered_ways" 663 (.ref 367) :: dE P "offers_of" 674 (.ref 374) :: dE P "Hall" 748 (.ref 429) :: dE P "_law_cell" 758 (.ref 440) :: dE P "_law_stream" 770 (.ref 447) :: dE P "_law_gcd" 780 (.ref 454) :: dE P "_law_ratio" 789 (.ref 461) :: dE P "_law_names" 795 (.ref 466) :: dE P "_law_door" 801 (.ref 471) :: dE P "_law_doors" 807 (.ref 476) :: dE P "_law_built" 813 (.ref 481) :: dE P "_law_hall" 819 (.ref 486) :: dE P "_law_size" 827 (.ref 493) :: dE P "_law_ways" 833 (.ref 498) :: dE P "_law_leads" 839 (.ref 503) :: dE P "_law_goals" 845 (.ref 508) :: dE P "_law_on" 851 (.ref 513) :: dE P "_law_good" 857 (.ref 518) :: dE P "_law_lots" 863 (.ref 523) :: dE P "_law_right" 869 (.ref 528) :: dE P "_law_refused" 879 (.ref 535) :: dE P "_law_odd" 887 (.ref 542) :: dE P "_law_is_none" 900 (.ref 549) :: dE P "law" 906 (.ref 554) :: []⟩ 72),⟨[]⟩⟩) ::
 (nat_lit 15,tE) ::
 (nat_lit 17,(tN 190 ["k"])) ::
 (nat_lit 18,tE) ::
 (nat_lit 20,(cO "_wall" "_wall" 187 1 1 3 15 191)) ::
 (nat_lit 21,q21) ::
 (nat_lit 22,tE) ::
 (nat_lit 24,(tN 199 ["hall", "goals", "marks", "goal"])) ::
 (nat_lit 25,tE) ::
 (nat_lit 27,q27) ::
 (nat_lit 28,q28) ::
 (nat_lit 29,tE) ::
 (nat_lit 32,(cP "leads_of" "leads_of" 206 11 2 3 29 209)) ::
 (nat_lit 33,q33) ::
 (nat_lit 34,tE) ::
 (nat_lit 37,(cP "meets" "meets" 212 17 2 3 34 215)) ::
 (nat_lit 38,q38) ::
 (nat_lit 39,tE) ::
 (nat_lit 42,(cP "by_some" "by_some" 218 19 2 3 39 221)) ::
 (nat_lit 43,q43) ::
 (nat_lit 44,tE) ::
 (nat_lit 47,(cP "steps_to" "steps_to" 224 21 3 3 44 227)) ::
 (nat_lit 48,q48) ::
 (nat_lit 49,tE) ::
 (nat_lit 52,(cP "staying" "staying" 230 31 2 3 49 233)) ::
 (nat_lit 53,q53) ::
 (nat_lit 54,tE) ::
 (nat_lit 57,q57) ::
 (nat_lit 58,q58) ::
 (nat_lit 59,q59) ::
 (nat_lit 66,tE) ::
 (nat_lit 67,(q67 P)) ::
 (nat_lit 68,q68) ::
 (nat_lit 69,q69) ::
 (nat_lit 72,q72) ::
 (nat_lit 79,tE) ::
 (nat_lit 80,(q80 P)) ::
 (nat_lit 81,q81) ::
 (nat_lit 84,q84) ::
 (nat_lit 91,tE) ::
 (nat_lit 92,(q92 P)) ::
 (nat_lit 93,q93) ::
 (nat_lit 96,q96) ::
 (nat_lit 103,tE) ::
 (nat_lit 104,(aen P)) ::
 (nat_lit 105,aeP) ::
 (nat_lit 108,aeQ) ::
 (nat_lit 115,tE) ::
 (nat_lit 116,(adA P)) ::
 (nat_lit 117,aeY) ::
 (nat_lit 120,ae5) ::
 (nat_lit 127,tE) ::
 (nat_lit 129,(tN 341 ["self", "room"])) ::
 (nat_lit 130,tE) ::
 (nat_lit 132,aeB) ::
 (nat_lit 133,adl) ::
 (nat_lit 134,(tN 346 ["room"])) ::
 (nat_lit 135,(adM P)) ::
 (nat_lit 136,aeD) ::
 (nat_lit 139,tE) ::
 (nat_lit 141,(tN 356 ["thing"])) ::
 (nat_lit 142,tE) ::
 (nat_lit 144,(cO "is_whole" "is_whole" 353 59 1 3 139 357)) ::
 (nat_lit 145,aea) ::
 (nat_lit 146,tE) ::
 (nat_lit 148,acC) ::
 (nat_lit 149,tE) ::
 (nat_lit 151,(cO "divisor" "divisor" 360 61 2 3 146 368)) ::
 (nat_lit 152,acE) ::
 (nat_lit 153,adW) ::
 (nat_lit 154,acr) ::
 (nat_lit 155,tE) ::
 (nat_lit 157,(tN 382 ["top", "bottom", "common"])) ::
 (nat_lit 158,tE) ::
 (nat_lit 160,(cO "ratio" "ratio" 379 72 2 3 155 385)) ::
 (nat_lit 161,adk) ::
 (nat_lit 162,tE) ::
 (nat_lit 164,(tN 391 ["thing", "top", "bottom"])) ::
 (nat_lit 165,tE) ::
 (nat_lit 167,(cO "is_ratio" "is_ratio" 388 81 1 3 162 394)) ::
 (nat_lit 168,aef) ::
 (nat_lit 169,tE) ::
 (nat_lit 171,(tN 400 ["one", "other"])) ::
 (nat_lit 172,tE) ::
 (nat_lit 174,(cO "plus" "plus" 397 89 2 3 169 402)) ::
 (nat_lit 175,ac7) ::
 (nat_lit 176,tE) ::
 (nat_lit 178,(tN 408 ["one", "other"])) ::
 (nat_lit 179,tE) ::
 (nat_lit 181,(cO "minus" "minus" 405 91 2 3 176 410)) ::
 (nat_lit 182,ac6) ::
 (nat_lit 183,tE) ::
 (nat_lit 185,(tN 416 ["one", "other"])) ::
 (nat_lit 186,tE) ::
 (nat_lit 188,(cO "under" "under" 413 93 2 3 183 418)) ::
 (nat_lit 189,aeV) ::
 (nat_lit 190,tE) ::
 (nat_lit 193,(cP "level" "level" 423 96 1 3 190 426)) ::
 (nat_lit 194,adV) ::
 (nat_lit 195,tE) ::
 (nat_lit 197,(tN 432 ["fractions", "leveled"])) ::
 (nat_lit 198,tE) ::
 (nat_lit 200,(cO "total" "total" 429 101 1 3 195 434)) ::
 (nat_lit 201,adY) ::
 (nat_lit 202,tE) ::
 (nat_lit 205,(cP "is_word" "is_word" 441 106 1 3 202 444)) ::
 (nat_lit 206,aev) ::
 (nat_lit 207,tE) ::
 (nat_lit 209,(tN 452 ["name", "pay"])) ::
 (nat_lit 210,tE) ::
 (nat_lit 212,aeb) ::
 (nat_lit 213,adH) ::
 (nat_lit 214,tE) ::
 (nat_lit 216,(tN 460 ["room"])) ::
 (nat_lit 217,tE) ::
 (nat_lit 219,adq) ::
 (nat_lit 220,aeA) ::
 (nat_lit 221,tE) ::
 (nat_lit 223,(tN 467 ["chance"])) ::
 (nat_lit 224,tE) ::
 (nat_lit 226,acY) ::
 (nat_lit 227,acP) ::
 (nat_lit 228,tE) ::
 (nat_lit 231,adD) ::
 (nat_lit 232,aeH) ::
 (nat_lit 233,tE) ::
 (nat_lit 236,aes) ::
 (nat_lit 237,ad7) ::
 (nat_lit 245,tE) ::
 (nat_lit 247,(tN 498 ["self", "name", "pay"])) ::
 (nat_lit 248,tE) ::
 (nat_lit 250,ae3) ::
 (nat_lit 251,aeE) ::
 (nat_lit 252,tE) ::
 (nat_lit 254,(tN 507 ["self"])) ::
 (nat_lit 255,tE) ::
 (nat_lit 257,(cO "ways" "Door.ways" 504 141 1 3 252 508)) ::
 (nat_lit 258,aee) ::
 (nat_lit 259,tE) ::
 (nat_lit 261,(tN 514 ["self", "room"])) ::
 (nat_lit 262,tE) ::
 (nat_lit 264,acS) ::
 (nat_lit 265,ac1) ::
 (nat_lit 266,(tN 519 ["leads", "name", "pay"])) ::
 (nat_lit 267,(ad6 P)) ::
 (nat_lit 268,acT) ::
 (nat_lit 269,adQ) ::
 (nat_lit 270,adN) ::
 (nat_lit 273,ada) ::
 (nat_lit 280,tE) ::
 (nat_lit 282,(tN 545 ["self", "name", "pay", "room"])) ::
 (nat_lit 283,tE) ::
 (nat_lit 285,adp) ::
 (nat_lit 286,acw) ::
 (nat_lit 287,(tN 552 ["leads"])) ::
 (nat_lit 288,(adb P)) ::
 (nat_lit 289,aeo) ::
 (nat_lit 292,aep) ::
 (nat_lit 299,tE) ::
 (nat_lit 301,(tN 572 ["self", "name", "pay", "pairs"])) ::
 (nat_lit 302,tE) ::
 (nat_lit 304,acN) ::
 (nat_lit 305,adG) ::
 (nat_lit 306,(tN 579 ["leads"])) ::
 (nat_lit 307,(acK P)) ::
 (nat_lit 308,aeW) ::
 (nat_lit 311,ac9) ::
 (nat_lit 318,tE) ::
 (nat_lit 320,ac5) ::
 (nat_lit 321,tE) ::
 (nat_lit 323,aeJ) ::
 (nat_lit 324,acA) ::
 (nat_lit 325,tE) ::
 (nat_lit 326,(ad9 P)) ::
 (nat_lit 327,aeG) ::
 (nat_lit 330,adB) ::
 (nat_lit 337,tE) ::
 (nat_lit 340,aeh) ::
 (nat_lit 341,adJ) ::
 (nat_lit 342,tE) ::
 (nat_lit 343,(adR P)) ::
 (nat_lit 344,aei) ::
 (nat_lit 347,tE) ::
 (nat_lit 349,(tN 639 ["share"])) ::
 (nat_lit 350,tE) ::
 (nat_lit 352,acO) ::
 (nat_lit 353,aeU) ::
 (nat_lit 354,tE) ::
 (nat_lit 356,(tN 646 ["rooms", "numbers", "room", "name"])) ::
 (nat_lit 357,tE) ::
 (nat_lit 359,ad2) ::
 (nat_lit 360,aeZ) ::
 (nat_lit 361,tE) ::
 (nat_lit 363,ad4) ::
 (nat_lit 364,tE) ::
 (nat_lit 366,aeM) ::
 (nat_lit 367,ac2) ::
 (nat_lit 368,tE) ::
 (nat_lit 370,ac8) ::
 (nat_lit 371,tE) ::
 (nat_lit 373,adh) ::
 (nat_lit 374,acH) ::
 (nat_lit 382,tE) ::
 (nat_lit 385,acR) ::
 (nat_lit 386,aej) ::
 (nat_lit 387,tE) ::
 (nat_lit 389,(tN 696 ["self"])) ::
 (nat_lit 390,tE) ::
 (nat_lit 392,(cO "size" "Hall.size" 693 204 1 3 387 697)) ::
 (nat_lit 393,acI) ::
 (nat_lit 394,tE) ::
 (nat_lit 396,(tN 703 ["self"])) ::
 (nat_lit 397,tE) ::
 (nat_lit 399,(cO "names" "Hall.names" 700 207 1 3 394 704)) ::
 (nat_lit 400,acD) ::
 (nat_lit 401,tE) ::
 (nat_lit 403,(tN 710 ["self", "name"])) ::
 (nat_lit 404,tE) ::
 (nat_lit 406,(cO "place" "Hall.place" 707 210 2 3 401 712)) ::
 (nat_lit 407,acB) ::
 (nat_lit 408,tE) ::
 (nat_lit 410,(tN 718 ["self", "room"])) ::
 (nat_lit 411,tE) ::
 (nat_lit 413,aeT) ::
 (nat_lit 414,acM) ::
 (nat_lit 415,tE) ::
 (nat_lit 417,(tN 726 ["self", "room", "name"])) ::
 (nat_lit 418,tE) ::
 (nat_lit 420,acz) ::
 (nat_lit 421,ady) ::
 (nat_lit 422,tE) ::
 (nat_lit 425,aem) ::
 (nat_lit 426,adX) ::
 (nat_lit 427,(tN 738 ["numbers", "offered", "share"])) ::
 (nat_lit 428,(adw P)) ::
 (nat_lit 429,aec) ::
 (nat_lit 430,aeO) ::
 (nat_lit 431,aeu) ::
 (nat_lit 434,tE) ::
 (nat_lit 436,(tN 754 ["_law_script", "_law_k"])) ::
 (nat_lit 437,tE) ::
 (nat_lit 439,adU) ::
 (nat_lit 440,aew) ::
 (nat_lit 441,tE) ::
 (nat_lit 443,adS) ::
 (nat_lit 444,tE) ::
 (nat_lit 446,adT) ::
 (nat_lit 447,acU) ::
 (nat_lit 448,tE) ::
 (nat_lit 450,aeI) ::
 (nat_lit 451,tE) ::
 (nat_lit 453,acG) ::
 (nat_lit 454,adu) ::
 (nat_lit 455,tE) ::
 (nat_lit 457,aeX) ::
 (nat_lit 458,tE) ::
 (nat_lit 460,adg) ::
 (nat_lit 461,ad5) ::
 (nat_lit 462,tE) ::
 (nat_lit 465,adn) ::
 (nat_lit 466,adx) ::
 (nat_lit 467,tE) ::
 (nat_lit 470,aeL) ::
 (nat_lit 471,adf) ::
 (nat_lit 472,tE) ::
 (nat_lit 475,ae1) ::
 (nat_lit 476,acL) ::
 (nat_lit 477,tE) ::
 (nat_lit 480,ae6) ::
 (nat_lit 481,ac0) ::
 (nat_lit 482,tE) ::
 (nat_lit 485,aez) ::
 (nat_lit 486,adZ) ::
 (nat_lit 487,tE) ::
 (nat_lit 489,(tN 823 ["_law_cell_here", "_law_xs"])) ::
 (nat_lit 490,tE) ::
 (nat_lit 492,ae2) ::
 (nat_lit 493,acu) ::
 (nat_lit 494,tE) ::
 (nat_lit 497,ado) ::
 (nat_lit 498,adv) ::
 (nat_lit 499,tE) ::
 (nat_lit 502,ae4) ::
 (nat_lit 503,aeK) ::
 (nat_lit 504,tE) ::
 (nat_lit 507,ac3) ::
 (nat_lit 508,ae7) ::
 (nat_lit 509,tE) ::
 (nat_lit 512,(cP "_law_on" "_law_on" 846 318 3 3 509 849)) ::
 (nat_lit 513,ael) ::
 (nat_lit 514,tE) ::
 (nat_lit 517,ad0) ::
 (nat_lit 518,acZ) ::
 (nat_lit 519,tE) ::
 (nat_lit 522,aek) ::
 (nat_lit 523,aeN) ::
 (nat_lit 524,tE) ::
 (nat_lit 527,adE) ::
 (nat_lit 528,aex) ::
 (nat_lit 529,tE) ::
 (nat_lit 531,acs) ::
 (nat_lit 532,tE) ::
 (nat_lit 534,aeg) ::
 (nat_lit 535,ae0) ::
 (nat_lit 536,tE) ::
 (nat_lit 538,(tN 883 ["_law_cell_here", "_law_many"])) ::
 (nat_lit 539,tE) ::
 (nat_lit 541,adt) ::
 (nat_lit 542,acQ) ::
 (nat_lit 543,tE) ::
 (nat_lit 545,(tN 891 ["_law_hall_here", "_law_goals_here", "_law_cell_here", "_law_many", "_law_odd_here", "_law_at", "_law_told"])) ::
 (nat_lit 546,tE) ::
 (nat_lit 548,(cO "_law_is_none" "_law_is_none" 888 353 4 3 543 898)) ::
 (nat_lit 549,(fO "_law_is_none" "_law_is_none" (top 70) (.str "law_chancehall_k34_sure_rooms" 749) 548)) ::
 (nat_lit 550,tE) ::
 (nat_lit 553,(cP "law" "law" 901 358 1 3 550 904)) ::
 (nat_lit 554,(fO "law" "law" (top 71) (.str "law_chancehall_k34_sure_rooms" 749) 553)) ::
 ([] : List (Nat × Obj)))
abbrev asH:List Nat:=[2,3,15,17,18,20,21,22,24,25,27,28,29,32,33,34,37,38,39,42,43,44,47,48,49,52,53,54,57,58,59,66,67,68,69,72,79,80,81,84,91,92,93,96,103,104,105,108,115,116,117,120,127,129,130,132,133,134,135,136,139,141,142,144,145,146,148,149,151,152,153,154,155,157,158,160,161,162,164,165,167,168,169,171,172,174,175,176,178,179,181,182,183,185,186,188,189,190,193,194,195,197,198,200,201,202,205,206,207,209,210,212,213,214,216,217,219,220,221,223,224,226,227,228,231,232,233,236,237,245,247,248,250,251,252,254,255,257,258,259,261,262,264,265,266,267,268,269,270,273,280,282,283,285,286,287,288,289,292,299,301,302,304,305,306,307,308,311,318,320,321,323,324,325,326,327,330,337,340,341,342,343,344,347,349,350,352,353,354,356,357,359,360,361,363,364,366,367,368,370,371,373,374,382,385,386,387,389,390,392,393,394,396,397,399,400,401,403,404,406,407,408,410,411,413,414,415,417,418,420,421,422,425,426,427,428,429,430,431,434,436,437,439,440,441,443,444,446,447,448,450,451,453,454,455,457,458,460,461,462,465,466,467,470,471,472,475,476,477,480,481,482,485,486,487,489,490,492,493,494,497,498,499,502,503,504,507,508,509,512,513,514,517,518,519,522,523,524,527,528,529,531,532,534,535,536,538,539,541,542,543,545,546,548,549,550,553,554]
end
noncomputable def qv:Program:=view p [0,2,3,4,5,6,7,8,10,11,12,13,14,15,17,18,20,21,22,23,24,25,26,28,29,31,32,34,35,36,37,38,39,40,41,42,43,45,46,47,48,49,51,52,53,54,55,56,57,58,59,60,61,62,63,64,65,66,67,68,69,70,71]
abbrev R:RowW:=PySem.Challenge.rw_chancehall_k34_sure_rooms.row.toRowW
noncomputable def Xt (s:Shared):Bool:=xlAt qv [] s && recOk R.records s
def e:Pos:=⟨358,0,376,41⟩
set_option maxHeartbeats 0
theorem wsd:PySem.Challenge.rw_chancehall_k34_sure_rooms.wellSaid = true:=by kernel_rfl
theorem asK:∀ P,asH = (KH P).map (·.1):=fun _=>by kernel_rfl
theorem pre (w:World):(fun os=>topGo treeTable p w 11 ann 12 (S0 w os) (topStub p)) = fun os=>some (Sa w os,⟨denote treeTable (cE p),cE p,z,B⟩):=by
 rw [Fast.te15667345088766844465,Fast.te14364793385576792824,Fast.te11892475500146522536]; kernel_rfl
theorem block (w:World):(fun os=>segRun treeTable p w 11 ann 1 1 (Sa w os) (blockOf (behindTheImports p) (env p) (cE p) z B)) = fun os=>some (.next,(Sb w os).abs,cE p,z):=by
 rw [Fast.te14374325043358763698,Fast.te14364793385576792824]; kernel_rfl
theorem adC (w:World):(fun os=>segRunT treeTable p w 11 ann 1 30000 (Sb w os) (piecesOf ((behindTheImports p).take 70) (env p) (cE p) z B)) = fun os=>some (.next,S1 w os,cE p,e1):=by
 rw [Fast.te10110043849684766642,Fast.te14364793385576792824]; kernel_rfl
theorem big (w:World):(fun os=>(segRunT treeTable p w 11 ann 1 50000 (S1 w os) (piecesOf ((behindTheImports p).drop 70) (env p) (cE p) e1 B)).map fun r =>
  (r.1,r.2.2.1,r.2.2.2,(topRun treeTable p w 11 ann 2 r.2.1.abs ⟨doneF .next,cE p,e,B⟩).map fun s =>
   (staticsOk (importedModules p.main.body) (boot_heap w.params) s.heap && namesBound p s.heap && gensDone s && laidKept (boot_heap w.params) s.heap,openSeen qv [] (importedModules p.main.body) Xt true s,asH.map s.heap.get?))) =
  fun _=>some (.next,cE p,e,some (true,openGood qv [],(KH w.params).map fun p=>some p.2)):=by
 rw [Fast.te10110043849684766642,Fast.te14364793385576792824,Fast.te14082659384304107361,Fast.te4187177175401517315,Fast.te5923862056798008813]; kernel_rfl
theorem left:LeftO p qv [] Xt (fun s=>asH.map s.heap.get?) (fun w=>(KH w.params).map fun p=>some p.2) 200000 :=
 Ui (boot_open rfl rfl fun _=>rfl) pre block (fun w os=>m5.cutAt (congrFun (adC w) os) (m5.last (congrFun (big w) os))) rfl
theorem hX (s:Shared) (h:Xt s = true):XL qv [] (s.heap.nsMap mainGlobals) s.heap:=xl_of s (Bool.and_eq_true_iff.mp h).1
theorem hR (s:Shared) (h:Xt s = true):RecFacts R.records s.heap:=recFacts_of (Bool.and_eq_true_iff.mp h).2
end H34
namespace L2
open PySem PySem.Spec PyProof.Rows
abbrev Key:=Sum Int Str
def wK:Key->Value->Bool
 | .inl k,v=>Value.isInt k v
 | .inr x,v=>Value.isStrOf x v
def afn (w:World):Key->Int
 | .inl k=>hashInt k
 | .inr x=>hashStr w x
theorem fQ:∀ {k:Key} {v:Value},wK k v = true->(∃ i t,k = Sum.inl i/\v = Value.int i t)\/(∃ x t,k = Sum.inr x/\v = Value.str x t)
 | .inl i,v,h=>by
  obtain ⟨t,e⟩:=Value.isInt_shape (k:=i) (v:=v) h
  exact .inl ⟨i,t,rfl,e⟩
 | .inr x,v,h=>by
  obtain ⟨t,e⟩:=Value.isStrOf_shape (x:=x) (v:=v) h
  exact .inr ⟨x,t,rfl,e⟩
theorem SX (i:Int) (t:Tok):wK (.inl i) (.int i t) = true:=by simp [wK,Value.isInt]
theorem Tn (x:Str) (t:Tok):wK (.inr x) (.str x t) = true:=by simp [wK,Value.isStrOf]
theorem abo (a b:Int):decide ((Sum.inl a:Key) = Sum.inl b) = (a == b):=by
 by_cases e:a = b
 .subst e; simp
 .have h:¬ (Sum.inl a:Key) = Sum.inl b:=fun q=>e (Sum.inl.inj q)
  rw [decide_eq_false h]
  exact (beq_eq_false_iff_ne.mpr e).symm
theorem abR (a b:Str):decide ((Sum.inr a:Key) = Sum.inr b) = decide (a = b):=by
 by_cases e:a = b
 .subst e; simp
 .have h:¬ (Sum.inr a:Key) = Sum.inr b:=fun q=>e (Sum.inr.inj q)
  rw [decide_eq_false h,decide_eq_false e]
theorem acn (a:Int) (b:Str):decide ((Sum.inl a:Key) = Sum.inr b) = false:=decide_eq_false (fun q=>nomatch q)
theorem ach (a:Str) (b:Int):decide ((Sum.inr a:Key) = Sum.inl b) = false:=decide_eq_false (fun q=>nomatch q)
def fY (prog:Program) (w:World):PySem.KeyKind prog w Key where
 is:=wK
 hash:=afn w
 inj:=fun v a b ha hb=>by
  rcases fQ ha with ⟨i,t,rfl,rfl⟩ | ⟨x,t,rfl,rfl⟩
  .rcases fQ hb with ⟨j,u,rfl,e⟩ | ⟨y,u,rfl,e⟩
   .injection e with e1 _; rw [e1]
   .exact nomatch e
  .rcases fQ hb with ⟨j,u,rfl,e⟩ | ⟨y,u,rfl,e⟩
   .exact nomatch e
   .injection e with e1 _; rw [e1]
 byValue:=fun k v h=>by
  rcases fQ h with ⟨i,t,rfl,rfl⟩ | ⟨x,t,rfl,rfl⟩ <;> rfl
 pyHash:=fun hv h=>by
  rcases fQ hv with ⟨i,t,rfl,rfl⟩ | ⟨x,t,rfl,rfl⟩
  .exact wpAny_pyHash_int h
  .exact wpAny_pyHash_str h
 eqBool:=fun hu hv h=>by
  rcases fQ hu with ⟨i,t,rfl,rfl⟩ | ⟨x,t,rfl,rfl⟩
  .rcases fQ hv with ⟨j,u,rfl,rfl⟩ | ⟨y,u,rfl,rfl⟩
   .rw [abo] at h; exact wpAny_eqBool_int h
   .rw [acn] at h; exact SeqAt.EqAt.int_str i t y u _ _ _ _ h
  .rcases fQ hv with ⟨j,u,rfl,rfl⟩ | ⟨y,u,rfl,rfl⟩
   .rw [ach] at h; exact SeqAt.EqAt.str_int x t j u _ _ _ _ h
   .rw [abR] at h; exact wpAny_eqBool_str h
 «strs»:=fun k x t v h=>by
  rcases fQ h with ⟨i,u,rfl,e⟩ | ⟨y,u,rfl,e⟩
  .exact nomatch e
  .injection e with e1 _
   subst e1
   cases v <;> rfl
theorem KC (prog:Program) (w:World) (i:Int) (t:Tok):(fY prog w).is (.inl i) (.int i t) = true:=SX i t
theorem Mr (prog:Program) (w:World) (x:Str) (t:Tok):(fY prog w).is (.inr x) (.str x t) = true:=Tn x t
end L2
namespace L2
open PySem PySem.Spec PyProof.Rows
inductive V where
 | non | bl (b:Bool) | int (i:Int) | str (x:Str) | byt (b:Array UInt8) | flt (b:UInt64) | ref (a:Addr) | ty (n:String)
 deriving DecidableEq
def RelV:V->Value->Prop
 | .non,u=>u = Value.none
 | .bl b,u=>u = Value.bool b
 | .int i,u=>∃ t,u = Value.int i t
 | .str x,u=>∃ t,u = Value.str x t
 | .byt b,u=>∃ t,u = Value.bytes b t
 | .flt b,u=>∃ t,u = Value.float b t
 | .ref a,u=>u = Value.ref a
 | .ty n,u=>u = Value.type n
abbrev Vals:List V->List Value->Prop:=Paired RelV
theorem Vals.length {xs:List V} {us:List Value} (r:Vals xs us):xs.length = us.length:=Paired.length r
theorem Vals.get:∀ {xs:List V} {us:List Value} {i:Nat} {x:V},Vals xs us->xs[i]? = some x->∃ u,us[i]? = some u/\RelV x u
 | _,_,_,_,.nil,e=>by simp at e
 | _,_,0,_,.cons r _,e=>by simp at e; subst e; exact ⟨_,rfl,r⟩
 | _,_,i + 1,x,.cons _ t,e=>by
  obtain ⟨u,h1,h2⟩:=Vals.get (i:=i) (x:=x) t (by simpa using e)
  exact ⟨u,by simpa using h1,h2⟩
theorem Vals.set {x:V} {u:Value} (r:RelV x u):∀ {xs:List V} {us:List Value} (i:Nat),Vals xs us->Vals (xs.set i x) (us.set i u)
 | _,_,_,.nil=>.nil
 | _,_,0,.cons _ t=>.cons r t
 | _,_,i + 1,.cons q t=>.cons q (Vals.set r i t)
theorem Vals.append:∀ {xs ys:List V} {us ws:List Value},Vals xs us->Vals ys ws->Vals (xs ++ ys) (us ++ ws)
 | _,_,_,_,.nil,s=>s
 | _,_,_,_,.cons r t,s=>.cons r (Vals.append t s)
theorem Vals.take:∀ {xs:List V} {us:List Value} (n:Nat),Vals xs us->Vals (xs.take n) (us.take n)
 | _,_,0,_=>.nil
 | _,_,_ + 1,.nil=>.nil
 | _,_,n + 1,.cons r t=>.cons r (Vals.take n t)
theorem Vals.drop:∀ {xs:List V} {us:List Value} (n:Nat),Vals xs us->Vals (xs.drop n) (us.drop n)
 | _,_,0,r=>r
 | _,_,_ + 1,.nil=>.nil
 | _,_,n + 1,.cons _ t=>Vals.drop n t
def uN:Option V->Option Value->Prop
 | some v,some u=>RelV v u
 | none,none=>True
 | _,_=>False
def KV {κ:Type} : List (κ × V)->List (κ × Value)->Prop:=Paired fun (p:κ × V) (q:κ × Value)=>p.1 = q.1/\RelV p.2 q.2
def kV:Key->V
 | .inl i=>.int i
 | .inr x=>.str x
inductive HO where
  | lst (xs:List V)
  | tup (xs:List V)
  | dK (kvs:List (Key × V))
  | set (S:Int->Bool) (n:Nat)
  | ins (C dx:Addr) (fs:List (Str × V))
  | own (x:Addr)
  | xd (fs:List (Str × V))
  | met (f x:Addr)
  | rng (lo hi:Int)
  | frz (o:Obj) (u:HO)
  | tbl (ps:Array Value)
  | ext (φ:Heap->Prop)
abbrev Hp:=Addr->Option HO
def upd (H:Hp) (a:Addr) (o:HO):Hp:=fun b=>if b = a then some o else H b
theorem bC {H:Hp} {a:Addr} {o:HO} : upd H a o a = some o:=by unfold upd; rw [if_pos rfl]
theorem bF {H:Hp} {a b:Addr} {o:HO} (h:b ≠ a):upd H a o b = H b:=by unfold upd; rw [if_neg h]
theorem rm {H:Hp} {a:Addr} {o u:HO} : upd (upd H a o) a u = upd H a u:=by
 funext b; unfold upd; split <;> rfl
theorem eY {H:Hp} {a b:Addr} {o u:HO} (h:H a = some o) (h':H b = some u) (d:o ≠ u):a ≠ b:=by
 intro e; subst e; rw [h] at h'; exact d (Option.some.inj h')
theorem bD {H:Hp} {a b:Addr} {o:HO} (h:H a = some o) (h':H b = none):a ≠ b:=by
 intro e; subst e; rw [h] at h'; cases h'
section
variable (P:Program) (w:World)
def dz (H:Hp) (h:Heap) (a:Addr):HO->Prop
 | .lst xs=>xs.length <= sizeLine/\∃ (its:List Value) (n:Nat),Vals xs its/\h.get? a = some { cls:=.type "list",data:=.seq its.toArray n }
 | .tup xs=>xs.length <= sizeLine/\∃ its:List Value,Vals xs its/\IsTup h a its.toArray
 | .dK kvs=>kvs.length <= sizeLine/\(a == sysModules) = false/\∃ vs,KV kvs vs/\h.DictOf (fY P w) a vs
 | .set S n=>h.SetOf (intKind P w) a S n
 | .ins C dx fs=>H dx = some (.own a)/\fs.length <= 1000/\dx ≠ a/\h.get? a = some (PySem.W.instObj C dx) /\
   ∃ mA,h.Ns1 dx mA/\(∀ f,uN (fs.lookup f) (mA f))/\PySem.Within mA (fs.map (·.1))
 | .own _=>∃ o,h.get? a = some o
 | .xd fs=>∃ mA,h.Ns1 a mA/\∀ f,uN (fs.lookup f) (mA f)
 | .rng lo hi=>∃ t u v,h.get? a = some { cls:=.type "range",data:=.fields #[.int lo t,.int hi u,.int 1 v] }
 | .frz o u=>h.get? a = some o/\dz H h a u
 | .tbl ps=>h.get? a = some { cls:=.none,data:=.fields ps }
 | .met f x=>h.get? a = some (PySem.W.methodObj (.ref f) (.ref x))
 | .ext φ=>φ h/\(∃ o,h.get? a = some o)/\∀ h1 h2:Heap,φ h1->(∀ o,h1.get? a = some o->h2.get? a = some o)->φ h2
def HOk (H:Hp) (h:Heap):Prop:=∀ a o,H a = some o->dz P w H h a o
end
section
variable {P:Program} {w:World} {H H':Hp} {h h':Heap} {a:Addr} {o:HO}
theorem dz.lt (x:dz P w H h a o):a < h.objs.size:=by
 cases o with
 | lst xs=>obtain ⟨_,_,_,_,e⟩:=x; exact aJ e
 | tup xs=>obtain ⟨_,_,_,p⟩:=x; exact p.lt
 | dK kvs=>obtain ⟨_,_,_,_,o,_,_,e,_⟩:=x; exact aJ e
 | set S n=>obtain ⟨o,_,_,_,e,_⟩:=x; exact aJ e
 | ins C dx fs=>obtain ⟨_,_,_,e,_⟩:=x; exact aJ e
 | own y=>obtain ⟨_,e⟩:=x; exact aJ e
 | xd fs=>obtain ⟨_,⟨_,_,_,e,_⟩,_⟩:=x; exact aJ e
 | rng lo hi=>obtain ⟨_,_,_,e⟩:=x; exact aJ e
 | frz ob u=>obtain ⟨e,_⟩:=x; exact aJ e
 | tbl ps=>exact aJ (show h.get? a = some _ from x)
 | met f y=>exact aJ (show h.get? a = some _ from x)
 | ext φ=>obtain ⟨_,⟨_,e⟩,_⟩:=x; exact aJ e
theorem dz.stay (x:dz P w H h a o) (k:∀ b u,(b = a\/H b = some (.own a))->h.get? b = some u->h'.get? b = some u)
  (ho:∀ b,H b = some (.own a)->H' b = some (.own a)) (ht:∀ b xs,H b = some (.tup xs)->H' b = some (.tup xs)):dz P w H' h' a o:=by
 induction o with
 | lst xs=>obtain ⟨z,its,n,r,e⟩:=x; exact ⟨z,its,n,r,k _ _ (.inl rfl) e⟩
 | tup xs=>obtain ⟨z,its,r,ob,e,c⟩:=x; exact ⟨z,its,r,ob,k _ _ (.inl rfl) e,c⟩
 | dK kvs=>obtain ⟨z,y,vs,r,ob,es,ep,e,c⟩:=x; exact ⟨z,y,vs,r,ob,es,ep,k _ _ (.inl rfl) e,c⟩
 | set S n=>obtain ⟨ob,es,ep,t,e,c⟩:=x; exact ⟨ob,es,ep,t,k _ _ (.inl rfl) e,c⟩
 | ins C dx fs =>
  obtain ⟨d,z,ne,e,mA,⟨od,es,ep,e2,c⟩,r⟩:=x
  exact ⟨ho _ d,z,ne,k _ _ (.inl rfl) e,mA,⟨od,es,ep,k _ _ (.inr d) e2,c⟩,r⟩
 | own y=>obtain ⟨ob,e⟩:=x; exact ⟨ob,k _ _ (.inl rfl) e⟩
 | xd fs=>obtain ⟨mA,⟨od,es,ep,e,c⟩,r⟩:=x; exact ⟨mA,⟨od,es,ep,k _ _ (.inl rfl) e,c⟩,r⟩
 | rng lo hi=>obtain ⟨t,u,v,e⟩:=x; exact ⟨t,u,v,k _ _ (.inl rfl) e⟩
 | frz ob u ih=>obtain ⟨e,q⟩:=x; exact ⟨k _ _ (.inl rfl) e,ih q⟩
 | tbl ps =>
  have e:h.get? a = some { cls:=.none,data:=.fields ps }:=x
  show h'.get? a = some { cls:=.none,data:=.fields ps }
  exact k a _ (.inl rfl) e
 | met f y =>
  have e:h.get? a = some (PySem.W.methodObj (.ref f) (.ref y)):=x
  show h'.get? a = some (PySem.W.methodObj (.ref f) (.ref y))
  exact k a _ (.inl rfl) e
 | ext φ=>obtain ⟨p,⟨o,e⟩,st⟩:=x; exact ⟨st _ _ p fun o q=>k _ _ (.inl rfl) q,⟨o,k _ _ (.inl rfl) e⟩,st⟩
theorem HOk.lt (x:HOk P w H h) (e:H a = some o):a < h.objs.size:=(x a o e).lt
theorem HOk.fresh (x:HOk P w H h) (e:h.objs.size <= a):H a = none:=by
 cases q:H a with
 | none=>rfl
 | some u=>exact absurd (aU (x.lt q) e) (Nat.lt_irrefl _)
theorem HOk.kept (x:HOk P w H h) (k:∀ b u,h.get? b = some u->h'.get? b = some u):HOk P w H h':=fun a o e =>
 (x a o e).stay (fun b u _ q=>k b u q) (fun _ q=>q) fun _ _ q=>q
theorem HOk.laid (x:HOk P w H h) (k:∀ b u,h.get? b = some u->h'.get? b = some u) (hp:h.objs.size <= a) (new:dz P w (upd H a o) h' a o):HOk P w (upd H a o) h':=fun b u e=>by
 have hn:=x.fresh hp
 by_cases hb:b = a
 .subst hb; rw [bC] at e; cases e; exact new
 .rw [bF hb] at e
  exact (x b u e).stay (fun c v _ q=>k c v q) (fun c q=>by rw [bF (bD q hn)]; exact q) fun c xs q=>by rw [bF (bD q hn)]; exact q
end
def Rd (H:Hp) (a:Addr) (u:HO):Prop:=H a = some u\/∃ o,H a = some (.frz o u)
theorem Rd.ok {P:Program} {w:World} {H:Hp} {h:Heap} {a:Addr} {u:HO} (r:Rd H a u) (x:HOk P w H h):dz P w H h a u:=by
 rcases r with r | ⟨o,r⟩
 .exact x a u r
 .obtain ⟨_,q⟩:=x a _ r
  exact q
def Mut:Option HO->Prop
 | some (.lst _)=>True
 | some (.dK _)=>True
 | some (.set _ _)=>True
 | some (.ins _ _ _)=>True
 | some (.ext _)=>True
 | _=>False
section
variable {P:Program} {w:World} {H:Hp} {h h':Heap} {x e:Addr} {o':HO}
theorem HOk.write (ok:HOk P w H h) (mu:Mut (H x)) (he:e = x\/H e = some (.own x)) (k:∀ b u,b ≠ e->h.get? b = some u->h'.get? b = some u) (heo:∃ u,h'.get? e = some u)
  (new:dz P w (upd H x o') h' x o'):HOk P w (upd H x o') h':=fun b u q=>by
 have nown:∀ c y,H c = some (.own y)->c ≠ x:=fun c y r z=>by subst z; rw [r] at mu; exact mu
 have ntup:∀ c xs,H c = some (.tup xs)->c ≠ x:=fun c xs r z=>by subst z; rw [r] at mu; exact mu
 by_cases hb:b = x
 .subst hb; rw [bC] at q; cases q; exact new
 .rw [bF hb] at q
  by_cases hbe:b = e
  .have q':H b = some (.own x):=by
    rcases he with z | z
    .exact absurd (hbe.trans z) hb
    .rw [hbe]; exact z
   rw [q] at q'; cases q'
   obtain ⟨v,hv⟩:=heo
   exact ⟨v,by rw [hbe]; exact hv⟩
  .refine (ok b u q).stay (fun c v hc r=>k c v ?_ r) (fun c r=>by rw [bF (nown c b r)]; exact r) fun c xs r=>by rw [bF (ntup c xs r)]; exact r
   rcases hc with rfl | hc
   .exact hbe
   .rintro rfl
    rcases he with z | z
    .exact nown c b hc z
    .rw [hc] at z; cases z; exact hb rfl
end
structure Un (fs ex:List Addr) (H H':Hp) (h h':Heap):Prop where
 keep:∀ b o,h.get? b = some o->H b = none->b ∉ fs->b ∉ ex->h'.get? b = some o
 slot:∀ b o,h.get? b = some o->H b = none->b ∈ fs->b ∉ ex->∃ sl,h'.get? b = some { o with slots:=sl }
 free:∀ b o,h.get? b = some o->H b = none->b ∉ ex->H' b = none
 there:∀ b o,h.get? b = some o->b ∉ ex->∃ o',h'.get? b = some o'
 tups:∀ b xs,H b = some (.tup xs)->H' b = some (.tup xs)
 frzs:∀ b o u,H b = some (.frz o u)->H' b = some (.frz o u)
 tbls:∀ b ps,H b = some (.tbl ps)->∃ more,H' b = some (.tbl (ps ++ more))
section
variable {fs fs' ex ex':List Addr} {H H1 H2:Hp} {h h1 h2 h':Heap} {a x e:Addr} {o:HO}
theorem Un.any (u:Un fs ex H H1 h h1) {b:Addr} {ob:Obj} (q:h.get? b = some ob) (n:H b = none) (hx:b ∉ ex):∃ sl,h1.get? b = some { ob with slots:=sl }:=by
 by_cases hb:b ∈ fs
 .exact u.slot b ob q n hb hx
 .exact ⟨ob.slots,u.keep b ob q n hb hx⟩
theorem Un.kept (k:∀ b u,h.get? b = some u->h'.get? b = some u):Un fs ex H H h h' :=
 ⟨fun b ob q _ _ _=>k b ob q,fun b ob q _ _ _=>⟨ob.slots,k b ob q⟩,fun _ _ _ n _=>n,fun b ob q _=>⟨ob,k b ob q⟩,fun _ _ q=>q,fun _ _ _ q=>q,fun _ ps q=>⟨#[],by rw [q]; simp⟩⟩
theorem Un.refl:Un fs ex H H h h:=Un.kept fun _ _ q=>q
theorem Un.laid (k:∀ b u,h.get? b = some u->h'.get? b = some u) (hp:h.objs.size <= a) (hn:H a = none):Un fs ex H (upd H a o) h h' where
 keep:=fun b u q _ _ _=>k b u q
 slot:=fun b u q _ _ _=>⟨u.slots,k b u q⟩
 free:=fun b u q n _=>by rw [bF (aR (aU (aJ q) hp))]; exact n
 there:=fun b u q _=>⟨u,k b u q⟩
 tups:=fun b xs q=>by rw [bF (bD q hn)]; exact q
 frzs:=fun b u xs q=>by rw [bF (bD q hn)]; exact q
 tbls:=fun b ps q=>⟨#[],by rw [bF (bD q hn),q]; simp⟩
theorem Un.write (mu:Mut (H x)) (he:e = x\/H e = some (.own x)) (k:∀ b u,b ≠ e->h.get? b = some u->h'.get? b = some u) (heo:∃ u,h'.get? e = some u):Un fs ex H (upd H x o) h h':=by
 have hx:∀ b,H b = none->b ≠ x:=fun b n z=>by subst z; rw [n] at mu; exact mu
 have hb:∀ b,H b = none->b ≠ e:=fun b n z=>by
  subst z
  rcases he with r | r
  .exact hx b n r
  .rw [n] at r; cases r
 have hm:∀ b u,H b = some u->¬ Mut (some u)->b ≠ x:=fun b u q nm z=>by subst z; rw [q] at mu; exact nm mu
 refine ⟨fun b u q n _ _=>k b u (hb b n) q,fun b u q n _ _=>⟨u.slots,k b u (hb b n) q⟩,fun b u q n _=>by rw [bF (hx b n)]; exact n,fun b u q _=>?_,
  fun b xs q=>by rw [bF (hm b _ q fun z=>z)]; exact q,fun b u xs q=>by rw [bF (hm b _ q fun z=>z)]; exact q,fun b ps q=>⟨#[],by rw [bF (hm b _ q fun z=>z),q]; simp⟩⟩
 by_cases hbe:b = e
 .subst hbe; exact heo
 .exact ⟨u,k b u hbe q⟩
end
def trk (h:Heap) (H:Hp):List Addr:=(List.range h.objs.size).filter fun a=>(H a).isSome
def I9 (h:Heap) (H:Hp):Heap:=PySem.W.hideAll h (trk h H)
theorem Ue (h:Heap) (H:Hp):(I9 h H).objs.size = h.objs.size:=PySem.W.hideAll_size _ _
theorem XD {h:Heap} {H:Hp} {b:Addr} {o:Obj} (e:h.get? b = some o) (n:H b = none):(I9 h H).get? b = some o :=
 PySem.W.hideAll_get _ e fun hm=>by
  have q:(H b).isSome = true:=(List.mem_filter.mp hm).2
  rw [n] at q; simp at q
theorem aaf {h:Heap} {H:Hp} {b:Addr} {o:Obj} (e:(I9 h H).get? b = some o):h.get? b = some o/\H b = none:=by
 have e':h.get? b = some o:=PySem.W.of_hideAll (trk h H) e
 refine ⟨e',?_⟩
 cases q:H b with
 | none=>rfl
 | some x =>
  have hm:b ∈ trk h H:=List.mem_filter.mpr ⟨List.mem_range.mpr (aJ e'),by simp [q]⟩
  have z:(I9 h H).get? b = none:=PySem.W.hideAll_none (trk h H) hm
  rw [z] at e; cases e
def aat (g h:Heap) (L:Addr):List (Addr × Obj):=(List.range h.objs.size).filterMap fun a=>if a = L\/(g.get? a).isSome = true then none else (h.get? a).map fun o=>(a,o)
def rest (g h:Heap) (L d:Addr):List (Addr × Obj):=(aat g h L).filter fun p=>decide (p.1 ≠ d)
end L2
namespace L2
open PySem PySem.Spec PyProof.Rows
structure Mod (K:Frag) (mg:Str->Option Value) (base:Heap):Prop where
 kin:K.In base
 glob:base.Ns mainGlobals mg
 blt:∃ mb,base.Ns builtinsNs mb/\∀ x:Str,x ≠ "__name__" -> mb x = bootBuiltins x
 nolimit:base.NoLimit
structure Cx where
 prog:Program
 w:World
 K:Frag
 mg:Str->Option Value
 base:Heap
 A:Around
 N:List Str
 s₀:Shared
 H₀:Hp
 env:Env
 outer:List Env
 stack:List Env
 ex:List Addr
 fn:Str->Bool
 calm:Bool
 pn:List (Addr × Obj)
 xe:Value->Shared->Prop
def frs (l:List Env):List Addr:=l.filterMap (·.frame)
abbrev Cx.fs (X:Cx):List Addr:=frs X.outer
def Vis (sc:Scope) (x:Str):Prop:=sc.names.lookup x = some .local\/sc.names.lookup x = some .cell\/sc.names.lookup x = some .free
def Loc (sc:Scope) (x:Str):Prop:=sc.names.lookup x = some .local\/sc.names.lookup x = some .cell
def Look (env:Env) (h:Heap) (m:Str->Option Value) (x:Str) (u:Value):Prop :=
 (env.kindOf x = some .local/\m x = some u)\/((env.kindOf x = some .cell\/env.kindOf x = some .free)/\∃ c,env.cells.lookup x = some c/\h.IsCell c (some u))
structure Cx.Ok (X:Cx):Prop where
 mod:Mod X.K X.mg X.base
 kind:X.env.scope.kind = .function
 glob:X.env.globals = mainGlobals
 blt:X.env.builtins = builtinsNs
 above:X.s₀.heap.objs.size <= X.env.locals
 inj:∀ x y c,X.env.cells.lookup x = some c->X.env.cells.lookup y = some c->x = y
 has:∀ x,(X.env.kindOf x = some .cell\/X.env.kindOf x = some .free)->∃ c,X.env.cells.lookup x = some c
 cab:∀ x c,X.fn x = true->X.env.cells.lookup x = some c->X.s₀.heap.objs.size <= c
 hd:X.calm = true->X.A.handled = none
 frames:X.A.frames = some X.stack
 stk:X.stack = X.outer\/(X.stack = X.env :: X.outer/\X.env.frame = some X.env.locals)
 exf:∀ b ∈ X.ex,b ≠ X.env.locals/\∀ x c,X.env.cells.lookup x = some c->c ≠ b
 bs:∀ b o,X.base.get? b = some o->X.s₀.heap.get? b = some o/\X.H₀ b = none
 bsz:X.base.objs.size <= X.s₀.heap.objs.size
 noex:∀ b o,X.base.get? b = some o->b ∉ X.ex
 exfs:∀ b ∈ X.ex,b ∉ X.fs
 funs:X.s₀.heap.FunFrames X.base X.outer
 frf:∀ b ∈ X.fs,X.H₀ b = none
structure Inv (X:Cx) (pins:List (Addr × Obj)) (σ:List (Option V)) (H:Hp) (s:Shared):Prop where
 ok:X.Ok
 os:s.os = X.s₀.os
 bare:AllBare s.gens
 base:Un X.fs X.ex X.H₀ H X.s₀.heap s.heap
 loc:∃ m,s.heap.Ns X.env.locals m/\∀ (i:Nat) (x:Str) (v:V),X.N[i]? = some x->σ[i]? = some (some v)->Vis X.env.scope x->∃ u,RelV v u/\Look X.env s.heap m x u
 cell:∀ x c,X.env.cells.lookup x = some c->∃ v,s.heap.IsCell c v
 free:H X.env.locals = none
 freeC:∀ x c,X.env.cells.lookup x = some c->H c = none
 pin:∀ p ∈ X.pn ++ pins,s.heap.get? p.1 = some p.2/\H p.1 = none/\p.1 ≠ X.env.locals/\p.1 ∉ X.fs/\∀ v,p.2.data ≠ .cell v
 hok:HOk X.prog X.w H s.heap
 len:σ.length = X.N.length
section
variable {X:Cx} {pins:List (Addr × Obj)} {σ:List (Option V)} {H H':Hp} {s:Shared} {h':Heap}
theorem Cx.Ok.nofr (ok:X.Ok) {b:Addr} {o:Obj} (e:X.base.get? b = some o):b ∉ X.fs:=fun hb=>by
 have:=(ok.funs.mem hb).1
 rw [e] at this; cases this
theorem Inv.bs (I:Inv X pins σ H s):∀ b o,X.base.get? b = some o->s.heap.get? b = some o/\H b = none:=fun b o e =>
 ⟨I.base.keep b o (I.ok.bs b o e).1 (I.ok.bs b o e).2 (I.ok.nofr e) (I.ok.noex b o e),I.base.free b o (I.ok.bs b o e).1 (I.ok.bs b o e).2 (I.ok.noex b o e)⟩
theorem Inv.bk (I:Inv X pins σ H s):∀ b o,X.base.get? b = some o->s.heap.get? b = some o:=fun b o e=>(I.bs b o e).1
theorem Inv.mod (I:Inv X pins σ H s):Mod X.K X.mg X.base:=I.ok.mod
theorem Inv.kIn (I:Inv X pins σ H s):X.K.In s.heap:=I.ok.mod.kin.keeps I.bk
theorem Inv.fr (I:Inv X pins σ H s):∃ m,Fr X.base X.env.locals s.heap m :=
 let ⟨m,hn,_⟩:=I.loc
 ⟨m,hn,I.bk,aL I.ok.bsz I.ok.above⟩
theorem Inv.lt (I:Inv X pins σ H s):X.env.locals < s.heap.objs.size:=let ⟨_,hn,_⟩:=I.loc; hn.lt
theorem Inv.sz (I:Inv X pins σ H s):X.s₀.heap.objs.size <= s.heap.objs.size:=aL I.ok.above (Nat.le_of_lt I.lt)
theorem Inv.nofs (I:Inv X pins σ H s) {a:Addr} (h:s.heap.objs.size <= a):a ∉ X.fs:=fun hb=>by
 obtain ⟨_,o,ho,_⟩:=I.ok.funs.mem hb
 exact absurd (aU (aJ ho) (aL I.sz h)) (Nat.lt_irrefl _)
theorem Inv.cne (I:Inv X pins σ H s):∀ x c,X.env.cells.lookup x = some c->c ≠ X.env.locals:=fun x c e z=>by
 obtain ⟨v,o,ho,hd⟩:=I.cell x c e
 obtain ⟨m,⟨o',es,ep,ho',hd',_⟩,_⟩:=I.loc
 rw [z,ho'] at ho; cases ho; rw [hd'] at hd; cases hd
theorem Inv.funs (I:Inv X pins σ H s):s.heap.FunFrames X.base X.outer:=by
 have all:∀ (l:List Env),(∀ b ∈ frs l,b ∈ X.fs)->X.s₀.heap.FunFrames X.base l->s.heap.FunFrames X.base l:=by
  intro l
  induction l with
  | nil=>intro _ _; trivial
  | cons env r ih =>
   intro hs hl
   obtain ⟨hk,⟨L,o,hf,hn,ho,hd⟩,hr⟩:=hl
   have hL:L ∈ X.fs:=hs L (by unfold frs; rw [List.filterMap_cons,hf]; exact aO)
   obtain ⟨sl,e⟩:=I.base.slot L o ho (I.ok.frf L hL) hL fun z=>I.ok.exfs L z hL
   exact ⟨hk,⟨L,_,hf,hn,e,hd⟩,ih (fun b hb=>hs b (by unfold frs; rw [List.filterMap_cons,hf]; exact aH _ hb)) hr⟩
 exact all X.outer (fun _ hb=>hb) I.ok.funs
theorem Inv.stack (I:Inv X pins σ H s):s.heap.FunFrames X.base X.stack:=by
 rcases I.ok.stk with e | ⟨e,hf⟩
 .rw [e]; exact I.funs
 .rw [e]
  obtain ⟨m,hn,_⟩:=I.loc
  refine .cons (by rw [I.ok.kind]; decide) hf hn ?_ I.funs
  exact Heap.get?_none_of_le (aL I.ok.bsz I.ok.above)
theorem Inv.stkSub (I:Inv X pins σ H s):∀ b ∈ frs X.stack,b ∈ X.env.locals :: X.fs:=fun b hb=>by
 rcases I.ok.stk with e | ⟨e,hf⟩
 .rw [e] at hb; exact aH _ hb
 .rw [e] at hb
  unfold frs at hb
  rw [List.filterMap_cons,hf] at hb
  exact hb
theorem Inv.stkFree (I:Inv X pins σ H s):∀ b ∈ frs X.stack,H b = none:=fun b hb=>by
 rcases List.mem_cons.mp (I.stkSub b hb) with e | hb
 .rw [e]; exact I.free
 .obtain ⟨_,o,ho,_⟩:=I.ok.funs.mem hb
  exact I.base.free b o ho (I.ok.frf b hb) fun z=>I.ok.exfs b z hb
theorem Inv.step {g':Array GenState} {t':Nat} {d':Drawn} {ch:List Addr} (I:Inv X pins σ H s)
  (hch:∀ b ∈ ch,(b ∈ X.ex\/X.s₀.heap.objs.size <= b)/\b ≠ X.env.locals/\(∀ x c,X.env.cells.lookup x = some c->c ≠ b)/\∀ p ∈ X.pn ++ pins,p.1 ≠ b)
  (keep:∀ b o,b ≠ X.env.locals->b ∉ X.fs->b ∉ ch->s.heap.get? b = some o->H b = none->h'.get? b = some o)
  (slot:∀ b o,b ≠ X.env.locals->b ∈ X.fs->b ∉ ch->s.heap.get? b = some o->H b = none->∃ sl,h'.get? b = some { o with slots:=sl }) (free:∀ b o,b ∉ ch->s.heap.get? b = some o->H b = none->H' b = none)
  (there:∀ b o,b ∉ ch->s.heap.get? b = some o->∃ o',h'.get? b = some o')
  (tups:∀ b xs,H b = some (.tup xs)->H' b = some (.tup xs)) (frzs:∀ b o u,H b = some (.frz o u)->H' b = some (.frz o u)) (tbls:∀ b ps,H b = some (.tbl ps)->∃ more,H' b = some (.tbl (ps ++ more)))
  (ns:∀ m,s.heap.Ns X.env.locals m->h'.Ns X.env.locals m) (hok:HOk X.prog X.w H' h') (hg:AllBare g') :
  Inv X pins σ H' { s with heap:=h',gens:=g',drawn:=d',toks:=t' }:=by
 have neL:∀ b o,X.s₀.heap.get? b = some o->b ≠ X.env.locals:=fun b o e=>aR (aU (aJ e) I.ok.above)
 have neC:∀ b o,X.s₀.heap.get? b = some o->b ∉ X.ex->b ∉ ch:=fun b o e hx hb=>by
  rcases (hch b hb).1 with z | z
  .exact hx z
  .exact absurd (aU (aJ e) z) (Nat.lt_irrefl _)
 have cellK:∀ x c,X.env.cells.lookup x = some c->∀ v,s.heap.IsCell c v->h'.IsCell c v:=fun x c e v ⟨o,ho,hd⟩=>by
  have nch:c ∉ ch:=fun z=>(hch c z).2.2.1 x c e rfl
  by_cases hc:c ∈ X.fs
  .obtain ⟨sl,q⟩:=slot c o (I.cne x c e) hc nch ho (I.freeC x c e)
   exact ⟨_,q,hd⟩
  .exact ⟨o,keep c o (I.cne x c e) hc nch ho (I.freeC x c e),hd⟩
 refine ⟨I.ok,I.os,hg,⟨fun b o e n hb hx=>?_,fun b o e n hb hx=>?_,fun b o e n hx=>?_,fun b o e hx=>?_,fun b xs e=>tups b xs (I.base.tups b xs e),fun b o xs e=>frzs b o xs (I.base.frzs b o xs e),fun b ps e=>?_⟩,?_,fun x c e=>?_,?_,fun x c e=>?_,fun p hp=>?_,hok,I.len⟩
 .exact keep b o (neL b o e) hb (neC b o e hx) (I.base.keep b o e n hb hx) (I.base.free b o e n hx)
 .obtain ⟨sl,e1⟩:=I.base.slot b o e n hb hx
  obtain ⟨sl',e2⟩:=slot b _ (neL b o e) hb (neC b o e hx) e1 (I.base.free b o e n hx)
  exact ⟨sl',e2⟩
 .obtain ⟨o',e1⟩:=I.base.there b o e hx
  exact free b o' (neC b o e hx) e1 (I.base.free b o e n hx)
 .obtain ⟨o',e1⟩:=I.base.there b o e hx
  exact there b o' (neC b o e hx) e1
 .obtain ⟨m1,e1⟩:=I.base.tbls b ps e
  obtain ⟨m2,e2⟩:=tbls b _ e1
  exact ⟨m1 ++ m2,by rw [e2,Array.append_assoc]⟩
 .obtain ⟨m,hn,hl⟩:=I.loc
  refine ⟨m,ns m hn,fun i x v e1 e2 e3=>?_⟩
  obtain ⟨u,r,l⟩:=hl i x v e1 e2 e3
  refine ⟨u,r,?_⟩
  rcases l with l | ⟨k,c,e,z⟩
  .exact .inl l
  .exact .inr ⟨k,c,e,cellK x c e _ z⟩
 .obtain ⟨v,z⟩:=I.cell x c e
  exact ⟨v,cellK x c e v z⟩
 .obtain ⟨m,⟨o,_,_,ho,_⟩,_⟩:=I.loc
  exact free _ o (fun z=>(hch _ z).2.1 rfl) ho I.free
 .obtain ⟨v,o,ho,hd⟩:=I.cell x c e
  exact free c o (fun z=>(hch c z).2.2.1 x c e rfl) ho (I.freeC x c e)
 .obtain ⟨e,n,ne,nf,d⟩:=I.pin p hp
  have nch:p.1 ∉ ch:=fun z=>(hch p.1 z).2.2.2 p hp rfl
  exact ⟨keep p.1 p.2 ne nf nch e n,free p.1 p.2 nch e n,ne,nf,d⟩
theorem Inv.un {t':Nat} (I:Inv X pins σ H s) (u:Un X.fs [] H H' s.heap h') (hok:HOk X.prog X.w H' h'):Inv X pins σ H' { s with heap:=h',toks:=t' }:=by
 obtain ⟨m,⟨o,es,ep,ho,r⟩,_⟩:=id I.loc
 obtain ⟨sl,hL⟩:=u.any ho I.free (by simp)
 exact I.step (g':=s.gens) (d':=s.drawn) (ch:=[]) (fun _ z=>nomatch z) (fun b o _ hb _ e n=>u.keep b o e n hb (by simp)) (fun b o _ hb _ e n=>u.slot b o e n hb (by simp)) (fun b o _ e n=>u.free b o e n (by simp)) (fun b o _ e=>u.there b o e (by simp)) u.tups u.frzs u.tbls (fun m' hm=>by
  obtain ⟨o',es',ep',ho',r'⟩:=hm
  rw [ho] at ho'; cases ho'
  exact ⟨_,es',ep',hL,r'⟩) hok I.bare
theorem Inv.call {g':Array GenState} {t':Nat} {d':Drawn} {ch:List Addr} (I:Inv X pins σ H s) (u:Un (frs X.stack) ch H H' s.heap h') (hok:HOk X.prog X.w H' h') (hg:AllBare g')
  (hch:∀ b ∈ ch,(b ∈ X.ex\/X.s₀.heap.objs.size <= b)/\b ≠ X.env.locals/\(∀ x c,X.env.cells.lookup x = some c->c ≠ b)/\∀ p ∈ X.pn ++ pins,p.1 ≠ b) :
  Inv X pins σ H' { s with heap:=h',gens:=g',drawn:=d',toks:=t' }:=by
 obtain ⟨m,⟨o,es,ep,ho,r⟩,_⟩:=id I.loc
 obtain ⟨sl,hL⟩:=u.any ho I.free fun z=>(hch _ z).2.1 rfl
 exact I.step (ch:=ch) hch (fun b o hL hb hc e n=>u.keep b o e n (fun z=>(List.mem_cons.mp (I.stkSub b z)).elim hL hb) hc) (fun b o _ _ hc e n=>u.any e n hc) (fun b o hc e n=>u.free b o e n hc) (fun b o hc e=>u.there b o e hc) u.tups u.frzs u.tbls (fun m' hm=>by
  obtain ⟨o',es',ep',ho',r'⟩:=hm
  rw [ho] at ho'; cases ho'
  exact ⟨_,es',ep',hL,r'⟩) hok hg
theorem Inv.turned {t':Nat} {it:Addr} (I:Inv X pins σ H s) (k:∀ b o,b ≠ it->s.heap.get? b = some o->h'.get? b = some o) (hn:H it = none) (hL:it ≠ X.env.locals)
  (h1:it ∈ X.ex\/X.s₀.heap.objs.size <= it) (h2:∀ x c,X.env.cells.lookup x = some c->c ≠ it) (h3:∀ p ∈ X.pn ++ pins,p.1 ≠ it):Inv X pins σ H { s with heap:=h',toks:=t' }:=by
 have nit:∀ b u,H b = some u->b ≠ it:=fun b u e z=>by rw [z,hn] at e; cases e
 refine I.step (g':=s.gens) (d':=s.drawn) (ch:=[it]) (fun b hb=>?_) (fun b o _ _ hc e _=>k b o (fun z=>hc (by simp [z])) e) (fun b o _ _ hc e _=>⟨o.slots,k b o (fun z=>hc (by simp [z])) e⟩) (fun _ _ _ _ n=>n)
  (fun b o hc e=>⟨o,k b o (fun z=>hc (by simp [z])) e⟩) (fun _ _ e=>e) (fun _ _ _ e=>e) (fun b ps e=>⟨#[],by rw [e]; simp⟩) (fun m hm=>?_) (fun b u e=>?_) I.bare
 .have e:b = it:=by simpa using hb
  subst e
  exact ⟨h1,hL,h2,h3⟩
 .obtain ⟨o,es,ep,ho,r⟩:=hm
  exact ⟨o,es,ep,k _ o (Ne.symm hL) ho,r⟩
 .refine (I.hok b u e).stay (fun c v hc q=>k c v ?_ q) (fun _ q=>q) fun _ _ q=>q
  rcases hc with z | z
  .rw [z]; exact nit b u e
  .exact nit c _ z
theorem Inv.tok (I:Inv X pins σ H s) (t:Nat):Inv X pins σ H { s with toks:=t }:=I.un (h':=s.heap) (t':=t) Un.refl I.hok
theorem Inv.kept {t':Nat} (I:Inv X pins σ H s) (k:∀ b u,s.heap.get? b = some u->h'.get? b = some u):Inv X pins σ H { s with heap:=h',toks:=t' }:=I.un (Un.kept k) (I.hok.kept k)
theorem Inv.laid {a:Addr} {o:HO} {t':Nat} (I:Inv X pins σ H s) (k:∀ b u,s.heap.get? b = some u->h'.get? b = some u) (hp:s.heap.objs.size <= a) (new:dz X.prog X.w (upd H a o) h' a o) :
  Inv X pins σ (upd H a o) { s with heap:=h',toks:=t' }:=I.un (Un.laid k hp (I.hok.fresh hp)) (I.hok.laid k hp new)
theorem Inv.write {x e:Addr} {o:HO} {t':Nat} (I:Inv X pins σ H s) (mu:Mut (H x)) (he:e = x\/H e = some (.own x)) (k:∀ b u,b ≠ e->s.heap.get? b = some u->h'.get? b = some u) (heo:∃ u,h'.get? e = some u)
  (new:dz X.prog X.w (upd H x o) h' x o):Inv X pins σ (upd H x o) { s with heap:=h',toks:=t' }:=I.un (Un.write mu he k heo) (I.hok.write mu he k heo new)
theorem Inv.pins_of {pins':List (Addr × Obj)} (I:Inv X pins σ H s) (h:∀ p ∈ pins',s.heap.get? p.1 = some p.2/\H p.1 = none/\p.1 ≠ X.env.locals/\p.1 ∉ X.fs/\∀ v,p.2.data ≠ .cell v):Inv X pins' σ H s :=
 ⟨I.ok,I.os,I.bare,I.base,I.loc,I.cell,I.free,I.freeC,fun p hp=>(List.mem_append.mp hp).elim (fun z=>I.pin p (List.mem_append_left _ z)) (h p),I.hok,I.len⟩
theorem BR {N:List Str} (hN:N.Nodup) {i j:Nat} {x:Str} (a:N[i]? = some x) (b:N[j]? = some x):i = j:=by
 obtain ⟨h1,e1⟩:=ao.mp a
 obtain ⟨h2,e2⟩:=ao.mp b
 exact (List.getElem_inj hN).mp (e1.trans e2.symm)
theorem RQ {M:Model} {A:Around} {E:Value->Shared->Prop} {i:Nat} {x:Str} {v:V} {u:Value} {Q:Unit->Shared->Prop} (I:Inv X pins σ H s) (hN:X.N.Nodup) (hi:X.N[i]? = some x) (hx:Loc X.env.scope x) (r:RelV v u)
  (h:∀ s',Inv X pins (σ.set i (some v)) H s'->(∃ a,Heap.SameBut a s.heap s'.heap/\(a = X.env.locals\/X.env.cells.lookup x = some a))->Q () s') (hf:X.fn x = true\/X.env.scope.names.lookup x = some .local):wpAny M A (storeName X.env x u) Q E s:=by
 obtain ⟨m,hn,hl⟩:=id I.loc
 have hcls:(X.env.scope.kind == .class || (X.env.scope.kind == .module && X.env.locals != X.env.globals)) = false:=by rw [I.ok.kind]; rfl
 have hiσ:i < σ.length:=by rw [I.len]; exact (ao.mp hi).1
 have cne:=I.cne
 have tracked:∀ {a:Addr} {h':Heap},(∃ o,s.heap.get? a = some o/\H a = none)->Heap.SameBut a s.heap h'->HOk X.prog X.w H h':=fun {a h'} ha hs b ob e=>by
  obtain ⟨_,_,hfree⟩:=ha
  refine (I.hok b ob e).stay (fun c w' hc q=>(hs.2 c ?_).trans q) (fun _ q=>q) fun _ _ q=>q
  rintro rfl
  rcases hc with rfl | hc
  .rw [hfree] at e; cases e
  .rw [hfree] at hc; cases hc
 rcases hx with hk | hk
 .refine wpAny_storeName_local hk hn (fun h' hn' hs=>?_) hcls
  obtain ⟨oL,_,_,hoL,_⟩:=id hn
  refine h _ ⟨I.ok,I.os,I.bare,⟨fun b o e n hb hx=>?_,fun b o e n hb hx=>?_,I.base.free,fun b o e hx=>?_,I.base.tups,I.base.frzs,I.base.tbls⟩,⟨_,hn',fun j y v' e1 e2 e3=>?_⟩,fun y c e=>?_,I.free,I.freeC,fun p hp=>?_,tracked ⟨oL,hoL,I.free⟩ hs,by simpa using I.len⟩ ⟨_,hs,.inl rfl⟩
  .exact (hs.2 b (aR (aU (aJ e) I.ok.above))).trans (I.base.keep b o e n hb hx)
  .obtain ⟨sl,e1⟩:=I.base.slot b o e n hb hx
   exact ⟨sl,(hs.2 b (aR (aU (aJ e) I.ok.above))).trans e1⟩
  .obtain ⟨o',e1⟩:=I.base.there b o e hx
   exact ⟨o',(hs.2 b (aR (aU (aJ e) I.ok.above))).trans e1⟩
  .by_cases hj:j = i
   .subst hj
    rw [hi] at e1; cases e1
    rw [List.getElem?_set_self hiσ] at e2
    cases e2
    exact ⟨u,r,.inl ⟨hk,by simp⟩⟩
   .rw [List.getElem?_set_ne (Ne.symm hj)] at e2
    obtain ⟨u',r',q⟩:=hl j y v' e1 e2 e3
    refine ⟨u',r',?_⟩
    rcases q with ⟨k,e⟩ | ⟨k,c,e,z⟩
    .refine .inl ⟨k,?_⟩
     have:y ≠ x:=fun e=>hj (BR hN e1 (e ▸ hi))
     simp [this,e]
    .exact .inr ⟨k,c,e,z.sameBut hs (cne y c e)⟩
  .obtain ⟨w',z⟩:=I.cell y c e
   exact ⟨w',z.sameBut hs (cne y c e)⟩
  .obtain ⟨e,n,ne,nf,d⟩:=I.pin p hp
   exact ⟨(hs.2 p.1 ne).trans e,n,ne,nf,d⟩
 .have hfn:X.fn x = true:=by
   rcases hf with z | z
   .exact z
   .rw [z] at hk; cases hk
  obtain ⟨c,hc⟩:=I.ok.has x (.inl hk)
  obtain ⟨w',z⟩:=I.cell x c hc
  refine wpAny_storeName_cell I.ok.kind hk hc z (fun h' hc' hs=>?_)
  obtain ⟨oc,hoc,hocd⟩:=id z
  refine h { s with heap:=h' } ⟨I.ok,I.os,I.bare,⟨fun b o e n hb hx=>?_,fun b o e n hb hx=>?_,I.base.free,fun b o e hx=>?_,I.base.tups,I.base.frzs,I.base.tbls⟩,⟨m,hn.sameBut hs (Ne.symm (cne x c hc)),fun j y v' e1 e2 e3=>?_⟩,fun y c' e=>?_,I.free,I.freeC,fun p hp=>?_,tracked ⟨oc,hoc,I.freeC x c hc⟩ hs,by simpa using I.len⟩ ⟨c,hs,.inr hc⟩
  .exact (hs.2 b (aR (aU (aJ e) (I.ok.cab x c hfn hc)))).trans (I.base.keep b o e n hb hx)
  .obtain ⟨sl,e1⟩:=I.base.slot b o e n hb hx
   exact ⟨sl,(hs.2 b (aR (aU (aJ e) (I.ok.cab x c hfn hc)))).trans e1⟩
  .obtain ⟨o',e1⟩:=I.base.there b o e hx
   exact ⟨o',(hs.2 b (aR (aU (aJ e) (I.ok.cab x c hfn hc)))).trans e1⟩
  .by_cases hj:j = i
   .subst hj
    rw [hi] at e1; cases e1
    rw [List.getElem?_set_self hiσ] at e2
    cases e2
    exact ⟨u,r,.inr ⟨.inl hk,c,hc,hc'⟩⟩
   .rw [List.getElem?_set_ne (Ne.symm hj)] at e2
    obtain ⟨u',r',q⟩:=hl j y v' e1 e2 e3
    refine ⟨u',r',?_⟩
    rcases q with q | ⟨k,c',e,z'⟩
    .exact .inl q
    .refine .inr ⟨k,c',e,z'.sameBut hs ?_⟩
     rintro rfl
     exact hj (BR hN e1 (I.ok.inj _ _ _ e hc ▸ hi))
  .by_cases hcc:c' = c
   .subst hcc; exact ⟨_,hc'⟩
   .obtain ⟨w2,z2⟩:=I.cell y c' e
    exact ⟨w2,z2.sameBut hs hcc⟩
  .obtain ⟨e,n,ne,nf,d⟩:=I.pin p hp
   refine ⟨(hs.2 p.1 ?_).trans e,n,ne,nf,d⟩
   intro q
   rw [q,hoc] at e
   have q':oc = p.2:=Option.some.inj e
   exact d w' (by rw [<- q']; exact hocd)
theorem qI {M:Model} {A:Around} {E:Value->Shared->Prop} {i:Nat} {x:Str} {v:V} {u:Value} {Q:Unit->Shared->Prop} (I:Inv X pins σ H s) (hN:X.N.Nodup) (hi:X.N[i]? = some x) (hx:Loc X.env.scope x) (r:RelV v u)
  (h:∀ s',Inv X pins (σ.set i (some v)) H s'->Q () s') (hf:X.fn x = true\/X.env.scope.names.lookup x = some .local:=by first | exact .inl rfl | exact .inr rfl | assumption):wpAny M A (storeName X.env x u) Q E s :=
 RQ I hN hi hx r (fun s' I' _=>h s' I') hf
theorem Inv.call' {s':Shared} {ch:List Addr} (I:Inv X pins σ H s) (ho:s'.os = s.os) (u:Un (frs X.stack) ch H H' s.heap s'.heap) (hok:HOk X.prog X.w H' s'.heap) (hg:AllBare s'.gens)
  (hch:∀ b ∈ ch,(b ∈ X.ex\/X.s₀.heap.objs.size <= b)/\b ≠ X.env.locals/\(∀ x c,X.env.cells.lookup x = some c->c ≠ b)/\∀ p ∈ X.pn ++ pins,p.1 ≠ b):Inv X pins σ H' s':=by
 obtain ⟨h',g',d',t',o'⟩:=s'
 have e:o' = s.os:=ho
 subst e
 exact I.call (g':=g') (t':=t') (d':=d') u hok hg hch
end
abbrev XK:=Value->Option Addr->Hp->Prop
abbrev St:=List (Option V)
abbrev VK:=V->Hp->Prop
abbrev TE:=St->Hp->VK->Prop
abbrev TT:=St->Hp->(Bool->Hp->Prop)->Prop
abbrev TA:=St->Hp->(List V->Hp->Prop)->Prop
structure Ends where
 nx:St->Hp->Prop
 rt:VK
 bk:St->Hp->Prop:=fun _ _=>False
 ct:St->Hp->Prop:=fun _ _=>False
abbrev TS:=Ends->St->Hp->Prop
def EP (X:Cx) (pins:List (Addr × Obj)) (σ:St) (Q:VK) (u:Value) (s':Shared):Prop:=∃ v H',Inv X pins σ H' s'/\RelV v u/\Q v H'
def TP (X:Cx) (pins:List (Addr × Obj)) (σ:St) (Q:Bool->Hp->Prop) (b:Bool) (s':Shared):Prop:=∃ H',Inv X pins σ H' s'/\Q b H'
def AP (X:Cx) (pins:List (Addr × Obj)) (σ:St) (Q:List V->Hp->Prop) (us:List Value) (s':Shared):Prop:=∃ vs H',Inv X pins σ H' s'/\Vals vs us/\Q vs H'
def SP (X:Cx) (pins:List (Addr × Obj)) (D:Ends) (f:Flow) (s':Shared):Prop :=
 match f with
 | .next=>∃ σ' H',Inv X pins σ' H' s'/\D.nx σ' H'
 | .brk=>∃ σ' H',Inv X pins σ' H' s'/\D.bk σ' H'
 | .cont=>∃ σ' H',Inv X pins σ' H' s'/\D.ct σ' H'
 | .ret u=>∃ v σ' H',Inv X pins σ' H' s'/\RelV v u/\D.rt v H'
def PE (X:Cx) (e:Expr) (t:TE):Prop :=
 ∀ (pins:List (Addr × Obj)) (s:Shared) (σ:St) (H:Hp) (Q:VK),Inv X pins σ H s->t σ H Q->wpAny (model X.prog X.w) X.A (eval e X.env) (EP X pins σ Q) X.xe s
def PT (X:Cx) (e:Expr) (t:TT):Prop :=
 ∀ (pins:List (Addr × Obj)) (s:Shared) (σ:St) (H:Hp) (Q:Bool->Hp->Prop),Inv X pins σ H s->t σ H Q->wpAny (model X.prog X.w) X.A (isTrue e X.env (eval e X.env)) (TP X pins σ Q) X.xe s
def PW (X:Cx) (e:Expr) (t:TT):Prop :=
 ∀ (whole:Sem Value) (pins:List (Addr × Obj)) (s:Shared) (σ:St) (H:Hp) (Q:Bool->Hp->Prop),Inv X pins σ H s->t σ H Q->wpAny (model X.prog X.w) X.A (isTrue e X.env whole) (TP X pins σ Q) X.xe s
theorem PW.pt {X:Cx} {e:Expr} {t:TT} (h:PW X e t):PT X e t:=h _
def PA (X:Cx) (es:List Expr) (t:TA):Prop :=
 ∀ (pos:Pos) (pins:List (Addr × Obj)) (s:Shared) (σ:St) (H:Hp) (Q:List V->Hp->Prop),Inv X pins σ H s->t σ H Q->wpAny (model X.prog X.w) X.A (spliced (backTo pos (starEach es X.env))) (AP X pins σ Q) X.xe s
def PS (X:Cx) (st:Stmt) (t:TS):Prop :=
 ∀ (pins:List (Addr × Obj)) (s:Shared) (σ:St) (H:Hp) (D:Ends),Inv X pins σ H s->t D σ H->wpAny (model X.prog X.w) X.A (exec st X.env) (SP X pins D) X.xe s
def PSs (X:Cx) (st:List Stmt) (t:TS):Prop :=
 ∀ (pins:List (Addr × Obj)) (s:Shared) (σ:St) (H:Hp) (D:Ends),Inv X pins σ H s->t D σ H->wpAny (model X.prog X.w) X.A (execs st X.env) (SP X pins D) X.xe s
theorem thn {α:Type} {t:Sem α} {Q Q':α->Shared->Prop} {M:Model} {A:Around} {E:Value->Shared->Prop} {s:Shared} (h:wpAny M A t Q E s) (hQ:∀ a s,Q a s->Q' a s):wpAny M A t Q' E s:=wpAny_mono h hQ fun _ _ x=>x
end L2
namespace L2
open PySem PySem.Spec PyProof.Rows
section
variable {X:Cx}
def jw (i:Nat):TE:=fun σ H Q=>∃ v,σ[i]? = some (some v)/\Q v H
def tC (v:V):TE:=fun _ H Q=>Q v H
theorem abF {i:Nat} {x:Str} {pos:Pos} (hN:X.N[i]? = some x) (hv:Vis X.env.scope x) (hd:(x == ("__debug__" : Str)) = false:=by decide) (hcd:(x == ("__classdict__" : Str)) = false:=by decide):PE X (.Name x pos) (jw i):=by
 intro pins s σ H Q I h
 obtain ⟨v,e,h⟩:=h
 obtain ⟨m,hn,hl⟩:=I.loc
 obtain ⟨u,r,l⟩:=hl i x v hN e hv
 have fin:EP X pins σ Q u s:=⟨v,H,I,r,h⟩
 rcases l with ⟨hk,hm⟩ | ⟨hk,c,hc,hcell⟩
 .exact wpAny_Name (wpAny_loadName_local I.ok.kind hk hn hm fin) hd
 .rcases hk with hk | hk
  .exact wpAny_Name (wpAny_loadName_cell I.ok.kind hk hc hcell fin) hd
  .exact wpAny_Name (wpAny_loadName_free I.ok.kind hk hc hcell fin hcd) hd
theorem bH {i j pos} : PE X (.Constant (.int i) j pos) (tC (.int i)):=fun _ _ _ H _ I h=>wpAny_Constant_int ⟨.int i,H,I.tok _,⟨_,rfl⟩,h⟩
theorem iH {b j pos} : PE X (.Constant (.bool b) j pos) (tC (.bl b)):=fun _ _ _ H _ I h=>Constant_bool ⟨.bl b,H,I,rfl,h⟩
theorem uP {j pos} : PE X (.Constant .none j pos) (tC .non):=fun _ _ _ H _ I h=>Constant_none ⟨.non,H,I,rfl,h⟩
theorem pH {x j pos} : PE X (.Constant (.str x) j pos) (tC (.str x)):=fun _ _ _ H _ I h=>Calls.Constant_str ⟨.str x,H,I.tok _,⟨_,rfl⟩,h⟩
def Gl (X:Cx) (x:Str):Prop:=X.env.kindOf x = some .globalImplicit
theorem nA {E:Value->Shared->Prop} {pins:List (Addr × Obj)} {s:Shared} {σ:St} {H:Hp} {x:Str} {u:Value} {pos:Pos} {Q:Value->Shared->Prop} (I:Inv X pins σ H s) (hg:Gl X x) (hm:X.mg x = some u) (h:Q u s)
  (hd:(x == ("__debug__" : Str)) = false:=by decide):wpAny (model X.prog X.w) X.A (eval (.Name x pos) X.env) Q E s :=
 Calls.Name_function_global I.ok.kind hg (Calls.loadGlobal_global (by rw [I.ok.glob]; exact I.mod.glob.keeps I.bk) hm h) hd
theorem zR {E:Value->Shared->Prop} {pins:List (Addr × Obj)} {s:Shared} {σ:St} {H:Hp} {x:Str} {u:Value} {pos:Pos} {Q:Value->Shared->Prop} (I:Inv X pins σ H s) (hg:Gl X x) (hm:X.mg x = none) (hv:bootBuiltins x = some u) (h:Q u s)
  (hn:x ≠ "__name__" := by decide) (hd:(x == ("__debug__" : Str)) = false:=by decide):wpAny (model X.prog X.w) X.A (eval (.Name x pos) X.env) Q E s:=by
 obtain ⟨mb,h1,h2⟩:=I.mod.blt
 exact Calls.Name_function_global I.ok.kind hg (Calls.loadGlobal_builtin (by rw [I.ok.glob]; exact I.mod.glob.keeps I.bk) hm (by rw [I.ok.blt]; exact h1.keeps I.bk) ((h2 x hn).trans hv) h) hd
theorem QV {x:Str} {v:V} {u:Value} {pos:Pos} (hg:Gl X x) (hm:X.mg x = some u) (r:RelV v u) (hd:(x == ("__debug__" : Str)) = false:=by decide):PE X (.Name x pos) (tC v) :=
 fun _ _ _ H _ I h=>nA I hg hm ⟨v,H,I,r,h⟩ hd
theorem nR {x:Str} {v:V} {u:Value} {pos:Pos} (hg:Gl X x) (hm:X.mg x = none) (hv:bootBuiltins x = some u) (r:RelV v u) (hn:x ≠ "__name__" := by decide) (hd:(x == ("__debug__" : Str)) = false:=by decide):PE X (.Name x pos) (tC v) :=
 fun _ _ _ H _ I h=>zR I hg hm hv ⟨v,H,I,r,h⟩ hn hd
variable {a b:Expr} {ta tb:TE} {pos:Pos}
def PC (X:Cx) (op:CmpOp) (a b:Expr) (t:TE):Prop :=
 ∀ (pins:List (Addr × Obj)) (s:Shared) (σ:St) (H:Hp) (Q:VK),Inv X pins σ H s->t σ H Q ->
  wpAny (model X.prog X.w) X.A (eval a X.env) (fun v s₁=>wpAny (model X.prog X.w) X.A (eval b X.env) (fun u s₂=>wpAny (model X.prog X.w) X.A (compareOp op v u) (EP X pins σ Q) X.xe s₂) X.xe s₁) X.xe s
def tB (t:TE):TT:=fun σ H Q=>t σ H fun x H1=>∃ c,x = .bl c/\Q c H1
theorem Pn {op:CmpOp} {t:TE} (h:PC X op a b t) (h1:behindInMarks op b = false:=by rfl):PT X (.Compare a [op] [b] pos) (tB t):=by
 intro pins s σ H Q I hw
 refine wpAny_isTrue_Compare1 (thn (h pins s σ H _ I hw) fun v s1 h1=>thn h1 fun u s2 h2=>thn h2 fun c s3 ⟨x,H1,I1,r1,q1⟩=>?_) h1
 obtain ⟨d,rfl,q⟩:=q1
 cases r1
 exact wpAny_truthy_bool ⟨H1,I1,q⟩
variable {tA tB':TT} {rest:List Expr}
def RG (t u:TT):TT:=fun σ H Q=>t σ H fun c H1=>if c = true then u σ H1 Q else Q false H1
def tOr (t u:TT):TT:=fun σ H Q=>t σ H fun c H1=>if c = true then Q true H1 else u σ H1 Q
def Yc (t:TT):TT:=fun σ H Q=>t σ H fun c H1=>Q (!c) H1
theorem pw_and1 (ha:PT X a tA):PW X (.BoolOp .And [a] pos) tA:=by
 intro wh pins s σ H Q I h
 refine isTrue_and (thn (ha pins s σ H Q I h) fun c s1 e=>?_)
 cases c with
 | true=>exact isTrue_and_nil e
 | false=>exact e
theorem pw_or1 (ha:PT X a tA):PW X (.BoolOp .Or [a] pos) tA:=by
 intro wh pins s σ H Q I h
 refine isTrue_or (thn (ha pins s σ H Q I h) fun c s1 e=>?_)
 cases c with
 | false=>exact isTrue_or_nil e
 | true=>exact e
theorem pw_and (ha:PT X a tA) (hb:PW X (.BoolOp .And (b :: rest) pos) tB'):PW X (.BoolOp .And (a :: b :: rest) pos) (RG tA tB'):=by
 intro wh pins s σ H Q I h
 refine isTrue_and (thn (ha pins s σ H _ I h) fun c s1 ⟨H1,I1,q1⟩=>?_)
 cases c with
 | true=>exact hb wh pins s1 σ H1 Q I1 q1
 | false=>exact ⟨H1,I1,q1⟩
theorem pw_or (ha:PT X a tA) (hb:PW X (.BoolOp .Or (b :: rest) pos) tB'):PW X (.BoolOp .Or (a :: b :: rest) pos) (tOr tA tB'):=by
 intro wh pins s σ H Q I h
 refine isTrue_or (thn (ha pins s σ H _ I h) fun c s1 ⟨H1,I1,q1⟩=>?_)
 cases c with
 | true=>exact ⟨H1,I1,q1⟩
 | false=>exact hb wh pins s1 σ H1 Q I1 q1
theorem d9 (ha:PT X a tA):PT X (.UnaryOp .Not a pos) (Yc tA):=by
 intro pins s σ H Q I h
 exact isTrue_not (ha pins s σ H (fun c H1=>Q (!c) H1) I h)
def KY (ta tb:TE):TE:=fun σ H Q=>ta σ H fun x H1=>∃ c,x = .bl c/\if c = true then tb σ H1 Q else Q (.bl false) H1
def abf (ta tb:TE):TE:=fun σ H Q=>ta σ H fun x H1=>∃ c,x = .bl c/\if c = true then Q (.bl true) H1 else tb σ H1 Q
def Li (ta:TE):TE:=fun σ H Q=>ta σ H fun x H1=>∃ c,x = .bl c/\Q (.bl (!c)) H1
theorem BW {op} {t:TE} (h:PE X a t):PE X (.BoolOp op [a] pos) t:=fun pins s σ H Q I hw=>BoolOp_one (h pins s σ H Q I hw)
theorem yW (ha:PE X a ta) (hb:PE X (.BoolOp .And (b :: rest) pos) tb):PE X (.BoolOp .And (a :: b :: rest) pos) (KY ta tb):=by
 intro pins s σ H Q I h
 refine BoolOp_and (thn (ha pins s σ H _ I h) fun v s1 ⟨x,H1,I1,r1,q1⟩=>?_)
 obtain ⟨c,rfl,q1⟩:=q1
 cases r1
 refine wpAny_truthy_bool ?_
 cases c with
 | true=>exact hb pins s1 σ H1 Q I1 q1
 | false=>exact ⟨.bl false,H1,I1,rfl,q1⟩
theorem XJ (ha:PE X a ta):PE X (.UnaryOp .Not a pos) (Li ta):=by
 intro pins s σ H Q I h
 refine UnaryOp_ (thn (ha pins s σ H _ I h) fun v s1 ⟨x,H1,I1,r1,q1⟩=>?_)
 obtain ⟨c,rfl,q1⟩:=q1
 cases r1
 exact not_of (wpAny_truthy_bool ⟨.bl (!c),H1,I1,rfl,q1⟩)
def tIf (t:TT) (ta tb:TE):TE:=fun σ H Q=>t σ H fun c H1=>if c = true then ta σ H1 Q else tb σ H1 Q
theorem K3 {c:Expr} (hc:PT X c tA) (ha:PE X a ta) (hb:PE X b tb):PE X (.IfExp c a b pos) (tIf tA ta tb):=by
 intro pins s σ H Q I h
 refine wpAny_IfExp (thn (hc pins s σ H _ I h) fun d s1 ⟨H1,I1,q1⟩=>?_)
 cases d with
 | true=>exact ha pins s1 σ H1 Q I1 q1
 | false=>exact hb pins s1 σ H1 Q I1 q1
end
end L2
namespace L2
open PySem PySem.Spec PyProof.Rows
def SqL (K:Frag) (H:Hp) (a:Addr) (xs:List V):Prop :=
 Rd H a (.lst xs) \/
  ∃ (o:Obj) (its:Array Value) (n:Nat),K.lookup a = some o/\o.cls = .type "list" /\ o.dict = none/\o.data = .seq its n/\its.size <= sizeLine/\Vals xs its.toList
def SqT (K:Frag) (H:Hp) (a:Addr) (xs:List V):Prop :=
 Rd H a (.tup xs) \/
  ∃ (o:Obj) (its:Array Value) (n:Nat),K.lookup a = some o/\o.cls = .type "tuple" /\ o.data = .seq its n/\its.size <= sizeLine/\Vals xs its.toList
def afC:Value->Option V
 | .none=>some .non
 | .bool b=>some (.bl b)
 | .int i _=>some (.int i)
 | .str x _=>some (.str x)
 | .bytes b _=>some (.byt b)
 | .float b _=>some (.flt b)
 | .ref a=>some (.ref a)
 | .type n=>some (.ty n)
 | _=>none
theorem RelV.abs {x:V} {u:Value} (r:RelV x u):afC u = some x:=by
 cases x with
 | non=>cases r; rfl
 | bl _=>cases r; rfl
 | int _=>obtain ⟨t,rfl⟩:=r; rfl
 | str _=>obtain ⟨t,rfl⟩:=r; rfl
 | byt _=>obtain ⟨t,rfl⟩:=r; rfl
 | flt _=>obtain ⟨t,rfl⟩:=r; rfl
 | ref _=>cases r; rfl
 | ty _=>cases r; rfl
theorem RelV.inj {x y:V} {u:Value} (r:RelV x u) (q:RelV y u):x = y:=Option.some.inj (r.abs.symm.trans q.abs)
theorem Vals.inj:∀ {xs ys:List V} {us:List Value},Vals xs us->Vals ys us->xs = ys
 | _,_,_,.nil,.nil=>rfl
 | _,_,_,.cons r t,.cons r' t'=>by rw [r.inj r',Vals.inj t t']
section
variable {X:Cx} {pins:List (Addr × Obj)} {σ:St} {H:Hp} {s:Shared} {a:Addr} {xs ys:List V}
theorem SqL.of {K:Frag} (h:H a = some (.lst xs)):SqL K H a xs:=.inl (.inl h)
theorem SqT.of {K:Frag} (h:H a = some (.tup xs)):SqT K H a xs:=.inl (.inl h)
theorem Inv.list (I:Inv X pins σ H s) (h:SqL X.K H a xs):∃ its:List Value,Vals xs its/\PlainL s.heap a its.toArray/\xs.length <= sizeLine:=by
 rcases h with h | ⟨o,its,n,hk,hc,hd,hs,hz,r⟩
 .obtain ⟨z,its,n,r,e⟩:=h.ok I.hok
  exact ⟨its,r,⟨_,n,e,rfl,rfl,rfl⟩,z⟩
 .refine ⟨its.toList,r,⟨o,n,I.kIn a o hk,hc,hd,by simpa using hs⟩,?_⟩
  have e:=r.length
  simp only [Array.length_toList] at e
  omega
theorem Inv.tuple (I:Inv X pins σ H s) (h:SqT X.K H a xs):∃ its:List Value,Vals xs its/\IsTup s.heap a its.toArray/\xs.length <= sizeLine:=by
 rcases h with h | ⟨o,its,n,hk,hc,hs,hz,r⟩
 .obtain ⟨z,its,r,p⟩:=h.ok I.hok
  exact ⟨its,r,p,z⟩
 .refine ⟨its.toList,r,⟨o,I.kIn a o hk,hc,n,by simpa using hs⟩,?_⟩
  have e:=r.length
  simp only [Array.length_toList] at e
  omega
theorem Inv.list_inj (I:Inv X pins σ H s) (h:SqL X.K H a xs) (h':SqL X.K H a ys):xs = ys:=by
 obtain ⟨its,r,⟨o,n,e,_,_,d⟩,_⟩:=I.list h
 obtain ⟨its',r',⟨o',n',e',_,_,d'⟩,_⟩:=I.list h'
 rw [e] at e'; cases e'
 rw [d] at d'
 injection d' with d1 _
 have:its = its':=by simpa using congrArg Array.toList d1
 subst this
 exact r.inj r'
end
abbrev Cx.wish (X:Cx) (E:Value->Shared->Prop):Cx:={ X with xe:=E }
abbrev Cx.nox (X:Cx):Cx:=X.wish fun _ _=>False
theorem Cx.Ok.wish {X:Cx} (ok:X.Ok) (E:Value->Shared->Prop):(X.wish E).Ok :=
 ⟨ok.mod,ok.kind,ok.glob,ok.blt,ok.above,ok.inj,ok.has,ok.cab,ok.hd,ok.frames,ok.stk,ok.exf,ok.bs,ok.bsz,ok.noex,ok.exfs,ok.funs,ok.frf⟩
theorem Cx.Ok.unwish {X:Cx} {E:Value->Shared->Prop} (ok:(X.wish E).Ok):X.Ok :=
 ⟨ok.mod,ok.kind,ok.glob,ok.blt,ok.above,ok.inj,ok.has,ok.cab,ok.hd,ok.frames,ok.stk,ok.exf,ok.bs,ok.bsz,ok.noex,ok.exfs,ok.funs,ok.frf⟩
section
variable {X:Cx} {pins:List (Addr × Obj)} {σ:St} {H:Hp} {s:Shared} {E:Value->Shared->Prop}
theorem Inv.wish (I:Inv X pins σ H s) (E:Value->Shared->Prop):Inv (X.wish E) pins σ H s:=⟨I.ok.wish E,I.os,I.bare,I.base,I.loc,I.cell,I.free,I.freeC,I.pin,I.hok,I.len⟩
theorem Inv.unwish (I:Inv (X.wish E) pins σ H s):Inv X pins σ H s:=⟨I.ok.unwish,I.os,I.bare,I.base,I.loc,I.cell,I.free,I.freeC,I.pin,I.hok,I.len⟩
theorem SP.unwish {D:Ends} {f:Flow} {s':Shared} (h:SP (X.wish E) pins D f s'):SP X pins D f s':=by
 cases f with
 | next=>obtain ⟨σ',H',I,q⟩:=h; exact ⟨σ',H',I.unwish,q⟩
 | brk=>obtain ⟨σ',H',I,q⟩:=h; exact ⟨σ',H',I.unwish,q⟩
 | cont=>obtain ⟨σ',H',I,q⟩:=h; exact ⟨σ',H',I.unwish,q⟩
 | ret u=>obtain ⟨v,σ',H',I,r,q⟩:=h; exact ⟨v,σ',H',I.unwish,r,q⟩
theorem PSs.nox {st:List Stmt} {t:TS} (h:PSs X.nox st t):PSs X st t:=fun pins s σ H D I hw =>
 wpAny_mono (h pins s σ H D (I.wish _) hw) (fun _ _ q=>q.unwish) fun _ _ z=>False.elim z
end
section
variable {X:Cx} {st:Stmt} {rest:List Stmt} {t u:TS} {e:Expr} {te:TE} {pos:Pos}
def DK:TS:=fun D σ H=>D.nx σ H
def qw (t u:TS):TS:=fun D σ H=>t { D with nx:=u D } σ H
theorem cH:PSs X [] DK:=fun _ _ σ H _ I h=>wpAny_execs_nil ⟨σ,H,I,h⟩
theorem bI (h1:PS X st t) (h2:PSs X rest u):PSs X (st :: rest) (qw t u):=by
 intro pins s σ H D I h
 refine wpAny_execs_cons (thn (h1 pins s σ H { D with nx:=u D } I h) fun f s1 q=>?_)
 cases f with
 | next =>
  obtain ⟨σ',H',I',q⟩:=q
  exact h2 pins s1 σ' H' D I' q
 | ret v=>exact q
 | brk=>exact q
 | cont=>exact q
theorem bL (h1:PS X st t):PSs X [st] t:=by
 intro pins s σ H D I h
 refine wpAny_execs_cons (thn (h1 pins s σ H D I h) fun f s1 q=>?_)
 cases f with
 | next=>exact wpAny_execs_nil q
 | ret v=>exact q
 | brk=>exact q
 | cont=>exact q
theorem Inv.quiet {pins:List (Addr × Obj)} {σ:St} {H:Hp} {s:Shared} (I:Inv X pins σ H s):interactive X.env = false:=by simp [interactive,I.ok.kind]
def Qg (te:TE):TS:=fun D σ H=>te σ H fun _ H1=>D.nx σ H1
theorem dh (he:PE X e te) (hs:swapsWith e none pos.line X.env = pure false:=by rfl):PS X (.Expr e pos) (Qg te):=by
 intro pins s σ H D I h
 exact wpAny_Expr_any (thn (he pins s σ H _ I h) fun v s1 ⟨x,H1,I1,r1,q1⟩=>⟨σ,H1,I1,q1⟩) I.quiet hs
def V9 (te:TE):TS:=fun D σ H=>te σ H D.rt
theorem bY (he:PE X e te):PS X (.Return (some e) pos) (V9 te):=by
 intro pins s σ H D I h
 exact wpAny_Return_some (thn (he pins s σ H _ I h) fun v s1 ⟨x,H1,I1,r1,q1⟩=>⟨x,σ,H1,I1,r1,q1⟩)
def Vt:TS:=fun D _ H=>D.rt .non H
def Lw (c:TT) (t u:TS):TS:=fun D σ H=>c σ H fun b H1=>if b = true then t D σ H1 else u D σ H1
theorem dF {c:Expr} {a b:List Stmt} {tc:TT} (hc:PT X c tc) (ha:PSs X a t) (hb:PSs X b u):PS X (.If c a b pos) (Lw tc t u):=by
 intro pins s σ H D I h
 refine wpAny_If (thn (hc pins s σ H _ I h) fun d s1 ⟨H1,I1,q1⟩=>?_)
 cases d with
 | true=>exact ha pins s1 σ H1 D I1 q1
 | false=>exact hb pins s1 σ H1 D I1 q1
def abA:TS:=fun _ _ _=>False
theorem o8:PS X st abA:=fun _ _ _ _ _ _ h=>h.elim
end
abbrev TG:=V->St->Hp->(St->Hp->Prop)->Prop
abbrev TGs:=List V->St->Hp->(St->Hp->Prop)->Prop
def PG (X:Cx) (target:Expr) (t:TG):Prop :=
 ∀ (pins:List (Addr × Obj)) (s:Shared) (σ:St) (H:Hp) (v:V) (u:Value) (Q:St->Hp->Prop),Inv X pins σ H s->RelV v u->t v σ H Q ->
  wpAny (model X.prog X.w) X.A (assign target X.env u) (fun _ s'=>∃ σ' H',Inv X pins σ' H' s'/\Q σ' H') X.xe s
def PGs (X:Cx) (ts:List Expr) (t:TGs):Prop :=
 ∀ (pins:List (Addr × Obj)) (s:Shared) (σ:St) (H:Hp) (vs:List V) (us:List Value) (Q:St->Hp->Prop),Inv X pins σ H s->Vals vs us->t vs σ H Q ->
  wpAny (model X.prog X.w) X.A (assignInOrder ((assignEach ts X.env).map (·.2)) us) (fun _ s'=>∃ σ' H',Inv X pins σ' H' s'/\Q σ' H') X.xe s
abbrev abn:=V->V->V->Hp->(Hp->Prop)->Prop
def ad3 (X:Cx) (t:abn):Prop :=
 ∀ (pins:List (Addr × Obj)) (s:Shared) (σ:St) (H:Hp) (o i v:V) (ov iv u:Value) (Q:Hp->Prop),Inv X pins σ H s->RelV o ov->RelV i iv->RelV v u->t o i v H Q ->
  wpAny (model X.prog X.w) X.A (setItem ov iv u) (fun _ s'=>∃ H',Inv X pins σ H' s'/\Q H') X.xe s
abbrev TIp:=V->V->Hp->VK->Prop
def PIp (X:Cx) (op:Operator) (t:TIp):Prop :=
 ∀ (pins:List (Addr × Obj)) (s:Shared) (σ:St) (H:Hp) (x y:V) (v u:Value) (Q:VK),Inv X pins σ H s->RelV x v->RelV y u->t x y H Q ->
  wpAny (model X.prog X.w) X.A (inplaceOp op v u) (EP X pins σ Q) X.xe s
section
variable {X:Cx} {pos:Pos}
def dw (i:Nat):TG:=fun v σ H Q=>Q (σ.set i (some v)) H
theorem bW {i:Nat} {x:Str} (hN:X.N.Nodup) (hi:X.N[i]? = some x) (hx:Loc X.env.scope x) (hf:X.fn x = true\/X.env.scope.names.lookup x = some .local:=by first | exact .inl rfl | exact .inr rfl | assumption):PG X (.Name x pos) (dw i):=by
 intro pins s σ H v u Q I r h
 exact wpAny_assign_Name (qI I hN hi hx r (fun s' I'=>⟨_,H,I',h⟩) hf)
def Zj:TGs:=fun vs σ H Q=>vs = []/\Q σ H
def Qe (t:TG) (u:TGs):TGs:=fun vs σ H Q=>∃ v r,vs = v :: r/\t v σ H fun σ' H'=>u r σ' H' Q
theorem eZ:PGs X [] Zj:=by
 intro pins s σ H vs us Q I r h
 obtain ⟨e,h⟩:=h
 subst e
 cases r
 exact assignInOrder_nil ⟨σ,H,I,h⟩
theorem b_ {e:Expr} {es:List Expr} {t:TG} {u:TGs} (h1:PG X e t) (h2:PGs X es u)
  (hs:(assignEach (e :: es) X.env).map (·.2) = assign e X.env :: (assignEach es X.env).map (·.2):=by rfl):PGs X (e :: es) (Qe t u):=by
 intro pins s σ H vs us Q I r h
 obtain ⟨v,vr,e1,h⟩:=h
 subst e1
 cases r with
 | cons r rr =>
  rw [hs]
  refine assignInOrder_cons (thn (h1 pins s σ H _ _ _ I r h) fun _ s1 ⟨σ1,H1,I1,q1⟩=>?_)
  exact h2 pins s1 σ1 H1 _ _ Q I1 rr q1
def aav (K:Frag) (n:Nat) (t:TGs):TG:=fun v σ H Q=>∃ a xs,v = .ref a/\SqT K H a xs/\xs.length = n/\t xs σ H Q
theorem abY {es:List Expr} {k:Nat} {t:TGs} {n:Nat} (hc:X.calm = true) (h:PGs X es t)
  (hn:(assignEach es X.env).length = n:=by rfl) (hst:(assignEach es X.env).findIdx? (·.1) = none:=by rfl):PG X (.Tuple es k pos) (aav X.K n t):=by
 intro pins s σ H v u Q I r hw
 obtain ⟨a,xs,e1,hq,hl,hw⟩:=hw
 subst e1
 cases r
 obtain ⟨its,rv,ht,hz⟩:=I.tuple hq
 refine assign_Tuple_tuple (I.ok.hd hc) ht (by simp [hn,<- hl,rv.length]) hst fun h' hx=>?_
 have I1:Inv X pins σ H { s with heap:=h' }:=I.kept (t':=s.toks) fun b o e=>hx b o (aR (aJ e)) e
 exact h pins _ σ H xs _ Q I1 (by simpa using rv) hw
def ZK (to ti:TE) (t:abn):TG:=fun v σ H Q=>to σ H fun o H1=>ti σ H1 fun i H2=>t o i v H2 fun H3=>Q σ H3
theorem Dg {o i:Expr} {to ti:TE} {t:abn} (ho:PE X o to) (hi:PE X i ti) (hs:ad3 X t)
  (ha:∀ v,assign (.Subscript o i pos) X.env v = (do
   let ov <- holding [v] (eval o X.env)
   let iv <- holding [v,ov] (eval i X.env)
   standAt pos
   holding [v,ov,iv] (setItem ov iv v)
   release [v,ov,iv] []):=by intro _; rfl):PG X (.Subscript o i pos) (ZK to ti t):=by
 intro pins s σ H v u Q I r h
 rw [ha]
 refine wpAny_bind (wpAny_holding (thn (ho pins s σ H _ I h) fun ov s1 ⟨x,H1,I1,r1,q1⟩=>?_))
 refine wpAny_bind (wpAny_holding (thn (hi pins s1 σ H1 _ I1 q1) fun iv s2 ⟨y,H2,I2,r2,q2⟩=>?_))
 refine wpAny_bind (wpAny_standAt (wpAny_bind (wpAny_holding (thn (hs pins s2 σ H2 x y v ov iv u _ I2 r1 r2 r q2) fun _ s3 ⟨H3,I3,q3⟩=>?_))))
 exact wpAny_release ⟨σ,H3,I3,q3⟩
def z7 (te:TE) (g:TG):TS:=fun D σ H=>te σ H fun x H1=>g x σ H1 D.nx
theorem tL {tg e:Expr} {te:TE} {g:TG} (he:PE X e te) (hg:PG X tg g) (hs:swapsWithSole [tg] e pos.line X.env = pure false:=by rfl) (hw:swappedStores [tg] e X.env = pure none:=by rfl)
  (h1:(assignEach [tg] X.env).map (·.2) = [assign tg X.env]:=by rfl):PS X (.Assign [tg] e pos) (z7 te g):=by
 intro pins s σ H D I h
 refine wpAny_Assign_stores (thn (he pins s σ H _ I h) fun v s1 ⟨x,H1,I1,r1,q1⟩=>?_) hs hw
 rw [h1]
 exact thn (hg pins s1 σ H1 x v _ I1 r1 q1) fun _ s2 q=>q
theorem bT {i:Nat} {x:Str} {e:Expr} {te:TE} {pos':Pos} (hN:X.N.Nodup) (hi:X.N[i]? = some x) (hx:Loc X.env.scope x) (he:PE X e te) (hs:swapsWith e (some (.Name x pos')) pos.line X.env = pure false:=by rfl) (hf:X.fn x = true\/X.env.scope.names.lookup x = some .local:=by first | exact .inl rfl | exact .inr rfl | assumption) :
  PS X (.Assign [.Name x pos'] e pos) (z7 te (dw i)):=by
 intro pins s σ H D I h
 refine wpAny_Assign_Name (thn (he pins s σ H _ I h) fun v s1 ⟨y,H1,I1,r1,q1⟩=>?_) hs
 exact qI I1 hN hi hx r1 (fun s2 I2=>⟨_,H1,I2,q1⟩) hf
def Zf (i j:Nat) (ta:TA):TS:=fun D σ H=>ta σ H fun vs H1=>∃ v w,vs = [v,w]/\D.nx ((σ.set i (some v)).set j (some w)) H1
theorem aci {i j:Nat} {x y:Str} {a b:Expr} {ta:TA} {px py pt:Pos} {kt k2 pt2} (hc:X.calm = true) (hN:X.N.Nodup) (hi:X.N[i]? = some x) (hj:X.N[j]? = some y) (hij:i ≠ j)
  (hx:X.env.scope.names.lookup x = some .local) (hy:X.env.scope.names.lookup y = some .local) (ha:PA X [a,b] ta)
  (hw:swappedStores [.Tuple [.Name x px,.Name y py] kt pt] (.Tuple [a,b] k2 pt2) X.env = pure (some [x,y]))
  (hs:swapsWithSole [.Tuple [.Name x px,.Name y py] kt pt] (.Tuple [a,b] k2 pt2) pos.line X.env = pure false:=by rfl) :
  PS X (.Assign [.Tuple [.Name x px,.Name y py] kt pt] (.Tuple [a,b] k2 pt2) pos) (Zf i j ta):=by
 intro pins s σ H D I h
 rw [exec_Assign_arm]
 refine wpAny_bind (wpAny_standAt ?_)
 rw [hs]
 refine wpAny_bind (wpAny_pure ?_)
 rw [if_neg (by decide)]
 refine wpAny_bind (Tuple_ (thn (ha _ pins s σ H _ I h) fun us s1 ⟨vs,H1,I1,r1,q1⟩=>?_))
 obtain ⟨v,w,e1,q1⟩:=q1
 subst e1
 obtain ⟨u1,u2,rfl,rv,rw'⟩ : ∃ u1 u2,us = [u1,u2]/\RelV v u1/\RelV w u2:=by
  cases r1 with
  | cons p q =>
   cases q with
   | cons p' q' =>
    cases q'
    exact ⟨_,_,rfl,p,p'⟩
 refine wpAny_newObj_type ?_ (by show 2 <= sizeLine; decide)
 have I2:Inv X pins σ H1 { s1 with heap:=s1.heap.push { cls:=.type "tuple",data:=.seq [u1,u2].toArray } }:=I1.kept (t':=s1.toks) fun b o e=>aG _ e
 rw [hw]
 refine wpAny_bind (wpAny_pure ?_)
 show wpAny (model X.prog X.w) X.A (do rule "assign.swapped-stores"; let items <- unpackItems (.ref s1.heap.objs.size) 2 none; assignInOrder [fun v=>bindName X.env y v,fun v=>bindName X.env x v] items.reverse; pure Flow.next) _ _ _
 refine wpAny_bind (wpAny_rule (wpAny_bind (unpackItems_tuple (items:=#[u1,u2]) (I.ok.hd hc) (IsTup.new s1.heap _) fun h' hx'=>?_)))
 have I3:=I2.kept (h':=h') (t':=s1.toks) fun b o e=>hx' b o (aR (aJ e)) e
 show wpAny _ _ (assignInOrder [fun v=>bindName X.env y v,fun v=>bindName X.env x v] [u2,u1] >>= fun _=>pure Flow.next) _ _ _
 refine wpAny_bind (assignInOrder_cons (wpAny_bindName (qI I3 hN hj (.inl hy) rw' (fun s2 I4=>?_) (.inr hy))))
 refine assignInOrder_cons (wpAny_bindName (qI I4 hN hi (.inl hx) rv (fun s3 I5=>assignInOrder_nil (wpAny_pure ?_)) (.inr hx)))
 rw [List.set_comm _ _ (Ne.symm hij)] at I5
 exact ⟨_,H1,I5,q1⟩
def agl (i:Nat) (te:TE) (ti:TIp):TS:=fun D σ H=>∃ x,σ[i]? = some (some x)/\te σ H fun y H1=>ti x y H1 fun z H2=>D.nx (σ.set i (some z)) H2
theorem ab2 {i:Nat} {x:Str} {e:Expr} {te:TE} {op:Operator} {ti:TIp} {pos':Pos} (hN:X.N.Nodup) (hi:X.N[i]? = some x) (hx:Loc X.env.scope x) (he:PE X e te) (ho:PIp X op ti) (hf:X.fn x = true\/X.env.scope.names.lookup x = some .local:=by first | exact .inl rfl | exact .inr rfl | assumption) :
  PS X (.AugAssign (.Name x pos') op e pos) (agl i te ti):=by
 intro pins s σ H D I h
 obtain ⟨v,e1,h⟩:=h
 obtain ⟨m,hn,hl⟩:=I.loc
 have vis:Vis X.env.scope x:=by rcases hx with k | k; exact .inl k; exact .inr (.inl k)
 obtain ⟨u,r,l⟩:=hl i x v hi e1 vis
 refine wpAny_AugAssign_Name ?_
 have go:wpAny (model X.prog X.w) X.A (eval e X.env) (fun w s₂=>wpAny (model X.prog X.w) X.A (inplaceOp op u w) (fun r s₃=>wpAny (model X.prog X.w) X.A (storeName X.env x r) (fun _=>SP X pins D .next) X.xe s₃) X.xe s₂) X.xe s:=by
  refine thn (he pins s σ H _ I h) fun w s1 ⟨y,H1,I1,r1,q1⟩=>?_
  refine thn (ho pins s1 σ H1 v y u w _ I1 r r1 q1) fun z s2 ⟨zv,H2,I2,r2,q2⟩=>?_
  exact qI I2 hN hi hx r2 (fun s3 I3=>⟨_,H2,I3,q2⟩) hf
 rcases l with ⟨hk,hm⟩ | ⟨hk,c,hc,hcell⟩
 .exact wpAny_loadName_local I.ok.kind hk hn hm go
 .rcases hk with hk | hk
  .exact wpAny_loadName_cell I.ok.kind hk hc hcell go
  .rcases hx with k | k
   .have:X.env.scope.names.lookup x = some .free:=hk
    rw [k] at this; cases this
   .have:X.env.scope.names.lookup x = some .free:=hk
    rw [k] at this; cases this
def ipI (f:Int->Int->Int):TIp:=fun x y H Q=>∃ i j,x = .int i/\y = .int j/\Q (.int (f i j)) H
theorem abq:PIp X .Add (ipI fun i j=>i + j):=by
 intro pins s σ H x y v u Q I r1 r2 h
 obtain ⟨i,j,e1,e2,q⟩:=h
 subst e1; subst e2
 obtain ⟨t,rfl⟩:=r1
 obtain ⟨t',rfl⟩:=r2
 exact iadd_int ⟨.int _,H,I.tok _,⟨_,rfl⟩,q⟩
end
section
variable {X:Cx} {pos:Pos}
def Yg (c:TT) (tb:TS):TS:=fun D σ H=>∃ W:Nat->St->Hp->Prop,(∃ m,W m σ H)/\∀ m σ H,W m σ H ->
 c σ H fun b H1=>if b = true then ∃ N:St->Hp->Prop,(∀ σ' H',N σ' H'->∃ m',m' < m/\W m' σ' H')/\tb { D with nx:=N,ct:=N,bk:=D.nx } σ H1 else D.nx σ H1
theorem uK {c:Expr} {body:List Stmt} {tc:TT} {tb:TS} (hp:PassesOwn (model X.prog X.w) X.A X.env X.xe) (hc:PT X c tc) (hb:PSs X body tb):PS X (.While c body [] pos) (Yg tc tb):=by
 intro pins s σ H D I h
 obtain ⟨W,⟨m0,w0⟩,turn⟩:=h
 refine wpAny_While (codeAny_whileLoop (fun n s'=>∃ σ' H',Inv X pins σ' H' s'/\W n σ' H') ?_ m0 ⟨σ,H,I,w0⟩)
 rintro n s1 ⟨σ1,H1,I1,w1⟩
 refine wpAny_passesOwn hp (thn (hc pins s1 σ1 H1 _ I1 (turn n σ1 H1 w1)) fun b s2 ⟨H2,I2,q2⟩=>?_)
 cases b with
 | true =>
  obtain ⟨N,hN,q2⟩:=q2
  rw [if_pos rfl]
  refine wpAny_passesOwn hp (thn (hb pins s2 σ1 H2 _ I2 q2) fun f s3 q3=>?_)
  cases f with
  | next =>
   obtain ⟨σ3,H3,I3,n3⟩:=q3
   obtain ⟨m',hm,w3⟩:=hN σ3 H3 n3
   exact ⟨m',hm,σ3,H3,I3,w3⟩
  | cont =>
   obtain ⟨σ3,H3,I3,n3⟩:=q3
   obtain ⟨m',hm,w3⟩:=hN σ3 H3 n3
   exact ⟨m',hm,σ3,H3,I3,w3⟩
  | brk=>exact q3
  | ret v=>exact q3
 | false =>
  rw [if_neg bA]
  exact wpAny_execs_nil ⟨σ1,H2,I2,q2⟩
end
structure It where
 go:Nat->Hp->Prop
 yld:Nat->Hp->V->Hp->Prop
 stop:Nat->Hp->Prop
def Ad (X:Cx) (pins:List (Addr × Obj)) (H:Hp) (b:Addr):Prop :=
 H b = none/\b ≠ X.env.locals/\b ∉ X.fs/\(b ∈ X.ex\/X.s₀.heap.objs.size <= b)/\(∀ x c,X.env.cells.lookup x = some c->c ≠ b)/\∀ p ∈ X.pn ++ pins,p.1 ≠ b
theorem Inv.fpOk {X:Cx} {pins:List (Addr × Obj)} {σ:St} {H H':Hp} {s:Shared} {b:Addr} (I:Inv X pins σ H s) (hb:s.heap.objs.size <= b) (hn:H' b = none):Ad X pins H' b:=by
 refine ⟨hn,Nat.ne_of_gt (aU I.lt hb),I.nofs hb,.inr (aL I.sz hb),fun x c e z=>?_,fun p hp z=>?_⟩
 .obtain ⟨v,q⟩:=I.cell x c e
  exact absurd (aU q.lt (by rw [z]; exact hb)) (Nat.lt_irrefl _)
 .exact absurd (aU (aJ (I.pin p hp).1) (by rw [z]; exact hb)) (Nat.lt_irrefl _)
structure Turn (P:Program) (w:World) (K:Frag) (tg:Expr) (J:It) (fp:List Addr) (it:Addr) (tn:Nat->Heap->Prop):Prop where
 mem:it ∈ fp
 obj:∀ i h,tn i h->∀ b ∈ fp,∃ o,h.get? b = some o/\∀ v,o.data ≠ .cell v
 keep:∀ i h h',tn i h->(∀ b ∈ fp,∀ o,h.get? b = some o->h'.get? b = some o)->tn i h'
 item:∀ (X:Cx),X.prog = P->X.w = w->X.K = K->X.calm = true->∀ (i:Nat) (pins:List (Addr × Obj)) (s:Shared) (σ:St) (H:Hp) (E:Value->Shared->Prop),Inv X pins σ H s->(∀ b ∈ fp,Ad X pins H b)->tn i s.heap->J.go i H ->
  wpAny (model P w) X.A (pyNext (.ref it)) (fun r s1=>∃ u,r = some u /\
   wpAny (model P w) X.A (letOwnedTupleGo tg (.ref it) u) (fun _ s2=>∃ x H',Inv X pins σ H' s2/\RelV x u/\J.yld i H x H'/\tn (i + 1) s2.heap/\∀ b ∈ fp,H' b = none) E s1) E s
 done:∀ (X:Cx),X.prog = P->X.w = w->X.K = K->X.calm = true->∀ (i:Nat) (pins:List (Addr × Obj)) (s:Shared) (σ:St) (H:Hp) (E:Value->Shared->Prop),Inv X pins σ H s->(∀ b ∈ fp,Ad X pins H b)->tn i s.heap->J.stop i H ->
  wpAny (model P w) X.A (pyNext (.ref it)) (fun r s1=>r = none/\Inv X pins σ H s1) E s
 self:∀ (A:Around) (i:Nat) (s:Shared) (Q:Value->Shared->Prop) (E:Value->Shared->Prop),tn i s.heap->Q (.ref it) s->wpAny (model P w) A (pyIter (.ref it)) Q E s
abbrev TI:=St->Hp->(It->Hp->Prop)->Prop
def PIE (X:Cx) (pins:List (Addr × Obj)) (σ:St) (tg:Expr) (R:It->Hp->Prop) (itv:Value) (s2:Shared):Prop :=
 ∃ (it:Addr) (fp:List Addr) (tn:Nat->Heap->Prop) (J:It) (H':Hp),itv = .ref it/\Inv X pins σ H' s2/\Turn X.prog X.w X.K tg J fp it tn/\tn 0 s2.heap/\(∀ b ∈ fp,Ad X pins H' b)/\R J H'
def PI (X:Cx) (tg iter:Expr) (wi:TI):Prop :=
 ∀ (pins:List (Addr × Obj)) (s:Shared) (σ:St) (H:Hp) (R:It->Hp->Prop),Inv X pins σ H s->wi σ H R ->
  wpAny (model X.prog X.w) X.A (eval iter X.env) (fun v s1=>wpAny (model X.prog X.w) X.A (pyIter v) (PIE X pins σ tg R) X.xe s1) X.xe s
theorem Qw {M:Model} {A:Around} {E:Value->Shared->Prop} {s:Shared} {tg:Expr} {it:Addr} {u:Value} {o:Obj} {n:String} {vs:Array Value} {Q:Unit->Shared->Prop} (ho:s.heap.get? it = some o) (hc:o.cls = .type n) (hd:o.data = .fields vs)
    (hn : ["enumerate", "zip", "dict_itemiterator", "dict_reverseitemiterator", "odict_iterator", "itertools.zip_longest", "itertools.pairwise"].contains n = false) (hQ:Q () s):wpAny M A (letOwnedTupleGo tg (.ref it) u) Q E s:=by
  unfold letOwnedTupleGo
  cases tg <;> first
    | exact wpAny_pure hQ
    | (cases u <;> first
        | exact wpAny_pure hQ
        | (refine wpAny_bind (wpAny_load ho ?_)
           rw [hc,hd]
           show wpAny M A (if (["enumerate", "zip", "dict_itemiterator", "dict_reverseitemiterator", "odict_iterator", "itertools.zip_longest", "itertools.pairwise"].contains n && vs[0]? == some (rawInt _)) = true then _ else _) Q E s
           rw [if_neg (by intro h; rw [hn,Bool.false_and] at h; cases h)]
           exact wpAny_pure hQ))
def Itl (K:Frag) (a:Addr):It :=
 ⟨fun i H=>∃ xs x,SqL K H a xs/\xs[i]? = some x,fun i H x H'=>H' = H/\∀ xs,SqL K H a xs->xs[i]? = some x,fun i H=>∃ xs,SqL K H a xs/\xs.length <= i⟩
def Itr (lo:Int) (n:Nat):It:=⟨fun i _=>i < n,fun i H x H'=>H' = H/\x = .int (lo + i),fun i _=>n <= i⟩
theorem R_ {P:Program} {w:World} {K:Frag} {tg:Expr} (a it:Addr):Turn P w K tg (Itl K a) [it] it (fun i h=>h.IsListIter it a i) where
 mem:=by simp
 obj:=fun i h st b hb=>by
  have e:b = it:=by simpa using hb
  subst e
  obtain ⟨o,e,c,d⟩:=st
  exact ⟨o,e,fun v z=>by rw [d] at z; cases z⟩
 keep:=fun i h h' st k=>st.at fun o e=>k it (by simp) o e
 item:=by
  intro X hP hw hK hc i pins s σ H E I hf st hg
  subst hP hw hK
  obtain ⟨xs,x,hq,hx⟩:=hg
  obtain ⟨its,rv,p,hz⟩:=I.list hq
  obtain ⟨u,hu,ru⟩:=rv.get hx
  obtain ⟨f0,f1,f2,f3,f4,f5⟩:=hf it (by simp)
  refine wpAny_pyNext_list_item st p.isList (x:=u) (by simpa using hu) fun h' st' sb=>?_
  have I1:Inv X pins σ H { s with heap:=h' }:=I.turned (t':=s.toks) (fun b o hb e=>(sb.2 b hb).trans e) f0 f1 f3 f4 f5
  obtain ⟨o,e,c,d⟩:=id st'
  exact ⟨u,rfl,Qw (s:={ s with heap:=h' }) e c d (by decide) ⟨x,H,I1,ru,⟨rfl,fun ys hy=>by rw [I.list_inj hy hq]; exact hx⟩,st',fun b hb=>(hf b hb).1⟩⟩
 done:=by
  intro X hP hw hK hc i pins s σ H E I hf st hg
  subst hP hw hK
  obtain ⟨xs,hq,hx⟩:=hg
  obtain ⟨its,rv,p,hz⟩:=I.list hq
  obtain ⟨f0,f1,f2,f3,f4,f5⟩:=hf it (by simp)
  have hl:=rv.length
  exact wpAny_pyNext_list_end (I.ok.hd hc) st p.isList (by simp; omega) fun h' eb=>⟨rfl,I.turned (t':=s.toks) (fun b o hb e=>eb b o hb e) f0 f1 f3 f4 f5⟩
 self:=fun _ _ _ _ _ st h=>wpAny_pyIter_listiter st h
theorem PL {P:Program} {w:World} {K:Frag} {tg:Expr} (it:Addr) (lo:Int) (n:Nat):Turn P w K tg (Itr lo n) [it] it (fun i h=>IsRangeIter h it (lo + (i:Nat) * 1) ((n:Int) - (i:Nat)) 1) where
 mem:=by simp
 obj:=fun i h st b hb=>by
  have e:b = it:=by simpa using hb
  subst e
  exact ⟨_,st,fun v z=>by
   have z':Data.fields _ = Data.cell v:=z
   cases z'⟩
 keep:=fun i h h' st k=>k it (by simp) _ st
 item:=by
  intro X hP hw hK hc i pins s σ H E I hf st hg
  subst hP hw hK
  obtain ⟨f0,f1,f2,f3,f4,f5⟩:=hf it (by simp)
  have W:=Walks.range (prog:=X.prog) (w:=X.w) (I.ok.hd hc) it lo 1 n
  refine W.item i s _ _ hg st fun v h' tk hv st' kk=>?_
  obtain ⟨t,rfl⟩:=hv
  have I1:Inv X pins σ H { s with heap:=h',toks:=tk }:=I.turned (fun b o hb e=>kk b o (by simpa using hb) e) f0 f1 f3 f4 f5
  refine ⟨_,rfl,Qw (s:={ s with heap:=h',toks:=tk }) (n := "range_iterator") st' rfl rfl (by decide) ⟨.int (lo + i),H,I1,⟨t,?_⟩,⟨rfl,rfl⟩,st',fun b hb=>(hf b hb).1⟩⟩
  rw [Int.mul_one]
 done:=by
  intro X hP hw hK hc i pins s σ H E I hf st hg
  subst hP hw hK
  obtain ⟨f0,f1,f2,f3,f4,f5⟩:=hf it (by simp)
  exact wpAny_pyNext_range_end (I.ok.hd hc) st (by have:n <= i:=hg; omega) fun h' eb=>⟨rfl,I.turned (t':=s.toks) (fun b o hb e=>eb b o hb e) f0 f1 f3 f4 f5⟩
 self:=fun _ _ _ _ _ st h=>wpAny_pyIter_rangeiter st h
end L2
namespace L2
open PySem PySem.Spec PyProof.Rows
section
variable {X:Cx} {tg:Expr}
def pK (K:Frag) (tl:TE):TI:=fun σ H R=>tl σ H fun x H1=>∃ a,x = .ref a/\(∃ xs,SqL K H1 a xs)/\R (Itl K a) H1
theorem cA {l:Expr} {tl:TE} (hl:PE X l tl):PI X tg l (pK X.K tl):=by
 intro pins s σ H R I h
 refine thn (hl pins s σ H _ I h) fun v s1 ⟨x,H1,I1,r1,q1⟩=>?_
 obtain ⟨a,e,⟨xs,hq⟩,q⟩:=q1
 subst e
 cases r1
 obtain ⟨its,rv,p,hz⟩:=I1.list hq
 refine wpAny_pyIter_list p.isList ?_
 refine ⟨s1.heap.objs.size,[s1.heap.objs.size],_,_,H1,rfl,I1.kept (t':=s1.toks) fun b o e=>aG _ e,R_ a _,⟨_,aY _ rfl,rfl,rfl⟩,fun b hb=>?_,q⟩
 have e:b = s1.heap.objs.size:=by simpa using hb
 subst e
 exact I1.fpOk (aF _) (I1.hok.fresh (aF _))
theorem VN {pins:List (Addr × Obj)} {σ:St} {H:Hp} {s:Shared} {R:It->Hp->Prop} {E:Value->Shared->Prop} {lo hi:Int} {t u v:Tok} {tk:Nat} (I:Inv X pins σ H s) (h1 : -(2 ^ 62) <= lo) (h2:lo < 2 ^ 62) (h3 : -(2 ^ 62) <= hi) (h4:hi < 2 ^ 62)
  (q:R (Itr lo (hi - lo).toNat) H):wpAny (model X.prog X.w) X.A (pyIter (.ref s.heap.objs.size)) (PIE X pins σ tg R) E { s with heap:=s.heap.push { cls:=.type "range",data:=.fields #[.int lo t,.int hi u,.int 1 v] },toks:=tk }:=by
 refine wpAny_pyIter_range (IsRange.new ..) (small_one h1 h2 h3 h4) ?_
 have I1:Inv X pins σ H { s with heap:=s.heap.push { cls:=.type "range",data:=.fields #[.int lo t,.int hi u,.int 1 v] },toks:=tk }:=I.kept fun b o e=>aG _ e
 refine ⟨(s.heap.push { cls:=.type "range",data:=.fields #[.int lo t,.int hi u,.int 1 v] }).objs.size,[(s.heap.push { cls:=.type "range",data:=.fields #[.int lo t,.int hi u,.int 1 v] }).objs.size],_,_,H,rfl,
  I1.kept (t':=tk) fun b o e=>aG _ e,PL _ lo (hi - lo).toNat,?_,fun b hb=>?_,q⟩
 .have e1:lo + ((0:Nat):Int) * 1 = lo:=by simp
  have e2:(((hi - lo).toNat:Nat):Int) - ((0:Nat):Int) = Builtin.Range.rangeSize lo hi 1:=by rw [rangeSize_one]; split <;> omega
  show IsRangeIter _ _ (lo + ((0:Nat):Int) * 1) ((((hi - lo).toNat:Nat):Int) - ((0:Nat):Int)) 1
  rw [e1,e2]
  exact aY _ rfl
 .have e:b = (s.heap.push { cls:=.type "range",data:=.fields #[.int lo t,.int hi u,.int 1 v] }).objs.size:=by simpa using hb
  subst e
  exact I1.fpOk (aF _) (I1.hok.fresh (aF _))
def z6 (ta:TA):TI:=fun σ H R=>ta σ H fun vs H1=>∃ j:Int,vs = [.int j]/\-(2 ^ 62) <= j/\j < 2 ^ 62/\R (Itr 0 j.toNat) H1
theorem gH {a:Expr} {ta:TA} {p pos:Pos} (hg:Gl X "range") (hm:X.mg "range" = none) (ha:PA X [a] ta) (hs:starEach [a] X.env = [(false,eval a X.env)]:=by rfl):PI X tg (.Call (.Name "range" p) [a] [] pos) (z6 ta):=by
 intro pins s σ H R I h
 refine Call_ (zR I hg hm boot_range (PyProof.Rows.callWith_type1 (thn (ha pos pins s σ H _ I h) fun us s1 ⟨vs,H1,I1,r1,q1⟩=>?_) hs rfl))
 obtain ⟨j,e,q1,q2,q⟩:=q1
 subst e
 cases r1 with
 | cons r rr =>
  cases rr
  obtain ⟨t,rfl⟩:=r
  exact call_range_1 (VN I1 (by omega) (by omega) q1 q2 (by simpa using q))
def Em (wi:TI) (g:TG) (tb:TS):TS:=fun D σ H=>wi σ H fun J H1=>∃ W:Nat->Nat->St->Hp->Prop,(∃ m,W 0 m σ H1)/\∀ i m σ H,W i m σ H ->
 (J.stop i H/\D.nx σ H)\/(J.go i H/\∃ N:St->Hp->Prop,(∀ σ' H',N σ' H'->∃ m',m' < m/\W (i + 1) m' σ' H')/\∀ x H',J.yld i H x H'->g x σ H' fun σ2 H2=>tb { D with nx:=N,ct:=N,bk:=D.nx } σ2 H2)
def Dq (fp:List Addr) (h:Heap):List (Addr × Obj):=fp.filterMap fun b=>(h.get? b).map fun o=>(b,o)
theorem pq {fp:List Addr} {h:Heap} {b:Addr} {o:Obj} (hb:b ∈ fp) (e:h.get? b = some o):(b,o) ∈ Dq fp h:=List.mem_filterMap.mpr ⟨b,hb,by rw [e]; rfl⟩
theorem Sq {fp:List Addr} {h:Heap} {p:Addr × Obj} (hp:p ∈ Dq fp h):p.1 ∈ fp/\h.get? p.1 = some p.2:=by
 obtain ⟨b,hb,e⟩:=List.mem_filterMap.mp hp
 cases q:h.get? b with
 | none=>rw [q] at e; cases e
 | some o =>
  rw [q] at e
  have e':(b,o) = p:=Option.some.inj e
  subst e'
  exact ⟨hb,q⟩
theorem Inv.pinned {pins:List (Addr × Obj)} {σ:St} {H:Hp} {s:Shared} {fp:List Addr} (I:Inv X pins σ H s) (hf:∀ b ∈ fp,Ad X pins H b) (ho:∀ b ∈ fp,∃ o,s.heap.get? b = some o/\∀ v,o.data ≠ .cell v):Inv X (pins ++ Dq fp s.heap) σ H s :=
 I.pins_of fun p hp=>(List.mem_append.mp hp).elim (fun z=>I.pin p (aQ _ z)) fun z=>by
  obtain ⟨hb,e⟩:=Sq z
  obtain ⟨f0,f1,f2,_⟩:=hf p.1 hb
  obtain ⟨o,e',d⟩:=ho p.1 hb
  rw [e] at e'; cases e'
  exact ⟨e,f0,f1,f2,d⟩
theorem Inv.unpinned {pins pl:List (Addr × Obj)} {σ:St} {H:Hp} {s:Shared} (I:Inv X (pins ++ pl) σ H s):Inv X pins σ H s:=I.pins_of fun p hp=>I.pin p (aQ _ (List.mem_append_left _ hp))
theorem gC {iter:Expr} {body:List Stmt} {wi:TI} {g:TG} {tb:TS} {pos:Pos} (hp:PassesOwn (model X.prog X.w) X.A X.env X.xe) (hc:X.calm = true) (hi:PI X tg iter wi) (hg:PG X tg g) (hb:PSs X body tb)
  (hs:∀ x,foldedSetIterable iter X.env x = pure x:=by intro _; rfl):PS X (.For tg iter body [] pos) (Em wi g tb):=by
 intro pins s σ H D I h
 refine wpAny_For (thn (hi pins s σ H _ I h) fun v s1 h1=>thn h1 fun itv s2 h2=>?_) hs
 obtain ⟨it,fp,tn,J,H2,e,I2,T,st2,f2,W,⟨m0,w0⟩,turn⟩:=h2
 subst e
 -- what stays true of the iterator's objects through the loop
 have stat:∀ {H':Hp},(∀ b ∈ fp,H' b = none)->∀ b ∈ fp,Ad X pins H' b:=fun hn b hb=>⟨hn b hb,(f2 b hb).2⟩
 refine codeAny_forLoop_any (fun n s'=>∃ i σ' H',Inv X pins σ' H' s'/\tn i s'.heap/\(∀ b ∈ fp,H' b = none)/\W i n σ' H') ?_ m0 ⟨0,σ,H2,I2,st2,fun b hb=>(f2 b hb).1,w0⟩
 rintro n s3 ⟨i,σ3,H3,I3,st3,fr3,w3⟩
 rcases turn i n σ3 H3 w3 with ⟨stop,qn⟩ | ⟨go,N,hN,step⟩
 .refine wpAny_passesOwn hp (thn (T.done X rfl rfl rfl hc i pins s3 σ3 H3 X.xe I3 (stat fr3) st3 stop) fun r s4 ⟨hr,I4⟩=>?_)
  subst hr
  exact wpAny_execs_nil ⟨σ3,H3,I4,qn⟩
 .refine wpAny_passesOwn hp (thn (T.item X rfl rfl rfl hc i pins s3 σ3 H3 X.xe I3 (stat fr3) st3 go) fun r s4 ⟨u,hr,h4⟩=>?_)
  subst hr
  refine wpAny_passesOwn hp (thn h4 fun _ s5 ⟨x,H5,I5,r5,y5,st5,fr5⟩=>?_)
  have I5':=I5.pinned (stat fr5) (T.obj _ _ st5)
  refine wpAny_passesOwn hp (thn (hg _ s5 σ3 H5 x u _ I5' r5 (step x H5 y5)) fun _ s6 ⟨σ6,H6,I6,q6⟩=>?_)
  refine wpAny_passesOwn hp (thn (hb _ s6 σ6 H6 _ I6 q6) fun f s7 q7=>?_)
  have again:∀ {σ7:St} {H7:Hp},Inv X (pins ++ Dq fp s5.heap) σ7 H7 s7->N σ7 H7->∃ m,m < n/\∃ i σ' H',Inv X pins σ' H' s7/\tn i s7.heap/\(∀ b ∈ fp,H' b = none)/\W i m σ' H':=fun {σ7 H7} I7 n7=>by
   obtain ⟨m',hm,w7⟩:=hN σ7 H7 n7
   refine ⟨m',hm,i + 1,σ7,H7,I7.unpinned,T.keep _ _ _ st5 fun b hb o e=>(I7.pin (b,o) (aQ _ (aQ _ (pq hb e)))).1,fun b hb=>?_,w7⟩
   obtain ⟨o,e,d⟩:=T.obj _ _ st5 b hb
   exact (I7.pin (b,o) (aQ _ (aQ _ (pq hb e)))).2.1
  cases f with
  | next=>obtain ⟨σ7,H7,I7,n7⟩:=q7; exact again I7 n7
  | cont=>obtain ⟨σ7,H7,I7,n7⟩:=q7; exact again I7 n7
  | brk=>obtain ⟨σ7,H7,I7,q7⟩:=q7; exact ⟨σ7,H7,I7.unpinned,q7⟩
  | ret v=>obtain ⟨x7,σ7,H7,I7,r7,q7⟩:=q7; exact ⟨x7,σ7,H7,I7.unpinned,r7,q7⟩
end
theorem Lg {c:TT} {tb:TS} {D:Ends} {σ:St} {H:Hp} (Pv:St->Hp->Prop) (μ:St->Hp->Nat) (h0:Pv σ H)
  (hs:∀ σ H,Pv σ H->c σ H fun b H1=>if b = true then tb { D with nx:=fun σ' H'=>Pv σ' H'/\μ σ' H' < μ σ H,ct:=fun σ' H'=>Pv σ' H'/\μ σ' H' < μ σ H,bk:=D.nx } σ H1 else D.nx σ H1)
  (mono:∀ σ H Q Q',(∀ b H1,Q b H1->Q' b H1)->c σ H Q->c σ H Q'):Yg c tb D σ H:=by
 refine ⟨fun m σ H=>m = μ σ H/\Pv σ H,⟨_,rfl,h0⟩,?_⟩
 rintro m σ H ⟨rfl,p⟩
 refine mono σ H _ _ (fun b H1 q=>?_) (hs σ H p)
 cases b with
 | true=>exact ⟨_,fun σ' H' ⟨p',l⟩=>⟨_,l,rfl,p'⟩,q⟩
 | false=>exact q
end L2
namespace L2
open PySem PySem.Spec PyProof.Rows
abbrev R2:=V->V->Hp->VK->Prop
def OpR (X:Cx) (f:Value->Value->Sem Value) (r:R2):Prop :=
 ∀ (pins:List (Addr × Obj)) (s:Shared) (σ:St) (H:Hp) (x y:V) (v u:Value) (Q:VK),Inv X pins σ H s->RelV x v->RelV y u->r x y H Q ->
  wpAny (model X.prog X.w) X.A (f v u) (EP X pins σ Q) X.xe s
def UnR (X:Cx) (f:Value->Sem Value) (r:V->Hp->VK->Prop):Prop :=
 ∀ (pins:List (Addr × Obj)) (s:Shared) (σ:St) (H:Hp) (x:V) (v:Value) (Q:VK),Inv X pins σ H s->RelV x v->r x H Q ->
  wpAny (model X.prog X.w) X.A (f v) (EP X pins σ Q) X.xe s
def fX (X:Cx) (f:Value) (r:List V->Hp->VK->Prop):Prop :=
 ∀ (pins:List (Addr × Obj)) (s:Shared) (σ:St) (H:Hp) (xs:List V) (us:List Value) (Q:VK),Inv X pins σ H s->Vals xs us->r xs H Q ->
  wpAny (model X.prog X.w) X.A (call f us) (EP X pins σ Q) X.xe s
def afm (X:Cx) (r:V->Hp->(Bool->Hp->Prop)->Prop):Prop :=
 ∀ (pins:List (Addr × Obj)) (s:Shared) (σ:St) (H:Hp) (x:V) (v:Value) (Q:Bool->Hp->Prop),Inv X pins σ H s->RelV x v->r x H Q ->
  wpAny (model X.prog X.w) X.A (truthy v) (TP X pins σ Q) X.xe s
def tOp (r:R2) (ta tb:TE):TE:=fun σ H Q=>ta σ H fun x H1=>tb σ H1 fun y H2=>r x y H2 Q
def tUn (r:V->Hp->VK->Prop) (ta:TE):TE:=fun σ H Q=>ta σ H fun x H1=>r x H1 Q
def rI (C:Int->Int->Prop) (g:Int->Int->V):R2:=fun x y H Q=>∃ i j,x = .int i/\y = .int j/\C i j/\Q (g i j) H
def rI0 (g:Int->Int->V):R2:=fun x y H Q=>∃ i j,x = .int i/\y = .int j/\Q (g i j) H
def rU (g:Int->V):V->Hp->VK->Prop:=fun x H Q=>∃ i,x = .int i/\Q (g i) H
section
variable {X:Cx} {a b c:Expr} {ta tb tc:TE} {pos:Pos}
theorem abH (ha:PE X a ta) (hb:PE X b tb) {pins:List (Addr × Obj)} {s:Shared} {σ:St} {H:Hp} {R:V->V->Hp->Prop} (I:Inv X pins σ H s)
  (h:ta σ H fun x H1=>tb σ H1 fun y H2=>R x y H2) {Q:Value->Shared->Prop} {f:Value->Value->Sem Value}
  (hf:∀ v u s2 x y H2,Inv X pins σ H2 s2->RelV x v->RelV y u->R x y H2->wpAny (model X.prog X.w) X.A (f v u) Q X.xe s2) :
  wpAny (model X.prog X.w) X.A (eval a X.env) (fun v s₁=>wpAny (model X.prog X.w) X.A (eval b X.env) (fun u s₂=>wpAny (model X.prog X.w) X.A (f v u) Q X.xe s₂) X.xe s₁) X.xe s:=by
 refine thn (ha pins s σ H _ I h) fun v s1 ⟨x,H1,I1,r1,q1⟩=>?_
 refine thn (hb pins s1 σ H1 _ I1 q1) fun u s2 ⟨y,H2,I2,r2,q2⟩=>?_
 exact hf v u s2 x y H2 I2 r1 r2 q2
theorem bO {op:Operator} {r:R2} (ho:OpR X (binaryOp op) r) (ha:PE X a ta) (hb:PE X b tb):PE X (.BinOp a op b pos) (tOp r ta tb):=by
 intro pins s σ H Q I h
 exact wpAny_BinOp (abH ha hb I h fun v u s2 x y H2 I2 rx ry q=>ho pins s2 σ H2 x y v u Q I2 rx ry q)
theorem Rq {op:UnaryOp} {r:V->Hp->VK->Prop} (ho:UnR X (unaryOp op) r) (ha:PE X a ta):PE X (.UnaryOp op a pos) (tUn r ta):=by
 intro pins s σ H Q I h
 exact UnaryOp_ (thn (ha pins s σ H _ I h) fun v s1 ⟨x,H1,I1,r1,q1⟩=>ho pins s1 σ H1 x v Q I1 r1 q1)
theorem opI {f:Value->Value->Sem Value} {C:Int->Int->Prop} {g:Int->Int->Int}
  (rule:∀ (i j:Int) (t u:Tok) (s:Shared) (Q:Value->Shared->Prop) (E:Value->Shared->Prop),C i j->Q (.int (g i j) s.toks) { s with toks:=s.toks + 1 }->wpAny (model X.prog X.w) X.A (f (.int i t) (.int j u)) Q E s) :
  OpR X f (rI C fun i j=>.int (g i j)):=by
 intro pins s σ H x y v u Q I rx ry h
 obtain ⟨i,j,rfl,rfl,hc,q⟩:=h
 obtain ⟨t,rfl⟩:=rx
 obtain ⟨t',rfl⟩:=ry
 exact rule i j t t' s _ _ hc ⟨.int (g i j),H,I.tok _,⟨_,rfl⟩,q⟩
theorem adi {f:Value->Value->Sem Value} {g:Int->Int->Int}
  (rule:∀ (i j:Int) (t u:Tok) (s:Shared) (Q:Value->Shared->Prop) (E:Value->Shared->Prop),Q (.int (g i j) s.toks) { s with toks:=s.toks + 1 }->wpAny (model X.prog X.w) X.A (f (.int i t) (.int j u)) Q E s) :
  OpR X f (rI0 fun i j=>.int (g i j)):=by
 intro pins s σ H x y v u Q I rx ry h
 obtain ⟨i,j,rfl,rfl,q⟩:=h
 obtain ⟨t,rfl⟩:=rx
 obtain ⟨t',rfl⟩:=ry
 exact rule i j t t' s _ _ ⟨.int (g i j),H,I.tok _,⟨_,rfl⟩,q⟩
theorem YX {f:Value->Value->Sem Value} {g:Int->Int->Bool}
  (rule:∀ (i j:Int) (t u:Tok) (s:Shared) (Q:Value->Shared->Prop) (E:Value->Shared->Prop),Q (.bool (g i j)) s->wpAny (model X.prog X.w) X.A (f (.int i t) (.int j u)) Q E s) :
  OpR X f (rI0 fun i j=>.bl (g i j)):=by
 intro pins s σ H x y v u Q I rx ry h
 obtain ⟨i,j,rfl,rfl,q⟩:=h
 obtain ⟨t,rfl⟩:=rx
 obtain ⟨t',rfl⟩:=ry
 exact rule i j t t' s _ _ ⟨.bl (g i j),H,I,rfl,q⟩
def acF (i j:Int):Prop:=0 <= j/\j <= 1000000/\i.natAbs < 2 ^ 64
def ab0 (i j:Int):Prop:=(-(2 ^ 64) < i/\i < 2 ^ 64)\/(-(2 ^ 64) < j/\j < 2 ^ 64)
theorem ab0.ok {i j:Int} (h:ab0 i j):IntMulOk i j:=by
 rcases h with ⟨h1,h2⟩ | ⟨h1,h2⟩
 .exact .of_left (intBits_le_64 h1 h2)
 .exact .of_right (intBits_le_64 h1 h2)
theorem dZ:OpR X (binaryOp .Add) (rI0 fun i j=>.int (i + j)):=adi fun _ _ _ _ _ _ _ q=>add_int q
theorem Iu:OpR X (binaryOp .Sub) (rI0 fun i j=>.int (i - j)):=adi fun _ _ _ _ _ _ _ q=>sub_int q
theorem VF:OpR X (binaryOp .Mult) (rI ab0 fun i j=>.int (i * j)):=opI fun _ _ _ _ _ _ _ hc q=>mul_int q hc.ok
theorem cZ:OpR X (binaryOp .Mod) (rI (fun _ j=>0 < j) fun i j=>.int (i % j)):=opI fun i j _ _ _ _ _ hc q=>by
 have h1:(0:Int) < j:=hc
 exact mod_int' (by omega) (by rw [aX i (by omega)]; exact q)
theorem mD:OpR X (binaryOp .Mod) (rI (fun _ j=>j ≠ 0) fun i j=>.int (i.fmod j)):=opI fun _ _ _ _ _ _ _ hc q=>mod_int' hc q
theorem abk:OpR X (binaryOp .Pow) (rI acF fun i j=>.int (i ^ j.toNat)):=opI fun _ _ _ _ _ _ _ hc q=>pow_int_small hc.1 hc.2.1 hc.2.2 q
theorem unI {f:Value->Sem Value} {g:Int->Int}
  (rule:∀ (i:Int) (t:Tok) (s:Shared) (Q:Value->Shared->Prop) (E:Value->Shared->Prop),Q (.int (g i) s.toks) { s with toks:=s.toks + 1 }->wpAny (model X.prog X.w) X.A (f (.int i t)) Q E s) :
  UnR X f (rU fun i=>.int (g i)):=by
 intro pins s σ H x v Q I rx h
 obtain ⟨i,rfl,q⟩:=h
 obtain ⟨t,rfl⟩:=rx
 exact rule i t s _ _ ⟨.int (g i),H,I.tok _,⟨_,rfl⟩,q⟩
theorem JL:UnR X (unaryOp .USub) (rU fun i=>.int (-i)):=unI fun _ _ _ _ _ q=>neg_int q
end
def RT:V->V->Bool
 | .non,.non=>true | .non,.int _=>true | .int _,.non=>true | .non,.bl _=>true | .bl _,.non=>true | .non,.str _=>true | .str _,.non=>true
 | .int _,.int _=>true | .bl _,.bl _=>true | .str _,.str _=>true | .byt _,.byt _=>true
 | .int _,.str _=>true | .str _,.int _=>true | .bl _,.str _=>true | .str _,.bl _=>true
 | _,_=>false
def rEq:R2:=fun x y H Q=>RT x y = true/\Q (.bl (decide (x = y))) H
def rNe:R2:=fun x y H Q=>RT x y = true/\Q (.bl (!decide (x = y))) H
theorem Ql {i j:Int} : decide (V.int i = V.int j) = (i == j):=by
 rw [Bool.eq_iff_iff]
 simp
theorem UJ {i j:Bool} : decide (V.bl i = V.bl j) = (i == j):=by
 rw [Bool.eq_iff_iff]
 simp
theorem Qk {i j:Str} : decide (V.str i = V.str j) = (i == j):=by
 rw [Bool.eq_iff_iff]
 simp
theorem Qs {i j:Array UInt8} : decide (V.byt i = V.byt j) = (i.toList == j.toList):=by
 rw [Bool.eq_iff_iff]
 cases i
 cases j
 simp
section
variable {X:Cx} {a b c:Expr} {ta tb tc:TE} {pos:Pos}
theorem cY {pins:List (Addr × Obj)} {σ:St} {H:Hp} {s:Shared} {Q:VK} {k k':Bool} (I:Inv X pins σ H s) (q:Q (.bl k) H) (e:k = k'):EP X pins σ Q (.bool k') s:=by
 subst e
 exact ⟨.bl k,H,I,rfl,q⟩
theorem qy:OpR X (compareOp .Eq) rEq:=by
 intro pins s σ H x y v u Q I rx ry h
 obtain ⟨hs,q⟩:=h
 cases x with
 | non =>
  cases rx
  cases y with
  | non=>cases ry; exact PySem.EqNone.eq_none_none (cY I q (by simp))
  | bl j=>cases ry; exact PySem.EqNone.eq_none_bool (cY I q (by simp))
  | int j=>obtain ⟨t',rfl⟩:=ry; exact PySem.EqNone.eq_none_int (cY I q (by simp))
  | str j=>obtain ⟨t',rfl⟩:=ry; exact PySem.EqNone.eq_none_str (cY I q (by simp))
  | _=>exact absurd (show false = true from hs) bA
 | bl i =>
  cases rx
  cases y with
  | non=>cases ry; exact PySem.EqNone.eq_bool_none (cY I q (by simp))
  | bl j=>cases ry; exact eq_bool (cY I q UJ)
  | str j=>obtain ⟨t',rfl⟩:=ry; exact PySem.EqMixed.eq_bool_str (cY I q (by simp))
  | _=>exact absurd (show false = true from hs) bA
 | int i =>
  obtain ⟨t,rfl⟩:=rx
  cases y with
  | non=>cases ry; exact PySem.EqNone.eq_int_none (cY I q (by simp))
  | int j=>obtain ⟨t',rfl⟩:=ry; exact eq_int (cY I q Ql)
  | str j=>obtain ⟨t',rfl⟩:=ry; exact PySem.EqMixed.eq_int_str (cY I q (by simp))
  | _=>exact absurd (show false = true from hs) bA
 | str i =>
  obtain ⟨t,rfl⟩:=rx
  cases y with
  | non=>cases ry; exact PySem.EqNone.eq_str_none (cY I q (by simp))
  | bl j=>cases ry; exact PySem.EqMixed.eq_str_bool (cY I q (by simp))
  | int j=>obtain ⟨t',rfl⟩:=ry; exact PySem.EqMixed.eq_str_int (cY I q (by simp))
  | str j=>obtain ⟨t',rfl⟩:=ry; exact eq_str (cY I q Qk)
  | _=>exact absurd (show false = true from hs) bA
 | byt i =>
  obtain ⟨t,rfl⟩:=rx
  cases y with
  | byt j=>obtain ⟨t',rfl⟩:=ry; exact PySem.W.eq_bytes (cY I q Qs)
  | _=>exact absurd (show false = true from hs) bA
 | _=>cases y <;> exact absurd (show false = true from hs) bA
theorem Rv:OpR X (compareOp .NotEq) rNe:=by
 intro pins s σ H x y v u Q I rx ry h
 obtain ⟨hs,q⟩:=h
 cases x with
 | non =>
  cases rx
  cases y with
  | non=>cases ry; exact PySem.EqNone.ne_none_none (cY I q (by simp))
  | bl j=>cases ry; exact PySem.EqNone.ne_none_bool (cY I q (by simp))
  | int j=>obtain ⟨t',rfl⟩:=ry; exact PySem.EqNone.ne_none_int (cY I q (by simp))
  | str j=>obtain ⟨t',rfl⟩:=ry; exact PySem.EqNone.ne_none_str (cY I q (by simp))
  | _=>exact absurd (show false = true from hs) bA
 | bl i =>
  cases rx
  cases y with
  | non=>cases ry; exact PySem.EqNone.ne_bool_none (cY I q (by simp))
  | bl j=>cases ry; exact ne_bool (cY I q (congrArg not UJ))
  | str j=>obtain ⟨t',rfl⟩:=ry; exact PySem.EqMixed.ne_bool_str (cY I q (by simp))
  | _=>exact absurd (show false = true from hs) bA
 | int i =>
  obtain ⟨t,rfl⟩:=rx
  cases y with
  | non=>cases ry; exact PySem.EqNone.ne_int_none (cY I q (by simp))
  | int j=>obtain ⟨t',rfl⟩:=ry; exact ne_int (cY I q (congrArg not Ql))
  | str j=>obtain ⟨t',rfl⟩:=ry; exact PySem.EqMixed.ne_int_str (cY I q (by simp))
  | _=>exact absurd (show false = true from hs) bA
 | str i =>
  obtain ⟨t,rfl⟩:=rx
  cases y with
  | non=>cases ry; exact PySem.EqNone.ne_str_none (cY I q (by simp))
  | bl j=>cases ry; exact PySem.EqMixed.ne_str_bool (cY I q (by simp))
  | int j=>obtain ⟨t',rfl⟩:=ry; exact PySem.EqMixed.ne_str_int (cY I q (by simp))
  | str j=>obtain ⟨t',rfl⟩:=ry; exact ne_str (cY I q (congrArg not Qk))
  | _=>exact absurd (show false = true from hs) bA
 | byt i =>
  obtain ⟨t,rfl⟩:=rx
  cases y with
  | byt j=>obtain ⟨t',rfl⟩:=ry; exact PySem.W.ne_bytes (cY I q (congrArg not Qs))
  | _=>exact absurd (show false = true from hs) bA
 | _=>cases y <;> exact absurd (show false = true from hs) bA
theorem Gz:OpR X (compareOp .Lt) (rI0 fun i j=>.bl (decide (i < j))):=YX fun _ _ _ _ _ _ _ q=>lt_int q
theorem Nk:OpR X (compareOp .LtE) (rI0 fun i j=>.bl (decide (i <= j))):=YX fun _ _ _ _ _ _ _ q=>le_int q
theorem Qt:OpR X (compareOp .Gt) (rI0 fun i j=>.bl (decide (j < i))):=YX fun _ _ _ _ _ _ _ q=>gt_int q
theorem aaQ:OpR X (compareOp .GtE) (rI0 fun i j=>.bl (decide (j <= i))):=YX fun _ _ _ _ _ _ _ q=>ge_int q
theorem aa2:OpR X (compareOp .Is) (fun x y H Q=>y = .non/\Q (.bl (decide (x = .non))) H):=by
 intro pins s σ H x y v u Q I rx ry h
 obtain ⟨rfl,q⟩:=h
 cases ry
 refine is_none_gen (cY I q ?_)
 cases x <;> first
  | (cases rx; rfl)
  | (obtain ⟨t,rfl⟩:=rx; rfl)
theorem IK:OpR X (compareOp .IsNot) (fun x y H Q=>y = .non/\Q (.bl (!decide (x = .non))) H):=by
 intro pins s σ H x y v u Q I rx ry h
 obtain ⟨rfl,q⟩:=h
 cases ry
 refine isnot_none_gen (cY I q ?_)
 cases x <;> first
  | (cases rx; rfl)
  | (obtain ⟨t,rfl⟩:=rx; rfl)
theorem cL (b:Expr) {op:CmpOp} (h:op ≠ .In:=by decide) (h2:op ≠ .NotIn:=by decide):behindInMarks op b = false:=by
 have e1:(op == CmpOp.In) = false:=by cases op <;> first | rfl | exact absurd rfl h
 have e2:(op == CmpOp.NotIn) = false:=by cases op <;> first | rfl | exact absurd rfl h2
 cases b <;> simp [behindInMarks,e1,e2]
theorem jf {op:CmpOp} {r:R2} (ho:OpR X (compareOp op) r) (ha:PE X a ta) (hb:PE X b tb) (hm:behindInMarks op b = false):PE X (.Compare a [op] [b] pos) (tOp r ta tb):=by
 intro pins s σ H Q I h
 exact wpAny_Compare1 (abH ha hb I h fun v u s2 x y H2 I2 rx ry q=>ho pins s2 σ H2 x y v u Q I2 rx ry q) hm
def Dy (t:TE):TT:=fun σ H Q=>t σ H fun x H'=>∃ k,x = .bl k/\Q k H'
theorem cW {op:CmpOp} {r:R2} (ho:OpR X (compareOp op) r) (ha:PE X a ta) (hb:PE X b tb) (hm:behindInMarks op b = false):PT X (.Compare a [op] [b] pos) (Dy (tOp r ta tb)):=by
 intro pins s σ H Q I h
 refine wpAny_isTrue_Compare1 (thn (ha pins s σ H _ I h) fun v s1 ⟨x,H1,I1,r1,q1⟩=>thn (hb pins s1 σ H1 _ I1 q1) fun u s2 ⟨y,H2,I2,r2,q2⟩ =>
  thn (ho pins s2 σ H2 x y v u _ I2 r1 r2 q2) fun c s3 ⟨z,H3,I3,r3,k,e,q3⟩=>?_) hm
 subst e
 cases r3
 exact wpAny_truthy_bool ⟨H3,I3,q3⟩
def Bt (r r':R2) (ta tb tc:TE):TE:=fun σ H Q=>ta σ H fun x H1=>tb σ H1 fun y H2=>r x y H2 fun z H3=>∃ k,z = .bl k /\
 (if k = true then tc σ H3 fun w' H4=>r' y w' H4 Q else Q (.bl false) H3)
theorem U9 {op op':CmpOp} {r r':R2} (ho:OpR X (compareOp op) r) (ho':OpR X (compareOp op') r') (ha:PE X a ta) (hb:PE X b tb) (hc:PE X c tc)
  (hm:lastMarks [op,op'] [b,c] = false:=by with_unfolding_all rfl):PE X (.Compare a [op,op'] [b,c] pos) (Bt r r' ta tb tc):=by
 intro pins s σ H Q I h
 refine Compare_chain (thn (ha pins s σ H _ I h) fun v s1 ⟨x,H1,I1,r1,q1⟩=>chain_link (thn (hb pins s1 σ H1 _ I1 q1) fun u s2 ⟨y,H2,I2,r2,q2⟩ =>
  thn (ho pins s2 σ H2 x y v u _ I2 r1 r2 q2) fun d s3 ⟨z,H3,I3,r3,k,e,q3⟩=>?_)) hm
 subst e
 cases r3
 refine wpAny_truthy_bool ?_
 cases k with
 | false=>exact ite_ff ⟨.bl false,H3,I3,rfl,q3⟩
 | true=>exact ite_tt (chain_last (thn (hc pins s3 σ H3 _ I3 q3) fun w' s4 ⟨z',H4,I4,r4,q4⟩=>ho' pins s4 σ H4 y z' u w' Q I4 r2 r4 q4))
theorem Cr {op op':CmpOp} {r r':R2} (ho:OpR X (compareOp op) r) (ho':OpR X (compareOp op') r') (ha:PE X a ta) (hb:PE X b tb) (hc:PE X c tc)
  (hm:lastMarks [op,op'] [b,c] = false:=by with_unfolding_all rfl):PT X (.Compare a [op,op'] [b,c] pos) (Dy (Bt r r' ta tb tc)):=by
 intro pins s σ H Q I h
 refine isTrue_chain (thn (ha pins s σ H _ I h) fun v s1 ⟨x,H1,I1,r1,q1⟩=>test_link (thn (hb pins s1 σ H1 _ I1 q1) fun u s2 ⟨y,H2,I2,r2,q2⟩ =>
  thn (ho pins s2 σ H2 x y v u _ I2 r1 r2 q2) fun d s3 ⟨z,H3,I3,r3,k,e,q3⟩=>?_)) hm
 subst e
 cases r3
 refine wpAny_truthy_bool ?_
 cases k with
 | false =>
  obtain ⟨k',e',q'⟩:=q3
  cases e'
  exact ite_ff ⟨H3,I3,q'⟩
 | true =>
  refine ite_tt (test_last (thn (hc pins s3 σ H3 _ I3 q3) fun w' s4 ⟨z',H4,I4,r4,q4⟩=>thn (ho' pins s4 σ H4 y z' u w' _ I4 r2 r4 q4) fun d' s5 ⟨z2,H5,I5,r5,k2,e2,q5⟩=>?_))
  subst e2
  cases r5
  exact wpAny_truthy_bool ⟨H5,I5,q5⟩
def aey (K:Frag) (x:V) (H:Hp) (k:Bool):Prop :=
 match x with
 | .non=>k = false
 | .bl b=>k = b
 | .int i=>k = (i != 0)
 | .str y=>y.length <= sizeLine/\k = ((y.length:Int) != 0)
 | .byt y=>y.size <= sizeLine/\k = ((y.size:Int) != 0)
 | .ref p=>(∃ xs,SqL K H p xs/\k = !xs.isEmpty)\/(∃ xs,SqT K H p xs/\k = !xs.isEmpty)\/∃ kvs,H p = some (.dK kvs)/\k = !kvs.isEmpty
 | _=>False
theorem O6 {κ:Type} {kvs:List (κ × V)} {vs:List (κ × Value)} (r:KV kvs vs):(!vs.isEmpty) = !kvs.isEmpty:=by
 cases r <;> rfl
theorem Cg {xs:List V} {its:List Value} (r:Vals xs its):(!its.toArray.isEmpty) = !xs.isEmpty:=by
 cases r <;> simp
theorem uw:(sizeLine:Nat) < 2 ^ 63:=by rw [sizeLine_eq]; decide
theorem aa4:afm X (fun x H Q=>∃ k,aey X.K x H k/\Q k H):=by
 intro pins s σ H x v Q I rx h
 obtain ⟨k,e,q⟩:=h
 have hl:=uw
 have hs:sizeLine = 16777216:=sizeLine_eq
 cases x with
 | non =>
  cases rx
  have e':k = false:=e
  subst e'
  exact truthy_none ⟨H,I,q⟩
 | bl b =>
  cases rx
  have e':k = b:=e
  subst e'
  exact wpAny_truthy_bool ⟨H,I,q⟩
 | int i =>
  obtain ⟨t,rfl⟩:=rx
  have e':k = (i != 0):=e
  subst e'
  exact PySem.P.truthy_int ⟨H,I,q⟩
 | str y =>
  obtain ⟨t,rfl⟩:=rx
  obtain ⟨hy,e'⟩ : y.length <= sizeLine/\k = ((y.length:Int) != 0):=e
  subst e'
  exact PySem.P.truthy_str (by omega) ⟨H,I.tok _,q⟩
 | byt y =>
  obtain ⟨t,rfl⟩:=rx
  obtain ⟨hy,e'⟩ : y.size <= sizeLine/\k = ((y.size:Int) != 0):=e
  subst e'
  exact PySem.W.truthy_bytes (by omega) ⟨H,I.tok _,q⟩
 | ref p =>
  cases rx
  have e':(∃ xs,SqL X.K H p xs/\k = !xs.isEmpty)\/(∃ xs,SqT X.K H p xs/\k = !xs.isEmpty)\/∃ kvs,H p = some (.dK kvs)/\k = !kvs.isEmpty:=e
  rcases e' with ⟨xs,hx,e'⟩ | ⟨xs,hx,e'⟩ | ⟨kvs,hx,e'⟩
  .subst e'
   obtain ⟨its,r,pl,hz⟩:=I.list hx
   have hlen:=r.length
   exact wpAny_truthy_list pl.isList (by simp only [aZ]; omega) ⟨H,I.tok _,by rw [Cg r]; exact q⟩
  .subst e'
   obtain ⟨its,r,pl,hz⟩:=I.tuple hx
   have hlen:=r.length
   exact truthy_tuple pl (by simp only [aZ]; omega) ⟨H,I.tok _,by rw [Cg r]; exact q⟩
  .subst e'
   obtain ⟨hz,hS,vs,r,m⟩ : kvs.length <= sizeLine/\(p == sysModules) = false/\∃ vs,KV kvs vs/\s.heap.DictOf (fY X.prog X.w) p vs:=I.hok p _ hx
   have hlen:kvs.length = vs.length:=Paired.length r
   exact wpAny_truthy_dict hS m (by omega) ⟨H,I.tok _,by rw [O6 r]; exact q⟩
 | _=>exact (show False from e).elim
theorem O9:OpR X (binaryOp .Add) (fun x y H Q=>∃ i j,x = .str i/\y = .str j/\i.length + j.length <= sizeLine/\Q (.str (i ++ j)) H):=by
 intro pins s σ H x y v u Q I rx ry h
 obtain ⟨i,j,rfl,rfl,hz,q⟩:=h
 obtain ⟨t,rfl⟩:=rx
 obtain ⟨t',rfl⟩:=ry
 exact add_str (fun t' tk=>⟨.str (i ++ j),H,I.tok _,⟨_,rfl⟩,q⟩) hz
theorem vals1 {x:V} {us:List Value} (r:Vals [x] us):∃ u,us = [u]/\RelV x u:=by
 cases r with
 | cons r1 r2=>cases r2; exact ⟨_,rfl,r1⟩
theorem vals2 {x y:V} {us:List Value} (r:Vals [x,y] us):∃ u w',us = [u,w']/\RelV x u/\RelV y w':=by
 cases r with
 | cons r1 r2 =>
  cases r2 with
  | cons r3 r4=>cases r4; exact ⟨_,_,rfl,r1,r3⟩
theorem tG:fX X (.builtin "abs") (fun xs H Q=>∃ i,xs = [.int i]/\Q (.int (if i < 0 then -i else i)) H):=by
 intro pins s σ H xs us Q I r h
 obtain ⟨i,rfl,q⟩:=h
 obtain ⟨u,rfl,t,rfl⟩:=vals1 r
 exact call_abs_int fun u tk=>⟨.int (if i < 0 then -i else i),H,I.tok _,⟨_,rfl⟩,q⟩
theorem R7 (hc:X.calm = true):fX X (.builtin "min") (fun xs H Q=>∃ i j,xs = [.int i,.int j]/\Q (.int (if j < i then j else i)) H):=by
 intro pins s σ H xs us Q I r h
 obtain ⟨i,j,rfl,q⟩:=h
 obtain ⟨u,w',rfl,⟨t,rfl⟩,⟨t',rfl⟩⟩:=vals2 r
 refine min_two_ints (I.ok.hd hc) fun h' tk k=>⟨_,H,I.kept k,?_,q⟩
 by_cases hj:j < i
 .rw [if_pos hj,if_pos hj]; exact ⟨_,rfl⟩
 .rw [if_neg hj,if_neg hj]; exact ⟨_,rfl⟩
theorem Uk:fX X (.type "int") (fun xs H Q=>(∃ i,xs = [.int i]/\Q (.int i) H)\/∃ k,xs = [.bl k]/\Q (.int (if k then 1 else 0)) H):=by
 intro pins s σ H xs us Q I r h
 rcases h with ⟨i,rfl,q⟩ | ⟨k,rfl,q⟩
 .obtain ⟨u,rfl,t,rfl⟩:=vals1 r
  exact call_int_int ⟨.int i,H,I,⟨_,rfl⟩,q⟩
 .obtain ⟨u,rfl,r1⟩:=vals1 r
  cases r1
  exact call_int_bool ⟨.int (if k then 1 else 0),H,I.tok _,⟨_,rfl⟩,q⟩
end
end L2
namespace L2
open PySem PySem.Spec PyProof.Rows
structure Pa (h:Heap) (x dx C:Addr) (mA:Str->Option Value):Prop where
 obj:h.get? x = some (PySem.W.instObj C dx)
 ns:h.Ns1 dx mA
 ne:dx ≠ x
theorem Gi {h:Heap} {dx:Addr} {mA:Str->Option Value} (n:h.Ns1 dx mA):∃ od,h.get? dx = some od/\∀ name,PySem.W.lookIn name od = some (mA name):=by
 obtain ⟨o,es,ep,ho,hd,hk,_,hm⟩:=n
 refine ⟨o,ho,fun name=>?_⟩
 have e:=hm name
 unfold nsFind findBy at e
 rw [<- Array.find?_toList] at e
 unfold PySem.W.lookIn
 rw [hd]
 dsimp only
 split
 .rename_i y q
  rw [q] at e
  exact congrArg some e
 .rename_i q
  rw [q] at e
  have a:es.toList.any (·.refKey) = false:=by
   rw [List.any_eq_false]
   intro y hy
   obtain ⟨z,t,hkey⟩:=hk y (Array.mem_toList_iff.mp hy)
   simp [DictEntry.refKey,hkey]
  have a':¬ es.toList.any (·.refKey) = true:=by rw [a]; exact bA
  rw [if_neg a']
  exact congrArg some e
theorem Pa.look {h:Heap} {x dx C:Addr} {mA:Str->Option Value} (I:Pa h x dx C mA):∃ od,PySem.W.InstAt h x (PySem.W.instObj C dx) C (some od)/\∀ name,PySem.W.lookIn name od = some (mA name) :=
 let ⟨od,ho,hl⟩:=Gi I.ns
 ⟨od,⟨I.obj,rfl,rfl,ho⟩,hl⟩
section
variable {prog:Program} {w:World} {A:Around} {E:Value->Shared->Prop} {s:Shared} {K:Frag} {x dx C f:Addr} {mA:Str->Option Value} {name:Str} {v:Value}
theorem get_map {expr:Bool} {Q:Value->Shared->Prop} (X:K.In s.heap) (I:Pa s.heap x dx C mA) (hg:PySem.W.plainGet K C name = true) (hh:PySem.W.hasDictIn K C = true)
  (ha:PySem.W.findIn K (.ref C) name = some none) (hv:mA name = some v) (hv':PySem.W.handedIn v = true) (h:Q v { s with toks:=s.toks + 1 }) :
  wpAny (model prog w) A (getAttr (.ref x) name expr) Q E s:=by
 obtain ⟨od,J,hl⟩:=I.look
 exact PySem.W.get_value X J (PySem.W.plainGet_of hg).1 (PySem.W.findObj_own hh ha rfl (by rw [hl,hv])) hv' h
theorem XQ {pl:Sem Bool} {Q:Value × List Value->Shared->Prop} (X:K.In s.heap) (I:Pa s.heap x dx C mA) (hg:PySem.W.plainGet K C name = true)
  (hf:PySem.W.findIn K (.ref C) name = some (some (.ref f))) (ht:PySem.W.isFn K (.ref f) = true) (hv:mA name = none) (h:Q (.ref f,[.ref x]) s) :
  wpAny (model prog w) A (getMethod (.ref x) name pl) Q E s:=by
 obtain ⟨od,J,hl⟩:=I.look
 exact PySem.W.method_fn X J (PySem.W.plainGet_of hg).1 (PySem.W.plainGet_of hg).2 hf (beq_iff_eq.mp ht) (by show (PySem.W.lookIn name od).map (·.isSome) = some false; rw [hl,hv]; rfl) h
theorem aay {ns:List Str} {Q:Unit->Shared->Prop} (X:K.In s.heap) (I:Pa s.heap x dx C mA)
  (hs:PySem.W.findIn K (.ref C) "__setattr__" = some (some (.builtin "object.__setattr__"))) (hp:PySem.W.plainOver K C = true) (ht:PySem.W.takerIn K C name = some none) (hh:PySem.W.hasDictIn K C = true)
  (hw:PySem.Within mA ns) (hsz:ns.length <= sizeLine)
  (h:∀ h',Pa h' x dx C (fun y=>if y = name then some v else mA y)->Heap.SameBut dx s.heap h'->Q () { s with heap:=h',toks:=s.toks + 2 }) :
  wpAny (model prog w) A (setAttr (.ref x) name v) Q E s:=by
 obtain ⟨od,J,hl⟩:=I.look
 refine PySem.W.set_plain X J hs (PySem.W.osa_open (s:={ s with toks:=s.toks + 1 }) (r:=none) X J hp ht fun b=>?_)
 obtain ⟨cd,hc,hd'⟩:=PySem.W.any_some hh
 have hx:s.heap.get? x = some ⟨.ref C,some dx,.plain,#[]⟩:=I.obj
 refine wpAny_bind (wpAny_pure (wpAny_bind (wpAny_bind (wpAny_loadPart hx (wpAny_bind (PySem.W.Looks.here (s:={ s with toks:=s.toks + 1 }) (PySem.W.looks_clsIn X hc) ?_))))))
 rw [hd']
 refine wpAny_pure (a:=some dx) (wpAny_bind (wpAny_pure (wpAny_bind ?_)))
 refine wpAny_nsSet1 (s:={ s with toks:=s.toks + 1 }) I.ns fun h' hn2 hs2=>?_
 obtain ⟨oD,esD,epD,hoD,hdD,hcD⟩:=hn2.count (PySem.Within.cons name v hw)
 refine wpAny_bind (wpAny_lookBehind hoD (by rw [hdD]; exact pastItsLine_dict (aL hcD (by rw [List.length_cons]; omega))) ?_)
 exact wpAny_pure (h _ ⟨(hs2.2 _ (Ne.symm I.ne)).trans I.obj,hn2,I.ne⟩ hs2)
theorem X8 {R:Result->Shared->Prop} {vs:List Value} {kw:List (Str × Value)} (X:K.In s.heap) (hm:PySem.W.makesIn K C = true)
  (hi:PySem.W.findIn K (.ref C) "__init__" = some (some (.ref f))) (hf:PySem.W.typeIn K (.ref f) = some (.type "function"))
  (h:codeAny (model prog w) (A.under (.builtin "type.__call__" ⟨.ref C :: vs,kw⟩)) (.call (.ref f) ⟨.ref (s.heap.objs.size + 1) :: vs,kw⟩) (PySem.W.InitBack (s.heap.objs.size + 1) R)
   { s with heap:=(s.heap.push PySem.W.emptyDict).push (PySem.W.instObj C s.heap.objs.size) }) :
  codeAny (model prog w) A (.call (.ref C) ⟨vs,kw⟩) R s:=by
 obtain ⟨hh,g,d,t,os⟩:=s
 exact PySem.W.make_core (PySem.W.makes_of X hm) (PySem.W.looks_findIn X hi) (fun self=>PySem.W.bind_fn X self hf) (.inl rfl) h
end
def kW (f:Str) (v:V):List (Str × V)->List (Str × V)
 | []=>[(f,v)]
 | (g,x) :: r=>if g = f then (g,v) :: r else (g,x) :: kW f v r
theorem zW (f g:Str) (v:V):∀ fs:List (Str × V),(kW f v fs).lookup g = if g = f then some v else fs.lookup g
 | []=>by
  show List.lookup g [(f,v)] = _
  by_cases h:g = f
  .have hb:(g == f) = true:=beq_iff_eq.mpr h
   simp only [List.lookup,hb,if_pos h]
  .have hb:(g == f) = false:=beq_eq_false_iff_ne.mpr h
   simp only [List.lookup,hb,if_neg h]
 | (k,x) :: r=>by
  have ih:=zW f g v r
  rw [show kW f v ((k,x) :: r) = (if k = f then (k,v) :: r else (k,x) :: kW f v r) from rfl]
  by_cases hk:k = f
  .rw [if_pos hk]
   by_cases h:g = k
   .have hb:(g == k) = true:=beq_iff_eq.mpr h
    simp only [List.lookup,hb,if_pos (h.trans hk)]
   .have hb:(g == k) = false:=beq_eq_false_iff_ne.mpr h
    simp only [List.lookup,hb,if_neg (fun e:g = f=>h (e.trans hk.symm))]
  .rw [if_neg hk]
   by_cases h:g = k
   .have hb:(g == k) = true:=beq_iff_eq.mpr h
    simp only [List.lookup,hb,if_neg (fun e:g = f=>hk (h.symm.trans e))]
   .have hb:(g == k) = false:=beq_eq_false_iff_ne.mpr h
    simp only [List.lookup,hb]
    exact ih
theorem zc (f:Str) (v:V):∀ fs:List (Str × V),f ∈ (kW f v fs).map (·.1)/\∀ g,g ∈ fs.map (·.1)->g ∈ (kW f v fs).map (·.1)
 | []=>⟨by simp [kW],fun g h=>by simp at h⟩
 | (k,x) :: r=>by
  obtain ⟨i1,i2⟩:=zc f v r
  rw [show kW f v ((k,x) :: r) = (if k = f then (k,v) :: r else (k,x) :: kW f v r) from rfl]
  by_cases hk:k = f
  .rw [if_pos hk]
   subst hk
   exact ⟨by simp,fun g h=>by simpa using h⟩
  .rw [if_neg hk]
   refine ⟨?_,fun g h=>?_⟩
   .rw [List.map_cons]
    exact aH _ i1
   .rw [List.map_cons] at h ⊢
    rcases List.mem_cons.mp h with e | e
    .exact List.mem_cons.mpr (.inl e)
    .exact aH _ (i2 g e)
theorem zV (f:Str) (v:V):∀ fs:List (Str × V),(kW f v fs).length <= fs.length + 1
 | []=>by simp [kW]
 | (k,x) :: r=>by
  have ih:=zV f v r
  rw [show kW f v ((k,x) :: r) = (if k = f then (k,v) :: r else (k,x) :: kW f v r) from rfl]
  by_cases hk:k = f
  .rw [if_pos hk,List.length_cons,List.length_cons]; omega
  .rw [if_neg hk,List.length_cons,List.length_cons]; omega
theorem uN.some_of {v:V} {o:Option Value} (r:uN (some v) o):∃ u,o = some u/\RelV v u:=by
 cases o with
 | none=>exact (show False from r).elim
 | some u=>exact ⟨u,rfl,r⟩
theorem uN.none_of {o:Option Value} (r:uN none o):o = none:=by
 cases o with
 | none=>rfl
 | some u=>exact (show False from r).elim
theorem GQ {v:V} {u:Value} (r:RelV v u):PySem.W.handedIn u = true:=by
 cases v with
 | non=>cases (show u = Value.none from r); rfl
 | bl b=>cases (show u = Value.bool b from r); rfl
 | int i=>obtain ⟨t,e⟩:=(show ∃ t,u = Value.int i t from r); cases e; rfl
 | str x=>obtain ⟨t,e⟩:=(show ∃ t,u = Value.str x t from r); cases e; rfl
 | byt b=>obtain ⟨t,e⟩:=(show ∃ t,u = Value.bytes b t from r); cases e; rfl
 | flt b=>obtain ⟨t,e⟩:=(show ∃ t,u = Value.float b t from r); cases e; rfl
 | ref a=>cases (show u = Value.ref a from r); rfl
 | ty n=>cases (show u = Value.type n from r); rfl
section
variable {P:Program} {w:World} {H H':Hp} {h h':Heap} {a C dx:Addr} {fs fs':List (Str × V)}
theorem Ay (hok:HOk P w H h) (e:H a = some (.ins C dx fs)):∃ mA,Pa h a dx C mA/\(∀ f,uN (fs.lookup f) (mA f))/\PySem.Within mA (fs.map (·.1))/\fs.length <= 1000/\H dx = some (.own a):=by
 obtain ⟨d,z,ne,ob,mA,n,r,q⟩:=(show dz P w H h a (.ins C dx fs) from hok a _ e)
 exact ⟨mA,⟨ob,n,ne⟩,r,q,z,d⟩
end
structure Cls (K:Frag) (C:Addr):Prop where
 pg:PySem.W.plainGet K C Str.empty = true
 hd:PySem.W.hasDictIn K C = true
 po:PySem.W.plainOver K C = true
 sa:PySem.W.findIn K (.ref C) "__setattr__" = some (some (.builtin "object.__setattr__"))
theorem Cls.get {K:Frag} {C:Addr} (c:Cls K C) (f:Str):PySem.W.plainGet K C f = true:=c.pg
def cj (K:Frag) (C:Addr) (f:Str):Prop:=PySem.W.findIn K (.ref C) f = some none
theorem cj.taker {K:Frag} {C:Addr} {f:Str} (n:cj K C f):PySem.W.takerIn K C f = some none:=by
 unfold PySem.W.takerIn
 rw [show PySem.W.findIn K (.ref C) f = some none from n]
 rfl
structure Meth (K:Frag) (C:Addr) (m:Str) (f:Addr):Prop where
 at_:PySem.W.findIn K (.ref C) m = some (some (.ref f))
 fn:PySem.W.isFn K (.ref f) = true
 kp:PySem.W.keepIn K (.ref f) = true
section
variable {X:Cx} {pins:List (Addr × Obj)} {σ:St} {H:Hp} {s:Shared} {a C dx:Addr} {fs:List (Str × V)} {f:Str} {v:V} {A:Around} {E:Value->Shared->Prop}
theorem Nu {b:Bool} {Q:Value->Shared->Prop} (I:Inv X pins σ H s) (e:H a = some (.ins C dx fs)) (c:Cls X.K C) (n:cj X.K C f) (l:fs.lookup f = some v)
  (h:∀ u s',Inv X pins σ H s'->RelV v u->Q u s'):wpAny (model X.prog X.w) A (getAttr (.ref a) f b) Q E s:=by
 obtain ⟨mA,O,r,_,_,_⟩:=Ay I.hok e
 obtain ⟨u,hu,ru⟩:=uN.some_of (v:=v) (o:=mA f) (by rw [<- l]; exact r f)
 exact get_map I.kIn O (c.get f) c.hd n hu (GQ ru) (h u _ (I.tok _) ru)
theorem v7 {m:Str} {g:Addr} {pl:Sem Bool} {Q:Value × List Value->Shared->Prop} (I:Inv X pins σ H s) (e:H a = some (.ins C dx fs)) (c:Cls X.K C) (k:Meth X.K C m g) (l:fs.lookup m = none)
  (h:Q (.ref g,[.ref a]) s):wpAny (model X.prog X.w) A (getMethod (.ref a) m pl) Q E s:=by
 obtain ⟨mA,O,r,_,_,_⟩:=Ay I.hok e
 have hn:mA m = none:=uN.none_of (by rw [<- l]; exact r m)
 exact XQ I.kIn O (c.get m) k.at_ k.fn hn h
theorem O5 {y:V} {u:Value} {Q:Unit->Shared->Prop} (I:Inv X pins σ H s) (e:H a = some (.ins C dx fs)) (c:Cls X.K C) (n:cj X.K C f) (hl:fs.length < 1000) (ry:RelV y u)
  (h:∀ s',Inv X pins σ (upd H a (.ins C dx (kW f y fs))) s'->Q () s'):wpAny (model X.prog X.w) A (setAttr (.ref a) f u) Q E s:=by
 obtain ⟨mA,O,r,wi,_,ho⟩:=Ay I.hok e
 have hz:(fs.map (·.1)).length <= sizeLine:=by rw [ak,sizeLine_eq]; omega
 refine aay I.kIn O c.sa c.po n.taker c.hd wi hz fun h' O' sb=>h _ ?_
 have hd:∃ o,h'.get? dx = some o:=let ⟨o,_,_,e',_⟩:=O'.ns; ⟨o,e'⟩
 refine I.write (x:=a) (e:=dx) (by rw [e]; exact True.intro) (.inr ho) (fun b q hb z=>(sb.2 b hb).trans z) hd ?_
 refine ⟨by rw [bF O.ne]; exact ho,?_,O.ne,O'.obj,_,O'.ns,fun g=>?_,fun g hg=>?_⟩
 .have:=zV f y fs; omega
 .show uN ((kW f y fs).lookup g) (if g = f then some u else mA g)
  rw [zW]
  by_cases q:g = f
  .rw [if_pos q,if_pos q]; exact ry
  .rw [if_neg q,if_neg q]; exact r g
 .by_cases q:g = f
  .rw [q]; exact (zc f y fs).1
  .refine (zc f y fs).2 g (wi g fun z=>hg ?_)
   show (if g = f then some u else mA g) = none
   rw [if_neg q]; exact z
theorem Inv.made (I:Inv X pins σ H s):Inv X pins σ (upd (upd H s.heap.objs.size (.own (s.heap.objs.size + 1))) (s.heap.objs.size + 1) (.ins C s.heap.objs.size []))
  { s with heap:=(s.heap.push PySem.W.emptyDict).push (PySem.W.instObj C s.heap.objs.size) }:=by
 have e1:(s.heap.push PySem.W.emptyDict).get? s.heap.objs.size = some PySem.W.emptyDict:=aY s.heap rfl
 have e2:((s.heap.push PySem.W.emptyDict).push (PySem.W.instObj C s.heap.objs.size)).get? (s.heap.objs.size + 1) = some (PySem.W.instObj C s.heap.objs.size):=by
  have:=aY (s.heap.push PySem.W.emptyDict) (o:=PySem.W.instObj C s.heap.objs.size) rfl
  rwa [Heap.size_push] at this
 have e3:(s.heap.push PySem.W.emptyDict).Ns s.heap.objs.size (fun _=>none):=⟨PySem.W.emptyDict,#[],_,e1,rfl,(fun e he=>absurd he (by simp)),fun _=>rfl⟩
 have I1:=I.laid (a:=s.heap.objs.size) (o:=.own (s.heap.objs.size + 1)) (h':=s.heap.push PySem.W.emptyDict) (t':=s.toks) (fun b u q=>aG _ q) (aF _) ⟨_,e1⟩
 refine I1.laid (a:=s.heap.objs.size + 1) (o:=.ins C s.heap.objs.size []) (t':=s.toks) (fun b u q=>aG _ q) (Nat.le_of_eq (Heap.size_push _ _)) ?_
 have ne:s.heap.objs.size ≠ s.heap.objs.size + 1:=aR (Nat.lt_succ_self _)
 refine ⟨by rw [bF ne,bC],bh _,ne,e2,fun _=>none,(Heap.Ns1.of_empty e3).at fun o q=>aG _ q,fun _=>True.intro,fun y hy=>absurd rfl hy⟩
theorem Ra {prog:Program} {w:World} {env:Env} {e:Expr} {f:Str} {pos:Pos} {s:Shared} {Q:Value->Shared->Prop} (hb:attributeBase e f env (eval e env) = eval e env)
  (h:wpAny (model prog w) A (eval e env) (fun o s₁=>wpAny (model prog w) A (getAttr o f true) Q E s₁) E s):wpAny (model prog w) A (eval (.Attribute e f pos) env) Q E s :=
 Attribute_any_ h (by rw [arm_eval_Attribute,hb])
end
def VJ (K:Frag) (ta:TE) (f:Str):TE:=fun σ H Q=>ta σ H fun x H1=>∃ a C dx fs v,x = .ref a/\H1 a = some (.ins C dx fs)/\Cls K C/\cj K C f/\fs.lookup f = some v/\Q v H1
def ZQ (K:Frag) (ta tv:TE) (f:Str):TS:=fun D σ H=>tv σ H fun y H1=>ta σ H1 fun x H2=>∃ a C dx fs,x = .ref a/\H2 a = some (.ins C dx fs)/\Cls K C/\cj K C f/\fs.length < 1000 /\
 D.nx σ (upd H2 a (.ins C dx (kW f y fs)))
section
variable {X:Cx} {o e value:Expr} {f:Str} {pos pos' tpos:Pos} {ta tv:TE}
theorem sE (he:PE X e ta) (hb:attributeBase e f X.env (eval e X.env) = eval e X.env):PE X (.Attribute e f pos) (VJ X.K ta f):=by
 intro pins s σ H Q I h
 refine Ra hb (thn (he pins s σ H _ I h) fun u s1 h=>?_)
 obtain ⟨x,H1,I1,rx,a,C,dx,fs,v,rfl,ea,c,n,l,q⟩:=h
 obtain rfl:u = Value.ref a:=rx
 exact Nu I1 ea c n l fun u' s2 I2 ru=>⟨v,H1,I2,ru,q⟩
theorem uM (ha:PE X o ta) (hv:PE X value tv) (hs:swapsWith value (some (.Attribute o f pos')) pos.line X.env = pure false):PS X (.Assign [.Attribute o f pos'] value pos) (ZQ X.K ta tv f):=by
 intro pins s σ H D I h
 refine plainObj_wpAny_Assign_Attribute (thn (hv pins s σ H _ I h) fun u s1 ⟨y,H1,I1,ry,q⟩=>thn (ha pins s1 σ H1 _ I1 q) fun ov s2 h=>?_) hs
 obtain ⟨x,H2,I2,rx,a,C,dx,fs,rfl,ea,c,n,l,q2⟩:=h
 obtain rfl:ov = Value.ref a:=rx
 exact O5 I2 ea c n l ry fun s3 I3=>⟨σ,_,I3,q2⟩
end
section
variable {X:Cx} {pins:List (Addr × Obj)} {σ:St} {H:Hp} {s:Shared} {A:Around} {E:Value->Shared->Prop} {Q:Value->Shared->Prop} {c:Value} {b:Bool}
inductive zm (K:Frag) (H:Hp):V->Value->Prop where
 | non:zm K H .non (.type "NoneType")
 | bl (x:Bool):zm K H (.bl x) (.type "bool")
 | int (i:Int):zm K H (.int i) (.type "int")
 | str (x:Str):zm K H (.str x) (.type "str")
 | flt (x:UInt64):zm K H (.flt x) (.type "float")
 | lst {a:Addr} {xs:List V} (e:H a = some (.lst xs)):zm K H (.ref a) (.type "list")
 | frz {a:Addr} {o:Obj} {xs:List V} (e:H a = some (.frz o (.lst xs))):zm K H (.ref a) (.type "list")
 | tup {a:Addr} {xs:List V} (e:H a = some (.tup xs)):zm K H (.ref a) (.type "tuple")
 | dK {a:Addr} {kvs:List (Key × V)} (e:H a = some (.dK kvs)):zm K H (.ref a) (.type "dict")
 | ins {a C dx:Addr} {fs:List (Str × V)} (e:H a = some (.ins C dx fs)) (cl:Cls K C) (ha:PySem.W.findIn K (.ref C) "__class__" = some (some (.builtin "object.__class__")))
   (hn:PySem.W.specialIn K (.builtin "object.__class__") "__get__" = some (some (.builtin "getset_descriptor.__get__"))) (htk:PySem.W.takesIn K (.builtin "object.__class__") = some true)
   (hm:PySem.W.mroIn K C (.type "object") = some true):zm K H (.ref a) (.ref C)
theorem Tf {x:V} {u t:Value} (I:Inv X pins σ H s) (rx:RelV x u) (ty:zm X.K H x t) (e:PySem.W.kitOne X.K t c = some b) (h:∀ tk,Q (.bool b) { s with toks:=tk }) :
  wpAny (model X.prog X.w) A (call (.builtin "isinstance") [u,c]) Q E s:=by
 cases ty with
 | non=>cases (show u = Value.none from rx); exact PySem.W.kia_one PySem.W.kitx_none I.kIn True.intro e (fun z=>nomatch z) h
 | bl y=>cases (show u = Value.bool y from rx); exact PySem.W.kia_one PySem.W.kitx_bool I.kIn True.intro e (fun z=>nomatch z) h
 | int i=>obtain ⟨t,q⟩:=(show ∃ t,u = Value.int i t from rx); cases q; exact PySem.W.kia_one PySem.W.kitx_int I.kIn True.intro e (fun z=>nomatch z) h
 | str y=>obtain ⟨t,q⟩:=(show ∃ t,u = Value.str y t from rx); cases q; exact PySem.W.kia_one PySem.W.kitx_str I.kIn True.intro e (fun z=>nomatch z) h
 | flt y=>obtain ⟨t,q⟩:=(show ∃ t,u = Value.float y t from rx); cases q; exact PySem.W.kia_one PySem.W.kitx_float I.kIn True.intro e (fun z=>nomatch z) h
 | @lst a xs ea =>
  cases (show u = Value.ref a from rx)
  obtain ⟨_,_,n,_,h1⟩:=(show dz X.prog X.w H s.heap a (.lst xs) from I.hok a _ ea)
  exact PySem.W.kia_one PySem.W.kitx_list I.kIn ⟨_,h1,rfl⟩ e (fun z=>nomatch z) h
 | @frz a ob xs ea =>
  cases (show u = Value.ref a from rx)
  obtain ⟨_,_,_,n,_,h1⟩:=(show dz X.prog X.w H s.heap a (.frz ob (.lst xs)) from I.hok a _ ea)
  exact PySem.W.kia_one PySem.W.kitx_list I.kIn ⟨_,h1,rfl⟩ e (fun z=>nomatch z) h
 | @tup a xs ea =>
  cases (show u = Value.ref a from rx)
  obtain ⟨_,_,_,p⟩:=(show dz X.prog X.w H s.heap a (.tup xs) from I.hok a _ ea)
  obtain ⟨o,h1,h2,_⟩:=p
  exact PySem.W.kia_one PySem.W.kitx_tuple I.kIn ⟨o,h1,h2⟩ e (fun z=>nomatch z) h
 | @dK a kvs ea =>
  cases (show u = Value.ref a from rx)
  obtain ⟨_,_,vs,_,p⟩:=(show dz X.prog X.w H s.heap a (.dK kvs) from I.hok a _ ea)
  obtain ⟨o,es,ep,h1,h2,_⟩:=p
  exact PySem.W.kia_one PySem.W.kitx_dict I.kIn ⟨o,h1,h2.1⟩ e (fun z=>nomatch z) h
 | @ins a C dx fs ea cl ha hn htk hm =>
  cases (show u = Value.ref a from rx)
  obtain ⟨mA,O,_⟩:=Ay I.hok ea
  obtain ⟨od,J,_⟩:=O.look
  exact PySem.W.kia_one (PySem.W.kitx_own (cl.get _) cl.hd ha hn htk hm) I.kIn J e (fun z=>nomatch z) h
end
end L2
namespace L2
open PySem PySem.Spec PyProof.Rows
structure gJ (k:Nat) (A:Around):Prop where
 hd:A.handled = none
 dp:A.depth + 3 * k + 5 < recursionLimit
 un:A.units + 16 * k + 200 < cLine
theorem gJ.mono {j k:Nat} {A:Around} (r:gJ k A) (h:j <= k):gJ j A:=⟨r.hd,by have:=r.dp; omega,by have:=r.un; omega⟩
theorem gJ.deeper {k:Nat} {A:Around} (r:gJ (k + 1) A) (env:Env):gJ k (A.deeper env) :=
 ⟨r.hd,by have:=r.dp; show A.depth + 1 + 3 * k + 5 < _; omega,by have:=r.un; show A.units + 3 + 16 * k + 200 < _; omega⟩
theorem Ox {A:Around} {C:Addr} {us:List Value} {kw:List (Str × Value)} : (A.under (.builtin "type.__call__" ⟨.ref C :: us,kw⟩)).depth = A.depth + 1:=by
 first | rfl | simp [Around.under,Code.weight,Code.isCreation,Code.isGuard,Code.isCaller,Code.frames,Code.isFrame,guardIds]
theorem Ny {A:Around} {C:Addr} {us:List Value} {kw:List (Str × Value)} : (A.under (.builtin "type.__call__" ⟨.ref C :: us,kw⟩)).units = A.units + 1:=by
 first | rfl | simp [Around.under,Code.cUnits,Code.frames,Code.isFrame]
theorem gJ.make {k:Nat} {A:Around} (r:gJ (k + 1) A) (C:Addr) (us:List Value) (kw:List (Str × Value)):gJ k (A.under (.builtin "type.__call__" ⟨.ref C :: us,kw⟩)) :=
 ⟨r.hd,by have:=r.dp; rw [Ox]; omega,by have:=r.un; rw [Ny]; omega⟩
theorem gJ.depth {k:Nat} {A:Around} (r:gJ k A):A.depth < recursionLimit:=by have:=r.dp; omega
theorem gJ.units {k:Nat} {A:Around} (r:gJ k A):A.units + 64 < cLine:=by have:=r.un; omega
def kh:TA:=fun _ H Q=>Q [] H
def fu (ta:TE) (tr:TA):TA:=fun σ H Q=>ta σ H fun x H1=>tr σ H1 fun xs H2=>Q (x :: xs) H2
section
variable {X:Cx} {e:Expr} {es:List Expr} {te:TE} {t:TA} {pos:Pos}
theorem bG:PA X [] kh:=fun _ _ _ _ H Q I h=>Calls.spliced_nil ⟨[],H,I,.nil,h⟩
theorem bB (ha:PE X e te) (hr:PA X es t) (hs:starEach (e :: es) X.env = (false,eval e X.env) :: starEach es X.env:=by rfl):PA X (e :: es) (fu te t):=by
 intro pos pins s σ H Q I h
 rw [hs]
 show wpAny _ _ (spliced ((false,eval e X.env) :: backTo pos (starEach es X.env))) _ _ s
 refine Calls.spliced_cons (thn (ha pins s σ H _ I h) fun u s1 ⟨x,H1,I1,r1,q1⟩=>?_)
 exact thn (hr pos pins s1 σ H1 _ I1 q1) fun us s2 ⟨xs,H2,I2,r2,q2⟩=>⟨x :: xs,H2,I2,.cons r1 r2,q2⟩
def Vh (t:TA):TE:=fun σ H Q=>t σ H fun xs H1=>xs.length <= sizeLine/\∀ p,H1 p = none->Q (.ref p) (upd H1 p (.tup xs))
def Ks (t:TA):TE:=fun σ H Q=>t σ H fun xs H1=>xs.length <= sizeLine/\∀ p,H1 p = none->Q (.ref p) (upd H1 p (.lst xs))
theorem dI {x1} (h:PA X es t):PE X (.Tuple es x1 pos) (Vh t):=by
 intro pins s σ H Q I hq
 refine wpAny_Tuple_spliced (thn (h pos pins s σ H _ I hq) fun us s1 ⟨xs,H1,I1,r,z,q⟩=>⟨by rw [<- r.length]; exact z,?_⟩)
 have hf:H1 s1.heap.objs.size = none:=I1.hok.fresh (aF _)
 refine ⟨.ref s1.heap.objs.size,upd H1 s1.heap.objs.size (.tup xs),I1.laid (t':=s1.toks) (fun b u e=>aG _ e) (aF _) ?_,rfl,q _ hf⟩
 exact ⟨z,us,r,⟨_,aY _ rfl,rfl,_,rfl⟩⟩
theorem cR (h:PA X es t):PE X (.List es pos) (Ks t):=by
 intro pins s σ H Q I hq
 refine wpAny_List_spliced (thn (h pos pins s σ H _ I hq) fun us s1 ⟨xs,H1,I1,r,z,q⟩=>⟨by rw [<- r.length]; exact z,?_⟩)
 have hf:H1 s1.heap.objs.size = none:=I1.hok.fresh (aF _)
 refine ⟨.ref s1.heap.objs.size,upd H1 s1.heap.objs.size (.lst xs),I1.laid (t':=s1.toks) (fun b u e=>aG _ e) (aF _) ?_,rfl,q _ hf⟩
 exact ⟨z,us,0,r,aY _ rfl⟩
end
abbrev Sp:=List V->Hp->VK->XK->Prop
abbrev CXT:=List Env->Hp->Shared->XK->Value->Shared->Prop
structure Pz (P:Program) (w:World) (K:Frag) (mg:Str->Option Value) (base:Heap) (A:Around) (outer:List Env) (s:Shared) (H:Hp):Prop where
 frames:A.frames = some outer
 mod:Mod K mg base
 bs:∀ b o,base.get? b = some o->s.heap.get? b = some o/\H b = none
 bsz:base.objs.size <= s.heap.objs.size
 funs:s.heap.FunFrames base outer
 frf:∀ b ∈ frs outer,H b = none
 hok:HOk P w H s.heap
 bare:AllBare s.gens
def CE (outer:List Env) (P:Program) (w:World) (H:Hp) (s:Shared) (Q:VK) (u:Value) (s':Shared):Prop :=
 ∃ v H',s'.os = s.os/\AllBare s'.gens/\Un (frs outer) [] H H' s.heap s'.heap/\HOk P w H' s'.heap/\RelV v u/\Q v H'
def CR (CX:CXT) (outer:List Env) (P:Program) (w:World) (H:Hp) (s:Shared) (Q:VK) (E:XK) (r:Result) (s':Shared):Prop :=
 match r with
 | .ok (.ret u)=>CE outer P w H s Q u s'
 | .ok _=>False
 | .error e=>CX outer H s E e s'
structure cu (P:Program) (w:World) (K:Frag) (mg:Str->Option Value) (base:Heap) (CX:CXT) (k:Nat) (f:Addr) (fd:FuncData) (ps:List Str) (sp:Sp):Prop where
 len:∀ vs H Q E,sp vs H Q E->vs.length = ps.length
 run:∀ (A:Around) (outer:List Env) (s:Shared) (H:Hp) (args:Args) (us:List Value) (vs:List V) (Q:VK) (E:XK),gJ k A->Pz P w K mg base A outer s H->BindsTo s fd args (ps.zip us)->Vals vs us->sp vs H Q E ->
  codeAny (model P w) A (.call (.ref f) args) (CR CX outer P w H s Q E) s
theorem Pz.make {P:Program} {w:World} {K:Frag} {mg:Str->Option Value} {base:Heap} {A:Around} {outer:List Env} {s:Shared} {H:Hp} (e:Pz P w K mg base A outer s H) (C:Addr) (us:List Value) (kw:List (Str × Value)) :
  Pz P w K mg base (A.under (.builtin "type.__call__" ⟨.ref C :: us,kw⟩)) outer s H:=⟨by first | exact e.frames | (simpa [Around.under,Code.envs,Code.isFrame,pushEnvs] using e.frames),e.mod,e.bs,e.bsz,e.funs,e.frf,e.hok,e.bare⟩
section
variable {X:Cx} {pins:List (Addr × Obj)} {σ:St} {H:Hp} {s s':Shared}
theorem Inv.env0 (I:Inv X pins σ H s):Pz X.prog X.w X.K X.mg X.base X.A X.stack s H :=
 ⟨I.ok.frames,I.ok.mod,I.bs,aL I.ok.bsz I.sz,I.stack,I.stkFree,I.hok,I.bare⟩
theorem Inv.after {Q:VK} {u:Value} (I:Inv X pins σ H s) (h:CE X.stack X.prog X.w H s Q u s'):EP X pins σ Q u s':=by
 obtain ⟨v,H',os,bare,un,hok,r,q⟩:=h
 obtain ⟨hh,g,d,t,os'⟩:=s'
 obtain rfl:os' = s.os:=os
 exact ⟨v,H',I.call (h':=hh) (g':=g) (d':=d) (t':=t) (ch:=[]) un hok bare (fun b z=>absurd z (by simp)),r,q⟩
end
def acy (sp:Sp) (dvs:List V) (E:XK) (t:TA):TE:=fun σ H Q=>t σ H fun vs H1=>sp (vs ++ dvs) H1 Q E
def aaH (C:Addr) (m:Str) (sp:Sp) (dvs:List V) (E:XK) (ta:TE) (t:TA):TE:=fun σ H Q=>ta σ H fun x H1=>∃ a dx fs,x = .ref a/\H1 a = some (.ins C dx fs)/\fs.lookup m = none /\
 t σ H1 fun vs H2=>sp (x :: (vs ++ dvs)) H2 Q E
def Binds (K:Frag) (fd:FuncData) (ps:List Str) (ds:List Value):Prop :=
 ∀ (s:Shared) (us:List Value),K.In s.heap->(us ++ ds).length = ps.length->BindsTo s fd ⟨us,[]⟩ (ps.zip (us ++ ds))
theorem Binds.all {K:Frag} {fd:FuncData} {ps:List Str} (h:∀ us:List Value,us.length = ps.length->bindArgs fd ⟨us,[]⟩ = pure (ps.zip us)):Binds K fd ps []:=fun s us _ hl=>by
 rw [List.append_nil] at hl ⊢
 exact .of_eq (h us hl)
def Passes (CX:CXT) (X:Cx) (E:XK):Prop:=∀ (pins:List (Addr × Obj)) (σ:St) (H:Hp) (s:Shared) (e:Value) (s':Shared),Inv X pins σ H s->CX X.stack H s E e s'->X.xe e s'
section
variable {X:Cx} {CX:CXT} {k:Nat} {f C:Addr} {fd:FuncData} {ps:List Str} {sp:Sp} {dvs:List V} {ds:List Value} {E:XK} {x m:Str} {p pos apos:Pos} {e o:Expr} {es:List Expr} {ta:TE} {t:TA}
theorem Jw {pins:List (Addr × Obj)} {σ:St} {H:Hp} {s:Shared} {Q:VK} {us:List Value} {vs:List V} (F:cu X.prog X.w X.K X.mg X.base CX k f fd ps sp) (hr:gJ k X.A) (hb:Binds X.K fd ps ds) (hd:Vals dvs ds) (hx:Passes CX X E)
  (I:Inv X pins σ H s) (r:Vals vs us) (h:sp (vs ++ dvs) H Q E):wpAny (model X.prog X.w) X.A (call (.ref f) us) (EP X pins σ Q) X.xe s:=by
 have r2:Vals (vs ++ dvs) (us ++ ds):=r.append hd
 have hl:(us ++ ds).length = ps.length:=by rw [<- r2.length]; exact F.len _ _ _ _ h
 refine wpAny_call (codeAny_mono (F.run X.A X.stack s H ⟨us,[]⟩ (us ++ ds) (vs ++ dvs) Q E hr I.env0 (hb s us I.kIn hl) r2 h) fun r s' hq=>?_)
 cases r with
 | error e=>exact hx pins σ H s e s' I hq
 | ok fl =>
  cases fl with
  | ret u=>exact I.after hq
  | next=>exact False.elim hq
  | brk=>exact False.elim hq
  | cont=>exact False.elim hq
theorem Yw (F:cu X.prog X.w X.K X.mg X.base CX k f fd ps sp) (hr:gJ k X.A) (hg:Gl X x) (hm:X.mg x = some (.ref f)) (hk:PySem.W.keepIn X.K (.ref f) = true) (hb:Binds X.K fd ps ds) (hd:Vals dvs ds) (hx:Passes CX X E)
  (ha:PA X (e :: es) t) (hdb:(x == ("__debug__" : Str)) = false:=by decide) (he:starEach (e :: es) X.env = (false,eval e X.env) :: starEach es X.env:=by rfl) (hpl:(backTo pos (starEach es X.env)).any (·.1) = false:=by rfl) :
  PE X (.Call (.Name x p) (e :: es) [] pos) (acy sp dvs E t):=by
 intro pins s σ H Q I h
 refine wpAny_Call_Name_kw (nA I hg hm ?_ hdb)
 refine PySem.W.callWith_K (h₀:=X.base) I.ok.mod.kin hk (thn (ha pos pins s σ H _ I h) fun us s1 ⟨vs,H1,I1,r,q⟩=>⟨I1.kIn,?_⟩) he hpl
 exact Jw F hr hb hd hx I1 r q
theorem aaj {pl:Sem Bool} (he:PE X o ta) (c:Cls X.K C) (hm:Meth X.K C m f) (F:cu X.prog X.w X.K X.mg X.base CX k f fd ps sp) (hr:gJ k X.A) (hb:Binds X.K fd ps ds) (hd:Vals dvs ds) (hx:Passes CX X E) (ha:PA X (e :: es) t)
  (hst:starEach (e :: es) X.env = (false,eval e X.env) :: starEach es X.env:=by rfl) (hpl:(backTo pos (starEach es X.env)).any (·.1) = false:=by rfl)
  (ht:eval (.Call (.Attribute o m apos) (e :: es) [] pos) X.env = (do
   let ov <- eval o X.env
   standAt apos.atName
   let (f,first) <- holding [ov] (getMethod ov m pl)
   callWith pos f first (backTo pos (starEach (e :: es) X.env)) (backToKw pos (keywordEach [] X.env))):=by rfl) :
  PE X (.Call (.Attribute o m apos) (e :: es) [] pos) (aaH C m sp dvs E ta t):=by
 intro pins s σ H Q I h
 refine PySem.W.methodCall_KW (pl:=pl) (thn (he pins s σ H _ I h) fun u s1 ⟨x,H1,I1,rx,a,dx,fs,ex,ea,l,q⟩=>?_) ht
 subst ex
 obtain rfl:u = Value.ref a:=rx
 refine v7 I1 ea c hm l ?_
 refine PySem.W.callWith_K (first:=[.ref a]) (h₀:=X.base) I.ok.mod.kin hm.kp (thn (ha pos pins s1 σ H1 _ I1 q) fun us s2 ⟨vs,H2,I2,r,q2⟩=>⟨I2.kIn,?_⟩) hst hpl
 exact Jw (us:=.ref a :: us) (vs:=.ref a :: vs) F hr hb hd hx I2 (.cons rfl r) q2
theorem Wh {pl:Sem Bool} (he:PE X o ta) (c:Cls X.K C) (hm:Meth X.K C m f) (F:cu X.prog X.w X.K X.mg X.base CX k f fd ps sp) (hr:gJ k X.A) (hb:Binds X.K fd ps ds) (hd:Vals dvs ds) (hx:Passes CX X E)
  (ht:eval (.Call (.Attribute o m apos) [] [] pos) X.env = (do
   let ov <- eval o X.env
   standAt apos.atName
   let (f,first) <- holding [ov] (getMethod ov m pl)
   callWith pos f first (backTo pos (starEach [] X.env)) (backToKw pos (keywordEach [] X.env))):=by rfl) :
  PE X (.Call (.Attribute o m apos) [] [] pos) (aaH C m sp dvs E ta kh):=by
 intro pins s σ H Q I h
 refine PySem.W.methodCall_KW (pl:=pl) (thn (he pins s σ H _ I h) fun u s1 ⟨x,H1,I1,rx,a,dx,fs,ex,ea,l,q⟩=>?_) ht
 subst ex
 obtain rfl:u = Value.ref a:=rx
 refine v7 I1 ea c hm l ?_
 exact PySem.W.callWith_K0 (first:=[.ref a]) I1.kIn hm.kp (Jw (us:=[.ref a]) (vs:=[.ref a]) F hr hb hd hx I1 (.cons rfl .nil) q)
structure Mk (K:Frag) (C f:Addr):Prop where
 makes:PySem.W.makesIn K C = true
 init:PySem.W.findIn K (.ref C) "__init__" = some (some (.ref f))
 fn:PySem.W.isFn K (.ref f) = true
 kp:PySem.W.keepIn K (.ref C) = true
end
section
variable {X:Cx} {CX:CXT} {k:Nat} {f C:Addr} {fd:FuncData} {ps ks:List Str} {sp:Sp} {E:XK} {x m:Str} {p pos apos kpos:Pos} {e o:Expr} {es:List Expr} {kws:List Keyword} {te ta:TE} {t tk:TA} {nm:Option Str}
variable {g:List Value->List Value->List Value} {gV:List V->List V->List V}
end
structure bR (N P:List Str) (sc:Scope):Prop where
 kind:sc.kind = .function
 co:sc.isCoroutine = false
 gen:sc.isGenerator = false
 nd:N.Nodup
 pre:N.take P.length = P
 par:∀ x ∈ P,sc.names.lookup x = some .local\/sc.names.lookup x = some .cell
 nofree:∀ y ∈ sc.names,y.2 ≠ .free
theorem Gv {kindOf:Str->Option NameKind} {x:Str} : ∀ {binds:List (Str × Value)} {m:Str->Option Value},(∀ v,(x,v) ∉ binds)->bindL kindOf binds m x = m x
 | [],_,_=>rfl
 | (n,v) :: r,m,h=>by
  unfold bindL
  rw [Gv fun w hw=>h w (aH _ hw)]
  split
  .have:x ≠ n:=by rintro rfl; exact h v aO
   simp [this]
  .rfl
theorem Gm {kindOf:Str->Option NameKind} {x:Str} : ∀ {binds:List (Str × Value)} {m:Str->Option Value},(∀ v,(x,v) ∉ binds)->bindC kindOf binds m x = m x
 | [],_,_=>rfl
 | (n,v) :: r,m,h=>by
  unfold bindC
  rw [Gm fun w hw=>h w (aH _ hw)]
  split
  .rfl
  .have:x ≠ n:=by rintro rfl; exact h v aO
   simp [this]
theorem Gb {kindOf:Str->Option NameKind} {x:Str} {v:Value} : ∀ {P:List Str} {vs:List Value} {i:Nat} {m:Str->Option Value},P.Nodup->P[i]? = some x->vs[i]? = some v->kindOf x = some .local ->
  bindL kindOf (P.zip vs) m x = some v
 | [],_,_,_,_,h,_,_=>by simp at h
 | _ :: _,[],_,_,_,_,h,_=>by simp at h
 | p :: P,w :: vs,0,m,nd,h1,h2,hk=>by
  simp at h1 h2; subst h1; subst h2
  show bindL kindOf ((p,w) :: P.zip vs) m p = _
  unfold bindL
  rw [Gv fun v hv=>(List.nodup_cons.mp nd).1 (List.of_mem_zip hv).1,if_pos hk]
  simp
 | p :: P,w :: vs,i + 1,m,nd,h1,h2,hk=>by
  show bindL kindOf ((p,w) :: P.zip vs) m x = _
  unfold bindL
  exact Gb (i:=i) (List.nodup_cons.mp nd).2 (by simpa using h1) (by simpa using h2) hk
theorem Gx {kindOf:Str->Option NameKind} {x:Str} {v:Value} : ∀ {P:List Str} {vs:List Value} {i:Nat} {m:Str->Option Value},P.Nodup->P[i]? = some x->vs[i]? = some v->kindOf x ≠ some .local ->
  bindC kindOf (P.zip vs) m x = some v
 | [],_,_,_,_,h,_,_=>by simp at h
 | _ :: _,[],_,_,_,_,h,_=>by simp at h
 | p :: P,w :: vs,0,m,nd,h1,h2,hk=>by
  simp at h1 h2; subst h1; subst h2
  show bindC kindOf ((p,w) :: P.zip vs) m p = _
  unfold bindC
  rw [Gm fun v hv=>(List.nodup_cons.mp nd).1 (List.of_mem_zip hv).1,if_neg hk]
  simp
 | p :: P,w :: vs,i + 1,m,nd,h1,h2,hk=>by
  show bindC kindOf ((p,w) :: P.zip vs) m x = _
  unfold bindC
  exact Gx (i:=i) (List.nodup_cons.mp nd).2 (by simpa using h1) (by simpa using h2) hk
def start (N:List Str) (vs:List V):St:=vs.map some ++ List.replicate (N.length - vs.length) none
def Ec (CX:CXT) (P:Program) (w:World) (K:Frag) (mg:Str->Option Value) (base:Heap) (N:List Str) (qual:Str) (scope:Scope) (f:Addr) (cd:Value) (A:Around) (outer:List Env) (s:Shared) (H:Hp) (E:XK):Cx where
 prog:=P
 w:=w
 K:=K
 mg:=mg
 base:=base
 A:=A.deeper (envOfC qual scope s.heap.objs.size f cd)
 N:=N
 s₀:=s
 H₀:=H
 env:=envOfC qual scope s.heap.objs.size f cd
 outer:=outer
 stack:=envOfC qual scope s.heap.objs.size f cd :: outer
 ex:=[]
 calm:=true
 fn:=fun _=>true
 pn:=[]
 xe:=fun e s'=>wpAny (model P w) (A.deeper (envOfC qual scope s.heap.objs.size f cd)) (leaving (envOfC qual scope s.heap.objs.size f cd) e) (fun _ s''=>CX outer H s E e s'') (fun e' s''=>CX outer H s E e' s'') s'
theorem Lk {sc:Scope} {n:Nat} {x:Str} (h:sc.names.lookup x = some .cell):∃ c,(cellsFrom n sc.names []).lookup x = some c:=by
 have q:=PySem.W.cellsFrom_some sc.names n [] (.inl h)
 exact Option.isSome_iff_exists.mp q
theorem Tz {CX:CXT} {P:Program} {w:World} {K:Frag} {mg:Str->Option Value} {base:Heap} {N ps:List Str} {qual:Str} {scope:Scope} {f:Addr} {cd:Value} {A:Around} {outer:List Env} {s s1:Shared} {H:Hp} {E:XK} {us:List Value} {vs:List V}
  (S:bR N ps scope) (hd:A.handled = none) (e0:Pz P w K mg base A outer s H) (hl:vs.length = ps.length) (r:Vals vs us)
  (x:InCallC s s.heap.objs.size (bindL (envOfC qual scope s.heap.objs.size f cd).kindOf (ps.zip us) fun _=>none) (cellsFrom (s.heap.objs.size + 1) scope.names []) (bindC (envOfC qual scope s.heap.objs.size f cd).kindOf (ps.zip us) fun _=>none) s1) :
  Inv (Ec CX P w K mg base N qual scope f cd A outer s H E) [] (start N vs) H s1:=by
 have hpl:ps.length <= N.length:=by have:=congrArg List.length S.pre; rw [bf] at this; omega
 obtain ⟨h1,tk,rfl,hk⟩:=x.done
 have noA:∀ b:Addr,b ∉ (Ec CX P w K mg base N qual scope f cd A outer s H E).ex:=fun b z=>absurd (show b ∈ ([] : List Addr) from z) (by simp)
 refine ⟨⟨e0.mod,S.kind,rfl,rfl,aF _,fun y z c h1 h2=>?_,fun y hy=>?_,fun y c _ h=>?_,fun _=>hd,Around.frames_deeper e0.frames,.inr ⟨rfl,rfl⟩,fun b z=>absurd z (noA b),e0.bs,e0.bsz,fun b _ _=>noA b,fun b z=>absurd z (noA b),e0.funs,e0.frf⟩,
  rfl,e0.bare,Un.kept hk,⟨_,x.toInCall.ns,fun i y v h1 h2 h3=>?_⟩,fun y c h=>⟨_,x.cell y c h⟩,e0.hok.fresh (aF _),fun y c h=>?_,fun p hp=>absurd (show p ∈ ([] : List (Addr × Obj)) from hp) (by simp),e0.hok.kept hk,?_⟩
 .exact name_of_addr x.apart (PySem.mem_of_lookup h1) (PySem.mem_of_lookup h2)
 .have hy:scope.names.lookup y = some .cell\/scope.names.lookup y = some .free:=hy
  rcases hy with hy | hy
  .exact Lk hy
  .exact absurd rfl (S.nofree _ (PySem.mem_of_lookup hy))
 .exact Nat.le_of_lt (x.above y c (PySem.mem_of_lookup h))
 .have hi:i < vs.length:=by
   unfold start at h2
   by_cases hi:i < vs.length
   .exact hi
   .rw [aC (by simpa using hi)] at h2
    rw [List.getElem?_replicate] at h2
    split at h2 <;> cases h2
  have ha:vs[i]? = some v:=by
   unfold start at h2
   rw [aD (by simpa using hi),aq] at h2
   cases e:vs[i]? with
   | none=>rw [e] at h2; cases h2
   | some a=>rw [e] at h2; cases h2; rfl
  obtain ⟨u,hu,rv⟩:=r.get ha
  have hp:ps[i]? = some y:=by
   rw [<- S.pre,List.getElem?_take_of_lt (by omega)]; exact h1
  have ndP:ps.Nodup:=by rw [<- S.pre]; exact S.nd.sublist (List.take_sublist _ _)
  refine ⟨u,rv,?_⟩
  rcases S.par y (aB hp) with k | k
  .exact .inl ⟨k,Gb ndP hp hu k⟩
  .obtain ⟨c,e⟩:=Lk (n:=s.heap.objs.size + 1) k
   refine .inr ⟨.inl k,c,e,?_⟩
   have q:=x.cell y c e
   rw [Gx ndP hp hu (by show scope.names.lookup y ≠ _; rw [k]; decide)] at q
   exact q
 .exact e0.hok.fresh (Nat.le_of_lt (x.above y c (PySem.mem_of_lookup h)))
 .unfold start
  show _ = N.length
  rw [aA,ak,aN]
  omega
theorem aaU {CX:CXT} {P:Program} {w:World} {K:Frag} {mg:Str->Option Value} {base:Heap} {k:Nat} {f:Addr} {name qual:Str} {params:Arguments} {body:List Stmt} {scope:Scope} {dV kV doc pm cdv ct oc:Value} {an od:Option Addr}
  {osl:Array (Option Value)} {N ps:List Str} {sp:Sp} (lk:K.lookup f = some ⟨oc,od,.func (PySem.W.fnOf name qual params body scope dV kV doc pm an cdv ct),osl⟩) (hcd:PySem.W.codeIn K cdv qual = true) (S:bR N ps scope)
  (len:∀ vs H Q E,sp vs H Q E->vs.length = ps.length)
  (hbody:∀ (A:Around) (outer:List Env) (s:Shared) (H:Hp) (vs:List V) (Q:VK) (E:XK),gJ k (A.deeper (envOfC qual scope s.heap.objs.size f cdv))->sp vs H Q E ->
   ∃ t,PSs (Ec CX P w K mg base N qual scope f cdv A outer s H E) body t/\t { nx:=fun _ H'=>Q .non H',rt:=Q } (start N vs) H) :
  cu P w K mg base CX (k + 1) f (PySem.W.fnOf name qual params body scope dV kV doc pm an cdv ct) ps sp:=by
 refine ⟨len,fun A outer s H args us vs Q E hr e0 hb r hsp=>?_⟩
 have hl:=len _ _ _ _ hsp
 have KX:K.In s.heap:=e0.mod.kin.keeps fun b o e=>(e0.bs b o e).1
 have lim:s.heap.NoLimit:=e0.mod.nolimit.keeps fun b o e=>(e0.bs b o e).1
 have hkind:∀ y ∈ ps.zip us,scope.names.lookup y.1 = some .local\/(scope.names.lookup y.1 = some .cell/\((cellsFrom (s.heap.objs.size + 1) scope.names []).lookup y.1).isSome = true):=fun ⟨n,v⟩ hy=>by
  rcases S.par n (List.of_mem_zip hy).1 with q | q
  .exact .inl q
  .exact .inr ⟨q,PySem.W.cellsFrom_some _ _ _ (.inl q)⟩
 refine codeAny_call_function hr.depth (KX _ _ lk) rfl S.co S.gen rfl (PySem.W.codeRec_of KX hcd) (hb _ _ _ _ ?_)
 refine wpAny_newFunctionEnv_cells S.kind hkind fun env he s1 x=>?_
 subst he
 refine ⟨lim.keeps x.toInCall.keep,codeAny_func ?_⟩
 obtain ⟨t,ht,hq⟩:=hbody A outer s H vs Q E (hr.deeper _) hsp
 have I:Inv (Ec CX P w K mg base N qual scope f cdv A outer s H E) [] (start N vs) H s1:=Tz S hr.hd e0 hl r x
 refine wpAny_mono (ht [] s1 (start N vs) H _ I hq) (fun fl s' hs=>?_) fun e s' hs=>hs
 have fin:∀ {σ':St} {H':Hp} {v:V} {u:Value},Inv (Ec CX P w K mg base N qual scope f cdv A outer s H E) [] σ' H' s'->RelV v u->Q v H'->CE outer P w H s Q u s' :=
  fun {σ' H' v u} J rv q=>⟨v,H',J.os,J.bare,J.base,J.hok,rv,q⟩
 cases fl with
 | ret u =>
  obtain ⟨v,σ',H',J,rv,q⟩:=hs
  exact fin J rv q
 | next =>
  obtain ⟨σ',H',J,q⟩:=hs
  exact fin (v:=V.non) (u:=Value.none) J rfl q
 | brk =>
  obtain ⟨_,_,_,q⟩:=hs
  exact False.elim q
 | cont =>
  obtain ⟨_,_,_,q⟩:=hs
  exact False.elim q
end L2
namespace L2
open PySem PySem.Spec PyProof.Rows
section
variable {X:Cx} {x:Str} {p pos:Pos} {e:Expr} {es:List Expr} {t:TA} {id T:String} {r:List V->Hp->VK->Prop}
def tCB (r:List V->Hp->VK->Prop) (t:TA):TE:=fun σ H Q=>t σ H fun vs H1=>r vs H1 Q
theorem bU (hc:fX X (.builtin id) r) (hg:Gl X x) (hm:X.mg x = none) (hv:bootBuiltins x = some (.builtin id)) (ha:PA X (e :: es) t) (hn:x ≠ "__name__" := by decide) (hdb:(x == ("__debug__" : Str)) = false:=by decide)
  (he:starEach (e :: es) X.env = (false,eval e X.env) :: starEach es X.env:=by rfl) (hpl:(backTo pos (starEach es X.env)).any (·.1) = false:=by rfl):PE X (.Call (.Name x p) (e :: es) [] pos) (tCB r t):=by
 intro pins s σ H Q I h
 refine wpAny_Call_Name_kw (zR I hg hm hv ?_ hn hdb)
 exact PyProof.Rows.callWith_builtin1 (thn (ha pos pins s σ H _ I h) fun us s1 ⟨vs,H1,I1,r1,q1⟩=>hc pins s1 σ H1 vs us Q I1 r1 q1) he hpl
theorem qu (hc:fX X (.type T) r) (hg:Gl X x) (hm:X.mg x = none) (hv:bootBuiltins x = some (.type T)) (ha:PA X (e :: es) t) (hn:x ≠ "__name__" := by decide) (hdb:(x == ("__debug__" : Str)) = false:=by decide)
  (he:starEach (e :: es) X.env = (false,eval e X.env) :: starEach es X.env:=by rfl) (hpl:(backTo pos (starEach es X.env)).any (·.1) = false:=by rfl):PE X (.Call (.Name x p) (e :: es) [] pos) (tCB r t):=by
 intro pins s σ H Q I h
 refine wpAny_Call_Name_kw (zR I hg hm hv ?_ hn hdb)
 exact PyProof.Rows.callWith_type1 (thn (ha pos pins s σ H _ I h) fun us s1 ⟨vs,H1,I1,r1,q1⟩=>hc pins s1 σ H1 vs us Q I1 r1 q1) he hpl
end
end L2
namespace HT
open PySem PyProof.Rows
section
open PySem.SeqAt
open PySem.AutoSeq1 (wpAny_loadPart')
open PySem.MeetsSeq PySem.MeetsSeq2 PySem.MeetsSeq3
end
section
variable {prog:Program} {w:World} {A:Around} {E:Value->Shared->Prop} {s:Shared}
def sIx (n d:Nat):Option Int->Nat
 | none=>d
 | some v=>if v < 0 then (v + (n:Int)).toNat else min v.toNat n
theorem pJ (n d k:Nat):sIx n d (some (k:Int)) = min k n:=by
 show (if (k:Int) < 0 then ((k:Int) + (n:Int)).toNat else min (k:Int).toNat n) = min k n
 rw [if_neg (by omega),Int.toNat_natCast]
theorem ab7 (n d:Nat) (hd:d <= n) (o:Option Int):sIx n d o <= n:=by
 cases o with
 | none=>exact hd
 | some v =>
  show (if v < 0 then (v + (n:Int)).toNat else min v.toNat n) <= n
  by_cases hv:v < 0
  .rw [if_pos hv]; omega
  .rw [if_neg hv]; exact Nat.min_le_right _ _
end
end HT
namespace L2
open PySem PySem.Spec PyProof.Rows
abbrev TO:=St->Hp->(Option Int->Hp->Prop)->Prop
def PO (X:Cx) (e:Option Expr) (t:TO):Prop :=
 ∀ (pins:List (Addr × Obj)) (s:Shared) (σ:St) (H:Hp) (Q:Option Int->Hp->Prop),Inv X pins σ H s->t σ H Q ->
  wpAny (model X.prog X.w) X.A (evalPart e X.env) (fun u s'=>∃ o H',Inv X pins σ H' s'/\IsPart u o/\Q o H') X.xe s
def vd:TO:=fun _ H Q=>Q none H
def GC (t:TE):TO:=fun σ H Q=>t σ H fun x H1=>∃ i,x = .int i/\Q (some i) H1
theorem intsAre_of {ns:List Int} : ∀ {us:List Value},Vals (ns.map V.int) us->IntsAre us ns:=by
 induction ns with
 | nil=>intro us r; rw [List.map_nil] at r; cases r; exact .nil
 | cons n ns ih =>
  intro us r
  rw [List.map_cons] at r
  cases r with
  | cons r1 r2 =>
   obtain ⟨t,e⟩:=r1
   subst e
   exact .cons n t (ih r2)
section
variable {X:Cx} {e:Expr} {te:TE} {lo hi:Option Expr} {tl th:TO} {pos p2:Pos}
theorem uW:PO X none vd:=by
 intro pins s σ H Q I h
 rw [evalPart_none]
 exact wpAny_pure ⟨none,H,I,.none,h⟩
theorem fj (h:PE X e te):PO X (some e) (GC te):=by
 intro pins s σ H Q I hw
 rw [evalPart_some]
 refine thn (h pins s σ H _ I hw) fun u s1 ⟨x,H1,I1,r1,q1⟩=>?_
 obtain ⟨i,rfl,q⟩:=q1
 obtain ⟨t,rfl⟩:=r1
 exact ⟨some i,H1,I1,.int i t,q⟩
def SlR (X:Cx) (r:V->Option Int->Option Int->Hp->VK->Prop):Prop :=
 ∀ (pins:List (Addr × Obj)) (s:Shared) (σ:St) (H:Hp) (x:V) (v vl vu:Value) (lo hi:Option Int) (sl:Addr) (Q:VK),Inv X pins σ H s->RelV x v->s.heap.IsSliceOf sl vl vu .none->IsPart vl lo->IsPart vu hi->r x lo hi H Q ->
  ∃ T id,typeLookup (.type T) "__getitem__" = pure (some (.builtin id))/\s.TypeIs v T/\wpAny (model X.prog X.w) X.A (getItem v (.ref sl)) (EP X pins σ Q) X.xe s
def tSl (r:V->Option Int->Option Int->Hp->VK->Prop) (te:TE) (tl th:TO):TE:=fun σ H Q=>te σ H fun x H1=>tl σ H1 fun l H2=>th σ H2 fun u H3=>r x l u H3 Q
theorem gZ {r:V->Option Int->Option Int->Hp->VK->Prop} (hr:SlR X r) (he:PE X e te) (hl:PO X lo tl) (hu:PO X hi th):PE X (.Subscript e (.Slice lo hi none p2) pos) (tSl r te tl th):=by
 intro pins s σ H Q I h
 refine Subscript_ (thn (he pins s σ H _ I h) fun v s1 ⟨x,H1,I1,r1,q1⟩=>?_)
 refine wpAny_Slice (thn (hl pins s1 σ H1 _ I1 q1) fun vl s2 ⟨l,H2,I2,pl,q2⟩=>thn (hu pins s2 σ H2 _ I2 q2) fun vu s3 ⟨u,H3,I3,pu,q3⟩=>?_)
 rw [evalPart_none]
 refine wpAny_pure ?_
 have I4:Inv X pins σ H3 { s3 with heap:=s3.heap.push { cls:=.type "slice",data:=.fields #[vl,vu,.none] } }:=I3.kept (t':=s3.toks) fun b ob q=>aG _ q
 obtain ⟨T,id,hT,ht,hg⟩:=hr pins { s3 with heap:=s3.heap.push { cls:=.type "slice",data:=.fields #[vl,vu,.none] } } σ H3 x v vl vu l u s3.heap.objs.size Q I4 r1 (Heap.IsSliceOf.new ..) pl pu q3
 show wpAny (model X.prog X.w) X.A (subscriptTail e (.Slice lo hi none p2) v (.ref s3.heap.objs.size)) (EP X pins σ Q) X.xe { s3 with heap:=s3.heap.push { cls:=.type "slice",data:=.fields #[vl,vu,.none] } }
 exact tail_any (ops:=[.ref s3.heap.objs.size,v]) ht hT hg (by with_unfolding_all rfl)
def mQ (xs:List V) (lo hi:Option Int):List V:=(xs.drop (HT.sIx xs.length 0 lo)).take (HT.sIx xs.length xs.length hi - HT.sIx xs.length 0 lo)
theorem zX (xs:List V) (lo hi:Option Int):(mQ xs lo hi).length <= xs.length:=by
 unfold mQ
 rw [bf,List.length_drop]
 omega
end
end L2
namespace L2
open PySem PySem.Spec PyProof.Rows
def ixN (n:Nat) (i:Int):Option Nat:=if 0 <= i then (if i < n then some i.toNat else none) else if -(n:Int) <= i then some (i + n).toNat else none
def atI {α:Type} (xs:List α) (i:Int):Option α:=(ixN xs.length i).bind fun j=>xs[j]?
theorem Q_ {n:Nat} {i:Int} {j:Nat} (h:ixN n i = some j):seqIndex? i n = some j/\j < n/\-(n:Int) <= i/\i < n:=by
 unfold ixN at h
 by_cases h0:0 <= i
 .rw [if_pos h0] at h
  by_cases h1:i < n
  .rw [if_pos h1] at h
   have e:i.toNat = j:=Option.some.inj h
   exact ⟨by rw [seqIndex_of h0 h1,e],by omega,by omega,h1⟩
  .rw [if_neg h1] at h; cases h
 .rw [if_neg h0] at h
  by_cases h1 : -(n:Int) <= i
  .rw [if_pos h1] at h
   have e:(i + n).toNat = j:=Option.some.inj h
   exact ⟨by rw [seqIndex_neg (by omega) h1,e],by omega,h1,by omega⟩
  .rw [if_neg h1] at h; cases h
theorem Il {α:Type} {xs:List α} {i:Int} {v:α} (h:atI xs i = some v):∃ j,seqIndex? i xs.length = some j/\xs[j]? = some v/\j < xs.length/\-(xs.length:Int) <= i/\i < xs.length:=by
 unfold atI at h
 cases e:ixN xs.length i with
 | none=>rw [e] at h; cases h
 | some j =>
  rw [e] at h
  obtain ⟨h1,h2,h3,h4⟩:=Q_ e
  exact ⟨j,h1,h,h2,h3,h4⟩
theorem bV {α:Type} {xs:List α} {j:Nat} {v:α} (h:xs[j]? = some v):atI xs (j:Int) = some v:=by
 have hj:j < xs.length:=(ao.mp h).1
 have e:ixN xs.length (j:Int) = some j:=by
  unfold ixN
  rw [if_pos (by omega),if_pos (by omega)]; simp
 unfold atI; rw [e]; exact h
def Q6 (b:Expr):Prop:=∀ o i,subscripted b false o i = operate [o,i] (getItem o i)
def IxR (X:Cx) (r:R2):Prop :=
 ∀ (value slice:Expr) (pins:List (Addr × Obj)) (s:Shared) (σ:St) (H:Hp) (x y:V) (v u:Value) (Q:VK),Inv X pins σ H s->RelV x v->RelV y u->r x y H Q ->
  subscripted slice false v u = operate [v,u] (getItem v u)->wpAny (model X.prog X.w) X.A (subscriptTail value slice v u) (EP X pins σ Q) X.xe s
def MtR (X:Cx) (id:String) (r:V->List V->Hp->VK->Prop):Prop :=
 ∀ (pins:List (Addr × Obj)) (s:Shared) (σ:St) (H:Hp) (x:V) (xs:List V) (v:Value) (us:List Value) (Q:VK),Inv X pins σ H s->RelV x v->Vals xs us->r x xs H Q ->
  wpAny (model X.prog X.w) X.A (call (.builtin id) (v :: us)) (EP X pins σ Q) X.xe s
section
variable {X:Cx} {a b:Expr} {ta tb:TE} {pos:Pos}
theorem bQ {r:R2} (hr:IxR X r) (ha:PE X a ta) (hb:PE X b tb) (hs:Q6 b):PE X (.Subscript a b pos) (tOp r ta tb):=by
 intro pins s σ H Q I h
 exact Subscript_ (abH ha hb I h fun v u s2 x y H2 I2 rx ry q=>hr a b pins s2 σ H2 x y v u Q I2 rx ry q (hs _ _))
def ZD (K:Frag):R2:=fun x y H Q=>∃ p xs i v,x = .ref p/\y = .int i/\SqL K H p xs/\atI xs i = some v/\Q v H
def aan (K:Frag):R2:=fun x y H Q=>∃ p xs i v,x = .ref p/\y = .int i/\SqT K H p xs/\atI xs i = some v/\Q v H
def Y6:R2:=fun x y H Q=>∃ z i c,x = .str z/\y = .int i/\z.length <= sizeLine/\atI z.cps.toList i = some c/\Q (.str ⟨#[c]⟩) H
theorem Zx:IxR X (ZD X.K):=by
 intro value slice pins s σ H x y v u Q I rx ry h hs
 obtain ⟨p,xs,i,z,rfl,rfl,hq,he,q⟩:=h
 cases rx
 obtain ⟨t,rfl⟩:=ry
 obtain ⟨its,r,pl,hz⟩:=I.list hq
 obtain ⟨j,h1,h2,h3,h4,h5⟩:=Il he
 obtain ⟨w,ew,rw'⟩:=r.get h2
 have hl:=r.length
 have hn:=uw
 have fin:EP X pins σ Q w s:=⟨z,H,I,rw',q⟩
 by_cases h0:0 <= i
 .have hj:i.toNat = j:=by
   rw [seqIndex_of h0 h5] at h1
   exact Option.some.inj h1
  exact item_listR pl.isList h0 (by omega) (by rw [hj]; simpa using ew) fin hs
 .have hj:(i + (its.toArray.size:Int)).toNat = j:=by
   rw [seqIndex_neg (by omega) h4] at h1
   rw [aZ,<- hl]
   exact Option.some.inj h1
  exact subscriptTail_builtinR (x:=w) pl.isList.typeIs slot_list_getitem.lookup
   (wpAny_getItem_list_neg (Q:=fun r s'=>r = w/\EP X pins σ Q r s') pl.isList (by omega) (by rw [aZ] <;> omega) (by omega) (by rw [hj]; simpa using ew) ⟨rfl,fin⟩) hs
theorem gU:IxR X (aan X.K):=by
 intro value slice pins s σ H x y v u Q I rx ry h hs
 obtain ⟨p,xs,i,z,rfl,rfl,hq,he,q⟩:=h
 cases rx
 obtain ⟨t,rfl⟩:=ry
 obtain ⟨its,r,pl,hz⟩:=I.tuple hq
 obtain ⟨j,h1,h2,h3,h4,h5⟩:=Il he
 obtain ⟨w,ew,rw'⟩:=r.get h2
 have hl:=r.length
 have hn:=uw
 have fin:EP X pins σ Q w s:=⟨z,H,I,rw',q⟩
 exact subscriptTail_builtinR (x:=w) pl.typeIs slot_tuple_getitem.lookup
  (getItem_tuple (j:=j) (Q:=fun r s'=>r = w/\EP X pins σ Q r s') pl (by omega) (by omega) (by rw [aZ,<- hl]; exact h1) (by simpa using ew) ⟨rfl,fin⟩) hs
theorem Ot:IxR X Y6:=by
 intro value slice pins s σ H x y v u Q I rx ry h hs
 obtain ⟨z,i,c,rfl,rfl,hz,he,q⟩:=h
 obtain ⟨t,rfl⟩:=rx
 obtain ⟨t',rfl⟩:=ry
 obtain ⟨j,h1,h2,h3,h4,h5⟩:=Il he
 have hl:z.cps.toList.length = z.length:=by simp [Str.length]
 rw [hl] at h1 h4 h5
 have hn:=uw
 exact tail_any (typeIs_str s z t) slot_str_getitem.lookup (getItem_str (c:=c) (by
  have e1:decide (i < -(2 ^ 63:Int)) = false:=decide_eq_false (by omega)
  have e2:decide (i >= 2 ^ 63) = false:=decide_eq_false (by omega)
  rw [e1,e2,Bool.or_false]) (by rw [h1]; simpa using h2) ⟨.str ⟨#[c]⟩,H,I.tok _,⟨_,rfl⟩,q⟩) hs
theorem O4 (its:List Value) (n j:Nat) (u:Value):Obj.mapSeq (·.setIfInBounds j u) { cls:=.type "list",data:=.seq its.toArray n } = { cls:=.type "list",data:=.seq (its.set j u).toArray n }:=by
 simp [Obj.mapSeq]
theorem Inv.lst {pins:List (Addr × Obj)} {σ:St} {H:Hp} {s:Shared} {p:Addr} {xs:List V} (I:Inv X pins σ H s) (h:H p = some (.lst xs)) :
  ∃ (its:List Value) (n:Nat),Vals xs its/\s.heap.get? p = some { cls:=.type "list",data:=.seq its.toArray n }/\xs.length <= sizeLine:=by
 obtain ⟨z,its,n,r,e⟩:=I.hok p _ h
 exact ⟨its,n,r,e,z⟩
theorem Inv.lstUpd {pins:List (Addr × Obj)} {σ:St} {H:Hp} {s:Shared} {p:Addr} {xs ys:List V} {its its':List Value} {n n':Nat} {f:Obj->Obj} (I:Inv X pins σ H s) (h:H p = some (.lst xs))
  (ho:s.heap.get? p = some { cls:=.type "list",data:=.seq its.toArray n }) (hf:f { cls:=.type "list",data:=.seq its.toArray n } = { cls:=.type "list",data:=.seq its'.toArray n' }) (r:Vals ys its') (hz:ys.length <= sizeLine) (t:Nat) :
  Inv X pins σ (upd H p (.lst ys)) { s with heap:=s.heap.update p f,toks:=t }:=by
 have e:(s.heap.update p f).get? p = some { cls:=.type "list",data:=.seq its'.toArray n' }:=by
  rw [Heap.get?_update_self f ho (by rw [hf] <;> rfl),hf]
 refine I.write (x:=p) (e:=p) (by rw [h]; trivial) (.inl rfl) (fun b u hb q=>(Heap.get?_update_other _ _ (Ne.symm hb)).trans q) ⟨_,e⟩ ?_
 exact ⟨hz,its',n',r,e⟩
def Qo:V->V->V->Hp->(Hp->Prop)->Prop:=fun o i v H Q=>∃ p xs k j,o = .ref p/\i = .int k/\H p = some (.lst xs)/\ixN xs.length k = some j/\Q (upd H p (.lst (xs.set j v)))
theorem set_list:ad3 X Qo:=by
 intro pins s σ H o i v ov iv u Q I ro ri rv h
 obtain ⟨p,xs,k,j,rfl,rfl,hp,hj,q⟩:=h
 cases ro
 obtain ⟨t,rfl⟩:=ri
 obtain ⟨its,n,r,ho,hz⟩:=I.lst hp
 obtain ⟨h1,h2,h3,h4⟩:=Q_ hj
 have hl:=r.length
 have hn:=uw
 have I':Inv X pins σ (upd H p (.lst (xs.set j v))) { s with heap:=s.heap.update p (Obj.mapSeq (·.setIfInBounds j u)) } :=
  I.lstUpd hp ho (O4 its n j u) (r.set rv j) (by rw [List.length_set]; exact hz) s.toks
 by_cases h0:0 <= k
 .have hk:k.toNat = j:=by
   rw [seqIndex_of h0 h4] at h1
   exact Option.some.inj h1
  exact PySem.W.ki_setAt ho h0 (by omega) (by rw [aZ,<- hl]; exact h4) (by rw [hk]; exact ⟨_,I',q⟩)
 .have hk:(k + (its.toArray.size:Int)).toNat = j:=by
   rw [seqIndex_neg (by omega) h3] at h1
   rw [aZ,<- hl]
   exact Option.some.inj h1
  exact PySem.W.ki_setBack ho (by omega) (by rw [aZ,<- hl]; exact h3) (by omega) (by rw [hk]; exact ⟨_,I',q⟩)
theorem Hx (lo hi:Option Int) (n:Nat):(sliceBounds lo hi none n).1 = ((HT.sIx n 0 lo:Nat):Int)/\(sliceBounds lo hi none n).2.1 = ((HT.sIx n n hi:Nat):Int)/\(sliceBounds lo hi none n).2.2 = 1:=by
 refine ⟨?_,?_,rfl⟩
 .cases lo with
  | none=>simp [sliceBounds,HT.sIx]
  | some i =>
   simp only [sliceBounds,HT.sIx,Option.getD_none,show (1:Int) > 0 by decide,if_true]
   by_cases h:i < 0
   .simp only [h,if_true] <;> omega
   .simp only [h,if_false] <;> omega
 .cases hi with
  | none=>simp [sliceBounds,HT.sIx]
  | some i =>
   simp only [sliceBounds,HT.sIx,Option.getD_none,show (1:Int) > 0 by decide,if_true]
   by_cases h:i < 0
   .simp only [h,if_true] <;> omega
   .simp only [h,if_false] <;> omega
theorem Es (its:List Value) (lo hi:Option Int):slicePick its.toArray lo hi none = ((its.drop (HT.sIx its.length 0 lo)).take (HT.sIx its.length its.length hi - HT.sIx its.length 0 lo)).toArray:=by
 obtain ⟨h1,h2,h3⟩:=Hx lo hi its.toArray.size
 unfold slicePick
 rw [h1,h2,h3]
 simp only [sliceRange_one,pick_run,aZ] <;> rfl
def Tw (K:Frag):V->Option Int->Option Int->Hp->VK->Prop:=fun x lo hi H Q=>∃ a xs,x = .ref a/\SqL K H a xs/\∀ p,H p = none->Q (.ref p) (upd H p (.lst (mQ xs lo hi)))
theorem mO:SlR X (Tw X.K):=by
 intro pins s σ H x v vl vu lo hi sl Q I rx hs pl pu h
 obtain ⟨a,xs,rfl,hx,q⟩:=h
 cases rx
 obtain ⟨its,r,ht,hz⟩:=I.list hx
 have hlen:=r.length
 refine ⟨"list",_,slot_list_getitem.lookup,ht.isList.typeIs,?_⟩
 refine wpAny_getItem_list_slice ht.isList hs pl pu .none (by simp) ?_ (by rw [aZ] <;> omega)
 rw [Es,<- hlen]
 refine ⟨.ref s.heap.objs.size,_,I.laid (t':=s.toks) (o:=.lst (mQ xs lo hi)) (fun b ob q=>aG _ q) (aF _) ?_,rfl,q _ (I.hok.fresh (aF _))⟩
 exact ⟨aL (zX xs lo hi) hz,_,0,(r.drop (HT.sIx xs.length 0 lo)).take (HT.sIx xs.length xs.length hi - HT.sIx xs.length 0 lo),aY _ rfl⟩
def oY:V->Bool
 | .non=>true
 | .bl _=>true
 | .int _=>true
 | .str _=>true
 | _=>false
def eqV:V->V->Bool
 | .non,.non=>true
 | .bl a,.bl b=>a == b
 | .bl a,.int b=>(if a then 1 else 0) == b
 | .int a,.bl b=>a == (if b then 1 else 0)
 | .int a,.int b=>a == b
 | .str a,.str b=>a == b
 | _,_=>false
theorem abu {A:Around} {s:Shared} {y x:V} {u v:Value} (ry:RelV y u) (rx:RelV x v) (fy:oY y = true) (fx:oY x = true):SeqAt.EqAt A s u v (eqV y x):=by
 cases y with
 | non =>
  cases ry
  cases x with
  | non=>cases rx; exact SeqAt.EqAt.same _
  | bl b=>cases rx; exact SeqAt.EqAt.none_bool b
  | int b=>obtain ⟨t,rfl⟩:=rx; exact SeqAt.EqAt.none_int b t
  | str b=>obtain ⟨t,rfl⟩:=rx; exact SeqAt.EqAt.none_str b t
  | _=>exact absurd (show false = true from fx) bA
 | bl a =>
  cases ry
  cases x with
  | non=>cases rx; exact SeqAt.EqAt.bool_none a
  | bl b=>cases rx; exact SeqAt.EqAt.bool_bool a b
  | int b=>obtain ⟨t,rfl⟩:=rx; exact SeqAt.EqAt.bool_int a b t
  | str b=>obtain ⟨t,rfl⟩:=rx; exact SeqAt.EqAt.bool_str a b t
  | _=>exact absurd (show false = true from fx) bA
 | int a =>
  obtain ⟨t',rfl⟩:=ry
  cases x with
  | non=>cases rx; exact SeqAt.EqAt.int_none a t'
  | bl b=>cases rx; exact SeqAt.EqAt.int_bool a t' b
  | int b=>obtain ⟨t,rfl⟩:=rx; exact SeqAt.EqAt.int_int a t' b t
  | str b=>obtain ⟨t,rfl⟩:=rx; exact SeqAt.EqAt.int_str a t' b t
  | _=>exact absurd (show false = true from fx) bA
 | str a =>
  obtain ⟨t',rfl⟩:=ry
  cases x with
  | non=>cases rx; exact SeqAt.EqAt.str_none a t'
  | bl b=>cases rx; exact SeqAt.EqAt.str_bool a t' b
  | int b=>obtain ⟨t,rfl⟩:=rx; exact SeqAt.EqAt.str_int a t' b t
  | str b=>obtain ⟨t,rfl⟩:=rx; exact SeqAt.EqAt.str_str a t' b t
  | _=>exact absurd (show false = true from fx) bA
 | _=>exact absurd (show false = true from fy) bA
def eqU (x:V) (u:Value):Bool:=match u with
 | .none=>eqV .non x
 | .bool b=>eqV (.bl b) x
 | .int i _=>eqV (.int i) x
 | .str z _=>eqV (.str z) x
 | _=>false
theorem Xo {x y:V} {u:Value} (r:RelV y u) (f:oY y = true):eqU x u = eqV y x:=by
 cases y with
 | non=>cases r; rfl
 | bl b=>cases r; rfl
 | int i=>obtain ⟨t,rfl⟩:=r; rfl
 | str z=>obtain ⟨t,rfl⟩:=r; rfl
 | _=>exact absurd (show false = true from f) bA
theorem JM {x:V} : ∀ {xs:List V} {us:List Value},Vals xs us->xs.all oY = true->us.any (eqU x) = xs.any fun y=>eqV y x
 | _,_,.nil,_=>rfl
 | y :: xs,u :: us,.cons r t,f=>by
  rw [List.all_cons,Bool.and_eq_true] at f
  rw [List.any_cons,List.any_cons,Xo r f.1,JM t f.2]
theorem CP {A:Around} {s:Shared} {x:V} {v:Value} (rx:RelV x v) (fx:oY x = true):∀ {xs:List V} {us:List Value},Vals xs us->xs.all oY = true->∀ u ∈ us,SeqAt.EqAt A s u v (eqU x u)
 | _,_,.nil,_=>fun u hu=>by cases hu
 | y :: xs,u :: us,.cons r t,f=>fun u' hu=>by
  rw [List.all_cons,Bool.and_eq_true] at f
  rcases List.mem_cons.mp hu with rfl | hu
  .rw [Xo r f.1]; exact abu r rx f.1 fx
  .exact CP rx fx t f.2 u' hu
def inV (x:V) (xs:List V):Bool:=xs.any fun y=>eqV y x
def rIn (K:Frag) (neg:Bool):R2:=fun x y H Q=>∃ p xs,y = .ref p/\(SqL K H p xs\/SqT K H p xs)/\oY x = true/\xs.all oY = true/\Q (.bl (if neg then !inV x xs else inV x xs)) H
theorem R8:OpR X (compareOp .In) (rIn X.K false):=by
 intro pins s σ H x y v u Q I rx ry h
 obtain ⟨p,xs,rfl,hq,fx,fs,q⟩:=h
 cases ry
 rcases hq with hq | hq
 .obtain ⟨its,r,pl,hz⟩:=I.list hq
  refine SeqAt.in_listAt (eqU x) pl.isList (fun w hw=>CP rx fx r fs w (by simpa using hw)) ⟨.bl _,H,I,rfl,?_⟩
  rw [show its.toArray.any (eqU x) = its.any (eqU x) by simp,JM r fs]
  exact q
 .obtain ⟨its,r,pl,hz⟩:=I.tuple hq
  refine SeqAt.in_tupleAt (eqU x) pl (fun w hw=>CP rx fx r fs w (by simpa using hw)) ⟨.bl _,H,I,rfl,?_⟩
  rw [show its.toArray.any (eqU x) = its.any (eqU x) by simp,JM r fs]
  exact q
theorem xP:fX X (.builtin "len") (fun xs H Q=>∃ p ys,xs = [.ref p]/\(SqL X.K H p ys\/SqT X.K H p ys)/\Q (.int ys.length) H):=by
 intro pins s σ H xs us Q I r h
 obtain ⟨p,ys,rfl,hq,q⟩:=h
 obtain ⟨u,rfl,rx⟩:=vals1 r
 cases rx
 have hn:=uw
 rcases hq with hq | hq
 .obtain ⟨its,r',pl,hz⟩:=I.list hq
  have hlen:=r'.length
  exact Calls.call_len_list pl.isList (by simp only [aZ] <;> omega) ⟨.int ys.length,H,I.tok _,⟨s.toks + 1,by rw [aZ,hlen]⟩,q⟩
 .obtain ⟨its,r',pl,hz⟩:=I.tuple hq
  have hlen:=r'.length
  exact len_tuple pl (by simp only [aZ] <;> omega) ⟨.int ys.length,H,I.tok _,⟨s.toks + 1,by rw [aZ,hlen]⟩,q⟩
theorem Hy:fX X (.builtin "len") (fun xs H Q=>∃ z,xs = [.str z]/\z.length <= sizeLine/\Q (.int z.length) H):=by
 intro pins s σ H xs us Q I r h
 obtain ⟨z,rfl,hz,q⟩:=h
 obtain ⟨u,rfl,t,rfl⟩:=vals1 r
 have hn:=uw
 exact len_str (by omega) ⟨.int z.length,H,I.tok _,⟨_,rfl⟩,q⟩
theorem fX.or {f:Value} {r r':List V->Hp->VK->Prop} (h:fX X f r) (h':fX X f r'):fX X f (fun xs H Q=>r xs H Q\/r' xs H Q):=by
 intro pins s σ H xs us Q I rs q
 rcases q with q | q
 .exact h pins s σ H xs us Q I rs q
 .exact h' pins s σ H xs us Q I rs q
theorem Hr:fX X (.type "list") (fun xs H Q=>∃ p ys,xs = [.ref p]/\(SqL X.K H p ys\/SqT X.K H p ys)/\∀ l,H l = none->Q (.ref l) (upd H l (.lst ys))):=by
 intro pins s σ H xs us Q I r h
 obtain ⟨p,ys,rfl,hq,q⟩:=h
 obtain ⟨u,rfl,rx⟩:=vals1 r
 cases rx
 have fin:∀ (its:List Value),Vals ys its->ys.length <= sizeLine->∀ (h':Heap) (c':Nat),(∀ b o',s.heap.get? b = some o'->h'.get? b = some o') ->
   h'.get? s.heap.objs.size = some { cls:=.type "list",dict:=none,data:=.seq its.toArray c',slots:=#[] }->EP X pins σ Q (.ref s.heap.objs.size) { s with heap:=h' }:=fun its r' hz h' c' kp e =>
  ⟨.ref s.heap.objs.size,_,I.laid (t':=s.toks) kp (aF _) (show dz X.prog X.w _ h' _ (.lst ys) from ⟨hz,its,c',r',e⟩),rfl,q _ (I.hok.fresh (aF _))⟩
 rcases hq with hq | hq
 .obtain ⟨its,r',pl,hz⟩:=I.list hq
  have hlen:=r'.length
  obtain ⟨o,ho,hc,n,hd⟩:=pl.isList
  exact call_list_seq p (.inl rfl) ho hc hd (fun h' c' kp e=>fin its r' hz h' c' kp e) (by simp only [aZ] <;> omega)
 .obtain ⟨its,r',pl,hz⟩:=I.tuple hq
  have hlen:=r'.length
  obtain ⟨o,ho,hc,n,hd⟩:=pl
  exact call_list_seq p (.inr rfl) ho hc hd (fun h' c' kp e=>fin its r' hz h' c' kp e) (by simp only [aZ] <;> omega)
def tyV (K:Frag) (T:String) (x:V) (H:Hp):Prop:=match x with
 | .str _=>T = "str"
 | .int _=>T = "int"
 | .ref p=>(T = "list" /\ ∃ xs,SqL K H p xs)\/(T = "tuple" /\ ∃ o,K.lookup p = some o/\o.cls = .type "tuple" /\ o.dict = none) \/
   (T = "dict" /\ (∃ kvs,H p = some (.dK kvs)))\/(T = "set" /\ ∃ S n,H p = some (.set S n))
 | _=>False
theorem ab9 {pins:List (Addr × Obj)} {σ:St} {H:Hp} {s:Shared} {T:String} {x:V} {v:Value} (I:Inv X pins σ H s) (r:RelV x v) (ty:tyV X.K T x H) :
  s.TypeIs v T/\∀ a,v = .ref a->∃ ob,s.heap.get? a = some ob/\ob.dict = none:=by
 cases x with
 | str z =>
  obtain ⟨t,rfl⟩:=r
  cases (show T = "str" from ty)
  exact ⟨typeIs_str s z t,fun _ e=>nomatch e⟩
 | int i =>
  obtain ⟨t,rfl⟩:=r
  cases (show T = "int" from ty)
  exact ⟨typeIs_int s i t,fun _ e=>nomatch e⟩
 | ref p =>
  cases r
  rcases ty with ⟨rfl,xs,hq⟩ | ⟨rfl,o,hk,hc,hd⟩ | ⟨rfl,hk⟩ | ⟨rfl,S,n,hk⟩
  .obtain ⟨its,_,pl,_⟩:=I.list hq
   refine ⟨pl.isList.typeIs,fun a e=>?_⟩
   cases e
   obtain ⟨o,n,e,c,hd,_⟩:=pl
   exact ⟨o,e,hd⟩
  .refine ⟨⟨o,I.kIn p o hk,hc⟩,fun a e=>?_⟩
   cases e
   exact ⟨o,I.kIn _ o hk,hd⟩
  .have z:∃ o,s.heap.get? p = some o/\o.ExactDict:=by
    obtain ⟨kvs,hk⟩:=hk
    obtain ⟨_,_,_,_,o,_,_,e,ex,_⟩:=I.hok p _ hk
    exact ⟨o,e,ex⟩
   obtain ⟨o,e,ex⟩:=z
   refine ⟨⟨o,e,ex.1⟩,fun a e2=>?_⟩
   cases e2
   exact ⟨o,e,ex.2.1⟩
  .obtain ⟨o,_,_,_,e,ex,_⟩:=I.hok p _ hk
   refine ⟨⟨o,e,ex.1⟩,fun a e2=>?_⟩
   cases e2
   exact ⟨o,e,ex.2.1⟩
 | _=>exact False.elim ty
def tBM (K:Frag) (T:String) (r:V->List V->Hp->VK->Prop) (to:TE) (t:TA):TE:=fun σ H Q=>to σ H fun x H1=>tyV K T x H1/\t σ H1 fun xs H2=>r x xs H2 Q
variable {o e:Expr} {es:List Expr} {to:TE} {t:TA} {name:Str} {apos cpos:Pos} {T id:String} {r:V->List V->Hp->VK->Prop}
theorem aaP (pa:PlainAttrs T) (slot:Slot T name id) (hty:typeOf (.builtin id) = pure (.type "method_descriptor")) (hm:MtR X id r) (ho:PE X o to) (ha:PA X (e :: es) t)
  (hbase:attributeBase o name X.env (eval o X.env) = eval o X.env:=by rfl)
  (hfew:((backTo cpos (starEach (e :: es) X.env)).all (fun x=>!x.1) && (backToKw cpos (keywordEach [] X.env)).all (fun x=>x.1.isSome)
   && decide ((e :: es).length + ([] : List Keyword).length + (if ([] : List Keyword).isEmpty then 0 else 1) < 30)) = true:=by rfl)
  (hline:(apos.endLine == cpos.line) = true:=by rfl) (hs:starEach (e :: es) X.env = (false,eval e X.env) :: starEach es X.env:=by rfl) (hplain:(backTo cpos (starEach es X.env)).any (·.1) = false:=by rfl) :
  PE X (.Call (.Attribute o name apos) (e :: es) [] cpos) (tBM X.K T r to t):=by
 intro pins s σ H Q I h
 refine wpAny_Call_method_late hbase hfew hline rfl (thn (ho pins s σ H _ I h) fun v s1 ⟨x,H1,I1,r1,ty,q1⟩=>?_)
 obtain ⟨h1,h2⟩:=ab9 I1 r1 ty
 refine ⟨T,id,pa,slot,hty,h1,h2,?_⟩
 have hA:=ha cpos pins s1 σ H1 _ I1 q1
 rw [hs] at hA ⊢
 refine Calls.callWith_builtin (by show (false || (backTo cpos (starEach es X.env)).any (·.1)) = false; rw [hplain] <;> rfl) (Calls.evalArgs_plain ?_)
 exact thn hA fun us s2 ⟨vs,H2,I2,r2,q2⟩=>hm pins s2 σ H2 x vs v us Q I2 r1 r2 q2
/- xs.append(e),list.index on a module's tuple .. are MtR facts of 06m -/
end
end L2
namespace L2
open PySem PySem.Spec PyProof.Rows
def MtM (X:Cx) (id:String) (r:V->List V->Hp->VK->Prop):Prop :=
 ∀ (pins:List (Addr × Obj)) (s:Shared) (σ:St) (H:Hp) (x:V) (xs:List V) (v:Value) (us:List Value) (Q:VK),Inv X pins σ H s->RelV x v->Vals xs us->r x xs H Q ->
  wpAny (model X.prog X.w) X.A (call (.builtin id) (v :: us)) (EP X pins σ Q) X.xe s
theorem Vals.one:∀ {x:V} {us:List Value},Vals [x] us->∃ u,us = [u]/\RelV x u
 | _,_,.cons r .nil=>⟨_,rfl,r⟩
theorem Vals.two {x y:V} {us:List Value} (h:Vals [x,y] us):∃ u v,us = [u,v]/\RelV x u/\RelV y v:=by
 cases h with | cons r t=>cases t with | cons q t=>cases t; exact ⟨_,_,rfl,r,q⟩
theorem Vals.eraseIdx:∀ {xs:List V} {us:List Value} (i:Nat),Vals xs us->Vals (xs.eraseIdx i) (us.eraseIdx i)
 | _,_,_,.nil=>.nil
 | _,_,0,.cons _ t=>t
 | _,_,i + 1,.cons r t=>.cons r (Vals.eraseIdx i t)
theorem Vals.rep {xs:List V} {us:List Value} (h:Vals xs us):∀ k:Nat,Vals (List.replicate k xs).flatten (List.replicate k us).flatten
 | 0=>.nil
 | k + 1=>by
  rw [List.replicate_succ,List.replicate_succ,List.flatten_cons,List.flatten_cons]
  exact Vals.append h (Vals.rep h k)
theorem FT {α:Type} : ∀ (l:List α) (i:Nat),(l.eraseIdx i).length <= l.length
 | [],_=>aF _
 | _ :: _,0=>Nat.le_succ _
 | _ :: r,i + 1=>Nat.succ_le_succ (FT r i)
theorem foldl_rep (its:List Value):∀ (k:Nat) (acc:List Value),
  List.foldl (fun x1 x2=>x1 ++ x2) acc.toArray (List.replicate k its.toArray) = (acc ++ (List.replicate k its).flatten).toArray
 | 0,acc=>by simp
 | k + 1,acc=>by
  have e:acc.toArray ++ its.toArray = (acc ++ its).toArray:=by simp
  have e2:(acc ++ its) ++ (List.replicate k its).flatten = acc ++ (List.replicate (k + 1) its).flatten:=by
   rw [List.replicate_succ,List.flatten_cons,List.append_assoc]
  rw [<- e2,<- foldl_rep its k (acc ++ its),<- e,List.replicate_succ,List.foldl_cons]
section
variable {X:Cx} {pins:List (Addr × Obj)} {σ:St} {H:Hp} {s:Shared} {l b:Addr} {xs ys zs:List V}
theorem Inv.lset {its its':List Value} {n:Nat} {f:Array Value->Array Value} {t':Nat} (I:Inv X pins σ H s) (hH:H l = some (.lst xs))
  (e:s.heap.get? l = some { cls:=.type "list",data:=.seq its.toArray n }) (hf:f its.toArray = its'.toArray) (hv:Vals ys its') (hz:ys.length <= sizeLine) :
  Inv X pins σ (upd H l (.lst ys)) { s with heap:=s.heap.update l (Obj.mapSeq f),toks:=t' }:=by
 have q:=PySem.IsL.update e f
 rw [hf] at q
 refine I.write (x:=l) (e:=l) (by rw [hH]; exact trivial) (.inl rfl) (fun b' u hb hu=>(Heap.get?_update_other s.heap (Obj.mapSeq f) (Ne.symm hb)).trans hu) ⟨_,q⟩ ?_
 exact ⟨hz,its',_,hv,q⟩
theorem Inv.lnew {its:List Value} {t':Nat} (I:Inv X pins σ H s) (hv:Vals ys its) (hz:ys.length <= sizeLine) :
  Inv X pins σ (upd H s.heap.objs.size (.lst ys)) { s with heap:=s.heap.push { cls:=.type "list",data:=.seq its.toArray },toks:=t' } :=
 I.laid (fun _ _ q=>aG _ q) (aF _) ⟨hz,its,0,hv,aY _ rfl⟩
theorem Inv.fresh (I:Inv X pins σ H s):H s.heap.objs.size = none:=I.hok.fresh (aF _)
theorem Inv.lstM (I:Inv X pins σ H s) (hH:H l = some (.lst xs)):xs.length <= sizeLine/\∃ (its:List Value) (n:Nat),Vals xs its/\xs.length = its.length/\s.heap.get? l = some { cls:=.type "list",data:=.seq its.toArray n }:=by
 obtain ⟨z,its,n,r,e⟩:=I.hok l _ hH
 exact ⟨z,its,n,r,r.length,e⟩
theorem VD {n:Nat} (h:n <= sizeLine):Builtin.List.listTooLong n = false:=by
 unfold Builtin.List.listTooLong
 exact decide_eq_false (by omega)
end
section
variable {X:Cx}
def Zr:V->List V->Hp->VK->Prop:=fun x vs H Q=>∃ l xs y,x = .ref l/\vs = [y]/\H l = some (.lst xs)/\xs.length < sizeLine/\Q .non (upd H l (.lst (xs ++ [y])))
theorem Gw:MtM X "list.append" Zr:=by
 intro pins s σ H x vs v us Q I rx rv h
 obtain ⟨l,xs,y,rfl,rfl,hH,hz,q⟩:=h
 cases rx
 obtain ⟨u,rfl,ru⟩:=rv.one
 obtain ⟨z,its,n,r,hl,e⟩:=I.lstM hH
 refine call_meets F.slot_list_append ⟨_,e,rfl⟩ F.entry_list_append (F.args_list_append_2 _ _) (PySem.list_append l its.toArray n u (by rw [aZ]; omega)) ⟨e,?_⟩
 refine ⟨.non,_,I.lset (its':=its ++ [u]) hH e (by simp) (r.append (.cons ru .nil)) ?_,rfl,q⟩
 rw [aA,List.length_singleton]
 omega
def KR:R2:=fun x y H Q=>∃ l b xs zs,x = .ref l/\y = .ref b/\H l = some (.lst xs)/\H b = some (.lst zs)/\xs.length + zs.length <= sizeLine/\∀ p,H p = none->Q (.ref p) (upd H p (.lst (xs ++ zs)))
theorem rD:OpR X (binaryOp .Add) KR:=by
 intro pins s σ H x y v u Q I rx ry h
 obtain ⟨l,b,xs,zs,rfl,rfl,hH,hB,hz,q⟩:=h
 cases rx
 cases ry
 obtain ⟨z,its,n,r,hl,e⟩:=I.lstM hH
 obtain ⟨z2,its2,n2,r2,hl2,e2⟩:=I.lstM hB
 refine PySem.P.add_list e e2 ?_ (by rw [aZ,aZ]; omega)
 have ea:its.toArray ++ its2.toArray = (its ++ its2).toArray:=by simp
 rw [ea]
 exact ⟨.ref _,_,I.lnew (t':=s.toks) (r.append r2) (by rw [aA]; omega),rfl,q _ I.fresh⟩
def agp:R2:=fun x y H Q=>∃ l k xs,x = .ref l/\y = .int k/\H l = some (.lst xs)/\-(2 ^ 63) <= k/\k < 2 ^ 63/\xs.length * k.toNat <= sizeLine /\
 ∀ p,H p = none->Q (.ref p) (upd H p (.lst (List.replicate k.toNat xs).flatten))
theorem len_rep {α:Type} (xs:List α) (k:Nat):(List.replicate k xs).flatten.length = k * xs.length:=by
 induction k with
 | zero=>simp
 | succ k ih=>rw [List.replicate_succ,List.flatten_cons,aA,ih,Nat.succ_mul,Nat.add_comm]
theorem Kl:OpR X (binaryOp .Mult) agp:=by
 intro pins s σ H x y v u Q I rx ry h
 obtain ⟨l,k,xs,rfl,rfl,hH,h1,h2,hz,q⟩:=h
 cases rx
 obtain ⟨t,rfl⟩:=ry
 obtain ⟨z,its,n,r,hl,e⟩:=I.lstM hH
 have hlen:its.toArray.size * k.toNat <= sizeLine:=by rw [aZ,<- hl]; exact hz
 have hcap:¬ its.toArray.size * k.toNat > (2 ^ 63 - 1) / 8:=by
  have:(sizeLine:Nat) <= (2 ^ 63 - 1) / 8:=by decide
  omega
 have hfit:¬ (!Builtin.List.listFitsIndex k) = true:=by
  rw [fitsIndex_both h1 h2]
  exact bA
 have hlong:¬ Builtin.List.listTooLong (its.toArray.size * k.toNat) = true:=by
  rw [VD hlen]
  exact bA
 have hnew:List.foldl (fun x1 x2=>x1 ++ x2) #[] (List.replicate (if its.toArray.isEmpty = true then 0 else k.toNat) its.toArray) = (List.replicate k.toNat its).flatten.toArray:=by
  have f0:∀ m:Nat,List.foldl (fun x1 x2=>x1 ++ x2) #[] (List.replicate m its.toArray) = (List.replicate m its).flatten.toArray:=fun m=>by
   have:=foldl_rep its m []
   rw [List.nil_append] at this
   exact this
  rw [f0]
  cases its with
  | nil=>simp
  | cons a r'=>rw [if_neg (by simp)]
 refine wpAny_binaryOp_repeat_ref (T := "list") (U := "int") (by decide) ⟨_,e,rfl⟩ (fun s'=>typeIs_int s' k t) noFill_list_mul F.fills_int_mul F.slot_int_rmul repeat_list F.slot_int_index.lookup
  (call_meets F.slot_int_rmul (typeIs_int s k t) F.entry_int_rmul (F.args_int_rmul_2 _ _) (int___rmul___int_list k t l its.toArray n)
   ⟨e,rfl,⟨_,e,rfl⟩,call_meets F.slot_list_mul ⟨_,e,rfl⟩ F.entry_list_mul (F.args_list_mul_2 _ _) (AutoListH.list___mul___list_int_3 l its.toArray n k t hfit hcap hlong) ⟨e,?_⟩⟩)
 rw [hnew]
 exact ⟨.ref _,_,I.lnew (t':=s.toks) (r.rep k.toNat) (by rw [len_rep,Nat.mul_comm]; exact hz),rfl,q _ I.fresh⟩
theorem yI {pins:List (Addr × Obj)} {s:Shared} {σ:St} {H:Hp} {l:Addr} {xs:List V} {i:Int} {t:Tok} {k:Nat} {Q:Unit->Shared->Prop} (I:Inv X pins σ H s) (hH:H l = some (.lst xs))
  (h1 : -(2 ^ 63) <= i) (h2:i < 2 ^ 63) (hk:seqIndex? i xs.length = some k) (h:∀ s',Inv X pins σ (upd H l (.lst (xs.eraseIdx k))) s'->Q () s') :
  wpAny (model X.prog X.w) X.A (delItem (.ref l) (.int i t)) Q X.xe s:=by
 obtain ⟨z,its,n,r,hl,e⟩:=I.lstM hH
 refine PySem.P.delItem_list (k:=k) e (fitsIndex_both h1 h2) (by rw [aZ,<- hl]; exact hk) (h _ ?_) (by rw [aZ]; omega)
 refine I.lset (its':=its.eraseIdx k) (t':=s.toks) hH e ?_ (r.eraseIdx k) ?_
 .show its.toArray.eraseIdxIfInBounds k = (its.eraseIdx k).toArray
  rw [List.eraseIdxIfInBounds_toArray]
 .have:=FT xs k
  omega
end
section
variable {prog:Program} {w:World} {A:Around} {E:Value->Shared->Prop} {s:Shared}
end
section
variable {X:Cx}
end
end L2
namespace Att
open PySem PySem.W PySem.Calls PyProof.Rows
theorem Ah {P:Params} {h:Heap} : ∀ (ns:List Int) (vs:List Value),WellAll P h vs (ns.map WData.int)->IntsAre vs ns:=by
 intro ns
 induction ns with
 | nil =>
  intro vs w
  rw [List.map_nil] at w
  cases w
  exact .nil
 | cons n ns ih =>
  intro vs w
  rw [List.map_cons] at w
  cases w with
  | cons a b =>
   cases a
   exact .cons _ _ (ih _ b)
theorem Tv {l:OpenLaw} {n:Nat} (hn:l.most = some n) {P:Params} {h:Heap} {args:List WData} {vals:List Value}
  (hpre:l.row.toRowW.claim.pre args = true) (hwl:WellAll P h vals args) :
  ∃ a vs ns,vals = [Value.ref a]/\args = [WData.list (ns.map WData.int)]/\h.get? a = some { cls:=.type "list",data:=.seq vs.toArray }/\IntsAre vs ns/\ns.length <= n:=by
 have hsh:WShape.hasAll [] args [.list .int] = true:=(pre_splitW hpre).1
 have hc:l.pre.holds [] { args:=args } = true:=(pre_splitW hpre).2
 obtain ⟨d,r,rfl,h1,h2⟩:=hasAllW_cons hsh
 obtain rfl:=hasAllW_nil h2
 obtain ⟨xs,rfl,h3⟩:=hasW_list h1
 obtain ⟨ns,rfl⟩:=items_int h3
 have hlen:ns.length <= n:=by
  unfold OpenLaw.pre at hc
  have h4:(WTm.not (.lt (.lit (.int (n:Int))) (.len (.arg 0)))).holds [] { args:=[.list (ns.map .int)] } = true:=by
   have h4:=(holds_andW hc).1
   rw [hn] at h4
   exact h4
  have h5:=condW_of h4 (w_not (w_lt w_lit (w_len_list (w_arg rfl))))
  rw [ak] at h5
  refine Nat.le_of_not_lt fun q=>?_
  have q':(n:Int) < ((ns.length:Nat):Int):=by omega
  first
   | (rw [decide_eq_true q'] at h5; exact absurd h5 (by decide))
   | (simp at h5; omega)
 cases hwl with
 | cons w1 w2 =>
  cases w2
  cases w1 with
  | list ho hall=>exact ⟨_,_,ns,rfl,rfl,ho,Ah ns _ hall,hlen⟩
theorem R6 (l:OpenLaw) (args:List WData):l.row.toRowW.claim.post args (.bool true) args = true :=
 postW_of (r:=l.row.toRowW) (X:=(true == true))
  (show WShape.has [] (.bool true) .bool = true by first | rfl | decide | simp [WShape.has,WShape.arms,WShape.armsAll])
  (show (WTm.eq .res (.lit (.bool true))).value [] { args:=args,res:=some (.bool true),after:=args } = some (.bool (true == true)) from w_eq_bool (w_res rfl) w_lit) rfl
theorem Mt {l:OpenLaw} {n:Nat} {q:Program} {loose:List Str} {XP:(Str->Option Value)->Heap->Prop} {YP:World->Heap->Prop} {d:DefRec}
  (hn:l.most = some n) (hdf:d.params.defaults = [])
  (call:∀ (w:World) (s₀ s₁:Shared) (mg mb:Str->Option Value) (fa:Addr) (o:Obj) (pm cd doc:Value) (a:Addr) (vs:List Value) (ns:List Int),
   Ground q loose [] XP w s₀ mg mb s₁.heap->YP w s₁.heap ->
   s₁.heap.get? fa = some o->o.data = .func (docDef d.name d.params d.body d.scope pm cd doc)->s₁.heap.CodeRec cd d.name->mg d.name = some (.ref fa) ->
   s₁.heap.get? a = some { cls:=.type "list",data:=.seq vs.toArray }->IntsAre vs ns->ns.length <= n->s₁.gens = #[] ->
   codeAny (model l.prog w) callerA (.call (.ref fa) ⟨[.ref a],[]⟩) (fun r s'=>r = .ok (.ret (.bool true))/\OldK s₁.heap s'.heap/\s'.os = s₁.os/\AllBare s'.gens) s₁) :
  WalkO q loose XP YP l.row.toRowW d [] (fun f vs=>PySem.call f vs):=by
 intro w s₀ s₁ mg mb G Y fa o pm cd doc dV kV ho hd hcd hD hmg hg args vals as hpre hlay hrd hwl hlo
 obtain rfl:dV = .none:=Dflts.none hD hdf
 obtain rfl:kV = .none:=Dflts.noKw hD
 obtain ⟨a,vs,ns,rfl,rfl,hobj,hints,hlen⟩:=Tv hn hpre hwl
 refine enter_call (codeAny_mono (call w s₀ s₁ mg mb fa o pm cd doc a vs ns G Y ho (fd_plain hd) hcd hmg hobj hints hlen hg) fun r s' hq=>?_)
 obtain ⟨rfl,h2,h3,h4⟩:=hq
 exact ⟨.inl ⟨.bool true,.bool true,[],rfl,fun _=>rfl,.bool true,R6 l _,fun _=>⟨List.Pairwise.nil,fun _ hm=>(nomatch hm)⟩⟩,h2,h3,h4⟩
section
variable {prog:Program} {w:World} {A:Around} {E:Value->Shared->Prop} {s:Shared} {K:Frag}
end
end Att
namespace L2
open PySem PySem.Spec PyProof.Rows
theorem zK:∀ {vs:List Value} {ns:List Int},IntsAre vs ns->Vals (ns.map V.int) vs
 | _,_,.nil=>.nil
 | _,_,.cons n t h=>.cons ⟨t,rfl⟩ (zK h)
def Only (H:Hp):Prop:=∀ b,H b = none\/∃ o xs,H b = some (.frz o (.lst xs))
theorem Wk {P:Program} {w:World} {K:Frag} {mg mb:Str->Option Value} {CX:CXT} {k:Nat} {fa a:Addr} {fd:FuncData} {x:Str} {sp:Sp} {s₁:Shared} {vs:List Value} {ns:List Int}
  (KX:K.In s₁.heap) (hns:s₁.heap.Ns mainGlobals mg) (hb:s₁.heap.Ns builtinsNs mb) (hbb:∀ x:Str,x ≠ "__name__" -> mb x = bootBuiltins x) (hlim:s₁.heap.NoLimit) (hg:s₁.gens = #[])
  (ha:s₁.heap.get? a = some { cls:=.type "list",data:=.seq vs.toArray }) (hi:IntsAre vs ns) (hl:ns.length <= sizeLine) (hr:gJ k callerA)
  (F:∀ base:Heap,K.In base->base.Ns mainGlobals mg->cu P w K mg base CX k fa fd [x] sp) (hbind:∀ (s:Shared) (u:Value),BindsTo s fd ⟨[u],[]⟩ [(x,u)])
  (hsp:∀ H:Hp,Only H->SqL K H a (ns.map V.int)->sp [.ref a] H (fun v _=>v = .bl true) fun _ _ _=>False)
  (hCX:∀ H e s',CX [] H s₁ (fun _ _ _=>False) e s'->False) :
  codeAny (model P w) callerA (.call (.ref fa) ⟨[.ref a],[]⟩) (fun r s'=>r = .ok (.ret (.bool true))/\OldK s₁.heap s'.heap/\s'.os = s₁.os/\AllBare s'.gens) s₁:=by
 have rv:=zK hi
 have lenV:=hi.length
 -- from an abstract heap in which nothing but the script may be tracked
 have core:∀ H:Hp,Only H->SqL K H a (ns.map V.int)->HOk P w H s₁.heap->(∀ b,H b ≠ none->b = a)->(H a ≠ none->K.lookup a = none) ->
   codeAny (model P w) callerA (.call (.ref fa) ⟨[.ref a],[]⟩) (fun r s'=>r = .ok (.ret (.bool true))/\OldK s₁.heap s'.heap/\s'.os = s₁.os/\AllBare s'.gens) s₁:=by
  intro H hO hS hok hA hK
  have base_of:∀ {b:Addr} {o:Obj},s₁.heap.get? b = some o->H b = none->(I9 s₁.heap H).get? b = some o:=fun e n=>XD e n
  have noA:∀ {b:Addr} {o:Obj} {es:Array DictEntry} {ep:Nat},s₁.heap.get? b = some o->o.data = .dict es ep->H b = none:=fun {b o es ep} e d=>by
   cases q:H b with
   | none=>rfl
   | some u =>
    have e':b = a:=hA b (by rw [q]; simp)
    subst e'
    rw [ha] at e; cases e
    have d':Data.seq vs.toArray _ = Data.dict es ep:=d
    cases d'
  have nsK:∀ {b:Addr} {m:Str->Option Value},s₁.heap.Ns b m->(I9 s₁.heap H).Ns b m:=fun {b m} ⟨o,es,ep,e,d,r⟩=>⟨o,es,ep,base_of e (noA e d),d,r⟩
  have hKb:K.In (I9 s₁.heap H):=fun b o e=>base_of (KX b o e) (by
   cases q:H b with
   | none=>rfl
   | some u =>
    have e':b = a:=hA b (by rw [q]; simp)
    subst e'
    rw [hK (by rw [q]; simp)] at e; cases e)
  have hM:Mod K mg (I9 s₁.heap H):=⟨hKb,nsK hns,⟨mb,nsK hb,hbb⟩,let ⟨mc,h1,h2⟩:=hlim; ⟨mc,nsK h1,h2⟩⟩
  have e0:Pz P w K mg (I9 s₁.heap H) callerA [] s₁ H:=⟨rfl,hM,fun b o e=>aaf e,Nat.le_of_eq (Ue _ _),trivial,fun b hb=>absurd (show b ∈ ([] : List Addr) from hb) (by simp),hok,.of_eq hg⟩
  refine codeAny_mono ((F _ hKb (nsK hns)).run callerA [] s₁ H ⟨[.ref a],[]⟩ [.ref a] [.ref a] _ _ hr e0 (hbind s₁ (.ref a)) (.cons rfl .nil) (hsp H hO hS)) fun r s' h=>?_
  cases r with
  | error e=>exact (hCX H e s' h).elim
  | ok fl =>
   cases fl with
   | next=>exact False.elim h
   | brk=>exact False.elim h
   | cont=>exact False.elim h
   | ret u =>
    obtain ⟨v,H',os,bare,un,hok',r',q⟩:=h
    have q':v = .bl true:=q
    subst q'
    obtain rfl:u = Value.bool true:=r'
    refine ⟨rfl,OldK.of_keep fun b o e=>?_,os,bare⟩
    cases q:H b with
    | none=>exact un.keep b o e q (by intro z; exact absurd (show b ∈ ([] : List Addr) from z) (by simp)) (by simp)
    | some u =>
     rcases hO b with z | ⟨ob,xs,z⟩
     .rw [q] at z; cases z
     .have z2:=un.frzs b ob _ z
      obtain ⟨e1,_⟩:=hok b _ z
      obtain ⟨e2,_⟩:=hok' b _ z2
      rw [e] at e1; cases e1
      exact e2
 cases hk:K.lookup a with
 | some o =>
  -- the script is one of the module's own objects
  have e:=KX a o hk
  rw [ha] at e
  cases e
  refine core (fun _=>none) (fun _=>.inl rfl) (.inr ⟨_,vs.toArray,_,hk,rfl,rfl,rfl,by rw [aZ,lenV]; exact hl,by simpa using rv⟩) (fun b u z=>by have z':(none:Option HO) = some u:=z; cases z') (fun b z=>absurd rfl z) fun z=>absurd rfl z
 | none =>
  refine core (fun b=>if b = a then some (.frz { cls:=.type "list",data:=.seq vs.toArray } (.lst (ns.map V.int))) else none) (fun b=>?_) (.inl (.inr ⟨{ cls:=.type "list",data:=.seq vs.toArray },if_pos rfl⟩)) (fun b u z=>?_) (fun b z=>?_) fun _=>hk
  .by_cases hb:b = a
   .exact .inr ⟨_,_,if_pos hb⟩
   .exact .inl (if_neg hb)
  .by_cases hb:b = a
   .have z':=(if_pos hb).symm.trans z
    cases z'
    subst hb
    exact ⟨ha,by rw [ak]; exact hl,vs,_,rv,ha⟩
   .have z':=(if_neg hb).symm.trans z
    cases z'
  .by_cases hb:b = a
   .exact hb
   .exact absurd (if_neg hb) z
end L2
namespace L2
open PySem PySem.Spec PyProof.Rows
abbrev KOf {K:Frag} {h:Heap} (_:K.In h):Frag:=K
theorem Rr {l:PySem.W.OpenLaw} {n k:Nat} {q:Program} {loose:List Str} {XP:(Str->Option Value)->Heap->Prop} {YP:World->Heap->Prop} {d:DefRec} {K:Params->Frag} {CX:World->CXT} {sp:World->Sp} {x:Str}
  (hn:l.most = some n) (hn2:n <= sizeLine) (hdf:d.params.defaults = []) (hr:gJ k callerA)
  (hY:∀ (w:World) (h:Heap),YP w h->(K w.params).In h)
  (F:∀ (w:World) (mg:Str->Option Value) (fa:Addr) (h:Heap),(K w.params).In h->h.Ns mainGlobals mg->mg d.name = some (.ref fa) ->
   ∃ fd:FuncData,(∀ (s:Shared) (u:Value),BindsTo s fd ⟨[u],[]⟩ [(x,u)]) /\
    ∀ base:Heap,(K w.params).In base->base.Ns mainGlobals mg->cu l.prog w (K w.params) mg base (CX w) k fa fd [x] (sp w))
  (hsp:∀ (w:World) (H:Hp) (a:Addr) (ns:List Int),ns.length <= n->Only H->SqL (K w.params) H a (ns.map V.int)->sp w [.ref a] H (fun v _=>v = .bl true) fun _ _ _=>False)
  (hCX:∀ (w:World) (H:Hp) (s:Shared) (e:Value) (s':Shared),CX w [] H s (fun _ _ _=>False) e s'->False) :
  PySem.W.WalkO q loose XP YP l.row.toRowW d [] (fun f vs=>PySem.call f vs):=by
 refine Att.Mt hn hdf fun w s₀ s₁ mg mb fa o pm cd doc a vs ns G Y ho hd hcd hmg hobj hints hlen hg=>?_
 have KX:=hY w _ Y
 obtain ⟨fd,hb,hF⟩:=F w mg fa _ KX G.T.g hmg
 exact Wk KX G.T.g G.T.b G.T.builtins G.T.nolimit hg hobj hints (aL hlen hn2) hr hF hb (fun H hO hS=>hsp w H a ns hlen hO hS) fun H e s'=>hCX w H s₁ e s'
end L2
/- THE LAST THEOREM (shape; LID,My.* are yours):
   My.Adr: a structure of the addresses that your layer names (classes,functions); My.Txt K t: a structure (Prop) of the equations over K;
   My.txt_mk : {K} {implicit addresses ..} (e1:nsIn K mainGlobals "law" = some (some (.ref f))) (e2:K.lookup f = some ⟨oc,od,.func (fnOf "law" "law" params body scope dV kV doc pm an cdv ct),sl⟩) (e3:codeIn K cdv "law" = true) .. : ∃ t,My.Txt K t
set_option maxRecDepth 100000 in
set_option maxHeartbeats 0 in
theorem PySem.Challenge.cw_LID_holds : PySem.Challenge.rw_LID.Holds := by
 w_on; o_law; k_head; (case hw=>w_witness2)
 k_fill
 refine L2.Rr (l:=PySem.Challenge.rw_LID) (n:=63) (k:=40) (x := "script") (CX:=fun w=>..) (sp:=fun _=>My.agc) rfl (by decide) rfl ⟨rfl,by decide,by decide⟩ (fun w h Y=>PySem.W.kIn_of Y) ?F ?S ?C
 case F =>
  intro w mg fa h KX G hmg
  have T:∃ t,My.Txt (L2.KOf KX) t:=by
   dsimp only [L2.KOf]                          -- K must stand as «<heap const> w.params» for k_is
   refine' My.txt_mk ?e1 ?e2 ?e3 ..
   (case e1=>PySem.W.k_is)                    -- in the order: a name -> its address -> its object -> its parts
   (case e2=>PySem.W.k_is)
   ..
  obtain ⟨t,T⟩:=T
  have e0:=hmg.symm.trans (PySem.W.mg_of KX G T.law)
  cases e0                                       -- fa is the law's own address
  exact ⟨_,fun s u=>.of_eq rfl,fun base kb nb=>My.law_fn T kb nb⟩     -- if «.of_eq rfl» comes too early: refine' ⟨_,?b,fun base kb nb=>My.law_fn T kb nb⟩; exact fun s u=>.of_eq rfl
 case S=>exact fun w H a ns hl hO hS=>..
 case C=>exact ..
(the tactic k_is has no namespace: write k_is) -/
namespace L2
open PySem PySem.Spec PyProof.Rows
abbrev CX0:CXT:=fun _ _ _ _ _ _=>False
abbrev E0:XK:=fun _ _ _=>False
theorem KD {X:Cx} : Passes CX0 X E0:=fun _ _ _ _ _ _ _ h=>h.elim
structure Fun (K:Frag) (x qual:Str) (st:Stmt) (f:Addr) (fd:FuncData):Prop where
 ex:∃ (oc:Value) (od:Option Addr) (kV doc pm:Value) (an:Option Addr) (cdv ct:Value) (osl:Array (Option Value)),
  fd = PySem.W.fnOf x qual (jt st) (gj st) (bK st) .none kV doc pm an cdv ct/\K.lookup f = some ⟨oc,od,.func fd,osl⟩/\PySem.W.codeIn K cdv qual = true
 kp:PySem.W.keepIn K (.ref f) = true
section
variable {P:Program} {w:World} {K:Frag} {mg:Str->Option Value} {base:Heap}
theorem Fun.ok {x qual:Str} {st:Stmt} {f:Addr} {fd:FuncData} {N ps:List Str} {k:Nat} {sp:Sp} (F:Fun K x qual st f fd) (S:bR N ps (bK st)) (len:∀ vs H Q E,sp vs H Q E->vs.length = ps.length)
  (hbody:∀ (cdv:Value) (A:Around) (outer:List Env) (s:Shared) (H:Hp) (vs:List V) (Q:VK) (E:XK),gJ k (A.deeper (envOfC qual (bK st) s.heap.objs.size f cdv))->sp vs H Q E ->
   ∃ t,PSs (Ec CX0 P w K mg base N qual (bK st) f cdv A outer s H E).nox (gj st) t/\t { nx:=fun _ H'=>Q .non H',rt:=Q } (start N vs) H):cu P w K mg base CX0 (k + 1) f fd ps sp:=by
 obtain ⟨oc,od,kV,doc,pm,an,cdv,ct,osl,rfl,lk,hcd⟩:=F.ex
 refine aaU lk hcd S len fun A outer s H vs Q E hr hsp=>?_
 obtain ⟨t,h,q⟩:=hbody cdv A outer s H vs Q E hr hsp
 exact ⟨t,h.nox,q⟩
theorem XM {x qual:Str} {st:Stmt} {f:Addr} {oc:Value} {od an:Option Addr} {osl:Array (Option Value)} {kV doc pm cdv ct:Value} (l:K.lookup f = some ⟨oc,od,.func (PySem.W.fnOf x qual (jt st) (gj st) (bK st) .none kV doc pm an cdv ct),osl⟩)
  (c:PySem.W.codeIn K cdv qual = true) (k:PySem.W.keepIn K (.ref f) = true):Fun K x qual st f (PySem.W.fnOf x qual (jt st) (gj st) (bK st) .none kV doc pm an cdv ct):=⟨⟨oc,od,kV,doc,pm,an,cdv,ct,osl,rfl,l,c⟩,k⟩
end
theorem rT {A:Around} {k:Nat} (hr:gJ k A):A.units + 1 < cLine:=Nat.lt_of_le_of_lt (Nat.add_le_add_left (by decide:1 <= 64) _) hr.units
section
variable {X:Cx}
noncomputable def abh (sc:Scope) (x:Str):Bool:=(sc.names.lookup x).any fun k=>k == .local || k == .cell || k == .free
theorem aby {sc:Scope} {x:Str} (h:abh sc x = true):Vis sc x:=by
 unfold abh at h
 unfold Vis
 cases e:sc.names.lookup x with
 | none=>rw [e] at h; cases h
 | some k=>rw [e] at h; cases k <;> first | exact .inl rfl | exact .inr (.inl rfl) | exact .inr (.inr rfl) | cases h
theorem pv (i:Nat) {x:Str} {pos:Pos} (hN:X.N[i]? = some x:=by rfl) (hv:abh X.env.scope x = true:=by rfl) (hd:(x == ("__debug__" : Str)) = false:=by decide)
  (hcd:(x == ("__classdict__" : Str)) = false:=by decide):PE X (.Name x pos) (jw i):=abF hN (aby hv) hd hcd
end
theorem U8 {c A B:Prop} [Decidable c] (h1:c->A) (h2:¬ c->B):if c then A else B:=by
 by_cases h:c
 .rw [if_pos h]
  exact h1 h
 .rw [if_neg h]
  exact h2 h
def Same (H H':Hp):Prop:=∀ b o,H b = some o->H' b = some o
theorem Same.refl (H:Hp):Same H H:=fun _ _ h=>h
theorem Same.trans {H H1 H2:Hp} (a:Same H H1) (b:Same H1 H2):Same H H2:=fun c o h=>b c o (a c o h)
theorem Same.free {H H':Hp} (e:Same H H') {l:Addr} (h:H' l = Option.none):H l = Option.none:=by
 cases q:H l with
 | none=>rfl
 | some o =>
  rw [e l o q] at h
  cases h
end L2
namespace L2
open PySem PySem.Spec PyProof.Rows
def Bd (i:Int):Prop:=i.natAbs < 2 ^ 8000
theorem Bd.log2 {i:Int} (h:Bd i):i.natAbs.log2 < 8000:=by
 by_cases h0:i.natAbs = 0
 .rw [h0,Nat.log2_zero]; omega
 .exact (Nat.log2_lt h0).mpr h
theorem Bd.bits {i:Int} (h:Bd i):Builtin.Int.intBits i <= 2 ^ 20:=by
 have e:(2:Nat) ^ 20 = 1048576:=by decide
 have:=h.log2
 unfold Builtin.Int.intBits
 split
 .exact bh _
 .omega
section
variable {X:Cx}
theorem fL:OpR X (binaryOp .Mult) (rI (fun i j=>Bd i/\Bd j) fun i j=>.int (i * j)):=opI fun _ _ _ _ _ _ _ hc q=>mul_int q (.of_bits hc.1.bits hc.2.bits)
theorem iI:OpR X (binaryOp .FloorDiv) (rI (fun _ j=>j ≠ 0/\Bd j) fun i j=>.int (i.fdiv j)):=opI fun _ _ _ _ _ _ _ hc q=>floordiv_int hc.1 q (.inl (PyProof.noPylong_of_log2 (by have:=hc.2.log2; omega)))
theorem Lp:fX X (.builtin "isinstance") (fun xs H Q=>∃ x c cv t b,xs = [x,c]/\((∃ T,c = .ty T/\cv = Value.type T)\/∃ C,c = .ref C/\cv = Value.ref C)/\zm X.K H x t/\PySem.W.kitOne X.K t cv = some b/\Q (.bl b) H):=by
 intro pins s σ H xs us Q I r h
 obtain ⟨x,c,cv,t,b,rfl,rc,ty,e,q⟩:=h
 obtain ⟨u,v,rfl,ru,rv⟩:=r.two
 have e2:v = cv:=by
  rcases rc with ⟨T,rfl,rfl⟩ | ⟨T,rfl,rfl⟩
  .exact rv
  .exact rv
 subst e2
 exact Tf I ru ty e fun tk=>⟨.bl b,H,I.tok _,rfl,q⟩
theorem KN:fX X (.builtin "sorted") (fun xs H Q=>∃ l ns,xs = [.ref l]/\SqL X.K H l (ns.map V.int)/\ns.length < 64/\∀ (ms:List Int) p,H p = none->ms.Perm ns->ms.Pairwise (· <= ·)->Q (.ref p) (upd H p (.lst (ms.map V.int)))):=by
 intro pins s σ H xs us Q I r h
 obtain ⟨l,ns,rfl,hl,h64,q⟩:=h
 obtain ⟨u,rfl,ru⟩:=r.one
 cases ru
 obtain ⟨its,rv,p,hz⟩:=I.list hl
 have hI:=intsAre_of rv
 have hlen:its.length = ns.length:=by have:=rv.length; simpa using this.symm
 refine sorted_ints (vs:=its) p.isList hI (by omega) fun out ns' a1 a2 a3=>?_
 obtain ⟨e,he⟩:=sortedAll_at s.heap its out
 have hfr:H (s.heap.objs.size + 1) = none:=I.hok.fresh (Nat.le_succ _)
 refine ⟨.ref _,_,I.laid (a:=s.heap.objs.size + 1) (o:=.lst (ns'.map V.int)) (t':=s.toks) (fun b u e=>sortedAll_old e) (Nat.le_succ _) ?_,rfl,q ns' _ hfr a2 a3⟩
 refine ⟨?_,out.toList,e,zK a1,he⟩
 rw [ak,a2.length_eq]
 rw [ak] at hz
 exact hz
end
section
variable {prog:Program} {w:World} {A:Around} {E:Value->Shared->Prop} {s:Shared}
theorem Gp {it t:Addr} {items:Array Value} (hne:t ≠ it):∀ (n i:Nat) (s:Shared) (Q:List Value->Shared->Prop),s.heap.IsListIter it t i->PlainL s.heap t items->i + n <= items.size ->
  (∀ h',h'.IsListIter it t (i + n)->Heap.SameBut it s.heap h'->Q ((items.toList.drop i).take n) { s with heap:=h' })->wpAny (model prog w) A (draw (.ref it) n) Q E s
 | 0,i,s,Q,hit,_,_,hQ=>by
  show wpAny _ _ (pure []) Q E s
  exact wpAny_pure (by simpa using hQ s.heap hit (Heap.SameBut.refl ..))
 | n + 1,i,s,Q,hit,ht,hle,hQ=>by
  have hlt:i < items.size:=by omega
  show wpAny _ _ (pyNext (.ref it) >>= _) Q E s
  refine wpAny_bind (wpAny_pyNext_list_item hit ht.isList (x:=items[i]) (by simp [hlt]) fun h₁ hit₁ hs₁=>?_)
  have ht₁:PlainL h₁ t items:=by
   obtain ⟨o,k,e,r⟩:=ht
   exact ⟨o,k,(hs₁.2 t hne).trans e,r⟩
  refine wpAny_bind (wpAny_holding (Gp hne n (i + 1) _ _ hit₁ ht₁ (by omega) fun h₂ hit₂ hs₂=>wpAny_pure ?_))
  have hd:items.toList.drop i = items[i] :: items.toList.drop (i + 1):=by simp [List.drop_eq_getElem_cons,hlt]
  have:=hQ h₂ (by rw [show i + (n + 1) = i + 1 + n by omega]; exact hit₂) (hs₁.trans hs₂)
  rw [hd,List.take_succ_cons] at this
  exact this
theorem zM {t:Addr} {items:Array Value} {Q:List Value->Shared->Prop} (hh:A.handled = none) (ht:PlainL s.heap t items)
  (hQ:∀ h',Heap.ExtBut s.heap.objs.size s.heap h'->Q items.toList { s with heap:=h' }):wpAny (model prog w) A (unpackItems (.ref t) items.size none) Q E s:=by
 have hlt:t ≠ s.heap.objs.size:=by obtain ⟨o,_,ho,_⟩:=ht; exact aR (aJ ho)
 unfold unpackItems
 refine wpAny_bind ?_
 .unfold notIterableAtAll
  refine wpAny_bind (wpAny_specialOf ht.isList.typeIs slot_list_iter.lookup ?_)
  refine wpAny_pure ?_
  simp only [Bool.false_eq_true,if_false]
  refine wpAny_bind (wpAny_holding (wpAny_pyIter_list ht.isList ?_))
  have ht0:PlainL (s.heap.push { cls:=.type "list_iterator",data:=.fields #[.ref t,.int 0 0] }) t items:=by
   obtain ⟨o,k,e,r⟩:=ht
   exact ⟨o,k,aG _ e,r⟩
  refine wpAny_bind (wpAny_holding (Gp hlt items.size 0 _ _ ⟨_,aY _ rfl,rfl,rfl⟩ ht0 (by omega) fun h₁ hit₁ hs₁=>?_))
  have hall:List.take items.size (List.drop 0 items.toList) = items.toList:=by
   rw [List.drop_zero]; exact aK (by simp)
  rw [hall]
  rw [if_neg (by simp)]
  have ht₁:PlainL h₁ t items:=by
   obtain ⟨o,k,e,r⟩:=ht0
   exact ⟨o,k,(hs₁.2 t hlt).trans e,r⟩
  refine wpAny_bind (wpAny_holding (wpAny_pyNext_list_end hh hit₁ ht₁.isList (by simp) fun h₂ he₂=>?_))
  simp only [Option.isSome_none,Bool.false_eq_true,if_false]
  refine wpAny_pure (hQ h₂ fun b o hb e=>he₂ b o hb (hs₁.extBut b o hb (aG _ e)))
theorem yN {env:Env} {elts:List Expr} {x1} {pos:Pos} {t:Addr} {items:Array Value} {Q:Unit->Shared->Prop} (hh:A.handled = none) (ht:PlainL s.heap t items)
  (hn:(assignEach elts env).length = items.size) (hstar:(assignEach elts env).findIdx? (·.1) = none)
  (h:∀ h',Heap.ExtBut s.heap.objs.size s.heap h'->wpAny (model prog w) A (assignInOrder ((assignEach elts env).map (·.2)) items.toList) Q E { s with heap:=h' }) :
  wpAny (model prog w) A (assign (.Tuple elts x1 pos) env (.ref t)) Q E s:=by
 rw [assign_Tuple]
 refine wpAny_bind (wpAny_standAt ?_)
 unfold unpack
 rw [hn,hstar]
 exact wpAny_bind (wpAny_holding (zM hh ht h))
end
section
variable {X:Cx} {pos:Pos}
def adz (K:Frag) (n:Nat) (t:TGs):TG:=fun v σ H Q=>∃ a xs,v = .ref a/\SqL K H a xs/\xs.length = n/\t xs σ H Q
theorem YW {es:List Expr} {k:Nat} {t:TGs} {n:Nat} (hc:X.calm = true) (h:PGs X es t)
  (hn:(assignEach es X.env).length = n:=by rfl) (hst:(assignEach es X.env).findIdx? (·.1) = none:=by rfl):PG X (.Tuple es k pos) (adz X.K n t):=by
 intro pins s σ H v u Q I r hw
 obtain ⟨a,xs,e1,hq,hl,hw⟩:=hw
 subst e1
 cases r
 obtain ⟨its,rv,ht,hz⟩:=I.list hq
 refine yN (I.ok.hd hc) ht (by simp [hn,<- hl,rv.length]) hst fun h' hx=>?_
 have I1:Inv X pins σ H { s with heap:=h' }:=I.kept (t':=s.toks) fun b o e=>hx b o (aR (aJ e)) e
 exact h pins _ σ H xs _ Q I1 (by simpa using rv) hw
end
theorem dz.btw {P:Program} {w:World} {H H2 H':Hp} {h h':Heap} {a:Addr} {o:HO} (x:dz P w H h a o) (y:dz P w H' h' a o) (s1:Same H H2):dz P w H2 h' a o:=by
 induction o with
 | ins C dx fs=>exact ⟨s1 dx _ x.1,y.2⟩
 | frz ob u ih=>exact ⟨y.1,ih x.2 y.2⟩
 | _=>exact y
def Plus (H H2:Hp):Prop:=Same H H2/\∀ a o,H2 a = some o->H a = some o\/(∃ xs,o = .tup xs)\/∃ xs,o = .lst xs
theorem Plus.refl (H:Hp):Plus H H:=⟨Same.refl H,fun _ _ e=>.inl e⟩
theorem Plus.tup {H H1:Hp} {p:Addr} {xs:List V} (h:Plus H H1) (hp:H1 p = none):Plus H (upd H1 p (.tup xs)):=by
 refine ⟨fun b o e=>?_,fun a o e=>?_⟩
 .rw [bF (bD (h.1 b o e) hp)]; exact h.1 b o e
 .by_cases z:a = p
  .subst z; rw [bC] at e; cases e; exact .inr (.inl ⟨xs,rfl⟩)
  .rw [bF z] at e; exact h.2 a o e
theorem cu.forget {P:Program} {w:World} {K:Frag} {mg:Str->Option Value} {base:Heap} {CX:CXT} {k:Nat} {f:Addr} {fd:FuncData} {ps:List Str} {sp sp':Sp} (F:cu P w K mg base CX k f fd ps sp)
  (hs:∀ vs H Q E,sp' vs H Q E->∃ Q',sp vs H Q' E/\∀ v H',Q' v H'->∃ H2,Plus H H2/\Same H2 H'/\Q v H2):cu P w K mg base CX k f fd ps sp':=by
 refine ⟨fun vs H Q E h=>?_,fun A outer s H args us vs Q E hr e0 hb r h=>?_⟩
 .obtain ⟨Q',h',_⟩:=hs vs H Q E h
  exact F.len vs H Q' E h'
 obtain ⟨Q',h',hq⟩:=hs vs H Q E h
 refine codeAny_mono (F.run A outer s H args us vs _ E hr e0 hb r h') fun res s' hs=>?_
 cases res with
 | error e=>exact hs
 | ok fl =>
  cases fl with
  | ret u =>
   obtain ⟨v,H',ho,hbr,un,hok,rv,q'⟩:=hs
   obtain ⟨H2,⟨s1,cl⟩,s2,q⟩:=hq v H' q'
   have fr:∀ b,H' b = none->H2 b = none:=fun b e=>s2.free e
   refine ⟨v,H2,ho,hbr,⟨un.keep,un.slot,fun b o e n hx=>fr b (un.free b o e n hx),un.there,fun b xs e=>s1 b _ e,fun b o u e=>s1 b _ e,fun b ps e=>⟨#[],by rw [s1 b _ e]; simp⟩⟩,fun a o e=>?_,rv,q⟩
   have z:=hok a o (s2 a o e)
   rcases cl a o e with c | ⟨xs,rfl⟩ | ⟨xs,rfl⟩
   .exact (e0.hok a o c).btw z s1
   .exact z
   .exact z
  | next=>exact hs
  | brk=>exact hs
  | cont=>exact hs
theorem cu.clean {P:Program} {w:World} {K:Frag} {mg:Str->Option Value} {base:Heap} {CX:CXT} {k:Nat} {f:Addr} {fd:FuncData} {ps:List Str} {sp sp':Sp} (F:cu P w K mg base CX k f fd ps sp)
  (h:∀ vs H Q E,sp' vs H Q E->sp vs H (fun v H'=>Same H H'/\Q v H) E):cu P w K mg base CX k f fd ps sp' :=
 F.forget fun vs H Q E hs=>⟨_,h vs H Q E hs,fun v H' ⟨s,q⟩=>⟨H,Plus.refl H,s,q⟩⟩
theorem Same.upd {H:Hp} {p:Addr} {o:HO} (hp:H p = none):Same H (upd H p o):=fun b u e=>by
 rw [bF (bD e hp)]; exact e
theorem cu.cleanP {P:Program} {w:World} {K:Frag} {mg:Str->Option Value} {base:Heap} {CX:CXT} {k:Nat} {f:Addr} {fd:FuncData} {ps:List Str} {sp sp':Sp} (F:cu P w K mg base CX k f fd ps sp)
  (h:∀ vs H Q E,sp' vs H Q E->sp vs H (fun v H'=>Same H H'/\∃ p xs,H' p = some (.tup xs)/\H p = none/\Q v (upd H p (.tup xs))) E):cu P w K mg base CX k f fd ps sp' :=
 F.forget fun vs H Q E hs=>⟨_,h vs H Q E hs,fun v H' ⟨s,p,xs,e,z,q⟩=>by
  refine ⟨_,(Plus.refl H).tup (xs:=xs) z,fun b o y=>?_,q⟩
  by_cases c:b = p
  .subst c; rw [bC] at y; cases y; exact e
  .rw [bF c] at y; exact s b o y⟩
section
variable {X:Cx}
theorem IxR.imp {r r':R2} (h:IxR X r) (i:∀ x y H Q,r' x y H Q->r x y H Q):IxR X r':=by
 intro b pos pins s σ H x y v u Q I rx ry q hs
 exact h _ _ _ _ _ _ _ _ _ _ _ I rx ry (i _ _ _ _ q) hs
def Qd:R2:=fun x y H Q=>∃ p xs i v,x = .ref p/\y = .int i/\H p = some (.tup xs)/\atI xs i = some v/\Q v H
def rQ:R2:=fun x y H Q=>∃ p xs i v,x = .ref p/\y = .int i/\H p = some (.lst xs)/\atI xs i = some v/\Q v H
theorem dD:IxR X Qd:=gU.imp fun x y H Q ⟨p,xs,i,v,a,b,c,d⟩=>⟨p,xs,i,v,a,b,.of c,d⟩
theorem bN:IxR X rQ:=Zx.imp fun x y H Q ⟨p,xs,i,v,a,b,c,d⟩=>⟨p,xs,i,v,a,b,.of c,d⟩
theorem eU {α:Type} {x:α} {xs:List α} : atI (x :: xs) 0 = some x:=bV (j:=0) rfl
theorem gO {α:Type} {x y:α} {xs:List α} : atI (x :: y :: xs) 1 = some y:=bV (j:=1) rfl
theorem fX.imp {f:Value} {r r':List V->Hp->VK->Prop} (h:fX X f r) (i:∀ xs H Q,r' xs H Q->r xs H Q):fX X f r':=fun pins s σ H xs us Q I rx q=>h pins s σ H xs us Q I rx (i _ _ _ q)
def VR:List V->Hp->VK->Prop:=fun xs H Q=>∃ p ys,xs = [.ref p]/\H p = some (.tup ys)/\Q (.int ys.length) H
def Dv:List V->Hp->VK->Prop:=fun xs H Q=>∃ p ys,xs = [.ref p]/\H p = some (.lst ys)/\Q (.int ys.length) H
theorem cT:fX X (.builtin "len") Dv:=xP.imp fun xs H Q ⟨p,ys,a,b,c⟩=>⟨p,ys,a,.inl (.of b),c⟩
def tyS (H:Hp):V->Option String
 | .non=>some "NoneType"
 | .bl _=>some "bool"
 | .int _=>some "int"
 | .str _=>some "str"
 | .ref a=>match H a with
  | some (.lst _)=>some "list"
  | some (.tup _)=>some "tuple"
  | some (.dK _)=>some "dict"
  | _=>none
 | _=>none
theorem abI {K:Frag} {H:Hp} {x:V} {t:String} (h:tyS H x = some t):zm K H x (.type t):=by
 cases x with
 | non=>cases h; exact .non
 | bl=>cases h; exact .bl _
 | int=>cases h; exact .int _
 | str=>cases h; exact .str _
 | byt=>cases h
 | flt=>cases h
 | ty=>cases h
 | ref a =>
  have h:(match H a with
   | some (.lst _)=>some "list"
   | some (.tup _)=>some "tuple"
   | some (.dK _)=>some "dict"
   | _=>none) = some t:=h
  split at h
  .cases h; exact .lst (by assumption)
  .cases h; exact .tup (by assumption)
  .cases h; exact .dK (by assumption)
  .cases h
def Uh (t T:String):Bool:=(t == T) || (t == "bool" && T == "int")
theorem Ry {K:Frag} {t T:String} (ht:t ∈ ["NoneType", "bool", "int", "str", "list", "tuple", "dict"]) (hT:T ∈ ["bool", "int", "str", "list", "tuple", "dict"]):PySem.W.kitOne K (.type t) (.type T) = some (Uh t T):=by
 simp only [List.mem_cons,List.not_mem_nil,or_false] at ht hT
 rcases ht with rfl | rfl | rfl | rfl | rfl | rfl | rfl <;> rcases hT with rfl | rfl | rfl | rfl | rfl | rfl <;> with_unfolding_all rfl
theorem Wf {H:Hp} {x:V} {t:String} (h:tyS H x = some t):t ∈ ["NoneType", "bool", "int", "str", "list", "tuple", "dict"]:=by
 cases x with
 | non=>cases h; decide
 | bl=>cases h; decide
 | int=>cases h; decide
 | str=>cases h; decide
 | byt=>cases h
 | flt=>cases h
 | ty=>cases h
 | ref a =>
  have h:(match H a with
   | some (.lst _)=>some "list"
   | some (.tup _)=>some "tuple"
   | some (.dK _)=>some "dict"
   | _=>none) = some t:=h
  split at h <;> cases h <;> decide
def Oj:List V->Hp->VK->Prop:=fun xs H Q=>∃ x T t,xs = [x,.ty T]/\T ∈ ["bool", "int", "str", "list", "tuple", "dict"]/\tyS H x = some t/\Q (.bl (Uh t T)) H
theorem lB:fX X (.builtin "isinstance") Oj:=Lp.imp fun xs H Q ⟨x,T,t,a,b,c,d⟩=>⟨x,.ty T,.type T,.type t,_,a,.inl ⟨T,rfl,rfl⟩,abI c,Ry (Wf c) b,d⟩
theorem PG.imp {e:Expr} {t t':TG} (h:PG X e t) (i:∀ v σ H Q,t' v σ H Q->t v σ H Q):PG X e t':=fun pins s σ H v u Q I r q=>h pins s σ H v u Q I r (i _ _ _ _ q)
def QL (n:Nat) (t:TGs):TG:=fun v σ H Q=>∃ a xs,v = .ref a/\H a = some (.tup xs)/\xs.length = n/\t xs σ H Q
def Ru (n:Nat) (t:TGs):TG:=fun v σ H Q=>∃ a xs,v = .ref a/\H a = some (.lst xs)/\xs.length = n/\t xs σ H Q
theorem fM {es:List Expr} {k:Nat} {t:TGs} {n:Nat} {pos:Pos} (hc:X.calm = true) (h:PGs X es t) (hn:(assignEach es X.env).length = n:=by rfl) (hst:(assignEach es X.env).findIdx? (·.1) = none:=by rfl):PG X (.Tuple es k pos) (QL n t) :=
 (abY hc h hn hst).imp fun v σ H Q ⟨a,xs,e1,e2,e3⟩=>⟨a,xs,e1,.of e2,e3⟩
theorem aau {es:List Expr} {k:Nat} {t:TGs} {n:Nat} {pos:Pos} (hc:X.calm = true) (h:PGs X es t) (hn:(assignEach es X.env).length = n:=by rfl) (hst:(assignEach es X.env).findIdx? (·.1) = none:=by rfl):PG X (.Tuple es k pos) (Ru n t) :=
 (YW hc h hn hst).imp fun v σ H Q ⟨a,xs,e1,e2,e3⟩=>⟨a,xs,e1,.of e2,e3⟩
def Rf:List V->Hp->VK->Prop:=fun xs H Q=>∃ l ns,xs = [.ref l]/\H l = some (.lst (ns.map V.int))/\ns.length < 64/\∀ (ms:List Int) p,H p = none->ms.Perm ns->ms.Pairwise (· <= ·)->Q (.ref p) (upd H p (.lst (ms.map V.int)))
theorem RX:fX X (.builtin "sorted") Rf:=KN.imp fun xs H Q ⟨l,ns,a,b,c⟩=>⟨l,ns,a,.of b,c⟩
theorem HN {H:Hp} : tyS H .non = some "NoneType" := rfl
theorem N8 {H:Hp} {b:Bool} : tyS H (.bl b) = some "bool" := rfl
theorem yw {H:Hp} {i:Int} : tyS H (.int i) = some "int" := rfl
theorem G8 {H:Hp} {x:Str} : tyS H (.str x) = some "str" := rfl
theorem HB {H:Hp} {p:Addr} {xs:List V} (h:H p = some (.lst xs)):tyS H (.ref p) = some "list" := by
 show (match H p with
   | some (.lst _)=>some "list"
   | some (.tup _)=>some "tuple"
   | some (.dK _)=>some "dict"
   | _=>none) = _
 rw [h]
def Ow:V->Option Bool
 | .bl b=>some b
 | .int i=>some (i != 0)
 | .non=>some false
 | _=>none
theorem ZX {K:Frag} {x:V} {H:Hp} {k:Bool} (h:Ow x = some k):aey K x H k:=by
 cases x <;> cases h <;> rfl
def R9 (ta:TE):TT:=fun σ H Q=>ta σ H fun x H'=>∃ k,Ow x = some k/\Q k H'
theorem cQ {a:Expr} {ta:TE} (ha:PE X a ta) (he:∀ whole,isTrue a X.env whole = (do let v <- whole; standAt a.pos; holding [v] (truthy v))):PT X a (R9 ta):=by
 intro pins s σ H Q I h
 exact isTrue_plain (thn (ha pins s σ H _ I h) fun v s1 ⟨x,H1,I1,r1,k,e,q1⟩=>aa4 pins s1 σ H1 x v Q I1 r1 ⟨k,ZX e,q1⟩) (he _)
end
section
variable {X:Cx} {st:Stmt} {rest:List Stmt} {t u:TS}
end
def OkF (P:Program) (w:World) (K:Frag) (mg:Str->Option Value) (base:Heap) (k:Nat) (x:Str) (ps:List Str) (sp:Sp):Prop :=
 ∃ f fd,cu P w K mg base CX0 k f fd ps sp/\Binds K fd ps []/\mg x = some (.ref f)/\PySem.W.keepIn K (.ref f) = true
def dW (K:Frag) (mg:Str->Option Value) (x:Str) (st:Stmt) (ps:List Str):Prop :=
 ∃ f fd,Fun K x x st f fd/\(∀ us:List Value,us.length = ps.length->bindArgs fd ⟨us,[]⟩ = pure (ps.zip us))/\mg x = some (.ref f)
theorem dW.ok {P:Program} {w:World} {K:Frag} {mg:Str->Option Value} {base:Heap} {k:Nat} {x:Str} {st:Stmt} {ps:List Str} {sp:Sp} (h:dW K mg x st ps)
  (hf:∀ f fd,Fun K x x st f fd->cu P w K mg base CX0 k f fd ps sp):OkF P w K mg base k x ps sp:=by
 obtain ⟨f,fd,a,b,c⟩:=h
 exact ⟨f,fd,hf f fd a,.all b,c,a.kp⟩
theorem Z0 {K:Frag} {h:Heap} {mg:Str->Option Value} {x:Str} {st:Stmt} {ps:List Str} {f:Addr} {oc:Value} {od an:Option Addr} {osl:Array (Option Value)} {kV doc pm cdv ct:Value} (X:K.In h) (G:h.Ns mainGlobals mg)
  (a:PySem.W.nsIn K mainGlobals x = some (some (.ref f))) (l:K.lookup f = some ⟨oc,od,.func (PySem.W.fnOf x x (jt st) (gj st) (bK st) .none kV doc pm an cdv ct),osl⟩)
  (c:PySem.W.codeIn K cdv x = true) (k:PySem.W.keepIn K (.ref f) = true)
  (hb:∀ (kV doc pm:Value) (an:Option Addr) (cdv ct:Value) (us:List Value),us.length = ps.length->bindArgs (PySem.W.fnOf x x (jt st) (gj st) (bK st) .none kV doc pm an cdv ct) ⟨us,[]⟩ = pure (ps.zip us)):dW K mg x st ps :=
 ⟨f,_,XM l c k,hb kV doc pm an cdv ct,PySem.W.mg_of X G a⟩
def QZ (K:Frag):Sp:=fun vs H Q _=>∃ (a:Addr) (ns:List Int),vs = [.ref a]/\SqL K H a (ns.map V.int)/\ns.length <= 63/\Only H/\∀ H',Q (.bl true) H'
theorem aeF {l:PySem.W.OpenLaw} {k:Nat} {x:Str} {q:Program} {loose:List Str} {XP:(Str->Option Value)->Heap->Prop} {YP:World->Heap->Prop} {d:DefRec} {K:Params->Frag} (hn:l.most = some 63) (hdf:d.params.defaults = [])
  (hr:gJ k callerA) (hY:∀ (w:World) (h:Heap),YP w h->(K w.params).In h)
  (F:∀ (w:World) (mg:Str->Option Value) (fa:Addr) (h:Heap),(K w.params).In h->h.Ns mainGlobals mg->mg d.name = some (.ref fa) ->
   ∃ st,dW (K w.params) mg d.name st [x]/\∀ (base:Heap) (f:Addr) (fd:FuncData),Fun (K w.params) d.name d.name st f fd->cu l.prog w (K w.params) mg base CX0 k f fd [x] (QZ (K w.params))) :
  PySem.W.WalkO q loose XP YP l.row.toRowW d [] (fun f vs=>PySem.call f vs):=by
 refine L2.Rr (n:=63) (k:=k) (x:=x) (CX:=fun _=>CX0) (sp:=fun w=>QZ (K w.params)) hn (by decide) hdf hr hY (fun w mg fa h KX G hmg=>?_) (fun _ _ a ns hl hO hS=>⟨a,ns,rfl,hS,hl,hO,fun _=>rfl⟩) fun _ _ _ _ _ z=>z
 obtain ⟨st,⟨f,fd,hf,hb,hm⟩,ok⟩:=F w mg fa h KX G hmg
 rw [hm] at hmg
 have e:f = fa:=by injection hmg with z; injection z
 subst e
 exact ⟨fd,fun s u=>.of_eq (hb [u] rfl),fun base _ _=>ok base f fd hf⟩
section
variable {X:Cx} {p pos:Pos} {e:Expr} {es:List Expr} {t:TA} {x:Str} {k:Nat} {ps:List Str} {sp:Sp}
def HX (sp:Sp) (t:TA):TE:=fun σ H Q=>t σ H fun vs H1=>sp vs H1 Q E0
theorem bM (G:OkF X.prog X.w X.K X.mg X.base k x ps sp) (hr:gJ k X.A) (hg:Gl X x) (ha:PA X (e :: es) t) (hdb:(x == ("__debug__" : Str)) = false:=by decide)
  (he:starEach (e :: es) X.env = (false,eval e X.env) :: starEach es X.env:=by rfl) (hpl:(backTo pos (starEach es X.env)).any (·.1) = false:=by rfl):PE X (.Call (.Name x p) (e :: es) [] pos) (HX sp t):=by
 obtain ⟨f,fd,F,b,hm,kp⟩:=G
 intro pins s σ H Q I h
 refine Yw F hr hg hm kp b .nil KD ha hdb he hpl pins s σ H Q I ?_
 show t σ H fun vs H1=>sp (vs ++ []) H1 Q E0
 simp only [List.append_nil]
 exact h
end
theorem Jj (a:Int):(if a < 0 then -a else a) = ((a.natAbs:Nat):Int):=by split <;> omega
theorem VB {ms:List Int} {x y:Int} (h:ms.Perm [x,y]):ms = [x,y]\/ms = [y,x]:=by
 match ms,h.length_eq with
 | [l,k],_ =>
  have h1:l ∈ [x,y]:=h.mem_iff.mp (by simp)
  simp only [List.mem_cons,List.not_mem_nil,or_false] at h1
  rcases h1 with rfl | rfl
  .have h2:=(List.perm_cons l).mp h
   have h3:=h2.mem_iff.mp (aO)
   simp only [List.mem_cons,List.not_mem_nil,or_false] at h3
   exact .inl (by rw [h3])
  .have h2:=(List.perm_cons l).mp (h.trans (List.Perm.swap ..))
   have h3:=h2.mem_iff.mp (aO)
   simp only [List.mem_cons,List.not_mem_nil,or_false] at h3
   exact .inr (by rw [h3])
theorem yL (a b:Nat):Int.fmod (a:Int) (b:Int) = ((a % b:Nat):Int):=by
 rw [aX _ (Int.natCast_nonneg b)]; rfl
theorem qG (a:Int) {b:Int} (h:0 < b):Int.fdiv a b = a / b:=Int.fdiv_eq_ediv_of_nonneg a (Int.le_of_lt h)
theorem Bd.div {a b:Int} (h:Bd a) (hb:0 < b):Bd (a / b):=by
 unfold Bd at *
 refine Nat.lt_of_le_of_lt ?_ h
 have e:=Int.mul_ediv_add_emod a b
 have r0:=Int.emod_nonneg a (show b ≠ 0 by omega)
 have r1:=Int.emod_lt_of_pos a hb
 generalize a / b = q at *
 generalize a % b = r at *
 rcases (by omega:q = 0\/1 <= q\/q <= -1) with z | z | z
 .subst z; simp
 .have:=Int.mul_le_mul_of_nonneg_right (show 1 <= b by omega) (show 0 <= q by omega)
  omega
 .have h1:b * (q + 1) <= 1 * (q + 1):=Int.mul_le_mul_of_nonpos_right (show 1 <= b by omega) (show q + 1 <= 0 by omega)
  rw [Int.mul_add] at h1
  omega
end L2
namespace L2
open PySem PySem.Spec PyProof.Rows
def TrD (h base:Heap) (e:Addr) (cls:Value) (d:Option Addr) (fl:Value):Prop :=
 ∃ oe vs T oT ts,h.get? e = some oe/\(oe.cls = cls/\oe.dict = d)/\oe.data = .fields vs/\vs[1]? = some (.ref T)/\base.get? T = none/\T ≠ e/\h.get? T = some oT/\oT.data = .fields ts/\ts[3]? = some fl
def qR (base:Heap) (l:List Env) (e:Addr) (cls:Value) (d:Option Addr) (fl:Value) (h:Heap):Prop :=
 base.StaysIn h/\base.get? e = none/\h.FunFrames base l/\TrD h base e cls d fl
theorem qR.first {base h:Heap} {l:List Env} {e:Addr} {cls fl:Value} {d:Option Addr} (x:qR base l e cls d fl h):∃ oe vs,h.get? e = some oe/\oe.cls = cls/\oe.dict = d/\oe.data = .fields vs :=
 let ⟨_,_,_,oe,vs,_,_,_,he,hc,hd,_⟩:=x; ⟨oe,vs,he,hc.1,hc.2,hd⟩
section
variable {M:Model} {A:Around} {E:Value->Shared->Prop} {s:Shared} {base:Heap} {env:Env} {outer l:List Env} {L e:Addr} {cls:Value} {d:Option Addr} {Q:Unit->Shared->Prop}
theorem CW (o:Obj) (f:Array Value->Array Value):(Obj.mapFields f o).dict = o.dict:=by
 unfold Obj.mapFields
 split <;> rfl
theorem Xn {oe:Obj} {vs:Array Value} {head:Value} {hadNext:Bool} (hfr:A.frames = some (env :: outer)) (hl:s.heap.FunFrames base (env :: outer)) (hf:env.frame = some L) (he:s.heap.get? e = some oe)
  (hkb:base.StaysIn s.heap) (hen:base.get? e = none) (hd:oe.data = .fields vs) (hsz:1 < vs.size) (h:∀ h',qR base (env :: outer) e oe.cls oe.dict (rawInt L) h'->s.heap.UpToSlots h'->Q () { s with heap:=h' }) :
  wpAny M A (do let a <- frameOf env; let pl <- entryPlaceOf L hadNext; let b <- EntryCells.newEntry head a .none (rawInt L) .none pl; setField (.ref e) 1 b) Q E s:=by
 have nofr:e ∉ (env :: outer).filterMap (·.frame):=fun z=>by
  obtain ⟨_,o,ho,hnf⟩:=hl.mem z
  rw [he] at ho; cases ho; exact hnf vs hd
 refine wpAny_bind (wpAny_frameOf_fun hfr hl hf fun g hg=>wpAny_bind (wpAny_entryPlaceOf fun pl hpl=>?_))
 unfold EntryCells.newEntry newFields
 refine wpAny_bind (wpAny_newObj_type ?_ (hpl.sizeOk5 _ _ _ _ _))
 have eg:g.get? e = some oe:=(hg.2.1 e nofr).trans he
 have kg:base.StaysIn g:=fun b o q=>(hg.2.1 b fun z=>by rw [(hl.mem z).1] at q; cases q).trans (hkb b o q)
 generalize ho':({ cls:=.type "traceback",dict:=none,data:=.fields ([head,.ref L,.none,rawInt L,.none] ++ (if pl.isEmpty then List.replicate 6 Value.none else pl)).toArray } : Obj) = ot
 have nTe:g.objs.size ≠ e:=Nat.ne_of_gt (aJ eg)
 have e2:(g.push ot).get? e = some oe:=aG _ eg
 refine wpAny_setField e2 hd hsz (h _ ?_ ?_)
 all_goals
  have d3:=Obj.data_mapFields hd (·.setIfInBounds 1 (Value.ref g.objs.size))
  have e3:=Heap.get?_update_self (Obj.mapFields (·.setIfInBounds 1 (Value.ref g.objs.size))) e2 (Obj.isFreed_of_fields d3)
  have keep:∀ b o,b ≠ e->g.get? b = some o->((g.push ot).update e (Obj.mapFields (·.setIfInBounds 1 (Value.ref g.objs.size)))).get? b = some o:=fun b o nb q=>by
   rw [Heap.get?_update_other _ _ (Ne.symm nb)]; exact aG _ q
  have nr:∀ b o,s.heap.get? b = some o->(∀ ws,o.data ≠ .fields ws)->b ≠ e:=fun b o q nf z=>by
   rw [z,he] at q; cases q; exact nf vs hd
 .refine ⟨fun b o q=>keep b o (fun z=>by rw [z,hen] at q; cases q) (kg b o q),hen,hl.of_keeps fun b o q nf=>?_,?_⟩
  .obtain ⟨sl,z⟩:=hg.2.2 b o q
   exact ⟨_,keep b _ (nr b o q nf) z,rfl⟩
  .refine ⟨_,_,g.objs.size,ot,_,e3,⟨Obj.cls_mapFields _ _,CW _ _⟩,d3,by simp [hsz],kg.fresh,nTe,?_,by rw [<- ho'],?_⟩
   .rw [Heap.get?_update_other _ _ (Ne.symm nTe)]; exact aY g (by rw [<- ho']; rfl)
   .first | (simp; done) | (rcases hpl with rfl | ⟨_,_,_,_,_,_,_,rfl⟩ <;> simp)
 .intro b o q nf
  obtain ⟨sl,z⟩:=hg.2.2 b o q
  exact ⟨sl,keep b _ (nr b o q nf) z⟩
theorem Nz {oe:Obj} {vs:Array Value} (hfr:A.frames = some (env :: outer)) (hl:s.heap.FunFrames base (env :: outer)) (hf:env.frame = some L) (he:s.heap.get? e = some oe)
  (hkb:base.StaysIn s.heap) (hen:base.get? e = none) (hd:oe.data = .fields vs) (h1:vs[1]? = some .none) (h:∀ h',qR base (env :: outer) e oe.cls oe.dict (rawInt L) h'->s.heap.UpToSlots h'->Q () { s with heap:=h' }) :
  wpAny M A (noteFrame (.ref e) env) Q E s:=by
 unfold noteFrame
 simp only [hf]
 refine wpAny_bind (wpAny_field he hd h1 ?_)
 rw [if_neg (by decide)]
 exact Xn hfr hl hf he hkb hen hd (Array.getElem?_eq_some_iff.mp h1).1 h
theorem FZ (hfr:A.frames = some (env :: outer)) (hf:env.frame = some L) (x:qR base (env :: outer) e cls d .none s.heap)
  (h:∀ h',qR base (env :: outer) e cls d (rawInt L) h'->s.heap.UpToSlots h'->Q () { s with heap:=h' }):wpAny M A (noteFrame (.ref e) env) Q E s:=by
 obtain ⟨hkb,hen,hl,oe,vs,T,oT,ts,he,⟨hc,hdd⟩,hd,h1,nT,nTe,hT,hdT,h3⟩:=x
 subst hc hdd
 unfold noteFrame
 simp only [hf]
 refine wpAny_bind (wpAny_field he hd h1 ?_)
 rw [if_pos (show (Value.ref T != Value.none) = true from by simp)]
 refine wpAny_bind (wpAny_field hT hdT h3 ?_)
 rw [if_neg (show ¬ ((Value.none == rawInt L) = true) from by simp [rawInt])]
 refine wpAny_bind (wpAny_setField hT hdT (Array.getElem?_eq_some_iff.mp h3).1 ?_)
 have other:∀ b,b ≠ T->(s.heap.update T (Obj.mapFields (·.setIfInBounds 3 Value.none))).get? b = s.heap.get? b:=fun b hb=>Heap.get?_update_other _ _ (Ne.symm hb)
 have nr:∀ b o,s.heap.get? b = some o->(∀ ws,o.data ≠ .fields ws)->b ≠ T:=fun b o q nf z=>by
  rw [z,hT] at q; cases q; exact nf ts hdT
 refine Xn (s:={ s with heap:=_ }) hfr (hl.of_keeps fun b o q nf=>⟨o,(other b (nr b o q nf)).trans q,rfl⟩) hf ((other e (Ne.symm nTe)).trans he)
  (fun b o q=>(other b fun z=>by rw [z,nT] at q; cases q).trans (hkb b o q)) hen hd (Array.getElem?_eq_some_iff.mp h1).1 fun h' y up=>h h' y fun b o q nf=>up b o ((other b (nr b o q nf)).trans q) nf
theorem Qy {fl:Value} (x:qR base l e cls d fl s.heap) (h:∀ h',qR base l e cls d .none h'->s.heap.UpToSlots h'->Q () { s with heap:=h' }):wpAny M A (setFlight (.ref e) none) Q E s:=by
 obtain ⟨hkb,hen,hl,oe,vs,T,oT,ts,he,hc,hd,h1,nT,nTe,hT,hdT,h3⟩:=x
 have z3:3 < ts.size:=(Array.getElem?_eq_some_iff.mp h3).1
 have other:∀ b,b ≠ T->(s.heap.update T (Obj.mapFields (·.setIfInBounds 3 ((none:Option Addr).elim Value.none fun f=>rawInt f)))).get? b = s.heap.get? b:=fun b hb=>Heap.get?_update_other _ _ (Ne.symm hb)
 have nr:∀ b o,s.heap.get? b = some o->(∀ ws,o.data ≠ .fields ws)->b ≠ T:=fun b o q nf z=>by
  rw [z,hT] at q; cases q; exact nf ts hdT
 unfold setFlight
 refine wpAny_bind (wpAny_field he hd h1 ?_)
 rw [if_pos (show (Value.ref T != Value.none) = true from by simp)]
 refine wpAny_setField hT hdT z3 (h _ ⟨fun b o q=>(other b fun z=>by rw [z,nT] at q; cases q).trans (hkb b o q),hen,hl.of_keeps fun b o q nf=>⟨o,(other b (nr b o q nf)).trans q,rfl⟩,?_⟩ fun b o q nf=>⟨o.slots,(other b (nr b o q nf)).trans q⟩)
 exact ⟨oe,vs,T,_,_,(other e (Ne.symm nTe)).trans he,hc,hd,h1,nT,nTe,Heap.get?_update_self _ hT (Obj.isFreed_of_fields (Obj.data_mapFields hdT _)),Obj.data_mapFields hdT _,by simp [z3]⟩
theorem qR.pop {fl:Value} {h:Heap} (x:qR base (env :: outer) e cls d fl h):qR base outer e cls d fl h:=⟨x.1,x.2.1,x.2.2.1.2.2,x.2.2.2⟩
theorem Vy (hfr:A.frames = some (env :: outer)) (hf:env.frame = some L) (x:qR base (env :: outer) e cls d .none s.heap)
  (h:∀ h',qR base outer e cls d .none h'->s.heap.UpToSlots h'->Q () { s with heap:=h' }):wpAny M A (leaving env (.ref e)) Q E s:=by
 unfold leaving
 exact wpAny_bind (FZ hfr hf x fun h1 y up=>Qy y fun h2 z up2=>h h2 z.pop (up.trans up2))
theorem Gu {h0:Heap} {oe:Obj} {vs:Array Value} (hfr:A.frames = some (env :: outer)) (hf:env.frame = some L) (hkb:base.StaysIn h0) (hl:h0.FunFrames base (env :: outer)) (keeps:∀ b o,h0.get? b = some o->s.heap.get? b = some o)
  (new:h0.get? e = none) (he:s.heap.get? e = some oe) (hd:oe.data = .fields vs) (h1:vs[1]? = some .none)
  (h:∀ h',qR base outer e oe.cls oe.dict .none h'->s.heap.UpToSlots h'->Q () { s with heap:=h' }):wpAny M A (leaving env (.ref e)) Q E s:=by
 have hen:base.get? e = none:=by
  cases q:base.get? e with
  | none=>rfl
  | some o=>have:=hkb e o q; rw [new] at this; cases this
 unfold leaving
 exact wpAny_bind (Nz hfr (hl.of_keeps fun b o q _=>⟨o,keeps b o q,rfl⟩) hf he (fun b o q=>keeps b o (hkb b o q)) hen hd h1 fun h1 y up=>Qy y fun h2 z up2=>h h2 z.pop (up.trans up2))
end
theorem dz.there {P:Program} {w:World} {H:Hp} {h:Heap} {a:Addr} {o:HO} (x:dz P w H h a o):∃ ob,h.get? a = some ob:=by
 cases o with
 | lst xs=>obtain ⟨_,_,_,_,e⟩:=x; exact ⟨_,e⟩
 | tup xs=>obtain ⟨_,_,_,o,e,_⟩:=x; exact ⟨_,e⟩
 | dK kvs=>obtain ⟨_,_,_,_,o,_,_,e,_⟩:=x; exact ⟨_,e⟩
 | set S n=>obtain ⟨o,_,_,_,e,_⟩:=x; exact ⟨_,e⟩
 | ins C dx fs=>obtain ⟨_,_,_,e,_⟩:=x; exact ⟨_,e⟩
 | own y=>exact x
 | xd fs=>obtain ⟨_,⟨_,_,_,e,_⟩,_⟩:=x; exact ⟨_,e⟩
 | rng lo hi=>obtain ⟨_,_,_,e⟩:=x; exact ⟨_,e⟩
 | frz ob u=>obtain ⟨e,_⟩:=x; exact ⟨_,e⟩
 | tbl ps=>exact ⟨_,(show h.get? a = some _ from x)⟩
 | met f y=>exact ⟨_,(show h.get? a = some _ from x)⟩
 | ext φ=>obtain ⟨_,e,_⟩:=x; exact e
structure Fly (P:Program) (w:World) (l:List Env) (H:Hp) (s:Shared) (a:Addr) (C:Value) (H':Hp) (s':Shared) (B:Heap) (d:Option Addr):Prop where
 os:s'.os = s.os
 bare:AllBare s'.gens
 new:s.heap.get? a = none
 un:Un (frs l) [] H H' s.heap s'.heap
 hok:HOk P w H' s'.heap
 frf:∀ b ∈ frs l,H' b = none
 fl:qR B l a C d .none s'.heap
 cov:∀ b o,s'.heap.get? b = some o->b ∉ frs l->((∃ u,s.heap.get? b = some u)\/∃ u,H' b = some u)->B.get? b = some o
section
variable {P:Program} {w:World} {l:List Env} {H H':Hp} {s s':Shared} {a:Addr} {C:Value} {B:Heap} {d:Option Addr} {h':Heap}
theorem Fly.trk (F:Fly P w l H s a C H' s' B d) {b:Addr} {u:HO} {o:Obj} (e:H' b = some u) (q:s'.heap.get? b = some o):B.get? b = some o :=
 F.cov b o q (fun z=>by rw [F.frf b z] at e; cases e) (.inr ⟨u,e⟩)
theorem Fly.hok' (F:Fly P w l H s a C H' s' B d) (k:∀ b o,B.get? b = some o->h'.get? b = some o):HOk P w H' h':=fun b u e =>
 (F.hok b u e).stay (fun c v hc q=>k c v (by
  rcases hc with z | z
  .subst z; exact F.trk e q
  .exact F.trk z q)) (fun _ q=>q) fun _ _ q=>q
theorem Fly.un' (F:Fly P w l H s a C H' s' B d) (k:∀ b o,B.get? b = some o->h'.get? b = some o) (up:s'.heap.UpToSlots h'):Un (frs l) [] H H' s.heap h':=by
 have nf:∀ b ∈ frs l,∀ o,s'.heap.get? b = some o->∀ vs,o.data ≠ .fields vs:=fun b hb o e=>by
  obtain ⟨_,o',e',d⟩:=F.fl.2.2.1.mem hb
  rw [e] at e'
  cases e'
  exact d
 refine ⟨fun b o q n hb hx=>k b o (F.cov b o (F.un.keep b o q n hb hx) hb (.inl ⟨o,q⟩)),fun b o q n hb hx=>?_,F.un.free,fun b o q hx=>?_,F.un.tups,F.un.frzs,F.un.tbls⟩
 .obtain ⟨sl,e⟩:=F.un.slot b o q n hb hx
  obtain ⟨sl',e'⟩:=up b _ e (nf b hb _ e)
  exact ⟨sl',e'⟩
 .obtain ⟨o',e⟩:=F.un.there b o q hx
  by_cases hb:b ∈ frs l
  .obtain ⟨sl',e'⟩:=up b _ e (nf b hb _ e)
   exact ⟨_,e'⟩
  .exact ⟨o',k b o' (F.cov b o' e hb (.inl ⟨o,q⟩))⟩
end
section
variable {X:Cx} {pins:List (Addr × Obj)} {σ:List (Option V)} {H H':Hp} {s s':Shared} {a:Addr} {C:Value} {B:Heap} {d:Option Addr} {h':Heap}
theorem Inv.flown (I:Inv X pins σ H s) (F:Fly X.prog X.w X.stack H s a C H' s' B d) (k:∀ b o,B.get? b = some o->h'.get? b = some o) (up:s'.heap.UpToSlots h'):Inv X pins σ H' { s' with heap:=h' } :=
 I.call' (s':={ s' with heap:=h' }) (ch:=[]) F.os (F.un' k up) (F.hok' k) F.bare fun _ z=>nomatch z
theorem Inv.old (I:Inv X pins σ H s) (hx:X.ex = []) {b:Addr} {o:Obj} (e:X.s₀.heap.get? b = some o):(∃ u,s.heap.get? b = some u)/\b ≠ X.env.locals:=by
 obtain ⟨u,q⟩:=I.base.there b o e (by rw [hx]; simp)
 exact ⟨⟨u,q⟩,aR (aU (aJ e) I.ok.above)⟩
theorem Inv.nostk (I:Inv X pins σ H s) {b:Addr} (h1:b ≠ X.env.locals) (h2:b ∉ X.fs):b ∉ frs X.stack:=fun z=>by
 rcases List.mem_cons.mp (I.stkSub b z) with e | e
 .exact h1 e
 .exact h2 e
theorem Inv.flyOut (I:Inv X pins σ H s) (hx:X.ex = []) (F:Fly X.prog X.w X.stack H s a C H' s' B d) (fl:qR B X.outer a C d .none h') (up:s'.heap.UpToSlots h') :
  Fly X.prog X.w X.outer X.H₀ X.s₀ a C H' { s' with heap:=h' } B d:=by
 have J:=I.flown F fl.1 up
 refine ⟨J.os,J.bare,?_,by have:=J.base; rw [hx] at this; exact this,J.hok,fun b hb=>?_,fl,fun b o e hb hc=>?_⟩
 .cases q:X.s₀.heap.get? a with
  | none=>rfl
  | some o =>
   obtain ⟨⟨u,z⟩,_⟩:=I.old hx q
   rw [F.new] at z; cases z
 .obtain ⟨_,o,ho,_⟩:=I.ok.funs.mem hb
  exact J.base.free b o ho (I.ok.frf b hb) fun z=>I.ok.exfs b z hb
 .rcases hc with ⟨u,q⟩ | ⟨u,q⟩
  .obtain ⟨⟨v,z⟩,n⟩:=I.old hx q
   obtain ⟨o',e'⟩:=F.un.there b v z (by simp)
   have y:=F.cov b o' e' (I.nostk n hb) (.inl ⟨v,z⟩)
   have e2:=fl.1 b o' y
   rw [show ({ s' with heap:=h' } : Shared).heap.get? b = h'.get? b from rfl,e2] at e
   cases e
   exact y
  .obtain ⟨o',e'⟩:=(F.hok b u q).there
   have y:=F.trk q e'
   have e2:=fl.1 b o' y
   rw [show ({ s' with heap:=h' } : Shared).heap.get? b = h'.get? b from rfl,e2] at e
   cases e
   exact y
theorem Inv.flyNew (I:Inv X pins σ H s) (hx:X.ex = []) {h1:Heap} {t:Nat} (keeps:∀ b o,s.heap.get? b = some o->h1.get? b = some o) (new:s.heap.get? a = none) (hB:B = PySem.W.hideAll s.heap (frs X.stack)) (fl:qR B X.outer a C d .none h') (up:h1.UpToSlots h') :
  Fly X.prog X.w X.outer X.H₀ X.s₀ a C H { s with heap:=h',toks:=t } B d:=by
 have inB:∀ b o,s.heap.get? b = some o->b ∉ frs X.stack->B.get? b = some o:=fun b o e n=>by rw [hB]; exact PySem.W.hideAll_get _ e n
 have trk:∀ b u o,H b = some u->s.heap.get? b = some o->B.get? b = some o:=fun b u o e q=>inB b o q fun z=>by
  rw [I.stkFree b z] at e; cases e
 have up2:s.heap.UpToSlots h':=(Heap.UpToSlots.of_keeps keeps).trans up
 have nf:∀ b ∈ frs X.stack,∀ o,s.heap.get? b = some o->∀ vs,o.data ≠ .fields vs:=fun b hb o e=>by
  obtain ⟨_,o',e',d⟩:=I.stack.mem hb
  rw [e] at e'
  cases e'
  exact d
 have hok:HOk X.prog X.w H h':=fun b u e=>(I.hok b u e).stay (fun c v hc q=>fl.1 c v (by
  rcases hc with z | z
  .subst z; exact trk c u v e q
  .exact trk c _ v z q)) (fun _ q=>q) fun _ _ q=>q
 have un:Un (frs X.stack) [] H H s.heap h':=by
  refine ⟨fun b o q n hb _=>fl.1 b o (inB b o q hb),fun b o q n hb _=>up2 b o q (nf b hb o q),fun _ _ _ n _=>n,fun b o q _=>?_,fun _ _ q=>q,fun _ _ _ q=>q,fun _ ps q=>⟨#[],by rw [q]; simp⟩⟩
  by_cases hb:b ∈ frs X.stack
  .obtain ⟨sl,e⟩:=up2 b o q (nf b hb o q)
   exact ⟨_,e⟩
  .exact ⟨o,fl.1 b o (inB b o q hb)⟩
 have J:Inv X pins σ H { s with heap:=h',toks:=t }:=I.call' (s':={ s with heap:=h',toks:=t }) (ch:=[]) rfl un hok I.bare fun _ z=>nomatch z
 refine ⟨J.os,J.bare,?_,by have:=J.base; rw [hx] at this; exact this,J.hok,fun b hb=>?_,fl,fun b o e hb hc=>?_⟩
 .cases q:X.s₀.heap.get? a with
  | none=>rfl
  | some o =>
   obtain ⟨⟨u,z⟩,_⟩:=I.old hx q
   rw [new] at z; cases z
 .obtain ⟨_,o,ho,_⟩:=I.ok.funs.mem hb
  exact J.base.free b o ho (I.ok.frf b hb) fun z=>I.ok.exfs b z hb
 .rcases hc with ⟨u,q⟩ | ⟨u,q⟩
  .obtain ⟨⟨v,z⟩,n⟩:=I.old hx q
   have y:=inB b v z (I.nostk n hb)
   have e2:=fl.1 b v y
   rw [show ({ s with heap:=h',toks:=t } : Shared).heap.get? b = h'.get? b from rfl,e2] at e
   cases e
   exact y
  .obtain ⟨o',e'⟩:=(I.hok b u q).there
   have y:=trk b u o' q e'
   have e2:=fl.1 b o' y
   rw [show ({ s with heap:=h',toks:=t } : Shared).heap.get? b = h'.get? b from rfl,e2] at e
   cases e
   exact y
end
def CXO (P:Program) (w:World):CXT:=fun l H s E e s'=>∃ a C d H' B,e = .ref a/\Fly P w l H s a C H' s' B d/\E C d H'
def Bu (X:Cx) (Ex:Value->Option Addr->L2.St->Hp->Prop):Prop :=
 ∀ pins σ H s a C H' s' B d,Inv X pins σ H s->Fly X.prog X.w X.stack H s a C H' s' B d->Ex C d σ H'->X.xe (.ref a) s'
def aaS (X:Cx) (Ex:Value->Option Addr->L2.St->Hp->Prop):Prop :=
 ∀ pins σ H s a C vs h1,Inv X pins σ H s->Heap.MadeExcOf s.heap h1 a C vs->Ex C none σ H->X.xe (.ref a) { s with heap:=h1 }
section
variable {P:Program} {w:World} {K:Frag} {mg:Str->Option Value} {base:Heap} {N:List Str} {qual:Str} {scope:Scope} {f:Addr} {cd:Value} {A:Around} {outer:List Env} {s:Shared} {H:Hp} {E:XK}
theorem fP:Bu (Ec (CXO P w) P w K mg base N qual scope f cd A outer s H E) (fun C d _ H'=>E C d H'):=by
 intro pins σ H1 s1 a C H' s' B d I F q
 show wpAny _ _ (leaving _ (.ref a)) _ _ _
 refine Vy (outer:=outer) I.ok.frames rfl F.fl fun h' fl up=>?_
 exact ⟨a,C,d,H',B,rfl,I.flyOut rfl F fl up,q⟩
theorem uJ:aaS (Ec (CXO P w) P w K mg base N qual scope f cd A outer s H E) (fun C d _ H'=>E C d H'):=by
 intro pins σ H1 s1 a C vs h1 I M q
 show wpAny _ _ (leaving _ (.ref a)) _ _ _
 have hin:∀ env ∈ (envOfC qual scope s.heap.objs.size f cd :: outer),∀ b,env.frame = some b->b ∈ frs (envOfC qual scope s.heap.objs.size f cd :: outer):=fun env he b hb=>List.mem_filterMap.mpr ⟨env,he,hb⟩
 obtain ⟨t,he,_,_⟩:=M.there
 refine Gu (base:=PySem.W.hideAll s1.heap (frs (envOfC qual scope s.heap.objs.size f cd :: outer))) (h0:=s1.heap) (outer:=outer) I.ok.frames rfl (fun b o q=>PySem.W.of_hideAll _ q) (PySem.W.funFrames_hide I.stack hin) M.keeps M.new he rfl rfl fun h' fl up=>?_
 exact ⟨a,C,none,H1,_,rfl,I.flyNew rfl M.keeps M.new rfl fl up,q⟩
end
section
variable {P:Program} {w:World} {K:Frag} {mg:Str->Option Value} {base:Heap}
theorem Fun.okX {x qual:Str} {st:Stmt} {f:Addr} {fd:FuncData} {N ps:List Str} {k:Nat} {sp:Sp} (F:Fun K x qual st f fd) (S:bR N ps (bK st)) (len:∀ vs H Q E,sp vs H Q E->vs.length = ps.length)
  (hbody:∀ (cdv:Value) (A:Around) (outer:List Env) (s:Shared) (H:Hp) (vs:List V) (Q:VK) (E:XK),gJ k (A.deeper (envOfC qual (bK st) s.heap.objs.size f cdv))->sp vs H Q E ->
   ∃ t,PSs (Ec (CXO P w) P w K mg base N qual (bK st) f cdv A outer s H E) (gj st) t/\t { nx:=fun _ H'=>Q .non H',rt:=Q } (L2.start N vs) H):cu P w K mg base (CXO P w) (k + 1) f fd ps sp:=by
 obtain ⟨oc,od,kV,doc,pm,an,cdv,ct,osl,rfl,lk,hcd⟩:=F.ex
 exact aaU lk hcd S len fun A outer s H vs Q E hr hsp=>hbody cdv A outer s H vs Q E hr hsp
def OkX (P:Program) (w:World) (K:Frag) (mg:Str->Option Value) (base:Heap) (k:Nat) (x:Str) (ps:List Str) (sp:Sp):Prop :=
 ∃ f fd,cu P w K mg base (CXO P w) k f fd ps sp/\Binds K fd ps []/\mg x = some (.ref f)/\PySem.W.keepIn K (.ref f) = true
theorem dW.okX {k:Nat} {x:Str} {st:Stmt} {ps:List Str} {sp:Sp} (h:dW K mg x st ps)
  (hf:∀ f fd,Fun K x x st f fd->cu P w K mg base (CXO P w) k f fd ps sp):OkX P w K mg base k x ps sp:=by
 obtain ⟨f,fd,a,b,c⟩:=h
 exact ⟨f,fd,hf f fd a,.all b,c,a.kp⟩
end
section
variable {X:Cx} {p pos:Pos} {e:Expr} {es:List Expr} {t:TA} {x:Str} {k:Nat} {ps:List Str} {sp:Sp} {Ex:Value->Option Addr->L2.St->Hp->Prop}
def zA (sp:Sp) (Ex:Value->Option Addr->L2.St->Hp->Prop) (t:TA):TE:=fun σ H Q=>t σ H fun vs H1=>sp vs H1 Q fun C d H'=>Ex C d σ H'
theorem gB (G:OkX X.prog X.w X.K X.mg X.base k x ps sp) (hr:gJ k X.A) (hg:Gl X x) (hx:Bu X Ex) (ha:PA X (e :: es) t) (hdb:(x == ("__debug__" : Str)) = false:=by decide)
  (he:starEach (e :: es) X.env = (false,eval e X.env) :: starEach es X.env:=by rfl) (hpl:(backTo pos (starEach es X.env)).any (·.1) = false:=by rfl):PE X (.Call (.Name x p) (e :: es) [] pos) (zA sp Ex t):=by
 obtain ⟨f,fd,F,hb,hm,kp⟩:=G
 intro pins s σ H Q I h
 refine wpAny_Call_Name_kw (nA I hg hm ?_ hdb)
 refine PySem.W.callWith_K (h₀:=X.base) I.ok.mod.kin kp (thn (ha pos pins s σ H _ I h) fun us s1 ⟨vs,H1,I1,r,q⟩=>⟨I1.kIn,?_⟩) he hpl
 have hl:us.length = ps.length:=by rw [<- r.length]; exact F.len _ _ _ _ q
 have hb':=hb s1 us I1.kIn (by simpa using hl)
 simp only [List.append_nil] at hb'
 refine wpAny_call (codeAny_mono (F.run X.A X.stack s1 H1 ⟨us,[]⟩ us vs Q _ hr I1.env0 hb' r q) fun r s' hq=>?_)
 cases r with
 | error e =>
  obtain ⟨a,C,d,H',B,rfl,Fl,q'⟩:=hq
  exact hx pins σ H1 s1 a C H' s' B d I1 Fl q'
 | ok fl =>
  cases fl with
  | ret u=>exact I1.after hq
  | next=>exact False.elim hq
  | brk=>exact False.elim hq
  | cont=>exact False.elim hq
end
abbrev bmV:List Value:=[.type "ValueError",.type "Exception",.type "BaseException",.type "object"]
def JF (K:Frag) (C:Addr):Prop:=PySem.W.excIn K C bmV "ValueError.__new__" = true
theorem Qz {K:Frag} {h:Heap} {C:Addr} (X:K.In h) (q:JF K C):∃ bm N nm qn bs hdct sn sub ab col dd k0 k1 k2 k3 k5 mN,h.get? C = some (excClassObj nm qn C N bs bm hdct sn sub ab col dd k0 k1 k2 k3 k5 "ValueError.__new__") /\
  h.Ns N mN/\mN "__init__" = none/\OwnTail h bmV bm:=by
 unfold JF PySem.W.excIn at q
 split at q
 .rename_i dd cd sl ho
  split at q
  .rename_i C' bm k0 k1 k2 k3 n k5 hm hs
   simp only [Bool.and_eq_true,beq_iff_eq,Bool.not_eq_true'] at q
   obtain ⟨⟨⟨⟨⟨rfl,rfl⟩,hdel⟩,ht⟩,hok⟩,hni⟩:=q
   obtain ⟨nm,bs,mro,ns,qn,hd,sn,sub,ab,col,del⟩:=cd
   dsimp only at hm hdel hok hni
   subst hm hdel
   have hsl:sl = #[k0,k1,k2,k3,some (.builtin "ValueError.__new__"),k5]:=by
    obtain ⟨l⟩:=sl
    simp only at hs
    rw [hs]
   subst hsl
   exact ⟨bm,ns,nm,qn,bs,hd,sn,sub,ab,col,dd,k0,k1,k2,k3,k5,_,X _ _ ho,.of_isNs (PySem.W.isNs_of_in X hok),PySem.W.nsMap_none_of_in X hok hni,PySem.W.tail_of_in X ht⟩
  .cases q
 .cases q
section
variable {X:Cx} {x:Str} {np cpos pos:Pos} {e₀:Expr} {rest:List Expr} {ta:TA} {C:Addr} {Ex:Value->Option Addr->L2.St->Hp->Prop}
def Hw (C:Addr) (Ex:Value->Option Addr->L2.St->Hp->Prop) (ta:TA):TS:=fun _ σ H=>ta σ H fun vs H1=>vs.length <= sizeLine/\Ex (.ref C) none σ H1
theorem ud (hc:X.calm = true) (hg:Gl X x) (hm:X.mg x = some (.ref C)) (q:JF X.K C) (hx:aaS X Ex) (ha:PA X (e₀ :: rest) ta) (hd:(x == ("__debug__" : Str)) = false:=by decide)
  (he:starEach (e₀ :: rest) X.env = (false,eval e₀ X.env) :: starEach rest X.env:=by rfl) (hplain:(backTo cpos (starEach rest X.env)).any (·.1) = false:=by rfl) :
  PS X (.Raise (some (.Call (.Name x np) (e₀ :: rest) [] cpos)) none pos) (Hw C Ex ta):=by
 intro pins s σ H D I h
 obtain ⟨tl,N,nm,qn,bs,hdct,sn,sub,ab,col,dd,k0,k1,k2,k3,k5,mN,hC,hN,hni,T⟩:=Qz I.ok.mod.kin q
 have FB:=PySem.F.excBase_ValueError
 refine wpAny_Raise_call_subT (C:=C) (nm:=nm) (q:=qn) (N:=N) (bs:=bs) (bm:=tl) (hdct:=hdct) (sn:=sn) (sub:=sub) (ab:=ab) (col:=col) (dd:=dd) (k0:=k0) (k1:=k1) (k2:=k2) (k3:=k3) (k5:=k5)
  FB (mN:=mN) (T.hasType FB.hasBase) (I.ok.hd hc) (by rw [he]; show (false || (backTo cpos (starEach rest X.env)).any (·.1)) = false; rw [hplain]; rfl) hni (nA I hg hm ⟨rfl,?_⟩ hd)
 have h2:=ha cpos pins s σ H _ I h
 rw [he] at h2 ⊢
 exact Calls.evalArgs_plain (wpAny_mono h2 (fun us s₂ ⟨vs,H1,I1,r,hl,ex⟩=>⟨rfl,by rw [<- r.length]; exact hl,I1.bk _ _ hC,hN.keeps I1.bk,T.keeps I1.bk,fun h' e M=>hx pins σ H1 s₂ e _ us h' I1 M ex⟩) fun _ _ y=>y)
end
abbrev Cx.tryc (X:Cx) (pn:List (Addr × Obj)) (E:Value->Shared->Prop):Cx:={ X with pn:=pn,xe:=E }
abbrev Cx.marked (X:Cx) (a:Addr) (E:Value->Shared->Prop):Cx:={ X with A:=X.A.mark (some (.ref a)),calm:=false,xe:=E }
section
variable {X:Cx} {pins pins' pn:List (Addr × Obj)} {σ:L2.St} {H H':Hp} {s:Shared} {E:Value->Shared->Prop} {a:Addr}
theorem Cx.Ok.tryc (ok:X.Ok):(X.tryc pn E).Ok:=⟨ok.mod,ok.kind,ok.glob,ok.blt,ok.above,ok.inj,ok.has,ok.cab,ok.hd,ok.frames,ok.stk,ok.exf,ok.bs,ok.bsz,ok.noex,ok.exfs,ok.funs,ok.frf⟩
theorem Cx.Ok.untry (ok:(X.tryc pn E).Ok):X.Ok:=⟨ok.mod,ok.kind,ok.glob,ok.blt,ok.above,ok.inj,ok.has,ok.cab,ok.hd,ok.frames,ok.stk,ok.exf,ok.bs,ok.bsz,ok.noex,ok.exfs,ok.funs,ok.frf⟩
theorem Inv.tryc (I:Inv X pins σ H s):Inv (X.tryc (X.pn ++ pins) E) [] σ H s:=⟨I.ok.tryc,I.os,I.bare,I.base,I.loc,I.cell,I.free,I.freeC,fun p hp=>I.pin p (by simpa using hp),I.hok,I.len⟩
theorem Inv.untry (I:Inv (X.tryc (X.pn ++ pins) E) pins' σ H s):Inv X pins σ H s:=⟨I.ok.untry,I.os,I.bare,I.base,I.loc,I.cell,I.free,I.freeC,fun p hp=>I.pin p (List.mem_append_left _ hp),I.hok,I.len⟩
theorem Cx.Ok.marked (ok:X.Ok):(X.marked a E).Ok:=⟨ok.mod,ok.kind,ok.glob,ok.blt,ok.above,ok.inj,ok.has,ok.cab,fun z=>(nomatch z),ok.frames,ok.stk,ok.exf,ok.bs,ok.bsz,ok.noex,ok.exfs,ok.funs,ok.frf⟩
theorem Inv.marked (I:Inv X pins σ H s):Inv (X.marked a E) pins σ H s:=⟨I.ok.marked,I.os,I.bare,I.base,I.loc,I.cell,I.free,I.freeC,I.pin,I.hok,I.len⟩
theorem Inv.unmarked (ok:X.Ok) (I:Inv (X.marked a E) pins σ H s):Inv X pins σ H s:=⟨ok,I.os,I.bare,I.base,I.loc,I.cell,I.free,I.freeC,I.pin,I.hok,I.len⟩
theorem Inv.track {o:HO} (I:Inv X pins σ H s) (hn:H a = none) (ha:X.s₀.heap.get? a = none) (hL:a ≠ X.env.locals) (hC:∀ x c,X.env.cells.lookup x = some c->c ≠ a) (hp:∀ p ∈ X.pn ++ pins,p.1 ≠ a)
  (ok:dz X.prog X.w (upd H a o) s.heap a o):Inv X pins σ (upd H a o) s:=by
 have ne:∀ b u,H b = some u->b ≠ a:=fun b u e=>bD e hn
 have ne0:∀ b u,X.s₀.heap.get? b = some u->b ≠ a:=fun b u e z=>by rw [z,ha] at e; cases e
 refine ⟨I.ok,I.os,I.bare,⟨I.base.keep,I.base.slot,fun b ob e n hx=>by rw [bF (ne0 b ob e)]; exact I.base.free b ob e n hx,I.base.there,fun b xs e=>?_,fun b ob u e=>?_,fun b ps e=>?_⟩,I.loc,I.cell,by rw [bF hL.symm]; exact I.free,fun x c e=>by rw [bF (hC x c e)]; exact I.freeC x c e,fun p q=>?_,fun b u e=>?_,I.len⟩
 .have z:=I.base.tups b xs e
  rw [bF (ne b _ z)]; exact z
 .have z:=I.base.frzs b ob u e
  rw [bF (ne b _ z)]; exact z
 .obtain ⟨m,z⟩:=I.base.tbls b ps e
  exact ⟨m,by rw [bF (ne b _ z)]; exact z⟩
 .obtain ⟨h1,h2,h3⟩:=I.pin p q
  exact ⟨h1,by rw [bF (hp p q)]; exact h2,h3⟩
 .by_cases z:b = a
  .subst z; rw [bC] at e; cases e; exact ok
  .rw [bF z] at e
   exact (I.hok b u e).stay (fun _ _ _ q=>q) (fun c q=>by rw [bF (ne c _ q)]; exact q) fun c xs q=>by rw [bF (ne c _ q)]; exact q
theorem Inv.unname {M:Model} {A:Around} {E:Value->Shared->Prop} {i:Nat} {n:Str} {pos:Pos} {Q:Unit->Shared->Prop} (I:Inv X pins σ H s) (hN:X.N.Nodup) (hi:X.N[i]? = some n) (hk:X.env.scope.names.lookup n = some .local)
  (h:∀ s',Inv X pins (σ.set i none) H s'->Q () s'):wpAny M A (do bindName X.env n .none; unbindBehindTheSuite X.env n pos) Q E s:=by
 obtain ⟨m,hn,hl⟩:=id I.loc
 have hcls:(X.env.scope.kind == .class || (X.env.scope.kind == .module && X.env.locals != X.env.globals)) = false:=by rw [I.ok.kind]; rfl
 have cne:=I.cne
 have hiσ:i < σ.length:=by rw [I.len]; exact (ao.mp hi).1
 refine wpAny_nameGoes_keeps hk hn hcls fun h' v hn' hs=>?_
 have hok:HOk X.prog X.w H h':=fun b ob e=>(I.hok b ob e).stay (fun c w' hc q=>(hs.2 c (by
  rintro rfl
  rcases hc with rfl | hc
  .rw [I.free] at e; cases e
  .rw [I.free] at hc; cases hc)).trans q) (fun _ q=>q) fun _ _ q=>q
 refine h _ ⟨I.ok,I.os,I.bare,⟨fun b o e n' hb hx=>?_,fun b o e n' hb hx=>?_,I.base.free,fun b o e hx=>?_,I.base.tups,I.base.frzs,I.base.tbls⟩,⟨_,hn',fun j y v' e1 e2 e3=>?_⟩,fun y c e=>?_,I.free,I.freeC,fun p hp=>?_,hok,by simpa using I.len⟩
 .exact (hs.2 b (aR (aU (aJ e) I.ok.above))).trans (I.base.keep b o e n' hb hx)
 .obtain ⟨sl,e1⟩:=I.base.slot b o e n' hb hx
  exact ⟨sl,(hs.2 b (aR (aU (aJ e) I.ok.above))).trans e1⟩
 .obtain ⟨o',e1⟩:=I.base.there b o e hx
  exact ⟨o',(hs.2 b (aR (aU (aJ e) I.ok.above))).trans e1⟩
 .by_cases hj:j = i
  .subst hj
   rw [List.getElem?_set_self hiσ] at e2
   cases e2
  .rw [List.getElem?_set_ne (Ne.symm hj)] at e2
   obtain ⟨u',r',q⟩:=hl j y v' e1 e2 e3
   refine ⟨u',r',?_⟩
   rcases q with ⟨k,e⟩ | ⟨k,c,e,z⟩
   .refine .inl ⟨k,?_⟩
    have:y ≠ n:=fun e=>hj (BR hN e1 (e ▸ hi))
    simp [this,e]
   .exact .inr ⟨k,c,e,z.sameBut hs (cne y c e)⟩
 .obtain ⟨w',z⟩:=I.cell y c e
  exact ⟨w',z.sameBut hs (cne y c e)⟩
 .obtain ⟨e,n',ne,nf,d⟩:=I.pin p hp
  exact ⟨(hs.2 p.1 ne).trans e,n',ne,nf,d⟩
end
def XO (a C:Addr) (d:Option Addr):HO:=.ext fun h=>∃ o,h.get? a = some o/\o.cls = .ref C/\o.dict = d/\∃ vs,o.data = .fields vs
theorem Mp {M:Model} {A:Around} {E:Value->Shared->Prop} {K:Frag} {h:Heap} {g:Array GenState} {d:Drawn} {t:Nat} {os:OsState} {a C D:Addr} {oe:Obj} {Q:Bool->Shared->Prop} {b:Bool} (X:K.In h)
  (qD:PySem.W.mroIn K D (.type "BaseException") = some true) (tyD:PySem.W.typeIn K (.ref D) = some (.type "type")) (he:h.get? a = some oe) (hc:oe.cls = .ref C) (qS:PySem.W.mroIn K C (.ref D) = some b)
  (hq:Q b ⟨h,g,d,t,os⟩):wpAny M A (excMatches (.ref a) (.ref D)) Q E ⟨h,g,d,t,os⟩:=by
 have l1:PySem.W.Looks M h (isInstance (.ref D) (.type "tuple")) false:=(PySem.W.looks_typeIn X tyD).andThen (PySem.W.Looks.of_pure tc_notTuple)
 have l2:PySem.W.Looks M h (isType (.ref D)) true:=by
  obtain ⟨cdD,hcD,_⟩:=Option.bind_eq_some_iff.mp qD
  unfold PySem.W.clsIn at hcD
  split at hcD
  .rename_i c' d' cd' sl' ho
   intro A' Q' E' s' k q
   unfold isType loadHead
   exact wpAny_bind (wpAny_loadPart (k _ _ (X _ _ ho)) (wpAny_pure q))
  .cases hcD
 have l3:PySem.W.Looks M h (isSubtype (.ref D) (.type "BaseException")) true:=PySem.W.looks_mroIn X qD
 have l4:PySem.W.Looks M h (isSubtype (.ref C) (.ref D)) b:=PySem.W.looks_mroIn X qS
 have l5:PySem.W.Looks M h (typeOf (.ref a)) (.ref C):=by
  intro A' Q' E' s' k q
  rw [<- hc] at q
  unfold typeOf
  exact wpAny_bind (wpAny_loadPart (k _ _ he) (wpAny_pure q))
 unfold excMatches
 refine wpAny_bind (l1.at ?_)
 simp only [Bool.false_eq_true,if_false]
 refine wpAny_bind (wpAny_pure ?_)
 simp only [List.forIn_cons,List.forIn_nil]
 unfold isExcClass
 refine wpAny_bind (wpAny_bind (wpAny_bind (wpAny_bind (l2.at ?_))))
 simp only [if_true]
 refine l3.at ?_
 simp only [Bool.not_true,Bool.false_eq_true,if_false]
 refine wpAny_pure (wpAny_pure (wpAny_bind (l5.at ?_)))
 refine wpAny_bind (wpAny_bind (wpAny_bind (l4.at ?_)))
 cases b with
 | true =>
  simp only [if_true]
  exact wpAny_pure (wpAny_pure (wpAny_pure hq))
 | false =>
  simp only [Bool.false_eq_true,if_false]
  exact wpAny_pure (wpAny_pure (wpAny_pure hq))
section
variable {X:Cx} {pos hpos np:Pos} {body suite:List Stmt} {b₀:Stmt} {n Dn:Str} {D:Addr} {i:Nat} {tb:(Value->Option Addr->L2.St->Hp->Prop)->TS} {th:TS}
def Ends.unset (R:Ends) (i:Nat):Ends:={ nx:=fun σ H=>R.nx (σ.set i none) H,rt:=R.rt,bk:=fun σ H=>R.bk (σ.set i none) H,ct:=fun σ H=>R.ct (σ.set i none) H }
def JC (K:Frag) (D:Addr) (i:Nat) (tb:(Value->Option Addr->L2.St->Hp->Prop)->TS) (th:TS):TS:=fun R σ H =>
 ∃ Ex:Value->Option Addr->L2.St->Hp->Prop,tb Ex R σ H/\∀ C' d σ' H',Ex C' d σ' H'->∃ C,C' = .ref C/\PySem.W.mroIn K C (.ref D) = some true /\
  ∀ a,H' a = none->th (R.unset i) (σ'.set i (some (.ref a))) (upd H' a (XO a C d))
theorem Vm (hN:X.N.Nodup) (hi:X.N[i]? = some n) (hln:X.env.scope.names.lookup n = some .local) (hgD:Gl X Dn) (hmD:X.mg Dn = some (.ref D)) (qD:PySem.W.mroIn X.K D (.type "BaseException") = some true)
  (tyD:PySem.W.typeIn X.K (.ref D) = some (.type "type")) (hst:X.stack = X.env :: X.outer) (hfr:X.env.frame = some X.env.locals) (hex:X.ex = [])
  (hb:∀ pn' E' Ex,Bu (X.tryc pn' E') Ex->PSs (X.tryc pn' E') body (tb Ex)) (hh:∀ a E',PSs (X.marked a E') (b₀ :: suite) th) (hdb:(Dn == ("__debug__" : Str)) = false:=by decide) :
  PS X (.Try body [.ExceptHandler (some (.Name Dn np)) (some n) (b₀ :: suite) hpos] [] [] pos) (JC X.K D i tb th):=by
 intro pins s σ H R I h
 obtain ⟨Ex,h1,h2⟩:=h
 refine wpAny_Try_except ?_
 have ends:∀ {Y:Cx} {pn:List (Addr × Obj)} {f:Flow} {s':Shared},(∀ {σ':L2.St} {H':Hp},Inv Y pn σ' H' s'->Inv X pins σ' H' s')->SP Y pn R f s'->SP X pins R f s':=fun {Y pn f s'} k q=>by
  cases f with
  | next=>obtain ⟨σ',H',J,z⟩:=q; exact ⟨σ',H',k J,z⟩
  | brk=>obtain ⟨σ',H',J,z⟩:=q; exact ⟨σ',H',k J,z⟩
  | cont=>obtain ⟨σ',H',J,z⟩:=q; exact ⟨σ',H',k J,z⟩
  | ret u=>obtain ⟨v,σ',H',J,z⟩:=q; exact ⟨v,σ',H',k J,z⟩
 refine wpAny_mono (hb (X.pn ++ pins) _ Ex ?_ [] s σ H R I.tryc h1) (fun f s1 q=>?_) fun _ _ z=>z
 rotate_left
 .have q':=ends (fun J=>J.untry) q
  cases f with
  | next=>exact wpAny_execs_nil q'
  | brk=>exact q'
  | cont=>exact q'
  | ret u=>exact q'
 intro pins' σ1 H1 s1 a C' H' s' B d J F ex
 have J0:Inv X pins σ1 H1 s1:=J.untry
 obtain ⟨C,rfl,qS,k⟩:=h2 C' d σ1 H' ex
 have F0:Fly X.prog X.w X.stack H1 s1 a (.ref C) H' s' B d:=F
 have fl0:qR B (X.env :: X.outer) a (.ref C) d .none s'.heap:=by rw [<- hst]; exact F0.fl
 show wpAny _ _ (noteFrame (.ref a) X.env) _ _ _
 refine FZ (outer:=X.outer) (L:=X.env.locals) (I.ok.frames.trans (by rw [hst])) hfr fl0 fun h₄ hheld₄ sm₄=>?_
 refine Qy hheld₄ fun h₅ fl₅ sm₅=>?_
 have J5:Inv X pins σ1 H' { s' with heap:=h₅ }:=J0.flown F0 fl₅.1 (sm₄.trans sm₅)
 obtain ⟨oe,vs,he,hcls,_,hd⟩:=fl₅.first
 refine wpAny_handleBy_cons (codeAny_handlers_test ?_) (by intro q; cases q)
 refine nA (X:=X.marked a (fun _ _=>False)) J5.marked hgD hmD ?_ hdb
 refine Mp (K:=X.K) J5.kIn qD tyD he hcls qS ?_
 show codeAny _ _ _ _ _
 refine codeAny_handlers_suite_as ?_
 refine Qy fl₅ fun h₆ fl₆ sm₆=>?_
 have J6:Inv X pins σ1 H' { s' with heap:=h₆ }:=J0.flown F0 fl₆.1 ((sm₄.trans sm₅).trans sm₆)
 obtain ⟨oe6,vs6,he6,hcls6,hda,hd6⟩:=fl₆.first
 have na:H' a = none:=by
  cases q:H' a with
  | none=>rfl
  | some u =>
   obtain ⟨o',e'⟩:=(F0.hok a u q).there
   have y:=F0.trk q e'
   rw [F0.fl.2.1] at y; cases y
 have ns:X.s₀.heap.get? a = none:=by
  cases q:X.s₀.heap.get? a with
  | none=>rfl
  | some o =>
   obtain ⟨⟨u,z⟩,_⟩:=J0.old hex q
   rw [F0.new] at z; cases z
 have nL:a ≠ X.env.locals:=fun z=>by
  obtain ⟨m,⟨o,es,ep,e,dd,_⟩,_⟩:=J6.loc
  rw [<- z] at e
  have e':h₆.get? a = some o:=e
  rw [he6] at e'; cases e'; rw [hd6] at dd; cases dd
 have nC:∀ x c,X.env.cells.lookup x = some c->c ≠ a:=fun x c e z=>by
  obtain ⟨v,o,e',dd⟩:=J6.cell x c e
  rw [z] at e'
  have e2:h₆.get? a = some o:=e'
  rw [he6] at e2; cases e2; rw [hd6] at dd; cases dd
 have nP:∀ p ∈ X.pn ++ pins,p.1 ≠ a:=fun p hp z=>by
  have:=(J0.pin p hp).1
  rw [z,F0.new] at this; cases this
 have okx:dz X.prog X.w (upd H' a (XO a C d)) h₆ a (XO a C d):=⟨⟨oe6,he6,hcls6,hda,vs6,hd6⟩,⟨oe6,he6⟩,fun g1 g2 ⟨o,e1,e2⟩ kk=>⟨o,kk o e1,e2⟩⟩
 have J7:Inv X pins σ1 (upd H' a (XO a C d)) { s' with heap:=h₆ }:=J6.track na ns nL nC nP okx
 refine qI (X:=X.marked a (fun _ _=>False)) J7.marked hN hi (.inl hln) (v:=.ref a) rfl (fun s8 J8=>?_) (.inr hln)
 have J8':Inv X pins (σ1.set i (some (.ref a))) (upd H' a (XO a C d)) s8:=J8.unmarked I.ok
 refine wpAny_mono (hh a _ pins s8 _ _ _ J8'.marked (k a na)) (fun f s9 q=>?_) fun _ _ z=>z
 cases f with
 | next =>
  obtain ⟨σ',H2,J9,z⟩:=q
  exact (J9.unmarked I.ok).unname hN hi hln fun s10 J10=>⟨_,_,J10,z⟩
 | brk =>
  obtain ⟨σ',H2,J9,z⟩:=q
  exact (J9.unmarked I.ok).unname hN hi hln fun s10 J10=>⟨_,_,J10,z⟩
 | cont =>
  obtain ⟨σ',H2,J9,z⟩:=q
  exact (J9.unmarked I.ok).unname hN hi hln fun s10 J10=>⟨_,_,J10,z⟩
 | ret u =>
  obtain ⟨v,σ',H2,J9,rv,z⟩:=q
  exact (J9.unmarked I.ok).unname hN hi hln fun s10 J10=>⟨v,_,_,J10,rv,z⟩
end
end L2
namespace L2
open PySem PySem.Spec PyProof.Rows
structure Tt (K:Frag) (C:Addr):Prop where
 ga:PySem.W.findIn K (.ref C) "__getattribute__" = some (some (.builtin "BaseException.__getattribute__"))
 gn:PySem.W.findIn K (.ref C) "__getattr__" = some none
 cl:PySem.W.findIn K (.ref C) "__class__" = some (some (.builtin "object.__class__"))
 mo:PySem.W.mroIn K C (.type "object") = some true
 mb:PySem.W.mroIn K C (.type "BaseException") = some true
section
variable {prog:Program} {w:World} {A:Around} {E:Value->Shared->Prop} {h:Heap} {g:Array GenState} {d:Drawn} {t:Nat} {os:OsState} {a C:Addr} {o:Obj} {K:Frag}
theorem yS {M:Model} (hx:h.get? a = some o) (hc:o.cls = .ref C):PySem.W.Looks M h (typeOf (.ref a)) (.ref C):=by
 intro A' Q' E' s' k q
 rw [<- hc] at q
 unfold typeOf
 exact wpAny_bind (wpAny_loadPart (k _ _ hx) (wpAny_pure q))
theorem J1 {M:Model} {nameV:Value} {Q:Unit->Shared->Prop} (X:K.In h) (T:Tt K C) (hx:h.get? a = some o) (hc:o.cls = .ref C) (hq:Q () ⟨h,g,d,t,os⟩) :
  wpAny M A (checkBuiltinCall "BaseException.__getattribute__" ⟨[.ref a,nameV],[]⟩) Q E ⟨h,g,d,t,os⟩:=by
 have hk:builtinKind "BaseException.__getattribute__" = some .slot:=by decide +kernel
 have hsplit:splitId "BaseException.__getattribute__" = some ("BaseException", "__getattribute__"):=by decide +kernel
 have ha:=F.args_bexc_ga (.ref a) nameV
 have LT:=yS (M:=M) hx hc
 have LB:=PySem.W.looks_mroIn (M:=M) X T.mb
 simp only [checkBuiltinCall,hk,hsplit]
 refine wpAny_bind ?_
 unfold isInstance
 repeat (first | with_reducible refine LT.at ?_ | with_reducible refine LB.at ?_ | (with_reducible refine wpAny_loadPart_at hx ?_; rw [hc]) | wp_step)
 exact hq
end
end L2
namespace L2
open PySem PySem.Spec PyProof.Rows
def yX (cells:List (Str × Addr)):List (Str × NameKind)->List (Str × Addr)->List (Str × Addr)
 | [],acc=>acc
 | (n,k) :: r,acc=>yX cells r (if k == .free then (n,(cells.lookup n).getD 0) :: acc else acc)
theorem NZ {scope:Scope} {env:Env} (h:∀ y ∈ scope.names,y.2 = .free->∃ c,env.cells.lookup y.1 = some c):closureFor scope env = pure (yX env.cells scope.names []):=by
 unfold closureFor
 have go:∀ (l:List (Str × NameKind)) (acc:List (Str × Addr)),(∀ y ∈ l,y.2 = .free->∃ c,env.cells.lookup y.1 = some c) ->
   (forIn l acc (fun (x:Str × NameKind) (r:List (Str × Addr))=>if (x.2 == NameKind.free) = true then (do let a <- cellOf env x.1; pure (ForInStep.yield ((x.1,a) :: r))) else pure (ForInStep.yield r)):Sem (List (Str × Addr))) = pure (yX env.cells l acc):=by
  intro l
  induction l with
  | nil=>intro acc _; rfl
  | cons y r ih =>
   intro acc hy
   obtain ⟨n,k⟩:=y
   rw [List.forIn_cons]
   by_cases hk:k = .free
   .subst hk
    obtain ⟨c,hc⟩:=hy (n,.free) aO rfl
    have e1:cellOf env n = pure c:=by unfold cellOf; rw [show env.cells.lookup n = some c from hc]
    simp only [beq_self_eq_true,if_true,e1,pure_bind]
    rw [ih _ fun z hz=>hy z (aH _ hz)]
    show pure _ = pure (yX env.cells r (if (NameKind.free == NameKind.free) = true then (n,(env.cells.lookup n).getD 0) :: acc else acc))
    rw [show env.cells.lookup n = some c from hc]
    rfl
   .have hb:(k == NameKind.free) = false:=by simpa using hk
    simp only [hb,Bool.false_eq_true,if_false,pure_bind]
    rw [ih _ fun z hz=>hy z (aH _ hz)]
    show pure _ = pure (yX env.cells r (if (k == NameKind.free) = true then (n,(env.cells.lookup n).getD 0) :: acc else acc))
    rw [hb]
    rfl
 have e:=go scope.names [] h
 show (forIn scope.names [] (fun (x:Str × NameKind) (r:List (Str × Addr))=>if (x.2 == NameKind.free) = true then (do let a <- cellOf env x.1; pure (ForInStep.yield ((x.1,a) :: r))) else pure (ForInStep.yield r)):Sem (List (Str × Addr))) >>= (fun cs=>pure cs) = _
 rw [e]
 rfl
theorem LC {cells:List (Str × Addr)} : ∀ {names:List (Str × NameKind)} {acc:List (Str × Addr)} {x:Str} {c:Addr},(∀ y ∈ names,y.2 = .free->∃ c,cells.lookup y.1 = some c)->(x,c) ∈ yX cells names acc->(x,c) ∈ acc\/cells.lookup x = some c
 | [],_,_,_,_,h=>.inl h
 | (n,k) :: r,acc,x,c,hf,h=>by
  unfold yX at h
  rcases LC (fun y hy=>hf y (aH _ hy)) h with z | z
  .by_cases hk:k = .free
   .subst hk
    simp only [beq_self_eq_true,if_true] at z
    rcases List.mem_cons.mp z with e | e
    .obtain ⟨c',hc'⟩:=hf (n,.free) aO rfl
     cases e
     rw [show cells.lookup n = some c' from hc']
     exact .inr rfl
    .exact .inl e
   .have hb:(k == NameKind.free) = false:=by simpa using hk
    simp only [hb,Bool.false_eq_true,if_false] at z
    exact .inl z
  .exact .inr z
theorem Lz {cells:List (Str × Addr)} : ∀ {names:List (Str × NameKind)} {acc:List (Str × Addr)} {x:Str},((x,NameKind.free) ∈ names\/∃ c,(x,c) ∈ acc)->∃ c,(x,c) ∈ yX cells names acc
 | [],_,_,h=>by
  rcases h with h | h
  .cases h
  .exact h
 | (n,k) :: r,acc,x,h=>by
  unfold yX
  refine Lz ?_
  rcases h with h | ⟨c,h⟩
  .rcases List.mem_cons.mp h with e | e
   .cases e
    exact .inr ⟨_,by simp only [beq_self_eq_true,if_true]; exact aO⟩
   .exact .inl e
  .refine .inr ⟨c,?_⟩
   split
   .exact aH _ h
   .exact h
theorem oG {α:Type} {x:Str} {c:α} : ∀ {l:List (Str × α)},(x,c) ∈ l->∃ c',l.lookup x = some c'
 | (y,d) :: r,h=>by
  rw [List.lookup_cons]
  cases hb:x == y with
  | true=>exact ⟨d,rfl⟩
  | false =>
   rcases List.mem_cons.mp h with e | e
   .cases e; simp at hb
   .exact oG e
section
variable {X:Cx} {elt iter:Expr} {x:Str} {px pos:Pos} {scope:Scope} {wi:TI} {te:TE}
theorem Inv.nostk' {pins:List (Addr × Obj)} {σ:L2.St} {H:Hp} {s:Shared} (I:Inv X pins σ H s) {b:Addr} (h1:b ≠ X.env.locals) (h2:b ∉ X.fs):b ∉ frs X.stack:=fun z=>by
 rcases List.mem_cons.mp (I.stkSub b z) with e | e
 .exact h1 e
 .exact h2 e
theorem yM {env:Env} : ∀ {names:List (Str × NameKind)} {y:Str},(names.map fun (n,k)=>if (k == NameKind.free && env.scope.kind == .function && env.kindOf n == some .cell) then (n,NameKind.cell) else (n,k)).lookup y = some .cell \/
  (names.map fun (n,k)=>if (k == NameKind.free && env.scope.kind == .function && env.kindOf n == some .cell) then (n,NameKind.cell) else (n,k)).lookup y = some .free->(∀ z ∈ names,z.2 ≠ .cell)->(y,NameKind.free) ∈ names
 | [],y,h,_=>by rcases h with h | h <;> cases h
 | (n,k) :: r,y,h,hc=>by
  have ih:=@yM env r y
  simp only [List.map_cons] at h
  by_cases hcond:(k == NameKind.free && env.scope.kind == .function && env.kindOf n == some .cell) = true
  .rw [if_pos hcond] at h
   simp only [List.lookup_cons] at h
   cases hb:y == n with
   | true =>
    have hk:k = .free:=by
     simp only [Bool.and_eq_true,beq_iff_eq] at hcond
     exact hcond.1.1
    have:y = n:=by simpa using hb
    subst this hk
    exact aO
   | false =>
    rw [hb] at h
    exact aH _ (ih h fun z hz=>hc z (aH _ hz))
  .rw [if_neg hcond] at h
   simp only [List.lookup_cons] at h
   cases hb:y == n with
   | true =>
    rw [hb] at h
    have:y = n:=by simpa using hb
    subst this
    rcases h with h | h
    .exact absurd (Option.some.inj h) (hc (y,k) aO)
    .have:k = .free:=Option.some.inj h
     subst this
     exact aO
   | false =>
    rw [hb] at h
    exact aH _ (ih h fun z hz=>hc z (aH _ hz))
end
end L2
namespace L2
open PySem PySem.Spec PyProof.Rows
section
variable {X:Cx}
def abz (neg:Bool):R2:=fun x y H Q=>∃ b,y = .bl b/\Q (.bl (if neg then !decide (x = .bl b) else decide (x = .bl b))) H
def eqF:List V->List V->Bool
 | [],[]=>true
 | x :: xs,y :: ys=>eqV x y && eqF xs ys
 | _,_=>false
def eqH (H:Hp) (x y:V):Option Bool :=
 match x,y with
 | .ref a,.ref b=>match H a,H b with
  | some (.tup xs),some (.tup ys)=>if xs.all oY && ys.all oY then some (eqF xs ys) else none
  | some (.lst xs),some (.lst ys)=>if xs.all oY && ys.all oY then some (eqF xs ys) else none
  | some (.lst _),some (.tup _)=>some false
  | some (.tup _),some (.lst _)=>some false
  | _,_=>none
 | .ref a,y=>if oY y then (match H a with
  | some (.tup _)=>some false
  | some (.lst _)=>some false
  | _=>none) else none
 | x,.ref b=>if oY x then (match H b with
  | some (.tup _)=>some false
  | some (.lst _)=>some false
  | _=>none) else none
 | x,y=>if RT x y then some (decide (x = y)) else none
def aa7:R2:=fun x y H Q=>∃ k,eqH H x y = some k/\Q (.bl k) H
theorem Inv.tupIs {pins:List (Addr × Obj)} {σ:L2.St} {H:Hp} {s:Shared} {a:Addr} {xs:List V} (I:Inv X pins σ H s) (h:H a = some (.tup xs)):∃ its,Vals xs its/\IsTup s.heap a its.toArray/\s.heap.IsTuple a its.toArray:=by
 obtain ⟨its,rv,ht,_⟩:=I.tuple (SqT.of h)
 exact ⟨its,rv,ht,ht⟩
theorem Inv.lstIs {pins:List (Addr × Obj)} {σ:L2.St} {H:Hp} {s:Shared} {a:Addr} {xs:List V} (I:Inv X pins σ H s) (h:H a = some (.lst xs)):∃ its,Vals xs its/\s.heap.IsList a its.toArray:=by
 obtain ⟨its,rv,ht,_⟩:=I.list (SqL.of h)
 exact ⟨its,rv,ht.isList⟩
theorem wO:Bu X (fun _ _ _ _=>False):=fun _ _ _ _ _ _ _ _ _ _ _ _ z=>z.elim
def IsX (H:Hp) (a C:Addr):Prop:=∃ d,H a = some (XO a C d)
def U6 (C D:Addr) (b:Bool):List V->Hp->VK->Prop:=fun xs H Q=>∃ a,xs = [.ref a,.ref D]/\IsX H a C/\Q (.bl b) H
def XR (C:Addr) (T:String) (b:Bool):List V->Hp->VK->Prop:=fun xs H Q=>∃ a,xs = [.ref a,.ty T]/\IsX H a C/\Q (.bl b) H
end
end L2
namespace L2
open PySem PySem.Spec PyProof.Rows
def N5 (tk tv:TE):TE:=fun σ H Q=>∀ p,H p = none->tk σ (upd H p (.dK [])) fun x H1=>∃ i,x = .int i/\tv σ H1 fun y H2=>H2 p = some (.dK [])/\Q (.ref p) (upd H2 p (.dK [(.inl i,y)]))
open PySem.SeqAt in
section
variable {X:Cx}
structure PEB (X:Cx) (e:Expr) (t:TE):Prop where
 out:PE X e t
structure PAB (X:Cx) (es:List Expr) (t:TA):Prop where
 out:PA X es t
structure PSB (X:Cx) (st:Stmt) (t:TS):Prop where
 out:PS X st t
structure aah (X:Cx) (b:List Stmt) (t:TS):Prop where
 out:PSs X b t
theorem iD {i j pos} : PEB X (.Constant (.int i) j pos) (tC (.int i)):=⟨bH⟩
theorem Al {es:List Expr} {t:TA} {k:Nat} {pos:Pos} (h:PAB X es t):PEB X (.Tuple es k pos) (Vh t):=⟨dI h.out⟩
theorem Qj {es:List Expr} {t:TA} {pos:Pos} (h:PAB X es t):PEB X (.List es pos) (Ks t):=⟨cR h.out⟩
theorem uX:PAB X [] kh:=⟨bG⟩
theorem pP {c:Const} {k:Nat} {p:Pos} {es:List Expr} {te:TE} {t:TA} (ha:PEB X (.Constant c k p) te) (hr:PAB X es t):PAB X (.Constant c k p :: es) (fu te t):=⟨bB ha.out hr.out rfl⟩
theorem Qn {l:List Expr} {k:Nat} {p:Pos} {es:List Expr} {te:TE} {t:TA} (ha:PEB X (.Tuple l k p) te) (hr:PAB X es t):PAB X (.Tuple l k p :: es) (fu te t):=⟨bB ha.out hr.out rfl⟩
theorem Rt {i:Nat} {x:Str} {e:Expr} {te:TE} {pos pos':Pos} (hN:X.N.Nodup) (hi:X.N[i]? = some x) (hx:Loc X.env.scope x) (he:PEB X e te) (hs:swapsWith e (some (.Name x pos')) pos.line X.env = pure false:=by rfl) (hf:X.fn x = true\/X.env.scope.names.lookup x = some .local:=by first | exact .inl rfl | exact .inr rfl | assumption) :
  PSB X (.Assign [.Name x pos'] e pos) (z7 te (dw i)):=⟨bT hN hi hx he.out hs hf⟩
theorem cD {st:Stmt} {rest:List Stmt} {t u:TS} (h1:PSB X st t) (h2:aah X rest u):aah X (st :: rest) (qw t u):=⟨bI h1.out h2.out⟩
end
section
variable {P:Program} {w:World} {K:Frag} {mg:Str->Option Value} {base:Heap}
theorem Fun.okB {x qual:Str} {st:Stmt} {f:Addr} {fd:FuncData} {N ps:List Str} {k:Nat} {sp:Sp} (F:Fun K x qual st f fd) (S:bR N ps (bK st)) (len:∀ vs H Q E,sp vs H Q E->vs.length = ps.length)
  (hbody:∀ (cdv:Value) (A:Around) (outer:List Env) (s:Shared) (H:Hp) (vs:List V) (Q:VK) (E:XK),gJ k (A.deeper (envOfC qual (bK st) s.heap.objs.size f cdv))->sp vs H Q E ->
   ∃ t,aah (Ec CX0 P w K mg base N qual (bK st) f cdv A outer s H E).nox (gj st) t/\t { nx:=fun _ H'=>Q .non H',rt:=Q } (L2.start N vs) H):cu P w K mg base CX0 (k + 1) f fd ps sp :=
 F.ok S len fun cdv A outer s H vs Q E hr hsp=>let ⟨t,h1,h2⟩:=hbody cdv A outer s H vs Q E hr hsp; ⟨t,h1.out,h2⟩
end
end L2
namespace L2
open PySem PySem.Spec PyProof.Rows
mutual
inductive Shows (H:Hp):V->PyData->Prop
 | non:Shows H .non .none
 | bl (b:Bool):Shows H (.bl b) (.bool b)
 | int (i:Int):Shows H (.int i) (.int i)
 | str (x:Str):Shows H (.str x) (.str x)
 | lst {a:Addr} {xs:List V} {ds:List PyData} : H a = some (.lst xs)->eX H xs ds->Shows H (.ref a) (.list ds)
 | tup {a:Addr} {xs:List V} {ds:List PyData} : H a = some (.tup xs)->eX H xs ds->Shows H (.ref a) (.tuple ds)
inductive eX (H:Hp):List V->List PyData->Prop
 | nil:eX H [] []
 | cons {x:V} {xs:List V} {d:PyData} {ds:List PyData} : Shows H x d->eX H xs ds->eX H (x :: xs) (d :: ds)
end
mutual
theorem Shows.same {H H':Hp} (S:Same H H'):∀ {x:V} {d:PyData},Shows H x d->Shows H' x d
 | _,_,.non=>.non
 | _,_,.bl b=>.bl b
 | _,_,.int i=>.int i
 | _,_,.str x=>.str x
 | _,_,.lst e h=>.lst (S _ _ e) (eX.same S h)
 | _,_,.tup e h=>.tup (S _ _ e) (eX.same S h)
theorem eX.same {H H':Hp} (S:Same H H'):∀ {xs:List V} {ds:List PyData},eX H xs ds->eX H' xs ds
 | _,_,.nil=>.nil
 | _,_,.cons h t=>.cons (Shows.same S h) (eX.same S t)
end
theorem eX.ints (H:Hp):∀ ns:List Int,eX H (ns.map V.int) (ns.map PyData.int)
 | []=>.nil
 | n :: ns=>.cons (.int n) (eX.ints H ns)
section
variable {X:Cx} {pins:List (Addr × Obj)} {σ:L2.St} {H:Hp} {s:Shared}
mutual
theorem Inv.reads (I:Inv X pins σ H s):∀ {x:V} {d:PyData} {v:Value},Shows H x d->RelV x v->∃ as,Reads s.heap v d as
 | _,_,_,.non,r=>by cases r; exact ⟨_,.none⟩
 | _,_,_,.bl b,r=>by cases r; exact ⟨_,.bool b⟩
 | _,_,_,.int i,r=>by obtain ⟨t,rfl⟩:=r; exact ⟨_,.int i t⟩
 | _,_,_,.str x,r=>by obtain ⟨t,rfl⟩:=r; exact ⟨_,.str x t⟩
 | _,_,_,.lst e h,r=>by
  cases r
  obtain ⟨its,rv,⟨o,ho,hc,n,hd⟩⟩:=I.lstIs e
  obtain ⟨as,q⟩:=Inv.readsAll I h rv
  exact ⟨_,.list ho hc hd q⟩
 | _,_,_,.tup e h,r=>by
  cases r
  obtain ⟨its,rv,_,⟨o,ho,hc,n,hd⟩⟩:=I.tupIs e
  obtain ⟨as,q⟩:=Inv.readsAll I h rv
  exact ⟨_,.tuple ho hc hd q⟩
theorem Inv.readsAll (I:Inv X pins σ H s):∀ {xs:List V} {ds:List PyData} {vs:List Value},eX H xs ds->Vals xs vs->∃ as,ReadsAll s.heap vs ds as
 | _,_,_,.nil,r=>by cases r; exact ⟨_,.nil⟩
 | _,_,_,.cons h t,r=>by
  cases r with
  | cons r1 r2 =>
   obtain ⟨a,q1⟩:=Inv.reads I h r1
   obtain ⟨b,q2⟩:=Inv.readsAll I t r2
   exact ⟨_,.cons q1 q2⟩
end
def Xv (neg:Bool):R2:=fun x y H Q=>∃ d e,Shows H x d/\Shows H y e/\SeqAt.shaped d = true/\SeqAt.shaped e = true/\Q (.bl (if neg then !PyData.eqv d e else PyData.eqv d e)) H
theorem Px (hu:X.A.units + 64 < cLine):OpR X (compareOp .Eq) (Xv false):=by
 intro pins s σ H x y v u Q I rx ry h
 obtain ⟨d,e,hd,he,sd,se,q⟩:=h
 obtain ⟨as,ra⟩:=I.reads hd rx
 obtain ⟨bs,rb⟩:=I.reads he ry
 exact SeqAt.compareEq_shaped ra rb sd se hu ⟨.bl _,H,I,rfl,q⟩
theorem Xa (hu:X.A.units + 64 < cLine):OpR X (compareOp .NotEq) (Xv true):=by
 intro pins s σ H x y v u Q I rx ry h
 obtain ⟨d,e,hd,he,sd,se,q⟩:=h
 obtain ⟨as,ra⟩:=I.reads hd rx
 obtain ⟨bs,rb⟩:=I.reads he ry
 exact SeqAt.compareNe_shaped ra rb sd se hu ⟨.bl _,H,I,rfl,q⟩
def Rm:List V->Hp->VK->Prop:=fun xs H Q=>∃ (l:Addr) (ns:List Int),xs = [.ref l]/\H l = some (.lst (ns.map V.int))/\Q (.int ns.sum) H
theorem Gr (hc:X.calm = true):fX X (.builtin "sum") Rm:=by
 intro pins s σ H xs us Q I r h
 obtain ⟨l,ns,rfl,hl,q⟩:=h
 obtain ⟨u,rfl,ru⟩:=r.one
 cases ru
 obtain ⟨its,rv,p⟩:=I.lstIs hl
 have hI:=intsAre_of rv
 obtain ⟨xs,e⟩:=hI.allInts.items
 have hn:=hI.numsOf
 rw [show its = its.toArray.toList from rfl,e,nums_intItems] at hn
 rw [e] at p
 refine sum_intListG (I.ok.hd hc) p fun h' tk t' k=>⟨.int ns.sum,H,I.kept k,?_,q⟩
 rw [preSum_eq,aK (by simp),hn]
 exact ⟨_,rfl⟩
def Vq:List V->Hp->VK->Prop:=fun xs H Q=>∃ (l:Addr) (ns:List Int),xs = [.ref l]/\H l = some (.lst (ns.map V.int))/\0 < ns.length/\∀ M,M ∈ ns->(∀ a,a ∈ ns->a <= M)->Q (.int M) H
def UL:List V->Hp->VK->Prop:=fun xs H Q=>∃ (l:Addr) (ns:List Int),xs = [.ref l]/\H l = some (.lst (ns.map V.int))/\0 < ns.length/\∀ M,M ∈ ns->(∀ a,a ∈ ns->M <= a)->Q (.int M) H
def abD (te ts:TE):TE:=fun σ H Q=>te σ H fun x H1=>ts σ H1 fun y H2=>y = .int (-1)/\∃ a xs,x = .ref a/\H2 a = some (.lst xs)/\∀ p,H2 p = none->Q (.ref p) (upd H2 p (.lst xs.reverse))
end
end L2
namespace L2
open PySem PySem.Spec PyProof.Rows
section
variable {K:Frag} {tl:TE} {ta:TA} {g:TG} {tb:TS} {D:Ends} {σ:L2.St} {H:Hp}
theorem TV (h:tl σ H fun x H1=>∃ a xs,x = .ref a/\H1 a = some (.lst xs)/\∃ J:Nat->L2.St->Hp->Prop,J 0 σ H1 /\
   (∀ k x σ' H',xs[k]? = some x->J k σ' H'->H' a = some (.lst xs)->g x σ' H' fun σ2 H2=>tb { D with nx:=fun σ3 H3=>H3 a = some (.lst xs)/\J (k + 1) σ3 H3,ct:=fun σ3 H3=>H3 a = some (.lst xs)/\J (k + 1) σ3 H3,bk:=D.nx } σ2 H2) /\
   ∀ σ' H',J xs.length σ' H'->H' a = some (.lst xs)->D.nx σ' H') (hm:∀ (P Q:V->Hp->Prop),(∀ x H',P x H'->Q x H')->tl σ H P->tl σ H Q):Em (pK K tl) g tb D σ H:=by
 refine hm _ _ ?_ h
 rintro x H1 ⟨a,xs,rfl,hx,J,j0,step,fin⟩
 refine ⟨a,rfl,⟨xs,.of hx⟩,fun k m σ' H'=>k <= xs.length/\m = xs.length - k/\H' a = some (.lst xs)/\J k σ' H',⟨_,bh _,rfl,hx,j0⟩,?_⟩
 rintro k m σ' H' ⟨hk,rfl,hx',j⟩
 by_cases e:k = xs.length
 .subst e
  exact .inl ⟨⟨xs,.of hx',aF _⟩,fin σ' H' j hx'⟩
 .have hlt:k < xs.length:=by omega
  have e1:xs[k]? = some xs[k]:=aj hlt
  refine .inr ⟨⟨xs,_,.of hx',e1⟩,fun σ3 H3=>H3 a = some (.lst xs)/\J (k + 1) σ3 H3,fun σ3 H3 ⟨z1,z2⟩=>⟨xs.length - (k + 1),by omega,by omega,rfl,z1,z2⟩,?_⟩
  rintro x H'' ⟨rfl,y⟩
  exact step k x σ' H'' (y xs (.of hx')) j hx'
theorem RW (h:ta σ H fun vs H1=>∃ n:Nat,vs = [.int n]/\n < 2 ^ 61/\∃ J:Nat->L2.St->Hp->Prop,J 0 σ H1 /\
   (∀ (k:Nat) σ' H',k < n->J k σ' H'->g (.int k) σ' H' fun σ2 H2=>tb { D with nx:=J (k + 1),ct:=J (k + 1),bk:=D.nx } σ2 H2)/\∀ σ' H',J n σ' H'->D.nx σ' H')
  (hm:∀ (P Q:List V->Hp->Prop),(∀ x H',P x H'->Q x H')->ta σ H P->ta σ H Q):Em (z6 ta) g tb D σ H:=by
 refine hm _ _ ?_ h
 rintro x H1 ⟨n,rfl,hn,J,j0,step,fin⟩
 refine ⟨n,rfl,by omega,by omega,?_⟩
 rw [Int.toNat_natCast]
 refine ⟨fun k m σ' H'=>k <= n/\m = n - k/\J k σ' H',⟨_,bh _,rfl,j0⟩,?_⟩
 rintro k m σ' H' ⟨hk,rfl,j⟩
 by_cases e:k = n
 .subst e
  exact .inl ⟨aF _,fin σ' H' j⟩
 .have hlt:k < n:=by omega
  refine .inr ⟨hlt,J (k + 1),fun σ3 H3 z=>⟨n - (k + 1),by omega,by omega,rfl,z⟩,?_⟩
  rintro x H'' ⟨rfl,rfl⟩
  rw [Int.zero_add]
  exact step k σ' H'' hlt j
end
end L2
namespace L2
open PySem PySem.Spec PyProof.Rows
section
variable {X:Cx}
def tM (t:TE):TE:=fun σ H Q=>∃ R:VK,t σ H R/\∀ x H',R x H'->Q x H'
def tMA (t:TA):TA:=fun σ H Q=>∃ R:List V->Hp->Prop,t σ H R/\∀ x H',R x H'->Q x H'
theorem PE.mono {a:Expr} {t:TE} (h:PE X a t):PE X a (tM t):=fun pins s σ H Q I ⟨R,h1,h2⟩ =>
 thn (h pins s σ H R I h1) fun v s' ⟨x,H',I',r,q⟩=>⟨x,H',I',r,h2 x H' q⟩
theorem PA.mono {es:List Expr} {t:TA} (h:PA X es t):PA X es (tMA t):=fun pos pins s σ H Q I ⟨R,h1,h2⟩ =>
 thn (h pos pins s σ H R I h1) fun v s' ⟨x,H',I',r,q⟩=>⟨x,H',I',r,h2 x H' q⟩
theorem PE.imp {a:Expr} {t t':TE} (h:PE X a t) (i:∀ σ H Q,t' σ H Q->t σ H Q):PE X a t':=fun pins s σ H Q I q=>h pins s σ H Q I (i σ H Q q)
theorem aaG {t:TE} {σ:L2.St} {H:Hp} {Q:VK} (h:t σ H Q):tM t σ H Q:=⟨Q,h,fun _ _ q=>q⟩
theorem dG {K:Frag} {tl:TE} {g:TG} {tb:TS} {D:Ends} {σ:L2.St} {H:Hp} (h:tl σ H fun x H1=>∃ a xs,x = .ref a/\H1 a = some (.lst xs)/\∃ J:Nat->L2.St->Hp->Prop,J 0 σ H1 /\
   (∀ k x σ' H',xs[k]? = some x->J k σ' H'->H' a = some (.lst xs)->g x σ' H' fun σ2 H2=>tb { D with nx:=fun σ3 H3=>H3 a = some (.lst xs)/\J (k + 1) σ3 H3,ct:=fun σ3 H3=>H3 a = some (.lst xs)/\J (k + 1) σ3 H3,bk:=D.nx } σ2 H2) /\
   ∀ σ' H',J xs.length σ' H'->H' a = some (.lst xs)->D.nx σ' H'):Em (pK K (tM tl)) g tb D σ H :=
 TV (aaG h) fun _ _ i ⟨R,a,b⟩=>⟨R,a,fun x H' q=>i x H' (b x H' q)⟩
theorem qt {ta:TA} {g:TG} {tb:TS} {D:Ends} {σ:L2.St} {H:Hp} (h:ta σ H fun vs H1=>∃ n:Nat,vs = [.int n]/\n < 2 ^ 61/\∃ J:Nat->L2.St->Hp->Prop,J 0 σ H1 /\
   (∀ (k:Nat) σ' H',k < n->J k σ' H'->g (.int k) σ' H' fun σ2 H2=>tb { D with nx:=J (k + 1),ct:=J (k + 1),bk:=D.nx } σ2 H2)/\∀ σ' H',J n σ' H'->D.nx σ' H'):Em (z6 (tMA ta)) g tb D σ H :=
 RW (ta:=tMA ta) ⟨_,h,fun _ _ q=>q⟩ fun _ _ i ⟨R,a,b⟩=>⟨R,a,fun x H' q=>i x H' (b x H' q)⟩
def ZG (to:TE) (t:TA):TE:=fun σ H Q=>to σ H fun x H1=>∃ l xs,x = .ref l/\H1 l = some (.lst xs)/\t σ H1 fun vs H2=>∃ y ys,vs = [y]/\H2 l = some (.lst ys)/\ys.length < sizeLine/\Q .non (upd H2 l (.lst (ys ++ [y])))
theorem sX {o e:Expr} {to:TE} {t:TA} {apos cpos:Pos} (ho:PE X o to) (ha:PA X [e] t) (hb:attributeBase o "append" X.env (eval o X.env) = eval o X.env:=by rfl)
  (hf:((backTo cpos (starEach [e] X.env)).all (fun x=>!x.1) && (backToKw cpos (keywordEach [] X.env)).all (fun x=>x.1.isSome) && decide ([e].length + ([] : List Keyword).length + (if ([] : List Keyword).isEmpty then 0 else 1) < 30)) = true:=by rfl)
  (hl:(apos.endLine == cpos.line) = true:=by rfl) (hs:starEach [e] X.env = (false,eval e X.env) :: starEach [] X.env:=by rfl) (hp:(backTo cpos (starEach [] X.env)).any (·.1) = false:=by rfl) :
  PE X (.Call (.Attribute o "append" apos) [e] [] cpos) (ZG to t):=by
 refine (aaP PySem.F.plainAttrs_list PySem.F.slot_list_append PySem.F.type_list_append Gw ho.mono ha.mono hb hf hl hs hp).imp fun σ H Q h=>?_
 refine ⟨_,h,?_⟩
 rintro x H1 ⟨l,xs,rfl,hx,h2⟩
 refine ⟨.inl ⟨rfl,_,SqL.of hx⟩,_,h2,?_⟩
 rintro vs H2 ⟨y,ys,rfl,hy,hz,q⟩
 exact ⟨l,ys,y,rfl,rfl,hy,hz,q⟩
def acf (to:TE):TE:=fun σ H Q=>to σ H fun x H1=>∃ l xs,x = .ref l/\H1 l = some (.lst xs)/\Q .non (upd H1 l (.lst []))
def Jc:List V->Hp->VK->Prop:=fun xs H Q=>∃ p ys,xs = [.ref p]/\H p = some (.lst ys)/\∀ l,H l = none->Q (.ref l) (upd H l (.lst ys))
theorem rE:fX X (.type "list") Jc:=Hr.imp fun xs H Q ⟨p,ys,a,b,c⟩=>⟨p,ys,a,.inl (.of b),c⟩
end
mutual
theorem Og:∀ ns:List Int,PyData.canLayAll0 (ns.map PyData.int) = true
 | []=>rfl
 | n :: ns=>by
  rw [List.map_cons]; unfold PyData.canLayAll0
  rw [Og ns]; rfl
end
inductive FL (H:Hp):List V->List (Int × Int)->Prop
 | nil:FL H [] []
 | cons {p:Addr} {f:Int × Int} {xs:List V} {fs:List (Int × Int)} : H p = some (.tup [.int f.1,.int f.2])->FL H xs fs->FL H (.ref p :: xs) (f :: fs)
theorem FL.imp {H H':Hp} (h:∀ p a b,H p = some (.tup [.int a,.int b])->H' p = some (.tup [.int a,.int b])):∀ {xs:List V} {fs:List (Int × Int)},FL H xs fs->FL H' xs fs
 | _,_,.nil=>.nil
 | _,_,.cons e t=>.cons (h _ _ _ e) (FL.imp h t)
theorem FL.same {H H':Hp} (S:Same H H') {xs:List V} {fs:List (Int × Int)} (h:FL H xs fs):FL H' xs fs:=h.imp fun p _ _ e=>S p _ e
theorem FL.length {H:Hp} : ∀ {xs:List V} {fs:List (Int × Int)},FL H xs fs->xs.length = fs.length
 | _,_,.nil=>rfl
 | _,_,.cons _ t=>by rw [List.length_cons,List.length_cons,FL.length t]
theorem FL.get {H:Hp} {xs:List V} {fs:List (Int × Int)} {k:Nat} {x:V} (g:FL H xs fs) (h:xs[k]? = some x):∃ p f,x = .ref p/\fs[k]? = some f/\H p = some (.tup [.int f.1,.int f.2]):=by
 induction g generalizing k with
 | nil=>cases h
 | cons e t ih =>
  cases k with
  | zero=>cases h; exact ⟨_,_,rfl,rfl,e⟩
  | succ k=>exact ih h
theorem FL.append {H:Hp} : ∀ {xs ys:List V} {fs gs:List (Int × Int)},FL H xs fs->FL H ys gs->FL H (xs ++ ys) (fs ++ gs)
 | _,_,_,_,.nil,h=>h
 | _,_,_,_,.cons e t,h=>.cons e (FL.append t h)
theorem FL.one {H:Hp} {p:Addr} {a b:Int} (h:H p = some (.tup [.int a,.int b])):FL H [.ref p] [(a,b)]:=.cons (f:=(a,b)) h .nil
end L2
namespace L2
open PySem PySem.Spec PyProof.Rows
def Its (x:Str):It:=⟨fun i _=>i < x.cps.size,fun i H v H'=>H' = H/\∃ c,x.cps[i]? = some c/\v = .str ⟨#[c]⟩,fun i _=>i = x.cps.size⟩
theorem Ly {P:Program} {w:World} {K:Frag} {tg:Expr} (it:Addr) (x:Str) (t:Tok) (ty:String) (hty : ["enumerate", "zip", "dict_itemiterator", "dict_reverseitemiterator", "odict_iterator", "itertools.zip_longest", "itertools.pairwise"].contains ty = false)
  (W:∀ A:Around,A.handled = none->Walks P w A it [it] [it] x.cps.size (SignAt x) (fun i h=>h.IsStrIter it ty x t i))
  (hself:∀ (A:Around) (i:Nat) (s:Shared) (Q:Value->Shared->Prop) (E:Value->Shared->Prop),s.heap.IsStrIter it ty x t i->Q (.ref it) s->wpAny (model P w) A (pyIter (.ref it)) Q E s):Turn P w K tg (Its x) [it] it (fun i h=>h.IsStrIter it ty x t i) where
 mem:=by simp
 obj:=fun i h st b hb=>by
  have e:b = it:=by simpa using hb
  subst e
  obtain ⟨o,ho,_,hd⟩:=st
  exact ⟨o,ho,fun v z=>by rw [hd] at z; cases z⟩
 keep:=fun i h h' st k=>let ⟨o,ho,r⟩:=st; ⟨o,k it (by simp) o ho,r⟩
 item:=by
  intro X hP hw hK hc i pins s σ H E I hf st hg
  subst hP hw hK
  obtain ⟨f0,f1,f2,f3,f4,f5⟩:=hf it (by simp)
  refine (W X.A (I.ok.hd hc)).item i s _ _ hg st fun v h' tk hv st' kk=>?_
  obtain ⟨c,u,hx,rfl⟩:=hv
  have I1:Inv X pins σ H { s with heap:=h',toks:=tk }:=I.turned (fun b o hb e=>kk b o (by simpa using hb) e) f0 f1 f3 f4 f5
  obtain ⟨o,ho,hcl,hd⟩:=id st'
  exact ⟨_,rfl,Qw (s:={ s with heap:=h',toks:=tk }) ho hcl hd hty ⟨.str ⟨#[c]⟩,H,I1,⟨u,rfl⟩,⟨rfl,c,hx,rfl⟩,st',fun b hb=>(hf b hb).1⟩⟩
 done:=by
  intro X hP hw hK hc i pins s σ H E I hf st hg
  subst hP hw hK
  obtain ⟨f0,f1,f2,f3,f4,f5⟩:=hf it (by simp)
  have hg':i = x.cps.size:=hg
  subst hg'
  exact (W X.A (I.ok.hd hc)).done s _ _ st fun h' tk kk=>⟨rfl,I.turned (fun b o hb e=>kk b o (by simpa using hb) e) f0 f1 f3 f4 f5⟩
 self:=hself
section
variable {X:Cx} {tg:Expr}
noncomputable def aed (te:TE):TI:=fun σ H R=>te σ H fun v H1=>∃ x,v = .str x/\R (Its x) H1
theorem abl {l:Expr} {tl:TE} (hl:PE X l tl):PI X tg l (aed tl):=by
 intro pins s σ H R I h
 refine thn (hl pins s σ H _ I h) fun v s1 ⟨x,H1,I1,r1,y,ey,q⟩=>?_
 subst ey
 obtain ⟨t,rfl⟩:=r1
 have fp:∀ b ∈ [s1.heap.objs.size],Ad X pins H1 b:=fun b hb=>by
  have e:b = s1.heap.objs.size:=by simpa using hb
  subst e
  exact I1.fpOk (aF _) (I1.hok.fresh (aF _))
 have k:∀ o:Obj,Inv X pins σ H1 { s1 with heap:=s1.heap.push o }:=fun o=>I1.kept (t':=s1.toks) fun b ob z=>aG _ z
 cases ha:y.cps.all (· < 128)
 .exact wpAny_pyIter_wide ha ⟨s1.heap.objs.size,[s1.heap.objs.size],_,Its y,H1,rfl,k _,Ly _ y t "str_iterator" (by decide) (fun A hA=>Walks.strWide hA _ y t) (fun A i s Q E st h=>wpAny_pyIter_striter_wide st h),⟨_,aY _ rfl,rfl,rfl⟩,fp,q⟩
 .exact wpAny_pyIter_ascii ha ⟨s1.heap.objs.size,[s1.heap.objs.size],_,Its y,H1,rfl,k _,Ly _ y t "str_ascii_iterator" (by decide) (fun A hA=>Walks.strAscii hA _ y t) (fun A i s Q E st h=>wpAny_pyIter_striter_ascii st h),⟨_,aY _ rfl,rfl,rfl⟩,fp,q⟩
end
noncomputable def Cw (x:Str) (lo hi:Option Int):Str:=⟨((x.cps.toList.drop (HT.sIx x.length 0 lo)).take (HT.sIx x.length x.length hi - HT.sIx x.length 0 lo)).toArray⟩
theorem strIdx (lo hi:Option Int) (n:Nat):Builtin.Str.strSliceIndices lo hi 1 n = (List.range (HT.sIx n n hi - HT.sIx n 0 lo)).map (HT.sIx n 0 lo + ·):=by
 rw [<- sliceRange_one]
 unfold Builtin.Str.strSliceIndices
 have h1:∀ (o:Option Int) (d:Nat),d <= n->(match o with
   | none=>(d:Int)
   | some i=>(let i:=if i < 0 then i + (n:Int) else i; if (1:Int) > 0 then max 0 (min i n) else max (-1) (min i (n - 1)))) = ((HT.sIx n d o:Nat):Int):=by
  intro o d hd
  cases o with
  | none=>rfl
  | some i =>
   simp only [HT.sIx,show (1:Int) > 0 by decide,if_true]
   by_cases h:i < 0
   .simp only [h,if_true] <;> omega
   .simp only [h,if_false] <;> omega
 have e1:=h1 lo 0 (bh _)
 have e2:=h1 hi n (aF _)
 simp only [show (1:Int) > 0 by decide,if_true] at e1 e2 ⊢
 rw [<- e1,<- e2]
 rfl
theorem aar (x:Str) (lo hi:Option Int):(⟨((Builtin.Str.strSliceIndices lo hi 1 x.length).filterMap (x.cps[·]?)).toArray⟩ : Str) = Cw x lo hi:=by
 rw [strIdx,pick_run]; rfl
theorem Pb (x:Str) (lo hi:Option Int) (h:(Builtin.Str.strSliceIndices lo hi 1 x.length).length = x.length):Cw x lo hi = x:=by
 rw [strIdx,ak,List.length_range] at h
 have h2:=HT.ab7 x.length x.length (aF _) hi
 unfold Cw
 have hx:x.length = x.cps.size:=rfl
 have e:x.cps.toList.length = x.length:=by simp [hx]
 by_cases z:x.length = 0
 .have:x.cps.toList = []:=List.length_eq_zero_iff.mp (by omega)
  rw [this]
  obtain ⟨⟨l⟩⟩:=x
  simp at this
  subst this
  simp
 .have e0:HT.sIx x.length 0 lo = 0:=by omega
  rw [e0,List.drop_zero,aK (by omega)]
noncomputable def ZV:V->Option Int->Option Int->Hp->VK->Prop:=fun x lo hi H Q=>∃ y,x = .str y/\y.length <= sizeLine/\Q (.str (Cw y lo hi)) H
theorem part_of {v:Value} {o:Option Int} (h:IsPart v o):∃ l:Option (Int × Tok),v = partValue l/\l.map (·.1) = o:=by
 cases h with
 | none=>exact ⟨none,rfl,rfl⟩
 | int i t=>exact ⟨some (i,t),rfl,rfl⟩
theorem Xg {X:Cx} : SlR X ZV:=by
 intro pins s σ H x v vl vu lo hi sl Q I rx hs pl pu h
 obtain ⟨y,rfl,hz,q⟩:=h
 obtain ⟨t,rfl⟩:=rx
 obtain ⟨l,rfl,el⟩:=part_of pl
 obtain ⟨u,rfl,eu⟩:=part_of pu
 refine ⟨"str",_,F.slot_str_getitem.lookup,typeIs_str s y t,wpAny_getItem_str_slice (l:=l) (u:=u) (st:=none) hs rfl ?_⟩
 unfold sliceMade slicePicked
 rw [el,eu]
 split
 .rename_i hw
  have hw':=(Bool.and_eq_true_iff.mp hw).2
  rw [beq_iff_eq] at hw'
  have e:=Pb y lo hi hw'
  rw [e] at q
  exact ⟨.str y,H,I,⟨t,rfl⟩,q⟩
 .have e:=aar y lo hi
  refine ⟨?_,.str (Cw y lo hi),H,I.tok _,⟨s.toks,?_⟩,q⟩
  .refine aL ?_ hz
   refine aL (Nat.le_of_eq (congrArg Str.length e)) ?_
   show ((y.cps.toList.drop _).take _).toArray.size <= y.cps.size
   rw [aZ,bf,List.length_drop,Array.length_toList]
   omega
  .rw [<- e]; rfl
end L2
namespace L2
open PySem PySem.Spec PyProof.Rows
noncomputable def Om (tk tv:TE):TE:=fun σ H Q=>∀ p,H p = none->tk σ (upd H p (.dK [])) fun x H1=>∃ i,x = .str i/\tv σ H1 fun y H2=>H2 p = some (.dK [])/\Q (.ref p) (upd H2 p (.dK [(.inr i,y)]))
section
variable {X:Cx}
noncomputable def Rx:R2:=fun x y H Q=>∃ i j,x = .str i/\y = .str j/\i.length + j.length <= sizeLine/\Q (.str (i ++ j)) H
theorem Qa:OpR X (binaryOp .Add) Rx:=O9
noncomputable def Zc:R2:=fun x y H Q=>∃ i j,x = .str i/\y = .str j/\Q (.bl (!decide (j.cps.toList < i.cps.toList))) H
theorem V3:OpR X (compareOp .LtE) Zc:=by
 intro pins s σ H x y v u Q I rx ry h
 obtain ⟨i,j,rfl,rfl,q⟩:=h
 obtain ⟨t,rfl⟩:=rx
 obtain ⟨t',rfl⟩:=ry
 exact PySem.P.le_str (cY I q rfl)
noncomputable def abU (neg:Bool):R2:=fun x y H Q=>∃ i j,x = .str i/\y = .str j/\∃ c,i = ⟨#[c]⟩/\Q (.bl (if neg then !decide (c ∈ j.cps.toList) else decide (c ∈ j.cps.toList))) H
noncomputable def Xr:List V->Hp->VK->Prop:=fun xs H Q=>∃ x n,xs = [.str x]/\x.length <= 640/\PySem.intText? x = some n/\Q (.int n) H
theorem zP:∀ {bs:List Bool} {us:List Value},Vals (bs.map V.bl) us->∀ (i:Nat) (v:Value),us[i]? = some v->∃ b,bs[i]? = some b/\v = .bool b
 | [],_,.nil,i,v,h=>by cases i <;> cases h
 | b :: bs,_,.cons r t,0,v,h=>by
  rw [List.getElem?_cons_zero] at h
  cases h
  exact ⟨b,rfl,r⟩
 | b :: bs,_,.cons r t,i + 1,v,h=>by
  rw [List.getElem?_cons_succ] at h
  exact zP t i v h
noncomputable def GJ:List V->Hp->VK->Prop:=fun xs H Q=>∃ (l:Addr) (bs:List Bool),xs = [.ref l]/\H l = some (.lst (bs.map V.bl))/\Q (.bl (bs.all id)) H
theorem rW:∀ bs:List Bool,((List.range bs.length).all fun i=>(bs[i]?).getD true) = bs.all id
 | []=>rfl
 | b :: bs=>by
  rw [List.length_cons,List.range_succ_eq_map,List.all_cons,List.all_map,List.all_cons]
  have:=rW bs
  simp only [Function.comp_def,List.getElem?_cons_succ,List.getElem?_cons_zero,Option.getD_some,id] at this ⊢
  rw [this]
theorem vg (hc:X.calm = true):fX X (.builtin "all") GJ:=by
 intro pins s σ H xs us Q I r h
 obtain ⟨l,bs,rfl,hl,q⟩:=h
 obtain ⟨u,rfl,ru⟩:=r.one
 cases ru
 obtain ⟨its,rv,p⟩:=I.lstIs hl
 have hlt:l < s.heap.objs.size:=by obtain ⟨_,e,_⟩:=p; exact aJ e
 refine call_all_walk (wpAny_pyIter_list p ?_)
 refine ⟨s.heap.objs.size,[s.heap.objs.size,l],[s.heap.objs.size],its.toArray.size,_,_,fun i=>(bs[i]?).getD true,rfl,Walks.list (A:=X.A.in1) (I.ok.hd hc) _ l (aR hlt) its.toArray,
  ⟨⟨_,aY _ rfl,rfl,rfl⟩,p.push _⟩,fun i v s' Q' E' hP hQ=>?_,fun h' tk hk=>?_⟩
 .obtain ⟨b,e,rfl⟩:=zP rv i v (by simpa using hP)
  simp only [e,Option.getD_some] at hQ
  exact wpAny_truthy_bool hQ
 .have e:((List.range its.toArray.size).all fun i=>(bs[i]?).getD true) = bs.all id:=by
   rw [aZ,<- rv.length,ak]; exact rW bs
  refine ⟨.bl (bs.all id),H,I.kept (t':=tk) fun b o q=>hk b o (fun hm=>?_) (aG _ q),?_,q⟩
  .rw [List.mem_singleton.mp hm] at q
   exact Nat.lt_irrefl _ (aJ q)
  .rw [e]; rfl
noncomputable def Ju:V->List V->Hp->VK->Prop:=fun x vs H Q=>∃ a b,x = .str a/\vs = [.str b]/\Q (.bl (decide (0 + b.length <= a.length) && Builtin.Str.subAt a b 0)) H
noncomputable def adO:List Nat->Int
 | i :: _=>(i:Int)
 | []=>-1
noncomputable def Xi:V->List V->Hp->VK->Prop:=fun x vs H Q=>∃ a b,x = .str a/\vs = [.str b]/\Q (.int (adO (Builtin.Str.occurrences a b 0 a.length 1))) H
noncomputable def O7:V->List V->Hp->VK->Prop:=fun x vs H Q=>∃ a b,x = .str a/\vs = [.str b]/\1 <= b.length/\a.length < sizeLine/\∀ p,H p = none->Q (.ref p) (upd H p (.lst ((Txt.split a b).map V.str)))
noncomputable def tSM (r:V->List V->Hp->VK->Prop) (to:TE) (t:TA):TE:=fun σ H Q=>to σ H fun x H1=>(∃ y,x = .str y)/\t σ H1 fun vs H2=>r x vs H2 Q
theorem acX {o e:Expr} {to:TE} {t:TA} {name:Str} {id:String} {r:V->List V->Hp->VK->Prop} {apos cpos:Pos} (slot:Slot "str" name id) (hty:typeOf (.builtin id) = pure (.type "method_descriptor")) (hm:MtM X id r) (ho:PE X o to) (ha:PA X [e] t)
  (hb:attributeBase o name X.env (eval o X.env) = eval o X.env:=by rfl)
  (hf:((backTo cpos (starEach [e] X.env)).all (fun x=>!x.1) && (backToKw cpos (keywordEach [] X.env)).all (fun x=>x.1.isSome) && decide ([e].length + ([] : List Keyword).length + (if ([] : List Keyword).isEmpty then 0 else 1) < 30)) = true:=by rfl)
  (hl:(apos.endLine == cpos.line) = true:=by rfl) (hs:starEach [e] X.env = (false,eval e X.env) :: starEach [] X.env:=by rfl) (hp:(backTo cpos (starEach [] X.env)).any (·.1) = false:=by rfl) :
  PE X (.Call (.Attribute o name apos) [e] [] cpos) (tSM r to t):=by
 refine (aaP PySem.F.plainAttrs_str slot hty hm ho.mono ha hb hf hl hs hp).imp fun σ H Q h=>?_
 refine ⟨_,h,?_⟩
 rintro x H1 ⟨⟨y,rfl⟩,h2⟩
 exact ⟨rfl,h2⟩
theorem V0 {x:Str} {v:V} {pos:Pos} (hg:Gl X x) (hm:∃ u,X.mg x = some u/\RelV v u) (hd:(x == ("__debug__" : Str)) = false:=by decide):PE X (.Name x pos) (tC v):=by
 obtain ⟨u,h1,h2⟩:=hm
 exact QV hg h1 h2 hd
noncomputable def V2:R2:=fun x y H Q=>∃ i n,x = .str i/\y = .int n/\i.length = 1/\0 <= n/\n <= 1000/\∀ z:Str,z.length <= n.toNat + 1->Q (.str z) H
theorem Rw {a b:Expr} {ta tb:TE} {pos:Pos} (ha:PEB X a ta) (hb:PE X b tb) (hs:Q6 b):PEB X (.Subscript a b pos) (tOp rQ ta tb):=⟨bQ bN ha.out hb hs⟩
theorem wW {st:Stmt} {t:TS} (h1:PSB X st t):aah X [st] t:=⟨bL h1.out⟩
end
end L2
namespace L2
open PySem PySem.Spec PyProof.Rows
noncomputable def hid (y:Str):Str:=Str.ofString "?" ++ y
noncomputable def yr (xs:List Str) (N:List Str):List Str:=N.map fun y=>if y ∈ xs then hid y else y
noncomputable def Cx.compG (X:Cx) (N':List Str) (scope:Scope) (xs:List Str) (C:Addr) (s₀:Shared) (H₀:Hp) (ex:List Addr) (pn:List (Addr × Obj)):Cx :=
 { X with env:=compEnvC scope (yX X.env.cells scope.names []) C X.env,N:=xs ++ N',s₀:=s₀,H₀:=H₀,outer:=X.stack,ex:=ex,fn:=fun _=>false,pn:=pn,xe:=fun _ _=>False }
noncomputable def PTs (X:Cx) (ifs:List Expr) (tc:TT):Prop:=∀ (pins:List (Addr × Obj)) (s:Shared) (σ:L2.St) (H:Hp) (Q:Bool->Hp->Prop),Inv X pins σ H s->tc σ H Q ->
 wpAny (model X.prog X.w) X.A (forIn ifs true fun c r=>if r = true then do let ok <- isTrue c X.env (eval c X.env); pure (ForInStep.yield ok) else pure (ForInStep.yield r)) (fun b s'=>∃ H',Inv X pins σ H' s'/\Q b H') X.xe s
noncomputable def vG:TT:=fun _ H Q=>Q true H
theorem cF {X:Cx} : PTs X [] vG:=fun _ _ _ H _ I q=>wpAny_tests_nil ⟨H,I,q⟩
theorem wZ {X:Cx} {c:Expr} {tc:TT} (h:PT X c tc):PTs X [c] tc:=fun pins s σ H Q I q=>wpAny_tests_one (h pins s σ H Q I q)
noncomputable def dO (wi:TI) (n:Nat) (gt:TG) (tc:TT) (te:TE):TE:=fun σ H Q=>wi σ H fun J H1=>∀ D,H1 D = none->∃ W:Nat->Nat->List V->Hp->Prop,(∃ m,W 0 m [] (upd H1 D (.lst [])))/\∀ i m ys Hc,W i m ys Hc ->
 (J.stop i Hc/\Q (.ref D) Hc)\/(J.go i Hc/\∀ x H',J.yld i Hc x H'->∀ pre:L2.St,pre.length = n->gt x (pre ++ σ) H' fun σ2 H2=>∃ pre':L2.St,pre'.length = n/\σ2 = pre' ++ σ/\tc σ2 H2 fun b H3 =>
  match b with
  | true=>te σ2 H3 fun y H4=>ys.length < sizeLine/\H4 D = some (.lst ys)/\∃ m',m' < m/\W (i + 1) m' (ys ++ [y]) (upd H4 D (.lst (ys ++ [y])))
  | false=>∃ m',m' < m/\W (i + 1) m' ys H3)
section
variable {X:Cx} {elt iter:Expr} {pos:Pos} {scope:Scope} {wi:TI} {te:TE}
theorem CT {use:Option (Value->Sem Unit)} {post:Value->Shared->Prop} {Qv:VK} {pins:List (Addr × Obj)} {s:Shared} {σ:L2.St} {H:Hp} {pp:Pos} {xs N':List Str} {tg:Expr} {ifs:List Expr} {gt:TG} {tc:TT} (hc:X.calm = true) (hsh:yr xs X.N = N') (hN:(xs ++ N').Nodup) (hkind:scope.kind = .function) (hcell:∀ y ∈ scope.names,y.2 ≠ .cell) (hnames:∀ y ∈ scope.names,y.2 = .local->scope.names.lookup y.1 = some .local)
  (hfree:∀ y ∈ scope.names,y.2 = .free->X.env.kindOf y.1 = some .cell\/X.env.kindOf y.1 = some .free) (hloc:∀ y ∈ X.N,y ∉ xs->(relabel scope X.env).names.lookup y ≠ some .local) (hq:∀ y ∈ X.N,y ∈ xs->(relabel scope X.env).names.lookup (hid y) = none) (hi:PI X tg iter wi)
  (hg:∀ C s₀ H₀ ex pn,PG (X.compG N' scope xs C s₀ H₀ ex pn) tg gt) (ht:∀ C s₀ H₀ ex pn,PTs (X.compG N' scope xs C s₀ H₀ ex pn) ifs tc) (he:∀ C s₀ H₀ ex pn,PE (X.compG N' scope xs C s₀ H₀ ex pn) elt te) (hs:∀ z,foldedSetIterable iter X.env z = pure z) (I:Inv X pins σ H s) (h:dO wi xs.length gt tc te σ H Qv)
  (endC:∀ (C D:Addr) (Hc:Hp) (s6:Shared) (m:Str->Option Value) (fl:Flow),s6.heap.Ns C m->Inv X pins σ Hc s6->Ad X pins Hc C->Qv (.ref D) Hc->compPost (model X.prog X.w) X.A X.xe use post (.ref D) C (.ok fl) s6) :
  wpAny (model X.prog X.w) X.A (comprehension (.ListComp elt [⟨tg,iter,ifs,0⟩] scope pos) scope X.env pp (newList []) false (eval iter X.env) use) post X.xe s:=by
 have hfr:∀ y ∈ scope.names,y.2 = .free->∃ c,X.env.cells.lookup y.1 = some c:=fun y hy e=>I.ok.has y.1 (hfree y hy e)
 refine wpAny_comprehension_free (use:=use) (Q:=post) rfl hs (NZ hfr) hkind hnames (thn (hi pins s σ H _ I h) fun v s1 h1=>thn h1 fun itv s2 h2=>?_)
 obtain ⟨it,fp,tn,J,H2,e,I2,T,st2,f2,R⟩:=h2
 subst e
 have nD:H2 s2.heap.objs.size = none:=I2.hok.fresh (aF _)
 obtain ⟨W,⟨m0,w0⟩,turn⟩:=R s2.heap.objs.size nD
 refine wpAny_newObj_type ?_ (by show 0 <= sizeLine; exact bh _)
 have I3:Inv X pins σ (upd H2 s2.heap.objs.size (.lst [])) { s2 with heap:=s2.heap.push { cls:=.type "list",dict:=none,data:=.seq ([] : List Value).toArray } }:=I2.lnew (t':=s2.toks) (ys:=[]) (its:=[]) .nil (bh _)
 have oldT:∀ b o,s2.heap.get? b = some o->(s2.heap.push { cls:=.type "list",dict:=none,data:=.seq ([] : List Value).toArray }).get? b = some o:=fun b o e=>aG _ e
 generalize hs3:({ s2 with heap:=s2.heap.push { cls:=.type "list",dict:=none,data:=.seq ([] : List Value).toArray } } : Shared) = s3 at I3 ⊢
 have st3:tn 0 s3.heap:=T.keep _ _ _ st2 fun b _ o e=>by rw [<- hs3]; exact oldT b o e
 generalize hH3:upd H2 s2.heap.objs.size (.lst []) = H3 at I3 w0
 have f3:∀ b ∈ fp,Ad X pins H3 b:=fun b hb=>by
  obtain ⟨a1,a2⟩:=f2 b hb
  refine ⟨?_,a2⟩
  obtain ⟨o,e,_⟩:=T.obj _ _ st2 b hb
  rw [<- hH3,bF (aR (aJ e))]
  exact a1
 refine wpAny_newFunctionEnv hcell (by intro y hy; simp at hy) (fun g hns hsb=>?_) hkind
 have kg:∀ b o,s3.heap.get? b = some o->g.get? b = some o:=fun b o e=>(hsb.2 b (aR (aJ e))).trans (aG _ e)
 have clm:∀ {y:Str} {c:Addr},(yX X.env.cells scope.names []).lookup y = some c->X.env.cells.lookup y = some c:=fun {y c} e=>by
  rcases LC hfr (PySem.mem_of_lookup e) with z | z
  .cases z
  .exact z
 have kinds:∀ {y:Str},((relabel scope X.env).names.lookup y = some .cell\/(relabel scope X.env).names.lookup y = some .free)->(X.env.kindOf y = some .cell\/X.env.kindOf y = some .free)/\∃ c,(yX X.env.cells scope.names []).lookup y = some c:=fun {y} e=>by
  have z:=yM e hcell
  obtain ⟨c,hc'⟩:=Lz (cells:=X.env.cells) (acc:=[]) (.inl z)
  exact ⟨hfree _ z rfl,oG hc'⟩
 have lt3:∀ b ∈ fp,b < s3.heap.objs.size:=fun b hb=>by
  obtain ⟨o,e,_⟩:=T.obj _ _ st3 b hb
  exact aJ e
 have nst:∀ b ∈ fp,b ∉ frs X.stack:=fun b hb=>I3.nostk' (f3 b hb).2.1 (f3 b hb).2.2.1
 generalize hX:X.compG N' scope xs s3.heap.objs.size s3 H3 fp (X.pn ++ pins) = Y
 have ok':Y.Ok:=by
  subst hX
  exact ⟨I3.ok.mod,hkind,I3.ok.glob,I3.ok.blt,aF _,fun y z c h1 h2=>I3.ok.inj y z c (clm h1) (clm h2),fun y hy=>(kinds hy).2,fun _ _ z=>(nomatch z),I3.ok.hd,I3.ok.frames,.inl rfl,
   fun b hb=>⟨aR (lt3 b hb),fun y c e=>(f3 b hb).2.2.2.2.1 y c (clm e)⟩,I3.bs,aL I3.ok.bsz I3.sz,fun b o e hb=>by
    rcases (f3 b hb).2.2.2.1 with z | z
    .exact I3.ok.noex b o e z
    .exact absurd (aU (aU (aJ e) I3.ok.bsz) z) (Nat.lt_irrefl _),nst,I3.stack,I3.stkFree⟩
 have J4:∀ tk,Inv Y [] (List.replicate xs.length none ++ σ) H3 { s3 with heap:=g,toks:=tk }:=fun tk=>by
  subst hX
  refine ⟨ok',rfl,I3.bare,Un.kept kg,⟨_,hns,fun i y v e1 e2 e3=>?_⟩,fun y c e=>?_,I3.hok.fresh (aF _),fun y c e=>I3.freeC y c (clm e),fun p hp=>?_,I3.hok.kept kg,?_⟩
  .by_cases hin:i < xs.length
   .rw [aD (by rw [aN]; exact hin),List.getElem?_replicate,if_pos hin] at e2
    cases e2
   .obtain ⟨j,rfl⟩ : ∃ j,i = xs.length + j:=⟨i - xs.length,by omega⟩
    have e0:N'[j]? = some y:=by
     have e1:(xs ++ N')[xs.length + j]? = some y:=e1
     rw [aC (by omega)] at e1
     rw [show xs.length + j - xs.length = j by omega] at e1
     exact e1
    have e2':σ[j]? = some (some v):=by
     rw [aC (by rw [aN]; omega),aN] at e2
     rw [show xs.length + j - xs.length = j by omega] at e2
     exact e2
    rw [<- hsh] at e0
    obtain ⟨y0,e1',ey⟩ : ∃ y0,X.N[j]? = some y0/\(if y0 ∈ xs then hid y0 else y0) = y:=by
     unfold yr at e0
     rw [aq] at e0
     cases hz:X.N[j]? with
     | none=>rw [hz] at e0; cases e0
     | some y0=>rw [hz] at e0; exact ⟨y0,rfl,Option.some.inj e0⟩
    have e3:(relabel scope X.env).names.lookup y = some .local\/(relabel scope X.env).names.lookup y = some .cell\/(relabel scope X.env).names.lookup y = some .free:=e3
    have ne:¬ y0 ∈ xs:=fun z=>by
     rw [if_pos z] at ey
     subst ey
     rw [hq y0 (aB e1') z] at e3
     rcases e3 with z | z | z <;> cases z
    rw [if_neg ne] at ey
    subst ey
    have e3':(relabel scope X.env).names.lookup y0 = some .cell\/(relabel scope X.env).names.lookup y0 = some .free:=by
     rcases e3 with z | z
     .exact absurd z (hloc y0 (aB e1') ne)
     .exact z
    obtain ⟨kd,c,hcl⟩:=kinds e3'
    obtain ⟨m,_,hl⟩:=I3.loc
    obtain ⟨u,r,lk⟩:=hl j y0 v e1' e2' (.inr kd)
    refine ⟨u,r,.inr ⟨e3',c,hcl,?_⟩⟩
    rcases lk with ⟨k1,_⟩ | ⟨_,c',q1,o,q2,q3⟩
    .exfalso
     have k1':X.env.kindOf y0 = some .local:=k1
     rcases kd with k2 | k2 <;> rw [k1'] at k2 <;> cases k2
    .rw [clm hcl] at q1
     cases q1
     exact ⟨o,kg _ _ q2,q3⟩
  .obtain ⟨v,o,q2,q3⟩:=I3.cell y c (clm e)
   exact ⟨v,o,kg _ _ q2,q3⟩
  .have hp':p ∈ X.pn ++ pins:=by simpa [Cx.compG] using hp
   obtain ⟨a1,a2,a3,a4,a5⟩:=I3.pin p hp'
   exact ⟨kg _ _ a1,a2,aR (aJ a1),I3.nostk' a3 a4,a5⟩
  .show (List.replicate xs.length none ++ σ).length = (xs ++ N').length
   have hln:N'.length = X.N.length:=by rw [<- hsh]; unfold yr; rw [ak]
   rw [aA,aN,aA,I3.len,hln]
 have fpY:∀ {Hc:Hp},(∀ b ∈ fp,Hc b = none)->∀ b ∈ fp,Ad Y [] Hc b:=fun {Hc} hn b hb=>by
  subst hX
  exact ⟨hn b hb,aR (lt3 b hb),nst b hb,.inl hb,fun y c e=>(f3 b hb).2.2.2.2.1 y c (clm e),fun p hp=>(f3 b hb).2.2.2.2.2 p (by simpa [Cx.compG] using hp)⟩
 have loop:∀ s4:Shared,s4 = { s3 with heap:=g,toks:=s3.toks + ([] : List (Str × Value)).length } ->
   codeAny (model X.prog X.w) X.A (.compLoop (.ListComp elt [⟨tg,iter,ifs,0⟩] scope pos) 0 (.ref it) (.ref s2.heap.objs.size) Y.env) (compPost (model X.prog X.w) X.A X.xe use post (.ref s2.heap.objs.size) s3.heap.objs.size) s4:=by
  rintro s4 rfl
  have YP:Y.prog = X.prog/\Y.w = X.w/\Y.K = X.K/\Y.calm = X.calm/\Y.A = X.A/\Y.env.locals = s3.heap.objs.size:=by subst hX; exact ⟨rfl,rfl,rfl,rfl,rfl,rfl⟩
  obtain ⟨y1,y2,y3,y4,y5,y6⟩:=YP
  have he':PE Y elt te:=by subst hX; exact he _ _ _ _ _
  have hg':PG Y tg gt:=by subst hX; exact hg _ _ _ _ _
  have ht':PTs Y ifs tc:=by subst hX; exact ht _ _ _ _ _
  have xeY:Y.xe = fun _ _=>False:=by subst hX; rfl
  have yb:∀ {Hc:Hp} {w':L2.St} {pn:List (Addr × Obj)} {s':Shared},Inv Y pn w' Hc s'->Un (frs X.stack) fp H3 Hc s3.heap s'.heap:=fun {Hc w' pn s'} Z=>by
   have:=Z.base
   subst hX
   exact this
  have yos:∀ {Hc:Hp} {w':L2.St} {pn:List (Addr × Obj)} {s':Shared},Inv Y pn w' Hc s'->s'.os = s3.os:=fun {Hc w' pn s'} Z=>by
   have:=Z.os
   subst hX
   exact this
  refine codeAny_loop rfl (fun n s'=>∃ i ys Hc,∃ w':L2.St,w'.length = xs.length/\Inv Y [] (w' ++ σ) Hc s'/\tn i s'.heap/\(∀ b ∈ fp,Hc b = none)/\W i n ys Hc) (fun n s5 hI=>?_) m0 ⟨0,[],H3,List.replicate xs.length none,aN,J4 _,T.keep _ _ _ st3 fun b _ o e=>kg b o e,fun b hb=>(f3 b hb).1,w0⟩
  obtain ⟨i,ys,Hc,w',hw',Z,stc,frc,wc⟩:=hI
  show wpAny _ _ ((compTurn (.ListComp elt [⟨tg,iter,ifs,0⟩] scope pos) 0 (.ref it) (.ref s2.heap.objs.size) Y.env).onRaise (fun z=>do noteFrame z Y.env; theTreesLotGoes z)) _ _ s5
  refine wpAny_noted (wpAny_noRaise ?_)
  rw [compTurn_list]
  show wpAny (model X.prog X.w) X.A _ _ _ _
  rcases turn i n ys Hc wc with ⟨stop,qn⟩ | ⟨go,step⟩
  .have hd:=T.done Y y1 y2 y3 (y4.trans hc) i [] s5 (w' ++ σ) Hc (fun _ _=>False) Z (fpY frc) stc stop
   rw [y5] at hd
   refine wpAny_bind (wpAny_standAt (wpAny_bind (thn hd fun r s6 ⟨hr,Z6⟩=>?_)))
   subst hr
   refine wpAny_pure ?_
   obtain ⟨m,hn6,_⟩:=Z6.loc
   rw [y6] at hn6
   have u6:=yb Z6
   have hok:HOk X.prog X.w Hc s6.heap:=by
    have z:=Z6.hok
    rw [y1,y2] at z
    exact z
   have cn:Hc s3.heap.objs.size = none:=by
    have z:=Z6.free
    rw [y6] at z
    exact z
   have I6:Inv X pins σ Hc s6:=I3.call' (s':=s6) (ch:=fp) (yos Z6) u6 hok Z6.bare fun b hb=>⟨(f3 b hb).2.2.2.1,(f3 b hb).2.1,(f3 b hb).2.2.2.2.1,(f3 b hb).2.2.2.2.2⟩
   have fC:Ad X pins Hc s3.heap.objs.size:=I3.fpOk (aF _) cn
   exact endC _ _ Hc s6 m _ hn6 I6 fC qn
  .have hd:=T.item Y y1 y2 y3 (y4.trans hc) i [] s5 (w' ++ σ) Hc (fun _ _=>False) Z (fpY frc) stc go
   rw [y5] at hd
   refine wpAny_bind (wpAny_standAt (wpAny_bind (thn hd fun r s6 ⟨u,hr,h6⟩=>?_)))
   subst hr
   refine wpAny_bind (thn h6 fun _ s7 ⟨xv,H7,Z7,r7,yl,st7,fr7⟩=>?_)
   have Z7':=Z7.pinned (fpY fr7) (T.obj _ _ st7)
   have hst:=hg' _ s7 _ H7 xv u _ Z7' r7 (step xv H7 yl w' hw')
   rw [y1,y2,y5,xeY] at hst
   refine wpAny_bind (thn hst fun _ s8 ⟨σ8,H8,Z8,pre,hpre,e8,q8⟩=>?_)
   subst e8
   have hte:=ht' _ s8 _ H8 _ Z8 q8
   rw [y1,y2,y5,xeY] at hte
   have fin:∀ {m':Nat} {ys':List V} {H9:Hp} {s9:Shared},Inv Y ([] ++ Dq fp s7.heap) (pre ++ σ) H9 s9->m' < n->W (i + 1) m' ys' H9->∃ m,m < n/\∃ i ys Hc,∃ w':L2.St,w'.length = xs.length/\Inv Y [] (w' ++ σ) Hc s9/\tn i s9.heap/\(∀ b ∈ fp,Hc b = none)/\W i m ys Hc:=fun {m' ys' H9 s9} Z9 hm' w9 =>
    ⟨m',hm',i + 1,ys',H9,pre,hpre,Z9.unpinned,T.keep _ _ _ st7 fun b hb o e=>(Z9.pin (b,o) (aQ _ (aQ _ (pq hb e)))).1,fun b hb=>by
     obtain ⟨o,e,_⟩:=T.obj _ _ st7 b hb
     exact (Z9.pin (b,o) (aQ _ (aQ _ (pq hb e)))).2.1,w9⟩
   refine wpAny_bind (thn hte fun ok s9 ⟨H9,Z9,q9⟩=>?_)
   cases ok with
   | false =>
    obtain ⟨m',hm',w9⟩:=q9
    exact wpAny_pure ⟨rfl,fin Z9 hm' w9⟩
   | true =>
    have hel:=he' _ s9 _ H9 _ Z9 q9
    rw [y1,y2,y5,xeY] at hel
    refine wpAny_bind (wpAny_bind (thn hel fun ev s10 ⟨yv,H10,Z10,r10,hz,hD10,m',hm',w10⟩=>?_))
    have hap:=Gw (X:=Y) _ s10 _ H10 (.ref s2.heap.objs.size) [yv] (.ref s2.heap.objs.size) [ev] (fun _ Hf=>Hf = upd H10 s2.heap.objs.size (.lst (ys ++ [yv]))) Z10 rfl (.cons r10 .nil) ⟨_,ys,yv,rfl,rfl,hD10,hz,rfl⟩
    rw [y1,y2,y5,xeY] at hap
    refine wpAny_bind (thn hap fun av s11 ⟨_,H11,Z11,_,e11⟩=>?_)
    subst e11
    exact wpAny_pure (wpAny_pure ⟨rfl,fin Z11 hm' w10⟩)
 have henv:Y.env = compEnvC scope (yX X.env.cells scope.names []) s3.heap.objs.size X.env:=by subst hX; rfl
 rw [henv] at loop
 exact codeAny_compStart_list (loop _ rfl) (T.self _ 0 _ _ _ (T.keep _ _ _ st3 fun b _ o e=>kg b o e) (loop _ rfl))
theorem Lr {xs N':List Str} {tg:Expr} {ifs:List Expr} {gt:TG} {tc:TT} (hc:X.calm = true) (hsh:yr xs X.N = N') (hN:(xs ++ N').Nodup) (hkind:scope.kind = .function) (hcell:∀ y ∈ scope.names,y.2 ≠ .cell) (hnames:∀ y ∈ scope.names,y.2 = .local->scope.names.lookup y.1 = some .local)
  (hfree:∀ y ∈ scope.names,y.2 = .free->X.env.kindOf y.1 = some .cell\/X.env.kindOf y.1 = some .free) (hloc:∀ y ∈ X.N,y ∉ xs->(relabel scope X.env).names.lookup y ≠ some .local) (hq:∀ y ∈ X.N,y ∈ xs->(relabel scope X.env).names.lookup (hid y) = none) (hi:PI X tg iter wi)
  (hg:∀ C s₀ H₀ ex pn,PG (X.compG N' scope xs C s₀ H₀ ex pn) tg gt) (ht:∀ C s₀ H₀ ex pn,PTs (X.compG N' scope xs C s₀ H₀ ex pn) ifs tc) (he:∀ C s₀ H₀ ex pn,PE (X.compG N' scope xs C s₀ H₀ ex pn) elt te) (hs:∀ z,foldedSetIterable iter X.env z = pure z:=by intro _; rfl) :
  PE X (.ListComp elt [⟨tg,iter,ifs,0⟩] scope pos) (dO wi xs.length gt tc te):=by
 intro pins s σ H Q I h
 rw [eval_ListComp]
 exact CT hc hsh hN hkind hcell hnames hfree hloc hq hi hg ht he hs I h fun C D Hc s6 m fl hn I6 fC q=>⟨m,hn,fun h' hs'=>⟨.ref D,Hc,I6.turned (it:=C) (h':=h') (t':=s6.toks) (fun b o hb e=>(hs'.2 b hb).trans e) fC.1 fC.2.1 fC.2.2.2.1 fC.2.2.2.2.1 fC.2.2.2.2.2,rfl,q⟩⟩
end
end L2
namespace L2
open PySem PySem.Spec PyProof.Rows
section
variable {X:Cx} {k:Nat} {f C:Addr} {fd:FuncData} {ps:List Str} {sp:Sp} {dvs:List V} {ds:List Value} {x m:Str} {p pos apos:Pos} {e o:Expr} {es:List Expr} {ta:TE} {t:TA} {Ex:Value->Option Addr->L2.St->Hp->Prop}
noncomputable def acg (C:Addr) (sp:Sp) (dvs:List V) (Ex:Value->Option Addr->L2.St->Hp->Prop) (t:TA):TE:=fun σ H Q=>t σ H fun vs H1=>∀ x dx,H1 x = none->H1 dx = none->dx ≠ x->sp (.ref x :: (vs ++ dvs)) (upd (upd H1 dx (.own x)) x (.ins C dx [])) (fun v H2=>v = .non/\Q (.ref x) H2) fun C d H'=>Ex C d σ H'
theorem QF {pins:List (Addr × Obj)} {σ:St} {H:Hp} {s:Shared} {Q:VK} {us:List Value} {vs:List V} (F:cu X.prog X.w X.K X.mg X.base (CXO X.prog X.w) k f fd ps sp) (hr:gJ k X.A) (hb:Binds X.K fd ps ds) (hd:Vals dvs ds) (hx:Bu X Ex)
  (I:Inv X pins σ H s) (r:Vals vs us) (h:sp (vs ++ dvs) H Q fun C d H'=>Ex C d σ H'):wpAny (model X.prog X.w) X.A (call (.ref f) us) (EP X pins σ Q) X.xe s:=by
 have r2:Vals (vs ++ dvs) (us ++ ds):=r.append hd
 have hl:(us ++ ds).length = ps.length:=by rw [<- r2.length]; exact F.len _ _ _ _ h
 refine wpAny_call (codeAny_mono (F.run X.A X.stack s H ⟨us,[]⟩ (us ++ ds) (vs ++ dvs) Q _ hr I.env0 (hb s us I.kIn hl) r2 h) fun r s' hq=>?_)
 cases r with
 | error e =>
  obtain ⟨a,C,d,H',B,rfl,Fl,q'⟩:=hq
  exact hx pins σ H s a C H' s' B d I Fl q'
 | ok fl =>
  cases fl with
  | ret u=>exact I.after hq
  | next=>exact False.elim hq
  | brk=>exact False.elim hq
  | cont=>exact False.elim hq
theorem Sh {pins:List (Addr × Obj)} {σ:St} {H:Hp} {s:Shared} {Q:VK} {us:List Value} {vs:List V} (M:Mk X.K C f) (F:cu X.prog X.w X.K X.mg X.base (CXO X.prog X.w) k f fd ps sp) (hr:gJ (k + 1) X.A) (hb:Binds X.K fd ps ds) (hd:Vals dvs ds)
  (hx:Bu X Ex) (I:Inv X pins σ H s) (r:Vals vs us)
  (h:∀ x dx,H x = none->H dx = none->dx ≠ x->sp (.ref x :: (vs ++ dvs)) (upd (upd H dx (.own x)) x (.ins C dx [])) (fun v H2=>v = .non/\Q (.ref x) H2) fun C d H'=>Ex C d σ H') :
  wpAny (model X.prog X.w) X.A (call (.ref C) us) (EP X pins σ Q) X.xe s:=by
 have hq:=h (s.heap.objs.size + 1) s.heap.objs.size (I.hok.fresh (Nat.le_succ _)) (I.hok.fresh (aF _)) (aR (Nat.lt_succ_self _))
 have I2:=Inv.made (C:=C) I
 have r2:Vals (V.ref (s.heap.objs.size + 1) :: (vs ++ dvs)) (Value.ref (s.heap.objs.size + 1) :: (us ++ ds)):=.cons rfl (r.append hd)
 have hl:(Value.ref (s.heap.objs.size + 1) :: us ++ ds).length = ps.length:=by
  have e:=r2.length
  rw [F.len _ _ _ _ hq] at e
  exact e.symm
 refine wpAny_call (X8 (f:=f) I.kIn M.makes M.init (beq_iff_eq.mp M.fn) (codeAny_mono (F.run _ X.stack _ _ ⟨Value.ref (s.heap.objs.size + 1) :: us,[]⟩ (Value.ref (s.heap.objs.size + 1) :: (us ++ ds)) _ _ _ (hr.make C us [])
  (I2.env0.make C us []) (hb _ (Value.ref (s.heap.objs.size + 1) :: us) I2.kIn hl) r2 hq) fun r s' hq'=>?_))
 cases r with
 | error e =>
  obtain ⟨a,C,d,H',B,rfl,Fl,q'⟩:=hq'
  exact hx pins σ _ _ a C H' s' B d I2 Fl q'
 | ok fl =>
  cases fl with
  | ret u =>
   obtain ⟨v,H',I3,rv,ev,q3⟩:=I2.after hq'
   subst ev
   exact ⟨rv,⟨V.ref (s.heap.objs.size + 1),H',I3,rfl,q3⟩⟩
  | next=>exact False.elim hq'
  | brk=>exact False.elim hq'
  | cont=>exact False.elim hq'
theorem Wu (M:Mk X.K C f) (F:cu X.prog X.w X.K X.mg X.base (CXO X.prog X.w) k f fd ps sp) (hr:gJ (k + 1) X.A) (hg:Gl X x) (hm:X.mg x = some (.ref C)) (hb:Binds X.K fd ps ds) (hd:Vals dvs ds) (hx:Bu X Ex)
  (ha:PA X (e :: es) t) (hdb:(x == ("__debug__" : Str)) = false:=by decide) (he:starEach (e :: es) X.env = (false,eval e X.env) :: starEach es X.env:=by rfl) (hpl:(backTo pos (starEach es X.env)).any (·.1) = false:=by rfl) :
  PE X (.Call (.Name x p) (e :: es) [] pos) (acg C sp dvs Ex t):=by
 intro pins s σ H Q I h
 refine wpAny_Call_Name_kw (nA I hg hm ?_ hdb)
 refine PySem.W.callWith_K (h₀:=X.base) I.ok.mod.kin M.kp (thn (ha pos pins s σ H _ I h) fun us s1 ⟨vs,H1,I1,r,q⟩=>⟨I1.kIn,?_⟩) he hpl
 exact Sh M F hr hb hd hx I1 r q
end
end L2
namespace L2
open PySem PySem.Spec PyProof.Rows
structure lq (K:Frag) (B:Addr) (m:Str) (f:Addr):Prop where
 ga:PySem.W.specialIn K (.ref B) "__getattribute__" = some (some (.builtin "type.__getattribute__"))
 rd:PySem.W.readsIn K B (.type "type") = true
 at_:PySem.W.findCls K (.ref B) (.type "type") m = some (.val (.ref f))
 hd:PySem.W.handedIn (.ref f) = true
 kp:PySem.W.keepIn K (.ref f) = true
section
variable {X:Cx} {k:Nat} {f B:Addr} {fd:FuncData} {ps:List Str} {sp:Sp} {dvs:List V} {ds:List Value} {x m:Str} {p pos apos:Pos} {e:Expr} {es:List Expr} {t:TA} {Ex:Value->Option Addr->L2.St->Hp->Prop}
theorem lq.get {pins:List (Addr × Obj)} {σ:L2.St} {H:Hp} {s:Shared} {pl:Sem Bool} {A:Around} {E:Value->Shared->Prop} {Q:Value × List Value->Shared->Prop} (c:lq X.K B m f) (I:Inv X pins σ H s) (h:∀ t,Q (.ref f,[]) { s with toks:=t }) :
  wpAny (model X.prog X.w) A (getMethod (.ref B) m pl) Q E s :=
 PySem.W.method_cls I.kIn c.ga (PySem.W.cls_value I.kIn c.rd c.at_ c.hd (h _))
theorem Wc {pl:Sem Bool} (c:lq X.K B m f) (F:cu X.prog X.w X.K X.mg X.base (CXO X.prog X.w) k f fd ps sp) (hr:gJ k X.A) (hg:Gl X x) (hm:X.mg x = some (.ref B)) (hb:Binds X.K fd ps []) (hx:Bu X Ex) (ha:PA X (e :: es) t) (hdb:(x == ("__debug__" : Str)) = false:=by decide)
  (hst:starEach (e :: es) X.env = (false,eval e X.env) :: starEach es X.env:=by rfl) (hpl:(backTo pos (starEach es X.env)).any (·.1) = false:=by rfl)
  (ht:eval (.Call (.Attribute (.Name x p) m apos) (e :: es) [] pos) X.env = (do
   let ov <- eval (.Name x p) X.env
   standAt apos.atName
   let (f,first) <- holding [ov] (getMethod ov m pl)
   callWith pos f first (backTo pos (starEach (e :: es) X.env)) (backToKw pos (keywordEach [] X.env))):=by rfl) :
  PE X (.Call (.Attribute (.Name x p) m apos) (e :: es) [] pos) (zA sp Ex t):=by
 intro pins s σ H Q I h
 refine PySem.W.methodCall_KW (pl:=pl) (nA I hg hm (c.get I fun tk=>?_) hdb) ht
 refine PySem.W.callWith_K (first:=[]) (h₀:=X.base) I.ok.mod.kin c.kp (thn (ha pos pins _ σ H _ (I.tok tk) h) fun us s2 ⟨vs,H2,I2,r,q2⟩=>⟨I2.kIn,?_⟩) hst hpl
 exact QF (us:=us) (vs:=vs) F hr hb .nil hx I2 r (by rw [List.append_nil]; exact q2)
end
end L2
namespace L2
open PySem PySem.Spec PyProof.Rows
section
variable {κ:Type} [DecidableEq κ]
noncomputable def lV (kvs:List (κ × V)) (k:κ):Option V:=(kvs.find? fun kv=>decide (kv.1 = k)).map (·.2)
noncomputable def putK (kvs:List (κ × V)) (k:κ) (v:V):List (κ × V) :=
 if (kvs.any fun kv=>decide (kv.1 = k)) = true then kvs.map (fun kv=>if kv.1 = k then (kv.1,v) else kv) else kvs ++ [(k,v)]
theorem xR {p:κ × V} {r:List (κ × V)} {k:κ} (e:p.1 = k):lV (p :: r) k = some p.2:=by simp [lV,List.find?_cons,e]
theorem yD {p:κ × V} {r:List (κ × V)} {k:κ} (e:¬ p.1 = k):lV (p :: r) k = lV r k:=by simp [lV,List.find?_cons,e]
theorem Lf (kvs:List (κ × V)) (k:κ) (v:V):(putK kvs k v).length <= kvs.length + 1:=by
 unfold putK
 split
 .rw [ak]; omega
 .rw [aA,List.length_cons,List.length_nil]; omega
theorem uN.isSome_eq {o:Option V} {u:Option Value} (r:uN o u):o.isSome = u.isSome:=by
 cases o with
 | none=>cases u with
  | none=>rfl
  | some _=>exact (show False from r).elim
 | some _=>cases u with
  | none=>exact (show False from r).elim
  | some _=>rfl
theorem uN.getD {o:Option V} {u:Option Value} {d:V} {d':Value} (r:uN o u) (rd:RelV d d'):RelV (o.getD d) (u.getD d'):=by
 cases o with
 | none=>cases u with
  | none=>exact rd
  | some _=>exact (show False from r).elim
 | some _=>cases u with
  | none=>exact (show False from r).elim
  | some _=>exact r
theorem KV.val {kvs:List (κ × V)} {vs:List (κ × Value)} (r:KV kvs vs) (k:κ):uN (lV kvs k) (valueAt vs k):=by
 unfold KV at r
 induction r with
 | nil=>exact True.intro
 | @cons p q ps qs h t ih =>
  obtain ⟨h1,h2⟩:=h
  by_cases e:p.1 = k
  .have e':q.1 = k:=h1.symm.trans e
   have b:valueAt (q :: qs) k = some q.2:=by simp [valueAt,List.find?_cons,e']
   rw [xR e,b]; exact h2
  .have e':¬ q.1 = k:=fun z=>e (h1.trans z)
   have b:valueAt (q :: qs) k = valueAt qs k:=by simp [valueAt,List.find?_cons,e']
   rw [yD e,b]; exact ih
theorem KV.any {kvs:List (κ × V)} {vs:List (κ × Value)} (r:KV kvs vs) (k:κ):(kvs.any fun kv=>decide (kv.1 = k)) = vs.any fun kv=>decide (kv.1 = k):=by
 unfold KV at r
 induction r with
 | nil=>rfl
 | cons h t ih=>rw [List.any_cons,List.any_cons,ih,h.1]
theorem KV.repl {kvs:List (κ × V)} {vs:List (κ × Value)} (r:KV kvs vs) (k:κ) {y:V} {u:Value} (ry:RelV y u) :
  KV (kvs.map fun kv=>if kv.1 = k then (kv.1,y) else kv) (vs.map fun kv=>if kv.1 = k then (kv.1,u) else kv):=by
 unfold KV at r ⊢
 induction r with
 | nil=>exact .nil
 | @cons p q ps qs h t ih =>
  rw [List.map_cons,List.map_cons]
  refine .cons ?_ ih
  obtain ⟨h1,h2⟩:=h
  by_cases e:p.1 = k
  .rw [if_pos e,if_pos (h1.symm.trans e)]; exact ⟨h1,ry⟩
  .rw [if_neg e,if_neg (fun z=>e (h1.trans z))]; exact ⟨h1,h2⟩
theorem KV.put {kvs:List (κ × V)} {vs:List (κ × Value)} (r:KV kvs vs) (k:κ) {y:V} {u:Value} (ry:RelV y u):KV (putK kvs k y) (stored vs k u):=by
 unfold putK stored
 rw [r.any k]
 by_cases e:(vs.any fun kv=>decide (kv.1 = k)) = true
 .rw [if_pos e,if_pos e]; exact r.repl k ry
 .rw [if_neg e,if_neg e]; exact Paired.snoc r ⟨rfl,ry⟩
theorem KV.length {kvs:List (κ × V)} {vs:List (κ × Value)} (r:KV kvs vs):kvs.length = vs.length:=Paired.length r
end
theorem MK {P:Program} {w:World} {k:Key} {u:Value} (r:RelV (kV k) u):(fY P w).is k u = true:=by
 cases k with
 | inl i=>obtain ⟨t,e⟩:=(show ∃ t,u = Value.int i t from r); subst e; exact KC P w i t
 | inr x=>obtain ⟨t,e⟩:=(show ∃ t,u = Value.str x t from r); subst e; exact Mr P w x t
section
variable {P:Program} {w:World} {H:Hp} {h:Heap} {a:Addr}
theorem aer {u:HO} (ok:HOk P w H h) (e:Rd H a u):dz P w H h a u:=e.ok ok
theorem Dj {kvs:List (Key × V)} (ok:HOk P w H h) (e:Rd H a (.dK kvs)):kvs.length <= sizeLine/\(a == sysModules) = false/\∃ vs,KV kvs vs/\h.DictOf (fY P w) a vs :=
 show dz P w H h a (.dK kvs) from aer ok e
theorem adL {kvs:List (Key × V)} (ok:HOk P w H h) (e:H a = some (.dK kvs)):kvs.length <= sizeLine/\(a == sysModules) = false/\∃ vs,KV kvs vs/\h.DictOf (fY P w) a vs:=Dj ok (.inl e)
end
noncomputable def qC (H:Hp) (a:Addr) (y:V) (r:Option V):Prop :=
 (∃ kvs k,Rd H a (.dK kvs)/\y = kV k/\r = lV kvs k)\/False
noncomputable def M7 (H:Hp) (a:Addr) (y v:V) (H':Hp):Prop :=
 (∃ kvs k,H a = some (.dK kvs)/\y = kV k/\kvs.length < sizeLine/\H' = upd H a (.dK (putK kvs k v)))\/False
theorem qC.k {H:Hp} {a:Addr} {kvs:List (Key × V)} {k:Key} (e:H a = some (.dK kvs)):qC H a (kV k) (lV kvs k):=.inl ⟨kvs,k,.inl e,rfl,rfl⟩
theorem M7.k {H:Hp} {a:Addr} {kvs:List (Key × V)} {k:Key} {v:V} (e:H a = some (.dK kvs)) (hl:kvs.length < sizeLine):M7 H a (kV k) v (upd H a (.dK (putK kvs k v))):=.inl ⟨kvs,k,e,rfl,hl,rfl⟩
section
variable {X:Cx} {pins:List (Addr × Obj)} {σ:St} {H:Hp} {s:Shared} {a:Addr} {y v:V} {u r:Value} {o:Option V} {A:Around} {E:Value->Shared->Prop}
theorem Inv.big (I:Inv X pins σ H s):sysModules < s.heap.objs.size:=by
 have h:mainGlobals < s.heap.objs.size:=(I.mod.glob.keeps I.bk).lt
 exact Nat.lt_trans (by decide) h
theorem RM {Q:Value->Shared->Prop} (hu:A.units + 1 < cLine) (I:Inv X pins σ H s) (g:qC H a y (some v)) (ry:RelV y u) (h:∀ w' s',Inv X pins σ H s'->RelV v w'->Q w' s') :
  wpAny (model X.prog X.w) A (getItem (.ref a) u) Q E s:=by
 rcases g with ⟨kvs,k,e,ey,l⟩ | hF
 .subst ey
  obtain ⟨z,hd,vs,rel,dd⟩:=Dj I.hok e
  obtain ⟨w',hw,rw'⟩:=uN.some_of (v:=v) (o:=valueAt vs k) (by rw [l]; exact rel.val k)
  exact wpAny_getItem_of (MK ry) dd.mapOf hw (h w' _ (I.tok _) rw')
 .exact hF.elim
theorem afy {Q:Value->Shared->Prop} (hu:A.units + 1 < cLine) (I:Inv X pins σ H s) (g:qC H a y o) (ry:RelV y u) (h:∀ s',Inv X pins σ H s'->Q (.bool o.isSome) s') :
  wpAny (model X.prog X.w) A (compareOp .In u (.ref a)) Q E s:=by
 rcases g with ⟨kvs,k,e,ey,l⟩ | hF
 .subst ey
  obtain ⟨z,hd,vs,rel,dd⟩:=Dj I.hok e
  refine wpAny_in_of (MK ry) hd dd.mapOf ?_
  rw [<- (rel.val k).isSome_eq,<- l]
  exact h _ (I.tok _)
 .exact hF.elim
theorem Z4 {Q:Value->Shared->Prop} (hu:A.units + 1 < cLine) (I:Inv X pins σ H s) (g:qC H a y o) (ry:RelV y u) (h:∀ s',Inv X pins σ H s'->Q (.bool (!o.isSome)) s') :
  wpAny (model X.prog X.w) A (compareOp .NotIn u (.ref a)) Q E s:=by
 rcases g with ⟨kvs,k,e,ey,l⟩ | hF
 .subst ey
  obtain ⟨z,hd,vs,rel,dd⟩:=Dj I.hok e
  refine wpAny_notIn_of (MK ry) hd dd.mapOf ?_
  rw [<- (rel.val k).isSome_eq,<- l]
  exact h _ (I.tok _)
 .exact hF.elim
theorem ZC {h':Heap} {t':Nat} {ob:HO} (I:Inv X pins σ H s) (mu:Mut (H a)) (hs:Heap.SameBut a s.heap h') (he:∃ q,h'.get? a = some q) (new:dz X.prog X.w (upd H a ob) h' a ob) :
  Inv X pins σ (upd H a ob) { s with heap:=h',toks:=t' } :=
 I.write (x:=a) (e:=a) mu (.inl rfl) (fun b q hb z=>(hs.2 b hb).trans z) he new
theorem abT {P:Program} {w:World} {H':Hp} {h':Heap} {kvs:List (Key × V)} {vs:List (Key × Value)} (z:kvs.length <= sizeLine) (hd:(a == sysModules) = false) (rel:KV kvs vs) (dd:h'.DictOf (fY P w) a vs) :
  dz P w H' h' a (.dK kvs):=⟨z,hd,vs,rel,dd⟩
theorem Tp {H':Hp} {Q:Unit->Shared->Prop} (hu:A.units + 1 < cLine) (I:Inv X pins σ H s) (g:M7 H a y v H') (ry:RelV y u) (rv:RelV v r) (h:∀ s',Inv X pins σ H' s'->Q () s') :
  wpAny (model X.prog X.w) A (setItem (.ref a) u r) Q E s:=by
 rcases g with ⟨kvs,k,e,ey,l,eH⟩ | hF
 .subst ey eH
  obtain ⟨z,hd,vs,rel,dd⟩:=adL I.hok e
  have hz:vs.length <= sizeLine:=by rw [<- rel.length]; exact z
  have hl:(putK kvs k v).length <= sizeLine:=by have:=Lf kvs k v; omega
  refine wpAny_setItem_pairs (hsz:=hz) (MK ry) dd fun h' dd' hs=>h _ ?_
  have he:∃ q,h'.get? a = some q:=let ⟨q,_,_,hq,_⟩:=dd'; ⟨q,hq⟩
  exact ZC I (by rw [e]; exact True.intro) hs he (abT hl hd (rel.put k rv) dd')
 .exact hF.elim
end
section
variable {X:Cx} {pins:List (Addr × Obj)} {σ:St} {H:Hp} {s:Shared} {a:Addr} {kvs:List (Key × V)} {k:Key} {u:Value} {A:Around} {E:Value->Shared->Prop}
end
noncomputable def adK (i:Expr):Prop:=∀ ov iv,subscripted i false ov iv = operate [ov,iv] (getItem ov iv)
theorem aaw {prog:Program} {w:World} {A:Around} {E:Value->Shared->Prop} {s:Shared} {env:Env} {value slice:Expr} {pos:Pos} {T id:String} {Q:Value->Shared->Prop}
  (hl:typeLookup (.type T) "__getitem__" = pure (some (.builtin id))) (hs:adK slice)
  (h:wpAny (model prog w) A (eval value env) (fun o s₁=>wpAny (model prog w) A (eval slice env) (fun i s₂=>s₂.TypeIs o T/\wpAny (model prog w) A (getItem o i) Q E s₂) E s₁) E s) :
  wpAny (model prog w) A (eval (.Subscript value slice pos) env) Q E s:=by
 refine Subscript_ (wpAny_mono h (fun o s₁ h₁=>wpAny_mono h₁ (fun i s₂ h₂=>?_) fun _ _ x=>x) fun _ _ x=>x)
 obtain ⟨hT,h₂⟩:=h₂
 unfold subscriptTail
 refine wpAny_bind ?_
 rw [getitemInPython_of_ne hT.not_modules]
 refine wpAny_bind (wpAny_specialOf hT hl ?_)
 have fin:wpAny (model prog w) A (subscripted slice false o i) (fun r s₃=>wpAny (model prog w) A (letTemporaryGo value o r >>= fun _=>pure r) Q E s₃) E s₂:=by
  rw [hs o i]
  exact wpAny_operating (wpAny_mono h₂ (fun r s₃ h₃=>wpAny_bind (wpAny_letTemporaryGo (wpAny_pure h₃))) fun _ _ x=>x)
 first
  | exact wpAny_pure (wpAny_bind fin)
  | exact wpAny_bind (wpAny_pure (wpAny_bind fin))
  | exact wpAny_bind fin
theorem Ms {X:Cx} {pins:List (Addr × Obj)} {σ:St} {H:Hp} {s:Shared} {a:Addr} {y:V} {o:Option V} (I:Inv X pins σ H s) (g:qC H a y o):s.TypeIs (.ref a) "dict" := by
 rcases g with ⟨kvs,k,e,_,_⟩ | hF
 .obtain ⟨_,_,vs,_,dd⟩:=Dj I.hok e
  exact dd.typeIs
 .exact hF.elim
noncomputable def Rk (td ty:TE):TE:=fun σ H Q=>td σ H fun x H1=>ty σ H1 fun y H2=>∃ a v,x = .ref a/\qC H2 a y (some v)/\Q v H2
noncomputable def Y0 (ty td:TE):TE:=fun σ H Q=>ty σ H fun y H1=>td σ H1 fun x H2=>∃ a o,x = .ref a/\qC H2 a y o/\Q (.bl o.isSome) H2
noncomputable def Bf (ty td:TE):TE:=fun σ H Q=>ty σ H fun y H1=>td σ H1 fun x H2=>∃ a o,x = .ref a/\qC H2 a y o/\Q (.bl (!o.isSome)) H2
noncomputable def Rh (td ty tv:TE):TS:=fun D σ H=>tv σ H fun v H1=>td σ H1 fun x H2=>ty σ H2 fun y H3=>∃ a H4,x = .ref a/\M7 H3 a y v H4/\D.nx σ H4
section
variable {X:Cx} {o i e value:Expr} {pos pos' tpos:Pos} {td ty tv:TE}
theorem G5 (hu:X.A.units + 1 < cLine) (ho:PE X o td) (hi:PE X i ty) (hs:adK i):PE X (.Subscript o i pos) (Rk td ty):=by
 intro pins s σ H Q I h
 refine aaw PySem.F.slot_dict_getitem.lookup hs (thn (ho pins s σ H _ I h) fun u s1 ⟨x,H1,I1,rx,q1⟩=>thn (hi pins s1 σ H1 _ I1 q1) fun iv s2 ⟨y,H2,I2,ry,a,v,ex,g,q2⟩=>?_)
 subst ex
 obtain rfl:u = Value.ref a:=rx
 exact ⟨Ms I2 g,RM hu I2 g ry fun w' s3 I3 rw'=>⟨v,H2,I3,rw',q2⟩⟩
theorem XH (hu:X.A.units + 1 < cLine) (hi:PE X i ty) (ho:PE X o td):PC X .In i o (Y0 ty td):=by
 intro pins s σ H Q I h
 refine thn (hi pins s σ H _ I h) fun iv s1 ⟨y,H1,I1,ry,q1⟩=>thn (ho pins s1 σ H1 _ I1 q1) fun u s2 ⟨x,H2,I2,rx,a,ov,ex,g,q2⟩=>?_
 subst ex
 obtain rfl:u = Value.ref a:=rx
 exact afy hu I2 g ry fun s3 I3=>⟨.bl ov.isSome,H2,I3,rfl,q2⟩
theorem Te (hu:X.A.units + 1 < cLine) (hi:PE X i ty) (ho:PE X o td):PC X .NotIn i o (Bf ty td):=by
 intro pins s σ H Q I h
 refine thn (hi pins s σ H _ I h) fun iv s1 ⟨y,H1,I1,ry,q1⟩=>thn (ho pins s1 σ H1 _ I1 q1) fun u s2 ⟨x,H2,I2,rx,a,ov,ex,g,q2⟩=>?_
 subst ex
 obtain rfl:u = Value.ref a:=rx
 exact Z4 hu I2 g ry fun s3 I3=>⟨.bl (!ov.isSome),H2,I3,rfl,q2⟩
theorem Aj (hu:X.A.units + 1 < cLine) (ho:PE X o td) (hi:PE X i ty) (hv:PE X value tv) (hs:swapsWith value (some (.Subscript o i pos')) pos.line X.env = pure false) :
  PS X (.Assign [.Subscript o i pos'] value pos) (Rh td ty tv):=by
 intro pins s σ H D I h
 refine wpAny_Assign_Subscript (thn (hv pins s σ H _ I h) fun r s1 ⟨v,H1,I1,rv,q1⟩=>thn (ho pins s1 σ H1 _ I1 q1) fun u s2 ⟨x,H2,I2,rx,q2⟩=>thn (hi pins s2 σ H2 _ I2 q2) fun iv s3 ⟨y,H3,I3,ry,a,H4,ex,g,q3⟩=>?_) hs
 subst ex
 obtain rfl:u = Value.ref a:=rx
 exact Tp hu I3 g ry rv fun s4 I4=>⟨σ,H4,I4,q3⟩
end
theorem Yb {P:Program} {w:World} {H:Hp} (h:Heap) (hb:sysModules < h.objs.size):dz P w H (h.push { cls:=.type "dict",data:=.dict #[] }) h.objs.size (.dK []) :=
 ⟨bh _,beq_eq_false_iff_ne.mpr (Ne.symm (aR hb)),[],.nil,Heap.DictOf.new h⟩
noncomputable def Iz:TE:=fun _ H Q=>∀ p,H p = none->Q (.ref p) (upd H p (.dK []))
section
variable {X:Cx} {pos:Pos}
theorem xG:PE X (.Dict [] [] pos) Iz:=fun pins s σ H Q I h =>
 wpAny_Dict_empty ⟨.ref s.heap.objs.size,_,I.laid (a:=s.heap.objs.size) (o:=.dK []) (t':=s.toks) (fun _ _ q=>aG _ q) (aF _) (Yb s.heap I.big),rfl,h _ (I.hok.fresh (aF _))⟩
end
structure M2 (X:Cx) (o:Expr) (m:Str) (apos:Pos) (e f:Expr) (cpos:Pos):Prop where
 base:attributeBase o m X.env (eval o X.env) = eval o X.env
 few:((backTo cpos (starEach [e,f] X.env)).all (fun x=>!x.1) && (backToKw cpos (keywordEach [] X.env)).all (fun x=>x.1.isSome)
  && decide (([e,f] : List Expr).length + ([] : List Keyword).length + (if ([] : List Keyword).isEmpty then 0 else 1) < 30)) = true
 line:(apos.endLine == cpos.line) = true
 trees:backTo cpos (starEach [e,f] X.env) = [(false,eval e X.env),(false,eval f X.env)]
noncomputable def IsD (H:Hp) (a:Addr):Prop:=(∃ kvs,Rd H a (.dK kvs))\/False
theorem aa6 {X:Cx} {pins:List (Addr × Obj)} {σ:St} {H:Hp} {s:Shared} {a:Addr} (I:Inv X pins σ H s) (d:IsD H a) :
  s.TypeIs (.ref a) "dict" /\ (∀ b,Value.ref a = .ref b->∃ ob,s.heap.get? b = some ob/\ob.dict = none)/\(a == sysModules) = false:=by
 rcases d with ⟨kvs,e⟩ | hF
 .obtain ⟨_,hd,vs,_,dd⟩:=Dj I.hok e
  refine ⟨dd.typeIs,fun b q=>?_,hd⟩
  cases q
  obtain ⟨ob,_,_,h1,h2,_⟩:=dd
  exact ⟨ob,h1,h2.2.1⟩
 .exact hF.elim
section
variable {X:Cx} {pins:List (Addr × Obj)} {σ:St} {H:Hp} {s:Shared} {a:Addr} {y d:V} {u r:Value} {o:Option V} {A:Around} {E:Value->Shared->Prop}
theorem aa3 {Q:Value->Shared->Prop} (hu:A.units + 1 < cLine) (I:Inv X pins σ H s) (g:qC H a y o) (ry:RelV y u) (rd:RelV d r) (h:∀ w' s',Inv X pins σ H s'->RelV (o.getD d) w'->Q w' s') :
  wpAny (model X.prog X.w) A (call (.builtin "dict.get") [.ref a,u,r]) Q E s:=by
 rcases g with ⟨kvs,k,e,ey,l⟩ | hF
 .subst ey
  obtain ⟨z,hd,vs,rel,dd⟩:=Dj I.hok e
  refine call_meetsIn PySem.F.slot_dict_get dd.typeIs PySem.F.entry_dict_get (PySem.F.args_dict_get_3 _ _ _) (meets_dict_get_default (fY X.prog X.w) a (MK ry) hd r) ⟨_,dd.mapOf,h _ _ (I.tok _) ?_⟩
  rw [l]
  exact (rel.val k).getD rd
 .exact hF.elim
end
noncomputable def Kg (td ty tx:TE):TE:=fun σ H Q=>td σ H fun x H1=>∃ a,x = .ref a/\IsD H1 a/\ty σ H1 fun y H2=>tx σ H2 fun z H3=>∃ o,qC H3 a y o/\Q (o.getD z) H3
section
variable {X:Cx} {o e f:Expr} {apos cpos:Pos} {td ty tx:TE}
theorem Mq (hu:X.A.units + 1 < cLine) (ho:PE X o td) (he:PE X e ty) (hf:PE X f tx) (m:M2 X o "get" apos e f cpos):PE X (.Call (.Attribute o "get" apos) [e,f] [] cpos) (Kg td ty tx):=by
 intro pins s σ H Q I h
 refine wpAny_Call_method m.base m.few m.line PySem.F.plainAttrs_dict PySem.F.slot_dict_get PySem.F.type_dict_get (thn (ho pins s σ H _ I h) fun u s1 ⟨x,H1,I1,rx,a,ex,d,q1⟩=>?_)
 subst ex
 obtain rfl:u = Value.ref a:=rx
 obtain ⟨t1,t2,_⟩:=aa6 I1 d
 refine ⟨t1,t2,?_⟩
 rw [m.trees]
 refine Calls.callWith_builtin rfl (Calls.evalArgs_plain (Calls.spliced_cons (thn (he pins s1 σ H1 _ I1 q1) fun iv s2 ⟨y,H2,I2,ry,q2⟩ =>
  Calls.spliced_cons (thn (hf pins s2 σ H2 _ I2 q2) fun fv s3 ⟨z,H3,I3,rz,ov,g,q3⟩=>Calls.spliced_nil ?_))))
 exact aa3 hu I3 g ry rz fun w' s4 I4 rw'=>⟨_,H3,I4,rw',q3⟩
end
section
variable {X:Cx} {pins:List (Addr × Obj)} {σ:St} {H:Hp} {s:Shared} {a:Addr} {kvs:List (Key × V)} {A:Around} {E:Value->Shared->Prop}
end
section
variable {X:Cx} {pins:List (Addr × Obj)} {σ:St} {H:Hp} {s:Shared} {a:Addr} {y:V} {u:Value} {A:Around} {E:Value->Shared->Prop}
end
section
variable {κ:Type} [DecidableEq κ]
end
end L2
namespace L2
open PySem PySem.Spec PyProof.Rows
noncomputable def Itk (a:Addr) (o:Obj) (kvs:List (Key × V)):It:=⟨fun i H=>H a = some (.frz o (.dK kvs))/\i < kvs.length,fun i H v H'=>H' = H/\∃ k y,kvs[i]? = some (k,y)/\v = kV k,fun i H=>H a = some (.frz o (.dK kvs))/\i = kvs.length⟩
theorem aaF {P:Program} {w:World} {k:Key} {u:Value} (h:(fY P w).is k u = true):RelV (kV k) u:=by
 have h:wK k u = true:=h
 cases k with
 | inl i =>
  cases u <;> simp [wK,Value.isInt] at h
  .subst h; exact ⟨_,rfl⟩
 | inr x =>
  cases u <;> simp [wK,Value.isStrOf] at h
  .subst h; exact ⟨_,rfl⟩
theorem KV.at {κ:Type} {kvs:List (κ × V)} {vs:List (κ × Value)} (r:KV kvs vs):∀ {i:Nat} {k:κ} {y:V},kvs[i]? = some (k,y)->∃ u,vs[i]? = some (k,u)/\RelV y u:=by
 unfold KV at r
 induction r with
 | nil=>intro i k y h; cases h
 | @cons p q ps qs h t ih =>
  intro i k y e
  cases i with
  | zero =>
   rw [List.getElem?_cons_zero] at e
   cases e
   obtain ⟨q1,q2⟩:=q
   obtain ⟨h1,h2⟩:=h
   cases h1
   exact ⟨q2,rfl,h2⟩
  | succ i =>
   rw [List.getElem?_cons_succ] at e ⊢
   exact ih e
theorem Ss {P:Program} {w:World} {K:Frag} {tg:Expr} (it a:Addr) (o:Obj) (kvs:List (Key × V)) (vs:List (Key × Value)) (ep:Nat) (rel:KV kvs vs) (hD:∀ h:Heap,h.get? a = some o->h.DictAt (fY P w) a vs ep) :
  Turn P w K tg (Itk a o kvs) [it] it (fun i h=>h.IsKeyIter it a i vs.length ep) where
 mem:=by simp
 obj:=fun i h st b hb=>by
  have e:b = it:=by simpa using hb
  subst e
  obtain ⟨o,ho,_,hd⟩:=st
  exact ⟨o,ho,fun v z=>by rw [hd] at z; cases z⟩
 keep:=fun i h h' st k=>let ⟨o,ho,r⟩:=st; ⟨o,k it (by simp) o ho,r⟩
 item:=by
  intro X hP hw hK hc i pins s σ H E I hf st hg
  subst hP hw hK
  obtain ⟨hg,hlt⟩:=hg
  obtain ⟨ho,_⟩:=(show dz X.prog X.w H s.heap a (.frz o (.dK kvs)) from I.hok a _ hg)
  obtain ⟨f0,f1,f2,f3,f4,f5⟩:=hf it (by simp)
  obtain ⟨⟨k,y⟩,hx⟩ : ∃ p,kvs[i]? = some p:=⟨kvs[i],by simp [hlt]⟩
  obtain ⟨u,hu,ru⟩:=rel.at hx
  refine wpAny_pyNext_dict_item st (hD _ ho) hu fun key h' hkey st' sb=>?_
  have I1:Inv X pins σ H { s with heap:=h' }:=I.turned (t':=s.toks) (fun b ob hb e=>(sb.2 b hb).trans e) f0 f1 f3 f4 f5
  obtain ⟨oi,e,c,d⟩:=id st'
  exact ⟨key,rfl,Qw (s:={ s with heap:=h' }) e c d (by decide) ⟨kV k,H,I1,aaF hkey,⟨rfl,k,y,hx,rfl⟩,st',fun b hb=>(hf b hb).1⟩⟩
 done:=by
  intro X hP hw hK hc i pins s σ H E I hf st hg
  subst hP hw hK
  obtain ⟨hg,rfl⟩:=hg
  obtain ⟨ho,_⟩:=(show dz X.prog X.w H s.heap a (.frz o (.dK kvs)) from I.hok a _ hg)
  obtain ⟨f0,f1,f2,f3,f4,f5⟩:=hf it (by simp)
  have hl:=rel.length
  exact wpAny_pyNext_dict_end (I.ok.hd hc) st (hD _ ho) (by simp; omega) fun h' eb=>⟨rfl,I.turned (t':=s.toks) (fun b ob hb e=>eb b ob hb e) f0 f1 f3 f4 f5⟩
 self:=fun _ _ _ _ _ st h=>wpAny_pyIter_keyiter st h
section
variable {X:Cx} {tg:Expr}
noncomputable def aaL (te:TE):TI:=fun σ H R=>te σ H fun x H1=>∃ a kvs,x = .ref a/\H1 a = some (.dK kvs)/\∀ o,R (Itk a o kvs) (upd H1 a (.frz o (.dK kvs)))
theorem Zg {l:Expr} {tl:TE} (hl:PE X l tl):PI X tg l (aaL tl):=by
 intro pins s σ H R I h
 refine thn (hl pins s σ H _ I h) fun v s1 ⟨x,H1,I1,r1,a,kvs,ex,ha,q⟩=>?_
 subst ex
 cases r1
 have ok:=(show dz X.prog X.w H1 s1.heap a (.dK kvs) from I1.hok a _ ha)
 obtain ⟨z,hd,vs,rel,o,es,ep,e,ex,ed,ek,epr,en⟩:=ok
 have hD:∀ h:Heap,h.get? a = some o->h.DictAt (fY X.prog X.w) a vs ep:=fun h e=>⟨o,es,e,ex,ed,ek,epr,en⟩
 have I2:Inv X pins σ (upd H1 a (.frz o (.dK kvs))) s1:=by
  have:=I1.write (x:=a) (e:=a) (o:=.frz o (.dK kvs)) (h':=s1.heap) (t':=s1.toks) (by rw [ha]; exact True.intro) (.inl rfl) (fun b u hb z=>z) ⟨o,e⟩ ⟨e,z,hd,vs,rel,o,es,ep,e,ex,ed,ek,epr,en⟩
  exact this
 refine wpAny_pyIter_dict hd (hD _ e) ?_
 refine ⟨s1.heap.objs.size,[s1.heap.objs.size],_,Itk a o kvs,_,rfl,I2.kept (t':=s1.toks) fun b ob z=>aG _ z,Ss _ a o kvs vs ep rel hD,⟨_,aY _ rfl,rfl,rfl⟩,fun b hb=>?_,q o⟩
 have e:b = s1.heap.objs.size:=by simpa using hb
 subst e
 exact I2.fpOk (aF _) (I2.hok.fresh (aF _))
noncomputable def tMG (g:TG):TG:=fun v σ H Q=>∃ R:L2.St->Hp->Prop,g v σ H R/\∀ σ' H',R σ' H'->Q σ' H'
noncomputable def tMT (t:TT):TT:=fun σ H Q=>∃ R:Bool->Hp->Prop,t σ H R/\∀ b H',R b H'->Q b H'
theorem PG.mono {e:Expr} {g:TG} (h:PG X e g):PG X e (tMG g):=fun pins s σ H v u Q I r ⟨R,h1,h2⟩=>thn (h pins s σ H v u R I r h1) fun _ s' ⟨σ',H',I',q⟩=>⟨σ',H',I',h2 σ' H' q⟩
theorem PTs.mono {ifs:List Expr} {t:TT} (h:PTs X ifs t):PTs X ifs (tMT t):=fun pins s σ H Q I ⟨R,h1,h2⟩=>thn (h pins s σ H R I h1) fun b s' ⟨H',I',q⟩=>⟨H',I',h2 b H' q⟩
theorem Gn {elt iter tg:Expr} {pos:Pos} {scope:Scope} {wi:TI} {te:TE} {ifs:List Expr} {gt:TG} {tc:TT} (sc:Scope) (N N' xs:List Str) (hsc:X.env.scope = sc) (hNN:X.N = N) (hc:X.calm = true) (hsh:yr xs N = N') (hN:(xs ++ N').Nodup) (hkind:scope.kind = .function) (hcell:∀ y ∈ scope.names,y.2 ≠ .cell)
  (hnames:∀ y ∈ scope.names,y.2 = .local->scope.names.lookup y.1 = some .local) (hfree:∀ y ∈ scope.names,y.2 = .free->sc.names.lookup y.1 = some .cell\/sc.names.lookup y.1 = some .free)
  (hloc:∀ y ∈ N,y ∉ xs->(scope.names.map fun (n,k)=>if (k == NameKind.free && sc.kind == .function && sc.names.lookup n == some .cell) then (n,NameKind.cell) else (n,k)).lookup y ≠ some .local)
  (hq:∀ y ∈ N,y ∈ xs->(scope.names.map fun (n,k)=>if (k == NameKind.free && sc.kind == .function && sc.names.lookup n == some .cell) then (n,NameKind.cell) else (n,k)).lookup (hid y) = none) (hi:PI X tg iter wi)
  (hg:∀ C s₀ H₀ ex pn,PG (X.compG N' scope xs C s₀ H₀ ex pn) tg gt) (ht:∀ C s₀ H₀ ex pn,PTs (X.compG N' scope xs C s₀ H₀ ex pn) ifs tc) (he:∀ C s₀ H₀ ex pn,PE (X.compG N' scope xs C s₀ H₀ ex pn) elt te) (hs:∀ z,foldedSetIterable iter X.env z = pure z:=by intro _; rfl) :
  PE X (.ListComp elt [⟨tg,iter,ifs,0⟩] scope pos) (dO wi xs.length (tMG gt) (tMT tc) (tM te)):=by
 subst hsc hNN
 exact Lr hc hsh hN hkind hcell hnames hfree hloc hq hi (fun C s₀ H₀ ex pn=>(hg C s₀ H₀ ex pn).mono) (fun C s₀ H₀ ex pn=>(ht C s₀ H₀ ex pn).mono) (fun C s₀ H₀ ex pn=>(he C s₀ H₀ ex pn).mono) hs
noncomputable def vI (n:Nat) (gt:TG) (tc:TT) (te:TE) (x:V) (σ:L2.St) (H:Hp) (Y:VK) (No:Hp->Prop):Prop:=∀ pre:L2.St,pre.length = n->gt x (pre ++ σ) H fun σ2 H2=>∃ pre':L2.St,pre'.length = n/\σ2 = pre' ++ σ/\tc σ2 H2 fun b H3 =>
 match b with
 | true=>te σ2 H3 Y
 | false=>No H3
theorem vI.weak {n:Nat} {gt:TG} {tc:TT} {te:TE} {x:V} {σ:L2.St} {H:Hp} {Y Y':VK} {No No':Hp->Prop} (h:vI n gt tc te x σ H Y No) (h1:∀ y H',Y y H'->Y' y H') (h2:∀ H',No H'->No' H'):vI n (tMG gt) (tMT tc) (tM te) x σ H Y' No':=fun pre hp =>
 ⟨_,h pre hp,fun σ2 H2 ⟨pre',e1,e2,q⟩=>⟨pre',e1,e2,_,q,fun b H3 z=>match b,z with
  | true,z=>⟨_,z,h1⟩
  | false,z=>h2 H3 z⟩⟩
theorem j5 {K:Frag} {tl te:TE} {gt:TG} {tc:TT} {n:Nat} {σ:L2.St} {H:Hp} {Q:VK} (h:tl σ H fun x H1=>∃ a xs,x = .ref a/\H1 a = some (.lst xs)/\xs.length <= sizeLine/\∀ D,H1 D = none->∃ J:Nat->List V->Hp->Prop,J 0 [] (upd H1 D (.lst [])) /\
   (∀ k x ys Hc,xs[k]? = some x->J k ys Hc->ys.length <= k->Hc a = some (.lst xs)->vI n gt tc te x σ Hc (fun y H2=>H2 D = some (.lst ys)/\H2 a = some (.lst xs)/\J (k + 1) (ys ++ [y]) (upd H2 D (.lst (ys ++ [y])))) fun H2=>H2 a = some (.lst xs)/\J (k + 1) ys H2) /\
   ∀ ys Hc,J xs.length ys Hc->ys.length <= xs.length->Q (.ref D) Hc):dO (pK K (tM tl)) n (tMG gt) (tMT tc) (tM te) σ H Q:=by
 refine ⟨_,h,?_⟩
 rintro x H1 ⟨a,xs,rfl,hx,hz,rest⟩
 refine ⟨a,rfl,⟨xs,.of hx⟩,fun D hD=>?_⟩
 obtain ⟨J,j0,step,fin⟩:=rest D hD
 have ne:a ≠ D:=bD hx hD
 refine ⟨fun k m ys Hc=>k <= xs.length/\m = xs.length - k/\ys.length <= k/\Hc a = some (.lst xs)/\J k ys Hc,⟨_,bh _,rfl,bh _,(bF ne).trans hx,j0⟩,?_⟩
 rintro k m ys Hc ⟨hk,rfl,hy,hx',j⟩
 by_cases e:k = xs.length
 .subst e
  exact .inl ⟨⟨xs,.of hx',aF _⟩,fin ys Hc j hy⟩
 .have hlt:k < xs.length:=by omega
  refine .inr ⟨⟨xs,_,.of hx',aj hlt⟩,?_⟩
  rintro x H'' ⟨rfl,y⟩
  refine (step k x ys H'' (y xs (.of hx')) j hy hx').weak ?_ ?_
  .rintro yv H2 ⟨z1,z2,z3⟩
   refine ⟨by omega,z1,xs.length - (k + 1),by omega,by omega,rfl,?_,?_,z3⟩
   .rw [aA]; simp; omega
   .rw [bF ne]; exact z2
  .rintro H2 ⟨z2,z3⟩
   exact ⟨xs.length - (k + 1),by omega,by omega,rfl,by omega,z2,z3⟩
theorem Lb {tl te:TE} {gt:TG} {tc:TT} {n:Nat} {σ:L2.St} {H:Hp} {Q:VK} (h:tl σ H fun x H1=>∃ a kvs,x = .ref a/\H1 a = some (.dK kvs)/\kvs.length <= sizeLine/\∀ o D,upd H1 a (.frz o (.dK kvs)) D = none->∃ J:Nat->List V->Hp->Prop,J 0 [] (upd (upd H1 a (.frz o (.dK kvs))) D (.lst [])) /\
   (∀ i k y ys Hc,kvs[i]? = some (k,y)->J i ys Hc->ys.length <= i->Hc a = some (.frz o (.dK kvs))->vI n gt tc te (kV k) σ Hc (fun y H2=>H2 D = some (.lst ys)/\H2 a = some (.frz o (.dK kvs))/\J (i + 1) (ys ++ [y]) (upd H2 D (.lst (ys ++ [y])))) fun H2=>H2 a = some (.frz o (.dK kvs))/\J (i + 1) ys H2) /\
   ∀ ys Hc,J kvs.length ys Hc->ys.length <= kvs.length->Q (.ref D) Hc):dO (aaL (tM tl)) n (tMG gt) (tMT tc) (tM te) σ H Q:=by
 refine ⟨_,h,?_⟩
 rintro x H1 ⟨a,kvs,rfl,hx,hz,rest⟩
 refine ⟨a,kvs,rfl,hx,fun o D hD=>?_⟩
 obtain ⟨J,j0,step,fin⟩:=rest o D hD
 have ne:a ≠ D:=bD bC hD
 refine ⟨fun k m ys Hc=>k <= kvs.length/\m = kvs.length - k/\ys.length <= k/\Hc a = some (.frz o (.dK kvs))/\J k ys Hc,⟨_,bh _,rfl,bh _,(bF ne).trans bC,j0⟩,?_⟩
 rintro k m ys Hc ⟨hk,rfl,hy,hx',j⟩
 by_cases e:k = kvs.length
 .subst e
  exact .inl ⟨⟨hx',rfl⟩,fin ys Hc j hy⟩
 .have hlt:k < kvs.length:=by omega
  refine .inr ⟨⟨hx',hlt⟩,?_⟩
  rintro x H'' ⟨rfl,kk,yy,hkk,rfl⟩
  refine (step k kk yy ys H'' hkk j hy hx').weak ?_ ?_
  .rintro yv H2 ⟨z1,z2,z3⟩
   refine ⟨by omega,z1,kvs.length - (k + 1),by omega,by omega,rfl,?_,?_,z3⟩
   .rw [aA]; simp; omega
   .rw [bF ne]; exact z2
  .rintro H2 ⟨z2,z3⟩
   exact ⟨kvs.length - (k + 1),by omega,by omega,rfl,by omega,z2,z3⟩
end
end L2
namespace L2
open PySem PySem.Spec PyProof.Rows
theorem Same.tup {K:Frag} {H H':Hp} {a:Addr} {xs:List V} (e:Same H H') (h:SqT K H a xs):SqT K H' a xs:=by
 rcases h with (h | ⟨o,h⟩) | h
 .exact .inl (.inl (e _ _ h))
 .exact .inl (.inr ⟨o,e _ _ h⟩)
 .exact .inr h
theorem SqT.updO {K:Frag} {H:Hp} {a l:Addr} {xs:List V} {o u:HO} (h:SqT K H a xs) (hl:H l = some o) (h1:∀ ys,o ≠ .tup ys) (h2:∀ ob ys,o ≠ .frz ob (.tup ys)):SqT K (upd H l u) a xs:=by
 rcases h with (h | ⟨ob,h⟩) | h
 .exact .inl (.inl ((bF (eY h hl (fun z=>h1 xs z.symm))).trans h))
 .exact .inl (.inr ⟨ob,(bF (eY h hl (fun z=>h2 ob xs z.symm))).trans h⟩)
 .exact .inr h
mutual
inductive j_ (K:Frag) (H:Hp):V->PyData->Prop
 | non:j_ K H .non .none
 | bl (b:Bool):j_ K H (.bl b) (.bool b)
 | int (i:Int):j_ K H (.int i) (.int i)
 | str (x:Str):j_ K H (.str x) (.str x)
 | lst {a:Addr} {xs:List V} {ds:List PyData} : H a = some (.lst xs)->cV K H xs ds->j_ K H (.ref a) (.list ds)
 | tup {a:Addr} {xs:List V} {ds:List PyData} : SqT K H a xs->cV K H xs ds->j_ K H (.ref a) (.tuple ds)
inductive cV (K:Frag) (H:Hp):List V->List PyData->Prop
 | nil:cV K H [] []
 | cons {x:V} {xs:List V} {d:PyData} {ds:List PyData} : j_ K H x d->cV K H xs ds->cV K H (x :: xs) (d :: ds)
end
mutual
theorem j_.same {K:Frag} {H H':Hp} (S:Same H H'):∀ {x:V} {d:PyData},j_ K H x d->j_ K H' x d
 | _,_,.non=>.non
 | _,_,.bl b=>.bl b
 | _,_,.int i=>.int i
 | _,_,.str x=>.str x
 | _,_,.lst e h=>.lst (S _ _ e) (cV.same S h)
 | _,_,.tup e h=>.tup (S.tup e) (cV.same S h)
theorem cV.same {K:Frag} {H H':Hp} (S:Same H H'):∀ {xs:List V} {ds:List PyData},cV K H xs ds->cV K H' xs ds
 | _,_,.nil=>.nil
 | _,_,.cons h t=>.cons (j_.same S h) (cV.same S t)
end
theorem cV.ints (K:Frag) (H:Hp):∀ ns:List Int,cV K H (ns.map V.int) (ns.map PyData.int)
 | []=>.nil
 | n :: ns=>.cons (.int n) (cV.ints K H ns)
section
variable {X:Cx} {pins:List (Addr × Obj)} {σ:L2.St} {H:Hp} {s:Shared}
mutual
theorem Inv.readsK (I:Inv X pins σ H s):∀ {x:V} {d:PyData} {v:Value},j_ X.K H x d->RelV x v->∃ as,Reads s.heap v d as
 | _,_,_,.non,r=>by cases r; exact ⟨_,.none⟩
 | _,_,_,.bl b,r=>by cases r; exact ⟨_,.bool b⟩
 | _,_,_,.int i,r=>by obtain ⟨t,rfl⟩:=r; exact ⟨_,.int i t⟩
 | _,_,_,.str x,r=>by obtain ⟨t,rfl⟩:=r; exact ⟨_,.str x t⟩
 | _,_,_,.lst e h,r=>by
  cases r
  obtain ⟨its,rv,⟨o,ho,hc,n,hd⟩⟩:=I.lstIs e
  obtain ⟨as,q⟩:=Inv.readsAllK I h rv
  exact ⟨_,.list ho hc hd q⟩
 | _,_,_,.tup e h,r=>by
  cases r
  obtain ⟨its,rv,⟨o,ho,hc,n,hd⟩,_⟩:=I.tuple e
  obtain ⟨as,q⟩:=Inv.readsAllK I h rv
  exact ⟨_,.tuple ho hc hd q⟩
theorem Inv.readsAllK (I:Inv X pins σ H s):∀ {xs:List V} {ds:List PyData} {vs:List Value},cV X.K H xs ds->Vals xs vs->∃ as,ReadsAll s.heap vs ds as
 | _,_,_,.nil,r=>by cases r; exact ⟨_,.nil⟩
 | _,_,_,.cons h t,r=>by
  cases r with
  | cons r1 r2 =>
   obtain ⟨a,q1⟩:=Inv.readsK I h r1
   obtain ⟨b,q2⟩:=Inv.readsAllK I t r2
   exact ⟨_,.cons q1 q2⟩
end
noncomputable def Vu (K:Frag) (neg:Bool):R2:=fun x y H Q=>∃ d e,j_ K H x d/\j_ K H y e/\SeqAt.shaped d = true/\SeqAt.shaped e = true/\Q (.bl (if neg then !PyData.eqv d e else PyData.eqv d e)) H
theorem aaZ (hu:X.A.units + 64 < cLine):OpR X (compareOp .NotEq) (Vu X.K true):=by
 intro pins s σ H x y v u Q I rx ry h
 obtain ⟨d,e,hd,he,sd,se,q⟩:=h
 obtain ⟨as,ra⟩:=I.readsK hd rx
 obtain ⟨bs,rb⟩:=I.readsK he ry
 exact SeqAt.compareNe_shaped ra rb sd se hu ⟨.bl _,H,I,rfl,q⟩
end
section
variable {X:Cx}
noncomputable def QK (K:Frag):List V->Hp->VK->Prop:=fun xs H Q=>∃ p ys,xs = [.ref p]/\SqT K H p ys/\Q (.int ys.length) H
theorem RK:fX X (.builtin "len") (QK X.K):=xP.imp fun xs H Q ⟨p,ys,a,b,c⟩=>⟨p,ys,a,.inr b,c⟩
noncomputable def Bh (K:Frag):List V->Hp->VK->Prop:=fun xs H Q=>∃ p T ys,xs = [.ref p,.ty T]/\T ∈ ["bool", "int", "str", "list", "tuple", "dict"]/\SqT K H p ys/\Q (.bl (Uh "tuple" T)) H
theorem Kz:fX X (.builtin "isinstance") (Bh X.K):=by
 intro pins s σ H xs us Q I r h
 obtain ⟨p,T,ys,rfl,hT,hp,q⟩:=h
 obtain ⟨u,v,rfl,ru,rv⟩:=r.two
 cases ru
 cases rv
 obtain ⟨its,rvs,⟨o,ho,hc,n,hd⟩,_⟩:=I.tuple hp
 refine PySem.W.kia_one (PySem.W.kitx_tuple (a:=p)) I.kIn ⟨o,ho,hc⟩ (Ry (K:=X.K) (t := "tuple") (by decide) hT) (fun z=>nomatch z) fun tk=>⟨.bl _,H,I.tok _,rfl,q⟩
end
end L2
namespace L2
open PySem PySem.Spec PyProof.Rows
noncomputable def OkI (P:Program) (w:World) (K:Frag) (mg:Str->Option Value) (base:Heap) (CX:CXT) (k:Nat) (f:Addr) (ps:List Str) (sp:Sp):Prop:=∃ fd,cu P w K mg base CX k f fd ps sp/\Binds K fd ps []
noncomputable def rC (K:Frag) (x qual:Str) (st:Stmt) (ps:List Str) (f:Addr):Prop:=∃ fd,Fun K x qual st f fd/\∀ us:List Value,us.length = ps.length->bindArgs fd ⟨us,[]⟩ = pure (ps.zip us)
theorem rC.ok {P:Program} {w:World} {K:Frag} {mg:Str->Option Value} {base:Heap} {CX:CXT} {k:Nat} {x qual:Str} {st:Stmt} {ps:List Str} {f:Addr} {sp:Sp} (h:rC K x qual st ps f) (hf:∀ fd,Fun K x qual st f fd->cu P w K mg base CX k f fd ps sp):OkI P w K mg base CX k f ps sp :=
 let ⟨fd,a,b⟩:=h; ⟨fd,hf fd a,.all b⟩
theorem Yx {K:Frag} {x qual:Str} {st:Stmt} {ps:List Str} {f:Addr} {oc:Value} {od an:Option Addr} {osl:Array (Option Value)} {kV doc pm cdv ct:Value}
  (l:K.lookup f = some ⟨oc,od,.func (PySem.W.fnOf x qual (jt st) (gj st) (bK st) .none kV doc pm an cdv ct),osl⟩) (c:PySem.W.codeIn K cdv qual = true) (k:PySem.W.keepIn K (.ref f) = true)
  (hb:∀ (kV doc pm:Value) (an:Option Addr) (cdv ct:Value) (us:List Value),us.length = ps.length->bindArgs (PySem.W.fnOf x qual (jt st) (gj st) (bK st) .none kV doc pm an cdv ct) ⟨us,[]⟩ = pure (ps.zip us)):rC K x qual st ps f :=
 ⟨_,XM l c k,hb kV doc pm an cdv ct⟩
section
variable {X:Cx} {k:Nat} {f C B:Addr} {ps:List Str} {sp:Sp} {x m:Str} {p pos apos:Pos} {e o:Expr} {es:List Expr} {ta:TE} {t:TA} {Ex:Value->Option Addr->L2.St->Hp->Prop}
theorem PE.any {ι:Sort _} {R:ι->Prop} {a:Expr} {ts:ι->TE} (h:∀ i,R i->PE X a (ts i)):PE X a (fun σ H Q=>∃ i,R i/\ts i σ H Q):=fun pins s σ H Q I ⟨i,r,q⟩=>h i r pins s σ H Q I q
noncomputable def JV (C:Addr) (sp:Sp) (Ex:Value->Option Addr->L2.St->Hp->Prop) (t:TA):TE:=fun σ H Q=>t σ H fun vs H1=>∀ x dx,H1 x = none->H1 dx = none->dx ≠ x->sp (.ref x :: vs) (upd (upd H1 dx (.own x)) x (.ins C dx [])) (fun v H2=>v = .non/\Q (.ref x) H2) fun E d H'=>Ex E d σ H'
theorem uH (M:Mk X.K C f) (G:OkI X.prog X.w X.K X.mg X.base (CXO X.prog X.w) k f ps sp) (hr:gJ (k + 1) X.A) (hg:Gl X x) (hm:X.mg x = some (.ref C)) (hx:Bu X Ex) (ha:PA X (e :: es) t) (hdb:(x == ("__debug__" : Str)) = false:=by decide)
  (he:starEach (e :: es) X.env = (false,eval e X.env) :: starEach es X.env:=by rfl) (hpl:(backTo pos (starEach es X.env)).any (·.1) = false:=by rfl):PE X (.Call (.Name x p) (e :: es) [] pos) (JV C sp Ex t):=by
 obtain ⟨fd,F,hb⟩:=G
 refine (Wu M F hr hg hm hb .nil hx ha.mono hdb he hpl).imp fun σ H Q h=>⟨_,h,fun vs H1 q x dx h1 h2 h3=>?_⟩
 rw [List.append_nil]
 exact q x dx h1 h2 h3
noncomputable def Ea (C:Addr) (m:Str) (sp:Sp) (ta:TE) (t:TA):TE:=fun σ H Q=>ta σ H fun x H1=>∃ a dx fs,x = .ref a/\H1 a = some (.ins C dx fs)/\fs.lookup m = none/\t σ H1 fun vs H2=>sp (x :: vs) H2 Q E0
theorem Dp {pl:Sem Bool} (he:PE X o ta) (c:Cls X.K C) (hm:Meth X.K C m f) (G:OkI X.prog X.w X.K X.mg X.base CX0 k f ps sp) (hr:gJ k X.A) (ha:PA X (e :: es) t)
  (hst:starEach (e :: es) X.env = (false,eval e X.env) :: starEach es X.env:=by rfl) (hpl:(backTo pos (starEach es X.env)).any (·.1) = false:=by rfl)
  (ht:eval (.Call (.Attribute o m apos) (e :: es) [] pos) X.env = (do
   let ov <- eval o X.env
   standAt apos.atName
   let (f,first) <- holding [ov] (getMethod ov m pl)
   callWith pos f first (backTo pos (starEach (e :: es) X.env)) (backToKw pos (keywordEach [] X.env))):=by rfl) :
  PE X (.Call (.Attribute o m apos) (e :: es) [] pos) (Ea C m sp ta t):=by
 obtain ⟨fd,F,hb⟩:=G
 refine (aaj (pl:=pl) he.mono c hm F hr hb .nil KD ha.mono hst hpl ht).imp fun σ H Q h=>⟨_,h,?_⟩
 rintro x H1 ⟨a,dx,fs,h1,h2,h3,h4⟩
 refine ⟨a,dx,fs,h1,h2,h3,_,h4,fun vs H2 q=>?_⟩
 show sp (x :: (vs ++ [])) H2 Q E0
 rw [List.append_nil]
 exact q
theorem lO {pl:Sem Bool} (he:PE X o ta) (c:Cls X.K C) (hm:Meth X.K C m f) (G:OkI X.prog X.w X.K X.mg X.base CX0 k f ps sp) (hr:gJ k X.A)
  (ht:eval (.Call (.Attribute o m apos) [] [] pos) X.env = (do
   let ov <- eval o X.env
   standAt apos.atName
   let (f,first) <- holding [ov] (getMethod ov m pl)
   callWith pos f first (backTo pos (starEach [] X.env)) (backToKw pos (keywordEach [] X.env))):=by rfl) :
  PE X (.Call (.Attribute o m apos) [] [] pos) (Ea C m sp ta kh):=by
 obtain ⟨fd,F,hb⟩:=G
 refine (Wh (pl:=pl) he.mono c hm F hr hb .nil KD ht).imp fun σ H Q h=>⟨_,h,?_⟩
 rintro x H1 ⟨a,dx,fs,h1,h2,h3,h4⟩
 exact ⟨a,dx,fs,h1,h2,h3,h4⟩
theorem yP {pl:Sem Bool} (c:lq X.K B m f) (G:OkI X.prog X.w X.K X.mg X.base (CXO X.prog X.w) k f ps sp) (hr:gJ k X.A) (hg:Gl X x) (hm:X.mg x = some (.ref B)) (hx:Bu X Ex) (ha:PA X (e :: es) t) (hdb:(x == ("__debug__" : Str)) = false:=by decide)
  (hst:starEach (e :: es) X.env = (false,eval e X.env) :: starEach es X.env:=by rfl) (hpl:(backTo pos (starEach es X.env)).any (·.1) = false:=by rfl)
  (ht:eval (.Call (.Attribute (.Name x p) m apos) (e :: es) [] pos) X.env = (do
   let ov <- eval (.Name x p) X.env
   standAt apos.atName
   let (f,first) <- holding [ov] (getMethod ov m pl)
   callWith pos f first (backTo pos (starEach (e :: es) X.env)) (backToKw pos (keywordEach [] X.env))):=by rfl) :
  PE X (.Call (.Attribute (.Name x p) m apos) (e :: es) [] pos) (zA sp Ex t):=by
 obtain ⟨fd,F,hb⟩:=G
 exact Wc (pl:=pl) c F hr hg hm hb hx ha hdb hst hpl ht
theorem iM {D:Addr} {pos:Pos} (hg:Gl X x) (hm:X.mg x = some (.ref D)) (hd:(x == ("__debug__" : Str)) = false:=by decide):PE X (.Name x pos) (tC (.ref D)):=QV hg hm rfl hd
end
theorem QX {X:Cx} {K:Frag} (e:X.K = K) (hu:X.A.units + 64 < cLine):OpR X (compareOp .NotEq) (Vu K true):=e ▸ aaZ hu
end L2
namespace L2
open PySem PySem.Spec PyProof.Rows
noncomputable def Itp (a:Addr) (o:Obj) (kvs:List (Key × V)):It:=⟨fun i H=>H a = some (.frz o (.dK kvs))/\i < kvs.length,fun i H v H'=>∃ k y t,kvs[i]? = some (k,y)/\H t = none/\v = .ref t/\H' = upd H t (.tup [kV k,y]),fun i H=>H a = some (.frz o (.dK kvs))/\i = kvs.length⟩
theorem CZ:entryFor table "dict_itemiterator.__iter__" = some Builtin.«dict_keyiterator.__iter__»:=entryFor_alias (id' := "dict_keyiterator.__iter__") (by kernel_rfl) rfl (by decide +kernel) (by kernel_rfl)
theorem N7 {P:Program} {w:World} {A:Around} {E:Value->Shared->Prop} {s:Shared} {it d:Addr} {i n ep:Nat} {ok ov:Value} {Q:Value->Shared->Prop} (st:IsItemIter s.heap it d i n ep ok ov) (q:Q (.ref it) s):wpAny (model P w) A (pyIter (.ref it)) Q E s:=by
 have ty:s.TypeIs (.ref it) "dict_itemiterator" := ⟨_,st,rfl⟩
 exact wpAny_pyIter_slot ty F.slot_dict_itemiterator_iter (wpAny_call_entry F.slot_dict_itemiterator_iter ty CZ (wpAny_pure ⟨_,rfl, "dict_itemiterator",_,ty,F.slot_dict_itemiterator_next.lookup,q⟩) (F.args_dict_itemiterator_iter_1 _))
theorem zL {h:Heap} {o ob:Obj} {b:Addr} (e:(h.push o).get? b = some ob) (hs:b ≠ h.objs.size):h.get? b = some ob:=by
 obtain ⟨e1,e2⟩:=Heap.get?_some_iff.mp e
 refine Heap.get?_some_iff.mpr ⟨?_,e2⟩
 cases h
 simpa [Heap.push,Array.getElem?_push,hs] using e1
theorem Oa {P:Program} {w:World} {K:Frag} {elts:List Expr} {x1} {pos:Pos} (it a:Addr) (o:Obj) (kvs:List (Key × V)) (vs:List (Key × Value)) (ep:Nat) (rel:KV kvs vs) (hD:∀ h:Heap,h.get? a = some o->h.DictAt (fY P w) a vs ep) :
  Turn P w K (.Tuple elts x1 pos) (Itp a o kvs) [it] it (fun i h=>∃ ok ov,IsItemIter h it a i vs.length ep ok ov) where
 mem:=by simp
 obj:=by
  rintro i h ⟨ok,ov,st⟩ b hb
  have e:b = it:=by simpa using hb
  subst e
  exact ⟨_,st,fun v z=>by cases z⟩
 keep:=fun i h h' ⟨ok,ov,st⟩ k=>⟨ok,ov,k it (by simp) _ st⟩
 item:=by
  intro X hP hw hK hc i pins s σ H E I hf st hg
  subst hP hw hK
  obtain ⟨ok,ov,st⟩:=st
  obtain ⟨hg,hlt⟩:=hg
  obtain ⟨ho,_⟩:=(show dz X.prog X.w H s.heap a (.frz o (.dK kvs)) from I.hok a _ hg)
  obtain ⟨f0,f1,f2,f3,f4,f5⟩:=hf it (by simp)
  obtain ⟨⟨k,y⟩,hx⟩ : ∃ p,kvs[i]? = some p:=⟨kvs[i],by simp [hlt]⟩
  obtain ⟨u,hu,ru⟩:=rel.at hx
  refine wpAny_pyNext_items_item st (hD _ ho) hu fun key h' hkey out ht hz hk=>⟨_,rfl,?_⟩
  refine wpAny_letOwnedTupleGo_items out fun h2 st2 sb=>?_
  have nt:H s.heap.objs.size = none:=I.fresh
  have ne:it ≠ s.heap.objs.size:=aR (aJ st)
  have I1:=I.laid (a:=s.heap.objs.size) (o:=.tup [kV k,y]) (h':=s.heap.push { cls:=.type "tuple",data:=.seq #[key,u] }) (t':=s.toks) (fun b q z=>aG _ z) (aF _)
   ⟨(by show 2 <= sizeLine; decide),[key,u],.cons (aaF hkey) (.cons ru .nil),_,aY _ rfl,rfl,_,rfl⟩
  have I2:=I1.turned (it:=it) (h':=h2) (t':=s.toks) (fun b ob hb e=>by
   refine (sb.2 b hb).trans ?_
   by_cases hs:b = s.heap.objs.size
   .subst hs
    have e2:=aY s.heap (o:={ cls:=.type "tuple",data:=.seq #[key,u] }) rfl
    have e:(s.heap.push { cls:=.type "tuple",data:=.seq #[key,u] }).get? s.heap.objs.size = some ob:=e
    rw [e2] at e
    cases e
    exact ht
   .exact hk b _ hb (zL e hs)) ((bF ne).trans f0) f1 f3 f4 f5
  exact ⟨.ref _,_,I2,rfl,⟨k,y,_,hx,nt,rfl,rfl⟩,⟨_,_,st2⟩,fun b hb=>by
   have e:b = it:=by simpa using hb
   subst e
   exact (bF ne).trans f0⟩
 done:=by
  intro X hP hw hK hc i pins s σ H E I hf st hg
  subst hP hw hK
  obtain ⟨ok,ov,st⟩:=st
  obtain ⟨hg,rfl⟩:=hg
  obtain ⟨ho,_⟩:=(show dz X.prog X.w H s.heap a (.frz o (.dK kvs)) from I.hok a _ hg)
  obtain ⟨f0,f1,f2,f3,f4,f5⟩:=hf it (by simp)
  have hl:=rel.length
  exact wpAny_pyNext_items_end (I.ok.hd hc) st (hD _ ho) (by simp; omega) fun h' eb=>⟨rfl,I.turned (t':=s.toks) (fun b ob hb e=>eb b ob hb e) f0 f1 f3 f4 f5⟩
 self:=fun _ _ _ _ _ ⟨_,_,st⟩ h=>N7 st h
section
variable {X:Cx}
noncomputable def Wj (te:TE):TI:=fun σ H R=>te σ H fun x H1=>∃ a kvs,x = .ref a/\H1 a = some (.dK kvs)/\∀ o,R (Itp a o kvs) (upd H1 a (.frz o (.dK kvs)))
theorem Vz {l:Expr} {tl:TE} {elts:List Expr} {x1} {tpos apos pos:Pos} (hl:PE X l tl) (hb:attributeBase l "items" X.env (eval l X.env) = eval l X.env) (hn:(apos.endLine == pos.line) = true):PI X (.Tuple elts x1 tpos) (.Call (.Attribute l "items" apos) [] [] pos) (Wj tl):=by
 intro pins s σ H R I h
 refine wpAny_Call_method (T := "dict") (id := "dict.items") hb rfl hn PySem.F.plainAttrs_dict PySem.F.slot_dict_items PySem.F.type_dict_items (thn (hl pins s σ H _ I h) fun v s1 ⟨x,H1,I1,r1,a,kvs,ex,ha,q⟩=>?_)
 subst ex
 cases r1
 have ok:=(show dz X.prog X.w H1 s1.heap a (.dK kvs) from I1.hok a _ ha)
 obtain ⟨z,hd,vs,rel,o,es,ep,e,ex,ed,ek,epr,en⟩:=ok
 have hD:∀ h:Heap,h.get? a = some o->h.DictAt (fY X.prog X.w) a vs ep:=fun h e=>⟨o,es,e,ex,ed,ek,epr,en⟩
 have I2:Inv X pins σ (upd H1 a (.frz o (.dK kvs))) s1:=by
  have:=I1.write (x:=a) (e:=a) (o:=.frz o (.dK kvs)) (h':=s1.heap) (t':=s1.toks) (by rw [ha]; exact True.intro) (.inl rfl) (fun b u hb z=>z) ⟨o,e⟩ ⟨e,z,hd,vs,rel,o,es,ep,e,ex,ed,ek,epr,en⟩
  exact this
 have hm:s1.heap.DictOf (fY X.prog X.w) a vs:=⟨o,es,ep,e,ex,ed,ek,epr,en⟩
 refine ⟨hm.typeIs,hm.mapOf.noDict,?_⟩
 refine method_meetsIn PySem.F.slot_dict_items PySem.F.entry_dict_items rfl (PySem.evalArgs_none ⟨rfl,hm.typeIs,PySem.F.args_dict_items_1 _,_,meets_dict_items (fY X.prog X.w) a hd,⟨vs,hm⟩,?_⟩)
 have I3:Inv X pins σ (upd H1 a (.frz o (.dK kvs))) { s1 with heap:=s1.heap.push { cls:=.type "dict_items",data:=.fields #[.ref a] } }:=I2.kept (t':=s1.toks) fun b ob z=>aG _ z
 refine wpAny_pyIter_items ⟨_,aY _ rfl,rfl,rfl⟩ (hD _ (aG _ e)) ?_
 refine ⟨_,[_],_,Itp a o kvs,_,rfl,I3.kept (t':=s1.toks) fun b ob z=>aG _ z,Oa _ a o kvs vs ep rel hD,⟨_,_,aY _ rfl⟩,fun b hb=>?_,q o⟩
 rw [List.mem_singleton.mp hb]
 exact I3.fpOk (aF _) (I3.hok.fresh (aF _))
theorem G7 {tl te:TE} {gt:TG} {tc:TT} {n:Nat} {σ:L2.St} {H:Hp} {Q:VK} (h:tl σ H fun x H1=>∃ a kvs,x = .ref a/\H1 a = some (.dK kvs)/\kvs.length <= sizeLine/\∀ o D,upd H1 a (.frz o (.dK kvs)) D = none->∃ J:Nat->List V->Hp->Prop,J 0 [] (upd (upd H1 a (.frz o (.dK kvs))) D (.lst [])) /\
   (∀ i k y ys Hc t,kvs[i]? = some (k,y)->J i ys Hc->ys.length <= i->Hc t = none->Hc a = some (.frz o (.dK kvs))->vI n gt tc te (.ref t) σ (upd Hc t (.tup [kV k,y])) (fun y H2=>H2 D = some (.lst ys)/\H2 a = some (.frz o (.dK kvs))/\J (i + 1) (ys ++ [y]) (upd H2 D (.lst (ys ++ [y])))) fun H2=>H2 a = some (.frz o (.dK kvs))/\J (i + 1) ys H2) /\
   ∀ ys Hc,J kvs.length ys Hc->ys.length <= kvs.length->Q (.ref D) Hc):dO (Wj (tM tl)) n (tMG gt) (tMT tc) (tM te) σ H Q:=by
 refine ⟨_,h,?_⟩
 rintro x H1 ⟨a,kvs,rfl,hx,hz,rest⟩
 refine ⟨a,kvs,rfl,hx,fun o D hD=>?_⟩
 obtain ⟨J,j0,step,fin⟩:=rest o D hD
 have ne:a ≠ D:=bD bC hD
 refine ⟨fun k m ys Hc=>k <= kvs.length/\m = kvs.length - k/\ys.length <= k/\Hc a = some (.frz o (.dK kvs))/\J k ys Hc,⟨_,bh _,rfl,bh _,(bF ne).trans bC,j0⟩,?_⟩
 rintro k m ys Hc ⟨hk,rfl,hy,hx',j⟩
 by_cases e:k = kvs.length
 .subst e
  exact .inl ⟨⟨hx',rfl⟩,fin ys Hc j hy⟩
 .have hlt:k < kvs.length:=by omega
  refine .inr ⟨⟨hx',hlt⟩,?_⟩
  rintro x H'' ⟨kk,yy,t,hkk,ht,rfl,rfl⟩
  refine (step k kk yy ys Hc t hkk j hy ht hx').weak ?_ ?_
  .rintro yv H2 ⟨z1,z2,z3⟩
   refine ⟨by omega,z1,kvs.length - (k + 1),by omega,by omega,rfl,?_,?_,z3⟩
   .rw [aA]; simp; omega
   .rw [bF ne]; exact z2
  .rintro H2 ⟨z2,z3⟩
   exact ⟨kvs.length - (k + 1),by omega,by omega,rfl,by omega,z2,z3⟩
end
section
variable {ta:TA} {te:TE} {σ:L2.St} {H:Hp} {Q:VK}
end
section
variable {X:Cx}
theorem KQ:∀ {ys:List Str} {vs:List Value},Vals (ys.map V.str) vs->StrsAre vs ys
 | [],_,h=>by cases h; exact .nil
 | y :: ys,_,h=>by
  rw [List.map_cons] at h
  cases h with
  | cons a b =>
   obtain ⟨t,rfl⟩:=a
   exact .cons y t (KQ b)
noncomputable def rJoin:V->List V->Hp->VK->Prop:=fun x vs H Q=>∃ a l ys,x = .str a/\vs = [.ref l]/\H l = some (.lst (ys.map V.str))/\(ys.map (·.length)).sum + ys.length * a.length <= 16777216/\Q (.str (Txt.join a ys)) H
theorem YT:MtM X "str.join" rJoin:=by
 intro pins s σ H x vs v us Q I rx rv h
 obtain ⟨a,l,ys,rfl,rfl,hl,hz,q⟩:=h
 obtain ⟨t,rfl⟩:=rx
 obtain ⟨u,rfl,ru⟩:=rv.one
 cases ru
 obtain ⟨_,its,n,r,_,e⟩:=I.lstM hl
 exact join_list ⟨_,e,rfl,n,rfl⟩ (by simpa using KQ r) hz fun t' k=>⟨.str _,H,I.tok _,⟨_,rfl⟩,q⟩
structure Ma (K:Frag) (C:Addr):Prop where
 ha:PySem.W.findIn K (.ref C) "__class__" = some (some (.builtin "object.__class__"))
 hn:PySem.W.specialIn K (.builtin "object.__class__") "__get__" = some (some (.builtin "getset_descriptor.__get__"))
 tk:PySem.W.takesIn K (.builtin "object.__class__") = some true
 hm:PySem.W.mroIn K C (.type "object") = some true
noncomputable def WY (K:Frag):List V->Hp->VK->Prop:=fun xs H Q=>∃ a D C dx fs b,xs = [.ref a,.ref D]/\H a = some (.ins C dx fs)/\Cls K C/\Ma K C/\PySem.W.kitOne K (.ref C) (.ref D) = some b/\Q (.bl b) H
noncomputable def Rj:List V->Hp->VK->Prop:=fun xs H Q=>∃ i j,xs = [.int i,.int j]/\Q (.int (if j < i then j else i)) H
noncomputable def Vf:List V->Hp->VK->Prop:=fun xs H Q=>∃ i j,xs = [.int i,.int j]/\Q (.int (if j > i then j else i)) H
theorem TJ (hc:X.calm = true):fX X (.builtin "min") Rj:=R7 hc
end
end L2
namespace L2
open PySem PySem.Spec PyProof.Rows
section
variable {X:Cx} {elt iter:Expr} {pos:Pos} {scope:Scope} {wi:TI} {te:TE}
theorem W9 {i0:Nat} {y0:Str} {py spos:Pos} {xs N':List Str} {tg:Expr} {ifs:List Expr} {gt:TG} {tc:TT} (hc:X.calm = true) (hsh:yr xs X.N = N') (hN:(xs ++ N').Nodup) (hkind:scope.kind = .function) (hcell:∀ y ∈ scope.names,y.2 ≠ .cell) (hnames:∀ y ∈ scope.names,y.2 = .local->scope.names.lookup y.1 = some .local)
  (hfree:∀ y ∈ scope.names,y.2 = .free->X.env.kindOf y.1 = some .cell\/X.env.kindOf y.1 = some .free) (hloc:∀ y ∈ X.N,y ∉ xs->(relabel scope X.env).names.lookup y ≠ some .local) (hq:∀ y ∈ X.N,y ∈ xs->(relabel scope X.env).names.lookup (hid y) = none) (hi:PI X tg iter wi)
  (hg:∀ C s₀ H₀ ex pn,PG (X.compG N' scope xs C s₀ H₀ ex pn) tg gt) (ht:∀ C s₀ H₀ ex pn,PTs (X.compG N' scope xs C s₀ H₀ ex pn) ifs tc) (he:∀ C s₀ H₀ ex pn,PE (X.compG N' scope xs C s₀ H₀ ex pn) elt te) (hgy:PG X (.Name y0 py) (dw i0)) (hsw:swapsWith (.ListComp elt [⟨tg,iter,ifs,0⟩] scope pos) (some (.Name y0 py)) spos.line X.env = pure true) (hs:∀ z,foldedSetIterable iter X.env z = pure z:=by intro _; rfl) :
  PS X (.Assign [.Name y0 py] (.ListComp elt [⟨tg,iter,ifs,0⟩] scope pos) spos) (z7 (dO wi xs.length gt tc te) (dw i0)):=by
 intro pins s σ H D0 I h
 have h:dO wi xs.length gt tc te σ H (fun x H1=>dw i0 x σ H1 D0.nx):=h
 rw [exec_Assign_Name_used _ _ _ _ hsw]
 refine wpAny_bind (wpAny_standAt (wpAny_bind ?_))
 show wpAny _ X.A (comprehension (.ListComp elt [⟨tg,iter,ifs,0⟩] scope pos) scope X.env _ (newList []) false (eval iter X.env) (some (assign (.Name y0 py) X.env)) >>= fun _=>_) _ _ s
 refine wpAny_bind (wpAny_mono (CT (use:=some (assign (.Name y0 py) X.env)) (post:=fun _ s'=>SP X pins D0 .next s') hc hsh hN hkind hcell hnames hfree hloc hq hi hg ht he hs I h fun C D Hc s6 m fl hn6 I6 fC qn=>?_) (fun _ s' hq=>wpAny_pure (wpAny_pure hq)) fun _ _ e=>e)
 obtain ⟨oc,es,ep,ho,hdat,_⟩:=id hn6
 have I7:=I6.pinned (fp:=[C]) (fun b hb=>by rw [List.mem_singleton.mp hb]; exact fC) fun b hb=>by
  rw [List.mem_singleton.mp hb]
  exact ⟨oc,ho,fun v z=>by rw [hdat] at z; cases z⟩
 show wpAny _ X.A (assign (.Name y0 py) X.env _) _ _ s6
 refine thn (hgy _ s6 σ Hc (.ref D) _ D0.nx I7 rfl qn) fun _ s7 ⟨σ7,H7,Z7,q7⟩=>?_
 have pn7:=Z7.pin (C,oc) (aQ _ (aQ _ (pq (by simp) ho)))
 refine ⟨m,hn6.at' fun o e=>?_,fun h' hs'=>⟨σ7,H7,Z7.unpinned.turned (it:=C) (h':=h') (t':=s7.toks) (fun b o hb e=>(hs'.2 b hb).trans e) pn7.2.1 fC.2.1 fC.2.2.2.1 fC.2.2.2.2.1 fC.2.2.2.2.2,q7⟩⟩
 rw [ho] at e
 cases e
 exact pn7.1
theorem Ye {te:TE} {x:V} {σ:L2.St} {H:Hp} {Y:VK} {No:Hp->Prop} (h:te (some x :: σ) H Y):vI 1 (dw 0) vG te x σ H Y No:=fun pre hp=>by
 obtain ⟨u,rfl⟩:=List.length_eq_one_iff.mp hp
 exact ⟨[some x],rfl,rfl,h⟩
theorem cC {K:Frag} {tl te:TE} {σ:L2.St} {H:Hp} {Q:VK} (h:tl σ H fun x H1=>∃ a xs,x = .ref a/\H1 a = some (.lst xs)/\xs.length <= sizeLine/\∀ D,H1 D = none->∃ J:Nat->List V->Hp->Prop,J 0 [] (upd H1 D (.lst [])) /\
   (∀ k x ys Hc,xs[k]? = some x->J k ys Hc->ys.length = k->Hc a = some (.lst xs)->te (some x :: σ) Hc fun y H2=>H2 D = some (.lst ys)/\H2 a = some (.lst xs)/\J (k + 1) (ys ++ [y]) (upd H2 D (.lst (ys ++ [y])))) /\
   ∀ ys Hc,J xs.length ys Hc->ys.length = xs.length->Q (.ref D) Hc):dO (pK K (tM tl)) 1 (tMG (dw 0)) (tMT vG) (tM te) σ H Q:=by
 refine ⟨_,h,?_⟩
 rintro x H1 ⟨a,xs,rfl,hx,hz,rest⟩
 refine ⟨a,rfl,⟨xs,.of hx⟩,fun D hD=>?_⟩
 obtain ⟨J,j0,step,fin⟩:=rest D hD
 have ne:a ≠ D:=bD hx hD
 refine ⟨fun k m ys Hc=>k <= xs.length/\m = xs.length - k/\ys.length = k/\Hc a = some (.lst xs)/\J k ys Hc,⟨_,bh _,rfl,rfl,(bF ne).trans hx,j0⟩,?_⟩
 rintro k m ys Hc ⟨hk,rfl,hy,hx',j⟩
 by_cases e:k = xs.length
 .subst e
  exact .inl ⟨⟨xs,.of hx',aF _⟩,fin ys Hc j hy⟩
 .have hlt:k < xs.length:=by omega
  refine .inr ⟨⟨xs,_,.of hx',aj hlt⟩,?_⟩
  rintro x H'' ⟨rfl,y⟩
  refine (Ye (No:=fun _=>False) (step k x ys H'' (y xs (.of hx')) j hy hx')).weak ?_ (fun _ z=>z.elim)
  rintro yv H2 ⟨z1,z2,z3⟩
  refine ⟨by omega,z1,xs.length - (k + 1),by omega,by omega,rfl,?_,?_,z3⟩
  .rw [aA,hy]; rfl
  .rw [bF ne]; exact z2
theorem Oh {te:TE} {σ:L2.St} {H:Hp} {Q:VK} {lo:Int} {n:Nat} (hn:n <= 64) (rest:∀ D,H D = none->∃ J:Nat->List V->Hp->Prop,J 0 [] (upd H D (.lst []))/\(∀ k ys Hc,k < n->J k ys Hc->ys.length = k->te (some (.int (lo + k)) :: σ) Hc fun y H2=>H2 D = some (.lst ys)/\J (k + 1) (ys ++ [y]) (upd H2 D (.lst (ys ++ [y]))))/\∀ ys Hc,J n ys Hc->ys.length = n->Q (.ref D) Hc) :
  ∀ D,H D = none->∃ W:Nat->Nat->List V->Hp->Prop,(∃ m,W 0 m [] (upd H D (.lst [])))/\∀ i m ys Hc,W i m ys Hc->((Itr lo n).stop i Hc/\Q (.ref D) Hc)\/((Itr lo n).go i Hc/\∀ x H',(Itr lo n).yld i Hc x H'->vI 1 (tMG (dw 0)) (tMT vG) (tM te) x σ H' (fun y H2=>ys.length < sizeLine/\H2 D = some (.lst ys)/\∃ m',m' < m/\W (i + 1) m' (ys ++ [y]) (upd H2 D (.lst (ys ++ [y])))) fun H3=>∃ m',m' < m/\W (i + 1) m' ys H3):=by
 intro D hD
 obtain ⟨J,j0,step,fin⟩:=rest D hD
 have hz:64 <= sizeLine:=by decide
 refine ⟨fun k m ys Hc=>k <= n/\m = n - k/\ys.length = k/\J k ys Hc,⟨_,bh _,rfl,rfl,j0⟩,?_⟩
 rintro k m ys Hc ⟨hk,rfl,hy,j⟩
 by_cases e:k = n
 .subst e
  exact .inl ⟨aF _,fin ys Hc j hy⟩
 .have hlt:k < n:=by omega
  refine .inr ⟨hlt,?_⟩
  rintro x H'' ⟨rfl,rfl⟩
  refine (Ye (No:=fun _=>False) (step k ys H'' hlt j hy)).weak ?_ (fun _ z=>z.elim)
  rintro yv H2 ⟨z1,z2⟩
  exact ⟨by omega,z1,n - (k + 1),by omega,by omega,rfl,by rw [aA,hy]; rfl,z2⟩
theorem mU {ta:TA} {te:TE} {σ:L2.St} {H:Hp} {Q:VK} (h:ta σ H fun vs H1=>∃ n:Nat,vs = [.int n]/\n <= 64/\∀ D,H1 D = none->∃ J:Nat->List V->Hp->Prop,J 0 [] (upd H1 D (.lst []))/\(∀ (k:Nat) ys Hc,k < n->J k ys Hc->ys.length = k->te (some (.int k) :: σ) Hc fun y H2=>H2 D = some (.lst ys)/\J (k + 1) (ys ++ [y]) (upd H2 D (.lst (ys ++ [y]))))/\∀ ys Hc,J n ys Hc->ys.length = n->Q (.ref D) Hc) :
  dO (z6 (tMA ta)) 1 (tMG (dw 0)) (tMT vG) (tM te) σ H Q:=by
 refine ⟨_,h,?_⟩
 rintro vs H1 ⟨n,rfl,hn,rest⟩
 refine ⟨n,rfl,by omega,by omega,?_⟩
 rw [Int.toNat_natCast]
 refine Oh hn fun D hD=>?_
 obtain ⟨J,j0,step,fin⟩:=rest D hD
 exact ⟨J,j0,fun k ys Hc h1 h2 h3=>by rw [Int.zero_add]; exact step k ys Hc h1 h2 h3,fin⟩
end
theorem cu.wild {P:Program} {w:World} {K:Frag} {mg:Str->Option Value} {base:Heap} {k:Nat} {f:Addr} {fd:FuncData} {ps:List Str} {sp:Sp} (F:cu P w K mg base CX0 k f fd ps sp):cu P w K mg base (CXO P w) k f fd ps sp:=by
 refine ⟨F.len,fun A outer s H args us vs Q E hr e0 hb r h=>?_⟩
 refine codeAny_mono (F.run A outer s H args us vs Q E hr e0 hb r h) fun res s' hs=>?_
 cases res with
 | error e=>exact False.elim hs
 | ok fl =>
  cases fl with
  | ret u=>exact hs
  | next=>exact hs
  | brk=>exact hs
  | cont=>exact hs
theorem OkF.wild {P:Program} {w:World} {K:Frag} {mg:Str->Option Value} {base:Heap} {k:Nat} {x:Str} {ps:List Str} {sp:Sp} (F:OkF P w K mg base k x ps sp):OkX P w K mg base k x ps sp:=let ⟨f,fd,a,b⟩:=F; ⟨f,fd,a.wild,b⟩
end L2
namespace L2
open PySem PySem.Spec PyProof.Rows
section
variable {X:Cx} {pins:List (Addr × Obj)} {σ:L2.St} {H:Hp} {s:Shared} {h':Heap}
theorem Inv.turnedL {t':Nat} {ch:List Addr} (I:Inv X pins σ H s) (k:∀ b o,b ∉ ch->s.heap.get? b = some o->h'.get? b = some o) (hf:∀ b ∈ ch,Ad X pins H b):Inv X pins σ H { s with heap:=h',toks:=t' }:=by
 have nit:∀ b u,H b = some u->b ∉ ch:=fun b u e z=>by rw [(hf b z).1] at e; cases e
 refine I.step (g':=s.gens) (d':=s.drawn) (ch:=ch) (fun b hb=>⟨(hf b hb).2.2.2.1,(hf b hb).2.1,(hf b hb).2.2.2.2.1,(hf b hb).2.2.2.2.2⟩) (fun b o _ _ hc e _=>k b o hc e) (fun b o _ _ hc e _=>⟨o.slots,k b o hc e⟩) (fun _ _ _ _ n=>n) (fun b o hc e=>⟨o,k b o hc e⟩) (fun _ _ e=>e) (fun _ _ _ e=>e) (fun b ps e=>⟨#[],by rw [e]; simp⟩) (fun m hm=>?_) (fun b u e=>?_) I.bare
 .obtain ⟨o,es,ep,ho,r⟩:=hm
  exact ⟨o,es,ep,k _ o (fun z=>(hf _ z).2.1 rfl) ho,r⟩
 .refine (I.hok b u e).stay (fun c v hc q=>k c v ?_ q) (fun _ q=>q) fun _ _ q=>q
  rcases hc with z | z
  .rw [z]; exact nit b u e
  .exact nit c _ z
end
noncomputable def Itz (a b:Addr):It:=⟨fun i H=>∃ xs ys,H a = some (.lst xs)/\H b = some (.lst ys)/\i < xs.length/\i < ys.length,fun i H v H'=>∃ xs ys x y t,H a = some (.lst xs)/\H b = some (.lst ys)/\xs[i]? = some x/\ys[i]? = some y/\H t = none/\v = .ref t/\H' = upd H t (.tup [x,y]),fun i H=>∃ xs ys,H a = some (.lst xs)/\H b = some (.lst ys)/\(xs.length <= i\/ys.length <= i)⟩
theorem n_ {h g:Heap} {a l:Addr} {i:Nat} (x:h.IsListIter a l i) (k:∀ o,h.get? a = some o->g.get? a = some o):g.IsListIter a l i:=let ⟨o,e,r⟩:=x; ⟨o,k o e,r⟩
theorem Js {xs:List V} {vs:List Value} : Vals xs vs->∀ {i:Nat} {x:V},xs[i]? = some x->∃ u,vs[i]? = some u/\RelV x u:=by
 intro h
 induction h with
 | nil=>intro i x e; cases e
 | cons a b ih =>
  intro i x e
  cases i with
  | zero=>rw [List.getElem?_cons_zero] at e; cases e; exact ⟨_,rfl,a⟩
  | succ i=>rw [List.getElem?_cons_succ] at e ⊢; exact ih e
theorem Vx {P:Program} {w:World} {K:Frag} {elts:List Expr} {x1} {pos:Pos} (z TI TO i1 i2 l1 l2:Addr) (D:ZipApart z TI TO i1 i2 l1 l2) :
  Turn P w K (.Tuple elts x1 pos) (Itz l1 l2) [z,TI,TO,i1,i2] z (fun i h=>IsZip h z TI TO .none/\IsPair h TI (.ref i1) (.ref i2)/\(∃ p q,IsPair h TO p q)/\h.IsListIter i1 l1 i/\h.IsListIter i2 l2 i) where
 mem:=by simp
 obj:=by
  rintro i h ⟨s1,s2,⟨p,q,s3⟩,⟨o4,s4,_,d4⟩,⟨o5,s5,_,d5⟩⟩ b hb
  simp only [List.mem_cons,List.not_mem_nil,or_false] at hb
  rcases hb with rfl | rfl | rfl | rfl | rfl
  .exact ⟨_,s1,fun v e=>by cases e⟩
  .exact ⟨_,s2,fun v e=>by cases e⟩
  .exact ⟨_,s3,fun v e=>by cases e⟩
  .exact ⟨_,s4,fun v e=>by rw [d4] at e; cases e⟩
  .exact ⟨_,s5,fun v e=>by rw [d5] at e; cases e⟩
 keep:=fun i h h' ⟨s1,s2,⟨p,q,s3⟩,s4,s5⟩ k=>⟨k z (by simp) _ s1,k TI (by simp) _ s2,⟨p,q,k TO (by simp) _ s3⟩,n_ s4 (k i1 (by simp)),n_ s5 (k i2 (by simp))⟩
 item:=by
  intro X hP hw hK hc i pins s σ H E I hf st hg
  subst hP hw hK
  obtain ⟨s1,s2,⟨p,q,s3⟩,s4,s5⟩:=st
  obtain ⟨xs,ys,ha,hb,lt1,lt2⟩:=hg
  obtain ⟨_,it1,n1,rv1,le1,g1⟩:=I.lstM ha
  obtain ⟨_,it2,n2,rv2,le2,g2⟩:=I.lstM hb
  have ex:xs[i]? = some xs[i]:=aj lt1
  have ey:ys[i]? = some ys[i]:=aj lt2
  obtain ⟨u,hu,ru⟩:=Js rv1 ex
  obtain ⟨v,hv,rv⟩:=Js rv2 ey
  refine wpAny_pyNext_zip_item D s1 s2 s3 s4 s5 (xs:=it1.toArray) (ys:=it2.toArray) ⟨_,g1,rfl,n1,rfl⟩ ⟨_,g2,rfl,n2,rfl⟩ (x:=u) (y:=v) (by simpa using hu) (by simpa using hv) fun h' a1 a2 a3 a4 a5 a6 a7=>⟨_,rfl,?_⟩
  refine wpAny_letOwnedTupleGo_zip a1 fun h2 st2 sb=>?_
  have nt:H s.heap.objs.size = none:=I.fresh
  have I1:=I.laid (a:=s.heap.objs.size) (o:=.tup [xs[i],ys[i]]) (h':=s.heap.push { cls:=.type "tuple",data:=.seq #[u,v] }) (t':=s.toks) (fun b q z=>aG _ z) (aF _)
   ⟨(by show 2 <= sizeLine; decide),[u,v],.cons ru (.cons rv .nil),_,aY _ rfl,rfl,_,rfl⟩
  have nz:z ≠ s.heap.objs.size:=aR (aJ s1)
  have nO:TO ≠ s.heap.objs.size:=aR (aJ s3)
  have nI:TI ≠ s.heap.objs.size:=aR (aJ s2)
  have n1':i1 ≠ s.heap.objs.size:=by obtain ⟨o,e,_⟩:=s4; exact aR (aJ e)
  have n2':i2 ≠ s.heap.objs.size:=by obtain ⟨o,e,_⟩:=s5; exact aR (aJ e)
  have fpn:∀ b ∈ [z,TI,TO,i1,i2],upd H s.heap.objs.size (.tup [xs[i],ys[i]]) b = none:=by
   intro b hb
   have f0:=(hf b hb).1
   simp only [List.mem_cons,List.not_mem_nil,or_false] at hb
   rcases hb with rfl | rfl | rfl | rfl | rfl
   .exact (bF nz).trans f0
   .exact (bF nI).trans f0
   .exact (bF nO).trans f0
   .exact (bF n1').trans f0
   .exact (bF n2').trans f0
  have I2:=I1.turnedL (ch:=[z,TO,i1,i2]) (h':=h2) (t':=s.toks) (fun b ob hb e=>by
   simp only [List.mem_cons,List.not_mem_nil,or_false,not_or] at hb
   obtain ⟨b1,b2,b3,b4⟩:=hb
   refine (sb.2 b b1).trans ?_
   by_cases hs:b = s.heap.objs.size
   .subst hs
    have e2:=aY s.heap (o:={ cls:=.type "tuple",data:=.seq #[u,v] }) rfl
    have e:(s.heap.push { cls:=.type "tuple",data:=.seq #[u,v] }).get? s.heap.objs.size = some ob:=e
    rw [e2] at e
    cases e
    exact a5
   .exact a7 b _ b1 b2 b3 b4 (zL e hs)) fun b hb=>by
    have hb':b ∈ [z,TI,TO,i1,i2]:=by
     simp only [List.mem_cons,List.not_mem_nil,or_false] at hb ⊢
     rcases hb with h | h | h | h <;> simp [h]
    exact ⟨fpn b hb',(hf b hb').2⟩
  have mv:∀ c o,c ≠ z->h'.get? c = some o->h2.get? c = some o:=fun c o n e=>(sb.2 c n).trans e
  exact ⟨.ref _,_,I2,rfl,⟨xs,ys,_,_,_,ha,hb,ex,ey,nt,rfl,rfl⟩,⟨st2,mv _ _ D.TIz (a7 _ _ D.TIz D.TITO D.TIi1 D.TIi2 s2),⟨_,_,mv _ _ D.TOz a2⟩,n_ a3 fun o e=>mv _ _ D.i1z e,n_ a4 fun o e=>mv _ _ D.i2z e⟩,fpn⟩
 done:=by
  intro X hP hw hK hc i pins s σ H E I hf st hg
  subst hP hw hK
  obtain ⟨s1,s2,⟨p,q,s3⟩,s4,s5⟩:=st
  obtain ⟨xs,ys,ha,hb,lt⟩:=hg
  obtain ⟨_,it1,n1,rv1,le1,g1⟩:=I.lstM ha
  obtain ⟨_,it2,n2,rv2,le2,g2⟩:=I.lstM hb
  refine wpAny_pyNext_zip_end (I.ok.hd hc) D s1 s2 s3 s4 s5 (xs:=it1.toArray) (ys:=it2.toArray) ⟨_,g1,rfl,n1,rfl⟩ ⟨_,g2,rfl,n2,rfl⟩ (by simp; omega) fun h' k=>⟨rfl,I.turnedL (ch:=[z,TO,i1,i2]) (t':=s.toks) (fun b ob hb e=>?_) fun b hb=>?_⟩
  .simp only [List.mem_cons,List.not_mem_nil,or_false,not_or] at hb
   exact k b ob hb.1 hb.2.1 hb.2.2.1 hb.2.2.2 e
  .exact hf b (by
    simp only [List.mem_cons,List.not_mem_nil,or_false] at hb ⊢
    rcases hb with h | h | h | h <;> simp [h])
 self:=fun _ _ _ _ _ ⟨s1,_⟩ h=>wpAny_pyIter_zip s1 h
section
variable {X:Cx}
theorem Uc (n l1 l2:Nat) (h1:l1 < n) (h2:l2 < n):ZipApart (n + 4) (n + 2) (n + 3) n (n + 1) l1 l2:=by
 constructor <;> first | exact aR (by omega) | exact Nat.ne_of_gt (by omega)
theorem YH (n b:Nat) (h:b = n + 4\/b = n + 2\/b = n + 3\/b = n\/b = n + 1):n <= b:=by omega
theorem boot_zip:bootBuiltins "zip" = some (.type "zip"):=by decide +kernel
noncomputable def aa1 (ta:TA):TI:=fun σ H R=>ta σ H fun vs H1=>∃ a b xs ys,vs = [.ref a,.ref b]/\H1 a = some (.lst xs)/\H1 b = some (.lst ys)/\R (Itz a b) H1
theorem Vo {a b:Expr} {ta:TA} {elts:List Expr} {x1} {p pos tpos:Pos} (hg:Gl X "zip") (hm:X.mg "zip" = none) (ha:PA X [a,b] ta) (hs:starEach [a,b] X.env = [(false,eval a X.env),(false,eval b X.env)]:=by rfl) (hs2:starEach [b] X.env = [(false,eval b X.env)]:=by rfl) :
  PI X (.Tuple elts x1 tpos) (.Call (.Name "zip" p) [a,b] [] pos) (aa1 ta):=by
 intro pins s σ H R I h
 refine Call_ (zR I hg hm boot_zip (PyProof.Rows.callWith_type1 (thn (ha pos pins s σ H _ I h) fun us s1 ⟨vs,H1,I1,r1,q1⟩=>?_) (by rw [hs,hs2]) (by rw [hs2]; rfl)))
 obtain ⟨l1,l2,xs,ys,e,h1,h2,q⟩:=q1
 subst e
 obtain ⟨u,v,rfl,ru,rv⟩:=r1.two
 cases ru
 cases rv
 obtain ⟨_,it1,n1,rv1,le1,g1⟩:=I1.lstM h1
 obtain ⟨_,it2,n2,rv2,le2,g2⟩:=I1.lstM h2
 have z1:=aJ g1
 have z2:=aJ g2
 refine call_zip_2 (xs:=it1.toArray) (ys:=it2.toArray) ⟨_,g1,rfl,n1,rfl⟩ ⟨_,g2,rfl,n2,rfl⟩ fun h' a1 a2 a3 a4 a5 a6 a7=>?_
 refine wpAny_pyIter_zip a1 ?_
 refine ⟨_,[s1.heap.objs.size + 4,s1.heap.objs.size + 2,s1.heap.objs.size + 3,s1.heap.objs.size,s1.heap.objs.size + 1],_,Itz l1 l2,H1,rfl,I1.kept (t':=s1.toks) fun b ob e=>a7 b ob e,Vx _ _ _ _ _ l1 l2 (Uc _ _ _ z1 z2),⟨a1,a2,⟨_,_,a3⟩,a4,a5⟩,fun b hb=>?_,q⟩
 have hb':s1.heap.objs.size <= b:=by
  simp only [List.mem_cons,List.not_mem_nil,or_false] at hb
  exact YH _ _ hb
 exact I1.fpOk hb' (I1.hok.fresh hb')
end
theorem OJ {ta:TA} {te:TE} {gt:TG} {tc:TT} {n:Nat} {σ:L2.St} {H:Hp} {Q:VK} (h:ta σ H fun vs H1=>∃ a b xs ys,vs = [.ref a,.ref b]/\H1 a = some (.lst xs)/\H1 b = some (.lst ys)/\xs.length = ys.length/\xs.length <= 64/\∀ D,H1 D = none->∃ J:Nat->List V->Hp->Prop,J 0 [] (upd H1 D (.lst [])) /\
   (∀ k x y zs Hc t,xs[k]? = some x->ys[k]? = some y->J k zs Hc->zs.length <= k->Hc t = none->Hc a = some (.lst xs)->Hc b = some (.lst ys)->vI n gt tc te (.ref t) σ (upd Hc t (.tup [x,y])) (fun v H2=>H2 D = some (.lst zs)/\H2 a = some (.lst xs)/\H2 b = some (.lst ys)/\J (k + 1) (zs ++ [v]) (upd H2 D (.lst (zs ++ [v])))) fun H2=>H2 a = some (.lst xs)/\H2 b = some (.lst ys)/\J (k + 1) zs H2) /\
   ∀ zs Hc,J xs.length zs Hc->zs.length <= xs.length->Q (.ref D) Hc):dO (aa1 (tMA ta)) n (tMG gt) (tMT tc) (tM te) σ H Q:=by
 refine ⟨_,h,?_⟩
 rintro vs H1 ⟨a,b,xs,ys,rfl,hx,hy,hl,h64,rest⟩
 refine ⟨a,b,xs,ys,rfl,hx,hy,fun D hD=>?_⟩
 obtain ⟨J,j0,step,fin⟩:=rest D hD
 have na:a ≠ D:=bD hx hD
 have nb:b ≠ D:=bD hy hD
 have z64:64 <= sizeLine:=by decide
 refine ⟨fun k m zs Hc=>k <= xs.length/\m = xs.length - k/\zs.length <= k/\Hc a = some (.lst xs)/\Hc b = some (.lst ys)/\J k zs Hc,⟨_,bh _,rfl,bh _,(bF na).trans hx,(bF nb).trans hy,j0⟩,?_⟩
 rintro k m zs Hc ⟨hk,rfl,hz,ha',hb',j⟩
 by_cases e:k = xs.length
 .subst e
  exact .inl ⟨⟨xs,ys,ha',hb',.inl (aF _)⟩,fin zs Hc j hz⟩
 .have hlt:k < xs.length:=by omega
  refine .inr ⟨⟨xs,ys,ha',hb',hlt,by omega⟩,?_⟩
  rintro v H'' ⟨xs',ys',x,y,t,e1,e2,e3,e4,e5,rfl,rfl⟩
  rw [ha'] at e1
  rw [hb'] at e2
  cases e1
  cases e2
  refine (step k x y zs Hc t e3 e4 j hz e5 ha' hb').weak ?_ ?_
  .rintro yv H2 ⟨z1,z2,z3,z4⟩
   refine ⟨by omega,z1,xs.length - (k + 1),by omega,by omega,rfl,?_,(bF na).trans z2,(bF nb).trans z3,z4⟩
   rw [aA]; simp; omega
  .rintro H2 ⟨z2,z3,z4⟩
   exact ⟨xs.length - (k + 1),by omega,by omega,rfl,by omega,z2,z3,z4⟩
theorem Ul {ta:TA} {g:TG} {tb:TS} {D:Ends} {σ:L2.St} {H:Hp} (h:ta σ H fun vs H1=>∃ a b xs ys,vs = [.ref a,.ref b]/\H1 a = some (.lst xs)/\H1 b = some (.lst ys)/\xs.length = ys.length/\∃ J:Nat->L2.St->Hp->Prop,J 0 σ H1 /\
   (∀ k x y σ' H' t,xs[k]? = some x->ys[k]? = some y->J k σ' H'->H' a = some (.lst xs)->H' b = some (.lst ys)->H' t = none->g (.ref t) σ' (upd H' t (.tup [x,y])) fun σ2 H2=>tb { D with nx:=fun σ3 H3=>H3 a = some (.lst xs)/\H3 b = some (.lst ys)/\J (k + 1) σ3 H3,ct:=fun σ3 H3=>H3 a = some (.lst xs)/\H3 b = some (.lst ys)/\J (k + 1) σ3 H3,bk:=D.nx } σ2 H2) /\
   ∀ σ' H',J xs.length σ' H'->H' a = some (.lst xs)->H' b = some (.lst ys)->D.nx σ' H'):Em (aa1 (tMA ta)) g tb D σ H:=by
 refine ⟨_,h,?_⟩
 rintro vs H1 ⟨a,b,xs,ys,rfl,hx,hy,hl,J,j0,step,fin⟩
 refine ⟨a,b,xs,ys,rfl,hx,hy,fun k m σ' H'=>k <= xs.length/\m = xs.length - k/\H' a = some (.lst xs)/\H' b = some (.lst ys)/\J k σ' H',⟨_,bh _,rfl,hx,hy,j0⟩,?_⟩
 rintro k m σ' H' ⟨hk,rfl,ha',hb',j⟩
 by_cases e:k = xs.length
 .subst e
  exact .inl ⟨⟨xs,ys,ha',hb',.inl (aF _)⟩,fin σ' H' j ha' hb'⟩
 .have hlt:k < xs.length:=by omega
  refine .inr ⟨⟨xs,ys,ha',hb',hlt,by omega⟩,fun σ3 H3=>H3 a = some (.lst xs)/\H3 b = some (.lst ys)/\J (k + 1) σ3 H3,fun σ3 H3 ⟨z1,z2,z3⟩=>⟨xs.length - (k + 1),by omega,by omega,rfl,z1,z2,z3⟩,?_⟩
  rintro v H'' ⟨xs',ys',x,y,t,e1,e2,e3,e4,e5,rfl,rfl⟩
  rw [ha'] at e1
  rw [hb'] at e2
  cases e1
  cases e2
  exact step k x y σ' H' t e3 e4 j ha' hb' e5
noncomputable def rlb (sc scope:Scope):Scope:={ scope with names:=scope.names.map fun (n,k)=>if (k == NameKind.free && sc.kind == .function && sc.names.lookup n == some .cell) then (n,NameKind.cell) else (n,k) }
theorem wg {X:Cx} {N0 xs0:List Str} {scopeO:Scope} {C0:Addr} {s0:Shared} {H0:Hp} {ex0:List Addr} {pn0:List (Addr × Obj)} {elt iter tg:Expr} {pos:Pos} {scope:Scope} {wi:TI} {te:TE} {ifs:List Expr} {gt:TG} {tc:TT} (sc:Scope) (N N' xs:List Str) (hsc:X.env.scope = sc) (hNN:xs0 ++ N0 = N) (hc:X.calm = true) (hsh:yr xs N = N') (hN:(xs ++ N').Nodup) (hkind:scope.kind = .function) (hcell:∀ y ∈ scope.names,y.2 ≠ .cell)
  (hnames:∀ y ∈ scope.names,y.2 = .local->scope.names.lookup y.1 = some .local) (hfree:∀ y ∈ scope.names,y.2 = .free->(rlb sc scopeO).names.lookup y.1 = some .cell\/(rlb sc scopeO).names.lookup y.1 = some .free)
  (hloc:∀ y ∈ N,y ∉ xs->(scope.names.map fun (n,k)=>if (k == NameKind.free && (rlb sc scopeO).kind == .function && (rlb sc scopeO).names.lookup n == some .cell) then (n,NameKind.cell) else (n,k)).lookup y ≠ some .local)
  (hq:∀ y ∈ N,y ∈ xs->(scope.names.map fun (n,k)=>if (k == NameKind.free && (rlb sc scopeO).kind == .function && (rlb sc scopeO).names.lookup n == some .cell) then (n,NameKind.cell) else (n,k)).lookup (hid y) = none) (hi:PI (X.compG N0 scopeO xs0 C0 s0 H0 ex0 pn0) tg iter wi)
  (hg:∀ C s₀ H₀ ex pn,PG ((X.compG N0 scopeO xs0 C0 s0 H0 ex0 pn0).compG N' scope xs C s₀ H₀ ex pn) tg gt) (ht:∀ C s₀ H₀ ex pn,PTs ((X.compG N0 scopeO xs0 C0 s0 H0 ex0 pn0).compG N' scope xs C s₀ H₀ ex pn) ifs tc) (he:∀ C s₀ H₀ ex pn,PE ((X.compG N0 scopeO xs0 C0 s0 H0 ex0 pn0).compG N' scope xs C s₀ H₀ ex pn) elt te) (hs:∀ z,foldedSetIterable iter (X.compG N0 scopeO xs0 C0 s0 H0 ex0 pn0).env z = pure z:=by intro _; rfl) :
  PE (X.compG N0 scopeO xs0 C0 s0 H0 ex0 pn0) (.ListComp elt [⟨tg,iter,ifs,0⟩] scope pos) (dO wi xs.length (tMG gt) (tMT tc) (tM te)):=by
 subst hsc hNN
 exact Gn (X:=(X.compG N0 scopeO xs0 C0 s0 H0 ex0 pn0)) (rlb X.env.scope scopeO) (xs0 ++ N0) N' xs rfl rfl hc hsh hN hkind hcell hnames hfree hloc hq hi hg ht he hs
theorem sO {X:Cx} {K:Frag} {tg l:Expr} {tl:TE} (e:X.K = K) (hl:PE X l tl):PI X tg l (pK K tl):=e ▸ cA hl
end L2
namespace L2
open PySem PySem.Spec PyProof.Rows
section
variable {X:Cx} {elt iter:Expr} {pos:Pos} {scope:Scope} {wi:TI} {te:TE}
end
end L2
namespace L2
open PySem PySem.Spec PyProof.Rows
end L2
namespace L2
open PySem PySem.Spec PyProof.Rows
section
variable {X:Cx}
noncomputable def W2:List V->Hp->VK->Prop:=fun xs H Q=>∃ (l:Addr) (bs:List Bool),xs = [.ref l]/\H l = some (.lst (bs.map V.bl))/\Q (.bl (bs.any id)) H
theorem rZ:∀ bs:List Bool,((List.range bs.length).any fun i=>(bs[i]?).getD true) = bs.any id
 | []=>rfl
 | b :: bs=>by
  rw [List.length_cons,List.range_succ_eq_map,List.any_cons,List.any_map,List.any_cons]
  have:=rZ bs
  simp only [Function.comp_def,List.getElem?_cons_succ,List.getElem?_cons_zero,Option.getD_some,id] at this ⊢
  rw [this]
theorem vB (hc:X.calm = true):fX X (.builtin "any") W2:=by
 intro pins s σ H xs us Q I r h
 obtain ⟨l,bs,rfl,hl,q⟩:=h
 obtain ⟨u,rfl,ru⟩:=r.one
 cases ru
 obtain ⟨its,rv,p⟩:=I.lstIs hl
 have hlt:l < s.heap.objs.size:=by obtain ⟨_,e,_⟩:=p; exact aJ e
 refine call_any_walk (wpAny_pyIter_list p ?_)
 refine ⟨s.heap.objs.size,[s.heap.objs.size,l],[s.heap.objs.size],its.toArray.size,_,_,fun i=>(bs[i]?).getD true,rfl,Walks.list (A:=X.A.in1) (I.ok.hd hc) _ l (aR hlt) its.toArray,
  ⟨⟨_,aY _ rfl,rfl,rfl⟩,p.push _⟩,fun i v s' Q' E' hP hQ=>?_,fun h' tk hk=>?_⟩
 .obtain ⟨b,e,rfl⟩:=zP rv i v (by simpa using hP)
  simp only [e,Option.getD_some] at hQ
  exact wpAny_truthy_bool hQ
 .have e:((List.range its.toArray.size).any fun i=>(bs[i]?).getD true) = bs.any id:=by
   rw [aZ,<- rv.length,ak]; exact rZ bs
  refine ⟨.bl (bs.any id),H,I.kept (t':=tk) fun b o q=>hk b o (fun hm=>?_) (aG _ q),?_,q⟩
  .rw [List.mem_singleton.mp hm] at q
   exact Nat.lt_irrefl _ (aJ q)
  .rw [e]; rfl
end
end L2
namespace L2
open PySem PySem.Spec PyProof.Rows
noncomputable def Ite (l:Addr):It:=⟨fun i H=>∃ xs,H l = some (.lst xs)/\i < xs.length,fun i H v H'=>∃ xs x t,H l = some (.lst xs)/\xs[i]? = some x/\H t = none/\v = .ref t/\H' = upd H t (.tup [.int i,x]),fun i H=>∃ xs,H l = some (.lst xs)/\xs.length <= i⟩
theorem Tq {P:Program} {w:World} {K:Frag} {elts:List Expr} {x1} {pos:Pos} (e it l:Addr) (hne:e ≠ it) :
  Turn P w K (.Tuple elts x1 pos) (Ite l) [e,it] e (fun i h=>(∃ old,IsEnum h e it ((i:Nat):Int) old)/\h.IsListIter it l i) where
 mem:=by simp
 obj:=by
  rintro i h ⟨⟨old,s1⟩,⟨o4,s4,_,d4⟩⟩ b hb
  simp only [List.mem_cons,List.not_mem_nil,or_false] at hb
  rcases hb with rfl | rfl
  .exact ⟨_,s1,fun v e=>by cases e⟩
  .exact ⟨_,s4,fun v e=>by rw [d4] at e; cases e⟩
 keep:=fun i h h' ⟨⟨old,s1⟩,s4⟩ k=>⟨⟨old,k e (by simp) _ s1⟩,n_ s4 (k it (by simp))⟩
 item:=by
  intro X hP hw hK hc i pins s σ H E I hf st hg
  subst hP hw hK
  obtain ⟨⟨old,s1⟩,s4⟩:=st
  obtain ⟨xs,ha,lt1⟩:=hg
  obtain ⟨_,it1,n1,rv1,le1,g1⟩:=I.lstM ha
  have ex:xs[i]? = some xs[i]:=aj lt1
  obtain ⟨u,hu,ru⟩:=Js rv1 ex
  refine wpAny_pyNext_enum_item s1 s4 (items:=it1.toArray) ⟨_,g1,rfl,n1,rfl⟩ (x:=u) (by simpa using hu) hne fun h' a1 a3 a5 a6 a7=>⟨_,rfl,?_⟩
  refine wpAny_letOwnedTupleGo_enum a1 fun h2 st2 sb=>?_
  have nt:H s.heap.objs.size = none:=I.fresh
  have I1:=I.laid (a:=s.heap.objs.size) (o:=.tup [.int i,xs[i]]) (h':=s.heap.push { cls:=.type "tuple",data:=.seq #[.int i s.toks,u] }) (t':=s.toks + 1) (fun b q z=>aG _ z) (aF _)
   ⟨(by show 2 <= sizeLine; decide),[.int i s.toks,u],.cons ⟨_,rfl⟩ (.cons ru .nil),_,aY _ rfl,rfl,_,rfl⟩
  have nz:e ≠ s.heap.objs.size:=aR (aJ s1)
  have n1':it ≠ s.heap.objs.size:=by obtain ⟨o,e,_⟩:=s4; exact aR (aJ e)
  have fpn:∀ b ∈ [e,it],upd H s.heap.objs.size (.tup [.int i,xs[i]]) b = none:=by
   intro b hb
   have f0:=(hf b hb).1
   simp only [List.mem_cons,List.not_mem_nil,or_false] at hb
   rcases hb with rfl | rfl
   .exact (bF nz).trans f0
   .exact (bF n1').trans f0
  have I2:=I1.turnedL (ch:=[e,it]) (h':=h2) (t':=s.toks + 1) (fun b ob hb z=>by
   simp only [List.mem_cons,List.not_mem_nil,or_false,not_or] at hb
   obtain ⟨b1,b3⟩:=hb
   refine (sb.2 b b1).trans ?_
   by_cases hs:b = s.heap.objs.size
   .subst hs
    have e2:=aY s.heap (o:={ cls:=.type "tuple",data:=.seq #[.int i s.toks,u] }) rfl
    have z:(s.heap.push { cls:=.type "tuple",data:=.seq #[.int i s.toks,u] }).get? s.heap.objs.size = some ob:=z
    rw [e2] at z
    cases z
    exact a5
   .exact a7 b _ b1 b3 (zL z hs)) fun b hb=>⟨fpn b hb,(hf b hb).2⟩
  have mv:∀ c o,c ≠ e->h'.get? c = some o->h2.get? c = some o:=fun c o n z=>(sb.2 c n).trans z
  exact ⟨.ref _,_,I2,rfl,⟨xs,_,_,ha,ex,nt,rfl,rfl⟩,⟨⟨_,by rw [Int.natCast_add]; exact st2⟩,n_ a3 fun o z=>mv _ _ (fun y=>hne y.symm) z⟩,fpn⟩
 done:=by
  intro X hP hw hK hc i pins s σ H E I hf st hg
  subst hP hw hK
  obtain ⟨⟨old,s1⟩,s4⟩:=st
  obtain ⟨xs,ha,lt⟩:=hg
  obtain ⟨_,it1,n1,rv1,le1,g1⟩:=I.lstM ha
  have hl:=rv1.length
  refine wpAny_pyNext_enum_end (I.ok.hd hc) s1 s4 (items:=it1.toArray) ⟨_,g1,rfl,n1,rfl⟩ (by simp; omega) fun h' k=>⟨rfl,I.turnedL (ch:=[e,it]) (t':=s.toks) (fun b ob hb z=>?_) hf⟩
  simp only [List.mem_cons,List.not_mem_nil,or_false,not_or] at hb
  exact k b ob hb.2 z
 self:=fun _ _ _ _ _ ⟨⟨_,s1⟩,_⟩ h=>wpAny_pyIter_enum s1 h
section
variable {X:Cx}
noncomputable def V_ (ta:TA):TI:=fun σ H R=>ta σ H fun vs H1=>∃ a xs,vs = [.ref a]/\H1 a = some (.lst xs)/\R (Ite a) H1
theorem Iw {a:Expr} {ta:TA} {elts:List Expr} {x1} {p pos tpos:Pos} (hg:Gl X "enumerate") (hm:X.mg "enumerate" = none) (ha:PA X [a] ta) (hs:starEach [a] X.env = [(false,eval a X.env)]:=by rfl) :
  PI X (.Tuple elts x1 tpos) (.Call (.Name "enumerate" p) [a] [] pos) (V_ ta):=by
 intro pins s σ H R I h
 refine Call_ (zR I hg hm boot_enumerate (PyProof.Rows.callWith_type1 (thn (ha pos pins s σ H _ I h) fun us s1 ⟨vs,H1,I1,r1,q1⟩=>?_) (by rw [hs]; rfl) (by rfl)))
 obtain ⟨l1,xs,e,h1,q⟩:=q1
 subst e
 obtain ⟨u,rfl,ru⟩:=r1.one
 cases ru
 obtain ⟨_,it1,n1,rv1,le1,g1⟩:=I1.lstM h1
 refine call_enumerate_list (items:=it1.toArray) ⟨_,g1,rfl,n1,rfl⟩ fun h' a1 a2 a3 a7=>?_
 refine wpAny_pyIter_enum a1 ?_
 refine ⟨_,[s1.heap.objs.size + 1,s1.heap.objs.size],_,Ite l1,H1,rfl,I1.kept (t':=s1.toks) fun b ob e=>a7 b ob e,Tq _ _ l1 (Nat.succ_ne_self _),⟨⟨_,a1⟩,a2⟩,fun b hb=>?_,q⟩
 have hb':s1.heap.objs.size <= b:=by
  simp only [List.mem_cons,List.not_mem_nil,or_false] at hb
  rcases hb with z | z
  .rw [z]; exact Nat.le_succ _
  .rw [z]; exact aF _
 exact I1.fpOk hb' (I1.hok.fresh hb')
end
theorem Nr {ta:TA} {g:TG} {tb:TS} {D:Ends} {σ:L2.St} {H:Hp} (h:ta σ H fun vs H1=>∃ a xs,vs = [.ref a]/\H1 a = some (.lst xs)/\∃ J:Nat->L2.St->Hp->Prop,J 0 σ H1 /\
   (∀ (k:Nat) x σ' H' t,xs[k]? = some x->J k σ' H'->H' a = some (.lst xs)->H' t = none->g (.ref t) σ' (upd H' t (.tup [.int k,x])) fun σ2 H2=>tb { D with nx:=fun σ3 H3=>H3 a = some (.lst xs)/\J (k + 1) σ3 H3,ct:=fun σ3 H3=>H3 a = some (.lst xs)/\J (k + 1) σ3 H3,bk:=D.nx } σ2 H2) /\
   ∀ σ' H',J xs.length σ' H'->H' a = some (.lst xs)->D.nx σ' H'):Em (V_ (tMA ta)) g tb D σ H:=by
 refine ⟨_,h,?_⟩
 rintro vs H1 ⟨a,xs,rfl,hx,J,j0,step,fin⟩
 refine ⟨a,xs,rfl,hx,fun k m σ' H'=>k <= xs.length/\m = xs.length - k/\H' a = some (.lst xs)/\J k σ' H',⟨_,bh _,rfl,hx,j0⟩,?_⟩
 rintro k m σ' H' ⟨hk,rfl,ha',j⟩
 by_cases e:k = xs.length
 .subst e
  exact .inl ⟨⟨xs,ha',aF _⟩,fin σ' H' j ha'⟩
 .have hlt:k < xs.length:=by omega
  refine .inr ⟨⟨xs,ha',hlt⟩,fun σ3 H3=>H3 a = some (.lst xs)/\J (k + 1) σ3 H3,fun σ3 H3 ⟨z1,z3⟩=>⟨xs.length - (k + 1),by omega,by omega,rfl,z1,z3⟩,?_⟩
  rintro v H'' ⟨xs',x,t,e1,e3,e5,rfl,rfl⟩
  rw [ha'] at e1
  cases e1
  exact step k x σ' H' t e3 j ha' e5
end L2
namespace L2
open PySem PySem.Spec PyProof.Rows
end L2
namespace L2
open PySem PySem.Spec PyProof.Rows
section
variable {X:Cx}
noncomputable def ad8:List V->Hp->VK->Prop:=fun xs H Q=>∃ p kvs,xs = [.ref p]/\H p = some (.dK kvs)/\Q (.int kvs.length) H
theorem GP:fX X (.builtin "len") ad8:=by
 intro pins s σ H xs us Q I r h
 obtain ⟨p,kvs,rfl,hq,q⟩:=h
 obtain ⟨u,rfl,rx⟩:=vals1 r
 cases rx
 obtain ⟨z,y,vs,kv,d⟩:=(show dz X.prog X.w H s.heap p (.dK kvs) from I.hok p _ hq)
 have hl:=uw
 have hlen:kvs.length = vs.length:=kv.length
 exact call_len_dict y d (by omega) ⟨.int kvs.length,H,I.tok _,⟨_,by rw [hlen]⟩,q⟩
theorem Zu {e:Expr} {ta:TE} {f:Str} {pos:Pos} {K':Frag} (hK:X.K = K') (he:PE X e ta) (hb:attributeBase e f X.env (eval e X.env) = eval e X.env):PE X (.Attribute e f pos) (VJ K' ta f):=hK ▸ sE he hb
theorem Qq (c:Nat):∀ (n:Nat) (acc:Array Nat),((List.replicate n #[c]).foldl (· ++ ·) acc).toList = acc.toList ++ List.replicate n c
 | 0,acc=>by simp
 | n + 1,acc=>by
  rw [List.replicate_succ,List.foldl_cons,Qq c n,Array.toList_append,List.append_assoc]
  rfl
noncomputable def aaV:R2:=fun x y H Q=>∃ c n,x = .str ⟨#[c]⟩/\y = .int n/\1 <= n/\n <= 1000/\∀ z:Str,z.cps.toList = List.replicate n.toNat c->Q (.str z) H
theorem Z2:OpR X (binaryOp .Mult) aaV:=by
 intro pins s σ H x y v u Q I rx ry h
 obtain ⟨c,n,rfl,rfl,h0,h1,q⟩:=h
 obtain ⟨t,rfl⟩:=rx
 obtain ⟨t',rfl⟩:=ry
 have hi:(⟨#[c]⟩ : Str).length = 1:=rfl
 have made:∀ z:Str,z.cps.toList = List.replicate n.toNat c->(Made.str z).post (EP X pins σ Q) s:=fun z hz=>⟨by
  have:z.length = n.toNat:=by
   show z.cps.size = _
   rw [<- Array.length_toList,hz,aN]
  exact aL (show z.length <= 1001 by omega) (by decide),.str z,H,I.tok _,⟨_,rfl⟩,q z hz⟩
 refine PySem.P.mul_str ?_ (fun _ _=>?_) (fun _ _=>?_) ?_
 .rw [decide_eq_false (by omega),decide_eq_false (by omega)]; rfl
 .rw [hi]
  have:1 <= (2 ^ 63 - 1:Int) / n:=Int.le_ediv_of_mul_le (by omega) (by omega)
  omega
 .rw [hi]
  unfold Builtin.Str.tooLong
  exact decide_eq_false (by
   have:n.toNat <= 1000:=by omega
   have e:1000 <= sizeLine:=by decide
   omega)
 .split
  .omega
  .split
   .rename_i hc
    rw [hi] at hc
    have e:n.toNat = 1:=by
     simp at hc
     omega
    refine ⟨.str ⟨#[c]⟩,H,I,⟨t,rfl⟩,q _ ?_⟩
    rw [e]; rfl
   .refine made _ ?_
    show ((List.replicate n.toNat #[c]).foldl (· ++ ·) #[]).toList = _
    rw [Qq]; rfl
theorem OkI.wild {P:Program} {w:World} {K:Frag} {mg:Str->Option Value} {base:Heap} {k:Nat} {f:Addr} {ps:List Str} {sp:Sp} (h:OkI P w K mg base CX0 k f ps sp):OkI P w K mg base (CXO P w) k f ps sp:=let ⟨fd,a,b⟩:=h; ⟨fd,a.wild,b⟩
end
end L2
namespace L2
open PySem PySem.Spec PyProof.Rows
section
variable {X:Cx} {p pos:Pos} {e:Expr} {es:List Expr} {t:TA} {tv:TE} {x:Str} {k:Nat} {ps:List Str} {sp:Sp} {f:Addr}
noncomputable def OkV (P:Program) (w:World) (K:Frag) (mg:Str->Option Value) (base:Heap) (k:Nat) (f:Addr) (ps:List Str) (sp:Sp):Prop:=∃ fd,cu P w K mg base CX0 k f fd ps sp/\Binds K fd ps []/\PySem.W.keepIn K (.ref f) = true
theorem OkF.val {P:Program} {w:World} {K:Frag} {mg:Str->Option Value} {base:Heap} (G:OkF P w K mg base k x ps sp):∃ f,mg x = some (.ref f)/\OkV P w K mg base k f ps sp :=
 let ⟨f,fd,F,b,hm,kp⟩:=G
 ⟨f,hm,fd,F,b,kp⟩
noncomputable def Xu (f:Addr) (sp:Sp) (tv:TE) (t:TA):TE:=fun σ H Q=>tv σ H fun v H0=>v = .ref f/\t σ H0 fun vs H1=>sp vs H1 Q E0
theorem Va (G:OkV X.prog X.w X.K X.mg X.base k f ps sp) (hr:gJ k X.A) (hv:PE X (.Name x p) tv) (ha:PA X (e :: es) t)
  (he:starEach (e :: es) X.env = (false,eval e X.env) :: starEach es X.env:=by rfl) (hpl:(backTo pos (starEach es X.env)).any (·.1) = false:=by rfl):PE X (.Call (.Name x p) (e :: es) [] pos) (Xu f sp tv t):=by
 obtain ⟨fd,F,b,hk⟩:=G
 intro pins s σ H Q I h
 refine wpAny_Call_Name_kw (thn (hv pins s σ H _ I h) ?_)
 rintro u s0 ⟨v,H0,I0,r0,rfl,q0⟩
 cases r0
 refine PySem.W.callWith_K (h₀:=X.base) I0.ok.mod.kin hk (thn (ha pos pins s0 σ H0 _ I0 q0) fun us s1 ⟨vs,H1,I1,r,q⟩=>⟨I1.kIn,?_⟩) he hpl
 refine Jw F hr b .nil KD I1 r ?_
 rw [List.append_nil]
 exact q
end
theorem Cz {X:Cx} {N0 xs0 N1 xs1:List Str} {scopeO scopeI:Scope} {C0 C1:Addr} {s0 s1:Shared} {H0 H1:Hp} {ex0 ex1:List Addr} {pn0 pn1:List (Addr × Obj)} {elt iter tg:Expr} {pos:Pos} {scope:Scope} {wi:TI} {te:TE} {ifs:List Expr} {gt:TG} {tc:TT} (sc:Scope) (N N' xs:List Str) (hsc:X.env.scope = sc) (hNN:xs1 ++ N1 = N) (hc:X.calm = true) (hsh:yr xs N = N') (hN:(xs ++ N').Nodup) (hkind:scope.kind = .function) (hcell:∀ y ∈ scope.names,y.2 ≠ .cell)
  (hnames:∀ y ∈ scope.names,y.2 = .local->scope.names.lookup y.1 = some .local) (hfree:∀ y ∈ scope.names,y.2 = .free->(rlb (rlb sc scopeO) scopeI).names.lookup y.1 = some .cell\/(rlb (rlb sc scopeO) scopeI).names.lookup y.1 = some .free)
  (hloc:∀ y ∈ N,y ∉ xs->(rlb (rlb (rlb sc scopeO) scopeI) scope).names.lookup y ≠ some .local)
  (hq:∀ y ∈ N,y ∈ xs->(rlb (rlb (rlb sc scopeO) scopeI) scope).names.lookup (hid y) = none) (hi:PI ((X.compG N0 scopeO xs0 C0 s0 H0 ex0 pn0).compG N1 scopeI xs1 C1 s1 H1 ex1 pn1) tg iter wi)
  (hg:∀ C s₀ H₀ ex pn,PG (((X.compG N0 scopeO xs0 C0 s0 H0 ex0 pn0).compG N1 scopeI xs1 C1 s1 H1 ex1 pn1).compG N' scope xs C s₀ H₀ ex pn) tg gt) (ht:∀ C s₀ H₀ ex pn,PTs (((X.compG N0 scopeO xs0 C0 s0 H0 ex0 pn0).compG N1 scopeI xs1 C1 s1 H1 ex1 pn1).compG N' scope xs C s₀ H₀ ex pn) ifs tc) (he:∀ C s₀ H₀ ex pn,PE (((X.compG N0 scopeO xs0 C0 s0 H0 ex0 pn0).compG N1 scopeI xs1 C1 s1 H1 ex1 pn1).compG N' scope xs C s₀ H₀ ex pn) elt te)
  (hs:∀ z,foldedSetIterable iter ((X.compG N0 scopeO xs0 C0 s0 H0 ex0 pn0).compG N1 scopeI xs1 C1 s1 H1 ex1 pn1).env z = pure z:=by intro _; rfl) :
  PE ((X.compG N0 scopeO xs0 C0 s0 H0 ex0 pn0).compG N1 scopeI xs1 C1 s1 H1 ex1 pn1) (.ListComp elt [⟨tg,iter,ifs,0⟩] scope pos) (dO wi xs.length (tMG gt) (tMT tc) (tM te)):=by
 subst hsc hNN
 exact Gn (X:=((X.compG N0 scopeO xs0 C0 s0 H0 ex0 pn0).compG N1 scopeI xs1 C1 s1 H1 ex1 pn1)) (rlb (rlb X.env.scope scopeO) scopeI) (xs1 ++ N1) N' xs rfl rfl hc hsh hN hkind hcell hnames hfree hloc hq hi hg ht he hs
theorem zZ {ta:TA} {te:TE} {gt:TG} {tc:TT} {n:Nat} {σ:L2.St} {H:Hp} {Q:VK} (h:ta σ H fun vs H1=>∃ a xs,vs = [.ref a]/\H1 a = some (.lst xs)/\xs.length <= 64/\∀ D,H1 D = none->∃ J:Nat->List V->Hp->Prop,J 0 [] (upd H1 D (.lst [])) /\
   (∀ (k:Nat) x zs Hc t,xs[k]? = some x->J k zs Hc->zs.length <= k->Hc t = none->Hc a = some (.lst xs)->vI n gt tc te (.ref t) σ (upd Hc t (.tup [.int k,x])) (fun v H2=>H2 D = some (.lst zs)/\H2 a = some (.lst xs)/\J (k + 1) (zs ++ [v]) (upd H2 D (.lst (zs ++ [v])))) fun H2=>H2 a = some (.lst xs)/\J (k + 1) zs H2) /\
   ∀ zs Hc,J xs.length zs Hc->zs.length <= xs.length->Q (.ref D) Hc):dO (V_ (tMA ta)) n (tMG gt) (tMT tc) (tM te) σ H Q:=by
 refine ⟨_,h,?_⟩
 rintro vs H1 ⟨a,xs,rfl,hx,h64,rest⟩
 refine ⟨a,xs,rfl,hx,fun D hD=>?_⟩
 obtain ⟨J,j0,step,fin⟩:=rest D hD
 have na:a ≠ D:=bD hx hD
 have z64:64 <= sizeLine:=by decide
 refine ⟨fun k m zs Hc=>k <= xs.length/\m = xs.length - k/\zs.length <= k/\Hc a = some (.lst xs)/\J k zs Hc,⟨_,bh _,rfl,bh _,(bF na).trans hx,j0⟩,?_⟩
 rintro k m zs Hc ⟨hk,rfl,hz,ha',j⟩
 by_cases e:k = xs.length
 .subst e
  exact .inl ⟨⟨xs,ha',aF _⟩,fin zs Hc j hz⟩
 .have hlt:k < xs.length:=by omega
  refine .inr ⟨⟨xs,ha',hlt⟩,?_⟩
  rintro v H'' ⟨xs',x,t,e1,e3,e5,rfl,rfl⟩
  rw [ha'] at e1
  cases e1
  refine (step k x zs Hc t e3 j hz e5 ha').weak ?_ ?_
  .rintro yv H2 ⟨z1,z2,z4⟩
   refine ⟨by omega,z1,xs.length - (k + 1),by omega,by omega,rfl,?_,(bF na).trans z2,z4⟩
   rw [aA]; simp; omega
  .rintro H2 ⟨z2,z4⟩
   exact ⟨xs.length - (k + 1),by omega,by omega,rfl,by omega,z2,z4⟩
end L2
namespace L2
open PySem PySem.Spec PyProof.Rows
section
variable {prog:Program} {w:World} {A:Around} {E:Value->Shared->Prop} {h:Heap} {g:Array GenState} {d:Drawn} {t:Nat} {os:OsState} {nm q:Str} {C N:Addr} {bs bm bmB:List Value} {hdct:Bool} {sn:List Str} {sub:List Value} {ab:Bool} {col:Option Bool} {dd:Option Addr} {k0 k1 k2 k3 k5:Option Value} {B newId initId:String}
noncomputable abbrev Gj (h:Heap) (C:Addr) (us:List Value):Heap:=(h.push { cls:=.type "tuple",data:=.seq us.toArray }).push { cls:=.ref C,data:=.fields #[.ref h.objs.size,.none,.none,.none,.bool false,.none] }
theorem zY {us:List Value} (b:Addr) (o:Obj) (e:h.get? b = some o):(Gj h C us).get? b = some o:=aG _ (aG _ e)
theorem Ep (F:ExcBaseFacts B newId initId bmB) (T:OwnTail h bmB bm) {mN:Str->Option Value} {us:List Value} {fI:Addr} {oI:Obj} {Q:Fin->Shared->Prop} (hC:h.get? C = some (excClassObj nm q C N bs bm hdct sn sub ab col dd k0 k1 k2 k3 k5 newId)) (hn:h.Ns N mN) (hi:mN "__init__" = some (.ref fI)) (hf:h.get? fI = some oI) (hc:oI.cls = .type "function") (hl:us.length <= sizeLine)
  (hq:wpAny (model prog w) A (call (.ref fI) (.ref (h.objs.size + 1) :: us)) (fun r s'=>r = .none/\Q (.done (.ret (.ref (h.objs.size + 1)))) s') E ⟨Gj h C us,g,d,t,os⟩):wpAny (model prog w) A (Builtin.«type.__call__» ⟨.ref C :: us,[]⟩) Q E ⟨h,g,d,t,os⟩:=by
 have K:=zY (h:=h) (C:=C) (us:=us)
 have C1:=K _ _ hC
 have T1:=T.keeps K
 have at_:(Gj h C us).get? (h.objs.size + 1) = some { cls:=.ref C,data:=.fields #[.ref h.objs.size,.none,.none,.none,.bool false,.none] }:=by heap_get
 have isC:(Value.ref C :: bm).contains (.ref C) = true:=by simp
 repeat (first | with_reducible refine wpAny_loadPart_at hC ?_ | with_reducible refine wpAny_madeBy_exc hC ?_ | wp_step)
 refine codeAny_call_builtin_code (Code.quiet_builtin _ F.quiet) (wpAny_check_new_subT F T hC (codeAny_exc_new_subT F T hC ?_ hl))
 show wpAny _ _ _ _ _ _
 unfold isInstance
 repeat (first | with_reducible refine wpAny_loadPart_at at_ ?_ | (with_reducible refine wpAny_isSubtype_exc C1 ?_; rw [isC]) | wp_step)
 show wpAny _ _ (typeLookup (.ref C) _) _ _ _
 refine wpAny_typeLookup_tail C1 (hn.keeps K) T1 F.mroIs F.init.lookup ?_
 rw [hi]
 refine wpAny_holding (wpAny_bind ?_)
 unfold bindSpecial
 refine wpAny_bind (wpAny_typeOf (T := "function") ⟨_,K _ _ hf,hc⟩ ?_)
 rw [if_pos (by decide)]
 refine wpAny_pure (wpAny_bind (wpAny_mono hq (fun r s' ⟨e,z⟩=>?_) fun _ _ x=>x))
 subst e
 wp_walk
 exact z
theorem VL (F:ExcBaseFacts B newId initId bmB) (T:OwnTail h bmB bm) {mN:Str->Option Value} {us:List Value} {fI:Addr} {oI:Obj} {Q:Value->Shared->Prop} (hC:h.get? C = some (excClassObj nm q C N bs bm hdct sn sub ab col dd k0 k1 k2 k3 k5 newId)) (hn:h.Ns N mN) (hi:mN "__init__" = some (.ref fI)) (hf:h.get? fI = some oI) (hc:oI.cls = .type "function") (hl:us.length <= sizeLine)
  (hq:wpAny (model prog w) (A.under (.builtin "type.__call__" ⟨.ref C :: us,[]⟩)) (call (.ref fI) (.ref (h.objs.size + 1) :: us)) (fun r s'=>r = .none/\Q (.ref (h.objs.size + 1)) s') E ⟨Gj h C us,g,d,t,os⟩):wpAny (model prog w) A (call (.ref C) us) Q E ⟨h,g,d,t,os⟩:=by
 have a1:=tc_lookup
 have a2:=tc_bind (.ref C)
 have a3:(⟨h,g,d,t,os⟩ : Shared).TypeIs (.ref C) "type" := ⟨_,hC,rfl⟩
 refine wpAny_call (codeAny_of_tree ?_)
 show wpAny _ _ (callAny (.ref C) _) _ _ _
 repeat (any_goals (first | assumption | with_reducible refine wpAny_loadPart_at hC ?_ | wp_step))
 exact ⟨rfl,codeAny_call_builtin_at (Code.quiet_builtin _ (by decide +kernel)) entry_typeCall (wpAny_check_type_call_sub hC (Ep F T hC hn hi hf hc hl hq))⟩
end
end L2
namespace L2
open PySem PySem.Spec PyProof.Rows
noncomputable def J2:List Value->Bool
 | .ref _ :: l=>J2 l
 | l=>l == bmV
theorem Od {self:Value} {l:List Value} (h:J2 l = true):refuseLoop self "__setattr__" l = pure ():=by
 induction l with
 | nil=>cases h
 | cons x l ih =>
  cases x with
  | ref C=>rw [refuseLoop_ref]; exact ih h
  | type n =>
   have e:Value.type n :: l = bmV:=beq_iff_eq.mp h
   rw [e]
   exact PySem.F.store_ValueError.passes self
  | _=>exact absurd (beq_iff_eq.mp h) (by intro z; cases z)
structure U_ (K:Frag) (C:Addr):Prop where
 cd:∃ cd,PySem.W.clsIn K C = some cd/\cd.hasDict = true/\J2 cd.mro = true
 sa:PySem.W.findIn K (.ref C) "__setattr__" = some (some (.builtin "object.__setattr__"))
 mo:PySem.W.mroIn K C (.type "object") = some true
section
variable {prog:Program} {w:World} {A:Around} {E:Value->Shared->Prop} {K:Frag} {s:Shared} {x C:Addr} {ox:Obj} {f:Str} {v:Value} {vs:Array Value}
theorem aad {Q:Unit->Shared->Prop} (X:K.In s.heap) (S:U_ K C) (n:cj K C f) (hx:s.heap.get? x = some ox) (hc:ox.cls = .ref C) (hd:ox.dict = none) (hv:ox.data = .fields vs)
  (hq:∀ h' t',h'.Ns1 s.heap.objs.size (fun y=>if y = f then some v else none)->h'.get? x = some { ox with dict:=some s.heap.objs.size }->(∀ b,b ≠ x->b ≠ s.heap.objs.size->h'.get? b = s.heap.get? b)->Q () ⟨h',s.gens,s.drawn,t',s.os⟩):wpAny (model prog w) A (setAttr (.ref x) f v) Q E s:=by
 obtain ⟨cd,hcd,hdi,hm⟩:=S.cd
 have J:PySem.W.InstAt s.heap x ox C none:=⟨hx,hc,by unfold PySem.W.notCls; rw [hv],by rw [hd]; trivial⟩
 have SF:=PySem.F.store_object
 refine PySem.W.set_plain X J S.sa ?_
 have sub:PySem.W.Looks (model prog w) s.heap (isInstance (.ref x) (.type "object")) true:=J.type.andThen (PySem.W.looks_mroIn X S.mo)
 have lm:PySem.W.Looks (model prog w) s.heap (mroOf (.ref C)) cd.mro:=(PySem.W.looks_clsIn X hcd).andThen .now
 generalize hs1:({ s with toks:=s.toks + 1 } : Shared) = s1
 have e1:s1.heap = s.heap:=by rw [<- hs1]
 rw [<- e1] at sub lm X J
 refine codeAny_call_builtin SF.slot.plain SF.entry (@PySem.W.check_slot (model prog w) _ _ s1 "object.__setattr__" "object" "__setattr__" (.ref x) [.str f s.toks,v] [] _ SF.kind SF.split sub (SF.args (.ref x) (.str f s.toks) v) ?_)
 rw [PySem.W.osa_eq,refuse_eq]
 refine wpAny_bind (wpAny_bind (J.type.here (wpAny_bind (lm.here ?_))))
 rw [Od hm]
 refine wpAny_pure (wpAny_bind (J.type.here (wpAny_bind ((PySem.W.looks_findIn X n).here (wpAny_bind (wpAny_pure ?_))))))
 have hx1:s1.heap.get? x = some ox:=by rw [e1]; exact hx
 obtain ⟨oc,odi,oda,osl⟩:=ox
 dsimp only at hc hd hv
 subst hc hd hv
 refine wpAny_bind (wpAny_pure (wpAny_bind (wpAny_bind (wpAny_loadPart hx1 (wpAny_bind ((PySem.W.looks_clsIn X hcd).here ?_))))))
 rw [hdi,if_neg (by simp),if_neg (by simp [typeHasDict])]
 have e0:=hs1
 obtain ⟨hp,gg,dr,tk,os⟩:=s1
 dsimp only at hx1 e1 ⊢
 cases e0
 have hxs:x ≠ s.heap.objs.size:=aR (aJ hx)
 refine wpAny_bind (wpAny_alloc' (wpAny_bind (wpAny_update' (aG _ hx) (wpAny_pure ?_))))
 generalize hu:(s.heap.push { cls:=.type "dict",data:=.dict #[] }).update x _ = hU
 have q1:hU.get? s.heap.objs.size = some { cls:=.type "dict",data:=.dict #[] }:=by
  rw [<- hu]; exact (Heap.get?_update_ne _ _ _ _ hxs.symm).trans (Heap.get?_push_at rfl rfl)
 have q2:hU.get? x = some { cls:=.ref C,dict:=some s.heap.objs.size,data:=.fields vs,slots:=osl }:=by
  rw [<- hu]; exact Heap.get?_update_self _ (aG _ hx) rfl
 have q3:∀ b,b ≠ x->b ≠ s.heap.objs.size->hU.get? b = s.heap.get? b:=fun b n1 n2=>by
  rw [<- hu]; exact (Heap.get?_update_ne _ _ _ _ n1).trans (Heap.get?_push_ne _ _ _ n2)
 dsimp only
 unfold Builtin.ObjectAttr.storeInDict Builtin.ObjectAttr.newKeyGuard
 refine wpAny_bind (wpAny_pure (wpAny_bind (wpAny_nsSet1 (Heap.Ns1.of_empty ⟨_,#[],_,q1,rfl,fun _ z=>absurd z (by simp),fun _=>rfl⟩) fun h' hn hs=>?_)))
 obtain ⟨oD,esD,epD,hoD,hdD,hcD⟩:=hn.count (Within.cons f v Within.nil)
 refine wpAny_bind (wpAny_lookBehind hoD (by rw [hdD]; exact pastItsLine_dict (aL hcD (by rw [List.length_cons,List.length_nil,sizeLine_eq]; omega))) ?_)
 wp_walk
 exact hq h' _ hn ((hs.2 x hxs).trans q2) fun b n1 n2=>(hs.2 b n2).trans (q3 b n1 n2)
end
end L2
namespace L2
open PySem PySem.Spec PyProof.Rows
structure Mh (K:Frag) (C HE fI:Addr):Prop where
 ex:∃ nm qn N bs sn sub ab col dd k0 k1 k2 k3 k5,K.lookup C = some (excClassObj nm qn C N bs (.ref HE :: bmV) true sn sub ab col dd k0 k1 k2 k3 k5 "ValueError.__new__")/\PySem.W.nsOkIn K N = true/\PySem.W.nsIn K N "__init__" = some (some (.ref fI))
 he:JF K HE
 fn:∃ o,K.lookup fI = some o/\o.cls = .type "function"
 kp:PySem.W.keepIn K (.ref C) = true
theorem YM {K:Frag} {h:Heap} {N:Addr} {m:Str->Option Value} {n:Str} {v:Value} (X:K.In h) (G:h.Ns N m) (e:PySem.W.nsIn K N n = some (some v)):m n = some v:=by
 obtain ⟨o,es,ep,ho,hd,_,hf⟩:=G
 rw [<- hf]
 unfold PySem.W.nsIn at e
 split at e
 .rename_i q
  cases (X _ _ q).symm.trans ho
  cases hd
  unfold nsFind findBy
  rw [<- Array.find?_toList]
  split at e
  .rename_i en he
   cases e
   rw [he]; rfl
  .split at e <;> cases e
 .cases e
theorem Mh.obj {K:Frag} {h:Heap} {C HE fI:Addr} (q:Mh K C HE fI) (X:K.In h):∃ nm qn N bs sn sub ab col dd k0 k1 k2 k3 k5 mN o,h.get? C = some (excClassObj nm qn C N bs (.ref HE :: bmV) true sn sub ab col dd k0 k1 k2 k3 k5 "ValueError.__new__") /\
  h.Ns N mN/\mN "__init__" = some (.ref fI)/\h.get? fI = some o/\o.cls = .type "function" /\ OwnTail h bmV (.ref HE :: bmV):=by
 obtain ⟨nm,qn,N,bs,sn,sub,ab,col,dd,k0,k1,k2,k3,k5,l,a,b⟩:=q.ex
 obtain ⟨o,lo,ho⟩:=q.fn
 obtain ⟨bm,N',nm',qn',bs',hd',sn',sub',ab',col',dd',k0',k1',k2',k3',k5',mN',hC,hN,hi,T⟩:=Qz X q.he
 exact ⟨nm,qn,N,bs,sn,sub,ab,col,dd,k0,k1,k2,k3,k5,_,o,X _ _ l,.of_isNs (PySem.W.isNs_of_in X a),YM X (.of_isNs (PySem.W.isNs_of_in X a)) b,X _ _ lo,ho,.own hC hN hi .base⟩
noncomputable abbrev Ml (C t:Addr) (d:Option Addr):Obj:={ cls:=.ref C,dict:=d,data:=.fields #[.ref t,.none,.none,.none,.bool false,.none] }
noncomputable def XN (a C:Addr) (d:Option Addr):HO:=.ext fun h=>∃ t,h.get? a = some (Ml C t d)
theorem Vp {P:Program} {w:World} {H:Hp} {h:Heap} {a C t:Addr} {d:Option Addr} (e:h.get? a = some (Ml C t d)):dz P w H h a (XN a C d):=⟨⟨t,e⟩,⟨_,e⟩,fun _ _ ⟨u,z⟩ k=>⟨u,k _ z⟩⟩
theorem QW {P:Program} {w:World} {H:Hp} {h:Heap} {a C:Addr} {d:Option Addr} (e:dz P w H h a (XN a C d)):∃ t,h.get? a = some (Ml C t d):=e.1
theorem abv {H:Hp} {a:Addr} {o:HO} (e:H a = some o):upd H a o = H:=by
 funext b; unfold upd; split
 .rename_i z; rw [z,e]
 .rfl
structure X6 (K:Frag) (B:Addr):Prop where
 ga:PySem.W.specialIn K (.ref B) "__getattribute__" = some (some (.builtin "type.__getattribute__"))
 rd:PySem.W.readsIn K B (.type "type") = true
 at_:PySem.W.findCls K (.ref B) (.type "type") "__init__" = some (.val (.builtin "ValueError.__init__"))
section
variable {X:Cx} {B C HE fI:Addr} {x:Str} {p pos apos:Pos} {e:Expr} {es:List Expr} {t:TA} {pins:List (Addr × Obj)} {σ:L2.St} {H:Hp} {s:Shared}
theorem init_exc {A:Around} {E:Value->Shared->Prop} {Q:Value->Shared->Prop} {a:Addr} {us:List Value} (I:Inv X pins σ H s) (q:Mh X.K C HE fI) (ha:H a = some (XN a C none)) (hl:us.length <= sizeLine)
  (h:∀ s',Inv X pins σ H s'->Q .none s'):wpAny (model X.prog X.w) A (call (.builtin "ValueError.__init__") (.ref a :: us)) Q E s:=by
 obtain ⟨nm,qn,N,bs,sn,sub,ab,col,dd,k0,k1,k2,k3,k5,mN,o,hC,hN,hi,hf,hfc,T⟩:=q.obj I.kIn
 obtain ⟨u,hx⟩:=QW (I.hok a _ ha)
 have F:=PySem.F.excBase_ValueError
 obtain ⟨hp,gs,dr,tk,os⟩:=s
 refine wpAny_call (codeAny_call_builtin F.init.plain F.initEntry (wpAny_check_init_subT F T hC hx rfl ?_))
 wp_walk
 refine h _ ?_
 have e1:(hp.push { cls:=.type "tuple",data:=.seq us.toArray }).get? a = some (Ml C u none):=aG _ hx
 have J:=I.write (x:=a) (e:=a) (o:=XN a C none) (t':=tk) (h':=(hp.push { cls:=.type "tuple",data:=.seq us.toArray }).update a (Obj.mapFields fun x=>x.setIfInBounds 0 (Value.ref hp.objs.size))) (by rw [ha]; trivial) (.inl rfl)
  (fun b v n z=>(Heap.get?_update_other _ _ (Ne.symm n)).trans (aG _ z)) ⟨_,Heap.get?_update_self _ e1 rfl⟩ (Vp (t:=hp.objs.size) (Heap.get?_update_self _ e1 rfl))
 rwa [abv ha] at J
noncomputable def ab1 (C:Addr) (t:TA):TE:=fun σ H Q=>t σ H fun vs H1=>∃ a ws,vs = .ref a :: ws/\H1 a = some (XN a C none)/\ws.length <= sizeLine/\Q .non H1
theorem Xl {pl:Sem Bool} (c:X6 X.K B) (q:Mh X.K C HE fI) (hg:Gl X x) (hm:X.mg x = some (.ref B)) (ha:PA X (e :: es) t) (hdb:(x == ("__debug__" : Str)) = false:=by decide)
  (hst:starEach (e :: es) X.env = (false,eval e X.env) :: starEach es X.env:=by rfl) (hpl:(backTo pos (starEach es X.env)).any (·.1) = false:=by rfl)
  (ht:eval (.Call (.Attribute (.Name x p) "__init__" apos) (e :: es) [] pos) X.env = (do
   let ov <- eval (.Name x p) X.env
   standAt apos.atName
   let (f,first) <- holding [ov] (getMethod ov "__init__" pl)
   callWith pos f first (backTo pos (starEach (e :: es) X.env)) (backToKw pos (keywordEach [] X.env))):=by rfl) :
  PE X (.Call (.Attribute (.Name x p) "__init__" apos) (e :: es) [] pos) (ab1 C t):=by
 intro pins s σ H Q I h
 refine PySem.W.methodCall_KW (pl:=pl) (nA I hg hm (PySem.W.method_cls I.kIn c.ga (PySem.W.cls_value I.kIn c.rd c.at_ (by decide) ?_)) hdb) ht
 show wpAny _ _ (callWith pos (.builtin "ValueError.__init__") [] (backTo pos (starEach (e :: es) X.env)) []) _ _ _
 have h2:=ha pos pins _ σ H _ (I.tok (s.toks + 1)) h
 rw [hst] at h2 ⊢
 refine PySem.W.callWith_of (P:=fun _=>True) (by show ((false || (backTo pos (starEach es X.env)).any (·.1)) || false) = false; rw [hpl]; rfl) (fun _ _=>⟨.machine,.inr (.inl rfl),.now⟩) (Calls.evalArgs_plain (thn h2 fun us s2 ⟨vs,H2,I2,r,a,ws,e1,e2,e3,e4⟩=>⟨trivial,?_⟩))
 subst e1
 cases r with
 | cons r1 r2 =>
  cases r1
  exact init_exc I2 q e2 (by rw [<- r2.length]; exact e3) fun s' J=>⟨.non,H2,J,rfl,e4⟩
end
end L2
namespace L2
open PySem PySem.Spec PyProof.Rows
section
variable {X:Cx} {pins:List (Addr × Obj)} {σ:L2.St} {H:Hp} {s:Shared} {a C HE fI:Addr} {f:Str} {v:V} {A:Around} {E:Value->Shared->Prop}
theorem RZ {u:Value} {Q:Unit->Shared->Prop} (I:Inv X pins σ H s) (e:H a = some (XN a C none)) (c:U_ X.K C) (n:cj X.K C f) (r:RelV v u)
  (h:∀ d s',H d = none->d ≠ a->Inv X pins σ (upd (upd H a (XN a C (some d))) d (.xd [(f,v)])) s'->Q () s'):wpAny (model X.prog X.w) A (setAttr (.ref a) f u) Q E s:=by
 obtain ⟨t,ha⟩:=QW (I.hok a _ e)
 have nd:H s.heap.objs.size = none:=I.hok.fresh (aF _)
 have na:s.heap.objs.size ≠ a:=(aR (aJ ha)).symm
 refine aad I.kIn c n ha rfl rfl rfl fun h' t' hn hx ho=>h s.heap.objs.size _ nd na ?_
 have J:=I.write (x:=a) (e:=a) (o:=XN a C (some s.heap.objs.size)) (t':=t') (h':=h') (by rw [e]; trivial) (.inl rfl) (fun b w z q=>(ho b z (aR (aJ q))).trans q) ⟨_,hx⟩ (Vp hx)
 refine J.track ((bF na).trans nd) (Heap.get?_none_of_le I.sz) (Nat.ne_of_gt I.lt) (fun x c q z=>?_) (fun p q z=>?_) ⟨_,hn,fun g=>?_⟩
 .obtain ⟨w,o,q',_⟩:=I.cell x c q
  rw [z] at q'
  exact Nat.lt_irrefl _ (aJ q')
 .have q':=(I.pin p q).1
  rw [z] at q'
  exact Nat.lt_irrefl _ (aJ q')
 .by_cases z:g = f
  .subst z
   simp [List.lookup]
   exact r
  .have:(g == f) = false:=by simp [z]
   simp [List.lookup,this,z]
   trivial
noncomputable def acv (K:Frag) (ta tv:TE) (f:Str):TS:=fun D σ H=>tv σ H fun y H1=>ta σ H1 fun x H2=>∃ a C,x = .ref a/\H2 a = some (XN a C none)/\U_ K C/\cj K C f/\∀ d,H2 d = none->d ≠ a->D.nx σ (upd (upd H2 a (XN a C (some d))) d (.xd [(f,y)]))
theorem YZ {o value:Expr} {ta tv:TE} {pos pos':Pos} (ha:PE X o ta) (hv:PE X value tv) (hs:swapsWith value (some (.Attribute o f pos')) pos.line X.env = pure false):PS X (.Assign [.Attribute o f pos'] value pos) (acv X.K ta tv f):=by
 intro pins s σ H D I h
 refine plainObj_wpAny_Assign_Attribute (thn (hv pins s σ H _ I h) fun u s1 ⟨y,H1,I1,ry,q⟩=>thn (ha pins s1 σ H1 _ I1 q) fun ov s2 ⟨x,H2,I2,rx,a,C,ex,ea,c,n,q2⟩=>?_) hs
 subst ex
 obtain rfl:ov = Value.ref a:=rx
 exact RZ I2 ea c n ry fun d s3 h1 h2 I3=>⟨σ,_,I3,q2 d h1 h2⟩
theorem Inv.madeE {us:List Value} (I:Inv X pins σ H s):Inv X pins σ (upd H (s.heap.objs.size + 1) (XN (s.heap.objs.size + 1) C none)) { s with heap:=Gj s.heap C us } :=
 I.laid (a:=s.heap.objs.size + 1) (o:=XN (s.heap.objs.size + 1) C none) (h':=Gj s.heap C us) (t':=s.toks) zY (Nat.le_succ _) (Vp (t:=s.heap.objs.size) (by heap_get))
theorem Tc {k:Nat} {fd:FuncData} {ps:List Str} {sp:Sp} {us:List Value} {vs:List V} {Q:Addr->Hp->Prop} (q:Mh X.K C HE fI) (F:cu X.prog X.w X.K X.mg X.base CX0 k fI fd ps sp) (hr:gJ (k + 1) X.A) (hb:Binds X.K fd ps [])
  (I:Inv X pins σ H s) (r:Vals vs us) (hl:us.length <= sizeLine) (h:∀ x,H x = none->sp (.ref x :: vs) (upd H x (XN x C none)) (fun v H2=>v = .non/\Q x H2) E0) :
  wpAny (model X.prog X.w) X.A (call (.ref C) us) (fun u s'=>∃ a H',u = .ref a/\X.s₀.heap.objs.size <= a/\Inv X pins σ H' s'/\Q a H') X.xe s:=by
 obtain ⟨nm,qn,N,bs,sn,sub,ab,col,dd,k0,k1,k2,k3,k5,mN,o,hC,hN,hi,hf,hfc,T⟩:=q.obj I.kIn
 have hq:=h (s.heap.objs.size + 1) (I.hok.fresh (Nat.le_succ _))
 have I2:=I.madeE (C:=C) (us:=us)
 have r2:Vals (V.ref (s.heap.objs.size + 1) :: vs) (Value.ref (s.heap.objs.size + 1) :: us):=.cons rfl r
 have hl2:(Value.ref (s.heap.objs.size + 1) :: us ++ []).length = ps.length:=by
  rw [List.append_nil,<- r2.length]
  exact F.len _ _ _ _ hq
 have hb':=hb _ (Value.ref (s.heap.objs.size + 1) :: us) I2.kIn hl2
 rw [List.append_nil] at hb'
 have sz:=I.sz
 obtain ⟨hp,g,d,t,os⟩:=s
 refine VL PySem.F.excBase_ValueError T hC hN hi hf hfc hl (wpAny_call (codeAny_mono (F.run _ X.stack _ _ ⟨Value.ref (hp.objs.size + 1) :: us,[]⟩ _ _ _ E0 (hr.make C us []) (I2.env0.make C us []) hb' r2 hq) fun r s' hq'=>?_))
 cases r with
 | error e=>exact KD pins σ _ _ e s' I2 hq'
 | ok fl =>
  cases fl with
  | ret u =>
   obtain ⟨v,H',I3,rv,ev,q3⟩:=I2.after hq'
   subst ev
   exact ⟨rv,hp.objs.size + 1,H',rfl,Nat.le_succ_of_le sz,I3,q3⟩
  | next=>exact False.elim hq'
  | brk=>exact False.elim hq'
  | cont=>exact False.elim hq'
end
end L2
namespace L2
open PySem PySem.Spec PyProof.Rows
noncomputable def out (H:Hp) (a:Addr):Hp:=fun b=>if b = a then none else H b
theorem MF {H:Hp} {a:Addr} : out H a a = none:=by unfold out; rw [if_pos rfl]
theorem tH {H:Hp} {a b:Addr} (n:b ≠ a):out H a b = H b:=by unfold out; rw [if_neg n]
theorem M8 {H:Hp} {a b:Addr} {o:HO} (e:out H a b = some o):b ≠ a/\H b = some o:=by
 by_cases z:b = a
 .subst z; rw [MF] at e; cases e
 .exact ⟨z,by rw [tH z] at e; exact e⟩
section
variable {X:Cx} {pins:List (Addr × Obj)} {σ:L2.St} {H:Hp} {s:Shared} {a C:Addr} {B h':Heap} {d:Option Addr}
theorem Inv.flyMade (I:Inv X pins σ H s) (hx:X.ex = []) (e:H a = some (XN a C d)) (sz:X.s₀.heap.objs.size <= a) (hB:B = PySem.W.hideAll (s.heap.hide a) (frs X.stack)) (fl:qR B X.outer a (.ref C) d .none h') (up:s.heap.UpToSlots h') :
  Fly X.prog X.w X.outer X.H₀ X.s₀ a (.ref C) (out H a) { s with heap:=h' } B d:=by
 have inB:∀ b o,b ≠ a->s.heap.get? b = some o->b ∉ frs X.stack->B.get? b = some o:=fun b o n q m=>by rw [hB]; exact PySem.W.hideAll_get _ ((Heap.hide_ne _ n).trans q) m
 have ni:∀ b u,H b = some u->b ∉ frs X.stack:=fun b u q z=>by rw [I.stkFree b z] at q; cases q
 have trk:∀ b u o,b ≠ a->H b = some u->s.heap.get? b = some o->B.get? b = some o:=fun b u o n q r=>inB b o n r (ni b u q)
 have na:∀ b,H b = none->b ≠ a:=fun b q z=>by rw [z,e] at q; cases q
 have nf:∀ b ∈ frs X.stack,∀ o,s.heap.get? b = some o->∀ vs,o.data ≠ .fields vs:=fun b hb o q=>by
  obtain ⟨_,o',e',z⟩:=I.stack.mem hb
  rw [q] at e'
  cases e'
  exact z
 have hok:HOk X.prog X.w (out H a) h':=fun b u q=>by
  obtain ⟨n,q⟩:=M8 q
  refine (I.hok b u q).stay (fun c v hc r=>?_) (fun c r=>?_) fun c xs r=>?_
  .rcases hc with z | z
   .subst z; exact fl.1 c v (trk c u v n q r)
   .exact fl.1 c v (trk c _ v (eY z e (by intro z; cases z)) z r)
  .rw [tH (eY r e (by intro z; cases z))]; exact r
  .rw [tH (eY r e (by intro z; cases z))]; exact r
 have un:Un (frs X.stack) [a] H (out H a) s.heap h':=by
  refine ⟨fun b o q n hb _=>fl.1 b o (inB b o (na b n) q hb),fun b o q n hb _=>up b o q (nf b hb o q),fun b o _ n _=>by rw [tH (na b n)]; exact n,fun b o q hb=>?_,fun b xs q=>?_,fun b o u q=>?_,fun b ps q=>⟨#[],?_⟩⟩
  .by_cases m:b ∈ frs X.stack
   .obtain ⟨sl,r⟩:=up b o q (nf b m o q)
    exact ⟨_,r⟩
   .exact ⟨o,fl.1 b o (inB b o (by simpa using hb) q m)⟩
  .rw [tH (eY q e (by intro z; cases z))]; exact q
  .rw [tH (eY q e (by intro z; cases z))]; exact q
  .rw [tH (eY q e (by intro z; cases z)),q]; simp
 have J:Inv X pins σ (out H a) { s with heap:=h' }:=I.call' (s':={ s with heap:=h' }) (ch:=[a]) rfl un hok I.bare fun b hb=>by
  obtain rfl:b = a:=by simpa using hb
  exact ⟨.inr sz,(fun z=>by have:=I.free; rw [<- z,e] at this; cases this),(fun x c q z=>by have:=I.freeC x c q; rw [z,e] at this; cases this),(fun p hp z=>by have:=(I.pin p hp).2.1; rw [z,e] at this; cases this)⟩
 have lta:∀ b o,X.s₀.heap.get? b = some o->b ≠ a:=fun b o q z=>Nat.lt_irrefl a (aU (z ▸ aJ q) sz)
 refine ⟨J.os,J.bare,Heap.get?_none_of_le sz,by have:=J.base; rw [hx] at this; exact this,J.hok,fun b hb=>?_,fl,fun b o q hb hc=>?_⟩
 .obtain ⟨_,o,ho,_⟩:=I.ok.funs.mem hb
  exact J.base.free b o ho (I.ok.frf b hb) fun z=>I.ok.exfs b z hb
 .have fin:∀ v,B.get? b = some v->B.get? b = some o:=fun v y=>by
   have e2:=fl.1 b v y
   rw [show ({ s with heap:=h' } : Shared).heap.get? b = h'.get? b from rfl,e2] at q
   cases q
   exact y
  rcases hc with ⟨u,r⟩ | ⟨u,r⟩
  .obtain ⟨⟨v,z⟩,n⟩:=I.old hx r
   exact fin v (inB b v (lta b u r) z (I.nostk n hb))
  .obtain ⟨n,r⟩:=M8 r
   obtain ⟨o',e'⟩:=(I.hok b u r).there
   exact fin o' (trk b u o' n r e')
end
noncomputable def Yh (X:Cx) (Ex:Value->Option Addr->L2.St->Hp->Prop):Prop :=
 ∀ pins σ H s a C d,Inv X pins σ H s->H a = some (XN a C d)->X.s₀.heap.objs.size <= a->Ex (.ref C) d σ (out H a)->X.xe (.ref a) s
section
variable {P:Program} {w:World} {K:Frag} {mg:Str->Option Value} {base:Heap} {N:List Str} {qual:Str} {scope:Scope} {f:Addr} {cd:Value} {A:Around} {outer:List Env} {s:Shared} {H:Hp} {E:XK}
theorem Sw:Yh (Ec (CXO P w) P w K mg base N qual scope f cd A outer s H E) (fun C d _ H'=>E C d H'):=by
 intro pins σ H1 s1 a C d I e sz q
 show wpAny _ _ (leaving _ (.ref a)) _ _ _
 have hin:∀ env ∈ (envOfC qual scope s.heap.objs.size f cd :: outer),∀ b,env.frame = some b->b ∈ frs (envOfC qual scope s.heap.objs.size f cd :: outer):=fun env he b hb=>List.mem_filterMap.mpr ⟨env,he,hb⟩
 obtain ⟨t,ha⟩:=QW (I.hok a _ e)
 have fr:(s1.heap.hide a).FunFrames base (envOfC qual scope s.heap.objs.size f cd :: outer):=PySem.W.funFrames_hideAll (as:=[a]) I.stack fun env he b hb z=>by
  obtain rfl:b = a:=by simpa using hb
  have:=I.stkFree b (hin env he b z)
  rw [e] at this; cases this
 refine Gu (base:=PySem.W.hideAll (s1.heap.hide a) (frs (envOfC qual scope s.heap.objs.size f cd :: outer))) (h0:=s1.heap.hide a) (outer:=outer) I.ok.frames rfl (fun b o q=>PySem.W.of_hideAll _ q) (PySem.W.funFrames_hide fr hin) (fun b o q=>Heap.of_hide q) (Heap.hide_self _ _) ha rfl rfl fun h' fl up=>?_
 exact ⟨a,.ref C,d,out H1 a,_,rfl,I.flyMade rfl e sz rfl fl up,q⟩
end
section
variable {prog:Program} {w:World} {A:Around} {E:Value->Shared->Prop} {s:Shared} {env:Env} {nm qn:Str} {C N:Addr} {bs bm:List Value} {hd:Bool} {sn:List Str} {sub:List Value} {ab:Bool} {col:Option Bool} {dd:Option Addr} {k0 k1 k2 k3 k5:Option Value}
theorem Tj {x:Sem Value} {Q:Flow->Shared->Prop} (hb:bm.contains (.type "BaseException") = true) (hh:A.handled = none)
  (h:wpAny (model prog w) A x (fun v s1=>∃ a t d,v = .ref a/\s1.heap.get? C = some (excClassObj nm qn C N bs bm hd sn sub ab col dd k0 k1 k2 k3 k5 "ValueError.__new__")/\s1.heap.get? a = some (Ml C t d)/\E (.ref a) s1) E s):wpAny (model prog w) A (raiseStmt env (some x) none) Q E s:=by
 have hB:(Value.ref C :: bm).contains (.type "BaseException") = true:=by rw [List.contains_cons,hb,Bool.or_true]
 unfold raiseStmt
 refine wpAny_bind (wpAny_mono h (fun v s1 z=>?_) fun _ _ z=>z)
 obtain ⟨a,t,d,rfl,hC,ha,hE⟩:=z
 obtain ⟨hp,gs,dr,tk,os⟩:=s1
 repeat (first | with_reducible refine wpAny_loadPart_at ha ?_ | with_reducible refine wpAny_loadPart_at hC ?_ | (with_reducible refine wpAny_isSubtype_exc hC ?_; rw [hB]) | wp_step)
 exact wpAny_raiseNew_none hh hE
end
section
variable {X:Cx} {x:Str} {np cpos pos:Pos} {e₀:Expr} {rest:List Expr} {ta:TA} {C HE fI:Addr} {Ex:Value->Option Addr->L2.St->Hp->Prop} {k:Nat} {ps:List Str} {sp:Sp}
noncomputable def Jy (C:Addr) (sp:Sp) (Ex:Value->Option Addr->L2.St->Hp->Prop) (ta:TA):TS:=fun _ σ H=>ta σ H fun vs H1=>vs.length <= sizeLine/\∀ a,H1 a = none->sp (.ref a :: vs) (upd H1 a (XN a C none)) (fun v H2=>v = .non/\∃ d,H2 a = some (XN a C d)/\Ex (.ref C) d σ (out H2 a)) E0
theorem TX (hc:X.calm = true) (hg:Gl X x) (hm:X.mg x = some (.ref C)) (q:Mh X.K C HE fI) (G:OkI X.prog X.w X.K X.mg X.base CX0 k fI ps sp) (hr:gJ (k + 1) X.A) (hx:Yh X Ex) (ha:PA X (e₀ :: rest) ta) (hdb:(x == ("__debug__" : Str)) = false:=by decide)
  (he:starEach (e₀ :: rest) X.env = (false,eval e₀ X.env) :: starEach rest X.env:=by rfl) (hpl:(backTo cpos (starEach rest X.env)).any (·.1) = false:=by rfl) :
  PS X (.Raise (some (.Call (.Name x np) (e₀ :: rest) [] cpos)) none pos) (Jy C sp Ex ta):=by
 obtain ⟨fd,F,hb⟩:=G
 intro pins s σ H D I h
 obtain ⟨nm,qn,N,bs,sn,sub,ab,col,dd,k0,k1,k2,k3,k5,mN,o,hC,hN,hi,hf,hfc,T⟩:=q.obj I.ok.mod.kin
 rw [arm_exec_Raise]
 refine wpAny_bind (wpAny_standAt (Tj (C:=C) (nm:=nm) (qn:=qn) (N:=N) (bs:=bs) (bm:=.ref HE :: bmV) (hd:=true) (sn:=sn) (sub:=sub) (ab:=ab) (col:=col) (dd:=dd) (k0:=k0) (k1:=k1) (k2:=k2) (k3:=k3) (k5:=k5) (T.hasType (by decide)) (I.ok.hd hc) ?_))
 refine wpAny_bind (thn (Q:=fun u s1=>∃ a H' d,u = .ref a/\X.s₀.heap.objs.size <= a/\Inv X pins σ H' s1/\H' a = some (XN a C d)/\Ex (.ref C) d σ (out H' a)) ?_ fun u s1 ⟨a,H',d,e1,e2,I1,e3,e4⟩=>wpAny_bind (wpAny_standAt (wpAny_pure ?_)))
 .refine wpAny_Call_Name_kw (nA I hg hm ?_ hdb)
  refine PySem.W.callWith_K (h₀:=X.base) I.ok.mod.kin q.kp (thn (ha cpos pins s σ H _ I h) fun us s1 ⟨vs,H1,I1,r,hl,q1⟩=>⟨I1.kIn,?_⟩) he hpl
  exact thn (Tc (Q:=fun a H2=>∃ d,H2 a = some (XN a C d)/\Ex (.ref C) d σ (out H2 a)) q F hr hb I1 r (by show us.length <= _; rw [<- r.length]; exact hl) q1) fun u s2 ⟨a,H2,e1,e2,I2,d,e3,e4⟩=>⟨a,H2,d,e1,e2,I2,e3,e4⟩
 .obtain ⟨t,ht⟩:=QW (I1.hok a _ e3)
  exact ⟨a,t,d,e1,I1.bk _ _ hC,ht,hx pins σ H' s1 a C d I1 e3 e2 e4⟩
end
end L2
namespace L2
open PySem PySem.Spec PyProof.Rows
section
variable {prog:Program} {w:World} {A:Around} {E:Value->Shared->Prop} {h:Heap} {g:Array GenState} {d:Drawn} {t:Nat} {os:OsState} {a C:Addr} {o:Obj} {od:Option Obj} {K:Frag} {f:Str} {u:Value}
theorem N_ {tk:Tok} {fl b:Bool} {Q:Value->Shared->Prop} (X:K.In h) (T:Tt K C) (J:PySem.W.InstAt h a o C od) (hx:h.get? a = some o) (hc:o.cls = .ref C) (hf:PySem.W.findObj K C od f = some (.value u)) (hh:PySem.W.handedIn u = true) (hq:Q u ⟨h,g,d,t,os⟩) :
  wpAny (model prog w) A (getAttrBy (.ref a) (.str f tk) fl b) Q E ⟨h,g,d,t,os⟩:=by
 have f3:=F.excAttr_ValueError.ga.bind (.ref a)
 have n2:(Value.builtin "BaseException.__getattribute__" == Value.builtin "object.__getattribute__") = false:=by decide +kernel
 have n1:(onTheHeap (Value.ref C) && Value.builtin "BaseException.__getattribute__" == Value.builtin "object.__getattribute__") = false:=by rw [n2]; exact Bool.and_false _
 have LT:=yS (M:=model prog w) hx hc
 have LG:=PySem.W.looks_findIn (M:=model prog w) X T.ga
 have LN:=PySem.W.looks_findIn (M:=model prog w) X T.gn
 have LF:=PySem.W.looks_find (M:=model prog w) X J hf
 repeat (any_goals (first | assumption | with_reducible refine LT.at ?_ | with_reducible refine LG.at ?_ | with_reducible refine LN.at ?_ | (with_reducible refine wpAny_loadPart_at hx ?_; rw [hc]) | wp_step))
 rw [if_neg (show ¬ (b && onTheHeap (Value.builtin "BaseException.__getattribute__")) = true from by rw [show onTheHeap (Value.builtin "BaseException.__getattribute__") = false from rfl,Bool.and_false]; exact bA)]
 repeat (any_goals (first | assumption | wp_step))
 refine codeAny_call_builtin F.excAttr_ValueError.ga.plain F.entry_bexc_ga (J1 X T hx hc ?_)
 repeat (any_goals (first | assumption | with_reducible refine LT.at ?_ | with_reducible refine LF.at ?_ | wp_step))
 show wpAny _ _ (handedOut u) _ _ _
 rw [PySem.W.handedOut_of hh]
 exact wpAny_pure hq
end
section
variable {X:Cx} {pins:List (Addr × Obj)} {σ:L2.St} {H:Hp} {s:Shared} {a d C:Addr} {fs:List (Str × V)} {f:Str} {v:V} {A:Around} {E:Value->Shared->Prop}
theorem Uj {b:Bool} {Q:Value->Shared->Prop} (I:Inv X pins σ H s) (e:H a = some (XO a C (some d))) (ed:H d = some (.xd fs)) (c:Tt X.K C) (hh:PySem.W.hasDictIn X.K C = true) (n:cj X.K C f) (l:fs.lookup f = some v)
  (h:∀ u s',Inv X pins σ H s'->RelV v u->Q u s'):wpAny (model X.prog X.w) A (getAttr (.ref a) f b) Q E s:=by
 obtain ⟨ox,hx,hc,hd,vs,hv⟩:=(I.hok a _ e).1
 obtain ⟨mA,hn,r⟩:=I.hok d _ ed
 obtain ⟨od,ho,hl⟩:=Gi hn
 obtain ⟨u,hu,ru⟩:=uN.some_of (v:=v) (o:=mA f) (by rw [<- l]; exact r f)
 have J:PySem.W.InstAt s.heap a ox C (some od):=⟨hx,hc,by unfold PySem.W.notCls; rw [hv],by rw [hd]; exact ho⟩
 have I2:=I.tok (s.toks + 1)
 have kI:=I.kIn
 obtain ⟨hp,g,dr,t,os⟩:=s
 unfold getAttr
 repeat (first | exact N_ kI c J hx hc (PySem.W.findObj_own hh n rfl (by rw [hl,hu])) (GQ ru) (h u _ I2 ru) | wp_step)
noncomputable def aaI (K:Frag) (ta:TE) (f:Str):TE:=fun σ H Q=>ta σ H fun x H1=>∃ a C d fs v,x = .ref a/\H1 a = some (XO a C (some d))/\H1 d = some (.xd fs)/\Tt K C/\PySem.W.hasDictIn K C = true/\cj K C f/\fs.lookup f = some v/\Q v H1
theorem ZR {e:Expr} {ta:TE} {pos:Pos} (he:PE X e ta) (hb:attributeBase e f X.env (eval e X.env) = eval e X.env):PE X (.Attribute e f pos) (aaI X.K ta f):=by
 intro pins s σ H Q I h
 refine Ra hb (thn (he pins s σ H _ I h) fun u s1 ⟨x,H1,I1,rx,a,C,d,fs,v,ex,ea,ed,c,hd,n,l,q⟩=>?_)
 subst ex
 obtain rfl:u = Value.ref a:=rx
 exact Uj I1 ea ed c hd n l fun u' s2 I2 ru=>⟨v,H1,I2,ru,q⟩
end
end L2
namespace L2
open PySem PySem.Spec PyProof.Rows
theorem fsc {N P:List Str} {sc:Scope} (h1:sc.kind = .function:=by rfl) (h2:sc.isCoroutine = false:=by rfl) (h3:sc.isGenerator = false:=by rfl) (h4:N.Nodup/\(∀ x ∈ P,sc.names.lookup x = some .local\/sc.names.lookup x = some .cell)/\∀ y ∈ sc.names,y.2 ≠ .free:=by decide +kernel) (h5:N.take P.length = P:=by rfl):bR N P sc:=⟨h1,h2,h3,h4.1,h5,h4.2.1,h4.2.2⟩
noncomputable abbrev CK (sc scope:Scope) (N N' xs:List Str):Prop:=yr xs N = N'/\(xs ++ N').Nodup/\(∀ y ∈ scope.names,y.2 ≠ .cell)/\(∀ y ∈ scope.names,y.2 = .local->scope.names.lookup y.1 = some .local)/\(∀ y ∈ scope.names,y.2 = .free->sc.names.lookup y.1 = some .cell\/sc.names.lookup y.1 = some .free) /\
 (∀ y ∈ N,y ∉ xs->(scope.names.map fun (n,k)=>if (k == NameKind.free && sc.kind == .function && sc.names.lookup n == some .cell) then (n,NameKind.cell) else (n,k)).lookup y ≠ some .local)/\∀ y ∈ N,y ∈ xs->(scope.names.map fun (n,k)=>if (k == NameKind.free && sc.kind == .function && sc.names.lookup n == some .cell) then (n,NameKind.cell) else (n,k)).lookup (hid y) = none
section
variable {X:Cx} {elt iter tg:Expr} {pos:Pos} {scope:Scope} {wi:TI} {te:TE} {ifs:List Expr} {gt:TG} {tc:TT}
theorem fW (sc:Scope) (N N' xs:List Str) (hi:PI X tg iter wi) (hg:∀ {C s₀ H₀ ex pn},PG (X.compG N' scope xs C s₀ H₀ ex pn) tg gt) (ht:∀ {C s₀ H₀ ex pn},PTs (X.compG N' scope xs C s₀ H₀ ex pn) ifs tc) (he:∀ {C s₀ H₀ ex pn},PE (X.compG N' scope xs C s₀ H₀ ex pn) elt te)
  (hsc:X.env.scope = sc:=by rfl) (hNN:X.N = N:=by rfl) (hc:X.calm = true:=by rfl) (hk:scope.kind = .function:=by rfl) (h:CK sc scope N N' xs:=by decide +kernel) (hs:∀ z,foldedSetIterable iter X.env z = pure z:=by intro _; rfl):PE X (.ListComp elt [⟨tg,iter,ifs,0⟩] scope pos) (dO wi xs.length (tMG gt) (tMT tc) (tM te)) :=
 by
 subst hsc hNN
 exact Lr hc h.1 h.2.1 hk h.2.2.1 h.2.2.2.1 h.2.2.2.2.1 h.2.2.2.2.2.1 h.2.2.2.2.2.2 hi (fun _ _ _ _ _=>hg.mono) (fun _ _ _ _ _=>ht.mono) (fun _ _ _ _ _=>he.mono) hs
theorem vN {i0:Nat} {y0:Str} {py spos:Pos} (sc:Scope) (N N' xs:List Str) (hi:PI X tg iter wi) (hg:∀ {C s₀ H₀ ex pn},PG (X.compG N' scope xs C s₀ H₀ ex pn) tg gt) (ht:∀ {C s₀ H₀ ex pn},PTs (X.compG N' scope xs C s₀ H₀ ex pn) ifs tc) (he:∀ {C s₀ H₀ ex pn},PE (X.compG N' scope xs C s₀ H₀ ex pn) elt te) (hgy:PG X (.Name y0 py) (dw i0))
  (hsc:X.env.scope = sc:=by rfl) (hNN:X.N = N:=by rfl) (hc:X.calm = true:=by rfl) (hk:scope.kind = .function:=by rfl) (h:CK sc scope N N' xs:=by decide +kernel) (hsw:swapsWith (.ListComp elt [⟨tg,iter,ifs,0⟩] scope pos) (some (.Name y0 py)) spos.line X.env = pure true:=by rfl) (hs:∀ z,foldedSetIterable iter X.env z = pure z:=by intro _; rfl) :
  PS X (.Assign [.Name y0 py] (.ListComp elt [⟨tg,iter,ifs,0⟩] scope pos) spos) (z7 (dO wi xs.length (tMG gt) (tMT tc) (tM te)) (dw i0)) :=
 by
 subst hsc hNN
 exact W9 hc h.1 h.2.1 hk h.2.2.1 h.2.2.2.1 h.2.2.2.2.1 h.2.2.2.2.2.1 h.2.2.2.2.2.2 hi (fun _ _ _ _ _=>hg.mono) (fun _ _ _ _ _=>ht.mono) (fun _ _ _ _ _=>he.mono) hgy hsw hs
theorem cU {N' xs:List Str} {C s₀ H₀ ex pn} {i:Nat} {x:Str} {p:Pos} (hN:(xs ++ N').Nodup:=by decide +kernel) (hi:(xs ++ N')[i]? = some x:=by rfl) (hx:Loc (X.compG N' scope xs C s₀ H₀ ex pn).env.scope x:=by exact Or.inl rfl) (hf:(X.compG N' scope xs C s₀ H₀ ex pn).fn x = true\/(X.compG N' scope xs C s₀ H₀ ex pn).env.scope.names.lookup x = some .local:=by exact Or.inr rfl):PG (X.compG N' scope xs C s₀ H₀ ex pn) (.Name x p) (dw i):=bW hN hi hx hf
end
theorem KJ {tl te:TE} {σ:L2.St} {H:Hp} {Q:VK} (p:Nat->Bool) (y:Str) (hl:∀ R:VK,R (.str y) H->tl σ H R) (hz:y.length <= sizeLine) (he:∀ (c:Nat) (Hc:Hp) (R:VK),R (.bl (p c)) Hc->te (some (.str ⟨#[c]⟩) :: σ) Hc R)
  (q:∀ D,H D = none->Q (.ref D) (upd H D (.lst ((y.cps.toList.map p).map V.bl)))):dO (aed (tM tl)) 1 (tMG (dw 0)) (tMT vG) (tM te) σ H Q:=by
 refine aaG (hl _ ⟨y,rfl,fun D hD=>?_⟩)
 have hy:y.cps.size <= sizeLine:=hz
 refine ⟨fun k m ys Hc=>k <= y.cps.size/\m = y.cps.size - k/\ys = ((y.cps.toList.take k).map p).map V.bl/\Hc = upd H D (.lst ys),⟨_,bh _,rfl,rfl,rfl⟩,?_⟩
 rintro k m ys Hc ⟨hk,rfl,rfl,rfl⟩
 by_cases e:k = y.cps.size
 .subst e
  refine .inl ⟨rfl,?_⟩
  rw [aK (by simp)]
  exact q D hD
 .have hlt:k < y.cps.size:=by omega
  refine .inr ⟨hlt,?_⟩
  rintro x H'' ⟨rfl,c,hc,rfl⟩
  refine (Ye (No:=fun _=>False) (he c _ (fun v H2=>v = .bl (p c)/\H2 = upd H D (.lst (((y.cps.toList.take k).map p).map V.bl))) ⟨rfl,rfl⟩)).weak ?_ fun _ z=>z.elim
  rintro v H2 ⟨rfl,rfl⟩
  refine ⟨?_,bC,y.cps.size - (k + 1),by omega,by omega,rfl,?_,?_⟩
  .rw [ak,ak,bf]
   simp only [Array.length_toList]
   omega
  .have e1:y.cps.toList.take (k + 1) = y.cps.toList.take k ++ [c]:=by
    rw [List.take_succ]
    have:y.cps.toList[k]? = some c:=by simpa using hc
    rw [this]; rfl
   rw [e1,bw,bw]; rfl
  .exact rm
theorem ac4 {K:Frag} {a:Addr} {i j:Int} {d:Option Addr} {n:Nat} {sl:Array (Option Value)} {t u:Tok} (l:K.lookup a = some ⟨.type "tuple",d,.seq #[.int i t,.int j u] n,sl⟩):∀ H,SqT K H a [.int i,.int j]:=fun H=>.inr ⟨_,_,_,l,rfl,rfl,(by show 2 <= sizeLine; decide),.cons ⟨_,rfl⟩ (.cons ⟨_,rfl⟩ .nil)⟩
theorem agf {K:Frag} {h:Heap} {mg:Str->Option Value} {x:Str} {i:Int} {t:Tok} (X:K.In h) (G:h.Ns mainGlobals mg) (l:PySem.W.nsIn K mainGlobals x = some (some (.int i t))):∃ u,mg x = some u/\RelV (.int i) u:=⟨_,PySem.W.mg_of X G l,_,rfl⟩
noncomputable def Lst:Nat->(List Value->Prop)->Prop
 | 0,P=>P []
 | n + 1,P=>∀ a,Lst n fun l=>P (a :: l)
theorem JZ:∀ (n:Nat) {P:List Value->Prop},Lst n P->∀ us:List Value,us.length = n->P us
 | 0,_,h,[],_=>h
 | n + 1,_,h,a :: l,e=>JZ n (h a) l (Nat.succ.inj e)
section
variable {K:Frag} {h:Heap} {mg:Str->Option Value} {x m qual:Str} {v:Value} {C f:Addr} {st:Stmt} {ps:List Str} {oc:Value} {od an:Option Addr} {osl:Array (Option Value)} {kV doc pm cdv ct:Value} {i j:Int} {d:Option Addr} {n:Nat} {sl:Array (Option Value)} {t u:Tok}
theorem q_c (X:K.In h:=by assumption) (G:h.Ns mainGlobals mg:=by assumption) (e:PySem.W.nsIn K mainGlobals x = some (some v):=by k_is):mg x = some v:=PySem.W.mg_of X G e
theorem q_z (X:K.In h:=by assumption) (G:h.Ns mainGlobals mg:=by assumption) (e:PySem.W.nsIn K mainGlobals x = some none:=by k_is):mg x = none:=PySem.W.mg_none_of X G e
theorem q_n (e:PySem.W.findIn K (.ref C) x = some none:=by k_is):cj K C x:=e
theorem q_m (a:PySem.W.findIn K (.ref C) m = some (some (.ref f)):=by k_is) (b:PySem.W.isFn K (.ref f) = true:=by k_is) (c:PySem.W.keepIn K (.ref f) = true:=by k_is):Meth K C m f:=⟨a,b,c⟩
theorem q_M (a:PySem.W.makesIn K C = true:=by k_is) (b:PySem.W.findIn K (.ref C) "__init__" = some (some (.ref f)):=by k_is) (c:PySem.W.isFn K (.ref f) = true:=by k_is) (e:PySem.W.keepIn K (.ref C) = true:=by k_is):Mk K C f:=⟨a,b,c,e⟩
theorem q_4 (a:PySem.W.plainGet K C Str.empty = true:=by k_is) (b:PySem.W.hasDictIn K C = true:=by k_is) (c:PySem.W.plainOver K C = true:=by k_is) (e:PySem.W.findIn K (.ref C) "__setattr__" = some (some (.builtin "object.__setattr__")):=by k_is):Cls K C:=⟨a,b,c,e⟩
theorem q_I (a:PySem.W.findIn K (.ref C) "__class__" = some (some (.builtin "object.__class__")):=by k_is) (b:PySem.W.specialIn K (.builtin "object.__class__") "__get__" = some (some (.builtin "getset_descriptor.__get__")):=by k_is) (c:PySem.W.takesIn K (.builtin "object.__class__") = some true:=by k_is) (e:PySem.W.mroIn K C (.type "object") = some true:=by k_is):Ma K C:=⟨a,b,c,e⟩
theorem q_B (a:PySem.W.specialIn K (.ref C) "__getattribute__" = some (some (.builtin "type.__getattribute__")):=by k_is) (b:PySem.W.readsIn K C (.type "type") = true:=by k_is) (c:PySem.W.findCls K (.ref C) (.type "type") m = some (.val (.ref f)):=by k_is) (e:PySem.W.keepIn K (.ref f) = true:=by k_is):lq K C m f:=⟨a,b,c,rfl,e⟩
theorem q_x (e:PySem.W.excIn K C bmV "ValueError.__new__" = true:=by k_exc):JF K C:=e
theorem q_g (X:K.In h:=by assumption) (G:h.Ns mainGlobals mg:=by assumption) (l:PySem.W.nsIn K mainGlobals x = some (some (.int i t)):=by k_is):∃ u,mg x = some u/\RelV (.int i) u:=agf X G l
theorem q_t (l:K.lookup C = some ⟨.type "tuple",d,.seq #[.int i t,.int j u] n,sl⟩:=by k_is):∀ H,SqT K H C [.int i,.int j]:=ac4 l
theorem q_f (N:Nat) (hb:∀ (kV doc pm:Value) (an:Option Addr) (cdv ct:Value),Lst N fun us=>bindArgs (PySem.W.fnOf x x (jt st) (gj st) (bK st) .none kV doc pm an cdv ct) ⟨us,[]⟩ = pure (ps.zip us)) (hN:ps.length = N:=by rfl) (X:K.In h:=by assumption) (G:h.Ns mainGlobals mg:=by assumption)
  (a:PySem.W.nsIn K mainGlobals x = some (some (.ref f)):=by k_is) (l:K.lookup f = some ⟨oc,od,.func (PySem.W.fnOf x x (jt st) (gj st) (bK st) .none kV doc pm an cdv ct),osl⟩:=by k_is)
  (c:PySem.W.codeIn K cdv x = true:=by k_is) (k:PySem.W.keepIn K (.ref f) = true:=by k_is):dW K mg x st ps:=Z0 X G a l c k fun kV doc pm an cdv ct us e=>JZ N (hb kV doc pm an cdv ct) us (e.trans hN)
theorem q_h (N:Nat) (hb:∀ (kV doc pm:Value) (an:Option Addr) (cdv ct:Value),Lst N fun us=>bindArgs (PySem.W.fnOf x qual (jt st) (gj st) (bK st) .none kV doc pm an cdv ct) ⟨us,[]⟩ = pure (ps.zip us)) (hN:ps.length = N:=by rfl)
  (l:K.lookup f = some ⟨oc,od,.func (PySem.W.fnOf x qual (jt st) (gj st) (bK st) .none kV doc pm an cdv ct),osl⟩:=by k_is) (c:PySem.W.codeIn K cdv qual = true:=by k_is) (k:PySem.W.keepIn K (.ref f) = true:=by k_is):rC K x qual st ps f:=Yx l c k fun kV doc pm an cdv ct us e=>JZ N (hb kV doc pm an cdv ct) us (e.trans hN)
end
end L2
namespace L2
open PySem PySem.Spec PyProof.Rows
section
variable {K:Frag} {C HE fI:Addr} {nm qn:Str} {N:Addr} {bs sub:List Value} {sn:List Str} {ab:Bool} {col:Option Bool} {dd:Option Addr} {k0 k1 k2 k3 k5:Option Value} {o:Obj} {cd:ClassData}
theorem q_E (he:PySem.W.excIn K HE bmV "ValueError.__new__" = true:=by k_exc) (l:K.lookup C = some (excClassObj nm qn C N bs (.ref HE :: bmV) true sn sub ab col dd k0 k1 k2 k3 k5 "ValueError.__new__"):=by k_is) (n1:PySem.W.nsOkIn K N = true:=by kernel_rfl) (n2:PySem.W.nsIn K N "__init__" = some (some (.ref fI)):=by k_is)
  (lf:K.lookup fI = some o:=by k_is) (hf:o.cls = .type "function" := by rfl) (kp:PySem.W.keepIn K (.ref C) = true:=by k_is):Mh K C HE fI:=⟨⟨nm,qn,N,bs,sn,sub,ab,col,dd,k0,k1,k2,k3,k5,l,n1,n2⟩,he,⟨o,lf,hf⟩,kp⟩
theorem q_S (a:PySem.W.clsIn K C = some cd:=by k_is) (b:cd.hasDict = true:=by rfl) (c:J2 cd.mro = true:=by rfl) (e:PySem.W.findIn K (.ref C) "__setattr__" = some (some (.builtin "object.__setattr__")):=by k_is) (m:PySem.W.mroIn K C (.type "object") = some true:=by k_is):U_ K C:=⟨⟨cd,a,b,c⟩,e,m⟩
theorem q_b (a:PySem.W.specialIn K (.ref C) "__getattribute__" = some (some (.builtin "type.__getattribute__")):=by k_is) (b:PySem.W.readsIn K C (.type "type") = true:=by k_is) (c:PySem.W.findCls K (.ref C) (.type "type") "__init__" = some (.val (.builtin "ValueError.__init__")):=by k_is):X6 K C:=⟨a,b,c⟩
theorem q_5 (a:PySem.W.findIn K (.ref C) "__getattribute__" = some (some (.builtin "BaseException.__getattribute__")):=by k_is) (b:PySem.W.findIn K (.ref C) "__getattr__" = some none:=by k_is) (c:PySem.W.findIn K (.ref C) "__class__" = some (some (.builtin "object.__class__")):=by k_is) (e:PySem.W.mroIn K C (.type "object") = some true:=by k_is) (m:PySem.W.mroIn K C (.type "BaseException") = some true:=by k_is):Tt K C:=⟨a,b,c,e,m⟩
end
end L2
namespace L2
open PySem PySem.Spec PyProof.Rows
section
variable {X:Cx} {k:Nat} {f C:Addr} {ps:List Str} {sp:Sp} {m:Str} {pos apos:Pos} {e o:Expr} {es:List Expr} {ta:TE} {t:TA} {Ex:Value->Option Addr->L2.St->Hp->Prop}
noncomputable def aag (C:Addr) (m:Str) (sp:Sp) (Ex:Value->Option Addr->L2.St->Hp->Prop) (ta:TE) (t:TA):TE:=fun σ H Q=>ta σ H fun x H1=>∃ a dx fs,x = .ref a/\H1 a = some (.ins C dx fs)/\fs.lookup m = none/\t σ H1 fun vs H2=>sp (x :: vs) H2 Q fun D d H'=>Ex D d σ H'
theorem Sx {pl:Sem Bool} (he:PE X o ta) (c:Cls X.K C) (hm:Meth X.K C m f) (G:OkI X.prog X.w X.K X.mg X.base (CXO X.prog X.w) k f ps sp) (hr:gJ k X.A) (hx:Bu X Ex) (ha:PA X (e :: es) t)
  (hst:starEach (e :: es) X.env = (false,eval e X.env) :: starEach es X.env:=by rfl) (hpl:(backTo pos (starEach es X.env)).any (·.1) = false:=by rfl)
  (ht:eval (.Call (.Attribute o m apos) (e :: es) [] pos) X.env = (do
   let ov <- eval o X.env
   standAt apos.atName
   let (f,first) <- holding [ov] (getMethod ov m pl)
   callWith pos f first (backTo pos (starEach (e :: es) X.env)) (backToKw pos (keywordEach [] X.env))):=by rfl) :
  PE X (.Call (.Attribute o m apos) (e :: es) [] pos) (aag C m sp Ex ta t):=by
 obtain ⟨fd,F,hb⟩:=G
 intro pins s σ H Q I h
 refine PySem.W.methodCall_KW (pl:=pl) (thn (he pins s σ H _ I h) fun u s1 ⟨x,H1,I1,rx,a,dx,fs,ex,ea,l,q⟩=>?_) ht
 subst ex
 obtain rfl:u = Value.ref a:=rx
 refine v7 I1 ea c hm l ?_
 refine PySem.W.callWith_K (first:=[.ref a]) (h₀:=X.base) I1.ok.mod.kin hm.kp (thn (ha pos pins _ σ H1 _ I1 q) fun us s2 ⟨vs,H2,I2,r,q2⟩=>⟨I2.kIn,?_⟩) hst hpl
 exact QF (us:=.ref a :: us) (vs:=.ref a :: vs) F hr hb .nil hx I2 (.cons rfl r) (by rw [List.append_nil]; exact q2)
theorem Xd {K':Frag} {f:Str} (hK:X.K = K') (he:PE X e ta) (hb:attributeBase e f X.env (eval e X.env) = eval e X.env):PE X (.Attribute e f pos) (aaI K' ta f):=by
 subst hK
 exact ZR he hb
end
end L2
namespace Lv
noncomputable def Ub (bs:List Nat):Nat:=bs.foldl Nat.lcm 1
theorem vU:∀ (bs:List Nat) (a m:Nat),bs.foldl Nat.lcm a ∣ m ↔ a ∣ m/\∀ b ∈ bs,b ∣ m
 | [],a,m=>by simp
 | b :: bs,a,m=>by
  rw [List.foldl_cons,vU bs,Nat.lcm_dvd_iff]
  simp only [List.mem_cons,forall_eq_or_imp,and_assoc]
theorem Vj {bs:List Nat} {m:Nat} : Ub bs ∣ m ↔ ∀ b ∈ bs,b ∣ m:=by
 unfold Ub
 rw [vU]
 simp
theorem WQ {bs:List Nat} {b:Nat} (h:b ∈ bs):b ∣ Ub bs:=Vj.mp (Nat.dvd_refl _) b h
theorem vH:∀ (bs:List Nat) (a:Nat),0 < a->(∀ b ∈ bs,0 < b)->0 < bs.foldl Nat.lcm a
 | [],a,h,_=>h
 | b :: bs,a,h,hb=>vH bs _ (Nat.lcm_pos h (hb b aO)) fun c hc=>hb c (aH _ hc)
theorem W4 {bs:List Nat} (h:∀ b ∈ bs,0 < b):0 < Ub bs:=vH bs 1 (by decide) h
end Lv
namespace Ac
noncomputable def lw (t b:Int):Int × Int:=(t / (Int.gcd t b:Nat),b / (Int.gcd t b:Nat))
theorem WD {t b:Int} (hb:0 < b):(0:Int) < (Int.gcd t b:Nat):=by
 have:=Int.gcd_pos_of_ne_zero_right t (show b ≠ 0 by omega)
 omega
theorem jx {t b:Int} (hb:0 < b):0 < (lw t b).2:=Int.ediv_pos_of_pos_of_dvd hb (Int.le_of_lt (WD hb)) (Int.gcd_dvd_right t b)
theorem zp {t b:Int} (hb:0 < b):Int.gcd (lw t b).1 (lw t b).2 = 1:=Int.gcd_ediv_gcd_ediv_gcd (by have:=WD (t:=t) hb; omega)
theorem yt {t b:Int} (hb:0 < b):(lw t b).1 * b = t * (lw t b).2:=by
 have d1:=Int.gcd_dvd_left t b
 have d2:=Int.gcd_dvd_right t b
 have g0:=WD (t:=t) hb
 unfold lw
 generalize hg:((Int.gcd t b:Nat):Int) = g at *
 obtain ⟨x,rfl⟩:=d1
 obtain ⟨y,rfl⟩:=d2
 show g * x / g * (g * y) = g * x * (g * y / g)
 rw [Int.mul_ediv_cancel_left _ (by omega),Int.mul_ediv_cancel_left _ (by omega),Int.mul_left_comm,Int.mul_assoc]
theorem Gy (t b:Int):(lw t b).1.natAbs <= t.natAbs:=Int.natAbs_ediv_le_natAbs _ _
theorem Gh (t b:Int):(lw t b).2.natAbs <= b.natAbs:=Int.natAbs_ediv_le_natAbs _ _
theorem QD {a b c:Int} (h:a ∣ b * c) (g:Int.gcd a b = 1):a ∣ c:=by
 refine Int.natAbs_dvd_natAbs.mp ((show Nat.Coprime a.natAbs b.natAbs from g).dvd_of_dvd_mul_left ?_)
 rw [<- Int.natAbs_mul]
 exact Int.natAbs_dvd_natAbs.mpr h
theorem uniq {x y u v:Int} (hy:0 < y) (hv:0 < v) (g1:Int.gcd x y = 1) (g2:Int.gcd u v = 1) (e:x * v = u * y):x = u/\y = v:=by
 have d1:y ∣ v:=by
  have h:y ∣ x * v:=⟨u,by rw [e,Int.mul_comm]⟩
  exact QD h (by rw [Int.gcd_comm]; exact g1)
 have d2:v ∣ y:=by
  have h:v ∣ u * y:=⟨x,by rw [<- e,Int.mul_comm]⟩
  exact QD h (by rw [Int.gcd_comm]; exact g2)
 have e2:y = v:=Int.dvd_antisymm (by omega) (by omega) d1 d2
 subst e2
 exact ⟨Int.eq_of_mul_eq_mul_right (by omega) e,rfl⟩
theorem Vi {t b x y:Int} (hb:0 < b) (hy:0 < y) (g:Int.gcd x y = 1) (e:x * b = t * y):x = (lw t b).1/\y = (lw t b).2:=by
 refine uniq hy (jx hb) g (zp hb) ?_
 have h:=yt (t:=t) hb
 have h1:x * (lw t b).2 * b = (lw t b).1 * y * b:=by
  rw [Int.mul_right_comm,e,Int.mul_right_comm _ y b,h,Int.mul_right_comm]
 exact Int.eq_of_mul_eq_mul_right (by omega) h1
theorem WK {W x S z o:Int} (hS:0 < S) (ho:0 < o) (g:Int.gcd z o = 1) (e:z * ((lw W S).2 * (lw x S).2) = ((lw W S).1 * (lw x S).2 + (lw x S).1 * (lw W S).2) * o):z = (lw (W + x) S).1/\o = (lw (W + x) S).2:=by
  refine Vi hS ho g ?_
  have h1:=yt (t:=W) hS
  have h2:=yt (t:=x) hS
  have p1:=jx (t:=W) hS
  have p2:=jx (t:=x) hS
  generalize (lw W S).1 = a at *
  generalize (lw W S).2 = b at *
  generalize (lw x S).1 = c at *
  generalize (lw x S).2 = d at *
  have key:z * S * (b * d) = (W + x) * o * (b * d):=by
    calc z * S * (b * d) = z * (b * d) * S:=by rw [Int.mul_right_comm]
      _ = (a * d + c * b) * o * S:=by rw [e]
      _ = (a * S * d + c * S * b) * o:=by
        rw [Int.mul_right_comm,Int.add_mul,Int.mul_right_comm a d S,Int.mul_right_comm c b S]
      _ = (W * b * d + x * d * b) * o:=by rw [h1,h2]
      _ = (W + x) * o * (b * d):=by
        rw [Int.mul_assoc W,Int.mul_assoc x,Int.mul_comm d b,<- Int.add_mul,Int.mul_right_comm]
  exact Int.eq_of_mul_eq_mul_right (Int.ne_of_gt (Int.mul_pos p1 p2)) key
theorem Ie {x S z o:Int} (hS:0 < S) (ho:0 < o) (g:Int.gcd z o = 1) (e:z * (1 * (lw x S).2) = (1 * (lw x S).2 - (lw x S).1 * 1) * o):z = (lw (S - x) S).1/\o = (lw (S - x) S).2:=by
  refine Vi hS ho g ?_
  have h2:=yt (t:=x) hS
  have p2:=jx (t:=x) hS
  generalize (lw x S).1 = c at *
  generalize (lw x S).2 = d at *
  rw [Int.one_mul,Int.mul_one] at e
  have key:z * S * d = (S - x) * o * d:=by
    calc z * S * d = z * d * S:=by rw [Int.mul_right_comm]
      _ = (d - c) * o * S:=by rw [e]
      _ = (d * S - c * S) * o:=by rw [Int.mul_right_comm,Int.sub_mul]
      _ = (d * S - x * d) * o:=by rw [h2]
      _ = (S - x) * o * d:=by rw [Int.mul_comm d S,<- Int.sub_mul,Int.mul_right_comm]
  exact Int.eq_of_mul_eq_mul_right (Int.ne_of_gt p2) key
theorem lZ {t b:Int} (hb:0 < b):((lw t b).1 = 0/\(lw t b).2 = 1) ↔ t = 0:=by
 have h:=yt (t:=t) hb
 have p:=jx (t:=t) hb
 constructor
 .rintro ⟨h1,h2⟩
  rw [h1,h2] at h
  omega
 .rintro rfl
  have g:=zp (t:=0) hb
  rw [Int.zero_mul] at h
  have h0:(lw 0 b).1 = 0:=by
   rcases Int.mul_eq_zero.mp h with z | z
   .exact z
   .omega
  rw [h0,Int.gcd_zero_left] at g
  exact ⟨h0,by omega⟩
theorem aaX {t b:Int} (hb:0 < b) (ht:0 <= t):0 <= (lw t b).1:=Int.ediv_nonneg ht (Int.le_of_lt (WD hb))
theorem aaJ {t b:Int} (hb:0 < b) (ht:t <= b):(lw t b).1 <= (lw t b).2:=Int.ediv_le_ediv (WD hb) ht
theorem ab3 {b:Int} (hb:0 < b):(lw 1 b).1 = 1/\(lw 1 b).2 = b:=by
 have:=Vi (t:=1) (b:=b) (x:=1) (y:=b) hb hb (by rw [Int.gcd_comm]; simp) (by rw [Int.mul_comm])
 exact ⟨this.1.symm,this.2.symm⟩
section
variable {κ:Type} [DecidableEq κ]
noncomputable def look (acc:List (κ × Int)) (r:κ):Int:=((acc.find? fun g=>decide (g.1 = r)).map (·.2)).getD 0
noncomputable def put (acc:List (κ × Int)) (r:κ) (y:Int):List (κ × Int):=if (acc.any fun g=>decide (g.1 = r)) = true then acc.map (fun g=>if g.1 = r then (g.1,y) else g) else acc ++ [(r,y)]
noncomputable def dH (gs:List (κ × Int)):List (κ × Int):=gs.foldl (fun a g=>put a g.1 (look a g.1 + g.2)) []
theorem vh (gs:List (κ × Int)) (g:κ × Int):dH (gs ++ [g]) = put (dH gs) g.1 (look (dH gs) g.1 + g.2):=by
 unfold dH
 rw [List.foldl_append]; rfl
theorem Z_ (acc:List (κ × Int)) (r:κ) (y:Int):(put acc r y).length <= acc.length + 1:=by
 unfold put
 split
 .rw [ak]; omega
 .rw [aA]; simp
theorem abd {acc:List (κ × Int)} (h:(acc.map (·.1)).Nodup) (r:κ) (y:Int):((put acc r y).map (·.1)).Nodup:=by
 unfold put
 split
 .have e:(acc.map (fun g=>if g.1 = r then (g.1,y) else g)).map (·.1) = acc.map (·.1):=by
   rw [List.map_map]
   refine List.map_congr_left fun g _=>?_
   show (if g.1 = r then (g.1,y) else g).1 = g.1
   split <;> rfl
  rw [e]; exact h
 .rename_i hn
  rw [bw]
  refine List.nodup_append.mpr ⟨h,by simp,?_⟩
  intro a ha b hb e
  subst e
  simp only [List.map_cons,List.map_nil,List.mem_singleton] at hb
  subst hb
  obtain ⟨g,hg,e⟩:=List.mem_map.mp ha
  exact hn (List.any_eq_true.mpr ⟨g,hg,decide_eq_true e⟩)
theorem Ed (acc:List (κ × Int)) (r:κ):look acc r = 0\/∃ g ∈ acc,look acc r = g.2:=by
 unfold look
 cases h:acc.find? fun g=>decide (g.1 = r) with
 | none=>exact .inl rfl
 | some g=>exact .inr ⟨g,List.mem_of_find?_eq_some h,rfl⟩
theorem Zb {acc:List (κ × Int)} {r:κ} {y:Int} {g:κ × Int} (h:g ∈ put acc r y):g.2 = y\/g ∈ acc:=by
 unfold put at h
 split at h
 .obtain ⟨g',hg,e⟩:=List.mem_map.mp h
  split at e
  .subst e; exact .inl rfl
  .subst e; exact .inr hg
 .rcases List.mem_append.mp h with h | h
  .exact .inr h
  .rw [List.mem_singleton.mp h]; exact .inl rfl
theorem qF (gs:List (κ × Int)):(∀ g ∈ gs,0 <= g.2)->((dH gs).map (·.1)).Nodup/\(dH gs).length <= gs.length/\∀ g ∈ dH gs,0 <= g.2/\g.2 <= (gs.map (·.2)).sum:=by
 suffices H:∀ (n:Nat) (gs:List (κ × Int)),gs.length = n->(∀ g ∈ gs,0 <= g.2)->((dH gs).map (·.1)).Nodup/\(dH gs).length <= gs.length/\(0 <= (gs.map (·.2)).sum)/\∀ g ∈ dH gs,0 <= g.2/\g.2 <= (gs.map (·.2)).sum from fun h=>let ⟨a,b,_,c⟩:=H _ gs rfl h; ⟨a,b,c⟩
 intro n
 induction n with
 | zero =>
  intro gs h _
  rw [List.eq_nil_of_length_eq_zero h]
  exact ⟨by simp [dH],by simp [dH],by simp,by simp [dH]⟩
 | succ n ih =>
  intro gs h hp
  obtain ⟨gs',g,rfl⟩ : ∃ gs' g,gs = gs' ++ [g]:=⟨gs.dropLast,gs.getLast (by intro e; rw [e] at h; cases h),(List.dropLast_concat_getLast _).symm⟩
  have hl:gs'.length = n:=by rw [aA] at h; simpa using h
  obtain ⟨h1,h2,h3,h4⟩:=ih gs' hl fun g hg=>hp g (List.mem_append_left _ hg)
  have hg:=hp g (aQ _ (by simp))
  rw [vh]
  have hs:((gs' ++ [g]).map (·.2)).sum = (gs'.map (·.2)).sum + g.2:=by simp
  rw [hs]
  have lk:0 <= look (dH gs') g.1/\look (dH gs') g.1 <= (gs'.map (·.2)).sum:=by
   rcases Ed (dH gs') g.1 with e | ⟨u,hu,e⟩
   .rw [e]; exact ⟨Int.le_refl _,h3⟩
   .rw [e]; exact h4 u hu
  refine ⟨abd h1 _ _,?_,by omega,fun u hu=>?_⟩
  .have:=Z_ (dH gs') g.1 (look (dH gs') g.1 + g.2)
   rw [aA]
   simp only [List.length_cons,List.length_nil]
   omega
  .rcases Zb hu with e | hu
   .rw [e]; omega
   .have:=h4 u hu
    omega
theorem ZJ {acc:List (κ × Int)} {r:κ} {y:Int} {g:κ × Int} (h:g ∈ put acc r y):g.1 = r\/g.1 ∈ acc.map (·.1):=by
 unfold put at h
 split at h
 .obtain ⟨g',hg,e⟩:=List.mem_map.mp h
  split at e
  .subst e; exact .inr (List.mem_map.mpr ⟨g',hg,rfl⟩)
  .subst e; exact .inr (List.mem_map.mpr ⟨_,hg,rfl⟩)
 .rcases List.mem_append.mp h with h | h
  .exact .inr (List.mem_map.mpr ⟨_,h,rfl⟩)
  .rw [List.mem_singleton.mp h]; exact .inl rfl
theorem LK (gs:List (κ × Int)):∀ g ∈ dH gs,g.1 ∈ gs.map (·.1):=by
 suffices H:∀ (n:Nat) (gs:List (κ × Int)),gs.length = n->∀ g ∈ dH gs,g.1 ∈ gs.map (·.1) from H _ gs rfl
 intro n
 induction n with
 | zero =>
  intro gs h g hg
  rw [List.eq_nil_of_length_eq_zero h] at hg
  simp [dH] at hg
 | succ n ih =>
  intro gs h u hu
  obtain ⟨gs',g,rfl⟩ : ∃ gs' g,gs = gs' ++ [g]:=⟨gs.dropLast,gs.getLast (by intro e; rw [e] at h; cases h),(List.dropLast_concat_getLast _).symm⟩
  have hl:gs'.length = n:=by rw [aA] at h; simpa using h
  rw [vh] at hu
  rw [bw]
  rcases ZJ hu with e | e
  .rw [e]; exact aQ _ (by simp)
  .obtain ⟨v,hv,e⟩:=List.mem_map.mp e
   rw [<- e]
   exact List.mem_append_left _ (ih gs' hl v hv)
noncomputable def ways (gs:List (κ × Int)) (S:Int):List (κ × Int × Int):=((dH gs).filter fun g=>decide (0 < g.2)).map fun g=>(g.1,lw g.2 S)
theorem Wv {gs:List (κ × Int)} (h:∀ g ∈ gs,0 <= g.2) (S:Int):(ways gs S).length <= gs.length:=by
 unfold ways
 rw [ak]
 exact aL (List.length_filter_le _ _) (qF gs h).2.1
theorem VH {gs:List (κ × Int)} {S:Int} {g:κ × Int × Int} (h:g ∈ ways gs S):g.1 ∈ gs.map (·.1):=by
 unfold ways at h
 obtain ⟨u,hu,rfl⟩:=List.mem_map.mp h
 exact LK gs u (List.mem_filter.mp hu).1
theorem Vw {r:κ} : ways [(r,(1:Int))] 1 = [(r,(1,1))]:=by
 simp [ways,dH,put,look,lw]
end
end Ac
namespace K34
open PySem PyProof.Rows L2
local macro_rules | `(tactic| walk_at "rd")=>`(tactic| simp only [qw,Lw,V9,Vt,tOp,tUn,rU,Qd,rQ,KR,tSl,jw,tC,GC,rI0,rI,Tw,Ks,Vh,fu,kh,tCB,HX,Dy,Yc,tOr,RG,Li,KY,abf,R9,z7,Zf,dw,Zj,Qe,QL,Ru,VR,Dv,Oj,Rf,HN,N8,yw,G8,Uh,Ow,rEq,rNe,RT,DK,Qg,zA,N5,Hw,JC,U6,XR,abz,aa7,Ends.unset,ZG,acf,Jc,ZK,Qo,ZD,Xv,Rm,Vq,UL,abD,tSM,Om,JV,Ea,VJ,ZQ,Rk,Kg,Y0,Bf,Iz,Rh,WY,rJoin,Rj,Vf,tB,aan,aav,Vu,Bh,QK,Rx,Zc,abU,Xr,GJ,Ju,Xi,O7,V2,Bt,ZV,Y6,vd,V.str.injEq,
 L2.start,List.replicate_succ,List.replicate_zero,Nat.reduceSub,Nat.reduceAdd,List.map_cons,List.map_nil,List.length_cons,List.length_nil,List.cons_append,List.nil_append,List.append_nil,List.getElem?_cons_zero,List.getElem?_cons_succ,List.set_cons_zero,List.set_cons_succ,List.set_nil,Option.some.injEq,exists_eq_left',exists_eq_left,exists_and_left,exists_and_right,exists_eq_right,exists_eq,exists_eq',and_assoc,V.int.injEq,V.ref.injEq,V.bl.injEq,V.ty.injEq,List.cons.injEq,HO.tup.injEq,HO.lst.injEq,and_true,true_and,reduceCtorEq,eU,gO,bC,decide_true,decide_false,Bool.not_true,Bool.not_false,if_true,if_false,ite_true,ite_false,Bool.false_eq_true,List.mem_cons,String.reduceEq,or_true,true_or,or_false,false_or,beq_self_eq_true,Bool.or_true,Bool.true_or,Bool.or_false,Bool.false_or,Bool.and_true,Bool.and_false,Bool.true_and,Bool.false_and,String.reduceBEq,Int.reduceToNat,Int.reducePow,Int.reduceMul,Int.reduceSub,Int.reduceAdd,Int.reduceNeg,Int.reduceLE,Int.reduceLT,Int.reduceEq,ne_eq,not_false_eq_true,not_true_eq_false,Int.cast_ofNat_Int])
open PySem.NumText
noncomputable abbrev aal:Stmt:=top 0
noncomputable abbrev Wn:List Str:=["k"]
noncomputable abbrev Ve:Str := "_wall"
noncomputable abbrev nW:Stmt:=top 2
noncomputable abbrev eO:List Str:=["hall", "goals"]
noncomputable abbrev dR:Str := "goal_marks"
noncomputable abbrev JN:List Str:=["hall", "goals", "marks", "goal"]
theorem iu:bR JN eO (bK nW):=fsc
noncomputable abbrev o7:Stmt:=top 3
noncomputable abbrev jX:List Str:=["hall", "marks"]
noncomputable abbrev j4:Str := "leads_of"
noncomputable abbrev pF:List Str:=["hall", "marks", "told", "room", "goal", "offered"]
theorem mW:bR pF jX (bK o7):=fsc
noncomputable abbrev Bj:Stmt:=top 4
noncomputable abbrev uI:List Str:=["door", "steps"]
noncomputable abbrev tK:Str := "meets"
noncomputable abbrev Jt:List Str:=["door", "steps"]
theorem X7:bR Jt uI (bK Bj):=fsc
noncomputable abbrev vC:Stmt:=top 5
noncomputable abbrev lQ:List Str:=["doors", "steps"]
noncomputable abbrev lY:Str := "by_some"
noncomputable abbrev zB:List Str:=["doors", "steps"]
theorem Nt:bR zB lQ (bK vC):=fsc
noncomputable abbrev mz:Stmt:=top 6
noncomputable abbrev jZ:List Str:=["marks", "leads", "joins"]
noncomputable abbrev jW:Str := "steps_to"
noncomputable abbrev oN:List Str:=["marks", "leads", "joins", "steps", "coming", "many", "room"]
theorem iV:bR oN jZ (bK mz):=fsc
noncomputable abbrev oF:Stmt:=top 7
noncomputable abbrev lW:List Str:=["leads", "lot"]
noncomputable abbrev lR:Str := "staying"
noncomputable abbrev lU:List Str:=["leads", "lot"]
theorem Pu:bR lU lW (bK oF):=fsc
noncomputable abbrev jj:Stmt:=top 8
noncomputable abbrev eV:List Str:=["hall", "goals"]
noncomputable abbrev dY:Str := "sure_rooms"
noncomputable abbrev lH:List Str:=["hall", "goals", "marks", "leads", "lot", "kept"]
theorem cJ:bR lH eV (bK jj):=fsc
noncomputable abbrev vY:Stmt:=top 17
noncomputable abbrev gK:List Str:=["thing"]
noncomputable abbrev gM:Str := "is_whole"
noncomputable abbrev PN:List Str:=["thing"]
theorem Ld:bR PN gK (bK vY):=fsc
noncomputable abbrev zy:Stmt:=top 18
noncomputable abbrev jH:List Str:=["one", "other"]
noncomputable abbrev jN:Str := "divisor"
noncomputable abbrev R5:List Str:=["one", "other", "left", "right", "rest"]
theorem mj:bR R5 jH (bK zy):=fsc
noncomputable abbrev Kc:Stmt:=top 22
noncomputable abbrev oX:List Str:=["top", "bottom"]
noncomputable abbrev o_:Str := "ratio"
noncomputable abbrev Zi:List Str:=["top", "bottom", "common"]
theorem BX:bR Zi oX (bK Kc):=fsc
noncomputable abbrev vV:Stmt:=top 23
noncomputable abbrev iZ:List Str:=["thing"]
noncomputable abbrev i_:Str := "is_ratio"
noncomputable abbrev OD:List Str:=["thing", "top", "bottom"]
theorem tU:bR OD iZ (bK vV):=fsc
noncomputable abbrev PB:Stmt:=top 24
noncomputable abbrev xH:List Str:=["one", "other"]
noncomputable abbrev xW:Str := "plus"
noncomputable abbrev abJ:List Str:=["one", "other"]
theorem Yy:bR abJ xH (bK PB):=fsc
noncomputable abbrev JT:Stmt:=top 25
noncomputable abbrev uF:List Str:=["one", "other"]
noncomputable abbrev uz:Str := "minus"
noncomputable abbrev Y_:List Str:=["one", "other"]
theorem V7:bR Y_ uF (bK JT):=fsc
noncomputable abbrev HS:Stmt:=top 26
noncomputable abbrev qx:List Str:=["one", "other"]
noncomputable abbrev qL:Str := "under"
noncomputable abbrev aai:List Str:=["one", "other"]
theorem Yk:bR aai qx (bK HS):=fsc
noncomputable abbrev Ao:Stmt:=top 28
noncomputable abbrev sY:List Str:=["fractions"]
noncomputable abbrev uR:Str := "level"
noncomputable abbrev Qf:List Str:=["fractions", "bottom", "one"]
theorem yQ:bR Qf sY (bK Ao):=fsc
noncomputable abbrev Hz:Stmt:=top 29
noncomputable abbrev uo:List Str:=["fractions"]
noncomputable abbrev sH:Str := "total"
noncomputable abbrev Y9:List Str:=["fractions", "leveled"]
theorem LQ:bR Y9 uo (bK Hz):=fsc
noncomputable abbrev vf:Stmt:=top 32
noncomputable abbrev jM:List Str:=["thing"]
noncomputable abbrev jR:Str := "is_word"
noncomputable abbrev zH:List Str:=["thing"]
theorem Pj:bR zH jM (bK vf):=fsc
noncomputable abbrev rO:Stmt:=top 34
noncomputable abbrev iy:List Str:=["name", "pay"]
noncomputable abbrev iw:Str := "check_head"
noncomputable abbrev G_:List Str:=["name", "pay"]
theorem Ft:bR G_ iy (bK rO):=fsc
noncomputable abbrev kJ:Stmt:=top 35
noncomputable abbrev dN:List Str:=["room"]
noncomputable abbrev dM:Str := "check_room_name"
noncomputable abbrev yx:List Str:=["room"]
theorem vW:bR yx dN (bK kJ):=fsc
noncomputable abbrev oM:Stmt:=top 36
noncomputable abbrev fG:List Str:=["chance"]
noncomputable abbrev fH:Str := "check_chance"
noncomputable abbrev B_:List Str:=["chance"]
theorem Ag:bR B_ fG (bK oM):=fsc
noncomputable abbrev mG:Stmt:=top 37
noncomputable abbrev iJ:List Str:=["pairs"]
noncomputable abbrev iQ:Str := "check_pairs"
noncomputable abbrev pW:List Str:=["pairs", "room", "chance"]
theorem pB:bR pW iJ (bK mG):=fsc
noncomputable abbrev mK:Stmt:=top 38
noncomputable abbrev jc:List Str:=["pairs"]
noncomputable abbrev iW:Str := "joined_ways"
noncomputable abbrev vP:List Str:=["pairs", "chances", "room", "chance"]
theorem kj:bR vP jc (bK mK):=fsc
noncomputable abbrev qd:Stmt:=top 45
noncomputable abbrev iR:List Str:=["share"]
noncomputable abbrev iT:Str := "check_share"
noncomputable abbrev Fy:List Str:=["share"]
theorem DQ:bR Fy iR (bK qd):=fsc
noncomputable abbrev qO:Stmt:=top 46
noncomputable abbrev jz:List Str:=["rooms"]
noncomputable abbrev jA:Str := "numbers_of"
noncomputable abbrev Ig:List Str:=["rooms", "numbers", "room", "name"]
theorem mH:bR Ig jz (bK qO):=fsc
noncomputable abbrev mZ:Stmt:=top 47
noncomputable abbrev gw:List Str:=["door", "numbers"]
noncomputable abbrev gF:Str := "numbered_ways"
noncomputable abbrev Ab:List Str:=["door", "numbers", "numbered", "name", "chance"]
theorem ju:bR Ab gw (bK mZ):=fsc
noncomputable abbrev uQ:Stmt:=top 48
noncomputable abbrev kZ:List Str:=["doors", "numbers"]
noncomputable abbrev j8:Str := "offers_of"
noncomputable abbrev Ng:List Str:=["doors", "numbers", "taken", "told", "door"]
theorem nU:bR Ng kZ (bK uQ):=fsc
noncomputable abbrev Pr:Stmt:=top 51
noncomputable abbrev u_:List Str:=["_law_script", "_law_k"]
noncomputable abbrev uV:Str := "_law_cell"
noncomputable abbrev abm:List Str:=["_law_script", "_law_k"]
theorem Yz:bR abm u_ (bK Pr):=fsc
noncomputable abbrev Cm:Stmt:=top 52
noncomputable abbrev je:List Str:=["_law_cell_here", "_law_many"]
noncomputable abbrev jm:Str := "_law_stream"
noncomputable abbrev W6:List Str:=["_law_cell_here", "_law_many", "_law_found", "_law_number", "_law_digits", "_law_k"]
theorem jY:bR W6 je (bK Cm):=fsc
noncomputable abbrev X_:Stmt:=top 53
noncomputable abbrev DR:List Str:=["_law_one", "_law_other"]
noncomputable abbrev DX:Str := "_law_gcd"
noncomputable abbrev adI:List Str:=["_law_one", "_law_other", "_law_low", "_law_high"]
theorem IW:bR adI DR (bK X_):=fsc
noncomputable abbrev Dw:Stmt:=top 54
noncomputable abbrev oE:List Str:=["_law_top", "_law_bottom"]
noncomputable abbrev nY:Str := "_law_ratio"
noncomputable abbrev W8:List Str:=["_law_top", "_law_bottom", "_law_common"]
theorem Gq:bR W8 oE (bK Dw):=fsc
noncomputable abbrev vp:Stmt:=top 55
noncomputable abbrev tR:List Str:=["_law_cell_here", "_law_many"]
noncomputable abbrev uy:Str := "_law_names"
noncomputable abbrev qW:List Str:=["_law_cell_here", "_law_many", "_law_letters", "_law_xs", "_law_base", "_law_at", "_law_step"]
theorem qK:bR qW tR (bK vp):=fsc
noncomputable abbrev wB:Stmt:=top 56
noncomputable abbrev yd:List Str:=["_law_cell_here", "_law_many"]
noncomputable abbrev wH:Str := "_law_door"
noncomputable abbrev rB:List Str:=["_law_cell_here", "_law_many", "_law_xs", "_law_rooms", "_law_pay", "_law_pairs", "_law_bottom", "_law_part", "_law_weights"]
theorem jG:bR rB yd (bK wB):=fsc
noncomputable abbrev A_:Stmt:=top 57
noncomputable abbrev sS:List Str:=["_law_script", "_law_at", "_law_many", "_law_most"]
noncomputable abbrev tX:Str := "_law_doors"
noncomputable abbrev Ko:List Str:=["_law_script", "_law_at", "_law_many", "_law_most", "_law_rooms", "_law_first", "_law_cells", "_law_cell_here", "_law_room"]
theorem qH:bR Ko sS (bK A_):=fsc
noncomputable abbrev xJ:Stmt:=top 58
noncomputable abbrev tW:List Str:=["_law_title", "_law_door_here", "_law_names_here"]
noncomputable abbrev uc:Str := "_law_built"
noncomputable abbrev xX:List Str:=["_law_title", "_law_door_here", "_law_names_here", "_law_told", "_law_sort", "_law_pay", "_law_pairs"]
theorem ur:bR xX tW (bK xJ):=fsc
noncomputable abbrev Jv:Stmt:=top 59
noncomputable abbrev yE:List Str:=["_law_cell_here", "_law_share", "_law_rooms"]
noncomputable abbrev xQ:Str := "_law_hall"
noncomputable abbrev Oi:List Str:=["_law_cell_here", "_law_share", "_law_rooms", "_law_names_here", "_law_found", "_law_k", "_law_titles"]
theorem wR:bR Oi yE (bK Jv):=fsc
noncomputable abbrev NT:Stmt:=top 60
noncomputable abbrev xY:List Str:=["_law_cell_here"]
noncomputable abbrev xK:Str := "_law_size"
noncomputable abbrev abM:List Str:=["_law_cell_here", "_law_xs"]
theorem QB:bR abM xY (bK NT):=fsc
noncomputable abbrev JB:Stmt:=top 61
noncomputable abbrev yJ:List Str:=["_law_door_here"]
noncomputable abbrev wM:Str := "_law_ways"
noncomputable abbrev Xb:List Str:=["_law_door_here", "_law_found", "_law_room", "_law_chance", "_law_top", "_law_bottom"]
theorem uU:bR Xb yJ (bK JB):=fsc
noncomputable abbrev uZ:Stmt:=top 62
noncomputable abbrev tV:List Str:=["_law_rooms"]
noncomputable abbrev tY:Str := "_law_leads"
noncomputable abbrev q_:List Str:=["_law_rooms"]
theorem Yi:bR q_ tV (bK uZ):=fsc
noncomputable abbrev Ax:Stmt:=top 63
noncomputable abbrev t_:List Str:=["_law_cell_here", "_law_many"]
noncomputable abbrev uq:Str := "_law_goals"
noncomputable abbrev Jp:List Str:=["_law_cell_here", "_law_many", "_law_xs"]
theorem Ky:bR Jp t_ (bK Ax):=fsc
noncomputable abbrev Xm:Stmt:=top 64
noncomputable abbrev La:List Str:=["_law_doors_here", "_law_lot", "_law_known"]
noncomputable abbrev M_:Str := "_law_on"
noncomputable abbrev W5:List Str:=["_law_doors_here", "_law_lot", "_law_known", "_law_rooms"]
theorem aaW:bR W5 La (bK Xm):=fsc
noncomputable abbrev GZ:Stmt:=top 65
noncomputable abbrev yF:List Str:=["_law_lot", "_law_leads_here", "_law_goals_here"]
noncomputable abbrev xT:Str := "_law_good"
noncomputable abbrev V5:List Str:=["_law_lot", "_law_leads_here", "_law_goals_here", "_law_known", "_law_turn", "_law_k"]
theorem Bk:bR V5 yF (bK GZ):=fsc
noncomputable abbrev Cq:Stmt:=top 66
noncomputable abbrev yH:List Str:=["_law_many"]
noncomputable abbrev xO:Str := "_law_lots"
noncomputable abbrev Dl:List Str:=["_law_many", "_law_found", "_law_k"]
theorem Ar:bR Dl yH (bK Cq):=fsc
noncomputable abbrev wU:Stmt:=top 67
noncomputable abbrev tZ:List Str:=["_law_found", "_law_leads_here", "_law_goals_here"]
noncomputable abbrev sI:Str := "_law_right"
noncomputable abbrev xq:List Str:=["_law_found", "_law_leads_here", "_law_goals_here", "_law_lot"]
theorem Ku:bR xq tZ (bK wU):=fsc
noncomputable abbrev zq:Stmt:=top 68
noncomputable abbrev oR:List Str:=["_law_hall_here", "_law_goals_here"]
noncomputable abbrev oO:Str := "_law_refused"
noncomputable abbrev SN:List Str:=["_law_hall_here", "_law_goals_here", "_law_found", "e"]
theorem qT:bR SN oR (bK zq):=fsc
noncomputable abbrev Vs:Stmt:=top 69
noncomputable abbrev BP:List Str:=["_law_cell_here", "_law_many"]
noncomputable abbrev Eh:Str := "_law_odd"
noncomputable abbrev ade:List Str:=["_law_cell_here", "_law_many"]
theorem ab8:bR ade BP (bK Vs):=fsc
noncomputable abbrev yZ:Stmt:=top 70
noncomputable abbrev pI:List Str:=["_law_hall_here", "_law_goals_here", "_law_cell_here", "_law_many"]
noncomputable abbrev pA:Str := "_law_is_none"
noncomputable abbrev Tr:List Str:=["_law_hall_here", "_law_goals_here", "_law_cell_here", "_law_many", "_law_odd_here", "_law_at", "_law_told"]
theorem rF:bR Tr pI (bK yZ):=fsc
noncomputable abbrev K6:Stmt:=top 71
noncomputable abbrev O8:List Str:=["_law_script"]
noncomputable abbrev Jg:Str := "law"
noncomputable abbrev aaK:List Str:=["_law_script", "_law_rooms", "_law_leads_here", "_law_share", "_law_hall_here", "_law_goals_here", "_law_handed", "_law_held", "_law_kept", "_law_found", "_law_some"]
theorem o9:bR aaK O8 (bK K6):=fsc
noncomputable abbrev tD:Stmt:=fB 39 0
noncomputable abbrev jk:List Str:=["self", "name", "pay"]
noncomputable abbrev yV:Str := "__init__"
noncomputable abbrev wQ:Str := "Door.__init__"
noncomputable abbrev Lh:List Str:=["self", "name", "pay"]
theorem Ip:bR Lh jk (bK tD):=fsc
noncomputable abbrev uh:Stmt:=fB 39 1
noncomputable abbrev kE:List Str:=["self"]
noncomputable abbrev yR:Str := "ways"
noncomputable abbrev yq:Str := "Door.ways"
noncomputable abbrev Ln:List Str:=["self"]
theorem HJ:bR Ln kE (bK uh):=fsc
noncomputable abbrev zF:Stmt:=fB 39 2
noncomputable abbrev wN:List Str:=["self", "room"]
noncomputable abbrev yG:Str := "chance_to"
noncomputable abbrev wG:Str := "Door.chance_to"
noncomputable abbrev uf:Stmt:=fB 40 0
noncomputable abbrev lC:List Str:=["self", "name", "pay", "room"]
noncomputable abbrev w6:Str := "__init__"
noncomputable abbrev xZ:Str := "Sure.__init__"
noncomputable abbrev Nq:List Str:=["self", "name", "pay", "room"]
theorem HW:bR Nq lC (bK uf):=fsc
noncomputable abbrev qP:Stmt:=fB 41 0
noncomputable abbrev fV:List Str:=["self", "name", "pay", "pairs"]
noncomputable abbrev vK:Str := "__init__"
noncomputable abbrev vM:Str := "Mixed.__init__"
noncomputable abbrev GX:List Str:=["self", "name", "pay", "pairs"]
theorem Fw:bR GX fV (bK qP):=fsc
noncomputable abbrev uE:Stmt:=fB 42 0
noncomputable abbrev lM:List Str:=["self", "name", "pay", "chance", "room", "other"]
noncomputable abbrev yc:Str := "__init__"
noncomputable abbrev wJ:Str := "Toss.__init__"
noncomputable abbrev Lx:List Str:=["self", "name", "pay", "chance", "room", "other"]
theorem Ih:bR Lx lM (bK uE):=fsc
noncomputable abbrev pR:Stmt:=fB 43 0
noncomputable abbrev k_:List Str:=["self", "name", "pay", "rooms"]
noncomputable abbrev xu:Str := "__init__"
noncomputable abbrev xM:Str := "Even.__init__"
noncomputable abbrev sy:List Str:=["self", "name", "pay", "rooms"]
theorem Kd:bR sy k_ (bK pR):=fsc
noncomputable abbrev pL:Stmt:=fB 49 0
noncomputable abbrev lA:List Str:=["self", "share", "rooms"]
noncomputable abbrev wV:Str := "__init__"
noncomputable abbrev yK:Str := "Hall.__init__"
noncomputable abbrev sG:List Str:=["self", "share", "rooms"]
theorem Ht:bR sG lA (bK pL):=fsc
noncomputable abbrev uT:Stmt:=fB 49 1
noncomputable abbrev dX:List Str:=["self"]
noncomputable abbrev yC:Str := "size"
noncomputable abbrev yj:Str := "Hall.size"
noncomputable abbrev Ni:List Str:=["self"]
theorem Hq:bR Ni dX (bK uT):=fsc
noncomputable abbrev HD:Stmt:=fB 49 2
noncomputable abbrev Ew:List Str:=["self"]
noncomputable abbrev Ez:Str := "names"
noncomputable abbrev Fo:Str := "Hall.names"
noncomputable abbrev G9:Stmt:=fB 49 3
noncomputable abbrev Fd:List Str:=["self", "name"]
noncomputable abbrev FJ:Str := "place"
noncomputable abbrev Fi:Str := "Hall.place"
noncomputable abbrev iG:Stmt:=fB 49 4
noncomputable abbrev cM:List Str:=["self", "room"]
noncomputable abbrev jU:Str := "check_room"
noncomputable abbrev jL:Str := "Hall.check_room"
noncomputable abbrev wY:List Str:=["self", "room"]
theorem oU:bR wY cM (bK iG):=fsc
noncomputable abbrev Dm:Stmt:=fB 49 5
noncomputable abbrev Af:List Str:=["self", "room", "name"]
noncomputable abbrev Ae:Str := "door_at"
noncomputable abbrev Aa:Str := "Hall.door_at"
noncomputable abbrev mJ:Stmt:=fB 49 6
noncomputable abbrev iU:List Str:=["self", "room"]
noncomputable abbrev tu:Str := "offers"
noncomputable abbrev su:Str := "Hall.offers"
noncomputable abbrev pZ:List Str:=["self", "room"]
theorem Bx:bR pZ iU (bK mJ):=fsc
noncomputable abbrev pU:Stmt:=fB 15 0
noncomputable abbrev iK:List Str:=["self", "room"]
noncomputable abbrev ug:Str := "__init__"
noncomputable abbrev uL:Str := "NoRoom.__init__"
noncomputable abbrev E_:List Str:=["self", "room"]
theorem Cy:bR E_ iK (bK pU):=fsc
structure Adr where
 HallError:Addr
 NoNumber:Addr
 NoName:Addr
 NoChance:Addr
 NoShare:Addr
 NoRoom:Addr
 Door:Addr
 Sure:Addr
 Mixed:Addr
 Toss:Addr
 Even:Addr
 Hall:Addr
 NOUGHT:Addr
 ONE:Addr
 Door_init:Addr
 Door_ways:Addr
 Door_chance_to:Addr
 Sure_init:Addr
 Mixed_init:Addr
 Toss_init:Addr
 Even_init:Addr
 Hall_init:Addr
 Hall_size:Addr
 Hall_names:Addr
 Hall_place:Addr
 Hall_check_room:Addr
 Hall_door_at:Addr
 Hall_offers:Addr
 NoRoom_init:Addr
structure Txt (K:Frag) (mg:Str->Option Value) (D:Adr):Prop where
 Xc:mg "Door" = some (.ref D.Door)
 abX:mg "Even" = some (.ref D.Even)
 ace:mg "Hall" = some (.ref D.Hall)
 K_:mg "HallError" = some (.ref D.HallError)
 JW:mg "Mixed" = some (.ref D.Mixed)
 xV:mg "NOUGHT" = some (.ref D.NOUGHT)
 CN:mg "NoChance" = some (.ref D.NoChance)
 Kw:mg "NoName" = some (.ref D.NoName)
 Nv:mg "NoNumber" = some (.ref D.NoNumber)
 Mf:mg "NoRoom" = some (.ref D.NoRoom)
 acp:mg "NoShare" = some (.ref D.NoShare)
 LR:mg "ONE" = some (.ref D.ONE)
 abb:mg "Sure" = some (.ref D.Sure)
 aa0:mg "Toss" = some (.ref D.Toss)
 DP:JF K D.NoChance
 MJ:JF K D.NoName
 O2:JF K D.NoNumber
 acq:JF K D.NoShare
 Xz:PySem.W.mroIn K D.NoRoom (.type "BaseException") = some true
 WR:PySem.W.typeIn K (.ref D.NoRoom) = some (.type "type")
 aa9:PySem.W.mroIn K D.NoNumber (.ref D.HallError) = some true
 Dh:∃ u,mg "LONGEST_WORD" = some u/\RelV (.int 8) u
 vm:∀ H,SqT K H D.NOUGHT [.int 0,.int 1]
 Ce:∀ H,SqT K H D.ONE [.int 1,.int 1]
 ae8:Mk K D.Door D.Door_init
 V6:Cls K D.Door
 afc:Ma K D.Door
 QJ:Meth K D.Door "chance_to" D.Door_chance_to
 G3:Meth K D.Door "ways" D.Door_ways
 Fe:cj K D.Door "leads"
 H_:cj K D.Door "name"
 Uw:cj K D.Door "numbers"
 Uv:cj K D.Door "offered"
 Mx:cj K D.Door "pay"
 Ys:cj K D.Door "share"
 YS:Mk K D.Sure D.Sure_init
 L_:Cls K D.Sure
 afb:Ma K D.Sure
 Ro:Meth K D.Sure "chance_to" D.Door_chance_to
 Ij:Meth K D.Sure "ways" D.Door_ways
 vO:cj K D.Sure "leads"
 Io:cj K D.Sure "name"
 Ut:cj K D.Sure "numbers"
 Uq:cj K D.Sure "offered"
 Nj:cj K D.Sure "pay"
 Yo:cj K D.Sure "share"
 XS:Mk K D.Mixed D.Mixed_init
 Ud:Cls K D.Mixed
 adP:Ma K D.Mixed
 O_:Meth K D.Mixed "chance_to" D.Door_chance_to
 Fp:Meth K D.Mixed "ways" D.Door_ways
 Dt:cj K D.Mixed "leads"
 FN:cj K D.Mixed "name"
 R4:cj K D.Mixed "numbers"
 Td:cj K D.Mixed "offered"
 Jl:cj K D.Mixed "pay"
 Xj:cj K D.Mixed "share"
 Zm:Mk K D.Toss D.Toss_init
 Xe:Cls K D.Toss
 afe:Ma K D.Toss
 Qc:Meth K D.Toss "chance_to" D.Door_chance_to
 Kf:Meth K D.Toss "ways" D.Door_ways
 Ek:cj K D.Toss "leads"
 Hu:cj K D.Toss "name"
 Uu:cj K D.Toss "numbers"
 Ux:cj K D.Toss "offered"
 MN:cj K D.Toss "pay"
 Yp:cj K D.Toss "share"
 YK:Mk K D.Even D.Even_init
 W3:Cls K D.Even
 ae9:Ma K D.Even
 QC:Meth K D.Even "chance_to" D.Door_chance_to
 JQ:Meth K D.Even "ways" D.Door_ways
 FP:cj K D.Even "leads"
 Jx:cj K D.Even "name"
 Uo:cj K D.Even "numbers"
 Uz:cj K D.Even "offered"
 Mg:cj K D.Even "pay"
 Yn:cj K D.Even "share"
 aak:Mk K D.Hall D.Hall_init
 yU:Cls K D.Hall
 afa:Ma K D.Hall
 wD:Meth K D.Hall "check_room" D.Hall_check_room
 Us:Meth K D.Hall "door_at" D.Hall_door_at
 Yr:Meth K D.Hall "names" D.Hall_names
 Ei:Meth K D.Hall "offers" D.Hall_offers
 Ym:Meth K D.Hall "place" D.Hall_place
 Je:Meth K D.Hall "size" D.Hall_size
 Fg:cj K D.Hall "leads"
 IV:cj K D.Hall "name"
 m_:cj K D.Hall "numbers"
 rY:cj K D.Hall "offered"
 Le:cj K D.Hall "pay"
 El:cj K D.Hall "share"
 xi_NoRoom:Mh K D.NoRoom D.HallError D.NoRoom_init
 xs_NoRoom:U_ K D.NoRoom
 xk_NoRoom:Tt K D.NoRoom
 hd_NoRoom:PySem.W.hasDictIn K D.NoRoom = true
 sm_NoRoom:PySem.W.mroIn K D.NoRoom (.ref D.NoRoom) = some true
 um:cj K D.NoRoom "room"
 ib_HallError:X6 K D.HallError
 w5:lq K D.Door "__init__" D.Door_init
 HY:rC K yV wQ tD jk D.Door_init
 Zd:lq K D.Door "ways" D.Door_ways
 Jb:rC K yR yq uh kE D.Door_ways
 Qu:lq K D.Door "chance_to" D.Door_chance_to
 QG:rC K yG wG zF wN D.Door_chance_to
 Z1:lq K D.Sure "__init__" D.Sure_init
 Kp:rC K w6 xZ uf lC D.Sure_init
 vL:lq K D.Mixed "__init__" D.Mixed_init
 Fj:rC K vK vM qP fV D.Mixed_init
 aaz:lq K D.Toss "__init__" D.Toss_init
 Jz:rC K yc wJ uE lM D.Toss_init
 aaE:lq K D.Even "__init__" D.Even_init
 Jf:rC K xu xM pR k_ D.Even_init
 aas:lq K D.Hall "__init__" D.Hall_init
 JX:rC K wV yK pL lA D.Hall_init
 ZP:lq K D.Hall "size" D.Hall_size
 J_:rC K yC yj uT dX D.Hall_size
 Yt:lq K D.Hall "names" D.Hall_names
 Yu:rC K Ez Fo HD Ew D.Hall_names
 Yl:lq K D.Hall "place" D.Hall_place
 Yq:rC K FJ Fi G9 Fd D.Hall_place
 PJ:lq K D.Hall "check_room" D.Hall_check_room
 oV:rC K jU jL iG cM D.Hall_check_room
 Ur:lq K D.Hall "door_at" D.Hall_door_at
 Uy:rC K Ae Aa Dm Af D.Hall_door_at
 Vg:lq K D.Hall "offers" D.Hall_offers
 Ca:rC K tu su mJ iU D.Hall_offers
 DY:rC K ug uL pU iK D.NoRoom_init
 Np:mg "abs" = none
 Q5:mg "all" = none
 Qh:mg "any" = none
 GR:mg "bool" = none
 sJ:mg "enumerate" = none
 aaT:mg "int" = none
 eF:mg "isinstance" = none
 iC:mg "len" = none
 zj:mg "list" = none
 aeS:mg "min" = none
 kY:mg "range" = none
 Wz:mg "sorted" = none
 acW:mg "str" = none
 aaM:mg "sum" = none
 Y4:mg "tuple" = none
 aaN:mg "zip" = none
 afd:dW K mg Ve aal Wn
 yp:dW K mg dR nW eO
 Ob:dW K mg j4 o7 jX
 Y5:dW K mg tK Bj uI
 SJ:dW K mg lY vC lQ
 Nx:dW K mg jW mz jZ
 TF:dW K mg lR oF lW
 xU:dW K mg dY jj eV
 Pk:dW K mg gM vY gK
 RV:dW K mg jN zy jH
 aaD:dW K mg o_ Kc oX
 NK:dW K mg i_ vV iZ
 abt:dW K mg xW PB xH
 ZL:dW K mg uz JT uF
 Zn:dW K mg qL HS qx
 aae:dW K mg uR Ao sY
 f_total:dW K mg sH Hz uo
 Sy:dW K mg jR vf jM
 Ho:dW K mg iw rO iy
 xr:dW K mg dM kJ dN
 Cd:dW K mg fH oM fG
 Et:dW K mg iQ mG iJ
 EY:dW K mg iW mK jc
 En:dW K mg iT qd iR
 Ji:dW K mg jA qO jz
 z8:dW K mg gF mZ gw
 K8:dW K mg j8 uQ kZ
 ab4:dW K mg uV Pr u_
 Wq:dW K mg jm Cm je
 aeC:dW K mg DX X_ DR
 UG:dW K mg nY Dw oE
 Yv:dW K mg uy vp tR
 abK:dW K mg wH wB yd
 aap:dW K mg tX A_ sS
 Zh:dW K mg uc xJ tW
 abw:dW K mg xQ Jv yE
 abN:dW K mg xK NT xY
 aa5:dW K mg wM JB yJ
 aaC:dW K mg tY uZ tV
 Zz:dW K mg uq Ax t_
 aft:dW K mg M_ Xm La
 ab6:dW K mg xT GZ yF
 abg:dW K mg xO Cq yH
 ZW:dW K mg sI wU tZ
 Um:dW K mg oO zq oR
 acJ:dW K mg Eh Vs BP
 TY:dW K mg pA yZ pI
noncomputable def Fam (D:Adr) (C:Addr):Prop:=C = D.Door\/C = D.Sure\/C = D.Mixed\/C = D.Toss\/C = D.Even\/C = D.Hall
theorem Txt.cl {K:Frag} {mg:Str->Option Value} {D:Adr} (T:Txt K mg D):∀ C,Fam D C->Cls K C:=by
 rintro C (rfl | rfl | rfl | rfl | rfl | rfl)
 .exact T.V6
 .exact T.L_
 .exact T.Ud
 .exact T.Xe
 .exact T.W3
 .exact T.yU
theorem Txt.Cj {K:Frag} {mg:Str->Option Value} {D:Adr} (T:Txt K mg D):∀ C,Fam D C->cj K C "leads" := by
 rintro C (rfl | rfl | rfl | rfl | rfl | rfl)
 .exact T.Fe
 .exact T.vO
 .exact T.Dt
 .exact T.Ek
 .exact T.FP
 .exact T.Fg
theorem Txt.Bc {K:Frag} {mg:Str->Option Value} {D:Adr} (T:Txt K mg D):∀ C,Fam D C->cj K C "name" := by
 rintro C (rfl | rfl | rfl | rfl | rfl | rfl)
 .exact T.H_
 .exact T.Io
 .exact T.FN
 .exact T.Hu
 .exact T.Jx
 .exact T.IV
theorem Txt.UW {K:Frag} {mg:Str->Option Value} {D:Adr} (T:Txt K mg D):∀ C,Fam D C->cj K C "pay" := by
 rintro C (rfl | rfl | rfl | rfl | rfl | rfl)
 .exact T.Mx
 .exact T.Nj
 .exact T.Jl
 .exact T.MN
 .exact T.Mg
 .exact T.Le
noncomputable def cG (D:Adr) (C:Addr):Prop:=C = D.Hall
theorem cG.fam {D:Adr} {C:Addr} (h:cG D C):Fam D C:=by
 unfold cG at h
 unfold Fam
 simp [h]
theorem Txt.jO {K:Frag} {mg:Str->Option Value} {D:Adr} (T:Txt K mg D):∀ C,cG D C->Meth K C "check_room" D.Hall_check_room:=by
 rintro C (rfl)
 .exact T.wD
noncomputable def gG (D:Adr) (C:Addr):Prop:=C = D.Hall
theorem gG.fam {D:Adr} {C:Addr} (h:gG D C):Fam D C:=by
 unfold gG at h
 unfold Fam
 simp [h]
theorem Txt.Bp {K:Frag} {mg:Str->Option Value} {D:Adr} (T:Txt K mg D):∀ C,gG D C->Meth K C "offers" D.Hall_offers:=by
 rintro C (rfl)
 .exact T.Ei
noncomputable def cN (D:Adr) (C:Addr):Prop:=C = D.Hall
theorem cN.fam {D:Adr} {C:Addr} (h:cN D C):Fam D C:=by
 unfold cN at h
 unfold Fam
 simp [h]
theorem Txt.jq {K:Frag} {mg:Str->Option Value} {D:Adr} (T:Txt K mg D):∀ C,cN D C->Meth K C "size" D.Hall_size:=by
 rintro C (rfl)
 .exact T.Je
noncomputable def eN (D:Adr) (C:Addr):Prop:=C = D.Door\/C = D.Sure\/C = D.Mixed\/C = D.Toss\/C = D.Even
theorem eN.fam {D:Adr} {C:Addr} (h:eN D C):Fam D C:=by
 unfold eN at h
 unfold Fam
 rcases h with h | h | h | h | h <;> simp [h]
theorem Txt.Jm {K:Frag} {mg:Str->Option Value} {D:Adr} (T:Txt K mg D):∀ C,eN D C->Meth K C "ways" D.Door_ways:=by
 rintro C (rfl | rfl | rfl | rfl | rfl)
 .exact T.G3
 .exact T.Ij
 .exact T.Fp
 .exact T.Kf
 .exact T.JQ
section
variable {P:Program} {w:World} {K:Frag} {mg:Str->Option Value} {base:Heap} {D:Adr}
theorem boot_abs:bootBuiltins "abs" = some (.builtin "abs"):=by decide +kernel
theorem GF:1 <= sizeLine:=by decide
theorem eE:2 <= sizeLine:=by decide
theorem agq {n:Int} (h0:0 <= n) (h1:n <= 1000000):acF 10 n:=⟨h0,h1,by decide⟩
theorem ab5 {n:Nat} (h:n <= 64):n <= sizeLine:=aL h (by decide)
theorem Zv (ns:List Int) (k:Nat):atI (mQ (ns.map V.int) (some (k:Int)) (some ((k:Int) + 1)) ++ [V.int 0]) 0 = some (V.int (ns.getD k 0)):=by
 unfold mQ
 rw [show ((k:Int) + 1) = ((k + 1:Nat):Int) by omega,HT.pJ,HT.pJ,ak]
 refine bV (j:=0) ?_
 by_cases h:k < ns.length
 .rw [Nat.min_eq_left (Nat.le_of_lt h),Nat.min_eq_left (Nat.succ_le_of_lt h)]
  rw [show k + 1 - k = 1 by omega]
  rw [List.drop_eq_getElem_cons (by rw [ak]; exact h)]
  simp [List.getD,h]
 .have e1:min k ns.length = ns.length:=by omega
  have e2:min (k + 1) ns.length = ns.length:=by omega
  rw [e1,e2]
  simp [List.getD,aM (Nat.le_of_not_lt h)]
theorem cB {t u:TS} {D:Ends} {σ:L2.St} {H:Hp} (h:∀ u',u' = u->qw t u' D σ H):qw t u D σ H:=h u rfl
theorem Gs {a b c d:TS} {D:Ends} {σ:L2.St} {H:Hp} (h:∀ d',d' = d->qw a (qw b (qw c d')) D σ H):qw a (qw b (qw c d)) D σ H:=h d rfl
theorem m8 {α:Type} : ∀ {l:List α},l.length = 2->∃ a b,l = [a,b]
 | [a,b],_=>⟨a,b,rfl⟩
theorem dj {t0:TE} {t v:TS} {D:Ends} {σ:L2.St} {H:Hp} {i k:Int} (ht:∀ R:VK,R (.int i) H->t0 σ H R) (ne:i ≠ k) (h:v D σ H):qw (Lw (Dy (tOp rEq t0 (tC (.int k)))) t DK) v D σ H:=by
 refine ht _ ⟨rfl,_,rfl,?_⟩
 dsimp only
 rw [if_neg (by simp [ne])]
 exact h
theorem j7 {t0:TE} {t v:TS} {D:Ends} {σ:L2.St} {H:Hp} {i k:Int} (ht:∀ R:VK,R (.int i) H->t0 σ H R) (e:i = k) (h:∀ Kn:L2.St->Hp->Prop,(∀ σ' H',v D σ' H'->Kn σ' H')->t { D with nx:=Kn } σ H):qw (Lw (Dy (tOp rEq t0 (tC (.int k)))) t DK) v D σ H:=by
 refine ht _ ⟨rfl,_,rfl,?_⟩
 dsimp only
 rw [if_pos (by simp [e])]
 exact h _ fun _ _ z=>z
theorem za {te:TE} {D:Ends} {σ:L2.St} {H:Hp} (h:te σ H D.rt):V9 te D σ H:=h
theorem Mv {te:TE} {σ:L2.St} {H:Hp} {Q:List V->Hp->Prop} (h:te σ H fun x H1=>Q [x] H1):fu te kh σ H Q:=h
theorem m9 {t u:TS} {D:Ends} {σ:L2.St} {H:Hp} (h:t { D with nx:=u D } σ H):qw t u D σ H:=h
theorem fZ {te:TE} {g:TG} {u:TS} {D:Ends} {σ:L2.St} {H:Hp} (h:te σ H fun x H1=>g x σ H1 (u D)):qw (z7 te g) u D σ H:=h
theorem J3 {c:TT} {t u:TS} {D:Ends} {σ:L2.St} {H:Hp} (h:c σ H fun b H1=>if b = true then t D σ H1 else u D σ H1):Lw c t u D σ H:=h
theorem acV {r:R2} {ta tb:TE} {σ:L2.St} {H:Hp} {Q:VK} (h:ta σ H fun x H1=>tb σ H1 fun y H2=>r x y H2 Q):tOp r ta tb σ H Q:=h
theorem Hl {r:List V->Hp->VK->Prop} {te:TE} {σ:L2.St} {H:Hp} {Q:VK} (h:te σ H fun x H1=>r [x] H1 Q):tCB r (fu te kh) σ H Q:=h
theorem Zw {r:List V->Hp->VK->Prop} {te:TE} {σ:L2.St} {H:Hp} {Q:Bool->Hp->Prop} (h:te σ H fun x H1=>r [x] H1 fun y H2=>∃ k,Ow y = some k/\Q k H2):R9 (tCB r (fu te kh)) σ H Q:=h
noncomputable def jy:Sp:=fun vs H Q _=>∃ x t,vs = [x]/\tyS H x = some t/\Q (.bl (t == "int")) H
theorem M5 (F:Fun K gM gM vY f fd) (T:Txt K mg D):cu P w K mg base CX0 1 f fd gK jy:=by
 refine F.ok Ld (fun vs H Q E h=>?_) (fun cdv A outer s H vs Q E hr h=>?_)
 .obtain ⟨x,t,rfl,_⟩:=h
  rfl
 .obtain ⟨x,t,rfl,ht,q⟩:=h
  refine ⟨_,(bL (bY (yW (bU lB (by rfl) T.eF boot_isinstance (bB (pv 0) (bB (nR (v:=.ty "int") (by rfl) T.aaT boot_int rfl) bG))) (BW (XJ (bU lB (by rfl) T.eF boot_isinstance (bB (pv 0) (bB (nR (v:=.ty "bool") (by rfl) T.GR boot_bool rfl) bG)))))))),?_⟩
  walk_at "rd"
  rw [ht]
  walk_at "rd"
  have hm:=Wf ht
  simp only [List.mem_cons,List.not_mem_nil,or_false] at hm
  rcases hm with rfl | rfl | rfl | rfl | rfl | rfl | rfl <;> simpa using q
noncomputable def Jh:Sp:=fun vs H Q _=>∃ (a b:Int),vs = [.int a,.int b]/\Q (.int (Int.gcd a b:Nat)) H
theorem aa8 (F:Fun K DX DX X_ f fd) (T:Txt K mg D):cu P w K mg base CX0 1 f fd DR Jh:=by
 refine cu.clean (sp:=fun vs H Q _=>∃ (a b:Int),vs = [.int a,.int b]/\∀ H',Same H H'->Q (.int (Int.gcd a b:Nat)) H')
  (F.ok IW (fun vs H Q E h=>?_) (fun cdv A outer s H vs Q E hr h=>?_)) fun vs H Q E ⟨a,b,h1,h4⟩=>⟨a,b,h1,fun H' S=>⟨S,h4⟩⟩
 .obtain ⟨a,b,rfl,_⟩:=h
  rfl
 .obtain ⟨a,b,rfl,q⟩:=h
  refine ⟨_,(bI (tL (bU RX (by rfl) T.Wz boot_sorted (bB (cR (bB (bU tG (by rfl) T.Np boot_abs (bB (pv 0) bG)) (bB (bU tG (by rfl) T.Np boot_abs (bB (pv 1) bG)) bG))) bG)) (aau (n:=2) rfl (b_ (bW (i:=2) IW.nd rfl (Or.inl rfl)) (b_ (bW (i:=3) IW.nd rfl (Or.inl rfl)) eZ))))
   (bI (uK PassesOwn.never (cW Qt (pv 2) bH (cL _))
    (bL (aci (i:=2) (j:=3) rfl IW.nd rfl rfl (by decide) rfl rfl (bB (bO mD (pv 3) (pv 2)) (bB (pv 2) bG)) rfl)))
   (bL (bY (pv 3))))),?_⟩
  walk_at "rd"
  refine ⟨eE,fun p hp=>⟨[(a.natAbs:Int),(b.natAbs:Int)],?_,(by simp),fun ms p1 hp1 hm hs=>?_⟩⟩
  .rw [Jj,Jj]; rfl
  have S:Same H (upd (upd H p (HO.lst [V.int (if a < 0 then -a else a),V.int (if b < 0 then -b else b)])) p1 (HO.lst (ms.map V.int))):=(Same.upd hp).trans (Same.upd hp1)
  generalize upd (upd H p (HO.lst [V.int (if a < 0 then -a else a),V.int (if b < 0 then -b else b)])) p1 (HO.lst (ms.map V.int)) = H1 at S
  have hk:∃ l k:Nat,ms = [(l:Int),(k:Int)]/\Nat.gcd l k = Int.gcd a b:=by
   rcases VB hm with rfl | rfl
   .exact ⟨_,_,rfl,rfl⟩
   .exact ⟨_,_,rfl,Nat.gcd_comm _ _⟩
  obtain ⟨l,k,rfl,hg⟩:=hk
  walk_at "rd"
  refine Lg (fun σ H2=>∃ l k:Nat,σ = [some (.int a),some (.int b),some (.int l),some (.int k)]/\H2 = H1/\Nat.gcd l k = Int.gcd a b)
   (fun σ _=>match σ with | [_,_,some (.int l),_]=>l.natAbs | _=>0) ⟨l,k,rfl,rfl,hg⟩ ?_ ?_
  .rintro σ H2 ⟨l,k,rfl,rfl,hg⟩
   walk_at "rd"
   by_cases hl:l = 0
   .subst hl
    simp only [Int.natCast_zero,Int.lt_irrefl,decide_false,Bool.false_eq_true,if_false]
    rw [show k = Int.gcd a b by rw [<- hg,Nat.gcd_zero_left]]
    exact q _ S
   .have hl':(0:Int) < l:=by omega
    rw [if_pos (decide_eq_true hl')]
    refine ⟨by omega,⟨k % l,yL _ _,l,rfl,?_⟩,?_⟩
    .rw [<- Nat.gcd_rec]; exact hg
    .rw [yL]
     show (k % l) < l
     exact Nat.mod_lt _ (by omega)
  .intro σ H2 Q1 Q2 hq
   walk_at "rd"
   rintro ⟨v,h1,i,h2,h3⟩
   exact ⟨v,h1,i,h2,hq _ _ h3⟩
theorem JH {a b:Int} (h:b ≠ 0):(0:Int) < (Int.gcd a b:Nat):=by
 have:=Int.gcd_pos_of_ne_zero_right a h
 omega
theorem Oc {a b:Int} (h:b ≠ 0) (hb:Bd b):Bd (Int.gcd a b:Nat):=by
 unfold Bd at *
 refine Nat.lt_of_le_of_lt ?_ hb
 rw [Int.natAbs_natCast]
 exact Nat.le_of_dvd (by omega) (Int.gcd_dvd_natAbs_right a b)
noncomputable def iY:Sp:=fun vs H Q _=>∃ (a b:Int),vs = [.int a,.int b]/\Q (.int (Int.gcd a b:Nat)) H
noncomputable def afi (a b:Int) (H1:Hp) (σ:L2.St) (H:Hp):Prop:=∃ (l k:Nat) (z:Option V),σ = [some (.int a),some (.int b),some (.int l),some (.int k),z]/\H = H1/\Nat.gcd l k = Int.gcd a b
theorem PX (F:Fun K jN jN zy f fd) (T:Txt K mg D):cu P w K mg base CX0 1 f fd jH iY:=by
 refine F.ok mj (fun vs H Q E h=>?_) (fun cdv A outer s H vs Q E hr h=>?_)
 .obtain ⟨a,b,rfl,_⟩:=h
  rfl
 .obtain ⟨a,b,rfl,q⟩:=h
  refine ⟨_,(bI (bT (i:=2) mj.nd rfl (Or.inl rfl) (bU tG (by rfl) T.Np boot_abs (bB (pv 0) bG)))
   (bI (bT (i:=3) mj.nd rfl (Or.inl rfl) (bU tG (by rfl) T.Np boot_abs (bB (pv 1) bG)))
   (bI (uK PassesOwn.never (cW Rv (pv 3) bH (cL _))
    (bI (bT (i:=4) mj.nd rfl (Or.inl rfl) (bO mD (pv 2) (pv 3)))
    (bI (bT (i:=2) mj.nd rfl (Or.inl rfl) (pv 3))
    (bL (bT (i:=3) mj.nd rfl (Or.inl rfl) (pv 4))))))
   (bL (bY (pv 2)))))),?_⟩
  walk_at "rd"
  rw [Jj,Jj]
  refine Lg (afi a b H) (fun σ _=>match σ with | [_,_,_,some (.int k),_]=>k.natAbs | _=>0) ⟨a.natAbs,b.natAbs,none,rfl,rfl,rfl⟩ ?_ ?_
  .rintro σ H2 ⟨l,k,z,rfl,rfl,hg⟩
   walk_at "rd"
   by_cases hl:k = 0
   .subst hl
    rw [if_neg (by simp)]
    rw [show l = Int.gcd a b by rw [<- hg,Nat.gcd_zero_right]]
    exact q
   .have hl':¬ ((k:Int) = 0):=by omega
    rw [if_pos (by simpa using hl)]
    refine ⟨by omega,⟨k,l % k,some (.int ((l % k:Nat):Int)),?_,rfl,?_⟩,?_⟩
    .rw [yL]
    .rw [Nat.gcd_comm,<- Nat.gcd_rec,Nat.gcd_comm]; exact hg
    .rw [yL]
     show (l % k) < k
     exact Nat.mod_lt _ (by omega)
  .intro σ H2 Q1 Q2 hq
   walk_at "rd"
   rintro ⟨v,h1,h2,h3⟩
   exact ⟨v,h1,h2,hq _ _ h3⟩
structure Low (t b x y:Int):Prop where
 pos:0 < y
 gcd:Int.gcd x y = 1
 eq:x * b = t * y
 lx:x.natAbs <= t.natAbs
 ly:y.natAbs <= b.natAbs
theorem Di {c q:Int} (h:c ≠ 0):Int.fdiv (c * q) c = q:=by
 rw [Int.fdiv_eq_ediv_of_dvd (Int.dvd_mul_right c q),Int.mul_ediv_cancel_left _ h]
theorem BK {c q:Int} (h:c ≠ 0):q.natAbs <= (c * q).natAbs:=by
 rw [Int.natAbs_mul]
 exact Nat.le_mul_of_pos_left _ (by omega)
theorem V1 {t b c:Int} (hb:b ≠ 0) (hc:c ≠ 0) (hg:c.natAbs = Int.gcd t b) (hs:0 < c * b):Low t b (Int.fdiv t c) (Int.fdiv b c):=by
 have d1:c ∣ t:=Int.natAbs_dvd.mp (by rw [hg]; exact Int.gcd_dvd_left t b)
 have d2:c ∣ b:=Int.natAbs_dvd.mp (by rw [hg]; exact Int.gcd_dvd_right t b)
 obtain ⟨x,rfl⟩:=d1
 obtain ⟨y,rfl⟩:=d2
 rw [Di hc,Di hc]
 refine ⟨?_,?_,?_,BK hc,BK hc⟩
 .rw [<- Int.mul_assoc] at hs
  have hp:0 < c * c:=by
   rcases Int.lt_or_lt_of_ne hc with z | z
   .exact Int.mul_pos_of_neg_of_neg z z
   .exact Int.mul_pos z z
  exact Int.pos_of_mul_pos_right hs hp
 .rw [Int.gcd_mul_left] at hg
  have hp:0 < c.natAbs:=by omega
  exact Nat.eq_of_mul_eq_mul_left hp (by rw [Nat.mul_one]; exact hg.symm)
 .rw [Int.mul_left_comm,Int.mul_assoc]
noncomputable def mX:Sp:=fun vs H Q _=>∃ (t b:Int),vs = [.int t,.int b]/\b ≠ 0/\Bd b/\∀ p x y,Low t b x y->H p = none->Q (.ref p) (upd H p (.tup [.int x,.int y]))
theorem Xh {i:Int} (h:Bd i):Bd (-i):=by unfold Bd at *; rw [Int.natAbs_neg]; exact h
theorem Wx (F:Fun K o_ o_ Kc f fd) (T:Txt K mg D) (dB:OkF P w K mg base 1 gM gK jy) (jh:OkF P w K mg base 1 jN jH iY):cu P w K mg base CX0 2 f fd oX mX:=by
 refine F.ok BX (fun vs H Q E h=>?_) (fun cdv A outer s H vs Q E hr h=>?_)
 .obtain ⟨t,b,rfl,_⟩:=h
  rfl
 .obtain ⟨t,b,rfl,hb,hbd,q⟩:=h
  refine ⟨_,(bI (dF (PW.pt (pw_or (d9 (cQ (bM dB (hr.mono (by decide)) (by rfl) (bB (pv 0) bG)) (fun _=>rfl))) (pw_or1 (d9 (cQ (bM dB (hr.mono (by decide)) (by rfl) (bB (pv 1) bG)) (fun _=>rfl))))))
    (bL o8)
    cH)
   (bI (dF (cW qy (pv 1) bH (cL _))
    (bL o8)
    cH)
   (bI (bT (i:=2) BX.nd rfl (Or.inl rfl) (bM jh (hr.mono (by decide)) (by rfl) (bB (pv 0) (bB (pv 1) bG))))
   (bI (dF (cW Gz (pv 1) bH (cL _))
    (bL (bT (i:=2) BX.nd rfl (Or.inl rfl) (Rq JL (pv 2))))
    cH)
   (bL (bY (dI (bB (bO iI (pv 0) (pv 2)) (bB (bO iI (pv 1) (pv 2)) bG))))))))),?_⟩
  unfold jy iY
  walk_at "rd"
  have g0:=JH (a:=t) hb
  have g1:=Oc (a:=t) hb hbd
  rw [if_neg (by simpa using hb)]
  refine U8 (fun hn=>?_) fun hn=>?_
  .rw [decide_eq_true_eq] at hn
   refine ⟨by omega,Xh g1,by omega,Xh g1,eE,fun p hp=>q p _ _ (V1 hb (by omega) (by omega) ?_) hp⟩
   exact Int.mul_pos_of_neg_of_neg (by omega) hn
  .rw [decide_eq_true_eq] at hn
   refine ⟨by omega,g1,by omega,g1,eE,fun p hp=>q p _ _ (V1 hb (by omega) (by omega) ?_) hp⟩
   exact Int.mul_pos g0 (by omega)
noncomputable def qz:Sp:=fun vs H Q _=>∃ (p q:Addr) (x y u v:Int),vs = [.ref p,.ref q]/\SqT K H p [.int x,.int y]/\SqT K H q [.int u,.int v]/\Bd x/\Bd y/\Bd u/\Bd v/\Q (.bl (decide (x * v < u * y))) H
theorem Vr (F:Fun K qL qL HS f fd):cu P w K mg base CX0 1 f fd qx (qz (K:=K)):=by
 refine F.ok Yk (fun vs H Q E h=>?_) (fun cdv A outer s H vs Q E hr h=>?_)
 .obtain ⟨p,q,x,y,u,v,rfl,_⟩:=h
  rfl
 .obtain ⟨p,q,x,y,u,v,rfl,hp,hq,bx,b_y,bu,bv,k⟩:=h
  refine ⟨_,(bL (bY (jf Gz (bO fL (bQ gU (pv 0) bH (fun _ _=>rfl)) (bQ gU (pv 1) bH (fun _ _=>rfl))) (bO fL (bQ gU (pv 1) bH (fun _ _=>rfl)) (bQ gU (pv 0) bH (fun _ _=>rfl))) (cL _)))),?_⟩
  walk_at "rd"
  exact ⟨_,hp,_,eU,_,hq,_,gO,_,rfl,_,rfl,bx,bv,_,hq,_,eU,_,hp,_,gO,_,rfl,_,rfl,bu,b_y,k⟩
noncomputable def sU (g:Int->Int->Int):Sp:=fun vs H Q _=>∃ (p q:Addr) (x y u v:Int),vs = [.ref p,.ref q]/\SqT K H p [.int x,.int y]/\SqT K H q [.int u,.int v]/\Bd x/\Bd y/\Bd u/\Bd v/\0 < y/\0 < v/\Bd (y * v) /\
 ∀ r z o,Low (g (x * v) (u * y)) (y * v) z o->H r = none->Q (.ref r) (upd H r (.tup [.int z,.int o]))
theorem aax (F:Fun K xW xW PB f fd) (nQ:OkF P w K mg base 2 o_ oX mX):cu P w K mg base CX0 3 f fd xH (sU (K:=K) fun a b=>a + b):=by
 refine F.ok Yy (fun vs H Q E h=>?_) (fun cdv A outer s H vs Q E hr h=>?_)
 .obtain ⟨p,q,x,y,u,v,rfl,_⟩:=h
  rfl
 .obtain ⟨p,q,x,y,u,v,rfl,hp,hq,bx,b_y,bu,bv,y0,v0,byv,k⟩:=h
  refine ⟨_,(bL (bY (bM nQ (hr.mono (by decide)) (by rfl) (bB (bO dZ (bO fL (bQ gU (pv 0) bH (fun _ _=>rfl)) (bQ gU (pv 1) bH (fun _ _=>rfl))) (bO fL (bQ gU (pv 1) bH (fun _ _=>rfl)) (bQ gU (pv 0) bH (fun _ _=>rfl)))) (bB (bO fL (bQ gU (pv 0) bH (fun _ _=>rfl)) (bQ gU (pv 1) bH (fun _ _=>rfl))) bG))))),?_⟩
  unfold mX
  walk_at "rd"
  exact ⟨_,hp,_,eU,_,hq,_,gO,_,rfl,_,rfl,bx,bv,_,hq,_,eU,_,hp,_,gO,_,rfl,_,rfl,bu,b_y,_,hp,_,gO,_,hq,_,gO,_,rfl,_,rfl,b_y,bv,Int.ne_of_gt (Int.mul_pos y0 v0),byv,fun r z o l hr=>k r z o l hr⟩
theorem Vn (F:Fun K uz uz JT f fd) (nQ:OkF P w K mg base 2 o_ oX mX):cu P w K mg base CX0 3 f fd uF (sU (K:=K) fun a b=>a - b):=by
 refine F.ok V7 (fun vs H Q E h=>?_) (fun cdv A outer s H vs Q E hr h=>?_)
 .obtain ⟨p,q,x,y,u,v,rfl,_⟩:=h
  rfl
 .obtain ⟨p,q,x,y,u,v,rfl,hp,hq,bx,b_y,bu,bv,y0,v0,byv,k⟩:=h
  refine ⟨_,(bL (bY (bM nQ (hr.mono (by decide)) (by rfl) (bB (bO Iu (bO fL (bQ gU (pv 0) bH (fun _ _=>rfl)) (bQ gU (pv 1) bH (fun _ _=>rfl))) (bO fL (bQ gU (pv 1) bH (fun _ _=>rfl)) (bQ gU (pv 0) bH (fun _ _=>rfl)))) (bB (bO fL (bQ gU (pv 0) bH (fun _ _=>rfl)) (bQ gU (pv 1) bH (fun _ _=>rfl))) bG))))),?_⟩
  unfold mX
  walk_at "rd"
  exact ⟨_,hp,_,eU,_,hq,_,gO,_,rfl,_,rfl,bx,bv,_,hq,_,eU,_,hp,_,gO,_,rfl,_,rfl,bu,b_y,_,hp,_,gO,_,hq,_,gO,_,rfl,_,rfl,b_y,bv,Int.ne_of_gt (Int.mul_pos y0 v0),byv,fun r z o l hr=>k r z o l hr⟩
noncomputable def wA (c:Nat):Bool:=decide (c ∈ (Str.ofString "abcdefghijklmnopqrstuvwxyz").cps.toList)
noncomputable def j6 (l:List Nat):Bool:=decide (1 <= l.length) && decide (l.length <= 8) && l.all wA
theorem aao (c:Nat):((!decide ([c] < [97])) && !decide ([122] < [c])) = wA c:=by
 have e:(Str.ofString "abcdefghijklmnopqrstuvwxyz").cps.toList = (List.range 26).map (97 + ·):=by decide +kernel
 have m:c ∈ (List.range 26).map (97 + ·) ↔ 97 <= c/\c <= 122:=by
  rw [List.mem_map]
  constructor
  .rintro ⟨i,h,rfl⟩
   have:=List.mem_range.mp h
   exact ⟨Nat.le_add_right ..,by omega⟩
  .exact fun h=>⟨c - 97,List.mem_range.mpr (by omega),by omega⟩
 have h1:([c] < [97]) ↔ c < 97:=by rw [List.cons_lt_cons_iff]; simp
 have h2:([122] < [c]) ↔ 122 < c:=by rw [List.cons_lt_cons_iff]; simp
 unfold wA
 rw [e,decide_eq_decide.mpr m,decide_eq_decide.mpr h1,decide_eq_decide.mpr h2]
 by_cases a:c < 97
 .rw [decide_eq_true a,decide_eq_false (p:=97 <= c/\c <= 122) (by omega)]; rfl
 .by_cases b:122 < c
  .rw [decide_eq_true b,decide_eq_false (p:=97 <= c/\c <= 122) (by omega)]; exact Bool.and_false _
  .rw [decide_eq_false a,decide_eq_false b,decide_eq_true ⟨by omega,by omega⟩]; rfl
noncomputable def ux:Sp:=fun vs H Q _=>∃ v,vs = [v]/\((∃ x:Str,v = .str x/\x.length <= 1000/\Q (.bl (j6 x.cps.toList)) H)\/∃ t,tyS H v = some t/\t ≠ "str" /\ Q (.bl false) H)
theorem Oq (F:Fun K jR jR vf f fd) (T:Txt K mg D):cu P w K mg base CX0 1 f fd jM ux:=by
 refine cu.clean (sp:=fun vs H Q _=>∃ v,vs = [v]/\((∃ x:Str,v = .str x/\x.length <= 1000/\∀ H',Same H H'->Q (.bl (j6 x.cps.toList)) H')\/∃ t,tyS H v = some t/\t ≠ "str" /\ ∀ H',Same H H'->Q (.bl false) H'))
  (F.ok Pj (fun vs H Q E h=>?_) (fun cdv A outer s H vs Q E hr h=>?_)) fun vs H Q E ⟨v,h1,h2⟩=>⟨v,h1,h2.imp (fun ⟨x,a,b,c⟩=>⟨x,a,b,fun H' S=>⟨S,c⟩⟩) fun ⟨t,a,b,c⟩=>⟨t,a,b,fun H' S=>⟨S,c⟩⟩⟩
 .obtain ⟨v,rfl,_⟩:=h
  rfl
 .obtain ⟨v,rfl,h⟩:=h
  refine ⟨_,(bI (dF (PW.pt (pw_or (d9 (cQ (bU lB (by rfl) T.eF boot_isinstance (bB (pv 0) (bB (nR (v:=.ty "str") (by rfl) T.acW boot_str rfl) bG))) (fun _=>rfl))) (pw_or1 (d9 (Cr Nk Nk bH (bU Hy (by rfl) T.iC PySem.boot_len (bB (pv 0) bG)) (V0 (by rfl) T.Dh))))))
    (bL (bY iH))
    cH)
   (bL (bY (bU (vg rfl) (by rfl) T.Q5 boot_all (bB (fW (bK vf) zH zH ["sign"] (abl ((pv 0)).mono) (cU (i:=0)) cF (U9 V3 V3 pH (pv 0) pH)) bG))))),?_⟩
  rcases h with ⟨x,rfl,hx,q⟩ | ⟨t,ht,hne,q⟩
  .have hz:x.length <= sizeLine:=aL hx (by decide)
   have hl:x.cps.toList.length = x.length:=Array.length_toList
   have ea:Str.ofString "a" = ⟨#[97]⟩:=by decide +kernel
   have ez:Str.ofString "z" = ⟨#[122]⟩:=by decide +kernel
   walk_at "rd"
   refine ⟨hz,?_⟩
   by_cases h1:1 <= x.length
   .rw [if_pos (decide_eq_true (by omega))]
    by_cases h2:x.length <= 8
    .rw [if_neg (by rw [decide_eq_true (by omega)]; decide)]
     refine KJ wA x (fun R h=>⟨_,rfl,h⟩) hz (fun c Hc R h=>?_) fun L hL=>⟨L,rfl,_,bC,?_⟩
     .simp only [qw,Lw,V9,Vt,tOp,tUn,rU,Qd,rQ,KR,tSl,jw,tC,GC,rI0,rI,Tw,Ks,Vh,fu,kh,tCB,HX,Dy,Yc,tOr,RG,Li,KY,abf,R9,z7,Zf,dw,Zj,Qe,QL,Ru,VR,Dv,Oj,Rf,HN,N8,yw,G8,Uh,Ow,rEq,rNe,RT,DK,Qg,zA,N5,Hw,JC,U6,XR,abz,aa7,Ends.unset,ZG,acf,Jc,ZK,Qo,ZD,Xv,Rm,Vq,UL,abD,tSM,Om,JV,Ea,VJ,ZQ,Rk,Kg,Y0,Bf,Iz,Rh,WY,rJoin,Rj,Vf,tB,aan,aav,Vu,Bh,QK,Rx,Zc,abU,Xr,GJ,Ju,Xi,O7,V2,Bt,ZV,Y6,vd,V.str.injEq,L2.start,List.replicate_succ,List.replicate_zero,Nat.reduceSub,Nat.reduceAdd,List.map_cons,List.map_nil,List.length_cons,List.length_nil,List.cons_append,List.nil_append,List.append_nil,List.getElem?_cons_zero,List.getElem?_cons_succ,List.set_cons_zero,List.set_cons_succ,List.set_nil,Option.some.injEq,exists_eq_left',exists_eq_left,exists_and_left,exists_and_right,exists_eq_right,exists_eq,exists_eq',and_assoc,V.int.injEq,V.ref.injEq,V.bl.injEq,V.ty.injEq,List.cons.injEq,HO.tup.injEq,HO.lst.injEq,and_true,true_and,reduceCtorEq,eU,gO,bC,decide_true,decide_false,Bool.not_true,Bool.not_false,if_true,if_false,ite_true,ite_false,Bool.false_eq_true,List.mem_cons,String.reduceEq,or_true,true_or,or_false,false_or,beq_self_eq_true,Bool.or_true,Bool.true_or,Bool.or_false,Bool.false_or,Bool.and_true,Bool.and_false,Bool.true_and,Bool.false_and,String.reduceBEq,Int.reduceToNat,Int.reducePow,Int.reduceMul,Int.reduceSub,Int.reduceAdd,Int.reduceNeg,Int.reduceLE,Int.reduceLT,Int.reduceEq,ne_eq,not_false_eq_true,not_true_eq_false,Int.cast_ofNat_Int,ea,ez]
      have:=aao c
      rw [<- this] at h
      cases hd:(!decide ([c] < [97])) with
      | false=>rw [hd] at h; exact h
      | true=>rw [hd] at h; exact h
     .have ew:j6 x.cps.toList = (x.cps.toList.map wA).all id:=by
       unfold j6
       rw [hl,decide_eq_true h1,decide_eq_true h2,List.all_map]; rfl
      rw [<- ew]
      exact q _ (Same.upd hL)
    .rw [if_pos (by rw [decide_eq_false (by omega)]; rfl)]
     have ew:j6 x.cps.toList = false:=by
      unfold j6
      rw [hl,decide_eq_false h2,Bool.and_false]; rfl
     rw [ew] at q
     exact q _ (Same.refl _)
   .rw [if_neg (by rw [decide_eq_true_eq]; omega)]
    have ew:j6 x.cps.toList = false:=by
     unfold j6
     rw [hl,decide_eq_false h1]; rfl
    rw [ew] at q
    exact q _ (Same.refl _)
  .simp only [qw,Lw,V9,Vt,tOp,tUn,rU,Qd,rQ,KR,tSl,jw,tC,GC,rI0,rI,Tw,Ks,Vh,fu,kh,tCB,HX,Dy,Yc,tOr,RG,Li,KY,abf,R9,z7,Zf,dw,Zj,Qe,QL,Ru,VR,Dv,Oj,Rf,HN,N8,yw,G8,Uh,Ow,rEq,rNe,RT,DK,Qg,zA,N5,Hw,JC,U6,XR,abz,aa7,Ends.unset,ZG,acf,Jc,ZK,Qo,ZD,Xv,Rm,Vq,UL,abD,tSM,Om,JV,Ea,VJ,ZQ,Rk,Kg,Y0,Bf,Iz,Rh,WY,rJoin,Rj,Vf,tB,aan,aav,Vu,Bh,QK,Rx,Zc,abU,Xr,GJ,Ju,Xi,O7,V2,Bt,ZV,Y6,vd,V.str.injEq,L2.start,List.replicate_succ,List.replicate_zero,Nat.reduceSub,Nat.reduceAdd,List.map_cons,List.map_nil,List.length_cons,List.length_nil,List.cons_append,List.nil_append,List.append_nil,List.getElem?_cons_zero,List.getElem?_cons_succ,List.set_cons_zero,List.set_cons_succ,List.set_nil,Option.some.injEq,exists_eq_left',exists_eq_left,exists_and_left,exists_and_right,exists_eq_right,exists_eq,exists_eq',and_assoc,V.int.injEq,V.ref.injEq,V.bl.injEq,V.ty.injEq,List.cons.injEq,HO.tup.injEq,HO.lst.injEq,and_true,true_and,reduceCtorEq,eU,gO,bC,decide_true,decide_false,Bool.not_true,Bool.not_false,if_true,if_false,ite_true,ite_false,Bool.false_eq_true,List.mem_cons,String.reduceEq,or_true,true_or,or_false,false_or,beq_self_eq_true,Bool.or_true,Bool.true_or,Bool.or_false,Bool.false_or,Bool.and_true,Bool.and_false,Bool.true_and,Bool.false_and,String.reduceBEq,Int.reduceToNat,Int.reducePow,Int.reduceMul,Int.reduceSub,Int.reduceAdd,Int.reduceNeg,Int.reduceLE,Int.reduceLT,Int.reduceEq,ne_eq,not_false_eq_true,not_true_eq_false,Int.cast_ofNat_Int,ht]
   rw [beq_eq_false_iff_ne.mpr hne]
   exact q _ (Same.refl _)
structure Fk (K:Frag) (H:Hp) (p:Addr) (x y:Int):Prop where
 at_:SqT K H p [.int x,.int y]
 pos:0 < y
 gcd:Int.gcd x y = 1
theorem Fk.same {K:Frag} {H H':Hp} {p:Addr} {x y:Int} (h:Fk K H p x y) (S:Same H H'):Fk K H' p x y:=⟨S.tup h.at_,h.pos,h.gcd⟩
noncomputable def gP:Sp:=fun vs H Q _=>∃ p x y,vs = [.ref p]/\Fk K H p x y/\Q (.bl true) H
theorem Nm (F:Fun K i_ i_ vV f fd) (T:Txt K mg D) (dB:OkF P w K mg base 1 gM gK jy) (jh:OkF P w K mg base 1 jN jH iY):cu P w K mg base CX0 2 f fd iZ (gP (K:=K)):=by
 refine F.ok tU (fun vs H Q E h=>?_) (fun cdv A outer s H vs Q E hr h=>?_)
 .obtain ⟨p,x,y,rfl,_⟩:=h
  rfl
 .obtain ⟨p,x,y,rfl,hf,q⟩:=h
  have hp:=hf.at_
  refine ⟨_,(bI (dF (PW.pt (pw_or (d9 (cQ (bU (lB.or Kz) (by rfl) T.eF boot_isinstance (bB (pv 0) (bB (nR (v:=.ty "tuple") (by rfl) T.Y4 boot_tuple rfl) bG))) (fun _=>rfl))) (pw_or1 (cW Rv (bU RK (by rfl) T.iC PySem.boot_len (bB (pv 0) bG)) bH (cL _)))))
    (bL (bY iH))
    cH)
   (bI (bT (i:=1) tU.nd rfl (Or.inl rfl) (bQ gU (pv 0) bH (fun _ _=>rfl)))
   (bI (bT (i:=2) tU.nd rfl (Or.inl rfl) (bQ gU (pv 0) bH (fun _ _=>rfl)))
   (bI (dF (PW.pt (pw_or (d9 (cQ (bM dB (hr.mono (by decide)) (by rfl) (bB (pv 1) bG)) (fun _=>rfl))) (pw_or1 (d9 (cQ (bM dB (hr.mono (by decide)) (by rfl) (bB (pv 2) bG)) (fun _=>rfl))))))
    (bL (bY iH))
    cH)
   (bL (bY (yW (jf aaQ (pv 2) bH (cL _)) (BW (jf qy (bM jh (hr.mono (by decide)) (by rfl) (bB (pv 1) (bB (pv 2) bG))) bH (cL _)))))))))),?_⟩
  unfold jy iY
  walk_at "rd"
  refine .inr ⟨⟨_,hp⟩,_,hp,?_⟩
  rw [if_neg (by simp)]
  refine ⟨_,hp,_,eU,_,hp,_,gO,_,yw,?_⟩
  rw [if_neg (by decide)]
  refine ⟨_,yw,?_⟩
  rw [if_neg (by decide)]
  have hy:=hf.pos
  refine ⟨y,rfl,?_⟩
  rw [if_pos (decide_eq_true (by omega))]
  refine ⟨x,rfl,y,rfl,?_⟩
  rw [hf.gcd]
  exact q
noncomputable def g_:Sp:=fun vs H Q _=>∃ (n:Str) (p:Addr) (x y:Int),vs = [.str n,.ref p]/\n.length <= 1000/\j6 n.cps.toList = true/\Fk K H p x y/\Q .non H
theorem Ey (F:Fun K iw iw rO f fd) (T:Txt K mg D) (jr:OkF P w K mg base 1 jR jM ux) (gW:OkF P w K mg base 2 i_ iZ (gP (K:=K))):cu P w K mg base (CXO P w) 3 f fd iy (g_ (K:=K)):=by
 refine F.okX Ft (fun vs H Q E h=>?_) (fun cdv A outer s H vs Q E hr h=>?_)
 .obtain ⟨n,p,x,y,rfl,_⟩:=h
  rfl
 .obtain ⟨n,p,x,y,rfl,hn,hw,hf,q⟩:=h
  refine ⟨_,(bI (dF (d9 (cQ (bM jr (hr.mono (by decide)) (by rfl) (bB (pv 0) bG)) (fun _=>rfl)))
    (bL (ud rfl (by rfl) T.Kw T.MJ uJ (bB pH bG)))
    cH)
   (bL (dF (d9 (cQ (bM gW (hr.mono (by decide)) (by rfl) (bB (pv 1) bG)) (fun _=>rfl)))
    (bL (ud rfl (by rfl) T.Nv T.O2 uJ (bB pH bG)))
    cH))),?_⟩
  unfold ux gP
  walk_at "rd"
  rw [hw]
  exact .inl ⟨hn,⟨x,y,hf⟩,q⟩
noncomputable def jo (D:Adr):Sp:=fun vs H Q _=>∃ (s dx C:Addr) (n:Str) (p:Addr) (x y:Int),vs = [.ref s,.str n,.ref p]/\H s = some (.ins C dx [])/\Fam D C/\n.length <= 1000/\j6 n.cps.toList = true/\Fk K H p x y /\
 ∀ l,upd H s (.ins C dx [("name",.str n),("pay",.ref p)]) l = none->Q .non (upd (upd H l (.lst [])) s (.ins C dx [("name",.str n),("pay",.ref p),("leads",.ref l)]))
theorem JD (F:Fun K yV wQ tD f fd) (T:Txt K mg D) (h_:OkX P w K mg base 3 iw iy (g_ (K:=K))):cu P w K mg base (CXO P w) 4 f fd jk (jo (K:=K) D):=by
 refine F.okX Ip (fun vs H Q E h=>?_) (fun cdv A outer s H vs Q E hr h=>?_)
 .obtain ⟨s,dx,C,n,p,x,y,rfl,_⟩:=h
  rfl
 .obtain ⟨o,dx,C,n,p,x,y,rfl,ho,hC,hn,hw,hf,q⟩:=h
  refine ⟨_,(bI (dh (gB h_ (hr.mono (by decide)) (by rfl) fP (bB (pv 1) (bB (pv 2) bG))))
   (bI (uM (pv 0) (pv 1) rfl)
   (bI (uM (pv 0) (pv 2) rfl)
   (bL (uM (pv 0) (cR bG) rfl))))),?_⟩
  unfold g_
  walk_at "rd"
  have cl:=T.cl C hC
  refine ⟨hn,hw,⟨x,y,hf⟩,C,dx,[],ho,cl,T.Bc C hC,(by decide),C,dx,_,rfl,cl,T.UW C hC,(by show 1 < 1000; decide),bh _,fun l hl=>?_⟩
  rw [rm] at hl ⊢
  have ne:o ≠ l:=bD bC hl
  refine ⟨C,dx,_,(bF ne).trans bC,cl,T.Cj C hC,(by show 2 < 1000; decide),?_⟩
  have e:upd (upd (upd H o (.ins C dx (kW "pay" (.ref p) (kW "name" (.str n) [])))) l (.lst [])) o (.ins C dx (kW "leads" (.ref l) (kW "pay" (.ref p) (kW "name" (.str n) [])))) = upd (upd H l (.lst [])) o (.ins C dx [("name",.str n),("pay",.ref p),("leads",.ref l)]):=by
   funext b
   by_cases h1:b = o
   .subst h1; rw [bC,bC]; rfl
   .rw [bF h1,bF h1]
    by_cases h2:b = l
    .subst h2; rw [bC,bC]
    .rw [bF h2,bF h2,bF h1]
  rw [e]
  exact q l hl
noncomputable def jl:Sp:=fun vs H Q _=>∃ n:Str,vs = [.str n]/\n.length <= 1000/\j6 n.cps.toList = true/\Q .non H
theorem vX (F:Fun K dM dM kJ f fd) (T:Txt K mg D) (jr:OkF P w K mg base 1 jR jM ux):cu P w K mg base (CXO P w) 2 f fd dN jl:=by
 refine F.okX vW (fun vs H Q E h=>?_) (fun cdv A outer s H vs Q E hr h=>?_)
 .obtain ⟨n,rfl,_⟩:=h
  rfl
 .obtain ⟨n,rfl,hn,hw,q⟩:=h
  refine ⟨_,(bL (dF (d9 (cQ (bM jr (hr.mono (by decide)) (by rfl) (bB (pv 0) bG)) (fun _=>rfl)))
    (bL (ud rfl (by rfl) T.Kw T.MJ uJ (bB pH bG)))
    cH)),?_⟩
  unfold ux
  walk_at "rd"
  rw [hw]
  exact .inl ⟨hn,q⟩
structure Ck (K:Frag) (H:Hp) (p:Addr) (x y:Int):Prop where
 fk:Fk K H p x y
 lo:0 <= x
 hi:x <= y
 by_:Bd y
noncomputable def ou:Sp:=fun vs H Q _=>∃ p x y,vs = [.ref p]/\Ck K H p x y/\Q .non H
theorem Ai (F:Fun K fH fH oM f fd) (T:Txt K mg D) (gW:OkF P w K mg base 2 i_ iZ (gP (K:=K))) (pO:OkF P w K mg base 1 qL qx (qz (K:=K))):cu P w K mg base (CXO P w) 3 f fd fG (ou (K:=K)):=by
 refine F.okX Ag (fun vs H Q E h=>?_) (fun cdv A outer s H vs Q E hr h=>?_)
 .obtain ⟨p,x,y,rfl,_⟩:=h
  rfl
 .obtain ⟨p,x,y,rfl,hc,q⟩:=h
  refine ⟨_,(bL (dF (PW.pt (pw_or (d9 (cQ (bM gW (hr.mono (by decide)) (by rfl) (bB (pv 0) bG)) (fun _=>rfl))) (pw_or (cQ (bM pO (hr.mono (by decide)) (by rfl) (bB (pv 0) (bB (iM (by rfl) T.xV) bG))) (fun _=>rfl)) (pw_or1 (cQ (bM pO (hr.mono (by decide)) (by rfl) (bB (iM (by rfl) T.LR) (bB (pv 0) bG))) (fun _=>rfl))))))
    (bL (ud rfl (by rfl) T.CN T.DP uJ (bB pH bG)))
    cH)),?_⟩
  unfold gP qz
  walk_at "rd"
  have hy:=hc.fk.pos
  have lo:=hc.lo
  have hi:=hc.hi
  have by_:=hc.by_
  have bx:Bd x:=Nat.lt_of_le_of_lt (by omega:x.natAbs <= y.natAbs) by_
  have b0:Bd 0:=Nat.two_pow_pos 8000
  have b1:Bd 1:=Nat.one_lt_two_pow (by decide)
  refine ⟨⟨x,y,hc.fk⟩,x,y,hc.fk.at_,0,1,T.vm H,bx,by_,b0,b1,?_⟩
  rw [if_neg (by simp; omega)]
  refine ⟨1,1,T.Ce H,x,y,hc.fk.at_,b1,b1,bx,by_,?_⟩
  rw [if_neg (by simp; omega)]
  exact q
noncomputable def qZ (D:Adr):Sp:=fun vs H Q _=>∃ (s dx:Addr) (n m:Str) (p:Addr) (x y:Int),vs = [.ref s,.str n,.ref p,.str m]/\H s = some (.ins D.Sure dx [])/\n.length <= 1000/\j6 n.cps.toList = true/\m.length <= 1000/\j6 m.cps.toList = true/\Fk K H p x y /\
 ∀ t l H',H l = none->(∀ b o,b ≠ s->H b = some o->H' b = some o)->H' t = some (.tup [.str m,.ref D.ONE])->H' l = some (.lst [.ref t])->H' s = some (.ins D.Sure dx [("name",.str n),("pay",.ref p),("leads",.ref l)])->Q .non H'
theorem Ke (F:Fun K w6 xZ uf f fd) (T:Txt K mg D) (jg:OkI P w K mg base (CXO P w) 4 D.Door_init jk (jo (K:=K) D)) (jT:OkX P w K mg base 2 dM dN jl):cu P w K mg base (CXO P w) 5 f fd lC (qZ (K:=K) D):=by
 refine F.okX HW (fun vs H Q E h=>?_) (fun cdv A outer s H vs Q E hr h=>?_)
 .obtain ⟨s,dx,n,m,p,x,y,rfl,_⟩:=h
  rfl
 .obtain ⟨o,dx,n,m,p,x,y,rfl,ho,hn,hw,hm,hv,hf,q⟩:=h
  refine ⟨_,(bI (dh (yP T.w5 jg (hr.mono (by decide)) (by rfl) T.Xc fP (bB (pv 0) (bB (pv 1) (bB (pv 2) bG)))))
   (bI (dh (gB jT (hr.mono (by decide)) (by rfl) fP (bB (pv 3) bG)))
   (bL (uM (pv 0) (cR (bB (dI (bB (pv 3) (bB (iM (by rfl) T.LR) bG))) bG)) rfl)))),?_⟩
  unfold jo jl
  walk_at "rd"
  refine ⟨dx,D.Sure,ho,(by simp [Fam]),hn,hw,⟨x,y,hf⟩,fun l hl=>⟨hm,hv,(by decide),fun t ht=>⟨(by decide),fun r hq=>?_⟩⟩⟩
  have ol:o ≠ l:=bD bC hl
  have ot:o ≠ t:=bD bC ht
  have lt:l ≠ t:=bD ((bF ol.symm).trans bC) ht
  have tr:t ≠ r:=bD bC hq
  have or_:o ≠ r:=bD ((bF ot).trans bC) hq
  refine ⟨D.Sure,dx,_,(bF or_).trans ((bF ot).trans bC),T.L_,T.vO,(by show 3 < 1000; decide),?_⟩
  rw [bF ol.symm] at hl
  rw [bF ot.symm,bF lt.symm] at ht
  rw [bF tr.symm,bF or_.symm] at hq
  refine q t r _ ?_ (fun b u hb hu=>?_) ?_ ?_ bC
  .cases z:H r with
   | none=>rfl
   | some o' =>
    have bl:r ≠ l:=bD z hl
    rw [bF bl,z] at hq
    cases hq
  .have bl:b ≠ l:=bD hu hl
   have bt:b ≠ t:=bD hu ht
   have br:b ≠ r:=by
    intro e; subst e; rw [bF bl,hu] at hq; cases hq
   rw [bF hb,bF br,bF bt,bF hb,bF bl]; exact hu
  .rw [bF ot.symm,bF tr]; exact bC
  .rw [bF or_.symm]; exact bC
theorem Bd.sm {i:Int} (h:i.natAbs < 18446744073709551616):Bd i:=aU h (aL (by decide:18446744073709551616 <= 2 ^ 64) (Nat.pow_le_pow_right (by decide) (by decide)))
noncomputable def fK:Sp:=fun vs H Q _=>∃ (c:Int) (n:Nat),vs = [.int c,.int n]/\n <= 100/\∀ (l:Addr) (xs:List Int) H',Same H H'->H l = none->H' l = some (.lst (xs.map V.int))->xs.length = n->(∀ x ∈ xs,0 <= x/\x < 2000000000)->Q (.ref l) H'
noncomputable def jS (c:Int) (n:Nat) (p:Addr) (H:Hp) (k:Nat) (σ:L2.St) (H':Hp):Prop:=∃ (xs:List Int) (m d:Int) (v:Option V),σ = [some (.int c),some (.int n),some (.ref p),some (.int m),some (.int d),v]/\(0 <= m/\m < 1999999973)/\0 <= d/\xs.length = k/\(∀ x ∈ xs,0 <= x/\x < 2000000000)/\Same H H'/\H' p = some (.lst (xs.map V.int))
theorem Ti (F:Fun K jm jm Cm f fd) (T:Txt K mg D):cu P w K mg base CX0 1 f fd je fK:=by
 refine F.ok jY (fun vs H Q E h=>?_) (fun cdv A outer s H vs Q E hr h=>?_)
 .obtain ⟨c,n,rfl,_⟩:=h
  rfl
 .obtain ⟨c,n,rfl,hn,q⟩:=h
  refine ⟨_,(bI (bT (i:=2) jY.nd rfl (Or.inl rfl) (cR bG))
   (bI (bT (i:=3) jY.nd rfl (Or.inl rfl) (bO cZ (bO VF (bO dZ (bO cZ (pv 0) bH) bH) bH) bH))
   (bI (bT (i:=4) jY.nd rfl (Or.inl rfl) bH)
   (bI (dF (PW.pt (pw_or (cW Gz (pv 0) bH (cL _)) (pw_or1 (cW aaQ (pv 0) (bO abk bH bH) (cL _)))))
    (bL (bT (i:=4) jY.nd rfl (Or.inl rfl) (bU tG (by rfl) T.Np boot_abs (bB (pv 0) bG))))
    cH)
   (bI (gC PassesOwn.never rfl (gH (by rfl) T.kY (bB (pv 1) bG).mono) (bW (i:=5) jY.nd rfl (Or.inl rfl))
    (bI (bT (i:=3) jY.nd rfl (Or.inl rfl) (bO cZ (bO dZ (bO dZ (bO fL (pv 3) (bO dZ (bO cZ (pv 3) bH) bH)) (bO fL bH (pv 5))) bH) bH))
    (bI (dh (sX (pv 2) (bB (bQ bN (cR (bB (pv 3) (bB (bO cZ (pv 4) bH) bG))) (qu Uk (by rfl) T.aaT boot_int (bB (jf Qt (pv 4) bH (cL _)) bG)) (fun _ _=>rfl)) bG)))
    (bL (bT (i:=4) jY.nd rfl (Or.inl rfl) (bO iI (pv 4) bH))))))
   (bL (bY (pv 2)))))))),?_⟩
  refine Gs fun R0 hR0=>?_
  walk_at "rd"
  refine ⟨bh _,fun p hp=>⟨.inr (by constructor <;> decide),?_⟩⟩
  have m0:0 <= (c % 1999999973 + 31) * 765432101 % 1999999973/\(c % 1999999973 + 31) * 765432101 % 1999999973 < 1999999973:=⟨Int.emod_nonneg _ (by decide),Int.emod_lt_of_pos _ (by decide)⟩
  generalize (c % 1999999973 + 31) * 765432101 % 1999999973 = m at m0 ⊢
  have a0:0 <= (if c < 0 then -c else c):=by split <;> omega
  subst hR0
  refine cB fun R hR=>?_
  have loop:∀ d0:Int,0 <= d0->R { nx:=fun _ H'=>Q .non H',rt:=Q } [some (.int c),some (.int n),some (.ref p),some (.int m),some (.int d0),none] (upd H p (.lst [])):=by
   intro d0 a0
   subst hR
   have go:∀ d:Int,0 <= d->jS c n p H 0 [some (.int c),some (.int n),some (.ref p),some (.int m),some (.int d),none] (upd H p (.lst [])):=fun d hd=>⟨[],m,d,none,rfl,m0,hd,rfl,(by simp),Same.upd hp,bC⟩
   have fin:∀ (σ':L2.St) (H':Hp),jS c n p H n σ' H'->∃ v,σ'[2]? = some (some v)/\Q v H':=by
    rintro σ' H' ⟨xs,m,d,v,rfl,_,_,h1,h2,h3,h4⟩
    exact ⟨_,rfl,q p xs H' h3 hp h4 h1 h2⟩
   refine qt ?_
   walk_at "rd"
   refine ⟨n,rfl,Nat.lt_of_le_of_lt hn (by decide),jS c n p H,go _ a0,?_,fin⟩
   rintro k σ' H' hk ⟨xs,m,d,v,rfl,hm,hd,h1,h2,h3,h4⟩
   walk_at "rd"
   have b1:Bd m:=Bd.sm (by omega)
   have b2:Bd (m % 65521 + 40487):=Bd.sm (by omega)
   have b3:Bd (k:Int):=Bd.sm (by omega)
   have nx:0 <= (m * (m % 65521 + 40487) + 7 * k + 5) % 1999999973/\(m * (m % 65521 + 40487) + 7 * k + 5) % 1999999973 < 1999999973:=⟨Int.emod_nonneg _ (by decide),Int.emod_lt_of_pos _ (by decide)⟩
   generalize (m * (m % 65521 + 40487) + 7 * (k:Int) + 5) % 1999999973 = z at nx ⊢
   refine ⟨b1,b2,Bd.sm (by decide),b3,⟨_,h4⟩,(by decide),fun r hq=>.inr ?_⟩
   have pr:p ≠ r:=bD h4 hq
   have dd:0 <= d.fdiv 1000000:=by rw [Int.fdiv_eq_ediv_of_nonneg _ (by decide)]; omega
   have fin:∀ x:Int,0 <= x/\x < 2000000000->jS c n p H (k + 1) [some (.int c),some (.int n),some (.ref p),some (.int z),some (.int (d.fdiv 1000000)),some (.int k)] (upd (upd H' r (.lst [.int z,.int (d % 1000000)])) p (.lst (xs.map V.int ++ [.int x]))):=by
    intro x hx
    refine ⟨xs ++ [x],z,_,_,rfl,nx,dd,by simp [h1],?_,?_,?_⟩
    .intro y hy
     rcases List.mem_append.mp hy with hy | hy
     .exact h2 y hy
     .rw [List.mem_singleton.mp hy]; exact hx
    .intro b o hb
     have bp:b ≠ p:=bD hb hp
     have br:b ≠ r:=bD (h3 b o hb) hq
     rw [bF bp,bF br]; exact h3 b o hb
    .rw [bw]; exact bC
   by_cases h0:0 < d
   .rw [if_pos (decide_eq_true h0)]
    exact ⟨_,gO,_,(bF pr).trans h4,by rw [ak,h1]; exact aU hk (aL hn (by decide)),Bd.sm (by decide),fin _ (by omega)⟩
   .rw [if_neg (by simp; omega)]
    exact ⟨_,eU,_,(bF pr).trans h4,by rw [ak,h1]; exact aU hk (aL hn (by decide)),Bd.sm (by decide),fin _ (by omega)⟩
  clear hR
  walk_at "rd"
  refine U8 (fun _=>loop _ a0) fun _=>⟨agq (by decide) (by decide),U8 (fun _=>loop _ a0) fun _=>loop 0 (by decide)⟩
noncomputable def abP (H:Hp) (D:Adr) (s:Addr) (n:Str) (p l:Addr):Prop:=∃ C dx,Fam D C/\H s = some (.ins C dx [("name",.str n),("pay",.ref p),("leads",.ref l)])
noncomputable def nF (D:Adr):Sp:=fun vs H Q _=>∃ (s:Addr) (n:Str) (p l:Addr) (xs:List V),vs = [.ref s]/\abP H D s n p l/\H l = some (.lst xs)/\xs.length <= 100/\∀ r,H r = none->Q (.ref r) (upd H r (.lst xs))
theorem Iv (F:Fun K yR yq uh f fd) (T:Txt K mg D):cu P w K mg base CX0 1 f fd kE (nF D):=by
 refine F.ok HJ (fun vs H Q E h=>?_) (fun cdv A outer s H vs Q E hr h=>?_)
 .obtain ⟨s,n,p,l,xs,rfl,_⟩:=h
  rfl
 .obtain ⟨o,n,p,l,xs,rfl,⟨C,dx,hC,ho⟩,hl,hz,q⟩:=h
  refine ⟨_,(bL (bY (qu rE (by rfl) T.zj boot_list (bB (sE (pv 0) rfl) bG)))),?_⟩
  walk_at "rd"
  exact ⟨C,dx,_,ho,T.cl C hC,T.Cj C hC,_,rfl,l,rfl,xs,hl,q⟩
structure RN (H:Hp) (xs:List V) (ws:List (Str × Addr)):Prop where
 len:xs.length = ws.length
 at_:∀ (k:Nat) (g:Str × Addr),ws[k]? = some g->∃ t,xs[k]? = some (.ref t)/\H t = some (.tup [.str g.1,.ref g.2])
theorem RN.same {H H':Hp} {xs:List V} {ws:List (Str × Addr)} (h:RN H xs ws) (S:Same H H'):RN H' xs ws:=⟨h.len,fun k g e=>let ⟨t,a,b⟩:=h.at_ k g e; ⟨t,a,S _ _ b⟩⟩
noncomputable def cell (ns:List Int) (k:Int):Int:=ns.getD k.toNat 0
noncomputable def vD (K:Frag) (a:Addr) (ns:List Int):Sp:=fun vs H Q _=>∃ (k:Int),vs = [.ref a,.int k]/\SqL K H a (ns.map V.int)/\ns.length <= 63/\0 <= k/\Q (.int (cell ns k)) H
theorem ZF (F:Fun K uV uV Pr f fd) (a:Addr) (ns:List Int):cu P w K mg base CX0 1 f fd u_ (vD K a ns):=by
 refine cu.clean (sp:=fun vs H Q _=>∃ (k:Int),vs = [.ref a,.int k]/\SqL K H a (ns.map V.int)/\ns.length <= 63/\0 <= k/\∀ H',Same H H'->Q (.int (cell ns k)) H')
  (F.ok Yz (fun vs H Q E h=>?_) (fun cdv A outer s H vs Q E hr h=>?_)) fun vs H Q E ⟨k,h1,h2,h3,h4,h5⟩=>⟨k,h1,h2,h3,h4,fun H' S=>⟨S,h5⟩⟩
 .obtain ⟨k,rfl,_⟩:=h
  rfl
 .obtain ⟨k,rfl,hs,hl,hk,q⟩:=h
  refine ⟨_,(bL (bY (bQ bN (bO rD (gZ mO (pv 0) (fj (pv 1)) (fj (bO dZ (pv 1) bH))) (cR (bB bH bG))) bH (fun _ _=>rfl)))),?_⟩
  walk_at "rd"
  refine ⟨_,hs,fun p hp=>⟨GF,fun p1 hp1=>?_⟩⟩
  have n1:p ≠ p1:=bD bC hp1
  refine ⟨_,(bF n1).trans bC,?_,fun p2 hp2=>⟨_,?_,q _ ?_⟩⟩
  .refine ab5 ?_
   have:=zX (ns.map V.int) (some k) (some (k + 1))
   rw [ak] at this
   omega
  .have:=Zv ns k.toNat
   rw [Int.toNat_of_nonneg hk] at this
   exact this
  .exact ((Same.upd hp).trans (Same.upd hp1)).trans (Same.upd hp2)
structure Fq (f:Int × Int):Prop where
 pos:0 < f.2
 gcd:Int.gcd f.1 f.2 = 1
 sa:f.1.natAbs <= 10 ^ 40
 sb:f.2.natAbs <= 10 ^ 40
theorem Fq.ba {f:Int × Int} (h:Fq f):Bd f.1:=Nat.lt_of_le_of_lt h.sa (by decide +kernel)
theorem Fq.bb {f:Int × Int} (h:Fq f):Bd f.2:=Nat.lt_of_le_of_lt h.sb (by decide +kernel)
noncomputable def Wg (fs:List (Int × Int)):List Nat:=fs.map fun f=>f.2.natAbs
noncomputable def lvB (fs:List (Int × Int)):Nat:=Lv.Ub (Wg fs)
noncomputable def lvT (fs:List (Int × Int)):List Int:=fs.map fun f=>f.1 * ((lvB fs:Nat) / f.2)
theorem yh {B:Nat} : ∀ (bs:List Nat) (a:Nat),0 < a->(∀ b ∈ bs,0 < b/\b <= B)->bs.foldl Nat.lcm a <= a * B ^ bs.length
  | [],a,_,_=>by simp
  | b :: bs,a,ha,hb=>by
    have h1:=hb b aO
    have h2:=yh bs (Nat.lcm a b) (Nat.lcm_pos ha h1.1) fun c hc=>hb c (aH _ hc)
    rw [List.foldl_cons,List.length_cons,Nat.pow_succ]
    refine aL h2 ?_
    have h3:Nat.lcm a b <= a * B:=aL (Nat.le_of_dvd (Nat.mul_pos ha h1.1) (Nat.lcm_dvd_mul a b)) (Nat.mul_le_mul_left a h1.2)
    calc Nat.lcm a b * B ^ bs.length <= a * B * B ^ bs.length:=Nat.mul_le_mul_right _ h3
      _ = a * (B ^ bs.length * B):=by rw [Nat.mul_assoc,Nat.mul_comm B]
theorem Ws {fs:List (Int × Int)} (h:∀ f ∈ fs,Fq f):∀ b ∈ Wg fs,0 < b:=fun b hb=>by
 obtain ⟨f,hf,rfl⟩:=List.mem_map.mp hb
 have:=(h f hf).pos
 omega
theorem Ka {fs:List (Int × Int)} (h:∀ f ∈ fs,Fq f):0 < lvB fs:=Lv.W4 (Ws h)
theorem abx {fs:List (Int × Int)} (h:∀ f ∈ fs,Fq f) (hz:fs.length <= 41):lvB fs <= (10 ^ 40) ^ 41:=by
 have h1:=yh (B:=10 ^ 40) (Wg fs) 1 (by decide) fun b hb=>by
  obtain ⟨f,hf,rfl⟩:=List.mem_map.mp hb
  have:=(h f hf).pos
  exact ⟨by omega,(h f hf).sb⟩
 rw [Nat.one_mul] at h1
 refine aL h1 (Nat.pow_le_pow_right (by decide) ?_)
 unfold Wg
 rw [ak]
 exact hz
theorem P0 {fs:List (Int × Int)} (h:∀ f ∈ fs,Fq f) (hz:fs.length <= 41):Bd (lvB fs:Nat):=by
 unfold Bd
 rw [Int.natAbs_natCast]
 exact Nat.lt_of_le_of_lt (abx h hz) (by decide +kernel)
theorem Nf {fs:List (Int × Int)} (h:∀ f ∈ fs,Fq f) (k:Nat):∀ f ∈ fs.take k,Fq f:=fun f hf=>h f (List.mem_of_mem_take hf)
theorem cg {α:Type} {l:List α} {k:Nat} {x:α} (h:l[k]? = some x):l.take (k + 1) = l.take k ++ [x]:=by
 rw [List.take_succ,h]; rfl
theorem WT {fs:List (Int × Int)} {k:Nat} {f:Int × Int} (h:fs[k]? = some f):lvB (fs.take (k + 1)) = Nat.lcm (lvB (fs.take k)) f.2.natAbs:=by
 unfold lvB Lv.Ub Wg
 rw [cg h,bw,List.foldl_append]; rfl
theorem Z5 {n:Nat} {b:Int} (hb:0 < b) (hn:0 < n):Int.fdiv (n:Int) (Int.gcd (n:Int) b:Nat) * b = (Nat.lcm n b.natAbs:Nat):=by
 obtain ⟨m,rfl⟩ : ∃ m:Nat,b = m:=⟨b.toNat,by omega⟩
 have hg:0 < Nat.gcd n m:=Nat.gcd_pos_of_pos_left m hn
 rw [show Int.gcd (n:Int) (m:Int) = Nat.gcd n m from rfl,Int.natAbs_natCast,qG _ (by omega),<- Int.natCast_ediv,<- Int.natCast_mul]
 congr 1
 unfold Nat.lcm
 exact Nat.div_mul_right_comm (Nat.gcd_dvd_left n m) m
theorem Zt {fs:List (Int × Int)} {f:Int × Int} (hf:f ∈ fs) (hq:Fq f):f.2 ∣ (lvB fs:Nat):=by
 have h1:f.2.natAbs ∣ lvB fs:=Lv.WQ (List.mem_map.mpr ⟨f,hf,rfl⟩)
 have:=Int.natCast_dvd_natCast.mpr h1
 rwa [Int.natAbs_of_nonneg (Int.le_of_lt hq.pos)] at this
noncomputable def xg:Sp:=fun vs H Q _=>∃ (l:Addr) (xs:List V) (fs:List (Int × Int)),vs = [.ref l]/\H l = some (.lst xs)/\FL H xs fs/\(∀ f ∈ fs,Fq f)/\fs.length <= 41 /\
 ∀ D p,H D = none->upd H D (.lst ((lvT fs).map V.int)) p = none->Q (.ref p) (upd (upd H D (.lst ((lvT fs).map V.int))) p (.tup [.ref D,.int (lvB fs:Nat)]))
noncomputable def lJ (l:Addr) (fs:List (Int × Int)) (H1:Hp) (k:Nat) (σ:L2.St) (H:Hp):Prop:=∃ z,σ = [some (.ref l),some (.int (lvB (fs.take k):Nat)),z]/\H = H1
noncomputable def lK (fs:List (Int × Int)) (D:Addr) (H1:Hp) (k:Nat) (ys:List V) (H:Hp):Prop:=ys = ((lvT fs).take k).map V.int/\H = upd H1 D (.lst ys)
theorem W_ (F:Fun K uR uR Ao f fd) (jh:OkF P w K mg base 1 jN jH iY):cu P w K mg base CX0 2 f fd sY xg:=by
 refine F.ok yQ (fun vs H Q E h=>?_) (fun cdv A outer s H vs Q E hr h=>?_)
 .obtain ⟨l,xs,fs,rfl,_⟩:=h
  rfl
 .obtain ⟨l,xs,fs,rfl,hl,hf,hq,hz,q⟩:=h
  refine ⟨_,(bI (bT (i:=1) yQ.nd rfl (Or.inr rfl) bH)
   (bI (gC PassesOwn.never rfl (cA ((pv 0)).mono) (bW (i:=2) yQ.nd rfl (Or.inl rfl))
    (bL (bT (i:=1) yQ.nd rfl (Or.inr rfl) (bO fL (bO iI (pv 1) (bM jh (hr.mono (by decide)) (by rfl) (bB (pv 1) (bB (bQ dD (pv 2) bH (fun _ _=>rfl)) bG)))) (bQ dD (pv 2) bH (fun _ _=>rfl))))))
   (bL (bY (dI (bB (fW (bK Ao) Qf ["fractions", "bottom", "?one"] ["one"] (cA ((pv 0)).mono) (cU (i:=0)) cF (bO fL (bQ dD (pv 0) bH (fun _ _=>rfl)) (bO iI (pv 2) (bQ dD (pv 0) bH (fun _ _=>rfl))))) (bB (pv 1) bG))))))),?_⟩
  unfold iY
  walk_at "rd"
  have hx:xs.length <= 41:=by rw [hf.length]; exact hz
  refine dG ⟨_,rfl,l,xs,rfl,hl,lJ l fs H,⟨none,rfl,rfl⟩,?_,?_⟩
  .rintro k x σ' H' hk ⟨z,rfl,rfl⟩ _
   obtain ⟨p,g,rfl,hg,hp⟩:=hf.get hk
   have hm:=aB hg
   have b0:=Ka (Nf hq k)
   have b1:=P0 (Nf hq k) (by rw [bf]; omega)
   have g0:=JH (a:=((lvB (fs.take k):Nat):Int)) (b:=g.2) (Int.ne_of_gt (hq g hm).pos)
   have g1:=Oc (a:=((lvB (fs.take k):Nat):Int)) (b:=g.2) (Int.ne_of_gt (hq g hm).pos) (hq g hm).bb
   walk_at "rd"
   simp only [hp]
   walk_at "rd"
   refine ⟨by omega,g1,?_,(hq g hm).bb,hl,some (.ref p),?_,rfl⟩
   .rw [qG _ g0]
    exact b1.div g0
   .rw [Z5 (hq g hm).pos b0,<- WT hg]
  .rintro σ' H' ⟨z,rfl,rfl⟩ _
   walk_at "rd"
   have e0:fs.take xs.length = fs:=by rw [hf.length]; exact aP
   rw [e0]
   refine cC ⟨_,rfl,l,xs,rfl,hl,aL hx (by decide),fun D hD=>⟨lK fs D H',⟨rfl,rfl⟩,?_,?_⟩⟩
   .rintro k x ys Hc hk ⟨rfl,rfl⟩ _ ha
    obtain ⟨p,g,rfl,hg,hp⟩:=hf.get hk
    have hm:=aB hg
    have hpD:upd H' D (.lst (((lvT fs).take k).map V.int)) p = some (.tup [.int g.1,.int g.2]):=(bF (bD hp hD)).trans hp
    walk_at "rd"
    simp only [hpD]
    walk_at "rd"
    refine ⟨Int.ne_of_gt (hq g hm).pos,(hq g hm).bb,(hq g hm).ba,?_,ha,?_,rm⟩
    .rw [qG _ (hq g hm).pos]
     exact (P0 hq hz).div (hq g hm).pos
    .rw [qG _ (hq g hm).pos]
     have e1:(lvT fs)[k]? = some (g.1 * ((lvB fs:Nat) / g.2)):=by
      unfold lvT
      rw [aq,hg]; rfl
     rw [cg e1,bw]; rfl
   .rintro ys Hc ⟨rfl,rfl⟩ _
    have e2:(lvT fs).take xs.length = lvT fs:=by
     refine aK ?_
     unfold lvT
     rw [ak,hf.length]
     exact aF _
    rw [e2]
    exact ⟨eE,fun p hp=>q D p hD hp⟩
noncomputable def wL:Sp:=fun vs H Q _=>∃ (l:Addr) (xs:List V) (fs:List (Int × Int)),vs = [.ref l]/\H l = some (.lst xs)/\FL H xs fs/\(∀ f ∈ fs,Fq f)/\fs.length <= 41 /\
 ∀ p x y,Low (lvT fs).sum (lvB fs:Nat) x y->H p = none->Q (.ref p) (upd H p (.tup [.int x,.int y]))
theorem Wi (F:Fun K sH sH Hz f fd) (T:Txt K mg D) (Im:OkF P w K mg base 2 uR sY xg) (nQ:OkF P w K mg base 2 o_ oX mX):cu P w K mg base CX0 3 f fd uo wL:=by
 refine cu.cleanP (sp:=fun vs H Q _=>∃ (l:Addr) (xs:List V) (fs:List (Int × Int)),vs = [.ref l]/\H l = some (.lst xs)/\FL H xs fs/\(∀ f ∈ fs,Fq f)/\fs.length <= 41 /\
   ∀ p x y H',Low (lvT fs).sum (lvB fs:Nat) x y->Same H H'->H p = none->H' p = some (.tup [.int x,.int y])->Q (.ref p) H')
  (F.ok LQ (fun vs H Q E h=>?_) (fun cdv A outer s H vs Q E hr h=>?_)) fun vs H Q E ⟨l,xs,fs,h1,h2,h3,h4,h5,h6⟩=>⟨l,xs,fs,h1,h2,h3,h4,h5,fun p x y H' l S e1 e2=>⟨S,p,_,e2,e1,h6 p x y l e1⟩⟩
 .obtain ⟨l,xs,fs,rfl,_⟩:=h
  rfl
 .obtain ⟨l,xs,fs,rfl,hl,hf,hq,hz,q⟩:=h
  refine ⟨_,(bI (bT (i:=1) LQ.nd rfl (Or.inl rfl) (bM Im (hr.mono (by decide)) (by rfl) (bB (pv 0) bG)))
   (bL (bY (bM nQ (hr.mono (by decide)) (by rfl) (bB (bU (Gr rfl) (by rfl) T.aaM boot_sum (bB (bQ dD (pv 1) bH (fun _ _=>rfl)) bG)) (bB (bQ dD (pv 1) bH (fun _ _=>rfl)) bG)))))),?_⟩
  unfold xg mX
  walk_at "rd"
  refine ⟨xs,hl,fs,hf,hq,hz,fun D p hD hp=>⟨lvT fs,(bF (bD bC hp)).trans bC,?_,P0 hq hz,fun p1 x y lw hp1=>?_⟩⟩
  .have:=Ka hq
   omega
  .have S:=(Same.upd hD (o:=.lst ((lvT fs).map V.int))).trans (Same.upd hp (o:=.tup [.ref D,.int (lvB fs:Nat)]))
   exact q p1 x y _ lw (S.trans (Same.upd hp1)) (S.free hp1) bC
structure Pairs (H:Hp) (xs:List V) (ps:List (Str × Int × Int)):Prop where
 len:xs.length = ps.length
 at_:∀ (k:Nat) (g:Str × Int × Int),ps[k]? = some g->∃ t c:Addr,xs[k]? = some (.ref t)/\H t = some (.tup [.str g.1,.ref c])/\H c = some (.tup [.int g.2.1,.int g.2.2])
structure Yd (g:Str × Int × Int):Prop where
 len:g.1.length <= 1000
 wd:j6 g.1.cps.toList = true
 pos:0 < g.2.2
 gcd:Int.gcd g.2.1 g.2.2 = 1
 lo:0 <= g.2.1
 hi:g.2.1 <= g.2.2
 fq:Fq g.2
noncomputable def j9:Sp:=fun vs H Q _=>∃ (l:Addr) (xs:List V) (ps:List (Str × Int × Int)),vs = [.ref l]/\H l = some (.lst xs)/\Pairs H xs ps/\(∀ g ∈ ps,Yd g)/\ps.length <= 41/\(∀ x y,Low (lvT (ps.map (·.2))).sum (lvB (ps.map (·.2)):Nat) x y->x = 1/\y = 1)/\∀ H',Same H H'->Q .non H'
noncomputable def jP (l:Addr) (H:Hp) (_:Nat) (σ:L2.St) (H':Hp):Prop:=∃ u v,σ = [some (.ref l),u,v]/\H' = H
noncomputable def jQ (D1:Addr) (ps:List (Str × Int × Int)) (H:Hp) (k:Nat) (ys:List V) (Hc:Hp):Prop:=FL H ys ((ps.map (·.2)).take k)/\Hc = upd H D1 (.lst ys)
theorem Cp (F:Fun K iQ iQ mG f fd) (T:Txt K mg D) (jT:OkX P w K mg base 2 dM dN jl) (m6:OkX P w K mg base 3 fH fG (ou (K:=K))) (Vd:OkX P w K mg base 3 sH uo wL):cu P w K mg base (CXO P w) 4 f fd iJ j9:=by
 refine F.okX pB (fun vs H Q E h=>?_) (fun cdv A outer s H vs Q E hr h=>?_)
 .obtain ⟨l,xs,ps,rfl,_⟩:=h
  rfl
 .obtain ⟨l,xs,ps,rfl,hl,hp,hg,hz,h1,q⟩:=h
  refine ⟨_,(bI (gC PassesOwn.leaving rfl (cA ((pv 0)).mono) (fM (n:=2) rfl (b_ (bW (i:=1) pB.nd rfl (Or.inl rfl)) (b_ (bW (i:=2) pB.nd rfl (Or.inl rfl)) eZ)))
    (bI (dh (gB jT (hr.mono (by decide)) (by rfl) fP (bB (pv 1) bG)))
    (bL (dh (gB m6 (hr.mono (by decide)) (by rfl) fP (bB (pv 2) bG))))))
   (bL (dF (cW (QX (K:=K) rfl hr.units) (gB Vd (hr.mono (by decide)) (by rfl) fP (bB (fW (bK mG) pW pW ["pair"] (cA ((pv 0)).mono) (cU (i:=0)) cF (bQ dD (pv 0) bH (fun _ _=>rfl))) bG)) (iM (by rfl) T.LR) (cL _))
    (bL (ud rfl (by rfl) T.CN T.DP uJ (bB pH bG)))
    cH))),?_⟩
  unfold jl ou wL
  walk_at "rd"
  refine dG ?_
  walk_at "rd"
  refine ⟨xs,hl,jP l H,⟨none,none,rfl,rfl⟩,?_,?_⟩
  .rintro k x σ' H' hk ⟨u,v,rfl,rfl⟩ _
   have lk:k < ps.length:=by rw [<- hp.len]; exact (ao.mp hk).1
   have e:ps[k]? = some ps[k]:=aj lk
   have ok:=hg _ (aV lk)
   obtain ⟨t,c,a,b,d⟩:=hp.at_ k _ e
   rw [hk] at a
   cases a
   exact ⟨t,rfl,_,b,rfl,_,_,rfl,_,_,rfl,rfl,_,rfl,_,rfl,ok.len,ok.wd,_,rfl,c,rfl,⟨_,_,⟨.of d,ok.pos,ok.gcd⟩,ok.lo,ok.hi,ok.fq.bb⟩,hl,_,_,rfl,rfl⟩
  .rintro σ' H' ⟨u,v,rfl,rfl⟩ _
   refine cC ?_
   walk_at "rd"
   refine ⟨xs,hl,by rw [hp.len]; exact aL hz (by decide),fun D1 hD=>⟨jQ D1 ps H',⟨.nil,rfl⟩,?_,?_⟩⟩
   .rintro k x ys Hc hk ⟨hf,rfl⟩ hy _
    have lk:k < ps.length:=by rw [<- hp.len]; exact (ao.mp hk).1
    have e:ps[k]? = some ps[k]:=aj lk
    obtain ⟨t,c,a,b,d⟩:=hp.at_ k _ e
    rw [hk] at a
    cases a
    walk_at "rd"
    refine ⟨_,(bF (bD b hD)).trans b,_,gO,(bF (bD hl hD)).trans hl,?_,rm⟩
    rw [List.take_succ,aq,e]
    exact hf.append (.one d)
   .rintro ys Hc ⟨hf,rfl⟩ hy
    have hk:(ps.map (·.2)).take xs.length = ps.map (·.2):=by rw [hp.len,<- ak (f:=fun g:Str × Int × Int=>g.2),aP]
    rw [hk] at hf
    refine ⟨ys,bC,_,hf.same (Same.upd hD),?_,by rw [ak]; exact hz,fun p x y lo hn=>?_⟩
    .intro g hm
     obtain ⟨g',hm',rfl⟩:=List.mem_map.mp hm
     exact (hg g' hm').fq
    .obtain ⟨rfl,rfl⟩:=h1 x y lo
     refine ⟨_,.tup (.of bC) (cV.ints K _ [1,1]),_,.tup (T.Ce _) (cV.ints K _ [1,1]),rfl,rfl,?_⟩
     rw [if_neg (by decide)]
     exact q _ ((Same.upd hD).trans (Same.upd hn))
inductive DA (H:Hp) (S:Int):List (Key × V)->List (Str × Int)->Prop
 | nil:DA H S [] []
 | cons {n:Str} {W:Int} {c:Addr} {kvs:List (Key × V)} {acc:List (Str × Int)} (h:H c = some (.tup [.int (Ac.lw W S).1,.int (Ac.lw W S).2])) (t:DA H S kvs acc):DA H S ((.inr n,.ref c) :: kvs) ((n,W) :: acc)
theorem DA.imp {H H':Hp} {S:Int} (h:∀ c x y,H c = some (.tup [.int x,.int y])->H' c = some (.tup [.int x,.int y])):∀ {kvs:List (Key × V)} {acc:List (Str × Int)},DA H S kvs acc->DA H' S kvs acc
 | _,_,.nil=>.nil
 | _,_,.cons a t=>.cons (h _ _ _ a) (t.imp h)
theorem DA.len {H:Hp} {S:Int} : ∀ {kvs:List (Key × V)} {acc:List (Str × Int)},DA H S kvs acc->kvs.length = acc.length
 | _,_,.nil=>rfl
 | _,_,.cons _ t=>congrArg (· + 1) t.len
theorem DA.keys {H:Hp} {S:Int} : ∀ {kvs:List (Key × V)} {acc:List (Str × Int)},DA H S kvs acc->kvs.map (·.1) = (acc.map (·.1)).map Sum.inr
 | _,_,.nil=>rfl
 | _,_,.cons _ t=>by rw [List.map_cons,List.map_cons,List.map_cons,t.keys]
theorem DA.val {H:Hp} {S:Int} (r:Str):∀ {kvs:List (Key × V)} {acc:List (Str × Int)},DA H S kvs acc->(lV kvs (.inr r) = none/\Ac.look acc r = 0)\/∃ c,lV kvs (.inr r) = some (.ref c)/\H c = some (.tup [.int (Ac.lw (Ac.look acc r) S).1,.int (Ac.lw (Ac.look acc r) S).2])
 | _,_,.nil=>.inl ⟨rfl,rfl⟩
 | _,_,.cons (n:=n) (W:=W) (c:=c) (kvs:=kvs) (acc:=acc) h t=>by
  by_cases e:n = r
  .subst e
   refine .inr ⟨c,xR rfl,?_⟩
   have:Ac.look ((n,W) :: acc) n = W:=by simp [Ac.look]
   rw [this]; exact h
  .have e1:lV ((Sum.inr n,V.ref c) :: kvs) (Sum.inr r:Key) = lV kvs (.inr r):=yD fun z=>e (Sum.inr.inj z)
   have e2:Ac.look ((n,W) :: acc) r = Ac.look acc r:=by simp [Ac.look,List.find?_cons,e]
   rw [e1,e2]
   exact t.val r
theorem DA.any {H:Hp} {S:Int} (r:Str):∀ {kvs:List (Key × V)} {acc:List (Str × Int)},DA H S kvs acc->(kvs.any fun kv=>decide (kv.1 = (.inr r:Key))) = acc.any fun g=>decide (g.1 = r)
 | _,_,.nil=>rfl
 | _,_,.cons (n:=n) _ t=>by
  rw [List.any_cons,List.any_cons,t.any r]
  congr 1
  by_cases e:n = r
  .subst e; rw [decide_eq_true rfl,decide_eq_true rfl]
  .rw [decide_eq_false e,decide_eq_false fun z=>e (Sum.inr.inj z)]
theorem DA.sets {H:Hp} {S y:Int} {c:Addr} {r:Str} (hc:H c = some (.tup [.int (Ac.lw y S).1,.int (Ac.lw y S).2])):∀ {kvs:List (Key × V)} {acc:List (Str × Int)},DA H S kvs acc->DA H S (kvs.map fun kv=>if kv.1 = (.inr r:Key) then (kv.1,.ref c) else kv) (acc.map fun g=>if g.1 = r then (g.1,y) else g)
 | _,_,.nil=>.nil
 | _,_,.cons (n:=n) (W:=W) (c:=c') h t=>by
  rw [List.map_cons,List.map_cons]
  by_cases e:n = r
  .subst e
   rw [if_pos rfl,if_pos rfl]
   exact .cons hc (t.sets hc)
  .rw [if_neg e,if_neg fun z=>e (Sum.inr.inj z)]
   exact .cons h (t.sets hc)
theorem DA.snoc {H:Hp} {S y:Int} {c:Addr} {r:Str} (hc:H c = some (.tup [.int (Ac.lw y S).1,.int (Ac.lw y S).2])):∀ {kvs:List (Key × V)} {acc:List (Str × Int)},DA H S kvs acc->DA H S (kvs ++ [(.inr r,.ref c)]) (acc ++ [(r,y)])
 | _,_,.nil=>.cons hc .nil
 | _,_,.cons h t=>.cons h (t.snoc hc)
theorem DA.put {H:Hp} {S y:Int} {c:Addr} {r:Str} {kvs:List (Key × V)} {acc:List (Str × Int)} (hc:H c = some (.tup [.int (Ac.lw y S).1,.int (Ac.lw y S).2])) (h:DA H S kvs acc):DA H S (putK kvs (.inr r) (.ref c)) (Ac.put acc r y):=by
 unfold putK Ac.put
 rw [h.any r]
 split
 .exact h.sets hc
 .exact h.snoc hc
theorem DA.get {H:Hp} {S:Int} : ∀ {kvs:List (Key × V)} {acc:List (Str × Int)} {i:Nat} {k:Key} {v:V},DA H S kvs acc->kvs[i]? = some (k,v)->∃ n W c,acc[i]? = some (n,W)/\k = .inr n/\v = .ref c/\H c = some (.tup [.int (Ac.lw W S).1,.int (Ac.lw W S).2])
 | _,_,_,_,_,.nil,e=>by simp at e
 | _,_,0,_,_,.cons h _,e=>by
  rw [List.getElem?_cons_zero] at e
  cases e
  exact ⟨_,_,_,rfl,rfl,rfl,h⟩
 | _,_,i + 1,_,_,.cons _ t,e=>t.get (by rw [List.getElem?_cons_succ] at e; exact e)
theorem Qp:∀ {kvs:List (Key × V)} {i:Nat} {k:Key} {v:V},(kvs.map (·.1)).Nodup->kvs[i]? = some (k,v)->lV kvs k = some v
 | [],_,_,_,_,e=>by simp at e
 | p :: kvs,0,k,v,_,e=>by
  rw [List.getElem?_cons_zero] at e
  cases e
  exact xR rfl
 | p :: kvs,i + 1,k,v,hn,e=>by
  rw [List.getElem?_cons_succ] at e
  rw [List.map_cons,List.nodup_cons] at hn
  rw [yD fun z=>hn.1 (by rw [z]; exact List.mem_map.mpr ⟨(k,v),aB e,rfl⟩)]
  exact Qp hn.2 e
inductive WF (K:Frag) (H:Hp):List V->List (Str × Int × Int)->List (Str × Addr)->Prop
 | nil:WF K H [] [] []
 | cons {t c:Addr} {n:Str} {x y:Int} {xs:List V} {gs:List (Str × Int × Int)} {ws:List (Str × Addr)} (h1:H t = some (.tup [.str n,.ref c])) (h2:SqT K H c [.int x,.int y]) (r:WF K H xs gs ws):WF K H (.ref t :: xs) ((n,x,y) :: gs) ((n,c) :: ws)
theorem WF.imp {H H':Hp} (h:∀ t ys,H t = some (.tup ys)->H' t = some (.tup ys)) (h':∀ c xs,SqT K H c xs->SqT K H' c xs):∀ {xs:List V} {gs:List (Str × Int × Int)} {ws:List (Str × Addr)},WF K H xs gs ws->WF K H' xs gs ws
 | _,_,_,.nil=>.nil
 | _,_,_,.cons a b r=>.cons (h _ _ a) (h' _ _ b) (r.imp h h')
theorem WF.same {H H':Hp} (S:Same H H') {xs:List V} {gs:List (Str × Int × Int)} {ws:List (Str × Addr)} (h:WF K H xs gs ws):WF K H' xs gs ws:=h.imp (fun t ys e=>S _ _ e) fun c xs e=>S.tup e
theorem WF.updL {H:Hp} {l:Addr} {ys zs:List V} (hl:H l = some (.lst ys)) {xs:List V} {gs:List (Str × Int × Int)} {ws:List (Str × Addr)} (h:WF K H xs gs ws):WF K (upd H l (.lst zs)) xs gs ws :=
 h.imp (fun t us e=>(bF (eY e hl (by intro z; cases z))).trans e) fun c xs e=>e.updO hl (by intro ys z; cases z) (by intro ob ys z; cases z)
theorem WF.snoc {H:Hp} {t c:Addr} {n:Str} {x y:Int} (h1:H t = some (.tup [.str n,.ref c])) (h2:SqT K H c [.int x,.int y]):∀ {xs:List V} {gs:List (Str × Int × Int)} {ws:List (Str × Addr)},WF K H xs gs ws->WF K H (xs ++ [.ref t]) (gs ++ [(n,x,y)]) (ws ++ [(n,c)])
 | _,_,_,.nil=>.cons h1 h2 .nil
 | _,_,_,.cons a b r=>.cons a b (r.snoc h1 h2)
theorem WF.ways {H:Hp} : ∀ {xs:List V} {gs:List (Str × Int × Int)} {ws:List (Str × Addr)},WF K H xs gs ws->RN H xs ws
 | _,_,_,.nil=>⟨rfl,fun k g e=>by simp at e⟩
 | _,_,_,.cons a b r=>⟨congrArg (· + 1) r.ways.len,fun k g e=>by
  cases k with
  | zero =>
   rw [List.getElem?_cons_zero] at e
   cases e
   exact ⟨_,rfl,a⟩
  | succ k =>
   rw [List.getElem?_cons_succ] at e ⊢
   exact r.ways.at_ k g e⟩
noncomputable def RB (S:Int) (acc:List (Str × Int)):List (Str × Int × Int):=(acc.filter fun g=>decide (0 < g.2)).map fun g=>(g.1,Ac.lw g.2 S)
theorem Eb {S:Int} {acc:List (Str × Int)} {i:Nat} {n:Str} {W:Int} (h:acc[i]? = some (n,W)):RB S (acc.take (i + 1)) = RB S (acc.take i) ++ if 0 < W then [(n,Ac.lw W S)] else []:=by
 unfold RB
 rw [List.take_succ,h,List.filter_append,bw]
 congr 1
 show List.map _ (List.filter _ [(n,W)]) = _
 by_cases e:0 < W
 .rw [if_pos e,List.filter_cons,if_pos (decide_eq_true e)]; rfl
 .rw [if_neg e,List.filter_cons,if_neg (by simpa using e)]; rfl
structure PW (H:Hp) (xs:List V) (gs:List (Str × Int)) (S:Int):Prop where
 len:xs.length = gs.length
 at_:∀ (k:Nat) (g:Str × Int),gs[k]? = some g->∃ t c:Addr,xs[k]? = some (.ref t)/\H t = some (.tup [.str g.1,.ref c])/\H c = some (.tup [.int (Ac.lw g.2 S).1,.int (Ac.lw g.2 S).2])
theorem PW.imp {H H':Hp} (h':∀ t ys,H t = some (.tup ys)->H' t = some (.tup ys)) {xs:List V} {gs:List (Str × Int)} {S:Int} (h:PW H xs gs S):PW H' xs gs S:=⟨h.len,fun k g e=>let ⟨t,c,a,b,d⟩:=h.at_ k g e; ⟨t,c,a,h' _ _ b,h' _ _ d⟩⟩
theorem PW.same {H H':Hp} {xs:List V} {gs:List (Str × Int)} {S:Int} (h:PW H xs gs S) (T:Same H H'):PW H' xs gs S:=h.imp fun _ _ e=>T _ _ e
theorem PW.pairs {H:Hp} {xs:List V} {gs:List (Str × Int)} {S:Int} (h:PW H xs gs S):Pairs H xs (gs.map fun g=>(g.1,Ac.lw g.2 S)):=⟨by rw [h.len,ak],fun k g e=>by
 rw [aq] at e
 cases e0:gs[k]? with
 | none=>rw [e0] at e; cases e
 | some g0 =>
  rw [e0] at e
  cases e
  exact h.at_ k g0 e0⟩
structure Wt (gs:List (Str × Int)) (S:Int):Prop where
 pos:0 < S
 le:S <= 10 ^ 20
 len:gs.length <= 8
 wd:∀ g ∈ gs,g.1.length <= 1000/\j6 g.1.cps.toList = true
 lo:∀ g ∈ gs,0 <= g.2
 sum:(gs.map (·.2)).sum = S
theorem z_ {i:Int} (h:i.natAbs <= 10 ^ 20):Bd i:=Nat.lt_of_le_of_lt h (by decide +kernel)
theorem QT {gs:List (Str × Int)} : (∀ g ∈ gs,0 <= g.2)->0 <= (gs.map (·.2)).sum/\∀ g ∈ gs,g.2 <= (gs.map (·.2)).sum:=by
 induction gs with
 | nil=>intro _; exact ⟨by simp,by simp⟩
 | cons a gs ih =>
  intro h
  obtain ⟨h1,h2⟩:=ih fun g hg=>h g (aH _ hg)
  have h0:=h a aO
  rw [List.map_cons,List.sum_cons]
  refine ⟨by omega,fun g hg=>?_⟩
  rcases List.mem_cons.mp hg with rfl | hg
  .omega
  .have:=h2 g hg
   omega
theorem Wt.hi {gs:List (Str × Int)} {S:Int} (h:Wt gs S) {g:Str × Int} (hg:g ∈ gs):g.2 <= S:=by
 rw [<- h.sum]; exact (QT h.lo).2 g hg
theorem Wt.pair {gs:List (Str × Int)} {S:Int} (h:Wt gs S) {g:Str × Int} (hg:g ∈ gs):Yd (g.1,Ac.lw g.2 S):=by
 have p:=h.pos
 have l:=h.le
 have lo:=h.lo g hg
 have hi:=h.hi hg
 have p2:=Ac.jx (t:=g.2) p
 have g1:=Ac.zp (t:=g.2) p
 exact ⟨(h.wd g hg).1,(h.wd g hg).2,p2,g1,Ac.aaX p lo,Ac.aaJ p hi,p2,g1,aL (Ac.Gy _ _) (aL (by omega:g.2.natAbs <= 10 ^ 20) (by decide)),aL (Ac.Gh _ _) (aL (by omega:S.natAbs <= 10 ^ 20) (by decide))⟩
theorem YG (a b c d:Int):PyData.eqv (.tuple (List.map PyData.int [a,b])) (.tuple (List.map PyData.int [c,d])) = (decide (a = c) && decide (b = d)):=by
 simp [PyData.eqv,PyData.eqvAll]
 rfl
noncomputable def vo (K:Frag):Sp:=fun vs H Q _=>∃ (l:Addr) (xs:List V) (gs:List (Str × Int)) (S:Int),vs = [.ref l]/\H l = some (.lst xs)/\PW H xs gs S/\Wt gs S /\
 ∀ H' r ys ws,Same H H'->H r = none->H' r = some (.lst ys)->WF K H' ys (Ac.ways gs S) ws->Q (.ref r) H'
noncomputable def jJ (l d:Addr) (gs:List (Str × Int)) (S:Int) (H:Hp) (k:Nat) (σ:L2.St) (H':Hp):Prop:=∃ u v kvs,σ = [some (.ref l),some (.ref d),u,v]/\Same H H'/\H' d = some (.dK kvs)/\DA H' S kvs (Ac.dH (gs.take k))
noncomputable def jC (K:Frag) (acc:List (Str × Int)) (S:Int) (d D1:Addr) (u:HO) (H:Hp) (i:Nat) (ys:List V) (Hc:Hp):Prop:=Same (upd H d u) Hc/\Hc D1 = some (.lst ys)/\∃ ws,WF K Hc ys (RB S (acc.take i)) ws
theorem Cv (F:Fun K iW iW mK f fd) (T:Txt K mg D) (YF:OkX P w K mg base 3 xW xH (sU (K:=K) (· + ·))):cu P w K mg base (CXO P w) 4 f fd jc (vo K):=by
 refine F.okX kj (fun vs H Q E h=>?_) (fun cdv A outer s H vs Q E hr h=>?_)
 .obtain ⟨l,xs,gs,S,rfl,_⟩:=h
  rfl
 .obtain ⟨l,xs,gs,S,rfl,hl,hp,W,q⟩:=h
  have p0:=W.pos
  have sle:=W.le
  refine ⟨_,(bI (bT (i:=1) kj.nd rfl (Or.inr rfl) xG)
   (bI (gC PassesOwn.leaving rfl (cA ((pv 0)).mono) (fM (n:=2) rfl (b_ (bW (i:=2) kj.nd rfl (Or.inl rfl)) (b_ (bW (i:=3) kj.nd rfl (Or.inl rfl)) eZ)))
    (bL (Aj (rT hr) (pv 1) (pv 2) (gB YF (hr.mono (by decide)) (by rfl) fP (bB (Mq (rT hr) (pv 1) (pv 2) (iM (by rfl) T.xV) (by first | exact ⟨rfl,rfl,rfl,rfl,rfl⟩ | constructor <;> rfl)) (bB (pv 3) bG))) rfl)))
   (bL (bY (fW (bK mK) vP ["pairs", "chances", "?room", "chance"] ["room"] (Zg ((pv 1)).mono) (cU (i:=0)) (wZ (cW (QX (K:=K) rfl hr.units) (G5 (rT hr) (pv 2) (pv 0) (fun _ _=>rfl)) (iM (by rfl) T.xV) (cL _))) (dI (bB (pv 0) (bB (G5 (rT hr) (pv 2) (pv 0) (fun _ _=>rfl)) bG)))))))),?_⟩
  unfold sU
  walk_at "rd"
  refine fun d hd=>dG ?_
  walk_at "rd"
  have ld:l ≠ d:=bD hl hd
  refine ⟨xs,(bF ld).trans hl,jJ l d gs S H,⟨none,none,[],rfl,Same.upd hd,bC,.nil⟩,?_,?_⟩
  .rintro k x σ' H' hk ⟨u,v,kvs,rfl,S1,h1,da⟩ _
   have lk:k < gs.length:=by rw [<- hp.len]; exact (ao.mp hk).1
   have e:gs[k]? = some gs[k]:=aj lk
   have hm:=aV lk
   obtain ⟨t,c,a,b,cc⟩:=hp.at_ k _ e
   rw [hk] at a
   cases a
   generalize gs[k] = g at *
   obtain ⟨n,x⟩:=g
   have wx:=W.hi hm
   have wl:=W.lo _ hm
   have al:=Ac.qF (gs.take k) fun g hg=>W.lo g (List.mem_of_mem_take hg)
   have st:((gs.take k).map (·.2)).sum <= S:=by
    have e1:gs.map (·.2) = (gs.take k).map (·.2) ++ (gs.drop k).map (·.2):=by rw [<- bw,List.take_append_drop]
    have e2:=(QT (gs:=gs.drop k) fun g hg=>W.lo g (List.mem_of_mem_drop hg)).1
    have e3:=W.sum
    rw [e1,List.sum_append] at e3
    omega
   have look:0 <= Ac.look (Ac.dH (gs.take k)) n/\(Ac.look (Ac.dH (gs.take k)) n).natAbs <= 10 ^ 20:=by
    rcases Ac.Ed (Ac.dH (gs.take k)) n with e0 | ⟨g,hg,e0⟩
    .rw [e0]; exact ⟨Int.le_refl _,by decide⟩
    .rw [e0]
     have:=al.2.2 g hg
     omega
   obtain ⟨cq,hq,sq⟩ : ∃ cq,(lV kvs (.inr n)).getD (.ref D.NOUGHT) = .ref cq/\SqT K H' cq [.int (Ac.lw (Ac.look (Ac.dH (gs.take k)) n) S).1,.int (Ac.lw (Ac.look (Ac.dH (gs.take k)) n) S).2]:=by
    rcases da.val n with ⟨e1,e2⟩ | ⟨c',e1,e2⟩
    .rw [e1,e2,((Ac.lZ p0).mpr rfl).1,((Ac.lZ p0).mpr rfl).2]
     exact ⟨_,rfl,T.vm H'⟩
    .rw [e1]
     exact ⟨c',rfl,.of e2⟩
   walk_at "rd"
   have q1:=Ac.jx (t:=Ac.look (Ac.dH (gs.take k)) n) p0
   have q2:=Ac.jx (t:=x) p0
   have d1:=aL (Ac.Gy (Ac.look (Ac.dH (gs.take k)) n) S) look.2
   have d2:=aL (Ac.Gh (Ac.look (Ac.dH (gs.take k)) n) S) (by omega:S.natAbs <= 10 ^ 20)
   have d3:=aL (Ac.Gy x S) (by have:x <= S:=wx; have:0 <= x:=wl; omega:x.natAbs <= 10 ^ 20)
   have d4:=aL (Ac.Gh x S) (by omega:S.natAbs <= 10 ^ 20)
   have d5:Bd ((Ac.lw (Ac.look (Ac.dH (gs.take k)) n) S).2 * (Ac.lw x S).2):=by
    refine Nat.lt_of_le_of_lt (m:=10 ^ 20 * 10 ^ 20) ?_ (by decide +kernel)
    rw [Int.natAbs_mul]
    exact Nat.mul_le_mul d2 d4
   have hlen:kvs.length < sizeLine:=by
    have h9:9 < sizeLine:=by decide
    have:=al.2.1
    have:=W.len
    rw [da.len]
    rw [bf] at *
    omega
   refine ⟨_,S1 _ _ b,rfl,_,_,rfl,_,_,rfl,rfl,.inl ⟨kvs,.inl h1⟩,_,qC.k (k:=.inr n) h1,cq,hq,c,rfl,_,_,sq,_,_,.of (S1 _ _ cc),z_ d1,z_ d2,z_ d3,z_ d4,q1,q2,d5,fun r z o lo hr=>?_⟩
   have rd:d ≠ r:=bD h1 hr
   refine ⟨_,M7.k (k:=.inr n) ((bF rd).trans h1) hlen,(bF ld).trans ((bF (bD ‹H' l = some (HO.lst xs)› hr)).trans ‹H' l = some (HO.lst xs)›),_,_,_,rfl,?_,bC,?_⟩
   .intro b' o' e'
    rw [bF (bD e' hd),bF (bD (S1 _ _ e') hr)]
    exact S1 _ _ e'
   .obtain ⟨ez,eo⟩:=Ac.WK p0 lo.pos lo.gcd lo.eq
    rw [cg e,Ac.vh]
    refine DA.put ?_ (da.imp fun c' x' y' e'=>?_)
    .rw [bF rd.symm,<- ez,<- eo]; exact bC
    .rw [bF (eY e' h1 (by intro z; cases z)),bF (bD e' hr)]; exact e'
  .rintro σ' H' ⟨u,v,kvs,rfl,S1,h1,da⟩ _
   refine Lb ?_
   have e8:gs.take xs.length = gs:=by rw [hp.len,aP]
   rw [e8] at da
   have al:=Ac.qF gs W.lo
   have nd:(kvs.map (·.1)).Nodup:=by
    rw [da.keys]
    exact al.1.map (f:=Sum.inr) (S:=(· ≠ ·)) fun a b h z=>h (Sum.inr.inj z)
   have hlen:kvs.length <= sizeLine:=by
    have h9:9 < sizeLine:=by decide
    have:=al.2.1
    have:=W.len
    rw [da.len]
    omega
   walk_at "rd"
   refine ⟨kvs,h1,hlen,fun o D1 hD1=>⟨jC K (Ac.dH gs) S d D1 (.frz o (.dK kvs)) H',⟨Same.upd hD1,bC,[],.nil⟩,?_,?_⟩⟩
   .rintro i k y ys Hc hi ⟨S2,hD,ws,wf⟩ hy hfr pre hpre
    obtain ⟨u0,rfl⟩:=List.length_eq_one_iff.mp hpre
    obtain ⟨nm,X,c,ea,rfl,rfl,hc⟩:=da.get hi
    have vv:=Qp nd hi
    have hcd:c ≠ d:=eY hc h1 (by intro z; cases z)
    have hcc:Hc c = some (.tup [.int (Ac.lw X S).1,.int (Ac.lw X S).2]):=S2 _ _ ((bF hcd).trans hc)
    walk_at "rd"
    have dg:qC Hc d (kV (.inr nm)) (some (.ref c)):=.inl ⟨kvs,.inr nm,.inr ⟨o,hfr⟩,rfl,vv.symm⟩
    refine ⟨[some (.str nm)],rfl,rfl,_,dg,_,.tup (.of hcc) (cV.ints K _ [_,_]),_,.tup (T.vm _) (cV.ints K _ [0,1]),rfl,rfl,?_⟩
    have X0:=(al.2.2 _ (aB ea)).1
    by_cases hX:X = 0
    .subst hX
     obtain ⟨e1,e2⟩:=(Ac.lZ (b:=S) p0).mpr rfl
     rw [show PyData.eqv (.tuple (List.map PyData.int [(Ac.lw 0 S).1,(Ac.lw 0 S).2])) (.tuple (List.map PyData.int [0,1])) = true by rw [e1,e2]; rfl]
     refine ⟨hfr,S2,hD,ws,?_⟩
     rw [Eb ea,if_neg (by decide),List.append_nil]
     exact wf
    .have e0:PyData.eqv (.tuple (List.map PyData.int [(Ac.lw X S).1,(Ac.lw X S).2])) (.tuple (List.map PyData.int [0,1])) = false:=by
      rw [YG]
      simp only [Bool.and_eq_false_iff,decide_eq_false_iff_not]
      by_cases h1:(Ac.lw X S).1 = 0
      .exact .inr fun h2=>hX ((Ac.lZ p0).mp ⟨h1,h2⟩)
      .exact .inl h1
     rw [e0]
     refine ⟨_,dg,eE,fun p hp=>?_⟩
     have pD:D1 ≠ p:=bD hD hp
     have pd:d ≠ p:=bD hfr hp
     refine ⟨(bF pD).trans hD,(bF pd).trans hfr,?_,bC,ws ++ [(nm,c)],?_⟩
     .intro b' o' e'
      rw [bF (bD e' hD1),bF (bD (S2 _ _ e') hp)]
      exact S2 _ _ e'
     .rw [Eb ea,if_pos (by omega)]
      exact WF.updL ((bF pD).trans hD) ((wf.same (Same.upd hp)).snoc bC (.of ((bF (bD hcc hp)).trans hcc)))
   .rintro ys Hc ⟨S2,hD,ws,wf⟩ _
    rw [da.len,aP] at wf
    refine q _ D1 ys ws ?_ ?_ hD wf
    .intro b o' e'
     exact S2 _ _ ((bF (bD e' hd)).trans (S1 _ _ e'))
    .cases z:H D1 with
     | none=>rfl
     | some o' =>
      have:=(bF (H:=H') (o:=.frz o (.dK kvs)) (bD z hd)).trans (S1 _ _ z)
      rw [this] at hD1
      cases hD1
theorem X3 {gs:List (Str × Int)} {S:Int} (W:Wt gs S):∀ (hs:List (Str × Int)) (L:Int),(∀ g ∈ hs,g ∈ gs/\(Ac.lw g.2 S).2 ∣ L)->((hs.map fun g=>(Ac.lw g.2 S).1 * (L / (Ac.lw g.2 S).2)).sum) * S = (hs.map (·.2)).sum * L
 | [],L,_=>by simp
 | g :: hs,L,h=>by
  have ih:=X3 W hs L fun g hg=>h g (aH _ hg)
  obtain ⟨hm,q,hq⟩:=h g aO
  have p:=Ac.jx (t:=g.2) W.pos
  have e:=Ac.yt (t:=g.2) W.pos
  rw [List.map_cons,List.sum_cons,List.map_cons,List.sum_cons,Int.add_mul,Int.add_mul,ih]
  congr 1
  generalize (Ac.lw g.2 S).1 = a at *
  generalize (Ac.lw g.2 S).2 = b at *
  rw [hq,Int.mul_ediv_cancel_left _ (Int.ne_of_gt p),Int.mul_right_comm,e,Int.mul_assoc]
theorem Vk {gs:List (Str × Int)} {S:Int} (W:Wt gs S):∀ x y,Low (lvT ((gs.map fun g=>(g.1,Ac.lw g.2 S)).map (·.2))).sum (lvB ((gs.map fun g=>(g.1,Ac.lw g.2 S)).map (·.2)):Nat) x y->x = 1/\y = 1:=by
 intro x y lo
 have hq:∀ f ∈ ((gs.map fun g=>(g.1,Ac.lw g.2 S)).map (·.2)),Fq f:=by
  intro f hf
  obtain ⟨u,hu,rfl⟩:=List.mem_map.mp hf
  obtain ⟨g,hg,rfl⟩:=List.mem_map.mp hu
  exact (W.pair hg).fq
 have e0:(gs.map fun g=>(g.1,Ac.lw g.2 S)).map (·.2) = gs.map fun g=>Ac.lw g.2 S:=by rw [List.map_map]; rfl
 have bp:=Ka hq
 have top:=X3 W gs (lvB ((gs.map fun g=>(g.1,Ac.lw g.2 S)).map (·.2)):Nat) fun g hg=>⟨hg,Zt (f:=Ac.lw g.2 S) (List.mem_map.mpr ⟨(g.1,Ac.lw g.2 S),List.mem_map.mpr ⟨g,hg,rfl⟩,rfl⟩) (W.pair hg).fq⟩
 have e1:(lvT ((gs.map fun g=>(g.1,Ac.lw g.2 S)).map (·.2))).sum = (gs.map fun g=>(Ac.lw g.2 S).1 * ((lvB ((gs.map fun g=>(g.1,Ac.lw g.2 S)).map (·.2)):Nat) / (Ac.lw g.2 S).2)).sum:=by
  unfold lvT
  rw [List.map_map,List.map_map]; rfl
 rw [<- e1,W.sum,Int.mul_comm S] at top
 have e2:=Int.eq_of_mul_eq_mul_right (Int.ne_of_gt W.pos) top
 rw [e2] at lo
 have h:=lo.eq
 rw [Int.mul_comm _ y] at h
 have e3:x = y:=Int.eq_of_mul_eq_mul_right (by omega) h
 subst e3
 have g:=lo.gcd
 have p:=lo.pos
 rw [Int.gcd_self] at g
 omega
noncomputable def Keep (s:Addr) (H H':Hp):Prop:=∀ b o,b ≠ s->H b = some o->H' b = some o
theorem Keep.tup {s C dx:Addr} {fs:List (Str × V)} {H H':Hp} (h:Keep s H H') (hs:H s = some (.ins C dx fs)):∀ t ys,H t = some (.tup ys)->H' t = some (.tup ys):=fun t ys e=>h t _ (eY e hs (by intro z; cases z)) e
theorem Keep.lst {s C dx:Addr} {fs:List (Str × V)} {H H':Hp} (h:Keep s H H') (hs:H s = some (.ins C dx fs)) {t:Addr} {ys:List V} (e:H t = some (.lst ys)):H' t = some (.lst ys):=h t _ (eY e hs (by intro z; cases z)) e
theorem Keep.free {s r:Addr} {o:HO} {H H':Hp} (h:Keep s H H') (hr:H' r = none) (hs:H' s = some o):H r = none:=by
 cases z:H r with
 | none=>rfl
 | some u =>
  have:=h r u (bD hs hr).symm z
  rw [hr] at this
  cases this
theorem WF.updI {H:Hp} {o C dx:Addr} {fs:List (Str × V)} {u:HO} (ho:H o = some (.ins C dx fs)) {xs:List V} {gs:List (Str × Int × Int)} {ws:List (Str × Addr)} (h:WF K H xs gs ws):WF K (upd H o u) xs gs ws :=
 h.imp (fun t us e=>(bF (eY e ho (by intro z; cases z))).trans e) fun c xs e=>e.updO ho (by intro ys z; cases z) (by intro ob ys z; cases z)
theorem PW.snoc {H:Hp} {xs:List V} {gs:List (Str × Int)} {S:Int} (h:PW H xs gs S) {t c:Addr} {g:Str × Int} (h1:H t = some (.tup [.str g.1,.ref c])) (h2:H c = some (.tup [.int (Ac.lw g.2 S).1,.int (Ac.lw g.2 S).2])):PW H (xs ++ [.ref t]) (gs ++ [g]) S:=by
 refine ⟨by rw [aA,aA,h.len]; rfl,fun k u e=>?_⟩
 by_cases hk:k < gs.length
 .rw [aD hk] at e
  rw [aD (by rw [h.len]; exact hk)]
  exact h.at_ k u e
 .rw [aC (by omega)] at e
  rw [aC (by rw [h.len]; omega),h.len]
  have e0:k - gs.length = 0:=by
   cases e1:k - gs.length with
   | zero=>rfl
   | succ m=>rw [e1] at e; simp at e
  rw [e0,List.getElem?_cons_zero] at e
  cases e
  rw [e0]
  exact ⟨t,c,rfl,h1,h2⟩
structure P_ (K:Frag) (H:Hp) (s C:Addr) (n:Str) (p:Addr) (ds:List (Str × Int × Int)) (ld:Addr) (ys:List V) (ws:List (Str × Addr)):Prop where
 at_:∃ dx,H s = some (.ins C dx [("name",.str n),("pay",.ref p),("leads",.ref ld)])
 hl:H ld = some (.lst ys)
 wf:WF K H ys ds ws
noncomputable def fU (K:Frag) (D:Adr):Sp:=fun vs H Q _=>∃ (s dx C:Addr) (n:Str) (p l:Addr) (x y:Int) (xs:List V) (gs:List (Str × Int)) (S:Int),vs = [.ref s,.str n,.ref p,.ref l]/\H s = some (.ins C dx [])/\Fam D C/\n.length <= 1000/\j6 n.cps.toList = true/\Fk K H p x y /\
 H l = some (.lst xs)/\PW H xs gs S/\Wt gs S/\∀ H' ld ys ws,H ld = none->Keep s H H'->P_ K H' s C n p (Ac.ways gs S) ld ys ws->Q .non H'
theorem Eo (F:Fun K vK vM qP f fd) (T:Txt K mg D) (jg:OkI P w K mg base (CXO P w) 4 D.Door_init jk (jo (K:=K) D)) (Dd:OkX P w K mg base 4 iQ iJ j9)
  (C_:OkX P w K mg base 4 iW jc (vo K)):cu P w K mg base (CXO P w) 5 f fd fV (fU K D):=by
 refine F.okX Fw (fun vs H Q E h=>?_) (fun cdv A outer s H vs Q E hr h=>?_)
 .obtain ⟨s,dx,C,n,p,l,x,y,xs,gs,S,rfl,_⟩:=h
  rfl
 .obtain ⟨o,dx,C,n,p,l,x,y,xs,gs,S,rfl,ho,hC,hn,hw,hf,hl,hp,W,q⟩:=h
  refine ⟨_,(bI (dh (yP T.w5 jg (hr.mono (by decide)) (by rfl) T.Xc fP (bB (pv 0) (bB (pv 1) (bB (pv 2) bG)))))
   (bI (dh (gB Dd (hr.mono (by decide)) (by rfl) fP (bB (pv 3) bG)))
   (bL (uM (pv 0) (gB C_ (hr.mono (by decide)) (by rfl) fP (bB (pv 3) bG)) rfl)))),?_⟩
  unfold jo j9 vo
  walk_at "rd"
  refine ⟨dx,C,ho,hC,hn,hw,⟨x,y,hf⟩,fun l0 h0=>?_⟩
  have ol:o ≠ l0:=bD bC h0
  rw [bF ol.symm] at h0
  have k1:Keep o H (upd (upd H l0 (.lst [])) o (.ins C dx [("name",.str n),("pay",.ref p),("leads",.ref l0)])):=fun b u hb e=>(bF hb).trans ((bF (bD e h0)).trans e)
  have o1:upd (upd H l0 (.lst [])) o (.ins C dx [("name",.str n),("pay",.ref p),("leads",.ref l0)]) o = some (.ins C dx [("name",.str n),("pay",.ref p),("leads",.ref l0)]):=bC
  generalize upd (upd H l0 (.lst [])) o (.ins C dx [("name",.str n),("pay",.ref p),("leads",.ref l0)]) = H1 at k1 o1 ⊢
  refine ⟨xs,k1.lst ho hl,_,(hp.imp (k1.tup ho)).pairs,?_,?_,Vk W,fun H2 S2=>?_⟩
  .intro g hg
   obtain ⟨u,hu,rfl⟩:=List.mem_map.mp hg
   exact W.pair hu
  .rw [ak]
   exact aL W.len (by decide)
  .refine ⟨xs,S2 _ _ (k1.lst ho hl),gs,S,(hp.imp (k1.tup ho)).same S2,W,fun H3 r ys ws S3 hr3 hr hwf=>?_⟩
   have o3:=S3 _ _ (S2 _ _ o1)
   refine ⟨C,dx,_,o3,T.cl C hC,T.Cj C hC,(by show 3 < 1000; decide),?_⟩
   refine q _ r ys ws (k1.free (S2.free hr3) o1) (fun b u hb e=>(bF hb).trans (S3 _ _ (S2 _ _ (k1 b u hb e)))) ⟨⟨dx,bC⟩,(bF (eY hr o3 (by intro z; cases z))).trans hr,hwf.updI o3⟩
noncomputable def rN (K:Frag) (D:Adr):Sp:=fun vs H Q _=>∃ (s dx:Addr) (n r1 r2:Str) (p c:Addr) (x y w S:Int),vs = [.ref s,.str n,.ref p,.ref c,.str r1,.str r2]/\H s = some (.ins D.Toss dx [])/\n.length <= 1000/\j6 n.cps.toList = true/\Fk K H p x y /\
 H c = some (.tup [.int (Ac.lw w S).1,.int (Ac.lw w S).2])/\Wt [(r1,w),(r2,S - w)] S/\∀ H' ld ys ws,H ld = none->Keep s H H'->P_ K H' s D.Toss n p (Ac.ways [(r1,w),(r2,S - w)] S) ld ys ws->Q .non H'
theorem Ik (F:Fun K yc wJ uE f fd) (T:Txt K mg D) (h_:OkX P w K mg base 3 iw iy (g_ (K:=K))) (m6:OkX P w K mg base 3 fH fG (ou (K:=K))) (WM:OkX P w K mg base 3 uz uF (sU (K:=K) (· - ·)))
  (dU:OkI P w K mg base (CXO P w) 5 D.Mixed_init fV (fU K D)):cu P w K mg base (CXO P w) 6 f fd lM (rN K D):=by
 refine F.okX Ih (fun vs H Q E h=>?_) (fun cdv A outer s H vs Q E hr h=>?_)
 .obtain ⟨s,dx,n,r1,r2,p,c,x,y,w,S,rfl,_⟩:=h
  rfl
 .obtain ⟨o,dx,n,r1,r2,p,c,x,y,w,S,rfl,ho,hn,hw,hf,hc,W,q⟩:=h
  refine ⟨_,(bI (dh (gB h_ (hr.mono (by decide)) (by rfl) fP (bB (pv 1) (bB (pv 2) bG))))
   (bI (dh (gB m6 (hr.mono (by decide)) (by rfl) fP (bB (pv 3) bG)))
   (bL (dh (yP T.vL dU (hr.mono (by decide)) (by rfl) T.JW fP (bB (pv 0) (bB (pv 1) (bB (pv 2) (bB (cR (bB (dI (bB (pv 4) (bB (pv 3) bG))) (bB (dI (bB (pv 5) (bB (gB WM (hr.mono (by decide)) (by rfl) fP (bB (iM (by rfl) T.LR) (bB (pv 3) bG))) bG))) bG))) bG))))))))),?_⟩
  unfold g_ ou sU fU
  walk_at "rd"
  have p0:=W.pos
  have sle:=W.le
  have w0:0 <= w:=W.lo (r1,w) (by simp)
  have w1:w <= S:=W.hi (g:=(r1,w)) (by simp)
  have q2:=Ac.jx (t:=w) p0
  have b3:=z_ (aL (Ac.Gy w S) (by omega:w.natAbs <= 10 ^ 20))
  have b4:=z_ (aL (Ac.Gh w S) (by omega:S.natAbs <= 10 ^ 20))
  have b1:Bd 1:=Bd.sm (by decide)
  refine ⟨hn,hw,⟨x,y,hf⟩,⟨_,_,⟨.of hc,q2,Ac.zp p0⟩,Ac.aaX p0 w0,Ac.aaJ p0 w1,b4⟩,eE,fun p1 h1=>⟨1,1,T.Ce _,_,_,.of (Same.upd h1 _ _ hc),b1,b1,b3,b4,by decide,q2,by rw [Int.one_mul]; exact b4,fun r z o1 lo hr=>⟨eE,fun p2 h2=>⟨eE,fun p3 h3=>?_⟩⟩⟩⟩
  have T2:Same (upd H p1 (.tup [.str r1,.ref c])) (upd (upd H p1 (.tup [.str r1,.ref c])) r (.tup [.int z,.int o1])):=Same.upd hr
  have T3:Same (upd (upd H p1 (.tup [.str r1,.ref c])) r (.tup [.int z,.int o1])) (upd (upd (upd H p1 (.tup [.str r1,.ref c])) r (.tup [.int z,.int o1])) p2 (.tup [.str r2,.ref r])):=Same.upd h2
  have T4:Same (upd (upd (upd H p1 (.tup [.str r1,.ref c])) r (.tup [.int z,.int o1])) p2 (.tup [.str r2,.ref r])) (upd (upd (upd (upd H p1 (.tup [.str r1,.ref c])) r (.tup [.int z,.int o1])) p2 (.tup [.str r2,.ref r])) p3 (.lst [.ref p1,.ref p2])):=Same.upd h3
  have TS:Same H (upd (upd (upd (upd H p1 (.tup [.str r1,.ref c])) r (.tup [.int z,.int o1])) p2 (.tup [.str r2,.ref r])) p3 (.lst [.ref p1,.ref p2])):=(Same.upd h1).trans (T2.trans (T3.trans T4))
  have e1:=T4 _ _ (T3 _ _ (T2 p1 _ bC))
  have e2:=T4 _ _ (T3 r _ bC)
  have e3:=T4 p2 _ bC
  obtain ⟨ez,eo⟩:=Ac.Ie p0 lo.pos lo.gcd lo.eq
  generalize upd (upd (upd (upd H p1 (.tup [.str r1,.ref c])) r (.tup [.int z,.int o1])) p2 (.tup [.str r2,.ref r])) p3 (.lst [.ref p1,.ref p2]) = Hn at TS e1 e2 e3 ⊢
  refine ⟨dx,D.Toss,TS _ _ ho,(by simp [Fam]),hn,hw,⟨x,y,hf.same TS⟩,[(r1,w),(r2,S - w)],S,⟨rfl,fun k g e=>?_⟩,W,fun H' ld ys ws f k d=>q H' ld ys ws (TS.free f) (fun b u hb e=>k b u hb (TS b u e)) d⟩
  match k,e with
  | 0,e =>
   cases e
   exact ⟨p1,c,rfl,e1,TS _ _ hc⟩
  | 1,e =>
   cases e
   exact ⟨p2,r,rfl,e3,by rw [<- ez,<- eo]; exact e2⟩
  | k + 2,e=>cases e
noncomputable def jE (D1:Addr) (rs:List Str) (H:Hp) (k:Nat) (ys:List V) (Hc:Hp):Prop:=PW Hc ys ((rs.map fun r=>(r,(1:Int))).take k) rs.length/\Same H Hc/\Hc D1 = some (.lst ys)
noncomputable def qU (K:Frag) (D:Adr):Sp:=fun vs H Q _=>∃ (s dx:Addr) (n:Str) (p l:Addr) (x y:Int) (rs:List Str),vs = [.ref s,.str n,.ref p,.ref l]/\H s = some (.ins D.Even dx [])/\n.length <= 1000/\j6 n.cps.toList = true/\Fk K H p x y /\
 H l = some (.lst (rs.map V.str))/\Wt (rs.map fun r=>(r,(1:Int))) rs.length/\∀ H' ld ys ws,H ld = none->Keep s H H'->P_ K H' s D.Even n p (Ac.ways (rs.map fun r=>(r,(1:Int))) rs.length) ld ys ws->Q .non H'
theorem JR (F:Fun K xu xM pR f fd) (T:Txt K mg D) (dU:OkI P w K mg base (CXO P w) 5 D.Mixed_init fV (fU K D)):cu P w K mg base (CXO P w) 6 f fd k_ (qU K D):=by
 refine F.okX Kd (fun vs H Q E h=>?_) (fun cdv A outer s H vs Q E hr h=>?_)
 .obtain ⟨s,dx,n,p,l,x,y,rs,rfl,_⟩:=h
  rfl
 .obtain ⟨o,dx,n,p,l,x,y,rs,rfl,ho,hn,hw,hf,hl,W,q⟩:=h
  refine ⟨_,(bL (dh (yP T.vL dU (hr.mono (by decide)) (by rfl) T.JW fP (bB (pv 0) (bB (pv 1) (bB (pv 2) (bB (fW (bK pR) sy sy ["room"] (cA ((pv 3)).mono) (cU (i:=0)) cF (dI (bB (pv 0) (bB (dI (bB bH (bB (bU cT (by rfl) T.iC PySem.boot_len (bB (pv 4) bG)) bG))) bG)))) bG))))))),?_⟩
  unfold fU
  walk_at "rd"
  refine cC ?_
  walk_at "rd"
  have l8:=W.len
  rw [ak] at l8
  have p0:=W.pos
  have z9:9 < sizeLine:=by decide
  refine ⟨_,hl,by rw [ak]; omega,fun D1 hD=>⟨jE D1 rs H,⟨⟨rfl,fun k g e=>by simp at e⟩,Same.upd hD,bC⟩,?_,?_⟩⟩
  .rintro k x1 ys Hc hk ⟨pw,S1,hD1⟩ hy hlc
   rw [aq] at hk
   cases er:rs[k]? with
   | none=>rw [er] at hk; cases hk
   | some r =>
    rw [er] at hk
    cases hk
    refine ⟨_,hlc,eE,fun p1 hp1=>⟨eE,fun p2 hp2=>?_⟩⟩
    have T1:Same Hc (upd (upd Hc p1 (.tup [.int 1,.int (rs.map V.str).length])) p2 (.tup [.str r,.ref p1])):=(Same.upd hp1).trans (Same.upd hp2)
    have e1:upd (upd Hc p1 (.tup [.int 1,.int (rs.map V.str).length])) p2 (.tup [.str r,.ref p1]) p1 = some (.tup [.int 1,.int (rs.map V.str).length]):=Same.upd hp2 p1 _ bC
    have e2:upd (upd Hc p1 (.tup [.int 1,.int (rs.map V.str).length])) p2 (.tup [.str r,.ref p1]) p2 = some (.tup [.str r,.ref p1]):=bC
    generalize upd (upd Hc p1 (.tup [.int 1,.int (rs.map V.str).length])) p2 (.tup [.str r,.ref p1]) = Hn at T1 e1 e2 ⊢
    have nD:∀ t us,Hn t = some (.tup us)->upd Hn D1 (.lst (ys ++ [.ref p2])) t = some (.tup us):=fun t us e=>(bF (eY e (T1 _ _ hD1) (by intro z; cases z))).trans e
    refine ⟨T1 _ _ hD1,T1 _ _ hlc,?_,?_,bC⟩
    .rw [List.take_succ,aq,er]
     refine ((pw.same T1).imp nD).snoc (c:=p1) (nD _ _ e2) ?_
     obtain ⟨h1,h2⟩:=Ac.ab3 p0
     show _ = some (HO.tup [.int (Ac.lw 1 (rs.length:Int)).1,.int (Ac.lw 1 (rs.length:Int)).2])
     rw [h1,h2,nD _ _ e1,ak]
    .intro b u e
     rw [bF (bD e hD)]
     exact T1 _ _ (S1 _ _ e)
  .rintro ys Hc ⟨pw,S1,hD1⟩ hy
   have ek:(rs.map fun r=>(r,(1:Int))).take (rs.map V.str).length = rs.map fun r=>(r,(1:Int)):=aK (by rw [ak,ak]; exact aF _)
   rw [ek] at pw
   exact ⟨dx,D.Even,S1 _ _ ho,(by simp [Fam]),hn,hw,⟨x,y,hf.same S1⟩,ys,hD1,_,_,pw,W,fun H' ld ys ws f k d=>q H' ld ys ws (S1.free f) (fun b u hb e=>k b u hb (S1 b u e)) d⟩
noncomputable def Lt (x:Str):Prop:=x.cps.toList.all wA = true
theorem Ri (x y:Str):(x ++ y).cps.toList = x.cps.toList ++ y.cps.toList:=by
 show (x.cps ++ y.cps).toList = _
 rw [Array.toList_append]
theorem ZS (x y:Str):(x ++ y).length = x.length + y.length:=by
 show (x.cps ++ y.cps).size = _
 rw [Array.size_append]; rfl
theorem Ww {α:Type} {xs:List α} {i:Int} (h0:0 <= i) (h1:i < xs.length):∃ v,atI xs i = some v/\v ∈ xs:=by
 obtain ⟨n,rfl⟩:=Int.eq_ofNat_of_zero_le h0
 have hn:n < xs.length:=by omega
 exact ⟨xs[n],bV (aj hn),aV hn⟩
theorem Lt.one {i:Int} (h0:0 <= i) (h1:i < 26):∃ c,atI (Str.ofString "abcdefghijklmnopqrstuvwxyz").cps.toList i = some c/\Lt ⟨#[c]⟩:=by
 have l1:(Str.ofString "abcdefghijklmnopqrstuvwxyz").cps.toList.length = 26:=by decide +kernel
 obtain ⟨v,e,e2⟩:=Ww (xs:=(Str.ofString "abcdefghijklmnopqrstuvwxyz").cps.toList) h0 (by rw [l1]; exact h1)
 refine ⟨v,e,?_⟩
 unfold Lt wA
 simp only [List.all_cons,List.all_nil,Bool.and_true,decide_eq_true_eq]
 exact e2
structure Wd (x:Str):Prop where
 lt:Lt x
 lo:1 <= x.length
 hi:x.length <= 8
theorem Wd.word {x:Str} (h:Wd x):j6 x.cps.toList = true:=by
 have l:=h.lt
 have lo:=h.lo
 have hi:=h.hi
 have hl:x.cps.toList.length = x.length:=Array.length_toList
 unfold Lt at l
 unfold j6
 rw [l,hl,decide_eq_true lo,decide_eq_true hi]; rfl
theorem Lt.fold:∀ (ys:List Str) (acc:Array Nat),acc.toList.all wA = true->(∀ y ∈ ys,Lt y)->(ys.foldl (fun acc p=>acc ++ (Str.ofString "").cps ++ p.cps) acc).toList.all wA = true
 | [],acc,h,_=>h
 | y :: ys,acc,h,hy=>by
  rw [List.foldl_cons]
  refine Lt.fold ys _ ?_ fun z hz=>hy z (aH _ hz)
  have e0:(Str.ofString "").cps = #[]:=by decide +kernel
  have hy0:y.cps.toList.all wA = true:=hy y aO
  rw [e0,Array.append_empty,Array.toList_append,List.all_append,h,hy0]; rfl
theorem Lt.glued {ys:List Str} (h:∀ y ∈ ys,Lt y):Lt (Txt.join (Str.ofString "") ys):=by
 show ((ys.drop 1).foldl (fun acc p=>acc ++ (Str.ofString "").cps ++ p.cps) (ys.headD Str.empty).cps).toList.all wA = true
 refine Lt.fold _ _ ?_ fun y hy=>h y (List.mem_of_mem_drop hy)
 cases ys with
 | nil=>rfl
 | cons y ys=>exact h y aO
noncomputable def vR (ns:List Str) (o:Nat):List (Key × V):=(ns.zipIdx o).map fun g=>(.inr g.1,.int (g.2:Nat))
noncomputable abbrev zU (ns:List Str):List (Key × V):=vR ns 0
theorem BZ {ns:List Str} {o:Nat} : (vR ns o).length = ns.length:=by unfold vR; rw [ak,List.length_zipIdx]
theorem zT {n:Str} {ns:List Str} {o:Nat} : vR (n :: ns) o = (.inr n,.int (o:Nat)) :: vR ns (o + 1):=by unfold vR; rw [List.zipIdx_cons]; rfl
theorem QH {n:Str} : ∀ {ns:List Str} {o:Nat},n ∉ ns->lV (vR ns o) (.inr n) = none
 | [],_,_=>rfl
 | a :: ns,o,h=>by
  rw [zT]
  have ne:¬ (Sum.inr a:Key) = .inr n:=fun z=>h (by injection z with z; rw [z]; exact aO)
  unfold lV
  rw [List.find?_cons,decide_eq_false ne]
  exact QH fun m=>h (aH _ m)
theorem Mw {n:Str} : ∀ {ns:List Str} {o k:Nat},ns.Nodup->ns[k]? = some n->lV (vR ns o) (.inr n) = some (.int ((o + k:Nat):Int))
 | [],_,_,_,h=>by simp at h
 | a :: ns,o,0,_,h=>by
  rw [List.getElem?_cons_zero] at h
  cases h
  rw [zT]
  unfold lV
  rw [List.find?_cons,decide_eq_true rfl]; rfl
 | a :: ns,o,k + 1,nd,h=>by
  rw [List.getElem?_cons_succ] at h
  obtain ⟨na,nd'⟩:=List.nodup_cons.mp nd
  have ne:¬ (Sum.inr a:Key) = .inr n:=fun z=>na (by injection z with z; rw [z]; exact aB h)
  have ih:=Mw (o:=o + 1) nd' h
  rw [zT]
  unfold lV at ih ⊢
  rw [List.find?_cons,decide_eq_false ne]
  rw [show o + (k + 1) = o + 1 + k by omega]
  exact ih
theorem U4 {n:Str} {ns:List Str} (h:n ∉ ns):putK (zU ns) (.inr n) (.int (ns.length:Nat)) = zU (ns ++ [n]):=by
 have a:((zU ns).any fun kv=>decide (kv.1 = .inr n)) = false:=by
  rw [List.any_eq_false]
  intro kv hk
  unfold zU vR at hk
  obtain ⟨g,hg,rfl⟩:=List.mem_map.mp hk
  have:g.1 ∈ ns:=by
   have:=List.mem_map_of_mem (f:=Prod.fst) hg
   rwa [List.zipIdx_map_fst] at this  
  intro z
  have z:(Sum.inr g.1:Key) = .inr n:=of_decide_eq_true z
  injection z with z
  exact h (z ▸ this)
 unfold putK
 rw [a,if_neg (by decide)]
 unfold zU vR
 rw [List.zipIdx_append,bw,Nat.zero_add]; rfl
structure Q0 (H:Hp) (xs:List V) (ns:List Str):Prop where
 len:xs.length = ns.length
 at_:∀ (k:Nat) (n:Str),ns[k]? = some n->∃ t v,xs[k]? = some (.ref t)/\H t = some (.tup [.str n,v])
theorem DG {α:Type} {l:List α} {k:Nat} {a:α} (nd:l.Nodup) (e:l[k]? = some a):a ∉ l.take k:=by
 obtain ⟨lk,rfl⟩:=ao.mp e
 rw [<- List.take_append_drop k l,List.nodup_append] at nd
 intro z
 refine nd.2.2 _ z _ ?_ rfl
 rw [List.drop_eq_getElem_cons lk]
 exact aO
noncomputable def lu:Sp:=fun vs H Q _=>∃ (p:Addr) (x y:Int),vs = [.ref p]/\Fk K H p x y/\0 <= x/\x < y/\Bd x/\Bd y/\Q .non H
theorem DW (F:Fun K iT iT qd f fd) (T:Txt K mg D) (gW:OkF P w K mg base 2 i_ iZ (gP (K:=K))) (pO:OkF P w K mg base 1 qL qx (qz (K:=K))):cu P w K mg base CX0 3 f fd iR (lu (K:=K)):=by
 refine F.ok DQ (fun vs H Q E h=>?_) (fun cdv A outer s H vs Q E hr h=>?_)
 .obtain ⟨p,x,y,rfl,_⟩:=h
  rfl
 .obtain ⟨p,x,y,rfl,fk,x0,xy,bx,b_y,q⟩:=h
  refine ⟨_,(bL (dF (PW.pt (pw_or (d9 (cQ (bM gW (hr.mono (by decide)) (by rfl) (bB (pv 0) bG)) (fun _=>rfl))) (pw_or (cQ (bM pO (hr.mono (by decide)) (by rfl) (bB (pv 0) (bB (iM (by rfl) T.xV) bG))) (fun _=>rfl)) (pw_or1 (d9 (cQ (bM pO (hr.mono (by decide)) (by rfl) (bB (pv 0) (bB (iM (by rfl) T.LR) bG))) (fun _=>rfl)))))))
    (bL o8)
    cH)),?_⟩
  unfold gP qz
  walk_at "rd"
  have hy:=fk.pos
  have b0:Bd 0:=Nat.two_pow_pos 8000
  have b1:Bd 1:=Nat.one_lt_two_pow (by decide)
  refine ⟨⟨x,y,fk⟩,x,y,fk.at_,0,1,T.vm H,bx,b_y,b0,b1,?_⟩
  rw [if_neg (by simp; omega)]
  refine ⟨x,y,fk.at_,1,1,T.Ce H,bx,b_y,b1,b1,?_⟩
  rw [if_neg (by simp; omega)]
  exact q
noncomputable def mL:Sp:=fun vs H Q _=>∃ (l:Addr) (xs:List V) (rs:List Str),vs = [.ref l]/\H l = some (.lst xs)/\Q0 H xs rs/\rs.Nodup/\(∀ g ∈ rs,Wd g)/\rs.length <= 20 /\
 ∀ d H',Same H H'->H d = none->H' d = some (.dK (zU rs))->Q (.ref d) H'
noncomputable def nJ (l d:Addr) (rs:List Str) (H:Hp) (k:Nat) (σ:L2.St) (H':Hp):Prop:=∃ u v,σ = [some (.ref l),some (.ref d),u,v]/\Same H H'/\H' d = some (.dK (zU (rs.take k)))
theorem Fv (F:Fun K jA jA qO f fd) (T:Txt K mg D) (jr:OkF P w K mg base 1 jR jM ux):cu P w K mg base CX0 2 f fd jz mL:=by
 refine F.ok mH (fun vs H Q E h=>?_) (fun cdv A outer s H vs Q E hr h=>?_)
 .obtain ⟨l,xs,rs,rfl,_⟩:=h
  rfl
 .obtain ⟨l,xs,rs,rfl,hl,ra,nd,wd,n20,q⟩:=h
  refine ⟨_,(bI (bT (i:=1) mH.nd rfl (Or.inl rfl) xG)
   (bI (gC PassesOwn.never rfl (cA ((pv 0)).mono) (bW (i:=2) mH.nd rfl (Or.inl rfl))
    (bI (bT (i:=3) mH.nd rfl (Or.inl rfl) (bQ dD (pv 2) bH (fun _ _=>rfl)))
    (bI (dF (PW.pt (pw_or (d9 (cQ (bM jr (hr.mono (by decide)) (by rfl) (bB (pv 3) bG)) (fun _=>rfl))) (pw_or1 (Pn (XH (rT hr) (pv 3) (pv 1))))))
     (bL o8)
     cH)
    (bL (Aj (rT hr) (pv 1) (pv 3) (bU GP (by rfl) T.iC PySem.boot_len (bB (pv 1) bG)) rfl)))))
   (bL (bY (pv 1))))),?_⟩
  unfold ux
  walk_at "rd"
  refine fun d hd=>dG ?_
  walk_at "rd"
  have ld:l ≠ d:=bD hl hd
  refine ⟨xs,(bF ld).trans hl,nJ l d rs H,⟨none,none,rfl,Same.upd hd,bC⟩,?_,?_⟩
  .rintro k x σ' H' hk ⟨u,v,rfl,S1,h1⟩ hl'
   have lk:k < rs.length:=by rw [<- ra.len]; exact (ao.mp hk).1
   have e:rs[k]? = some rs[k]:=aj lk
   have hm:=aV lk
   obtain ⟨t,dv,a,b⟩:=ra.at_ k _ e
   rw [hk] at a
   cases a
   have hw:=wd _ hm
   have no:rs[k] ∉ rs.take k:=by exact DG nd e
   generalize rs[k] = n at *
   walk_at "rd"
   have l9:=hw.hi
   refine ⟨_,S1 _ _ b,_,eU,.inl ⟨n,rfl,aL l9 (by decide),?_⟩⟩
   rw [if_neg (by rw [hw.word]; decide)]
   refine ⟨_,qC.k (k:=.inr n) h1,?_⟩
   rw [QH no,if_neg (by decide)]
   have hlen:(zU (rs.take k)).length < sizeLine:=by
    have h9:21 < sizeLine:=by decide
    rw [BZ,bf]
    omega
   refine ⟨d,_,rfl,h1,_,M7.k (k:=.inr n) h1 hlen,(bF ld).trans hl',_,_,rfl,fun b' o' e'=>(bF (bD e' hd)).trans (S1 _ _ e'),?_⟩
   rw [bC,BZ,U4 no,cg e]
  .rintro σ' H' ⟨u,v,rfl,S1,h1⟩ _
   rw [ra.len,aP] at h1
   walk_at "rd"
   exact q d H' S1 hd h1
structure NWs (ns:List Str) (H:Hp) (zs:List V) (ws:List (Str × Addr)):Prop where
 len:zs.length = ws.length
 at_:∀ (k:Nat) (g:Str × Addr),ws[k]? = some g->∃ t i,zs[k]? = some (.ref t)/\ns[i]? = some g.1/\H t = some (.tup [.int (i:Nat),.ref g.2])
theorem NWs.imp {ns:List Str} {H H':Hp} {zs:List V} {ws:List (Str × Addr)} (h':∀ t ys,H t = some (.tup ys)->H' t = some (.tup ys)) (h:NWs ns H zs ws):NWs ns H' zs ws:=⟨h.len,fun k g e=>let ⟨t,i,a,b,c⟩:=h.at_ k g e; ⟨t,i,a,b,h' _ _ c⟩⟩
theorem NWs.snoc {ns:List Str} {H:Hp} {zs:List V} {ws:List (Str × Addr)} {t:Addr} {i:Nat} {g:Str × Addr} (h:NWs ns H zs ws) (hi:ns[i]? = some g.1) (ht:H t = some (.tup [.int (i:Nat),.ref g.2])):NWs ns H (zs ++ [.ref t]) (ws ++ [g]):=by
 refine ⟨by rw [aA,aA,h.len]; rfl,fun k g' e=>?_⟩
 by_cases hk:k < ws.length
 .rw [aD hk] at e
  obtain ⟨t',i',a,b,c⟩:=h.at_ k g' e
  exact ⟨t',i',by rw [aD (by rw [h.len]; exact hk)]; exact a,b,c⟩
 .rw [aC (by omega)] at e
  have e0:k - ws.length = 0:=by
   have:=(ao.mp e).1
   simp at this; omega
  rw [e0] at e
  cases e
  refine ⟨t,i,?_,hi,ht⟩
  rw [aC (by rw [h.len]; omega),h.len,e0]; rfl
noncomputable def ji (D:Adr):Sp:=fun vs H Q _=>∃ (s n C dx p l:Addr) (nm:Str) (xs:List V) (ws:List (Str × Addr)) (ns:List Str),vs = [.ref s,.ref n]/\eN D C/\H s = some (.ins C dx [("name",.str nm),("pay",.ref p),("leads",.ref l)])/\H l = some (.lst xs)/\RN H xs ws/\ws.length <= 100/\H n = some (.dK (zU ns))/\ns.Nodup/\(∀ g ∈ ws,g.1 ∈ ns) /\
 ∀ r H' zs,Same H H'->H r = none->H' r = some (.lst zs)->NWs ns H' zs ws->Q (.ref r) H'
noncomputable def nwJ (s n r:Addr) (ns:List Str) (ws:List (Str × Addr)) (H:Hp) (k:Nat) (σ:L2.St) (H':Hp):Prop:=∃ u v zs,σ = [some (.ref s),some (.ref n),some (.ref r),u,v]/\Same H H'/\H' r = some (.lst zs)/\NWs ns H' zs (ws.take k)
theorem zQ (F:Fun K gF gF mZ f fd) (T:Txt K mg D) (tO:OkI P w K mg base CX0 1 D.Door_ways kE (nF D)):cu P w K mg base CX0 2 f fd gw (ji D):=by
 refine F.ok ju (fun vs H Q E h=>?_) (fun cdv A outer s H vs Q E hr h=>?_)
 .obtain ⟨d,n,C,dx,p,l,nm,xs,ws,ns,rfl,_⟩:=h
  rfl
 .obtain ⟨d,n,C,dx,p,l,nm,xs,ws,ns,rfl,hC,hs,hl,hw,n100,hn,nd,hin,q⟩:=h
  refine ⟨_,(bI (bT (i:=2) ju.nd rfl (Or.inl rfl) (cR bG))
   (bI (gC PassesOwn.never rfl (cA ((PE.any fun C (hC:eN D C)=>(lO (pv 0) (T.cl C hC.fam) (T.Jm C hC) tO (hr.mono (by decide))))).mono) (fM (n:=2) rfl (b_ (bW (i:=3) ju.nd rfl (Or.inl rfl)) (b_ (bW (i:=4) ju.nd rfl (Or.inl rfl)) eZ)))
    (bI (dF (Pn (Te (rT hr) (pv 3) (pv 1)))
     (bL o8)
     cH)
    (bL (dh (sX (pv 2) (bB (dI (bB (G5 (rT hr) (pv 1) (pv 3) (fun _ _=>rfl)) (bB (pv 4) bG))) bG))))))
   (bL (bY (pv 2))))),?_⟩
  unfold nF
  walk_at "rd"
  refine ⟨by decide,fun r hrn=>dG ?_⟩
  walk_at "rd"
  have sr:∀ {b o},H b = some o->(upd H r (.lst [])) b = some o:=fun {b o} e=>(bF (bD e hrn)).trans e
  refine ⟨C,hC,dx,_,sr hs,rfl,nm,p,l,⟨C,dx,hC.fam,sr hs⟩,xs,sr hl,by rw [hw.len]; exact n100,fun r2 hr2=>⟨nwJ d n r ns ws H,?_,?_,?_⟩⟩
  .have rr:r ≠ r2:=bD bC hr2
   refine ⟨none,none,[],rfl,fun b o e=>(bF (bD (sr e) hr2)).trans (sr e),(bF rr).trans bC,rfl,fun k g e=>by simp at e⟩
  .rintro k x σ' H' hk ⟨u,v,zs,rfl,S1,h1,nw⟩ hx
   have lk:k < ws.length:=by rw [<- hw.len]; exact (ao.mp hk).1
   have e:ws[k]? = some ws[k]:=aj lk
   have hm:=hin _ (aV lk)
   obtain ⟨t,a,b⟩:=hw.at_ k _ e
   rw [hk] at a
   cases a
   generalize ws[k] = g at *
   obtain ⟨m,c⟩:=g
   obtain ⟨i,hi⟩:=aW hm
   walk_at "rd"
   have rr:r ≠ r2:=bD bC hr2
   have vl:lV (zU ns) (.inr m) = some (.int ((0 + i:Nat):Int)):=Mw nd hi
   have dg:qC H' n (kV (.inr m)) (some (.int ((0 + i:Nat):Int))):=vl ▸ qC.k (k:=.inr m) (S1 _ _ hn)
   refine ⟨_,S1 _ _ b,rfl,_,_,rfl,_,_,rfl,rfl,_,dg,?_⟩
   rw [if_neg (by simp)]
   refine ⟨⟨_,h1⟩,_,dg,eE,fun p hp=>?_⟩
   have rp:r ≠ p:=bD h1 hp
   have zl:zs.length < sizeLine:=by
    have h9:101 < sizeLine:=by decide
    rw [nw.len,bf]
    omega
   refine ⟨zs,(bF rp).trans h1,zl,(bF rr.symm).trans ((bF (bD hx hp)).trans hx),_,_,_,rfl,fun b' o' e'=>(bF (bD e' hrn)).trans ((bF (bD (S1 _ _ e') hp)).trans (S1 _ _ e')),bC,?_⟩
   rw [cg e]
   refine (nw.imp fun t ys e'=>?_).snoc hi ?_
   .rw [bF (eY e' h1 (by intro z; cases z)),bF (bD e' hp)]; exact e'
   .rw [bF rp.symm,bC,Nat.zero_add]
  .rintro σ' H' ⟨u,v,zs,rfl,S1,h1,nw⟩ hx
   rw [hw.len,aP] at nw
   walk_at "rd"
   exact q r H' zs S1 hrn h1 nw
noncomputable def del (as:List Addr) (H:Hp):Hp:=fun b=>if b ∈ as then none else H b
theorem eG {as:List Addr} {H:Hp} {b:Addr} {o:HO} (h:b ∉ as) (e:H b = some o):del as H b = some o:=by unfold del; rw [if_neg h]; exact e
theorem nj {as:List Addr} {H:Hp} {b:Addr} {o:HO} (e:del as H b = some o):b ∉ as/\H b = some o:=by
 unfold del at e
 split at e
 .cases e
 .exact ⟨by assumption,e⟩
theorem gY {as:List Addr} {H:Hp} : Same (del as H) H:=fun b o e=>(nj e).2
theorem kO {as:List Addr} {H H':Hp} (h:∀ b o,b ∉ as->H b = some o->H' b = some o):Same (del as H) (del as H'):=fun b o e=>let ⟨a,c⟩:=nj e; eG a (h b o a c)
structure Dr where
 nm:Str
 p:Addr
 ws:List (Str × Addr)
noncomputable def Xx (D:Adr) (H:Hp) (s:Addr) (g:Dr):Prop:=∃ C dx l xs,eN D C/\H s = some (.ins C dx [("name",.str g.nm),("pay",.ref g.p),("leads",.ref l)])/\H l = some (.lst xs)/\RN H xs g.ws/\g.ws.length <= 100
theorem Xx.same {H H':Hp} {s:Addr} {g:Dr} (S:Same H H') (h:Xx D H s g):Xx D H' s g:=let ⟨C,dx,l,xs,a,b,c,d,e⟩:=h; ⟨C,dx,l,xs,a,S _ _ b,S _ _ c,d.same S,e⟩
structure vQ (D:Adr) (H:Hp) (xs:List V) (gs:List Dr):Prop where
 len:xs.length = gs.length
 at_:∀ (k:Nat) (g:Dr),gs[k]? = some g->∃ s,xs[k]? = some (.ref s)/\Xx D H s g
theorem vQ.same {H H':Hp} {xs:List V} {gs:List Dr} (S:Same H H') (h:vQ D H xs gs):vQ D H' xs gs:=⟨h.len,fun k g e=>let ⟨s,a,b⟩:=h.at_ k g e; ⟨s,a,b.same S⟩⟩
structure qJ (ns:List Str) (H:Hp) (zs:List V) (gs:List Dr):Prop where
 len:zs.length = gs.length
 at_:∀ (k:Nat) (g:Dr),gs[k]? = some g->∃ t r ys,zs[k]? = some (.ref t)/\H t = some (.tup [.str g.nm,.ref g.p,.ref r])/\H r = some (.lst ys)/\NWs ns H ys g.ws
theorem qJ.same {ns:List Str} {H H':Hp} {zs:List V} {gs:List Dr} (S:Same H H') (h:qJ ns H zs gs):qJ ns H' zs gs:=⟨h.len,fun k g e=>let ⟨t,r,ys,a,b,c,d⟩:=h.at_ k g e; ⟨t,r,ys,a,S _ _ b,S _ _ c,d.imp fun _ _ z=>S _ _ z⟩⟩
theorem qJ.snoc {ns:List Str} {H:Hp} {zs ys:List V} {gs:List Dr} {t r:Addr} {g:Dr} (h:qJ ns H zs gs) (ht:H t = some (.tup [.str g.nm,.ref g.p,.ref r])) (hr:H r = some (.lst ys)) (hn:NWs ns H ys g.ws):qJ ns H (zs ++ [.ref t]) (gs ++ [g]):=by
 refine ⟨by rw [aA,aA,h.len]; rfl,fun k g' e=>?_⟩
 by_cases hk:k < gs.length
 .rw [aD hk] at e
  obtain ⟨t',r',ys',a,b⟩:=h.at_ k g' e
  exact ⟨t',r',ys',by rw [aD (by rw [h.len]; exact hk)]; exact a,b⟩
 .rw [aC (by omega)] at e
  have e0:k - gs.length = 0:=by
   have:=(ao.mp e).1
   simp at this; omega
  rw [e0] at e
  cases e
  refine ⟨t,r,ys,?_,ht,hr,hn⟩
  rw [aC (by rw [h.len]; omega),h.len,e0]; rfl
noncomputable def BJ (ns:List Str):List (Key × V):=ns.map fun n=>(.inr n,.bl true)
theorem Zk {n:Str} {ns:List Str} (h:n ∉ ns):lV (BJ ns) (.inr n) = none:=by
 unfold lV
 rw [List.find?_eq_none.mpr]
 .rfl
 .intro kv hk z
  unfold BJ at hk
  obtain ⟨m,hm,rfl⟩:=List.mem_map.mp hk
  have z:(Sum.inr m:Key) = .inr n:=of_decide_eq_true z
  injection z with z
  exact h (z ▸ hm)
theorem X4 {n:Str} {ns:List Str} (h:n ∉ ns):putK (BJ ns) (.inr n) (.bl true) = BJ (ns ++ [n]):=by
 have a:((BJ ns).any fun kv=>decide (kv.1 = .inr n)) = false:=by
  rw [List.any_eq_false]
  intro kv hk z
  unfold BJ at hk
  obtain ⟨m,hm,rfl⟩:=List.mem_map.mp hk
  have z:(Sum.inr m:Key) = .inr n:=of_decide_eq_true z
  injection z with z
  exact h (z ▸ hm)
 unfold putK
 rw [a,if_neg (by decide)]
 unfold BJ
 rw [bw]; rfl
noncomputable def Rn (H:Hp) (as:List Addr):Prop:=∀ a ∈ as,∃ u,H a = some u/\∀ ys,u ≠ .tup ys
noncomputable def nH (D:Adr):Sp:=fun vs H Q _=>∃ (l n:Addr) (xs:List V) (gs:List Dr) (ns:List Str),vs = [.ref l,.ref n]/\H l = some (.lst xs)/\vQ D H xs gs/\gs.length <= 100/\(gs.map (·.nm)).Nodup/\H n = some (.dK (zU ns))/\ns.Nodup/\(∀ g ∈ gs,∀ z ∈ g.ws,z.1 ∈ ns) /\
 ∀ r H' zs,Same H H'->H r = none->H' r = some (.lst zs)->(∀ as,Rn H as->qJ ns (del as H') zs gs)->Q (.ref r) H'
noncomputable def oJ (l n d r:Addr) (ns:List Str) (gs:List Dr) (H:Hp) (k:Nat) (σ:L2.St) (H':Hp):Prop:=∃ u zs,σ = [some (.ref l),some (.ref n),some (.ref d),some (.ref r),u]/\Same H H'/\H' d = some (.dK (BJ ((gs.take k).map (·.nm))))/\H' r = some (.lst zs)/\∀ as,Rn H as->qJ ns (del (d :: r :: as) H') zs (gs.take k)
theorem Jk (F:Fun K j8 j8 uQ f fd) (T:Txt K mg D) (nq:OkF P w K mg base 2 gF gw (ji D)):cu P w K mg base CX0 3 f fd kZ (nH D):=by
 refine F.ok nU (fun vs H Q E h=>?_) (fun cdv A outer s H vs Q E hr h=>?_)
 .obtain ⟨l,n,xs,gs,ns,rfl,_⟩:=h
  rfl
 .obtain ⟨l,n,xs,gs,ns,rfl,hl,dr,n100,ndg,hn,nd,hin,q⟩:=h
  refine ⟨_,(bI (bT (i:=2) nU.nd rfl (Or.inl rfl) xG)
   (bI (bT (i:=3) nU.nd rfl (Or.inl rfl) (cR bG))
   (bI (gC PassesOwn.never rfl (cA ((pv 0)).mono) (bW (i:=4) nU.nd rfl (Or.inl rfl))
    (bI (dF (Pn (XH (rT hr) (sE (pv 4) rfl) (pv 2)))
     (bL o8)
     cH)
    (bI (Aj (rT hr) (pv 2) (sE (pv 4) rfl) iH rfl)
    (bL (dh (sX (pv 3) (bB (dI (bB (sE (pv 4) rfl) (bB (sE (pv 4) rfl) (bB (bM nq (hr.mono (by decide)) (by rfl) (bB (pv 4) (bB (pv 1) bG))) bG)))) bG)))))))
   (bL (bY (pv 3)))))),?_⟩
  unfold ji
  walk_at "rd"
  refine fun d hd=>⟨by decide,fun r hrn=>dG ?_⟩
  walk_at "rd"
  have dr0:d ≠ r:=bD bC hrn
  have hrn':H r = none:=(bF dr0.symm).symm.trans hrn
  have st:Same H (upd (upd H d (.dK [])) r (.lst [])):=fun b o e=>(bF (bD e hrn')).trans ((bF (bD e hd)).trans e)
  refine ⟨xs,st _ _ hl,oJ l n d r ns gs H,⟨none,[],rfl,st,(bF dr0).trans bC,bC,fun as _=>⟨rfl,fun k g e=>by simp at e⟩⟩,?_,?_⟩
  .rintro k x σ' H' hk ⟨u,zs,rfl,S1,h1,h2,of_⟩ hx
   have lk:k < gs.length:=by rw [<- dr.len]; exact (ao.mp hk).1
   have e:gs[k]? = some gs[k]:=aj lk
   have hm:=hin _ (aV lk)
   obtain ⟨t,a,b⟩:=dr.at_ k _ e
   rw [hk] at a
   cases a
   have no:gs[k].nm ∉ (gs.take k).map (·.nm):=by
    rw [List.map_take]
    exact DG ndg (by rw [aq,e]; rfl)
   generalize gs[k] = g at *
   obtain ⟨C,dx,ll,ys,hC,hs,hll,hw,w100⟩:=b.same S1
   walk_at "rd"
   refine ⟨C,dx,_,hs,T.cl C hC.fam,T.Bc C hC.fam,_,rfl,_,qC.k (k:=.inr g.nm) h1,?_⟩
   rw [Zk no,if_neg (by decide)]
   have hlen:(BJ ((gs.take k).map (·.nm))).length < sizeLine:=by
    have h9:101 < sizeLine:=by decide
    unfold BJ
    rw [ak,ak,bf]
    omega
   have up:∀ {b o},b ≠ d->H' b = some o->upd H' d (.dK (putK (BJ ((gs.take k).map (·.nm))) (.inr g.nm) (.bl true))) b = some o:=fun {b o} h e=>(bF h).trans e
   have td:t ≠ d:=eY hs h1 (by intro z; cases z)
   have ld:ll ≠ d:=eY hll h1 (by intro z; cases z)
   have nd_:n ≠ d:=bD hn hd
   refine ⟨C,dx,_,hs,T.cl C hC.fam,T.Bc C hC.fam,_,rfl,_,M7.k (k:=.inr g.nm) h1 hlen,⟨zs,up dr0.symm h2⟩,C,dx,_,up td hs,T.cl C hC.fam,T.Bc C hC.fam,_,rfl,C,dx,_,up td hs,T.cl C hC.fam,T.UW C hC.fam,_,rfl,C,hC,dx,g.p,ll,⟨g.nm,up td hs⟩,ys,up ld hll,g.ws,⟨hw.len,fun k g e=>let ⟨t,a,b⟩:=hw.at_ k g e; ⟨t,a,up (eY b h1 (by intro z; cases z)) b⟩⟩,w100,ns,up nd_ (S1 _ _ hn),nd,hm,?_⟩
   intro r3 H3 z3 S3 f3 e3 w3
   refine ⟨by decide,fun p hp=>?_⟩
   have lr:l ≠ r:=bD hl hrn'
   have ld0:l ≠ d:=bD hl hd
   have a1:=S3 _ _ (up dr0.symm h2)
   have a2:=S3 d _ bC
   have rp:r ≠ p:=bD a1 hp
   have dp:d ≠ p:=bD a2 hp
   have a3:=S3 _ _ (up ld0 hx)
   have zl:zs.length < sizeLine:=by
    have h9:101 < sizeLine:=by decide
    rw [(of_ [] (by intro a ha; cases ha)).len,bf]
    omega
   have r3p:r3 ≠ p:=bD e3 hp
   refine ⟨zs,(bF rp).trans a1,zl,(bF lr).trans ((bF (bD a3 hp)).trans a3),_,_,rfl,fun b o e'=>?_,?_,bC,?_⟩
   .have c:=S3 _ _ (up (bD e' hd) (S1 _ _ e'))
    rw [bF (bD e' hrn'),bF (bD c hp)]
    exact c
   .rw [bF dr0,bF dp,a2,X4 no,cg e,bw]; rfl
   .intro as has
    have r3n:r3 ∉ d :: r :: as:=by
     simp only [List.mem_cons,not_or]
     refine ⟨fun z=>(by rw [z,bC] at f3; cases f3),fun z=>(by rw [z,up dr0.symm h2] at f3; cases f3),fun z=>?_⟩
     obtain ⟨u,hu,_⟩:=has _ z
     rw [up (bD hu hd) (S1 _ _ hu)] at f3
     cases f3
    have asp:∀ a ∈ as,∃ u,H3 a = some u/\∀ ys,u ≠ .tup ys:=fun a ha=>let ⟨u,hu,n⟩:=has a ha; ⟨u,S3 _ _ (up (bD hu hd) (S1 _ _ hu)),n⟩
    have pn:p ∉ d :: r :: as:=by
     simp only [List.mem_cons,not_or]
     exact ⟨dp.symm,rp.symm,fun z=>let ⟨u,hu,_⟩:=asp _ z; bD hu hp rfl⟩
    have u2:∀ {b o},b ∉ d :: r :: as->(upd H3 p (.tup [.str g.nm,.ref g.p,.ref r3])) b = some o->del (d :: r :: as) (upd (upd H3 p (.tup [.str g.nm,.ref g.p,.ref r3])) r (.lst (zs ++ [.ref p]))) b = some o:=fun {b o} h e=>eG h ((bF (by simp only [List.mem_cons,not_or] at h; exact h.2.1)).trans e)
    rw [cg e]
    refine ((of_ as has).same fun b o e'=>?_).snoc (u2 pn bC) (u2 r3n ((bF r3p).trans e3)) (w3.imp fun t ys e'=>?_)
    .obtain ⟨b1,b2⟩:=nj e'
     have c:=S3 _ _ (up (by simp only [List.mem_cons,not_or] at b1; exact b1.1) b2)
     exact u2 b1 ((bF (bD c hp)).trans c)
    .refine u2 ?_ ((bF (bD e' hp)).trans e')
     simp only [List.mem_cons,not_or]
     exact ⟨eY e' a2 (by intro z; cases z),eY e' a1 (by intro z; cases z),fun z=>let ⟨u,hu,n⟩:=asp _ z; n _ (Option.some.inj (hu.symm.trans e'))⟩
  .rintro σ' H' ⟨u,zs,rfl,S1,h1,h2,of_⟩ hx
   rw [dr.len,aP] at of_
   walk_at "rd"
   exact q r H' zs S1 hrn' h2 fun as has=>(of_ as has).same fun b o e=>let ⟨a,c⟩:=nj e; eG (fun z=>a (aH _ (aH _ z))) c
structure mq (D:Adr) (H:Hp) (xs:List V) (rms:List (Str × List Dr)):Prop where
 len:xs.length = rms.length
 at_:∀ (k:Nat) (g:Str × List Dr),rms[k]? = some g->∃ t l ys,xs[k]? = some (.ref t)/\H t = some (.tup [.str g.1,.ref l])/\H l = some (.lst ys)/\vQ D H ys g.2
theorem mq.rooms {H:Hp} {xs:List V} {rms:List (Str × List Dr)} (h:mq D H xs rms):Q0 H xs (rms.map (·.1)):=⟨by rw [h.len,ak],fun k n e=>by
 rw [aq] at e
 cases e0:rms[k]? with
 | none=>rw [e0] at e; cases e
 | some g =>
  rw [e0] at e
  cases e
  obtain ⟨t,l,ys,a,b,_⟩:=h.at_ k g e0
  exact ⟨t,_,a,b⟩⟩
theorem mq.same {H H':Hp} {xs:List V} {rms:List (Str × List Dr)} (S:Same H H') (h:mq D H xs rms):mq D H' xs rms:=⟨h.len,fun k g e=>let ⟨t,l,ys,a,b,c,d⟩:=h.at_ k g e; ⟨t,l,ys,a,S _ _ b,S _ _ c,d.same S⟩⟩
structure uO (ns:List Str) (H:Hp) (zs:List V) (gss:List (List Dr)):Prop where
 len:zs.length = gss.length
 at_:∀ (k:Nat) (gs:List Dr),gss[k]? = some gs->∃ l ys,zs[k]? = some (.ref l)/\H l = some (.lst ys)/\qJ ns H ys gs
theorem uO.same {ns:List Str} {H H':Hp} {zs:List V} {gss:List (List Dr)} (S:Same H H') (h:uO ns H zs gss):uO ns H' zs gss:=⟨h.len,fun k g e=>let ⟨l,ys,a,b,c⟩:=h.at_ k g e; ⟨l,ys,a,S _ _ b,c.same S⟩⟩
theorem uO.snoc {ns:List Str} {H:Hp} {zs ys:List V} {gss:List (List Dr)} {l:Addr} {gs:List Dr} (h:uO ns H zs gss) (hl:H l = some (.lst ys)) (ho:qJ ns H ys gs):uO ns H (zs ++ [.ref l]) (gss ++ [gs]):=by
 refine ⟨by rw [aA,aA,h.len]; rfl,fun k g' e=>?_⟩
 by_cases hk:k < gss.length
 .rw [aD hk] at e
  obtain ⟨l',ys',a,b⟩:=h.at_ k g' e
  exact ⟨l',ys',by rw [aD (by rw [h.len]; exact hk)]; exact a,b⟩
 .rw [aC (by omega)] at e
  have e0:k - gss.length = 0:=by
   have:=(ao.mp e).1
   simp at this; omega
  rw [e0] at e
  cases e
  refine ⟨l,ys,?_,hl,ho⟩
  rw [aC (by rw [h.len]; omega),h.len,e0]; rfl
theorem zN {H:Hp} {o b C0 dx0:Addr} {u:HO} (ho:H o = some (.ins C0 dx0 [])) (e:H b = some u) (n:u ≠ .ins C0 dx0 []):del [o] H b = some u:=eG (by simp only [List.mem_singleton]; exact eY e ho n) e
theorem mq.off {H:Hp} {o C0 dx0:Addr} {xs:List V} {rms:List (Str × List Dr)} (ho:H o = some (.ins C0 dx0 [])) (h:mq D H xs rms):mq D (del [o] H) xs rms:=⟨h.len,fun k g e=>by
 obtain ⟨t,l,ys,a,b,c,d⟩:=h.at_ k g e
 refine ⟨t,l,ys,a,zN ho b (by intro z; cases z),zN ho c (by intro z; cases z),d.len,fun k g e=>?_⟩
 obtain ⟨s,a,C,dx,l,xs,h1,h2,h3,h4,h5⟩:=d.at_ k g e
 exact ⟨s,a,C,dx,l,xs,h1,zN ho h2 (by intro z; injection z with _ _ z; cases z),zN ho h3 (by intro z; cases z),⟨h4.len,fun k g e=>let ⟨t,a,b⟩:=h4.at_ k g e; ⟨t,a,zN ho b (by intro z; cases z)⟩⟩,h5⟩⟩
structure GD (rms:List (Str × List Dr)):Prop where
 len:rms.length <= 20
 nd:(rms.map (·.1)).Nodup
 wd:∀ g ∈ rms,Wd g.1
 few:∀ g ∈ rms,g.2.length <= 100
 dn:∀ g ∈ rms,(g.2.map (·.nm)).Nodup
 to_:∀ g ∈ rms,∀ d ∈ g.2,∀ z ∈ d.ws,z.1 ∈ rms.map (·.1)
noncomputable def jV (D:Adr) (H:Hp) (a p:Addr) (rms:List (Str × List Dr)):Prop:=∃ dx n l zs,H a = some (.ins D.Hall dx [("share",.ref p),("numbers",.ref n),("offered",.ref l)])/\H n = some (.dK (zU (rms.map (·.1))))/\H l = some (.lst zs)/\uO (rms.map (·.1)) H zs (rms.map (·.2))
theorem jV.same {H H':Hp} {a p:Addr} {rms:List (Str × List Dr)} (S:Same H H') (h:jV D H a p rms):jV D H' a p rms:=let ⟨dx,n,l,zs,b,c,d,e⟩:=h; ⟨dx,n,l,zs,S _ _ b,S _ _ c,S _ _ d,e.same S⟩
noncomputable def qX (K:Frag) (D:Adr):Sp:=fun vs H Q _=>∃ (o dx p l:Addr) (x y:Int) (xs:List V) (rms:List (Str × List Dr)),vs = [.ref o,.ref p,.ref l]/\H o = some (.ins D.Hall dx [])/\Fk K H p x y/\0 <= x/\x < y/\Bd x/\Bd y/\H l = some (.lst xs)/\mq D H xs rms/\GD rms /\
 ∀ H',Keep o H H'->jV D H' o p rms->Q .non H'
noncomputable def hJ (o D1:Addr) (rms:List (Str × List Dr)) (H:Hp) (k:Nat) (zs:List V) (H':Hp):Prop:=Same H H'/\H' D1 = some (.lst zs)/\uO (rms.map (·.1)) (del [o,D1] H') zs ((rms.take k).map (·.2))
theorem Jd (F:Fun K wV yK pL f fd) (T:Txt K mg D) (qe:OkF P w K mg base 3 iT iR (lu (K:=K))) (rP:OkF P w K mg base 2 jA jz mL) (sW:OkF P w K mg base 3 j8 kZ (nH D)):cu P w K mg base CX0 4 f fd lA (qX K D):=by
 refine F.ok Ht (fun vs H Q E h=>?_) (fun cdv A outer s H vs Q E hr h=>?_)
 .obtain ⟨o,dx,p,l,x,y,xs,rms,rfl,_⟩:=h
  rfl
 .obtain ⟨o,dx,p,l,x,y,xs,rms,rfl,ho,fk,x0,xy,bx,b_y,hl,hR,ok,q⟩:=h
  refine ⟨_,(bI (dh (bM qe (hr.mono (by decide)) (by rfl) (bB (pv 1) bG)))
   (bI (uM (pv 0) (pv 1) rfl)
   (bI (uM (pv 0) (bM rP (hr.mono (by decide)) (by rfl) (bB (pv 2) bG)) rfl)
   (bL (uM (pv 0) (fW (bK pL) sG sG ["room"] (cA ((pv 2)).mono) (cU (i:=0)) cF (bM sW (hr.mono (by decide)) (by rfl) (bB (bQ dD (pv 0) bH (fun _ _=>rfl)) (bB (Zu (K':=K) rfl (pv 1) rfl) bG)))) rfl))))),?_⟩
  unfold lu mL nH
  walk_at "rd"
  have hR0:=hR.off ho
  have hl0:del [o] H l = some (.lst xs):=zN ho hl (by intro z; cases z)
  have S1:∀ u,Same (del [o] H) (upd H o u):=fun u b v e=>by
   obtain ⟨b1,b2⟩:=nj e
   exact (bF (by simpa using b1)).trans b2
  have cl:=T.yU
  refine ⟨x,y,fk,x0,xy,bx,b_y,D.Hall,dx,[],ho,cl,T.El,(by show 0 < 1000; decide),xs,S1 _ _ _ hl0,_,(hR0.same (S1 _)).rooms,ok.nd,fun g hg=>?_,by rw [ak]; exact ok.len,fun d H2 S2 f2 e2=>?_⟩
  .obtain ⟨g',hg',rfl⟩:=List.mem_map.mp hg
   exact ok.wd g' hg'
  have od:d ≠ o:=fun z=>by rw [z,bC] at f2; cases f2
  refine ⟨D.Hall,dx,_,S2 _ _ bC,cl,T.m_,(by show 1 < 1000; decide),cC ?_⟩
  have S3:∀ u,Same (del [o] H) (upd H2 o u):=fun u b v e=>(bF (by have:=(nj e).1; simpa using this)).trans (S2 _ _ (S1 _ _ _ e))
  walk_at "rd"
  have hz9:21 < sizeLine:=by decide
  have n20:=ok.len
  refine ⟨xs,S3 _ _ _ hl0,by rw [hR.len]; omega,fun D1 hD1=>?_⟩
  have eo:upd H2 o (.ins D.Hall dx (kW "numbers" (.ref d) (kW "share" (.ref p) []))) o = some (.ins D.Hall dx [("share",.ref p),("numbers",.ref d)]):=bC
  have ed:upd H2 o (.ins D.Hall dx (kW "numbers" (.ref d) (kW "share" (.ref p) []))) d = some (.dK (zU (rms.map (·.1)))):=(bF od).trans e2
  have S4:=S3 (.ins D.Hall dx (kW "numbers" (.ref d) (kW "share" (.ref p) [])))
  generalize upd H2 o (.ins D.Hall dx (kW "numbers" (.ref d) (kW "share" (.ref p) []))) = H3 at eo ed S4 hD1 ⊢
  have oD:o ≠ D1:=bD eo hD1
  refine ⟨hJ o D1 rms H3,⟨Same.upd hD1,bC,rfl,fun k g e=>by simp at e⟩,?_,?_⟩
  .rintro k x1 ys Hc hk ⟨S5,h5,of_⟩ hy hlc
   have lk:k < rms.length:=by rw [<- hR.len]; exact (ao.mp hk).1
   have e:rms[k]? = some rms[k]:=aj lk
   have hm:=aV lk
   obtain ⟨t,ll,ds,a,b,c,dd⟩:=(hR0.same (S4.trans S5)).at_ k _ e
   rw [hk] at a
   cases a
   generalize rms[k] = g at *
   refine ⟨t,rfl,_,b,_,gO,D.Hall,dx,_,S5 _ _ eo,cl,T.m_,_,rfl,ll,rfl,d,rfl,ds,c,g.2,dd,ok.few g hm,ok.dn g hm,_,S5 _ _ ed,ok.nd,ok.to_ g hm,?_⟩
   intro r H4 zs S6 f6 e6 o6
   have h4:=S6 _ _ h5
   have ho4:=S6 _ _ (S5 _ _ eo)
   refine ⟨h4,S6 _ _ hlc,fun b v e'=>?_,bC,?_⟩
   .exact (bF (bD e' hD1)).trans (S6 _ _ (S5 _ _ e'))
   .have ee:del [o,D1] (upd H4 D1 (.lst (ys ++ [.ref r]))) = del [o,D1] H4:=by
     funext b
     unfold del
     split
     .rfl
     .rename_i hb
      exact bF (by simp at hb; exact hb.2)
    rw [ee,cg e,bw]
    refine (of_.same (kO fun b v _ e'=>S6 _ _ e')).snoc (eG ?_ e6) (o6 [o,D1] ?_)
    .simp only [List.mem_cons,List.not_mem_nil,or_false,not_or]
     exact ⟨fun z=>(by rw [z,S5 _ _ eo] at f6; cases f6),fun z=>(by rw [z,h5] at f6; cases f6)⟩
    .intro a ha
     simp only [List.mem_cons,List.not_mem_nil,or_false] at ha
     rcases ha with rfl | rfl
     .exact ⟨_,S5 _ _ eo,by intro ys z; cases z⟩
     .exact ⟨_,h5,by intro ys z; cases z⟩
  .rintro ys Hc ⟨S5,h5,of_⟩ hy
   rw [hR.len,aP] at of_
   refine ⟨D.Hall,dx,_,S5 _ _ eo,cl,T.rY,(by show 2 < 1000; decide),q _ (fun b v nb e=>?_) ⟨dx,d,D1,ys,bC,(bF (fun z=>od (by rw [z]))).trans (S5 _ _ ed),(bF oD.symm).trans h5,of_.same fun b v e=>?_⟩⟩
   .exact (bF nb).trans (S5 _ _ (S4 _ _ (eG (by simpa using nb) e)))
   .obtain ⟨b1,b2⟩:=nj e
    exact (bF (by simp at b1; exact b1.1)).trans b2
noncomputable def cX (D:Adr):Sp:=fun vs H Q _=>∃ (o p:Addr) (rms:List (Str × List Dr)),vs = [.ref o]/\jV D H o p rms/\Q (.int rms.length) H
theorem JK (F:Fun K yC yj uT f fd) (T:Txt K mg D):cu P w K mg base CX0 1 f fd dX (cX D):=by
 refine F.ok Hq (fun vs H Q E h=>?_) (fun cdv A outer s H vs Q E hr h=>?_)
 .obtain ⟨o,p,rms,rfl,_⟩:=h
  rfl
 .obtain ⟨o,p,rms,rfl,⟨dx,n,l,zs,ho,hn,hl,of_⟩,q⟩:=h
  refine ⟨_,(bL (bY (bU GP (by rfl) T.iC PySem.boot_len (bB (sE (pv 0) rfl) bG)))),?_⟩
  walk_at "rd"
  refine ⟨D.Hall,dx,_,ho,T.yU,T.m_,_,rfl,n,_,rfl,hn,?_⟩
  rw [BZ,ak]
  exact q
noncomputable def iz (D:Adr):Sp:=fun vs H Q _=>∃ (o p:Addr) (k:Nat) (rms:List (Str × List Dr)),vs = [.ref o,.int k]/\jV D H o p rms/\k < rms.length/\Q .non H
theorem vZ (F:Fun K jU jL iG f fd) (T:Txt K mg D) (dB:OkF P w K mg base 1 gM gK jy) (cI:OkI P w K mg base CX0 1 D.Hall_size dX (cX D)): cu P w K mg base CX0 2 f fd cM (iz D):=by
 refine F.ok oU (fun vs H Q E h=>?_) (fun cdv A outer s H vs Q E hr h=>?_)
 .obtain ⟨o,p,k,rms,rfl,_⟩:=h
  rfl
 .obtain ⟨o,p,k,rms,rfl,hh,lk,q⟩:=h
  refine ⟨_,(bL (dF (PW.pt (pw_or (d9 (cQ (bM dB (hr.mono (by decide)) (by rfl) (bB (pv 1) bG)) (fun _=>rfl))) (pw_or1 (d9 (Cr Nk Gz bH (pv 1) (PE.any fun C (hC:cN D C)=>(lO (pv 0) (T.cl C hC.fam) (T.jq C hC) cI (hr.mono (by decide)))))))))
    (bL o8)
    cH)),?_⟩
  unfold jy cX
  walk_at "rd"
  obtain ⟨dx,n,l,zs,ho,hn,hl,of_⟩:=hh
  rw [if_pos (by simp)]
  refine ⟨D.Hall,(by unfold cN; simp),dx,_,ho,rfl,p,rms,⟨dx,n,l,zs,ho,hn,hl,of_⟩,?_⟩
  rw [if_neg (by simp; omega)]
  exact q
noncomputable def fJ (D1:Addr) (ns:List Str) (gs:List Dr) (H:Hp) (k:Nat) (zs:List V) (H':Hp):Prop:=Same H H'/\H' D1 = some (.lst zs)/\∀ as,Rn H as->qJ ns (del (D1 :: as) H') zs (gs.take k)
noncomputable def lG (D:Adr):Sp:=fun vs H Q _=>∃ (o p:Addr) (k:Nat) (rms:List (Str × List Dr)) (g:Str × List Dr),vs = [.ref o,.int k]/\jV D H o p rms/\rms[k]? = some g/\g.2.length <= 100/\(∀ d ∈ g.2,d.ws.length <= 100) /\
 ∀ r H' zs,Same H H'->H r = none->H' r = some (.lst zs)->(∀ as,Rn H as->qJ (rms.map (·.1)) (del as H') zs g.2)->Q (.ref r) H'
theorem CQ (F:Fun K tu su mJ f fd) (T:Txt K mg D) (d7:OkI P w K mg base CX0 2 D.Hall_check_room cM (iz D)): cu P w K mg base CX0 3 f fd iU (lG D):=by
 refine F.ok Bx (fun vs H Q E h=>?_) (fun cdv A outer s H vs Q E hr h=>?_)
 .obtain ⟨o,p,k,rms,g,rfl,_⟩:=h
  rfl
 .obtain ⟨o,p,k,rms,g,rfl,hh,hg,g100,w100,q⟩:=h
  refine ⟨_,(bI (dh (PE.any fun C (hC:cG D C)=>(Dp (pv 0) (T.cl C hC.fam) (T.jO C hC) d7 (hr.mono (by decide)) (bB (pv 1) bG))))
   (bL (bY (fW (bK mJ) pZ pZ ["name", "pay", "numbered"] (cA ((bQ bN (sE (pv 0) rfl) (pv 1) (fun _ _=>rfl))).mono) (fM (n:=3) rfl (b_ (cU (i:=0)) (b_ (cU (i:=1)) (b_ (cU (i:=2)) eZ)))) cF (dI (bB (pv 0) (bB (pv 1) (bB (qu rE (by rfl) T.zj boot_list (bB (pv 2) bG)) bG)))))))),?_⟩
  unfold iz
  walk_at "rd"
  obtain ⟨dx,n,l,zs,ho,hn,hl,of_⟩:=hh
  have lk:=(ao.mp hg).1
  refine ⟨D.Hall,(by unfold cG; simp),dx,_,ho,rfl,p,k,rfl,rms,⟨dx,n,l,zs,ho,hn,hl,of_⟩,lk,j5 ?_⟩
  obtain ⟨ll,ys,a,b,c⟩:=of_.at_ k g.2 (by rw [aq,hg]; rfl)
  have z9:101 < sizeLine:=by decide
  walk_at "rd"
  refine ⟨D.Hall,dx,_,ho,T.yU,T.rY,_,rfl,l,rfl,zs,hl,_,bV a,ll,rfl,ys,b,by rw [c.len]; omega,fun D1 hD=>?_⟩
  refine ⟨fJ D1 (rms.map (·.1)) g.2 H,⟨Same.upd hD,bC,fun as _=>⟨rfl,fun k g e=>by simp at e⟩⟩,?_,?_⟩
  .rintro i x1 zs1 Hc hi ⟨S5,h5,o5⟩ hy hlc pre hpre
   have li:i < g.2.length:=by rw [<- c.len]; exact (ao.mp hi).1
   have e:g.2[i]? = some g.2[i]:=aj li
   have hm:=w100 _ (aV li)
   obtain ⟨t,r,ws,ea,eb,ec,ed⟩:=(c.same S5).at_ i _ e
   rw [hi] at ea
   cases ea
   generalize g.2[i] = d at *
   obtain ⟨u1,u2,u3,rfl⟩ : ∃ a b c,pre = [a,b,c]:=by
    match pre,hpre with
    | [a,b,c],_=>exact ⟨a,b,c,rfl⟩
   walk_at "rd"
   refine ⟨_,eb,rfl,_,_,rfl,_,_,rfl,_,_,rfl,rfl,[_,_,_],rfl,rfl,?_⟩
   refine ⟨r,rfl,ws,ec,fun l1 hl1=>⟨by decide,fun p1 hp1=>?_⟩⟩
   have lp:l1 ≠ p1:=bD bC hp1
   have hp1':Hc p1 = none:=(bF lp.symm).symm.trans hp1
   have S6:Same Hc (upd (upd Hc l1 (.lst ws)) p1 (.tup [.str d.nm,.ref d.p,.ref l1])):=(Same.upd hl1).trans (Same.upd hp1)
   have e6:upd (upd Hc l1 (.lst ws)) p1 (.tup [.str d.nm,.ref d.p,.ref l1]) l1 = some (.lst ws):=(bF lp).trans bC
   have e7:upd (upd Hc l1 (.lst ws)) p1 (.tup [.str d.nm,.ref d.p,.ref l1]) p1 = some (.tup [.str d.nm,.ref d.p,.ref l1]):=bC
   generalize upd (upd Hc l1 (.lst ws)) p1 (.tup [.str d.nm,.ref d.p,.ref l1]) = H7 at S6 e6 e7 ⊢
   refine ⟨S6 _ _ h5,S6 _ _ hlc,fun b v e'=>(bF (bD e' hD)).trans (S6 _ _ (S5 _ _ e')),bC,fun as has=>?_⟩
   have nin:∀ {b},Hc b = none->b ∉ D1 :: as:=fun {b} hb=>by
    simp only [List.mem_cons,not_or]
    exact ⟨fun z=>(by rw [z,h5] at hb; cases hb),fun z=>let ⟨u,hu,_⟩:=has _ z; bD (S5 _ _ hu) hb rfl⟩
   have u2:∀ {b o},b ∉ D1 :: as->H7 b = some o->del (D1 :: as) (upd H7 D1 (.lst (zs1 ++ [.ref p1]))) b = some o:=fun {b o} h e=>eG h ((bF (by simp only [List.mem_cons,not_or] at h; exact h.1)).trans e)
   rw [cg e]
   refine ((o5 as has).same fun b v e'=>?_).snoc (u2 (nin hp1') e7) (u2 (nin hl1) e6) (ed.imp fun t us e'=>u2 ?_ (S6 _ _ e'))
   .obtain ⟨b1,b2⟩:=nj e'
    exact u2 b1 (S6 _ _ b2)
   .simp only [List.mem_cons,not_or]
    exact ⟨eY e' h5 (by intro z; cases z),fun z=>let ⟨u,hu,n⟩:=has _ z; n _ (Option.some.inj ((S5 _ _ hu).symm.trans e'))⟩
  .rintro zs1 Hc ⟨S5,h5,o5⟩ _
   rw [c.len,aP] at o5
   exact q D1 Hc zs1 S5 hD h5 fun as has=>(o5 as has).same fun b o e=>let ⟨a,c⟩:=nj e; eG (fun z=>a (aH _ z)) c
noncomputable def uD (C:Addr):Sp:=fun vs H Q _=>∃ a v,vs = [.ref a,v]/\H a = some (XN a C none)/\∀ d,H d = none->d ≠ a->Q .non (upd (upd H a (XN a C (some d))) d (.xd [("room",v)]))
theorem Bs (F:Fun K ug uL pU f fd) (T:Txt K mg D):cu P w K mg base CX0 1 f fd iK (uD D.NoRoom):=by
 refine F.okB Cy (fun vs H Q E h=>?_) (fun cdv A outer s H vs Q E hr h=>?_)
 .obtain ⟨a,v,rfl,_⟩:=h
  rfl
 .obtain ⟨a,v,rfl,ha,q⟩:=h
  refine ⟨_,(cD (PSB.mk (dh (Xl T.ib_HallError T.xi_NoRoom (by rfl) T.K_ (bB (pv 0) (bB pH bG)))))
   (wW (PSB.mk (YZ (pv 0) (pv 1) rfl)))),?_⟩
  exact ⟨_,rfl,a,[_],rfl,ha,by decide,_,rfl,_,rfl,a,D.NoRoom,rfl,ha,T.xs_NoRoom,T.um,q⟩
theorem XF {H H':Hp} (S:Same H H') {v:V} {t:String} (h:tyS H v = some t):tyS H' v = some t:=by
 cases v with
 | ref a =>
  have h:(match H a with
   | some (.lst _)=>some "list"
   | some (.tup _)=>some "tuple"
   | some (.dK _)=>some "dict"
   | _=>none) = some t:=h
  show (match H' a with
   | some (.lst _)=>some "list"
   | some (.tup _)=>some "tuple"
   | some (.dK _)=>some "dict"
   | _=>none) = some t
  split at h
  .rename_i e; rw [S a _ e]; exact h
  .rename_i e; rw [S a _ e]; exact h
  .rename_i e; rw [S a _ e]; exact h
  .cases h
 | _=>exact h
noncomputable def wC (n:Nat):V->Prop | .int k=>0 <= k/\k < n | _=>False
noncomputable def Odd (H:Hp) (v:V):Prop:=∃ t,tyS H v = some t
theorem Odd.same {H H':Hp} {v:V} (h:Odd H v) (S:Same H H'):Odd H' v:=h.imp fun _ z=>XF S z
theorem abS {H:Hp} {v:V} {t:String} (h:tyS H v = some t) (n:∀ k,v ≠ .int k):(t == "int") = false:=by
 cases v with
 | int k=>exact absurd rfl (n k)
 | ref a =>
  unfold tyS at h
  dsimp only at h
  split at h <;> cases h <;> rfl
 | _=>cases h <;> rfl
theorem aaq {H:Hp} {a d:Addr} {o o' x:HO} (n:H a = none) (e:d ≠ a):out (upd (upd (upd H a o) a o') d x) a = upd H d x:=by
 funext b
 by_cases z:b = a
 .subst z; rw [MF,bF (Ne.symm e),n]
 .rw [tH z]
  by_cases y:b = d
  .subst y; rw [bC,bC]
  .rw [bF y,bF z,bF z,bF y]
theorem Ov {C:Addr} {E:XK} {v:V} {t:TA} {R:Ends} {σ:L2.St} {H:Hp} (ht:∀ Q:List V->Hp->Prop,Q [v] H->t σ H Q) (e:∀ d,H d = none->E (.ref C) (some d) (upd H d (.xd [("room",v)]))):Jy C (uD C) (fun C d _ H'=>E C d H') t R σ H :=
 ht _ ⟨(show 1 <= sizeLine by decide),fun a ha=>⟨a,v,rfl,bC,fun d hd da=>⟨rfl,some d,(bF (Ne.symm da)).trans bC,(by rw [aaq ha da]; exact e d (by rw [bF da] at hd; exact hd))⟩⟩⟩
noncomputable def zG (D:Adr):Sp:=fun vs H Q E=>∃ (o p:Addr) (v:V) (rms:List (Str × List Dr)),vs = [.ref o,v]/\jV D H o p rms/\Odd H v/\(wC rms.length v->Q .non H)/\(¬ wC rms.length v->∀ d,H d = none->E (.ref D.NoRoom) (some d) (upd H d (.xd [("room",v)])))
theorem Dz (F:Fun K jU jL iG f fd) (T:Txt K mg D) (dB:OkF P w K mg base 1 gM gK jy) (cI:OkI P w K mg base CX0 1 D.Hall_size dX (cX D)) (qb:OkI P w K mg base CX0 1 D.NoRoom_init iK (uD D.NoRoom)):cu P w K mg base (CXO P w) 3 f fd cM (zG D):=by
 refine F.okX oU (fun vs H Q E h=>?_) (fun cdv A outer s H vs Q E hr h=>?_)
 .obtain ⟨o,p,v,rms,rfl,_⟩:=h
  rfl
 .obtain ⟨o,p,v,rms,rfl,hh,ov,q,e⟩:=h
  refine ⟨_,(bL (dF (PW.pt (pw_or (d9 (cQ (bM dB (hr.mono (by decide)) (by rfl) (bB (pv 1) bG)) (fun _=>rfl))) (pw_or1 (d9 (Cr Nk Gz bH (pv 1) (PE.any fun C (hC:cN D C)=>(lO (pv 0) (T.cl C hC.fam) (T.jq C hC) cI (hr.mono (by decide)))))))))
    (bL (TX rfl (by rfl) T.Mf T.xi_NoRoom qb (hr.mono (by decide)) Sw (bB (pv 1) bG)))
    cH)),?_⟩
  unfold jy cX
  walk_at "rd"
  have no:¬ wC rms.length v->Jy D.NoRoom (uD D.NoRoom) (fun C d x H'=>E C d H') (fu (jw 1) kh) { nx:=fun x H'=>Q V.non H',rt:=Q } [some (V.ref o),some v] H:=fun z=>Ov (fun Q r=>⟨_,rfl,r⟩) (e z)
  by_cases iv:∃ k,v = .int k
  .obtain ⟨k,rfl⟩:=iv
   refine ⟨_,rfl,?_⟩
   rw [if_neg (by decide)]
   refine ⟨k,rfl,?_⟩
   by_cases k0:0 <= k
   .rw [if_pos (decide_eq_true k0)]
    have hI:=hh
    obtain ⟨dx,n,l,zs,ho,hn,hl,of_⟩:=hI
    refine ⟨D.Hall,(by unfold cN; simp),dx,_,ho,rfl,p,rms,hh,k,rfl,?_⟩
    by_cases k1:k < rms.length
    .rw [if_neg (by simp [k1])]
     exact q ⟨k0,k1⟩
    .rw [if_pos (by simp [k1])]
     exact no fun z=>k1 z.2
   .rw [if_neg (by simp [k0])]
    exact no fun z=>k0 z.1
  .obtain ⟨t,et⟩:=ov
   refine ⟨t,et,?_⟩
   rw [abS et fun k z=>iv ⟨k,z⟩]
   exact no fun z=>by
    cases v with
    | int k=>exact iv ⟨k,rfl⟩
    | _=>exact z
theorem pQ {α:Type} {l:List α} {a b:α} {k:Nat} (h:(l ++ [a])[k]? = some b):(k < l.length/\l[k]? = some b)\/(k = l.length/\b = a):=by
 by_cases hk:k < l.length
 .rw [aD hk] at h
  exact .inl ⟨hk,h⟩
 .have hl:=(ao.mp h).1
  rw [aA,List.length_cons,List.length_nil] at hl
  have e:k = l.length:=by omega
  subst e
  rw [aC (aF _),Nat.sub_self] at h
  cases h
  exact .inr ⟨rfl,rfl⟩
structure fD {α β:Type} (R:α->β->Prop) (xs:List α) (ys:List β):Prop where
 len:xs.length = ys.length
 at_:∀ (k:Nat) (x:α) (y:β),xs[k]? = some x->ys[k]? = some y->R x y
theorem fD.imp {α β:Type} {R S:α->β->Prop} {xs:List α} {ys:List β} (h:fD R xs ys) (i:∀ x y,R x y->S x y):fD S xs ys:=⟨h.len,fun k x y a b=>i x y (h.at_ k x y a b)⟩
theorem fD.nil {α β:Type} {R:α->β->Prop} : fD R [] []:=⟨rfl,fun k x y a=>by simp at a⟩
theorem fD.snoc {α β:Type} {R:α->β->Prop} {xs:List α} {ys:List β} {x:α} {y:β} (h:fD R xs ys) (r:R x y):fD R (xs ++ [x]) (ys ++ [y]):=by
 have l:=h.len
 refine ⟨by rw [aA,aA,l]; rfl,fun k u v a b=>?_⟩
 rcases pQ a with ⟨a1,a2⟩ | ⟨a1,a2⟩ <;> rcases pQ b with ⟨b1,b2⟩ | ⟨b1,b2⟩
 .exact h.at_ k u v a2 b2
 .omega
 .omega
 .subst a2; subst b2; exact r
theorem fD.get {α β:Type} {R:α->β->Prop} {xs:List α} {ys:List β} (h:fD R xs ys) {k:Nat} {x:α} (e:xs[k]? = some x):∃ y,ys[k]? = some y/\R x y:=by
 have lk:k < ys.length:=by rw [<- h.len]; exact (ao.mp e).1
 exact ⟨_,aj lk,h.at_ k x _ e (aj lk)⟩
noncomputable def nV (n:Nat):V:=.int (n:Nat)
noncomputable def IL (H:Hp) (v:V) (xs:List Nat):Prop:=∃ p,v = .ref p/\H p = some (.lst (xs.map nV))
noncomputable def ILL (H:Hp) (v:V) (xss:List (List Nat)):Prop:=∃ p zs,v = .ref p/\H p = some (.lst zs)/\fD (IL H) zs xss
noncomputable def Eu (H:Hp) (v:V) (xs:List (List (List Nat))):Prop:=∃ p zs,v = .ref p/\H p = some (.lst zs)/\fD (ILL H) zs xs
theorem IL.same {H H':Hp} (S:Same H H') {v:V} {xs:List Nat} (h:IL H v xs):IL H' v xs:=let ⟨p,a,b⟩:=h; ⟨p,a,S _ _ b⟩
theorem ILL.same {H H':Hp} (S:Same H H') {v:V} {xs:List (List Nat)} (h:ILL H v xs):ILL H' v xs:=let ⟨p,zs,a,b,c⟩:=h; ⟨p,zs,a,S _ _ b,c.imp fun _ _ z=>z.same S⟩
theorem Eu.same {H H':Hp} (S:Same H H') {v:V} {xs:List (List (List Nat))} (h:Eu H v xs):Eu H' v xs:=let ⟨p,zs,a,b,c⟩:=h; ⟨p,zs,a,S _ _ b,c.imp fun _ _ z=>z.same S⟩
noncomputable def stV:Option Nat->V
 | some k=>.int (k:Nat)
 | none=>.non
noncomputable def iB (st:List (Option Nat)) (r:Nat):Bool:=(st.getD r none).isSome
theorem aaO {st:List (Option Nat)} {r:Nat} (h:r < st.length):atI (st.map stV) (r:Nat) = some (stV (st.getD r none)):=by
 refine bV (j:=r) ?_
 rw [aq,aj h,au,aj h]; rfl
theorem acd {st:List (Option Nat)} {r:Nat} : (!decide (stV (st.getD r none) = .non)) = iB st r:=by
 unfold iB
 cases st.getD r none <;> rfl
noncomputable def vJ (D1:Addr) (H:Hp) (vs:List V) (k:Nat) (ys:List V) (H':Hp):Prop:=Same H H'/\H' D1 = some (.lst ys)/\ys = vs.take k
theorem vJ.next {D1:Addr} {H H' H2:Hp} {vs ys:List V} {k:Nat} {v:V} (h:vJ D1 H vs k ys H') (hD:H D1 = none) (S:Same H' H2) (e:vs[k]? = some v):vJ D1 H vs (k + 1) (ys ++ [v]) (upd H2 D1 (.lst (ys ++ [v]))):=by
 obtain ⟨S1,h1,rfl⟩:=h
 exact ⟨fun b o z=>(bF (bD z hD)).trans (S _ _ (S1 _ _ z)),bC,(cg e).symm⟩
noncomputable def yO:Sp:=fun vs H Q _=>∃ (d s:Addr) (xs:List Nat) (st:List (Option Nat)),vs = [.ref d,.ref s]/\H d = some (.lst (xs.map nV))/\H s = some (.lst (st.map stV))/\(∀ x ∈ xs,x < st.length)/\xs.length <= 100/\Q (.bl (xs.any (iB st))) H
theorem Wa (F:Fun K tK tK Bj f fd) (T:Txt K mg D):cu P w K mg base CX0 1 f fd uI yO:=by
 refine cu.clean (sp:=fun vs H Q _=>∃ (d s:Addr) (xs:List Nat) (st:List (Option Nat)),vs = [.ref d,.ref s]/\H d = some (.lst (xs.map nV))/\H s = some (.lst (st.map stV))/\(∀ x ∈ xs,x < st.length)/\xs.length <= 100/\∀ H',Same H H'->Q (.bl (xs.any (iB st))) H')
  (F.ok X7 (fun vs H Q E h=>?_) (fun cdv A outer s H vs Q E hr h=>?_)) fun vs H Q E ⟨d,s,xs,st,h1,h2,h3,h4,h5,h6⟩=>⟨d,s,xs,st,h1,h2,h3,h4,h5,fun H' S=>⟨S,h6⟩⟩
 .obtain ⟨d,s,xs,st,rfl,_⟩:=h
  rfl
 .obtain ⟨d,s,xs,st,rfl,hd,hs,hx,hl,q⟩:=h
  have z9:100 < sizeLine:=by decide
  refine ⟨_,(bL (bY (bU (vB rfl) (by rfl) T.Qh boot_any (bB (fW (bK Bj) Jt Jt ["room"] (cA ((pv 0)).mono) (cU (i:=0)) cF (jf IK (bQ bN (pv 2) (pv 0) (fun _ _=>rfl)) uP (cL _))) bG)))),?_⟩
  walk_at "rd"
  refine cC ?_
  walk_at "rd"
  refine ⟨_,hd,by rw [ak]; omega,fun D1 hD=>⟨vJ D1 H (xs.map fun r=>V.bl (iB st r)),⟨Same.upd hD,bC,rfl⟩,?_,?_⟩⟩
  .rintro k v ys Hc hk j hy hdc
   rw [aq] at hk
   cases e:xs[k]? with
   | none=>rw [e] at hk; cases hk
   | some r =>
    rw [e] at hk
    cases hk
    refine ⟨_,_,rfl,j.1 _ _ hs,_,aaO (hx r (aB e)),j.2.1,hdc,?_⟩
    rw [acd]
    exact j.next hD (fun _ _ z=>z) (by rw [aq,e]; rfl)
  .rintro ys Hc ⟨S1,h1,ey⟩ hy
   rw [ak,aK (by rw [ak]; exact aF _)] at ey
   subst ey
   refine ⟨D1,xs.map (iB st),rfl,by rw [h1,List.map_map]; rfl,?_⟩
   rw [List.any_map]
   exact q _ S1
noncomputable def gq (st:List (Option Nat)) (ds:List (List Nat)):Bool:=ds.any fun xs=>xs.any (iB st)
noncomputable def qQ (J:List (Option Nat)->List (List Nat)->Bool):Sp:=fun vs H Q _=>∃ (d s:Addr) (xs:List (List Nat)) (st:List (Option Nat)),vs = [.ref d,.ref s]/\ILL H (.ref d) xs/\H s = some (.lst (st.map stV))/\(∀ x ∈ xs,x.length <= 100/\∀ y ∈ x,y < st.length)/\xs.length <= 100/\Q (.bl (J st xs)) H
noncomputable def Vb (J:List (Option Nat)->List (List Nat)->Bool):Sp:=fun vs H Q _=>∃ (d s:Addr) (xs:List (List Nat)) (st:List (Option Nat)),vs = [.ref d,.ref s]/\ILL H (.ref d) xs/\H s = some (.lst (st.map stV))/\(∀ x ∈ xs,x.length <= 100/\∀ y ∈ x,y < st.length)/\xs.length <= 100/\∀ H',Same H H'->Q (.bl (J st xs)) H'
theorem N6 {J:List (Option Nat)->List (List Nat)->Bool} {k:Nat} {f:Addr} {fd:FuncData} {ps:List Str} (h:cu P w K mg base CX0 k f fd ps (Vb J)):cu P w K mg base CX0 k f fd ps (qQ J) :=
 cu.clean h fun vs H Q E ⟨d,s,xs,st,h1,h2,h3,h4,h5,h6⟩=>⟨d,s,xs,st,h1,h2,h3,h4,h5,fun H' S=>⟨S,h6⟩⟩
theorem NP (F:Fun K lY lY vC f fd) (T:Txt K mg D) (Ir:OkF P w K mg base 1 tK uI yO):cu P w K mg base CX0 2 f fd lQ (qQ gq):=by
 refine N6 (F.ok Nt (fun vs H Q E h=>?_) (fun cdv A outer s H vs Q E hr h=>?_))
 .obtain ⟨d,s,xs,st,rfl,_⟩:=h
  rfl
 .obtain ⟨d,s,xs,st,rfl,⟨d',zs,ed,hd,al⟩,hs,hx,hl,q⟩:=h
  cases ed
  have z9:100 < sizeLine:=by decide
  refine ⟨_,(bL (bY (bU (vB rfl) (by rfl) T.Qh boot_any (bB (fW (bK vC) zB zB ["door"] (cA ((pv 0)).mono) (cU (i:=0)) cF (bM Ir (hr.mono (by decide)) (by rfl) (bB (pv 0) (bB (pv 2) bG)))) bG)))),?_⟩
  unfold yO
  walk_at "rd"
  refine cC ?_
  walk_at "rd"
  refine ⟨_,hd,by rw [al.len]; omega,fun D1 hD=>⟨vJ D1 H (xs.map fun x=>V.bl (x.any (iB st))),⟨Same.upd hD,bC,rfl⟩,?_,?_⟩⟩
  .rintro k v ys Hc hk j hy hdc
   obtain ⟨x,e,p,rfl,hp⟩:=al.get hk
   have m:=hx x (aB e)
   refine ⟨p,rfl,x,j.1 _ _ hp,st,j.1 _ _ hs,m.2,m.1,j.2.1,hdc,?_⟩
   exact j.next hD (fun _ _ z=>z) (by rw [aq,e]; rfl)
  .rintro ys Hc ⟨S1,h1,ey⟩ hy
   rw [al.len,aK (by rw [ak]; exact aF _)] at ey
   subst ey
   refine ⟨D1,xs.map fun x=>x.any (iB st),rfl,by rw [h1,List.map_map]; rfl,?_⟩
   rw [List.any_map]
   exact q _ S1
noncomputable def bZ (n:Nat) (gs:List Nat):List Bool:=(List.range n).map fun k=>decide (k ∈ gs)
theorem ig {n:Nat} {gs:List Nat} : (bZ n gs).length = n:=by unfold bZ; rw [ak,List.length_range]
theorem Gf {n g:Nat} {gs:List Nat} (h:g < n):(bZ n gs).set g true = bZ n (gs ++ [g]):=by
 refine List.ext_getElem? fun k=>?_
 by_cases hk:k < n
 .by_cases e:g = k
  .subst e
   rw [List.getElem?_set_self (by rw [ig]; exact h)]
   unfold bZ
   rw [aq,List.getElem?_range h]
   simp
  .rw [List.getElem?_set_ne e]
   unfold bZ
   rw [aq,aq,List.getElem?_range hk]
   simp [Ne.symm e]
 .rw [aM (by rw [List.length_set,ig]; omega),aM (by rw [ig]; omega)]
theorem Ba {n k:Nat} (h:k < n):ixN n (k:Int) = some k:=by
 unfold ixN
 rw [if_pos (by omega),if_pos (by omega),Int.toNat_natCast]
noncomputable def mF (D:Adr):Sp:=fun vs H Q _=>∃ (o l p:Addr) (rms:List (Str × List Dr)) (gs:List Nat),vs = [.ref o,.ref l]/\jV D H o p rms/\H l = some (.lst (gs.map nV))/\gs.length <= 100/\(∀ g ∈ gs,g < rms.length)/\rms.length <= 20 /\
 ∀ r H',Same H H'->H r = none->H' r = some (.lst ((bZ rms.length gs).map V.bl))->Q (.ref r) H'
noncomputable def gmJ (o l D1:Addr) (n:Nat) (gs:List Nat) (H:Hp) (k:Nat) (σ:L2.St) (H':Hp):Prop:=∃ u,σ = [some (.ref o),some (.ref l),some (.ref D1),u]/\Same H H'/\H' D1 = some (.lst ((bZ n (gs.take k)).map V.bl))
theorem Fb (F:Fun K dR dR nW f fd) (T:Txt K mg D) (cI:OkI P w K mg base CX0 1 D.Hall_size dX (cX D)) (d7:OkI P w K mg base CX0 2 D.Hall_check_room cM (iz D)):cu P w K mg base CX0 3 f fd eO (mF D):=by
 refine F.ok iu (fun vs H Q E h=>?_) (fun cdv A outer s H vs Q E hr h=>?_)
 .obtain ⟨o,l,p,rms,gs,rfl,_⟩:=h
  rfl
 .obtain ⟨o,l,p,rms,gs,rfl,hh,hl,hg,hm,n20,q⟩:=h
  have z9:100 < sizeLine:=by decide
  have hI:=hh
  obtain ⟨dx,nn,ll,zs,ho,hn,hll,of_⟩:=hI
  refine ⟨_,(bI (bT (i:=2) iu.nd rfl (Or.inl rfl) (bO Kl (cR (bB iH bG)) (PE.any fun C (hC:cN D C)=>(lO (pv 0) (T.cl C hC.fam) (T.jq C hC) cI (hr.mono (by decide))))))
   (bI (gC PassesOwn.never rfl (cA ((pv 1)).mono) (bW (i:=3) iu.nd rfl (Or.inl rfl))
    (bI (dh (PE.any fun C (hC:cG D C)=>(Dp (pv 0) (T.cl C hC.fam) (T.jO C hC) d7 (hr.mono (by decide)) (bB (pv 3) bG))))
    (bL (tL iH (Dg (pv 2) (pv 3) set_list)))))
   (bL (bY (pv 2))))),?_⟩
  unfold cX iz
  walk_at "rd"
  refine ⟨by omega,fun p0 g0=>⟨D.Hall,(by unfold cN; simp),dx,_,Same.upd g0 _ _ ho,rfl,p,rms,hh.same (Same.upd g0),?_⟩⟩
  refine ⟨_,_,_,rfl,rfl,bC,?_⟩
  refine ⟨by omega,by omega,by simp; omega,fun D1 g1=>dG ?_⟩
  have S1:Same H (upd H p0 (.lst [.bl false])):=Same.upd g0
  have e1:(List.replicate ((rms.length:Int)).toNat [V.bl false]).flatten = (bZ rms.length []).map V.bl:=by
   rw [Int.toNat_natCast]
   unfold bZ
   generalize rms.length = n
   refine List.ext_getElem? fun k=>?_
   rw [List.flatten_replicate_singleton,List.map_map,aq]
   by_cases hk:k < n
   .rw [List.getElem?_range hk,List.getElem?_replicate,if_pos hk]; rfl
   .rw [aM (by rw [aN]; omega),aM (by rw [List.length_range]; omega)]; rfl
  rw [e1]
  have f1:=Same.free S1 g1
  have S2:Same H (upd (upd H p0 (.lst [.bl false])) D1 (.lst ((bZ rms.length []).map V.bl))):=S1.trans (Same.upd g1)
  walk_at "rd"
  refine ⟨_,S2 _ _ hl,gmJ o l D1 rms.length gs H,⟨none,rfl,S2,bC⟩,?_,?_⟩
  .rintro k v σ' H' hk ⟨u,rfl,S3,h3⟩ hx
   rw [aq] at hk
   cases e:gs[k]? with
   | none=>rw [e] at hk; cases hk
   | some g =>
    rw [e] at hk
    cases hk
    have gm:=hm g (aB e)
    walk_at "rd"
    refine ⟨D.Hall,(by unfold cG; simp),dx,_,S3 _ _ ho,rfl,⟨p,g,rfl,rms,hh.same S3,gm,?_⟩⟩
    have lD:D1 ≠ l:=fun z=>by
     subst z
     rw [hl] at f1
     cases f1
    refine ⟨_,_,rfl,h3,g,Ba (by rw [ak,ig]; exact gm),(bF lD.symm).trans (S3 _ _ hl),some (nV g),rfl,fun b o' z=>(bF (bD z f1)).trans (S3 _ _ z),?_⟩
    rw [bC,cg e,<- Gf gm,<- List.map_set]
  .rintro σ' H' ⟨u,rfl,S3,h3⟩ _
   rw [ak,aP] at h3
   exact ⟨_,rfl,q D1 H' S3 f1 h3⟩
noncomputable def gA (D:Adr):Sp:=fun vs H _ E=>∃ (o l p:Addr) (rms:List (Str × List Dr)) (gs:List Nat) (v:V) (more:List V),vs = [.ref o,.ref l]/\jV D H o p rms/\H l = some (.lst (gs.map nV ++ v :: more))/\gs.length + more.length <= 100/\(∀ g ∈ gs,g < rms.length)/\rms.length <= 20/\Odd H v/\¬ wC rms.length v /\
 ∀ d H',Same H H'->H d = none->H' d = some (.xd [("room",v)])->E (.ref D.NoRoom) (some d) H'
theorem Br (F:Fun K dR dR nW f fd) (T:Txt K mg D) (cI:OkI P w K mg base CX0 1 D.Hall_size dX (cX D)) (jK:OkI P w K mg base (CXO P w) 3 D.Hall_check_room cM (zG D)):cu P w K mg base (CXO P w) 4 f fd eO (gA D):=by
 refine F.okX iu (fun vs H Q E h=>?_) (fun cdv A outer s H vs Q E hr h=>?_)
 .obtain ⟨o,l,p,rms,gs,v,more,rfl,_⟩:=h
  rfl
 .obtain ⟨o,l,p,rms,gs,v,more,rfl,hh,hl,hg,hm,n20,ov,nv,q⟩:=h
  have z9:200 < sizeLine:=by decide
  have hI:=hh
  obtain ⟨dx,nn,ll,zs,ho,hn,hll,of_⟩:=hI
  refine ⟨_,(bI (bT (i:=2) iu.nd rfl (Or.inl rfl) (bO Kl (cR (bB iH bG)) (PE.any fun C (hC:cN D C)=>(lO (pv 0) (T.cl C hC.fam) (T.jq C hC) cI (hr.mono (by decide))))))
   (bI (gC PassesOwn.leaving rfl (cA ((pv 1)).mono) (bW (i:=3) iu.nd rfl (Or.inl rfl))
    (bI (dh (PE.any fun C (hC:cG D C)=>(Sx (pv 0) (T.cl C hC.fam) (T.jO C hC) jK (hr.mono (by decide)) fP (bB (pv 3) bG))))
    (bL (tL iH (Dg (pv 2) (pv 3) set_list)))))
   (bL (bY (pv 2))))),?_⟩
  unfold cX
  walk_at "rd"
  refine ⟨by omega,fun p0 g0=>⟨D.Hall,(by unfold cN; simp),dx,_,Same.upd g0 _ _ ho,rfl,p,rms,hh.same (Same.upd g0),?_⟩⟩
  refine ⟨_,_,_,rfl,rfl,bC,?_⟩
  refine ⟨by omega,by omega,by simp; omega,fun D1 g1=>dG ?_⟩
  have S1:Same H (upd H p0 (.lst [.bl false])):=Same.upd g0
  have e1:(List.replicate ((rms.length:Int)).toNat [V.bl false]).flatten = (bZ rms.length []).map V.bl:=by
   rw [Int.toNat_natCast]
   unfold bZ
   generalize rms.length = n
   refine List.ext_getElem? fun k=>?_
   rw [List.flatten_replicate_singleton,List.map_map,aq]
   by_cases hk:k < n
   .rw [List.getElem?_range hk,List.getElem?_replicate,if_pos hk]; rfl
   .rw [aM (by rw [aN]; omega),aM (by rw [List.length_range]; omega)]; rfl
  rw [e1]
  have f1:=Same.free S1 g1
  have S2:Same H (upd (upd H p0 (.lst [.bl false])) D1 (.lst ((bZ rms.length []).map V.bl))):=S1.trans (Same.upd g1)
  walk_at "rd"
  refine ⟨_,S2 _ _ hl,(fun k σ H'=>k <= gs.length/\gmJ o l D1 rms.length gs H k σ H'),⟨bh _,none,rfl,S2,bC⟩,?_,?_⟩
  .rintro k x σ' H' hk ⟨kl,u,rfl,S3,h3⟩ hx
   walk_at "rd"
   have lD:D1 ≠ l:=fun z=>by
    subst z
    rw [hl] at f1
    cases f1
   by_cases ke:k < gs.length
   .have e:gs[k]? = some gs[k]:=aj ke
    have ex:x = nV gs[k]:=by
     rw [aD (by rw [ak]; exact ke),aq,e] at hk
     exact (Option.some.inj hk).symm
    subst ex
    have gm:=hm gs[k] (aV ke)
    refine ⟨D.Hall,(by unfold cG; simp),_,rfl,o,dx,_,rfl,S3 _ _ ho,rfl,_,rfl,o,p,_,rms,rfl,hh.same S3,⟨_,rfl⟩,fun _=>?_,fun z=>absurd (show wC rms.length (nV gs[k]) from ⟨Int.natCast_nonneg _,Int.ofNat_lt.mpr gm⟩) z⟩
    walk_at "rd"
    refine ⟨_,_,rfl,h3,gs[k],Ba (by rw [ak,ig]; exact gm),(bF lD.symm).trans (S3 _ _ hl),ke,some (nV gs[k]),rfl,fun b o' z=>(bF (bD z f1)).trans (S3 _ _ z),?_⟩
    rw [bC,cg e,<- Gf gm,<- List.map_set]
   .have kg:k = gs.length:=by omega
    have ex:x = v:=by
     rw [kg,aC (by rw [ak]; exact aF _),ak,Nat.sub_self] at hk
     exact (Option.some.inj hk).symm
    subst ex
    refine ⟨D.Hall,(by unfold cG; simp),_,rfl,o,dx,_,rfl,S3 _ _ ho,rfl,_,rfl,o,p,_,rms,rfl,hh.same S3,ov.same S3,fun z=>absurd z nv,fun _ d hd=>?_⟩
    exact q d _ (S3.trans (Same.upd hd)) (Same.free S3 hd) bC
  .rintro σ' H' ⟨kl,_⟩ _
   rw [aA,ak,List.length_cons] at kl
   omega
structure I8 (rms:List (Str × List Dr)):Prop where
 len:rms.length <= 20
 few:∀ g ∈ rms,g.2.length <= 100
 ways:∀ g ∈ rms,∀ d ∈ g.2,d.ws.length <= 100
theorem nM {as:List Addr} {H:Hp} {a:Addr} {u:HO} (h:a ∈ as):del as (upd H a u) = del as H:=by
 funext b
 unfold del
 split
 .rfl
 .rename_i hb
  exact bF fun z=>hb (z ▸ h)
noncomputable def toN (ns:List Str) (z:Str):Nat:=ns.findIdx fun y=>decide (y = z)
theorem Ja {ns:List Str} {i:Nat} {z:Str} (nd:ns.Nodup) (h:ns[i]? = some z):toN ns z = i:=by
 obtain ⟨hi,rfl⟩:=ao.mp h
 unfold toN
 rw [List.findIdx_eq hi]
 refine ⟨decide_eq_true rfl,fun j hj=>decide_eq_false fun e=>?_⟩
 exact (List.pairwise_iff_getElem.mp nd) j i (by omega) hi hj e
noncomputable def yu (ns:List Str) (g:Dr):List Nat:=g.ws.map fun z=>toN ns z.1
noncomputable def Gk (ns:List Str) (g:Str × List Dr) (m:Bool):List (List Nat):=if m then [] else g.2.map (yu ns)
noncomputable def d8 (rms:List (Str × List Dr)) (ms:List Bool):List (List (List Nat)):=List.zipWith (Gk (rms.map (·.1))) rms ms
theorem Xw {c:TT} {a e:TE} {σ:L2.St} {H:Hp} {Q:VK} (h:∀ Q',Q' = Q->tIf c a e σ H Q'):tIf c a e σ H Q:=h Q rfl
noncomputable def mY (D:Adr):Sp:=fun vs H Q _=>∃ (o m p:Addr) (rms:List (Str × List Dr)) (ms:List Bool),vs = [.ref o,.ref m]/\jV D H o p rms/\H m = some (.lst (ms.map V.bl))/\ms.length = rms.length/\I8 rms/\(rms.map (·.1)).Nodup /\
 ∀ r H',Same H H'->H r = none->Eu H' (.ref r) (d8 rms ms)->Q (.ref r) H'
noncomputable def loJ (o m D1:Addr) (ls:List (List (List Nat))) (H:Hp) (k:Nat) (σ:L2.St) (H':Hp):Prop:=∃ u3 u4 u5 zs,σ = [some (.ref o),some (.ref m),some (.ref D1),u3,u4,u5]/\Same H H'/\H' D1 = some (.lst zs)/\fD (ILL (del [D1] H')) zs (ls.take k)
noncomputable def lpJ (D1 D2:Addr) (ls:List (List Nat)) (H:Hp) (k:Nat) (ys:List V) (H':Hp):Prop:=Same H H'/\H' D2 = some (.lst ys)/\fD (IL (del [D1,D2] H')) ys (ls.take k)
theorem K1 (F:Fun K j4 j4 o7 f fd) (T:Txt K mg D) (qg:OkI P w K mg base CX0 3 D.Hall_offers iU (lG D)):cu P w K mg base CX0 4 f fd jX (mY D):=by
 refine F.ok mW (fun vs H Q E h=>?_) (fun cdv A outer s H vs Q E hr h=>?_)
 .obtain ⟨o,m,p,rms,ms,rfl,_⟩:=h
  rfl
 .obtain ⟨o,m,p,rms,ms,rfl,hh,hm,ml,few,nd,q⟩:=h
  have z9:100 < sizeLine:=by decide
  have n20:=few.len
  have hI:=hh
  obtain ⟨dx,nn,ll,zs0,ho,hn,hll,of_⟩:=hI
  have lz:(d8 rms ms).length = rms.length:=by unfold d8; rw [List.length_zipWith]; omega
  refine ⟨_,(bI (bT (i:=2) mW.nd rfl (Or.inl rfl) (cR bG))
   (bI (gC PassesOwn.never rfl (Iw (by rfl) T.sJ (bB (pv 1) bG).mono) (fM (n:=2) rfl (b_ (bW (i:=3) mW.nd rfl (Or.inl rfl)) (b_ (bW (i:=4) mW.nd rfl (Or.inl rfl)) eZ)))
    (bI (bT (i:=5) mW.nd rfl (Or.inl rfl) (K3 (cQ (pv 4) (fun _=>rfl)) (cR bG) (PE.any fun C (hC:gG D C)=>(Dp (pv 0) (T.cl C hC.fam) (T.Bp C hC) qg (hr.mono (by decide)) (bB (pv 3) bG)))))
    (bL (dh (sX (pv 2) (bB (fW (bK o7) pF pF ["offer"] (cA ((pv 5)).mono) (cU (i:=0)) cF (wg (bK o7) ("offer" :: pF) ("offer" :: pF) ["behind", "chance"] rfl rfl rfl (by decide +kernel) (by decide +kernel) rfl (by decide +kernel) (by decide +kernel) (by decide +kernel) (by decide +kernel) (by decide +kernel) (sO (K:=K) rfl ((bQ dD (pv 0) bH (fun _ _=>rfl))).mono) (fun _ _ _ _ _=>(fM (n:=2) rfl (b_ (bW (i:=0) (show List.Nodup (["behind", "chance", "offer", "hall", "marks", "told", "room", "goal", "offered"] : List Str) from by decide +kernel) rfl (Or.inl rfl) (Or.inr rfl)) (b_ (bW (i:=1) (show List.Nodup (["behind", "chance", "offer", "hall", "marks", "told", "room", "goal", "offered"] : List Str) from by decide +kernel) rfl (Or.inl rfl) (Or.inr rfl)) eZ)))) (fun _ _ _ _ _=>cF) (fun _ _ _ _ _=>(pv 0)))) bG))))))
   (bL (bY (pv 2))))),?_⟩
  unfold lG
  walk_at "rd"
  refine ⟨bh _,fun D1 g1=>Nr ?_⟩
  walk_at "rd"
  refine ⟨_,Same.upd g1 _ _ hm,loJ o m D1 (d8 rms ms) H,⟨none,none,none,[],rfl,Same.upd g1,bC,.nil⟩,?_,?_⟩
  .rintro k v σ' H' t hk ⟨u3,u4,u5,zs,rfl,S1,h1,al⟩ hmk ht
   rw [aq] at hk
   have lk:k < rms.length:=by
    by_cases z:k < ms.length
    .omega
    .rw [aM (by omega)] at hk
     cases hk
   have em:ms[k]? = some (ms[k]'(by omega)):=aj _
   have eg:rms[k]? = some rms[k]:=aj lk
   have hg:=aV lk
   rw [em] at hk
   cases hk
   generalize ms[k]'(by omega) = b at em ⊢
   generalize rms[k] = g at eg hg
   have el:(d8 rms ms)[k]? = some (Gk (rms.map (·.1)) g b):=by
    unfold d8
    rw [List.getElem?_zipWith,eg,em]
   have ST:Same H' (upd H' t (.tup [.int k,.bl b])):=Same.upd ht
   generalize upd H' t (.tup [.int k,.bl b]) = H2 at ST ⊢
   refine Xw fun Post hP=>?_
   have fin:∀ (q0:Addr) (zs1:List V) (gs:List Dr) (H3:Hp),Same H2 H3->H3 q0 = some (.lst zs1)->qJ (rms.map (·.1)) (del [D1] H3) zs1 gs->gs.map (yu (rms.map (·.1))) = Gk (rms.map (·.1)) g b->gs.length <= 100->(∀ d ∈ gs,d.ws.length <= 100)->Post (.ref q0) H3:=by
    intro q0 zs1 gs H3 S3 h3 off eq gl wl
    subst hP
    have S13:Same H' H3:=ST.trans S3
    have h13:=S13 _ _ h1
    refine ⟨_,rfl,D1,rfl,⟨_,h13⟩,cC ?_⟩
    walk_at "rd"
    refine ⟨zs1,h3,by rw [off.len]; omega,fun D2 g2=>⟨lpJ D1 D2 (gs.map (yu (rms.map (·.1)))) H3,⟨Same.upd g2,bC,.nil⟩,?_,?_⟩⟩
    .rintro j x ys Hc hj ⟨T1,c1,ac⟩ hy hx
     have lj:j < gs.length:=by rw [<- off.len]; exact (ao.mp hj).1
     have ej:gs[j]? = some gs[j]:=aj lj
     have wj:=wl _ (aV lj)
     obtain ⟨t2,r2,us,a1,a2,a3,a4⟩:=off.at_ j _ ej
     generalize gs[j] = d at *
     rw [hj] at a1
     cases a1
     have b2:=T1 _ _ (gY _ _ a2)
     have b3:=T1 _ _ (gY _ _ a3)
     refine j5 ?_
     walk_at "rd"
     refine ⟨_,b2,_,bV (j:=2) rfl,r2,rfl,us,b3,by rw [a4.len]; omega,fun D3 g3=>⟨vJ D3 Hc (d.ws.map fun z=>nV (toN (rms.map (·.1)) z.1)),⟨Same.upd g3,bC,rfl⟩,?_,?_⟩⟩
     .rintro i v vs Hd hi jd hv hr2 pre hpre
      obtain ⟨w1,w2,rfl⟩:=m8 hpre
      have li:i < d.ws.length:=by rw [<- a4.len]; exact (ao.mp hi).1
      have ei:d.ws[i]? = some d.ws[i]:=aj li
      obtain ⟨t3,n3,c1',c2,c3⟩:=a4.at_ i _ ei
      generalize d.ws[i] = z at *
      rw [hi] at c1'
      cases c1'
      refine ⟨_,_,rfl,jd.1 _ _ (T1 _ _ (gY _ _ c3)),rfl,⟨_,_,rfl,_,_,rfl,rfl,[_,_],rfl,rfl,⟨_,rfl,jd.2.1,hr2,jd.next g3 (fun _ _ z=>z) ?_⟩⟩⟩
      rw [aq,ei,Option.map_some,Ja nd c2]; rfl
     .rintro vs Hd ⟨T2,d1,ev⟩ hv
      rw [a4.len,aK (by rw [ak]; exact aF _)] at ev
      have n1:D3 ≠ D1:=(bD (T1 _ _ h13) g3).symm
      have n2:D3 ≠ D2:=(bD c1 g3).symm
      refine ⟨T2 _ _ c1,T2 _ _ hx,fun b o e=>(bF (bD e g2)).trans (T2 _ _ (T1 _ _ e)),bC,?_⟩
      rw [nM (by simp),cg (by rw [aq,ej]; rfl)]
      refine (ac.imp fun _ _ z=>z.same (kO fun b o _ e=>T2 _ _ e)).snoc ⟨D3,rfl,eG (by simp; exact ⟨n1,n2⟩) ?_⟩
      rw [d1,ev]
      unfold yu
      rw [List.map_map]; rfl
    .rintro ys Hc ⟨T1,c1,ac⟩ hy
     rw [off.len,<- ak (f:=yu (rms.map (·.1))),aP] at ac
     have l1:=al.len
     rw [bf] at l1
     have n1:D2 ≠ D1:=(bD h13 g2).symm
     have nm:D1 ≠ m:=fun z=>by
      subst z
      rw [hm] at g1
      cases g1
     refine ⟨zs,T1 _ _ h13,by omega,(bF nm.symm).trans (T1 _ _ (S13 _ _ (S1 _ _ hm))),_,_,_,zs ++ [.ref D2],rfl,fun b o e=>(bF (bD e g1)).trans (T1 _ _ (S13 _ _ (S1 _ _ e))),bC,?_⟩
     rw [nM (by simp),cg el]
     refine (al.imp fun _ _ z=>z.same (kO fun b o _ e=>T1 _ _ (S13 _ _ e))).snoc ⟨D2,ys,rfl,eG (by simp; exact n1) c1,?_⟩
     rw [<- eq]
     refine ac.imp fun _ _ z=>z.same fun b o e=>?_
     obtain ⟨e1,e2⟩:=nj e
     exact eG (by simp at e1 ⊢; exact e1.1) e2
   unfold tIf
   walk_at "rd"
   have hh2:=(hh.same S1).same ST
   have h12:=ST _ _ h1
   cases b with
   | true =>
    rw [if_pos rfl]
    refine ⟨bh _,fun p5 g5=>fin p5 [] [] _ (Same.upd g5) bC ⟨rfl,fun k g e=>by simp at e⟩ rfl (bh _) (by simp)⟩
   | false =>
    rw [if_neg (by decide)]
    refine ⟨D.Hall,(by unfold gG; simp),dx,_,ST _ _ (S1 _ _ ho),rfl,p,k,rfl,rms,hh2,g,eg,few.few g hg,few.ways g hg,fun r H3 zs3 S3 f3 h3 off=>?_⟩
    refine fin r zs3 g.2 H3 S3 h3 (off [D1] fun a ha=>?_) rfl (few.few g hg) (few.ways g hg)
    rw [List.mem_singleton.mp ha]
    exact ⟨_,h12,by intro ys z; cases z⟩
  .rintro σ' H' ⟨u3,u4,u5,zs,rfl,S1,h1,al⟩ _
   rw [ak,ml,<- lz,aP] at al
   exact ⟨_,rfl,q D1 H' S1 g1 ⟨D1,zs,rfl,h1,al.imp fun _ _ z=>z.same gY⟩⟩
noncomputable abbrev Jn:=List (Option Nat)->List (List Nat)->Bool
noncomputable def st0 (ms:List Bool):List (Option Nat):=ms.map fun b=>if b then some 0 else none
noncomputable def pC (J:Jn) (st:List (Option Nat)) (ls:List (List (List Nat))) (r:Nat):Bool:=(st.getD r none).isNone && J st (ls.getD r [])
noncomputable def jB (J:Jn) (st:List (Option Nat)) (ls:List (List (List Nat))):List Nat:=(List.range ls.length).filter (pC J st ls)
noncomputable def sZ (st:List (Option Nat)) (cs:List Nat) (m:Nat):List (Option Nat):=(List.range st.length).map fun r=>if r ∈ cs then some m else st.getD r none
noncomputable def stK (J:Jn) (ms:List Bool) (ls:List (List (List Nat))):Nat->List (Option Nat)
 | 0=>st0 ms
 | m + 1=>sZ (stK J ms ls m) (jB J (stK J ms ls m) ls) (m + 1)
theorem pG {st:List (Option Nat)} {cs:List Nat} {m:Nat} : (sZ st cs m).length = st.length:=by unfold sZ; rw [ak,List.length_range]
theorem vA {J:Jn} {ms:List Bool} {ls:List (List (List Nat))} : ∀ m,(stK J ms ls m).length = ms.length
 | 0=>ak ..
 | m + 1=>by
  show (sZ _ _ _).length = _
  rw [pG,vA m]
theorem Bg {st:List (Option Nat)} {cs:List Nat} {m r:Nat} (h:r < st.length):(sZ st cs m).getD r none = if r ∈ cs then some m else st.getD r none:=by
 unfold sZ
 rw [au,aq,List.getElem?_range h]; rfl
theorem Df {st:List (Option Nat)} {m:Nat} : sZ st [] m = st:=by
 refine List.ext_getElem? fun k=>?_
 by_cases hk:k < st.length
 .unfold sZ
  rw [aq,List.getElem?_range hk,Option.map_some,if_neg (by simp),au,aj hk]; rfl
 .rw [aM (by rw [pG]; omega),aM (by omega)]
theorem XC {st:List (Option Nat)} {cs:List Nat} {m c:Nat} (h:c < st.length):(sZ st cs m).set c (some m) = sZ st (cs ++ [c]) m:=by
 refine List.ext_getElem? fun k=>?_
 by_cases hk:k < st.length
 .by_cases e:c = k
  .subst e
   rw [List.getElem?_set_self (by rw [pG]; exact h)]
   unfold sZ
   rw [aq,List.getElem?_range h]
   simp
  .rw [List.getElem?_set_ne e]
   unfold sZ
   rw [aq,aq,List.getElem?_range hk]
   simp [Ne.symm e]
 .rw [aM (by rw [List.length_set,pG]; omega),aM (by rw [pG]; omega)]
theorem u9 {J:Jn} {st:List (Option Nat)} {ls:List (List (List Nat))} {r:Nat} : r ∈ jB J st ls ↔ r < ls.length/\pC J st ls r = true:=by
 unfold jB
 rw [List.mem_filter,List.mem_range]
noncomputable def RJ (st:List (Option Nat)):Nat:=st.countP (·.isNone)
theorem zf {α:Type} {p q:α->Bool} : ∀ {l:List α},(∀ x ∈ l,q x = true->p x = true)->(∃ x ∈ l,p x = true/\q x = false)->l.countP q < l.countP p
 | [],_,h=>by obtain ⟨x,hx,_⟩:=h; simp at hx
 | a :: l,hs,h=>by
  have le:l.countP q <= l.countP p:=List.countP_mono_left fun x hx hq=>hs x (aH _ hx) hq
  rw [List.countP_cons,List.countP_cons]
  obtain ⟨x,hx,h1,h2⟩:=h
  rcases List.mem_cons.mp hx with rfl | hx
  .rw [if_pos h1,if_neg (by simp [h2])]; omega
  .have:=zf (l:=l) (fun x hx hq=>hs x (aH _ hx) hq) ⟨x,hx,h1,h2⟩
   have ha:=hs a aO
   by_cases qa:q a = true
   .rw [if_pos qa,if_pos (ha qa)]; omega
   .rw [if_neg qa]
    split <;> omega
theorem M4 {st:List (Option Nat)} : RJ st = (List.range st.length).countP fun r=>(st.getD r none).isNone:=by
 have e:st = (List.range st.length).map fun r=>st.getD r none:=by
  refine List.ext_getElem? fun k=>?_
  by_cases hk:k < st.length
  .rw [aq,List.getElem?_range hk,Option.map_some,au,aj hk]; rfl
  .rw [aM (by omega),aM (by rw [ak,List.length_range]; omega)]
 unfold RJ
 conv=>lhs; rw [e]
 rw [List.countP_map]; rfl
theorem RP {J:Jn} {st:List (Option Nat)} {ls:List (List (List Nat))} {m:Nat} (hl:ls.length = st.length) (h:jB J st ls ≠ []):RJ (sZ st (jB J st ls) m) < RJ st:=by
 rw [M4,M4,pG]
 obtain ⟨r,hr⟩:=List.exists_mem_of_ne_nil _ h
 obtain ⟨r1,r2⟩:=u9.mp hr
 unfold pC at r2
 rw [Bool.and_eq_true] at r2
 refine zf (fun x hx hq=>?_) ⟨r,List.mem_range.mpr (by omega),r2.1,?_⟩
 .rw [Bg (List.mem_range.mp hx)] at hq
  split at hq
  .cases hq
  .exact hq
 .rw [Bg (by omega),if_pos hr]; rfl
noncomputable def fJ2 (D1:Addr) (H:Hp) (p:Nat->Bool) (k:Nat) (ys:List V) (H':Hp):Prop:=Same H H'/\H' D1 = some (.lst ys)/\ys = ((List.range k).filter p).map nV
theorem fJ2.yes {D1:Addr} {H H' H2:Hp} {p:Nat->Bool} {k:Nat} {ys:List V} (h:fJ2 D1 H p k ys H') (hD:H D1 = none) (S:Same H' H2) (e:p k = true):fJ2 D1 H p (k + 1) (ys ++ [nV k]) (upd H2 D1 (.lst (ys ++ [nV k]))):=by
 obtain ⟨S1,h1,rfl⟩:=h
 refine ⟨fun b o z=>(bF (bD z hD)).trans (S _ _ (S1 _ _ z)),bC,?_⟩
 rw [List.range_succ,List.filter_append,bw,List.filter_cons,if_pos e]; rfl
theorem fJ2.no {D1:Addr} {H H' H2:Hp} {p:Nat->Bool} {k:Nat} {ys:List V} (h:fJ2 D1 H p k ys H') (S:Same H' H2) (e:p k = false):fJ2 D1 H p (k + 1) ys H2:=by
 obtain ⟨S1,h1,rfl⟩:=h
 refine ⟨S1.trans S,S _ _ h1,?_⟩
 rw [List.range_succ,List.filter_append,List.filter_cons,if_neg (by simp [e]),List.filter_nil,List.append_nil]
noncomputable def swJ (J:Jn) (ms:List Bool) (ls:List (List (List Nat))) (m l f1 D1:Addr) (H:Hp) (M:Nat) (σ:L2.St) (H':Hp):Prop:=∃ (k:Nat) (cs:List Nat) (Dc:Addr) (u:Option V),σ = [some (.ref m),some (.ref l),some (.ref f1),some (.ref D1),some (.ref Dc),some (.int (k:Nat)),u]/\Same H H'/\H' D1 = some (.lst ((stK J ms ls k).map stV))/\H' Dc = some (.lst (cs.map nV))/\cs.length <= 20/\(cs = []->jB J (stK J ms ls k) ls = [])/\M = 2 * RJ (stK J ms ls k) + (if cs = [] then 0 else 1)
noncomputable def mV (P:Program) (w:World) (K:Frag) (mg:Str->Option Value) (base:Heap):Sp:=fun vs H Q _=>∃ (J:Jn) (_:∀ st xs,(∀ r,iB st r = false)->J st xs = false) (m l f:Addr) (ps:List Str) (ms:List Bool) (ls:List (List (List Nat))),vs = [.ref m,.ref l,.ref f]/\OkV P w K mg base 2 f ps (qQ J)/\H m = some (.lst (ms.map V.bl))/\Eu H (.ref l) ls/\ls.length = ms.length/\ms.length <= 20/\(∀ ds ∈ ls,ds.length <= 100/\∀ x ∈ ds,x.length <= 100/\∀ y ∈ x,y < ms.length) /\
 ∀ r M H',Same H H'->H r = none->H' r = some (.lst ((stK J ms ls M).map stV))->jB J (stK J ms ls M) ls = []->Q (.ref r) H'
theorem Lj (F:Fun K jW jW mz f fd) (T:Txt K mg D):cu P w K mg base CX0 3 f fd jZ (mV P w K mg base):=by
 refine F.ok iV (fun vs H Q E h=>?_) (fun cdv A outer s H vs Q E hr h=>?_)
 .obtain ⟨J,hJ,m,l,f,ps,ms,ls,rfl,_⟩:=h
  rfl
 .obtain ⟨J,hJ,m,l,f1,ps1,ms,ls,rfl,aaA,hm,⟨l',zs,el,hl,al⟩,ll,n20,hb,q⟩:=h
  cases el
  have z9:100 < sizeLine:=by decide
  refine ⟨_,(bI (bT (i:=3) iV.nd rfl (Or.inr rfl) (fW (bK mz) oN oN ["mark"] (cA ((pv 0)).mono) (cU (i:=0)) cF (K3 (cQ (pv 0) (fun _=>rfl)) bH uP)))
   (bI (vN (bK mz) oN ["marks", "leads", "joins", "steps", "coming", "many", "?room"] ["room", "mark"] (Iw (by rfl) T.sJ (bB (pv 0) bG).mono) (fM (n:=2) rfl (b_ (cU (i:=0)) (b_ (cU (i:=1)) eZ))) (wZ (cQ (pv 1) (fun _=>rfl))) (pv 0) (bW (i:=4) iV.nd rfl (Or.inl rfl)))
   (bI (bT (i:=5) iV.nd rfl (Or.inl rfl) bH)
   (bI (uK PassesOwn.never (cW Qt (bU cT (by rfl) T.iC PySem.boot_len (bB (pv 4) bG)) bH (cL _))
    (bI (ab2 (i:=5) iV.nd rfl (Or.inl rfl) bH abq)
    (bI (vN (bK mz) oN ["marks", "leads", "joins", "steps", "coming", "many", "?room"] ["room", "doors"] (Iw (by rfl) T.sJ (bB (pv 1) bG).mono) (fM (n:=2) rfl (b_ (cU (i:=0)) (b_ (cU (i:=1)) eZ))) (wZ (PW.pt (pw_and (cW aa2 (bQ bN (pv 5) (pv 0) (fun _ _=>rfl)) uP (cL _)) (pw_and1 (cQ (Va aaA (hr.mono (by decide)) (pv 4) (bB (pv 1) (bB (pv 5) bG))) (fun _=>rfl)))))) (pv 0) (bW (i:=4) iV.nd rfl (Or.inl rfl)))
    (bL (gC PassesOwn.never rfl (cA ((pv 4)).mono) (bW (i:=6) iV.nd rfl (Or.inl rfl))
     (bL (tL (pv 5) (Dg (pv 3) (pv 6) set_list))))))))
   (bL (bY (pv 3))))))),?_⟩
  unfold qQ
  refine cB fun R1 hR1=>?_
  walk_at "rd"
  refine cC ?_
  unfold tIf
  walk_at "rd"
  refine ⟨_,hm,by rw [ak]; omega,fun D1 g1=>⟨vJ D1 H ((st0 ms).map stV),⟨Same.upd g1,bC,rfl⟩,?_,?_⟩⟩
  .rintro k v ys Hc hk j hy hmc
   rw [aq] at hk
   cases e:ms[k]? with
   | none=>rw [e] at hk; cases hk
   | some b =>
    rw [e] at hk
    cases hk
    have e2:((st0 ms).map stV)[k]? = some (stV (if b then some 0 else none)):=by unfold st0; rw [List.map_map,aq,e]; rfl
    cases b with
    | true=>exact ⟨true,rfl,by rw [if_pos rfl]; exact ⟨j.2.1,hmc,j.next g1 (fun _ _ z=>z) e2⟩⟩
    | false=>exact ⟨false,rfl,by rw [if_neg (by decide)]; exact ⟨j.2.1,hmc,j.next g1 (fun _ _ z=>z) e2⟩⟩
  rintro ys H1 ⟨S1,h1,ey⟩ hy
  have e0:(st0 ms).length = ms.length:=ak ..
  rw [ak,aK (by rw [ak,e0]; exact aF _)] at ey
  subst ey
  subst hR1
  refine cB fun R2 hR2=>?_
  walk_at "rd"
  refine zZ ?_
  walk_at "rd"
  refine ⟨_,S1 _ _ hm,by rw [ak]; omega,fun Dc g2=>⟨fJ2 Dc H1 fun r=>ms.getD r false,⟨Same.upd g2,bC,rfl⟩,?_,?_⟩⟩
  .rintro k v zs2 Hc t hk j hz ht hmc pre hpre
   obtain ⟨w1,w2,rfl⟩:=m8 hpre
   rw [aq] at hk
   cases e:ms[k]? with
   | none=>rw [e] at hk; cases hk
   | some b =>
    rw [e] at hk
    cases hk
    have S2:Same Hc (upd Hc t (.tup [.int k,.bl b])):=Same.upd ht
    have pb:ms.getD k false = b:=by rw [au,e]; rfl
    refine ⟨_,_,rfl,bC,rfl,⟨_,_,rfl,_,_,rfl,rfl,[_,_],rfl,rfl,?_⟩⟩
    refine ⟨_,rfl,b,rfl,?_⟩
    cases b with
    | true=>exact ⟨_,rfl,S2 _ _ j.2.1,S2 _ _ hmc,j.yes g2 S2 pb⟩
    | false=>exact ⟨S2 _ _ hmc,j.no S2 pb⟩
  rintro zs2 H2 ⟨S2,h2,ez⟩ hz
  rw [ak] at ez
  subst ez
  have cl:((List.range ms.length).filter fun r=>ms.getD r false).length <= 20:=by
   have:=List.length_filter_le (fun r=>ms.getD r false) (List.range ms.length)
   rw [List.length_range] at this
   omega
  have c0:(List.range ms.length).filter (fun r=>ms.getD r false) = []->jB J (st0 ms) ls = []:=fun z=>by
   rw [List.filter_eq_nil_iff] at z
   unfold jB
   rw [List.filter_eq_nil_iff]
   intro r hr
   have hs:∀ r,iB (st0 ms) r = false:=fun r=>by
    unfold iB st0
    rw [au,aq]
    cases e:ms[r]? with
    | none=>rfl
    | some b =>
     have:=z r (List.mem_range.mpr (ao.mp e).1)
     rw [au,e] at this
     cases b with
     | true=>exact absurd rfl this
     | false=>rfl
   unfold pC
   rw [hJ _ _ hs,Bool.and_false]
   decide
  generalize (List.range ms.length).filter (fun r=>ms.getD r false) = cs0 at *
  subst hR2
  walk_at "rd"
  refine ⟨swJ J ms ls m l f1 D1 H,⟨_,0,cs0,Dc,none,rfl,S1.trans S2,S2 _ _ h1,h2,cl,c0,rfl⟩,?_⟩
  rintro M σ' H' ⟨k,cs,Dk,u,rfl,S3,h3,h4,c20,ce,rfl⟩
  walk_at "rd"
  refine ⟨_,h4,?_⟩
  rw [ak]
  by_cases n0:cs = []
  .subst n0
   rw [if_neg (by simp)]
   exact q D1 k H' S3 g1 h3 (ce rfl)
  .have c1:0 < cs.length:=List.length_pos_iff.mpr n0
   rw [if_pos (decide_eq_true (by omega)),if_neg n0]
   refine ⟨fun σ2 H5=>∃ M',M' < 2 * RJ (stK J ms ls k) + 1/\swJ J ms ls m l f1 D1 H M' σ2 H5,fun _ _ z=>z,?_⟩
   have sl:=vA (J:=J) (ms:=ms) (ls:=ls) k
   have nx:stK J ms ls (k + 1) = sZ (stK J ms ls k) (jB J (stK J ms ls k) ls) (k + 1):=rfl
   generalize hst:stK J ms ls k = st at h3 sl nx ⊢
   refine ⟨_,rfl,_,_,rfl,rfl,?_⟩
   dsimp only [qw,z7,List.set_cons_succ,List.set_cons_zero]
   refine zZ ?_
   walk_at "rd"
   refine ⟨_,S3 _ _ hl,by rw [al.len]; omega,fun D4 g4=>⟨fJ2 D4 H' (pC J st ls),⟨Same.upd g4,bC,rfl⟩,?_,?_⟩⟩
   .rintro r v zs3 Hc t hk j hz ht hlc pre hpre
    obtain ⟨w1,w2,rfl⟩:=m8 hpre
    obtain ⟨ds,ed,il⟩:=al.get hk
    have lr:r < ls.length:=(ao.mp ed).1
    have bd:=hb ds (aB ed)
    have eds:ls.getD r [] = ds:=by rw [au,ed]; rfl
    have S4:Same Hc (upd Hc t (.tup [.int r,v])):=Same.upd ht
    have hs4:=S4 _ _ (j.1 _ _ h3)
    have il4:=il.same ((S3.trans j.1).trans S4)
    refine ⟨_,_,rfl,bC,rfl,⟨_,_,rfl,_,_,rfl,rfl,[_,_],rfl,rfl,?_⟩⟩
    generalize upd Hc t (.tup [.int r,v]) = H5 at S4 hs4 il4 ⊢
    obtain ⟨pd,us,rfl,hp,aa⟩:=il4
    unfold Xu
    walk_at "rd"
    refine ⟨_,hs4,_,aaO (by omega),?_⟩
    have ec:pC J st ls r = ((st.getD r none).isNone && J st ds):=by unfold pC; rw [eds]
    cases es:st.getD r none with
    | some w0 =>
     rw [es] at ec
     rw [if_neg (by simp [stV])]
     exact ⟨S4 _ _ hlc,j.no S4 ec⟩
    | none =>
     rw [es] at ec
     have ec:pC J st ls r = J st ds:=by rw [ec]; rfl
     rw [if_pos (by simp [stV])]
     refine ⟨ds,⟨pd,us,rfl,hp,aa⟩,st,hs4,fun x hx=>⟨(bd.2 x hx).1,fun y hy=>by have:=(bd.2 x hx).2 y hy; omega⟩,bd.1,?_⟩
     cases e9:J st ds with
     | true=>exact ⟨S4 _ _ j.2.1,S4 _ _ hlc,j.yes g4 S4 (by rw [ec,e9])⟩
     | false=>exact ⟨S4 _ _ hlc,j.no S4 (by rw [ec,e9])⟩
   .rintro zs3 H5 ⟨S5,h5,ez⟩ hz
    rw [al.len] at ez
    have ez:zs3 = (jB J st ls).map nV:=ez
    subst ez
    have h35:=S5 _ _ h3
    have nD:D4 ≠ D1:=(bD h3 g4).symm
    refine dG ?_
    walk_at "rd"
    refine ⟨_,h5,fun k2 σ6 H6=>∃ u',σ6 = [some (.ref m),some (.ref l),some (.ref f1),some (.ref D1),some (.ref D4),some (.int ((k:Int) + 1)),u']/\Same H H6/\H6 D1 = some (.lst ((sZ st ((jB J st ls).take k2) (k + 1)).map stV)),⟨u,rfl,S3.trans S5,by rw [List.take_zero,Df]; exact h35⟩,?_,?_⟩
    .rintro k2 v σ6 H6 hk ⟨u',rfl,S6,h6⟩ hc6
     rw [aq] at hk
     cases e:(jB J st ls)[k2]? with
     | none=>rw [e] at hk; cases hk
     | some c =>
      rw [e] at hk
      cases hk
      have cm:=(u9.mp (aB e)).1
      walk_at "rd"
      refine ⟨_,_,rfl,h6,c,Ba (by rw [ak,pG]; omega),(bF nD).trans hc6,fun b o z=>(bF (bD z g1)).trans (S6 _ _ z),?_⟩
      rw [cg e,<- XC (by omega),List.map_set]; rfl
    .rintro σ6 H6 ⟨u',rfl,S6,h6⟩ hc6
     rw [ak,aP] at h6
     have c20':(jB J st ls).length <= 20:=by
      have:=List.length_filter_le (pC J st ls) (List.range ls.length)
      rw [List.length_range] at this
      unfold jB
      omega
     refine ⟨_,?_,k + 1,jB J st ls,D4,u',rfl,S6,by rw [nx]; exact h6,hc6,c20',fun z=>?_,rfl⟩
     .rw [nx]
      split
      .rename_i z
       rw [z,Df]; omega
      .rename_i z
       have:=RP (m:=k + 1) (by omega) z
       omega
     .rw [nx,z,Df,z]
theorem Sg (st:List (Option Nat)) (xs:List (List Nat)) (h:∀ r,iB st r = false):gq st xs = false:=by
 unfold gq
 rw [List.any_eq_false]
 intro x _ z
 obtain ⟨y,_,hy⟩:=List.any_eq_true.mp z
 rw [h] at hy
 cases hy
theorem Wm {rms:List (Str × List Dr)} {ms:List Bool} (few:I8 rms) (to_:∀ g ∈ rms,∀ d ∈ g.2,∀ z ∈ d.ws,z.1 ∈ rms.map (·.1)):∀ ds ∈ d8 rms ms,ds.length <= 100/\∀ x ∈ ds,x.length <= 100/\∀ y ∈ x,y < rms.length:=by
 intro ds hd
 unfold d8 at hd
 rw [List.mem_iff_getElem?] at hd
 obtain ⟨k,hk⟩:=hd
 rw [List.getElem?_zipWith] at hk
 cases eg:rms[k]? with
 | none=>rw [eg] at hk; cases hk
 | some g =>
  cases eb:ms[k]? with
  | none=>rw [eg,eb] at hk; cases hk
  | some b =>
   rw [eg,eb] at hk
   cases hk
   have hg:=aB eg
   unfold Gk
   cases b with
   | true=>exact ⟨bh _,by simp⟩
   | false =>
    refine ⟨by rw [if_neg (by decide),ak]; exact few.few g hg,fun x hx=>?_⟩
    rw [if_neg (by decide)] at hx
    obtain ⟨d,hd,rfl⟩:=List.mem_map.mp hx
    refine ⟨by unfold yu; rw [ak]; exact few.ways g hg d hd,fun y hy=>?_⟩
    unfold yu at hy
    obtain ⟨z,hz,rfl⟩:=List.mem_map.mp hy
    unfold toN
    have:=List.findIdx_lt_length_of_exists (p:=fun y=>decide (y = z.1)) (xs:=rms.map (·.1)) ⟨z.1,to_ g hg d hd z hz,decide_eq_true rfl⟩
    rw [ak] at this
    exact this
theorem S_ {K:Frag} {tl te:TE} {σ:L2.St} {H:Hp} {Q:VK} (vs:List V) (h:tl σ H fun x H1=>∃ a xs,x = .ref a/\H1 a = some (.lst xs)/\xs.length = vs.length/\vs.length <= sizeLine/\(∀ (k:Nat) x y Hc (R:VK),xs[k]? = some x->vs[k]? = some y->Same H1 Hc->(∀ H2,Same Hc H2->R y H2)->te (some x :: σ) Hc R) /\
  ∀ D Hc,Same H1 Hc->H1 D = none->Hc D = some (.lst vs)->Q (.ref D) Hc) (mono:∀ {σ H} {R R':VK},(∀ v H,R v H->R' v H)->tl σ H R->tl σ H R'):dO (pK K (tM tl)) 1 (tMG (dw 0)) (tMT vG) (tM te) σ H Q:=by
 refine cC (mono (fun x H1 ⟨a,xs,e,ha,l,sz,hb,q⟩=>⟨a,xs,e,ha,by omega,fun D hD=>⟨vJ D H1 vs,⟨Same.upd hD,bC,rfl⟩,fun k x ys Hc hk j hy hc=>?_,fun ys Hc ⟨S1,h1,ey⟩ hy=>?_⟩⟩) h)
 .have lk:k < vs.length:=by rw [<- l]; exact (ao.mp hk).1
  exact hb k x _ Hc _ hk (aj lk) j.1 fun H2 S=>⟨S _ _ j.2.1,S _ _ hc,j.next hD S (aj lk)⟩
 .rw [l,aP] at ey
  subst ey
  exact q D Hc S1 hD h1
theorem V4 {i:Nat} {σ:L2.St} {H:Hp} {R R':VK} (h:∀ v H,R v H->R' v H):jw i σ H R->jw i σ H R':=fun ⟨v,a,b⟩=>⟨v,a,h _ _ b⟩
theorem Bo {K:Frag} {i:Nat} {te:TE} {σ:L2.St} {H:Hp} {Q:VK} {a:Addr} {xs:List V} (vs:List V) (hσ:σ[i]? = some (some (.ref a))) (ha:H a = some (.lst xs)) (l:xs.length = vs.length) (sz:vs.length <= sizeLine) (hb:∀ (k:Nat) x y Hc (R:VK),xs[k]? = some x->vs[k]? = some y->Same H Hc->(∀ H2,Same Hc H2->R y H2)->te (some x :: σ) Hc R)
  (q:∀ D Hc,Same H Hc->H D = none->Hc D = some (.lst vs)->Q (.ref D) Hc):dO (pK K (tM (jw i))) 1 (tMG (dw 0)) (tMT vG) (tM te) σ H Q:=S_ vs ⟨_,hσ,a,xs,rfl,ha,l,sz,hb,q⟩ V4
theorem tQ {st:List (Option Nat)} {ds:List (List Nat)} : gq st ds = true ↔ ∃ d ∈ ds,∃ y ∈ d,iB st y = true:=by
 unfold gq
 rw [List.any_eq_true]
 constructor
 .rintro ⟨d,hd,h⟩
  exact ⟨d,hd,List.any_eq_true.mp h⟩
 .rintro ⟨d,hd,h⟩
  exact ⟨d,hd,List.any_eq_true.mpr h⟩
theorem Mz {J:Jn} {ms:List Bool} {ls:List (List (List Nat))} {r:Nat} : iB (stK J ms ls 0) r = true ↔ ms.getD r false = true:=by
 show iB (st0 ms) r = true ↔ _
 unfold iB st0
 rw [au,au,aq]
 cases ms[r]? with
 | none=>simp
 | some b=>cases b <;> simp
theorem has_lt {st:List (Option Nat)} {r:Nat} (h:iB st r = true):r < st.length:=by
 refine Nat.lt_of_not_le fun z=>?_
 unfold iB at h
 rw [au,aM z] at h
 cases h
theorem VG {J:Jn} {ms:List Bool} {ls:List (List (List Nat))} {m r:Nat} (h:iB (stK J ms ls (m + 1)) r = true):iB (stK J ms ls m) r = true\/(r < ls.length/\J (stK J ms ls m) (ls.getD r []) = true):=by
 have l:=has_lt h
 have h:iB (sZ (stK J ms ls m) (jB J (stK J ms ls m) ls) (m + 1)) r = true:=h
 rw [vA] at l
 unfold iB at h
 rw [Bg (by rw [vA]; exact l)] at h
 split at h
 .rename_i c
  obtain ⟨a,b⟩:=u9.mp c
  unfold pC at b
  rw [Bool.and_eq_true] at b
  exact .inr ⟨a,b.2⟩
 .exact .inl h
theorem aco {J:Jn} {ms:List Bool} {ls:List (List (List Nat))} {m r:Nat} (h:iB (stK J ms ls m) r = true):iB (stK J ms ls (m + 1)) r = true:=by
 have l:=has_lt h
 show iB (sZ (stK J ms ls m) (jB J (stK J ms ls m) ls) (m + 1)) r = true
 unfold iB at h ⊢
 rw [Bg l]
 split
 .rfl
 .exact h
theorem sV {J:Jn} {ms:List Bool} {ls:List (List (List Nat))} {r:Nat} (h:ms.getD r false = true):∀ m,iB (stK J ms ls m) r = true
 | 0=>Mz.mpr h
 | m + 1=>aco (sV h m)
theorem Bb {J:Jn} {ms:List Bool} {ls:List (List (List Nat))} (X:Nat->Prop) (h0:∀ r,ms.getD r false = true->X r) (h1:∀ st r,(∀ y,iB st y = true->X y)->r < ls.length->J st (ls.getD r []) = true->X r):∀ m r,iB (stK J ms ls m) r = true->X r
 | 0,r,h=>h0 r (Mz.mp h)
 | m + 1,r,h=>by
  rcases VG h with h | ⟨a,b⟩
  .exact Bb X h0 h1 m r h
  .exact h1 _ r (fun y hy=>Bb X h0 h1 m y hy) a b
theorem G4 {J:Jn} {st:List (Option Nat)} {ls:List (List (List Nat))} {r:Nat} (c:jB J st ls = []) (h:r < ls.length) (j:J st (ls.getD r []) = true):iB st r = true:=by
 unfold iB
 cases e:st.getD r none with
 | some k=>rfl
 | none =>
  have:r ∈ jB J st ls:=u9.mpr ⟨h,by unfold pC; rw [e,j]; rfl⟩
  rw [c] at this
  cases this
noncomputable def qp (lot:List Bool) (x:List Nat):Bool:=x.all fun r=>lot.getD r false
noncomputable def gR (lot:List Bool) (ls:List (List (List Nat))):List (List (List Nat)):=ls.map fun ds=>ds.filter (qp lot)
noncomputable def Fx (st:List (Option Nat)):List Bool:=st.map (·.isSome)
theorem Ci {st:List (Option Nat)} {r:Nat} : (Fx st).getD r false = iB st r:=by
 unfold Fx iB
 rw [au,au,aq]
 cases st[r]? <;> rfl
theorem CV {lot:List Bool} {ls:List (List (List Nat))} {r:Nat} : (gR lot ls).getD r [] = (ls.getD r []).filter (qp lot):=by
 unfold gR
 rw [au,au,aq]
 cases ls[r]? <;> rfl
theorem vq {lot:List Bool} {x:List Nat} : qp lot x = true ↔ ∀ y ∈ x,lot.getD y false = true:=by unfold qp; rw [List.all_eq_true]
noncomputable def jF (ms:List Bool) (ls:List (List (List Nat))) (lot lot':List Bool):Prop:=∃ M,jB gq (stK gq ms (gR lot ls) M) (gR lot ls) = []/\lot' = Fx (stK gq ms (gR lot ls) M)
noncomputable def gQ (a b:List Bool):Prop:=∀ r,a.getD r false = true->b.getD r false = true
theorem jF.len {ms:List Bool} {ls:List (List (List Nat))} {lot lot':List Bool} (h:jF ms ls lot lot'):lot'.length = ms.length:=by
 obtain ⟨M,_,rfl⟩:=h
 unfold Fx
 rw [ak,vA]
theorem jF.mono {ms:List Bool} {ls:List (List (List Nat))} {a b a' b':List Bool} (h:jF ms ls a a') (g:jF ms ls b b') (le:gQ a b):gQ a' b':=by
 obtain ⟨M,_,rfl⟩:=h
 obtain ⟨N,c,rfl⟩:=g
 intro r hr
 rw [Ci] at hr ⊢
 have ll:∀ z:List Bool,(gR z ls).length = ls.length:=fun z=>ak ..
 refine Bb (fun r=>iB (stK gq ms (gR b ls) N) r = true) (fun r h=>sV h N) (fun st r i l j=>G4 c (by rw [ll] at l ⊢; exact l) ?_) M r hr
 obtain ⟨d,hd,y,hy,e⟩:=tQ.mp j
 rw [CV] at hd ⊢
 obtain ⟨h1,h2⟩:=List.mem_filter.mp hd
 exact tQ.mpr ⟨d,List.mem_filter.mpr ⟨h1,vq.mpr fun z hz=>le z (vq.mp h2 z hz)⟩,y,hy,i y e⟩
inductive Fz (ms:List Bool) (ls:List (List (List Nat))):List Bool->Prop
 | all:Fz ms ls (List.replicate ms.length true)
 | next {lot lot':List Bool} (h:Fz ms ls lot) (n:jF ms ls lot lot'):Fz ms ls lot'
theorem Fz.len {ms:List Bool} {ls:List (List (List Nat))} {lot:List Bool} (h:Fz ms ls lot):lot.length = ms.length:=by
 cases h with
 | all=>exact aN
 | next h n=>exact n.len
theorem Rg {ms:List Bool} {lot:List Bool} (h:lot.length = ms.length):gQ lot (List.replicate ms.length true):=by
 intro r hr
 have:r < lot.length:=Nat.lt_of_not_le fun z=>by
  rw [au,aM z] at hr
  cases hr
 rw [au,List.getElem?_replicate,if_pos (by omega)]; rfl
noncomputable def rR (lot:List Bool):Nat:=lot.countP id
theorem FW {lot:List Bool} : rR lot = (List.range lot.length).countP fun r=>lot.getD r false:=by
 have e:lot = (List.range lot.length).map fun r=>lot.getD r false:=by
  refine List.ext_getElem? fun k=>?_
  by_cases hk:k < lot.length
  .rw [aq,List.getElem?_range hk,Option.map_some,au,aj hk]; rfl
  .rw [aM (by omega),aM (by rw [ak,List.length_range]; omega)]
 unfold rR
 conv=>lhs; rw [e]
 rw [List.countP_map]; rfl
theorem oZ {a b:List Bool} (l:a.length = b.length) (le:gQ a b) (ne:a ≠ b):rR a < rR b:=by
 rw [FW,FW,l]
 refine zf (fun x _ h=>le x h) ?_
 refine Classical.byContradiction fun z=>ne ?_
 refine List.ext_getElem? fun k=>?_
 by_cases hk:k < a.length
 .have hk':k < b.length:=by omega
  have ga:a.getD k false = a[k]:=by rw [au,aj hk]; rfl
  have gb:b.getD k false = b[k]:=by rw [au,aj hk']; rfl
  rw [aj hk,aj hk',<- ga,<- gb]
  have h:=le k
  cases ea:a.getD k false <;> cases eb:b.getD k false
  .rfl
  .exact absurd ⟨k,List.mem_range.mpr hk',eb,ea⟩ z
  .rw [ea,eb] at h; cases h rfl
  .rfl
 .rw [aM (by omega),aM (by omega)]
noncomputable def oH:Sp:=fun vs H Q _=>∃ (l t:Addr) (ls:List (List (List Nat))) (lot:List Bool),vs = [.ref l,.ref t]/\Eu H (.ref l) ls/\H t = some (.lst (lot.map V.bl))/\ls.length <= 20/\(∀ ds ∈ ls,ds.length <= 100/\∀ x ∈ ds,x.length <= 100/\∀ y ∈ x,y < lot.length) /\
 ∀ r H',Same H H'->H r = none->Eu H' (.ref r) (gR lot ls)->Q (.ref r) H'
theorem Cu {lot:List Bool} {r:Nat} (h:r < lot.length):atI (lot.map V.bl) (r:Nat) = some (.bl (lot.getD r false)):=by
 refine bV (j:=r) ?_
 rw [aq,aj h,au,aj h]; rfl
noncomputable def SL (H H':Hp) (D1:Addr) (v:V) (ds:List (List Nat)):Prop:=∃ p zs,v = .ref p/\p ≠ D1/\H' p = some (.lst zs)/\fD (IL H) zs ds
noncomputable def syJ (D1:Addr) (lot:List Bool) (ls:List (List (List Nat))) (H:Hp) (k:Nat) (ys:List V) (H':Hp):Prop:=Same H H'/\H' D1 = some (.lst ys)/\fD (SL H H' D1) ys ((gR lot ls).take k)
noncomputable def siJ (D2:Addr) (lot:List Bool) (ds:List (List Nat)) (H H1:Hp) (k:Nat) (ys:List V) (H':Hp):Prop:=Same H1 H'/\H' D2 = some (.lst ys)/\fD (IL H) ys ((ds.take k).filter (qp lot))
theorem Pg (F:Fun K lR lR oF f fd) (T:Txt K mg D):cu P w K mg base CX0 1 f fd lW oH:=by
 refine F.ok Pu (fun vs H Q E h=>?_) (fun cdv A outer s H vs Q E hr h=>?_)
 .obtain ⟨l,t,ls,lot,rfl,_⟩:=h
  rfl
 .obtain ⟨l,t,ls,lot,rfl,⟨l',zs,el,hl,al⟩,ht,n20,hb,q⟩:=h
  cases el
  have z9:100 < sizeLine:=by decide
  refine ⟨_,(bL (bY (fW (bK oF) lU lU ["doors"] (cA ((pv 0)).mono) (cU (i:=0)) cF (wg (bK oF) ("doors" :: lU) ("doors" :: lU) ["door"] rfl rfl rfl (by decide +kernel) (by decide +kernel) rfl (by decide +kernel) (by decide +kernel) (by decide +kernel) (by decide +kernel) (by decide +kernel) (sO (K:=K) rfl ((pv 0)).mono) (fun _ _ _ _ _=>(bW (i:=0) (show List.Nodup (["door", "doors", "leads", "lot"] : List Str) from by decide +kernel) rfl (Or.inl rfl) (Or.inr rfl))) (fun _ _ _ _ _=>(wZ (cQ (bU (vg rfl) (by rfl) T.Q5 boot_all (bB (Cz (bK oF) ("door" :: "doors" :: lU) ("door" :: "doors" :: lU) ["room"] rfl rfl rfl (by decide +kernel) (by decide +kernel) rfl (by decide +kernel) (by decide +kernel) (by decide +kernel) (by decide +kernel) (by decide +kernel) (sO (K:=K) rfl ((pv 0)).mono) (fun _ _ _ _ _=>(bW (i:=0) (show List.Nodup (["room", "door", "doors", "leads", "lot"] : List Str) from by decide +kernel) rfl (Or.inl rfl) (Or.inr rfl))) (fun _ _ _ _ _=>cF) (fun _ _ _ _ _=>(bQ bN (pv 4) (pv 0) (fun _ _=>rfl)))) bG)) (fun _=>rfl)))) (fun _ _ _ _ _=>(pv 0)))))),?_⟩
  walk_at "rd"
  refine cC ?_
  walk_at "rd"
  refine ⟨_,hl,by rw [al.len]; omega,fun D1 g1=>⟨syJ D1 lot ls H,⟨Same.upd g1,bC,.nil⟩,?_,?_⟩⟩
  .rintro k v ys Hc hk ⟨S1,h1,a1⟩ hy hlc
   obtain ⟨ds,ed,p,zz,rfl,hp,ai⟩:=al.get hk
   have bd:=hb ds (aB ed)
   refine j5 ?_
   walk_at "rd"
   refine ⟨_,S1 _ _ hp,by rw [ai.len]; omega,fun D2 g2=>⟨siJ D2 lot ds H Hc,⟨Same.upd g2,bC,.nil⟩,?_,?_⟩⟩
   .rintro j v zs2 Hd hj ⟨S2,h2,a2⟩ hz hpd pre hpre
    obtain ⟨u1,rfl⟩:=List.length_eq_one_iff.mp hpre
    obtain ⟨x,ex,px,rfl,hx⟩:=ai.get hj
    have bx:=bd.2 x (aB ex)
    refine ⟨[some (.ref px)],rfl,rfl,?_⟩
    have TT:=S1.trans S2
    refine Zw (Bo (x.map fun r=>V.bl (lot.getD r false)) rfl (TT _ _ hx) (by rw [ak,ak]) (by rw [ak]; omega) ?_ ?_)
    .intro i v y He R hi hv S3 r
     rw [aq] at hi hv
     cases e:x[i]? with
     | none=>rw [e] at hi; cases hi
     | some c =>
      rw [e] at hi hv
      cases hi
      cases hv
      exact ⟨_,rfl,_,rfl,_,_,_,_,rfl,rfl,S3 _ _ (TT _ _ ht),Cu (bx.2 c (aB e)),r _ fun _ _ z=>z⟩
    .intro D3 He S3 g3 h3
     refine ⟨D3,x.map fun r=>lot.getD r false,rfl,by rw [h3,List.map_map]; rfl,_,rfl,?_⟩
     rw [List.all_map]
     have ee:(x.all (id ∘ fun r=>lot.getD r false)) = qp lot x:=rfl
     rw [ee]
     have il:IL H (.ref px) x:=⟨px,rfl,hx⟩
     have et:=cg ex
     cases es:qp lot x with
     | true =>
      refine ⟨_,rfl,S3 _ _ h2,S3 _ _ hpd,fun b o z=>(bF (bD z g2)).trans (S3 _ _ (S2 _ _ z)),bC,?_⟩
      rw [et,List.filter_append,List.filter_cons,if_pos es]
      exact a2.snoc il
     | false =>
      refine ⟨S3 _ _ hpd,S2.trans S3,S3 _ _ h2,?_⟩
      rw [et,List.filter_append,List.filter_cons,if_neg (by rw [es]; decide),List.filter_nil,List.append_nil]
      exact a2
   .rintro zs2 Hd ⟨S2,h2,a2⟩ hz
    rw [ai.len,aP] at a2
    have nD:D2 ≠ D1:=(bD h1 g2).symm
    refine ⟨S2 _ _ h1,S2 _ _ hlc,fun b o z=>(bF (bD z g1)).trans (S2 _ _ (S1 _ _ z)),bC,?_⟩
    rw [cg (show (gR lot ls)[k]? = some (ds.filter (qp lot)) by unfold gR; rw [aq,ed]; rfl)]
    refine (a1.imp fun v d ⟨p,zs,a,b,c,d⟩=>⟨p,zs,a,b,(bF b).trans (S2 _ _ c),d⟩).snoc ⟨D2,_,rfl,nD,(bF nD).trans h2,a2⟩
  .rintro ys Hc ⟨S1,h1,a1⟩ hy
   rw [al.len,aK (by unfold gR; rw [ak]; exact aF _)] at a1
   exact q D1 Hc S1 g1 ⟨D1,ys,rfl,h1,a1.imp fun v d ⟨p,zs,a,b,c,d⟩=>⟨p,zs,a,c,d.imp fun _ _ z=>z.same S1⟩⟩
noncomputable def blD (bs:List Bool):PyData:=.list (bs.map .bool)
theorem uY {H:Hp} {l:Addr} {bs:List Bool} (h:H l = some (.lst (bs.map V.bl))):Shows H (.ref l) (blD bs):=by
 refine .lst h ?_
 clear h
 induction bs with
 | nil=>exact .nil
 | cons b bs ih=>exact .cons (.bl b) ih
theorem qY (bs:List Bool):SeqAt.shaped (blD bs) = true:=by
 have h1:∀ l:List Bool,PyData.canLayAll0 (l.map .bool) = true:=fun l=>by
  induction l with
  | nil=>rfl
  | cons b l ih=>rw [List.map_cons]; exact ih
 have h2:∀ l:List Bool,PyData.depthAll (l.map .bool) <= 1:=fun l=>by
  induction l with
  | nil=>exact bh _
  | cons b l ih=>rw [List.map_cons]; exact Nat.max_le.mpr ⟨by show 0 <= 1; decide,ih⟩
 unfold SeqAt.shaped blD
 rw [Bool.and_eq_true]
 refine ⟨h1 bs,decide_eq_true ?_⟩
 have:=h2 bs
 show PyData.depthAll _ + 1 <= 64
 omega
theorem I_:∀ a b:List Bool,PyData.eqv (blD a) (blD b) = decide (a = b):=by
 have h:∀ a b:List Bool,PyData.eqvAll (a.map .bool) (b.map .bool) = decide (a = b):=fun a=>by
  induction a with
  | nil=>intro b; cases b <;> rfl
  | cons x a ih =>
   intro b
   cases b with
   | nil=>rfl
   | cons y b =>
    have:PyData.eqvAll ((x :: a).map .bool) ((y :: b).map .bool) = ((x == y) && PyData.eqvAll (a.map .bool) (b.map .bool)):=rfl
    rw [this,ih b]
    by_cases e:x = y
    .subst e
     by_cases e2:a = b
     .subst e2; simp
     .simp [e2]
    .simp [e]
 exact h
theorem U0 {o:Option Nat} : (!decide (stV o = .non)) = o.isSome:=by cases o <;> rfl
noncomputable def Hs (D:Adr):Sp:=fun vs H Q _=>∃ (o l p:Addr) (rms:List (Str × List Dr)) (gs:List Nat),vs = [.ref o,.ref l]/\jV D H o p rms/\H l = some (.lst (gs.map nV))/\gs.length <= 100/\(∀ g ∈ gs,g < rms.length)/\GD rms/\I8 rms /\
 ∀ r lot H',Same H H'->H r = none->H' r = some (.lst (lot.map V.bl))->Fz (bZ rms.length gs) (d8 rms (bZ rms.length gs)) lot->jF (bZ rms.length gs) (d8 rms (bZ rms.length gs)) lot lot->Q (.ref r) H'
noncomputable def suJ (o l m r:Addr) (ms:List Bool) (ls:List (List (List Nat))) (H H4:Hp) (M:Nat) (σ:L2.St) (H':Hp):Prop:=∃ (k:Addr) (lot:List Bool) (v:V),σ = [some (.ref o),some (.ref l),some (.ref m),some (.ref r),some v,some (.ref k)]/\Same H4 H'/\H k = none/\H' k = some (.lst (lot.map V.bl))/\Fz ms ls lot/\((v = .non/\lot = List.replicate ms.length true/\M = rR lot + 1)\/∃ (k0:Addr) (lot0:List Bool),v = .ref k0/\H k0 = none/\H' k0 = some (.lst (lot0.map V.bl))/\Fz ms ls lot0/\jF ms ls lot0 lot/\gQ lot lot0/\M = rR lot0)
theorem Er (F:Fun K dY dY jj f fd) (T:Txt K mg D) (cI:OkI P w K mg base CX0 1 D.Hall_size dX (cX D)) (rH:OkF P w K mg base 3 dR eO (mF D)) (lX:OkF P w K mg base 4 j4 jX (mY D)) (nZ:OkF P w K mg base 2 lY lQ (qQ gq)) (mC:OkF P w K mg base 3 jW jZ (mV P w K mg base)) (oh:OkF P w K mg base 1 lR lW oH):cu P w K mg base CX0 5 f fd eV (Hs D):=by
 obtain ⟨fb,zx,vb⟩:=nZ.val
 refine F.ok cJ (fun vs H Q E h=>?_) (fun cdv A outer s H vs Q E hr h=>?_)
 .obtain ⟨o,l,p,rms,gs,rfl,_⟩:=h
  rfl
 .obtain ⟨o,l,p,rms,gs,rfl,hh,hl,hg,hm,ok,few,q⟩:=h
  have n20:=few.len
  have z9:100 < sizeLine:=by decide
  have hI:=hh
  obtain ⟨dx,nn,l4,zs0,ho,_,_,_⟩:=hI
  have ml:(bZ rms.length gs).length = rms.length:=ig
  have lz:(d8 rms (bZ rms.length gs)).length = (bZ rms.length gs).length:=by unfold d8; rw [List.length_zipWith]; omega
  have lb:=Wm (ms:=bZ rms.length gs) few ok.to_
  refine ⟨_,(bI (bT (i:=2) cJ.nd rfl (Or.inl rfl) (bM rH (hr.mono (by decide)) (by rfl) (bB (pv 0) (bB (pv 1) bG))))
   (bI (bT (i:=3) cJ.nd rfl (Or.inl rfl) (bM lX (hr.mono (by decide)) (by rfl) (bB (pv 0) (bB (pv 2) bG))))
   (bI (bT (i:=4) cJ.nd rfl (Or.inl rfl) uP)
   (bI (bT (i:=5) cJ.nd rfl (Or.inl rfl) (bO Kl (cR (bB iH bG)) (PE.any fun C (hC:cN D C)=>(lO (pv 0) (T.cl C hC.fam) (T.jq C hC) cI (hr.mono (by decide))))))
   (bI (uK PassesOwn.never (cW (Xa hr.units) (pv 5) (pv 4) (cL _))
    (bI (bT (i:=4) cJ.nd rfl (Or.inl rfl) (pv 5))
    (bL (vN (bK jj) lH lH ["step"] (cA ((bM mC (hr.mono (by decide)) (by rfl) (bB (pv 2) (bB (bM oh (hr.mono (by decide)) (by rfl) (bB (pv 3) (bB (pv 4) bG))) (bB (iM (by rfl) zx) bG))))).mono) (cU (i:=0)) cF (jf IK (pv 0) uP (cL _)) (bW (i:=5) cJ.nd rfl (Or.inl rfl))))))
   (bL (bY (pv 4)))))))),?_⟩
  unfold mF mY mV cX oH
  walk_at "rd"
  refine ⟨p,rms,hh,gs,hl,hg,hm,n20,fun m H1 S1 g1 h1=>⟨p,rms,hh.same S1,_,h1,ml,few,ok.nd,fun r H2 S2 g2 h2=>⟨by omega,fun p0 g0=>?_⟩⟩⟩
  have SH:=S1.trans S2
  have S3:Same H2 (upd H2 p0 (.lst [.bl true])):=Same.upd g0
  refine ⟨D.Hall,(by unfold cN; simp),dx,_,S3 _ _ (SH _ _ ho),rfl,p,rms,(hh.same SH).same S3,_,_,_,rfl,rfl,bC,by omega,by omega,by simp; omega,fun k0 gk=>?_⟩
  have e1:(List.replicate ((rms.length:Int)).toNat [V.bl true]).flatten = (List.replicate (bZ rms.length gs).length true).map V.bl:=by
   rw [Int.toNat_natCast,List.flatten_replicate_singleton,List.map_replicate,ml]
  rw [e1]
  have SK:Same H2 (upd (upd H2 p0 (.lst [.bl true])) k0 (.lst ((List.replicate (bZ rms.length gs).length true).map V.bl))):=S3.trans (Same.upd gk)
  have fk:H k0 = none:=Same.free SH (Same.free S3 gk)
  have hk0:upd (upd H2 p0 (.lst [.bl true])) k0 (.lst ((List.replicate (bZ rms.length gs).length true).map V.bl)) k0 = some (.lst ((List.replicate (bZ rms.length gs).length true).map V.bl)):=bC
  generalize upd (upd H2 p0 (.lst [.bl true])) k0 (.lst ((List.replicate (bZ rms.length gs).length true).map V.bl)) = H4 at SK hk0 ⊢
  have SH4:=SH.trans SK
  have h14:=SK _ _ (S2 _ _ h1)
  have h24:=h2.same SK
  clear h1 h2
  generalize bZ rms.length gs = ms at *
  generalize d8 rms ms = ls at *
  rw [<- ml] at lb n20
  refine ⟨suJ o l m r ms ls H H4,⟨_,k0,_,.non,rfl,fun _ _ z=>z,fk,hk0,.all,.inl ⟨rfl,rfl,rfl⟩⟩,?_⟩
  rintro M σ' H' ⟨k,lot,v,rfl,SS,gk',hk,lr,hv⟩
  have ll:=lr.len
  have cmp:∃ e,Shows H' v e/\SeqAt.shaped e = true/\(PyData.eqv (blD lot) e = true->∃ k0,v = .ref k0/\H k0 = none/\H' k0 = some (.lst (lot.map V.bl))/\jF ms ls lot lot)/\(PyData.eqv (blD lot) e = false->rR lot < M):=by
   rcases hv with ⟨rfl,_,rfl⟩ | ⟨k0,lot0,rfl,g,h,r0,nx,le,rfl⟩
   .exact ⟨.none,.non,rfl,fun z=>(nomatch (show false = true from z)),fun _=>by omega⟩
   .refine ⟨blD lot0,uY h,qY _,fun z=>?_,fun z=>?_⟩
    .rw [I_] at z
     have z:=of_decide_eq_true z
     subst z
     exact ⟨k0,rfl,g,h,nx⟩
    .rw [I_] at z
     exact oZ (by rw [ll,r0.len]) le (of_decide_eq_false z)
  obtain ⟨e,se,sh,ce1,ce2⟩:=cmp
  refine ⟨_,rfl,v,rfl,blD lot,e,uY hk,se,qY _,sh,!PyData.eqv (blD lot) e,rfl,?_⟩
  cases eb:PyData.eqv (blD lot) e with
  | true =>
   obtain ⟨k1,rfl,g,h,nx⟩:=ce1 eb
   exact ⟨_,rfl,q k1 lot H' (SH4.trans SS) g h lr nx⟩
  | false =>
   have lt:=ce2 eb
   refine ⟨fun σ2 H5=>∃ M',M' < M/\suJ o l m r ms ls H H4 M' σ2 H5,fun _ _ z=>z,?_⟩
   refine ⟨_,rfl,?_⟩
   dsimp only [dw,z7,List.set_cons_succ,List.set_cons_zero]
   refine cC ?_
   walk_at "rd"
   refine ⟨ls,h24.same SS,lot,hk,by omega,fun ds hd=>?_,fun r5 H5 S5 g5 h5=>?_⟩
   .rw [ll]; exact lb ds hd
   have sl:(gR lot ls).length = ms.length:=by unfold gR; rw [ak,lz]
   refine ⟨gq,⟨_,vb⟩,Sg,ms,S5 _ _ (SS _ _ h14),_,h5,sl,n20,?_,fun r6 M6 H6 S6 g6 h6 c6=>?_⟩
   .intro ds hd
    unfold gR at hd
    obtain ⟨d0,hd0,rfl⟩:=List.mem_map.mp hd
    have:=lb d0 hd0
    exact ⟨aL (List.length_filter_le _ _) this.1,fun x hx=>this.2 x (List.mem_filter.mp hx).1⟩
   have sm:=vA (J:=gq) (ms:=ms) (ls:=gR lot ls) M6
   have S16:=S5.trans S6
   have nx:jF ms ls lot (Fx (stK gq ms (gR lot ls) M6)):=⟨M6,c6,rfl⟩
   generalize stK gq ms (gR lot ls) M6 = st at h6 sm nx
   refine ⟨_,h6,by rw [ak]; omega,fun D7 g7=>⟨vJ D7 H6 ((Fx st).map V.bl),⟨Same.upd g7,bC,rfl⟩,?_,?_⟩⟩
   .rintro i x ys Hc hi j hy hc
    rw [aq] at hi
    cases e:st[i]? with
    | none=>rw [e] at hi; cases hi
    | some c =>
     rw [e] at hi
     cases hi
     rw [U0]
     exact ⟨j.2.1,hc,j.next g7 (fun _ _ z=>z) (by unfold Fx; rw [List.map_map,aq,e]; rfl)⟩
   .rintro ys Hc ⟨S7,h7,ey⟩ hy
    rw [ak,aK (by unfold Fx; rw [ak,ak]; exact aF _)] at ey
    subst ey
    have SA:=S16.trans S7
    have le:gQ (Fx st) lot:=by
     rcases hv with ⟨rfl,rfl,rfl⟩ | ⟨k0,lot0,rfl,g,h,r0,nx0,le0,rfl⟩
     .exact Rg nx.len
     .exact nx.mono nx0 le0
    exact ⟨rR lot,lt,D7,Fx st,.ref k,rfl,SS.trans SA,Same.free SH4 (Same.free (SS.trans S16) g7),h7,.next lr nx,.inr ⟨k,lot,rfl,gk',SA _ _ hk,lr,nx,le,rfl⟩⟩
theorem Du (F:Fun K dY dY jj f fd) (T:Txt K mg D) (cI:OkI P w K mg base CX0 1 D.Hall_size dX (cX D)) (pY:OkX P w K mg base 4 dR eO (gA D)) (lX:OkF P w K mg base 4 j4 jX (mY D)) (nZ:OkF P w K mg base 2 lY lQ (qQ gq)) (mC:OkF P w K mg base 3 jW jZ (mV P w K mg base)) (oh:OkF P w K mg base 1 lR lW oH):cu P w K mg base (CXO P w) 5 f fd eV (gA D):=by
 obtain ⟨fb,zx,vb⟩:=nZ.val
 refine F.okX cJ (fun vs H Q E h=>?_) (fun cdv A outer s H vs Q E hr h=>?_)
 .obtain ⟨o,l,p,rms,gs,v,more,rfl,_⟩:=h
  rfl
 .have h0:=h
  obtain ⟨o,l,p,rms,gs,v,more,rfl,r⟩:=h0
  refine ⟨_,(bI (bT (i:=2) cJ.nd rfl (Or.inl rfl) (gB pY (hr.mono (by decide)) (by rfl) fP (bB (pv 0) (bB (pv 1) bG))))
   (bI (bT (i:=3) cJ.nd rfl (Or.inl rfl) (bM lX (hr.mono (by decide)) (by rfl) (bB (pv 0) (bB (pv 2) bG))))
   (bI (bT (i:=4) cJ.nd rfl (Or.inl rfl) uP)
   (bI (bT (i:=5) cJ.nd rfl (Or.inl rfl) (bO Kl (cR (bB iH bG)) (PE.any fun C (hC:cN D C)=>(lO (pv 0) (T.cl C hC.fam) (T.jq C hC) cI (hr.mono (by decide))))))
   (bI (uK PassesOwn.leaving (cW (Xa hr.units) (pv 5) (pv 4) (cL _))
    (bI (bT (i:=4) cJ.nd rfl (Or.inl rfl) (pv 5))
    (bL (vN (bK jj) lH lH ["step"] (cA ((bM mC (hr.mono (by decide)) (by rfl) (bB (pv 2) (bB (bM oh (hr.mono (by decide)) (by rfl) (bB (pv 3) (bB (pv 4) bG))) (bB (iM (by rfl) zx) bG))))).mono) (cU (i:=0)) cF (jf IK (pv 0) uP (cL _)) (bW (i:=5) cJ.nd rfl (Or.inl rfl))))))
   (bL (bY (pv 4)))))))),?_⟩
  exact ⟨_,rfl,_,rfl,o,l,p,rms,gs,v,more,rfl,r⟩
noncomputable def wF (D:Adr):Sp:=fun vs H Q _=>∃ (o l p:Addr) (rms:List (Str × List Dr)) (gs:List Nat) (v:V) (more:List V),vs = [.ref o,.ref l]/\jV D H o p rms/\H l = some (.lst (gs.map nV ++ v :: more))/\gs.length + more.length <= 100/\(∀ g ∈ gs,g < rms.length)/\rms.length <= 20/\Odd H v/\¬ wC rms.length v /\
 ∀ r H',Same H H'->H r = none->H' r = some (.lst [v])->Q (.ref r) H'
theorem NQ (F:Fun K oO oO zq f fd) (T:Txt K mg D) (pX:OkX P w K mg base 5 dY eV (gA D)):cu P w K mg base CX0 6 f fd oR (wF D):=by
 refine F.ok qT (fun vs H Q E h=>?_) (fun cdv A outer s H vs Q E hr h=>?_)
 .obtain ⟨o,l,p,rms,gs,v,more,rfl,_⟩:=h
  rfl
 .obtain ⟨o,l,p,rms,gs,v,more,rfl,hh,hl,hg,hm,n20,ov,nv,q⟩:=h
  refine ⟨_,(bI (bT (i:=2) qT.nd rfl (Or.inl rfl) (cR bG))
   (bI (Vm (i:=3) qT.nd rfl rfl (by rfl) T.Mf T.Xz T.WR rfl rfl rfl (fun _ _ _ HF=>(bL (dh (gB pX (hr.mono (by decide)) (by rfl) HF (bB (pv 0) (bB (pv 1) bG))))))
    (fun _ _=>(bL (bT (i:=2) qT.nd rfl (Or.inl rfl) (cR (bB (Xd (K':=K) rfl (pv 3) rfl) bG))))))
   (bL (bY (pv 2))))),?_⟩
  walk_at "rd"
  refine ⟨by decide,fun p1 g1=>⟨fun C d σ H'=>C = .ref D.NoRoom/\σ = [some (.ref o),some (.ref l),some (.ref p1),none]/\∃ d',d = some d'/\Same H H'/\H' d' = some (.xd [("room",v)]),?_,?_⟩⟩
  .have S1:Same H (upd H p1 (.lst [])):=Same.upd g1
   exact ⟨o,l,p,rms,gs,v,more,rfl,hh.same S1,S1 _ _ hl,hg,hm,n20,ov.same S1,nv,fun d H' S hd hx=>⟨rfl,rfl,d,rfl,S1.trans S,hx⟩⟩
  .rintro _ _ σ' H' ⟨rfl,rfl,d,rfl,S,hx⟩
   refine ⟨D.NoRoom,rfl,T.sm_NoRoom,fun a ha=>?_⟩
   have S2:Same H' (upd H' a (XO a D.NoRoom (some d))):=Same.upd ha
   refine ⟨_,rfl,a,D.NoRoom,d,_,v,rfl,bC,S2 _ _ hx,T.xk_NoRoom,T.hd_NoRoom,T.um,rfl,by decide,fun r hr=>⟨_,rfl,?_⟩⟩
   exact q r _ (S.trans (S2.trans (Same.upd hr))) (Same.free (S.trans S2) hr) bC
noncomputable def oA:Sp:=fun vs H Q _=>∃ (a b:Int),vs = [.int a,.int b]/\0 < b/\Bd b/\∀ p,H p = none->Q (.ref p) (upd H p (.tup [.int (Ac.lw a b).1,.int (Ac.lw a b).2]))
theorem Ug (F:Fun K nY nY Dw f fd) (WW:OkF P w K mg base 1 DX DR Jh):cu P w K mg base CX0 2 f fd oE oA:=by
 refine F.ok Gq (fun vs H Q E h=>?_) (fun cdv A outer s H vs Q E hr h=>?_)
 .obtain ⟨a,b,rfl,_⟩:=h
  rfl
 .obtain ⟨a,b,rfl,hb,hbd,q⟩:=h
  refine ⟨_,(bI (bT (i:=2) Gq.nd rfl (Or.inl rfl) (bM WW (hr.mono (by decide)) (by rfl) (bB (pv 0) (bB (pv 1) bG))))
   (bL (bY (dI (bB (bO iI (pv 0) (pv 2)) (bB (bO iI (pv 1) (pv 2)) bG)))))),?_⟩
  have g0:=JH (a:=a) (b:=b) (by omega)
  have g1:=Oc (a:=a) (b:=b) (by omega) hbd
  unfold Jh
  walk_at "rd"
  rw [qG _ g0,qG _ g0]
  exact ⟨by omega,g1,by omega,g1,eE,q⟩
theorem Same.sql {K:Frag} {H H':Hp} {a:Addr} {xs:List V} (S:Same H H') (h:SqL K H a xs):SqL K H' a xs:=by
 rcases h with (h | ⟨o,h⟩) | h
 .exact .inl (.inl (S _ _ h))
 .exact .inl (.inr ⟨o,S _ _ h⟩)
 .exact .inr h
noncomputable def Ib:Sp:=fun vs H Q _=>∃ c:Int,vs = [.int c]/\∀ (n:Nat) H',n <= 5->Same H H'->Q (.int n) H'
theorem YD (F:Fun K xK xK NT f fd) (T:Txt K mg D) (d_:OkF P w K mg base 1 jm je fK):cu P w K mg base CX0 2 f fd xY Ib:=by
 refine F.ok QB (fun vs H Q E h=>?_) (fun cdv A outer s H vs Q E hr h=>?_)
 .obtain ⟨c,rfl,_⟩:=h
  rfl
 .obtain ⟨c,rfl,q⟩:=h
  refine ⟨_,(bI (bT (i:=1) QB.nd rfl (Or.inl rfl) (bM d_ (hr.mono (by decide)) (by rfl) (bB (pv 0) (bB bH bG))))
   (bI (dF (cW qy (bO cZ (bQ bN (pv 1) bH (fun _ _=>rfl)) bH) bH (cL _))
    (bL (bY bH))
    cH)
   (bL (bY (bO dZ bH (bO cZ (bQ bN (pv 1) bH (fun _ _=>rfl)) bH)))))),?_⟩
  unfold fK
  walk_at "rd"
  refine ⟨2,rfl,by decide,fun l xs H' S _ hl ln hx=>?_⟩
  obtain ⟨a,b,rfl⟩:=m8 ln
  refine ⟨_,hl,_,eU,a,rfl,?_⟩
  split
  .exact q 0 H' (by decide) S
  .refine ⟨_,hl,_,gO,b,rfl,?_⟩
   have:1 + b % 5 = ((1 + b % 5).toNat:Int):=by omega
   rw [this]
   exact q _ H' (by omega) S
noncomputable def ltL:List Nat:=(Str.ofString "abcdefghijklmnopqrstuvwxyz").cps.toList
theorem Zq:ltL.length = 26:=by decide +kernel
theorem aam:∀ a b:Fin 26,ltL[a.val]? = ltL[b.val]?->a = b:=by decide +kernel
theorem abW {a b:Int} {c:Nat} (a0:0 <= a) (a1:a < 26) (b0:0 <= b) (b1:b < 26) (ha:ltL[a.toNat]? = some c) (hb:ltL[b.toNat]? = some c):a = b:=by
 have:=aam ⟨a.toNat,by omega⟩ ⟨b.toNat,by omega⟩ (ha.trans hb.symm)
 have:=congrArg Fin.val this
 simp only at this
 omega
theorem Xy {a:Int} (a0:0 <= a) (a1:a < 26):∃ c,atI (Str.ofString "abcdefghijklmnopqrstuvwxyz").cps.toList a = some c/\ltL[a.toNat]? = some c/\wA c = true:=by
 obtain ⟨k,rfl⟩:=Int.eq_ofNat_of_zero_le a0
 have h:k < ltL.length:=by rw [Zq]; omega
 exact ⟨ltL[k],bV (aj h),aj h,decide_eq_true (aV h)⟩
noncomputable def rJ (R:Nat->Str->Prop) (D:Addr) (H:Hp) (k:Nat) (ys:List V) (Hc:Hp):Prop:=∃ ss:List Str,ys = ss.map V.str/\ss.length = k/\(∀ i x,ss[i]? = some x->R i x)/\Hc = upd H D (.lst ys)
theorem rJ.next {R:Nat->Str->Prop} {D:Addr} {H:Hp} {k:Nat} {ys:List V} {Hc:Hp} (h:rJ R D H k ys Hc) {x:Str} (h0:R k x):rJ R D H (k + 1) (ys ++ [.str x]) (upd Hc D (.lst (ys ++ [.str x]))):=by
 obtain ⟨ws,rfl,rfl,ha,rfl⟩:=h
 refine ⟨ws ++ [x],by rw [bw]; rfl,by rw [aA]; rfl,fun i y hy=>?_,rm⟩
 by_cases hi:i < ws.length
 .rw [aD hi] at hy
  exact ha i y hy
 .have hl:=(ao.mp hy).1
  rw [aA] at hl
  have hl:i < ws.length + 1:=hl
  have e:i = ws.length:=by omega
  subst e
  rw [aC (aF _),Nat.sub_self] at hy
  cases hy
  exact h0
theorem rJ.at_ {R:Nat->Str->Prop} {D:Addr} {H:Hp} {k:Nat} {ys:List V} {Hc:Hp} (h:rJ R D H k ys Hc):Hc D = some (.lst ys):=by
 obtain ⟨ws,rfl,hl,ha,rfl⟩:=h
 exact bC
theorem rJ.same {R:Nat->Str->Prop} {D:Addr} {H:Hp} {k:Nat} {ys:List V} {Hc:Hp} (h:rJ R D H k ys Hc) (hD:H D = none):Same H Hc:=by
 obtain ⟨ws,rfl,hl,ha,rfl⟩:=h
 exact Same.upd hD
theorem QM {R:Nat->Str->Prop} {ss:List Str} (h:∀ i x,ss[i]? = some x->R i x) (u:∀ i j x,i < j->j < ss.length->R i x->R j x->False):ss.Nodup:=by
 unfold List.Nodup
 rw [List.pairwise_iff_getElem]
 intro i j hi hj ij e
 exact u i j ss[i] ij hj (h i _ (aj hi)) (by rw [e]; exact h j _ (aj hj))
theorem aaR {R:Nat->Str->Prop} {P:Str->Prop} {ss:List Str} (h:∀ i x,ss[i]? = some x->R i x) (u:∀ i x,i < ss.length->R i x->P x):∀ x ∈ ss,P x:=fun x hx=>by
 obtain ⟨i,hi⟩:=aW hx
 exact u i x (ao.mp hi).1 (h i x hi)
theorem Xf {x:Str} {n:Nat} : (Cw x none (some (n:Int))).cps.toList = x.cps.toList.take n:=by
 unfold Cw
 have hl:x.cps.toList.length = x.length:=Array.length_toList
 show ((x.cps.toList.drop 0).take (HT.sIx x.length x.length (some (n:Int)) - 0)) = _
 rw [HT.pJ,List.drop_zero,Nat.sub_zero,<- hl]
 rw [List.take_eq_take_iff]
 omega
theorem Mj {x:Str} {n:Nat} : (Cw x (some (n:Int)) none).cps.toList = x.cps.toList.drop n:=by
 unfold Cw
 have hl:x.cps.toList.length = x.length:=Array.length_toList
 show ((x.cps.toList.drop (HT.sIx x.length 0 (some (n:Int)))).take (x.length - HT.sIx x.length 0 (some (n:Int)))) = _
 rw [HT.pJ,<- hl]
 by_cases h:n <= x.cps.toList.length
 .rw [Nat.min_eq_left h]
  exact aK (by rw [List.length_drop]; omega)
 .rw [List.drop_eq_nil_of_le (by omega:x.cps.toList.length <= n),List.drop_eq_nil_of_le (by omega),List.take_nil]
theorem Ak {ys:List V} {a b:Nat} (ab:a <= b) (h:b <= ys.length):mQ ys (some (a:Int)) (some (b:Int)) = (ys.drop a).take (b - a):=by
 unfold mQ
 rw [HT.pJ,HT.pJ,Nat.min_eq_left h,Nat.min_eq_left (aL ab h)]
theorem GK:∀ {ss:List Str},(∀ y ∈ ss,y.length = 1)->(ss.map (·.length)).sum = ss.length
 | [],_=>rfl
 | y :: ss,h=>by
  rw [List.map_cons,List.sum_cons,GK fun z hz=>h z (aH _ hz),h y aO,List.length_cons]; omega
noncomputable def nm1 (c:Nat) (i:Nat) (x:Str):Prop:=x.cps.toList = List.replicate (i + 1) c
noncomputable def nm2 (b:List Nat) (at_:Nat) (x0 st:Int) (i:Nat) (x:Str):Prop:=∃ c,ltL[((x0 + st * i) % 26).toNat]? = some c/\wA c = true/\x.cps.toList = b.take at_ ++ c :: b.drop at_
theorem YL {b:List Nat} {at_:Nat} {x0 st:Int} {i j:Nat} {x:Str} (hs:st = 1\/st = 3\/st = 5\/st = 7\/st = 9\/st = 11) (ij:i < j) (hj:j < 13) (h1:nm2 b at_ x0 st i x) (h2:nm2 b at_ x0 st j x):False:=by
 obtain ⟨c,a1,_,e1⟩:=h1
 obtain ⟨d,a2,_,e2⟩:=h2
 have e:=e1.symm.trans e2
 have e:=List.append_cancel_left e
 injection e with e _
 subst e
 have:=abW (by omega) (by omega) (by omega) (by omega) a1 a2
 rcases hs with rfl | rfl | rfl | rfl | rfl | rfl <;> omega
theorem rK (x:Str):x.cps.toList.length = x.length:=Array.length_toList
theorem abB {c i:Nat} {x:Str} (hc:wA c = true) (hi:i < 8) (h:nm1 c i x):Wd x:=by
 have l:=rK x
 rw [h,aN] at l
 refine ⟨?_,by omega,by omega⟩
 unfold Lt
 rw [h,List.all_eq_true]
 intro d hd
 rw [(List.mem_replicate.mp hd).2]; exact hc
theorem abr {b:List Nat} {at_:Nat} {x0 st:Int} {i:Nat} {x:Str} (hb:b.all wA = true) (hl:b.length <= 7) (h:nm2 b at_ x0 st i x):Wd x:=by
 obtain ⟨c,_,hc,e⟩:=h
 have l:=rK x
 rw [e,aA,List.length_cons,bf,List.length_drop] at l
 refine ⟨?_,by omega,by omega⟩
 unfold Lt
 rw [e,List.all_eq_true]
 rw [List.all_eq_true] at hb
 intro d hd
 rcases List.mem_append.mp hd with hd | hd
 .exact hb d (List.mem_of_mem_take hd)
 .rcases List.mem_cons.mp hd with rfl | hd
  .exact hc
  .exact hb d (List.mem_of_mem_drop hd)
noncomputable def sJN (P:Str->Prop) (D:Addr) (H:Hp) (k:Nat) (ys:List V) (Hc:Hp):Prop:=∃ ss:List Str,ys = ss.map V.str/\ss.length = k/\(∀ x ∈ ss,P x)/\Hc = upd H D (.lst ys)
theorem sJN.next {P:Str->Prop} {D:Addr} {H:Hp} {k:Nat} {ys:List V} {Hc:Hp} (h:sJN P D H k ys Hc) {x:Str} (h0:P x):sJN P D H (k + 1) (ys ++ [.str x]) (upd Hc D (.lst (ys ++ [.str x]))):=by
 obtain ⟨ws,rfl,hl,ha,rfl⟩:=h
 refine ⟨ws ++ [x],by rw [bw]; rfl,by rw [aA,hl]; rfl,fun y hy=>?_,rm⟩
 rcases List.mem_append.mp hy with hy | hy
 .exact ha y hy
 .rw [List.mem_singleton.mp hy]; exact h0
theorem sJN.at_ {P:Str->Prop} {D:Addr} {H:Hp} {k:Nat} {ys:List V} {Hc:Hp} (h:sJN P D H k ys Hc):Hc D = some (.lst ys):=by
 obtain ⟨ws,rfl,hl,ha,rfl⟩:=h
 exact bC
noncomputable def D_:Sp:=fun vs H Q _=>∃ (c:Int) (n:Nat),vs = [.int c,.int n]/\n <= 12/\∀ (l:Addr) (xs:List Str) H',Same H H'->H l = none->H' l = some (.lst (xs.map V.str))->xs.length = n->(∀ x ∈ xs,Wd x)->xs.Nodup->Q (.ref l) H'
theorem M9 {a b:TT} {t v:TS} {D:Ends} {σ:L2.St} {H:Hp} (p q:Bool) (ha:∀ Q:Bool->Hp->Prop,Q p H->a σ H Q) (hb:∀ Q:Bool->Hp->Prop,Q q H->b σ H Q) (ht:(p && q) = true->t { D with nx:=v D } σ H) (hu:v D σ H):qw (Lw (RG a b) t DK) v D σ H:=by
 refine ha _ ?_
 cases p with
 | false=>exact hu
 | true =>
  refine hb _ ?_
  cases q with
  | false=>exact hu
  | true=>exact ht rfl
theorem Vc (F:Fun K uy uy vp f fd) (T:Txt K mg D) (d_:OkF P w K mg base 1 jm je fK):cu P w K mg base CX0 2 f fd tR D_:=by
 refine F.okB qK (fun vs H Q E h=>?_) (fun cdv A outer s H vs Q E hr h=>?_)
 .obtain ⟨c,n,rfl,_⟩:=h
  rfl
 .obtain ⟨c,n,rfl,hn,q⟩:=h
  have z1000:1000 <= sizeLine:=by decide
  have lL:(Str.ofString "abcdefghijklmnopqrstuvwxyz").length <= sizeLine:=aL (show (Str.ofString "abcdefghijklmnopqrstuvwxyz").length <= 1000 by decide +kernel) z1000
  refine ⟨_,(cD (PSB.mk (bT (i:=2) qK.nd rfl (Or.inr rfl) pH))
   (cD (PSB.mk (bT (i:=3) qK.nd rfl (Or.inr rfl) (bM d_ (hr.mono (by decide)) (by rfl) (bB (pv 0) (bB bH bG)))))
   (cD (PSB.mk (dF (PW.pt (pw_and (cW qy (bO cZ (bQ bN (pv 3) bH (fun _ _=>rfl)) bH) bH (cL _)) (pw_and1 (cW Nk (pv 1) bH (cL _)))))
    (bL (bY (fW (bK vp) qW qW ["_law_k"] (gH (by rfl) T.kY (bB (pv 1) bG).mono) (cU (i:=0)) cF (bO Z2 (bQ Ot (pv 3) (bO cZ (bQ bN (pv 4) bH (fun _ _=>rfl)) bH) (fun _ _=>rfl)) (bO dZ (pv 0) bH)))))
    cH))
   (cD (PSB.mk (bT (i:=4) qK.nd rfl (Or.inr rfl) (acX PySem.F.slot_str_join PySem.F.type_str_join YT pH (bB (fW (bK vp) qW qW ["_law_x"] (cA ((gZ mO (pv 3) (fj bH) (fj (bO dZ bH (bO cZ (bQ bN (pv 3) bH (fun _ _=>rfl)) bH))))).mono) (cU (i:=0)) cF (bQ Ot (pv 3) (bO cZ (pv 0) bH) (fun _ _=>rfl))) bG))))
   (cD (PSB.mk (bT (i:=5) qK.nd rfl (Or.inr rfl) (bO cZ (bQ bN (pv 3) bH (fun _ _=>rfl)) bH)))
   (cD (Rt (i:=6) qK.nd rfl (Or.inr rfl) (Rw (Qj (pP iD (pP iD (pP iD (pP iD (pP iD (pP iD uX))))))) (bO cZ (bQ bN (pv 3) bH (fun _ _=>rfl)) bH) (fun _ _=>rfl)))
   (wW (PSB.mk (bY (fW (bK vp) qW qW ["_law_k"] (gH (by rfl) T.kY (bB (pv 1) bG).mono) (cU (i:=0)) cF (bO Qa (bO Qa (gZ Xg (pv 5) uW (fj (pv 6))) (bQ Ot (pv 3) (bO cZ (bO dZ (bQ bN (pv 4) bH (fun _ _=>rfl)) (bO fL (pv 7) (pv 0))) bH) (fun _ _=>rfl))) (gZ Xg (pv 5) (fj (pv 6)) uW)))))))))))),?_⟩
  unfold fK
  refine ⟨_,rfl,c,11,rfl,by decide,fun l xs H1 S1 hl hl1 hx hr'=>?_⟩
  have at_:∀ j,j < 11->∃ y,atI (xs.map V.int) (j:Nat) = some (.int y)/\0 <= y:=fun j hj=>by
   have:j < xs.length:=by omega
   exact ⟨xs[j],bV (j:=j) (by rw [aq,aj this]; rfl),(hr' _ (aV this)).1⟩
  obtain ⟨x0,a0,p0⟩:=at_ 0 (by decide)
  obtain ⟨x1,a1,p1⟩:=at_ 1 (by decide)
  obtain ⟨x9,a9,p9⟩:=at_ 9 (by decide)
  obtain ⟨x10,a10,p10⟩:=at_ 10 (by decide)
  dsimp only [dw]
  refine M9 (decide (x0 % 3 = 1)) (decide ((n:Int) <= 8)) (fun Q' hq=>?_) (fun Q' hq=>?_) (fun hc=>?_) ?_
  .walk_at "rd"
   exact ⟨_,hl1,_,a0,_,rfl,hq⟩
  .walk_at "rd"
   exact hq
  .simp only [Bool.and_eq_true,decide_eq_true_eq] at hc
   obtain ⟨c1,e1,g1,lc1⟩:=Xy (a:=x1 % 26) (by omega) (by omega)
   refine mU ?_
   walk_at "rd"
   refine ⟨n,rfl,by omega,fun D2 hD2=>⟨rJ (nm1 c1) D2 H1,⟨[],rfl,rfl,by simp,rfl⟩,?_,?_⟩⟩
   .rintro k ys Hc hk j hy
    have hlc:Hc l = some (.lst (xs.map V.int)):=j.same hD2 _ _ hl1
    unfold aaV
    walk_at "rd"
    refine ⟨_,hlc,_,a1,_,rfl,lL,c1,e1,c1,rfl,by omega,by omega,fun z hz=>⟨j.at_,j.next ?_⟩⟩
    rw [show ((k:Int) + 1).toNat = k + 1 by omega] at hz
    exact hz
   .rintro ys Hc ⟨ss,rfl,hsl,hss,rfl⟩ hy
    refine q D2 ss _ (S1.trans (Same.upd hD2)) (Same.free S1 hD2) bC hsl (aaR hss fun i x hi h=>abB lc1 (by omega) h) (QM hss fun i j x ij hj h1 h2=>?_)
    have:=congrArg List.length (h1.symm.trans h2)
    rw [aN,aN] at this
    omega
  .walk_at "rd"
   refine cC ?_
   walk_at "rd"
   obtain ⟨m,em,hm⟩ : ∃ m:Nat,x1 % 8 = m/\m <= 7:=⟨(x1 % 8).toNat,by omega,by omega⟩
   refine ⟨_,hl1,_,a1,_,rfl,_,.of hl1,fun p hp=>?_⟩
   have ec:mQ (xs.map V.int) (some 2) (some (2 + x1 % 8)) = ((xs.drop 2).take m).map V.int:=by
    rw [em,List.map_take,List.map_drop]
    have:=Ak (ys:=xs.map V.int) (a:=2) (b:=2 + m) (by omega) (by rw [ak]; omega)
    rw [show 2 + m - 2 = m by omega] at this
    exact this
   rw [ec]
   have ml:((xs.drop 2).take m).length = m:=by rw [bf,List.length_drop]; omega
   have S2:Same H1 (upd H1 p (.lst (((xs.drop 2).take m).map V.int))):=Same.upd hp
   generalize upd H1 p (.lst (((xs.drop 2).take m).map V.int)) = H2 at S2 ⊢
   generalize (xs.drop 2).take m = us at ml ⊢
   refine ⟨by rw [ak]; omega,fun D1 hD1=>⟨sJN (fun x=>Lt x/\x.length = 1) D1 H2,⟨[],rfl,rfl,by simp,rfl⟩,?_,?_⟩⟩
   .rintro k y1 ys Hc hk j hy hpc
    rw [aq] at hk
    cases er:us[k]? with
    | none=>rw [er] at hk; cases hk
    | some i =>
     rw [er] at hk
     cases hk
     obtain ⟨c',e',hc'⟩:=Lt.one (Int.emod_nonneg i (show (26:Int) ≠ 0 by decide)) (Int.emod_lt_of_pos i (by decide))
     exact ⟨i,rfl,lL,c',e',j.at_,hpc,j.next ⟨hc',rfl⟩⟩
   .rintro ys Hc ⟨ss,rfl,hl8,hss,rfl⟩ hy
    rw [ak,ml] at hl8
    have stL:Lt (Txt.join (Str.ofString "") ss):=Lt.glued fun y hy=>(hss y hy).1
    have sum1:(ss.map (·.length)).sum = m:=by rw [GK fun y hy=>(hss y hy).2,hl8]
    have e0:(Str.ofString "").length = 0:=by decide +kernel
    have stN:(Txt.join (Str.ofString "") ss).length = m:=by
     show (Builtin.Str.glued (Str.ofString "") ss).length = m
     rw [size_glued,sum1,e0,Nat.mul_zero]; rfl
    have S3:Same H (upd H2 D1 (.lst (ss.map V.str))):=S1.trans (S2.trans (Same.upd hD1))
    have hl3:upd H2 D1 (.lst (ss.map V.str)) l = some (.lst (xs.map V.int)):=Same.upd hD1 _ _ (S2 _ _ hl1)
    refine ⟨ss,bC,by rw [sum1,e0]; omega,?_⟩
    generalize upd H2 D1 (.lst (ss.map V.str)) = H3 at S3 hl3 ⊢
    generalize Txt.join (Str.ofString "") ss = st at stL stN ⊢
    refine ⟨_,hl3,_,a9,_,rfl,by decide,fun p2 hp2=>?_⟩
    have hl4:upd H3 p2 (.lst [.int 1,.int 3,.int 5,.int 7,.int 9,.int 11]) l = some (.lst (xs.map V.int)):=Same.upd hp2 _ _ hl3
    have S4:Same H (upd H3 p2 (.lst [.int 1,.int 3,.int 5,.int 7,.int 9,.int 11])):=S3.trans (Same.upd hp2)
    have hp4:upd H3 p2 (.lst [.int 1,.int 3,.int 5,.int 7,.int 9,.int 11]) p2 = some (.lst [.int 1,.int 3,.int 5,.int 7,.int 9,.int 11]):=bC
    generalize upd H3 p2 (.lst [.int 1,.int 3,.int 5,.int 7,.int 9,.int 11]) = H4 at S4 hl4 hp4 ⊢
    refine ⟨_,hl4,_,a10,_,rfl,?_⟩
    obtain ⟨sv,es,hs⟩ : ∃ sv:Int,atI [V.int 1,V.int 3,V.int 5,V.int 7,V.int 9,V.int 11] (x10 % 6) = some (.int sv)/\(sv = 1\/sv = 3\/sv = 5\/sv = 7\/sv = 9\/sv = 11):=by
     obtain e | e | e | e | e | e:x10 % 6 = 0\/x10 % 6 = 1\/x10 % 6 = 2\/x10 % 6 = 3\/x10 % 6 = 4\/x10 % 6 = 5:=by omega
     .exact ⟨1,by rw [e]; exact bV (j:=0) rfl,by decide⟩
     .exact ⟨3,by rw [e]; exact bV (j:=1) rfl,by decide⟩
     .exact ⟨5,by rw [e]; exact bV (j:=2) rfl,by decide⟩
     .exact ⟨7,by rw [e]; exact bV (j:=3) rfl,by decide⟩
     .exact ⟨9,by rw [e]; exact bV (j:=4) rfl,by decide⟩
     .exact ⟨11,by rw [e]; exact bV (j:=5) rfl,by decide⟩
    obtain ⟨ap,eap,hap⟩ : ∃ ap:Nat,x9 % 8 = ap/\ap <= 7:=⟨(x9 % 8).toNat,by omega,by omega⟩
    refine ⟨_,es,mU ?_⟩
    rw [eap]
    walk_at "rd"
    refine ⟨n,rfl,by omega,fun D2 hD2=>⟨rJ (nm2 st.cps.toList ap x0 sv) D2 H4,⟨[],rfl,rfl,by simp,rfl⟩,?_,?_⟩⟩
    .rintro k ys Hc hk j hy
     have hlc:Hc l = some (.lst (xs.map V.int)):=j.same hD2 _ _ hl4
     obtain ⟨c2,e2,g2,lc2⟩:=Xy (a:=(x0 + sv * k) % 26) (by omega) (by omega)
     have t1:(Cw st none (some (ap:Int))).length <= 7:=by rw [<- rK,Xf,bf,rK]; omega
     have t2:(Cw st (some (ap:Int)) none).length <= 7:=by rw [<- rK,Mj,List.length_drop,rK]; omega
     have t3:({ cps:=#[c2] } : Str).length = 1:=rfl
     refine ⟨by omega,_,hlc,_,a0,Bd.sm (by omega),Bd.sm (by omega),_,rfl,lL,c2,e2,by omega,by omega,by rw [ZS]; omega,j.at_,j.next ⟨c2,g2,lc2,?_⟩⟩
     rw [Ri,Ri,Xf,Mj,List.append_assoc]; rfl
    .rintro ys Hc ⟨ns,rfl,hsl,hns,rfl⟩ hy
     refine q D2 ns _ (S4.trans (Same.upd hD2)) (Same.free S4 hD2) bC hsl (aaR hns fun i x hi h=>abr stL (by rw [rK]; omega) h) (QM hns fun i j x ij hj h1 h2=>YL hs ij (by omega) h1 h2)
noncomputable def clsOf (D:Adr) (so:Int):Addr:=if so = 1 then D.Toss else if so = 2 then D.Even else if so = 3 then D.Mixed else D.Sure
structure Drawn (so:Int) (rs:List Str) (ws:List Int) (S:Int):Prop where
 s0:0 <= so
 s3:so <= 4
 len:rs.length = ws.length
 wt:Wt (rs.zip ws) S
 ne:1 <= rs.length
 a0:so = 0\/so = 4->rs.length = 1/\ws = [1]/\S = 1
 a1:so = 1->rs.length = 2
 a2:so = 2->ws = List.replicate rs.length 1/\S = rs.length
theorem Nh:∀ rs:List Str,rs.zip (List.replicate rs.length (1:Int)) = rs.map fun r=>(r,(1:Int))
 | []=>rfl
 | r :: rs=>by rw [List.length_cons,List.replicate_succ,List.zip_cons_cons,Nh rs]; rfl
structure PI (H:Hp) (ps:List V) (rs:List Nat) (ws:List Int) (S:Int):Prop where
 len:ps.length = rs.length
 at_:∀ (k r:Nat) (x:Int),rs[k]? = some r->ws[k]? = some x->∃ t c:Addr,ps[k]? = some (.ref t)/\H t = some (.tup [.int (r:Nat),.ref c])/\H c = some (.tup [.int (Ac.lw x S).1,.int (Ac.lw x S).2])
theorem PI.same {H H':Hp} {ps:List V} {rs:List Nat} {ws:List Int} {S:Int} (h:PI H ps rs ws S) (T:Same H H'):PI H' ps rs ws S:=⟨h.len,fun k r x e1 e2=>let ⟨t,c,a,b,d⟩:=h.at_ k r x e1 e2; ⟨t,c,a,T _ _ b,T _ _ d⟩⟩
noncomputable def Aq (ns:List Str) (rs:List Nat) (nms:List Str):Prop:=nms.length = rs.length/\∀ (k r:Nat) (m:Str),rs[k]? = some r->nms[k]? = some m->ns[r]? = some m
noncomputable def Bw (K:Frag) (D:Adr):Sp:=fun vs H Q _=>∃ (so:Int) (d n lp p:Addr) (t:Str) (x y S:Int) (rs:List Nat) (ws:List Int) (ps:List V) (ns nms:List Str),vs = [.str t,.ref d,.ref n]/\H d = some (.tup [.int so,.ref p,.ref lp])/\Wd t/\Fk K H p x y/\H lp = some (.lst ps)/\PI H ps rs ws S/\H n = some (.lst (ns.map V.str))/\Aq ns rs nms/\Drawn so nms ws S /\
 ∀ H' s ld ys us,Same H H'->H s = none->H ld = none->P_ K H' s (clsOf D so) t p (Ac.ways (nms.zip ws) S) ld ys us->Q (.ref s) H'
noncomputable def bJ (D1:Addr) (gs:List (Str × Int)) (S:Int) (H:Hp) (k:Nat) (ys:List V) (H':Hp):Prop:=Same H H'/\H' D1 = some (.lst ys)/\PW H' ys (gs.take k) S
noncomputable def eJ (D1:Addr) (ss:List Str) (H:Hp) (k:Nat) (ys:List V) (H':Hp):Prop:=Same H H'/\H' D1 = some (.lst ys)/\ys = (ss.take k).map V.str
theorem PW.snocT {H:Hp} {xs:List V} {gs:List (Str × Int)} {S x:Int} {m:Str} {t c:Addr} (h:PW H xs gs S) (ht:H t = some (.tup [.str m,.ref c])) (hc:H c = some (.tup [.int (Ac.lw x S).1,.int (Ac.lw x S).2])):PW H (xs ++ [.ref t]) (gs ++ [(m,x)]) S:=by
 refine ⟨by rw [aA,aA,h.len]; rfl,fun k g' e=>?_⟩
 by_cases hk:k < gs.length
 .rw [aD hk] at e
  obtain ⟨t',c',a,b⟩:=h.at_ k g' e
  exact ⟨t',c',by rw [aD (by rw [h.len]; exact hk)]; exact a,b⟩
 .rw [aC (by omega)] at e
  have e0:k - gs.length = 0:=by
   have:=(ao.mp e).1
   simp at this; omega
  rw [e0] at e
  cases e
  refine ⟨t,c,?_,ht,hc⟩
  rw [aC (by rw [h.len]; omega),h.len,e0]; rfl
theorem Wb (F:Fun K uc uc xJ f fd) (T:Txt K mg D) (rM:OkI P w K mg base (CXO P w) 5 D.Sure_init lC (qZ (K:=K) D)) (dU:OkI P w K mg base (CXO P w) 5 D.Mixed_init fV (fU K D)) (rA:OkI P w K mg base (CXO P w) 6 D.Toss_init lM (rN K D))
  (qM:OkI P w K mg base (CXO P w) 6 D.Even_init k_ (qU K D)):cu P w K mg base CX0 8 f fd tW (Bw K D):=by
 refine F.ok ur (fun vs H Q E h=>?_) (fun cdv A outer s H vs Q E hr h=>?_)
 .obtain ⟨so,d,n,lp,p,t,x,y,S,rs,ws,ps,ns,nms,rfl,_⟩:=h
  rfl
 .obtain ⟨so,d,n,lp,p,t,x,y,S,rs,ws,ps,ns,nms,rfl,hd,ht,hf,hlp,hp,hns,no,dr,q⟩:=h
  have fam:∀ C,(C = D.Sure\/C = D.Mixed\/C = D.Toss\/C = D.Even)->Fam D C:=by
   intro C hC
   unfold Fam
   rcases hC with h | h | h | h <;> simp [h]
  have s0:=dr.s0
  have s3:=dr.s3
  have hlen:=dr.len
  have gl:(nms.zip ws).length = nms.length:=by rw [List.length_zip]; omega
  have g8:=dr.wt.len
  have z9:100 < sizeLine:=by decide
  refine ⟨_,(bI (tL (pv 1) (fM (n:=3) rfl (b_ (bW (i:=4) ur.nd rfl (Or.inl rfl)) (b_ (bW (i:=5) ur.nd rfl (Or.inl rfl)) (b_ (bW (i:=6) ur.nd rfl (Or.inl rfl)) eZ)))))
   (bI (vN (bK xJ) xX xX ["_law_room", "_law_chance"] (cA ((pv 6)).mono) (fM (n:=2) rfl (b_ (cU (i:=0)) (b_ (cU (i:=1)) eZ))) cF (dI (bB (bQ bN (pv 4) (pv 0) (fun _ _=>rfl)) (bB (pv 1) bG))) (bW (i:=3) ur.nd rfl (Or.inl rfl)))
   (bI (dF (cW qy (pv 4) bH (cL _))
    (bL (bY (uH T.Zm rA (hr.mono (by decide)) (by rfl) T.aa0 wO (bB (pv 0) (bB (pv 5) (bB (bQ dD (bQ bN (pv 3) bH (fun _ _=>rfl)) bH (fun _ _=>rfl)) (bB (bQ dD (bQ bN (pv 3) bH (fun _ _=>rfl)) bH (fun _ _=>rfl)) (bB (bQ dD (bQ bN (pv 3) bH (fun _ _=>rfl)) bH (fun _ _=>rfl)) bG))))))))
    cH)
   (bI (dF (cW qy (pv 4) bH (cL _))
    (bL (bY (uH T.YK qM (hr.mono (by decide)) (by rfl) T.abX wO (bB (pv 0) (bB (pv 5) (bB (fW (bK xJ) xX xX ["_law_room", "_law_chance"] (cA ((pv 3)).mono) (fM (n:=2) rfl (b_ (cU (i:=0)) (b_ (cU (i:=1)) eZ))) cF (pv 0)) bG))))))
    cH)
   (bI (dF (cW qy (pv 4) bH (cL _))
    (bL (bY (uH T.XS dU (hr.mono (by decide)) (by rfl) T.JW wO (bB (pv 0) (bB (pv 5) (bB (pv 3) bG))))))
    cH)
   (bL (bY (uH T.YS rM (hr.mono (by decide)) (by rfl) T.abb wO (bB (pv 0) (bB (pv 5) (bB (bQ dD (bQ bN (pv 3) bH (fun _ _=>rfl)) bH (fun _ _=>rfl)) bG))))))))))),?_⟩
  refine cB fun R0 hR0=>?_
  walk_at "rd"
  refine ⟨_,hd,rfl,_,_,rfl,_,_,rfl,_,_,rfl,rfl,?_⟩
  subst hR0
  refine cB fun R1 hR1=>?_
  refine fZ (j5 ?_)
  walk_at "rd"
  have l100:ps.length <= sizeLine:=by rw [hp.len,<- no.1]; omega
  refine ⟨ps,hlp,l100,fun D1 hD=>⟨bJ D1 (nms.zip ws) S H,⟨Same.upd hD,bC,rfl,fun k g e=>by simp at e⟩,?_,?_⟩⟩
  .rintro k v ys Hc hk ⟨S1,h1,pw⟩ hy hlc pre hpre
   have lk:k < rs.length:=by rw [<- hp.len]; exact (ao.mp hk).1
   have e1:rs[k]? = some rs[k]:=aj lk
   have e2:nms[k]? = some (nms[k]'(by rw [no.1]; exact lk)):=aj _
   have e3:ws[k]? = some (ws[k]'(by rw [<- hlen,no.1]; exact lk)):=aj _
   have eg:(nms.zip ws)[k]? = some (nms[k]'(by rw [no.1]; exact lk),ws[k]'(by rw [<- hlen,no.1]; exact lk)):=List.getElem?_zip_eq_some.mpr ⟨e2,e3⟩
   have en:=no.2 _ _ _ e1 e2
   obtain ⟨tt,c,ea,eb,ec⟩:=(hp.same S1).at_ k _ _ e1 e3
   rw [hk] at ea
   cases ea
   generalize rs[k] = r at *
   generalize nms[k]'(by rw [no.1]; exact lk) = m at *
   generalize ws[k]'(by rw [<- hlen,no.1]; exact lk) = z at *
   obtain ⟨u1,u2,rfl⟩:=m8 hpre
   walk_at "rd"
   refine ⟨_,eb,rfl,_,_,rfl,_,_,rfl,rfl,[_,_],rfl,rfl,?_⟩
   refine ⟨_,_,rfl,S1 _ _ hns,_,bV (by rw [aq,en]; rfl),eE,fun p1 hp1=>?_⟩
   have nD:D1 ≠ p1:=bD h1 hp1
   refine ⟨(bF nD).trans h1,(bF (bD hlc hp1)).trans hlc,fun b o e=>(bF (bD e hD)).trans ((bF (bD (S1 _ _ e) hp1)).trans (S1 _ _ e)),bC,?_⟩
   rw [cg eg]
   refine (pw.imp fun t ys e=>?_).snocT (c:=c) ?_ ?_
   .exact (bF (eY e h1 (by intro z; cases z))).trans ((bF (bD e hp1)).trans e)
   .exact (bF nD.symm).trans bC
   .exact (bF (eY ec h1 (by intro z; cases z))).trans ((bF (bD ec hp1)).trans ec)
  .rintro ys Hc ⟨S1,h1,pw⟩ hy
   rw [hp.len,<- no.1,<- gl,aP] at pw
   have hw:=ht.word
   have h1000:t.length <= 1000:=aL ht.hi (by decide)
   have hf':=hf.same S1
   have mk:∀ {G:Hp} {C s dx:Addr},G s = none->G dx = none->¬ dx = s->Same G (upd (upd G dx (.own s)) s (.ins C dx [])):=fun {G C s dx} h1 h2 h3 b o e=>by
    rw [bF (bD e h1),bF (bD e h2)]; exact e
   have kp:∀ {G:Hp} {C s dx:Addr} {H':Hp},Same H G->G s = none->G dx = none->¬ dx = s->Keep s (upd (upd G dx (.own s)) s (.ins C dx [])) H'->Same H H':=fun {G C s dx H'} SG h1 h2 h3 k b o e=>k b o (bD (SG _ _ e) h1) (mk h1 h2 h3 b o (SG _ _ e))
   subst hR1
   obtain e | e | e | e:(so = 0\/so = 4)\/so = 1\/so = 2\/so = 3:=by omega
   .obtain ⟨l1,rfl,rfl⟩:=dr.a0 e
    obtain ⟨r,rfl⟩:=List.length_eq_one_iff.mp l1
    have wr:=dr.wt.wd (r,1) (by simp)
    obtain ⟨t0,c0,ea,eb,ec⟩:=pw.at_ 0 (r,1) rfl
    refine dj (fun R r=>⟨_,rfl,r⟩) (by omega) (dj (fun R r=>⟨_,rfl,r⟩) (by omega) (dj (fun R r=>⟨_,rfl,r⟩) (by omega) (za ?_)))
    refine ⟨_,rfl,_,rfl,_,rfl,_,_,_,_,rfl,rfl,h1,bV (j:=0) ea,_,_,_,_,rfl,rfl,eb,eU,fun o dx g1 g2 g3=>⟨o,dx,t,r,p,x,y,rfl,bC,h1000,hw,wr.1,wr.2,hf'.same (mk g1 g2 g3),fun t l H' f k e1 e2 e3=>⟨rfl,?_⟩⟩⟩
    have ec:clsOf D so = D.Sure:=by unfold clsOf; rw [if_neg (by omega),if_neg (by omega),if_neg (by omega)]
    refine q H' o l [.ref t] [(r,D.ONE)] (kp S1 g1 g2 g3 k) (Same.free S1 g1) (Same.free S1 (Same.free (mk g1 g2 g3) f)) ⟨⟨dx,by rw [ec]; exact e3⟩,e2,?_⟩
    show WF K H' [.ref t] (Ac.ways [(r,1)] 1) [(r,D.ONE)]
    rw [Ac.Vw]
    exact .cons e1 (T.Ce H') .nil
   .subst e
    have l2:=dr.a1 rfl
    obtain ⟨r1,r2,rfl⟩:=m8 l2
    obtain ⟨w1,w2,rfl⟩:=m8 (hlen.symm.trans l2)
    have wt:=dr.wt
    have es:w2 = S - w1:=by
     have:=wt.sum
     simp at this
     omega
    subst es
    obtain ⟨t0,c0,ea,eb,ec⟩:=pw.at_ 0 (r1,w1) rfl
    obtain ⟨t1,c1,fa,fb,fc⟩:=pw.at_ 1 (r2,S - w1) rfl
    refine j7 (fun R r=>⟨_,rfl,r⟩) rfl fun Kn hK=>za ?_
    refine ⟨_,rfl,_,rfl,_,rfl,_,_,_,_,rfl,rfl,h1,bV (j:=0) ea,_,_,_,_,rfl,rfl,eb,gO,_,rfl,_,_,_,_,rfl,rfl,h1,bV (j:=0) ea,_,_,_,_,rfl,rfl,eb,eU,_,rfl,_,_,_,_,rfl,rfl,h1,bV (j:=1) fa,_,_,_,_,rfl,rfl,fb,eU,fun o dx g1 g2 g3=>?_⟩
    exact ⟨o,dx,t,r1,r2,p,c0,x,y,w1,S,rfl,bC,h1000,hw,hf'.same (mk g1 g2 g3),mk g1 g2 g3 _ _ ec,wt,fun H' ld ys us f k d=>⟨rfl,q H' o ld ys us (kp S1 g1 g2 g3 k) (Same.free S1 g1) (Same.free S1 (Same.free (mk g1 g2 g3) f)) d⟩⟩
   .subst e
    obtain ⟨ew,rfl⟩:=dr.a2 rfl
    subst ew
    have hz:nms.zip (List.replicate nms.length (1:Int)) = nms.map fun r=>(r,(1:Int)):=Nh nms
    have wt:=dr.wt
    rw [hz] at wt q
    have ml:(nms.map fun r=>(r,(1:Int))).length = nms.length:=ak ..
    rw [hz] at pw
    refine dj (fun R r=>⟨_,rfl,r⟩) (by decide) (j7 (fun R r=>⟨_,rfl,r⟩) rfl fun Kn hK=>za ?_)
    refine ⟨_,rfl,_,rfl,Mv (j5 ⟨_,rfl,_,ys,rfl,h1,by rw [pw.len,ml]; omega,fun D2 hD2=>⟨eJ D2 nms Hc,⟨Same.upd hD2,bC,rfl⟩,?_,?_⟩⟩)⟩
    .rintro k v zs H3 hk ⟨S3,h3,ez⟩ hy3 h13 pre hpre
     have lk:k < nms.length:=by rw [<- ml,<- pw.len]; exact (ao.mp hk).1
     have e2:nms[k]? = some nms[k]:=aj lk
     obtain ⟨t0,c0,ea,eb,ec⟩:=pw.at_ k (nms[k],1) (by rw [aq,e2]; rfl)
     rw [hk] at ea
     cases ea
     generalize nms[k] = m at *
     obtain ⟨u1,u2,rfl⟩:=m8 hpre
     refine ⟨_,_,rfl,S3 _ _ eb,rfl,⟨_,_,rfl,_,_,rfl,rfl,[_,_],rfl,rfl,⟨_,rfl,h3,h13,fun b o e=>(bF (bD e hD2)).trans (S3 _ _ e),bC,?_⟩⟩⟩
     rw [cg e2,bw,ez]; rfl
    .rintro zs H3 ⟨S3,h3,ez⟩ hy3 o dx g1 g2 g3
     rw [pw.len,ml,aP] at ez
     subst ez
     exact ⟨o,dx,t,p,D2,x,y,nms,rfl,bC,h1000,hw,(hf'.same S3).same (mk g1 g2 g3),mk g1 g2 g3 _ _ h3,wt,fun H' ld ys us f k d=>⟨rfl,q H' o ld ys us (kp (S1.trans S3) g1 g2 g3 k) (Same.free (S1.trans S3) g1) (Same.free (S1.trans S3) (Same.free (mk g1 g2 g3) f)) d⟩⟩
   .subst e
    refine dj (fun R r=>⟨_,rfl,r⟩) (by decide) (dj (fun R r=>⟨_,rfl,r⟩) (by decide) (j7 (fun R r=>⟨_,rfl,r⟩) rfl fun Kn hK=>za ?_))
    refine ⟨_,rfl,_,rfl,_,rfl,fun o dx g1 g2 g3=>?_⟩
    exact ⟨o,dx,D.Mixed,t,p,D1,x,y,ys,_,_,rfl,bC,fam _ (by simp),h1000,hw,hf'.same (mk g1 g2 g3),mk g1 g2 g3 _ _ h1,pw.same (mk g1 g2 g3),dr.wt,fun H' ld ys us f k d=>⟨rfl,q H' o ld ys us (kp S1 g1 g2 g3 k) (Same.free S1 g1) (Same.free S1 (Same.free (mk g1 g2 g3) f)) d⟩⟩
theorem Ie {t b:Int} : Ac.lw (b - t) b = ((Ac.lw t b).2 - (Ac.lw t b).1,(Ac.lw t b).2):=by
 unfold Ac.lw
 rw [Int.gcd_self_sub_left,Int.sub_ediv_of_dvd b (Int.gcd_dvd_left t b)]
theorem QS {b:Int} : Ac.lw 1 b = (1,b):=by
 unfold Ac.lw
 rw [Int.one_gcd]
 simp
structure qj (n:Nat) (so:Int) (rs:List Nat) (ws:List Int) (S:Int):Prop where
 s0:0 <= so
 s3:so <= 4
 len:rs.length = ws.length
 pos:0 < S
 le:S <= 10 ^ 20
 l8:rs.length <= 8
 lo:∀ x ∈ ws,0 <= x
 sum:ws.sum = S
 ne:1 <= rs.length
 a0:so = 0\/so = 4->rs.length = 1/\ws = [1]/\S = 1
 a1:so = 1->rs.length = 2
 a2:so = 2->ws = List.replicate rs.length 1/\S = rs.length
 lt:∀ r ∈ rs,r < n
theorem qj.drawn {n:Nat} {so S:Int} {rs:List Nat} {ws:List Int} {ns nms:List Str} (h:qj n so rs ws S) (no:Aq ns rs nms) (hw:∀ m ∈ ns,Wd m):Drawn so nms ws S:=by
 have e:=no.1
 have l:=h.len
 refine ⟨h.s0,h.s3,by omega,⟨h.pos,h.le,?_,fun g hg=>?_,fun g hg=>?_,?_⟩,by rw [e]; exact h.ne,fun z=>by rw [e]; exact h.a0 z,fun z=>by rw [e]; exact h.a1 z,fun z=>by rw [e]; exact h.a2 z⟩
 .rw [List.length_zip]
  have:=h.l8
  omega
 .obtain ⟨k,hk⟩:=aW hg
  obtain ⟨a,b⟩:=List.getElem?_zip_eq_some.mp hk
  have lk:=(ao.mp a).1
  have er:rs[k]? = some (rs[k]'(by omega)):=aj _
  have w:=hw _ (aB (no.2 k _ _ er a))
  exact ⟨aL w.hi (by decide),w.word⟩
 .exact h.lo _ (List.of_mem_zip hg).2
 .have:(nms.zip ws).map (·.2) = ws:=List.map_snd_zip (by omega)
  rw [this]; exact h.sum
theorem PI.imp {H H':Hp} {ps:List V} {rs:List Nat} {ws:List Int} {S:Int} (T:∀ t ys,H t = some (.tup ys)->H' t = some (.tup ys)) (h:PI H ps rs ws S):PI H' ps rs ws S:=⟨h.len,fun k r x e1 e2=>let ⟨t,c,a,b,d⟩:=h.at_ k r x e1 e2; ⟨t,c,a,T _ _ b,T _ _ d⟩⟩
theorem PI.snoc {H:Hp} {ps:List V} {rs:List Nat} {ws:List Int} {S x:Int} {r:Nat} {t c:Addr} (h:PI H ps rs ws S) (hl:ws.length = rs.length) (ht:H t = some (.tup [.int r,.ref c])) (hc:H c = some (.tup [.int (Ac.lw x S).1,.int (Ac.lw x S).2])):PI H (ps ++ [.ref t]) (rs ++ [r]) (ws ++ [x]) S:=by
 refine ⟨by rw [aA,aA,h.len]; rfl,fun k r' x' e1 e2=>?_⟩
 by_cases hk:k < rs.length
 .rw [aD hk] at e1
  rw [aD (by omega)] at e2
  obtain ⟨t',c',a,b⟩:=h.at_ k r' x' e1 e2
  exact ⟨t',c',by rw [aD (by rw [h.len]; exact hk)]; exact a,b⟩
 .rw [aC (by omega)] at e1
  rw [aC (by omega)] at e2
  have e0:k - rs.length = 0:=by
   have:=(ao.mp e1).1
   simp at this; omega
  rw [e0] at e1
  rw [hl,e0] at e2
  cases e1
  cases e2
  refine ⟨t,c,?_,ht,hc⟩
  rw [aC (by rw [h.len]; omega),h.len,e0]; rfl
theorem Bm {ys:List V} {n:Nat} (h:n <= ys.length):mQ ys none (some (n:Int)) = ys.take n:=by
 unfold mQ
 rw [HT.pJ,Nat.min_eq_left h]
 show ((ys.drop 0).take (n - 0)) = _
 rw [List.drop_zero,Nat.sub_zero]
theorem SQ (n:Nat):(List.replicate n (1:Int)).sum = n:=by
 induction n with
 | zero=>rfl
 | succ n ih=>rw [List.replicate_succ,List.sum_cons,ih]; omega
noncomputable def evJ (D1:Addr) (rs:List Nat) (ws:List Int) (S:Int) (H:Hp) (k:Nat) (ys:List V) (H':Hp):Prop:=Same H H'/\H' D1 = some (.lst ys)/\PI H' ys (rs.take k) (ws.take k) S
noncomputable def weJ (D1:Addr) (H:Hp) (k:Nat) (ys:List V) (H':Hp):Prop:=∃ ws:List Int,ys = ws.map V.int/\ws.length = k/\(∀ x ∈ ws,0 <= x/\x <= 1000)/\Same H H'/\H' D1 = some (.lst ys)
theorem Ge:∀ l:List Int,(∀ x ∈ l,0 <= x/\x <= 1001)->0 <= l.sum/\l.sum <= 1001 * l.length/\∀ x ∈ l,x <= l.sum
 | [],_=>⟨by simp,by simp,by simp⟩
 | a :: l,h=>by
  obtain ⟨h1,h2,h3⟩:=Ge l fun x hx=>h x (aH _ hx)
  have h0:=h a aO
  rw [List.sum_cons,List.length_cons]
  refine ⟨by omega,by omega,fun x hx=>?_⟩
  rcases List.mem_cons.mp hx with rfl | hx
  .omega
  .have:=h3 x hx
   omega
theorem VP {n:Nat} (h:1 <= n):ixN n (-1) = some (n - 1):=by
 unfold ixN
 rw [if_neg (by omega),if_pos (by omega)]
 congr 1
 omega
theorem Y8 {α:Type} : ∀ {l:List α},l.length = 4->∃ a b c d,l = [a,b,c,d]
 | [a,b,c,d],_=>⟨a,b,c,d,rfl⟩
noncomputable def abG (D1:Addr) (n:Nat) (H:Hp) (k:Nat) (ys:List V) (Hc:Hp):Prop:=∃ r4:List Nat,ys = (r4.map fun r=>V.int (r:Nat))/\r4.length = k/\(∀ r ∈ r4,r < n)/\Hc = upd H D1 (.lst ys)
noncomputable def Aw:Sp:=fun vs H Q _=>∃ (c:Int) (n:Nat),vs = [.int c,.int n]/\1 <= n/\n <= 12/\∀ (d p lp:Addr) (so x y S:Int) (rs:List Nat) (ws:List Int) (ps:List V) H',Same H H'->H d = none->H' d = some (.tup [.int so,.ref p,.ref lp])->H' p = some (.tup [.int x,.int y])->0 < y->Int.gcd x y = 1->H' lp = some (.lst ps)->H lp = none->PI H' ps rs ws S->qj n so rs ws S->Q (.ref d) H'
theorem YB (F:Fun K wH wH wB f fd) (T:Txt K mg D) (d_:OkF P w K mg base 1 jm je fK) (mR:OkF P w K mg base 2 nY oE oA):cu P w K mg base CX0 3 f fd yd Aw:=by
 refine F.okB jG (fun vs H Q E h=>?_) (fun cdv A outer s H vs Q E hr h=>?_)
 .obtain ⟨c,n,rfl,_⟩:=h
  rfl
 .obtain ⟨c,n,rfl,n1,n12,q⟩:=h
  refine ⟨_,(cD (PSB.mk (bT (i:=2) jG.nd rfl (Or.inr rfl) (bM d_ (hr.mono (by decide)) (by rfl) (bB (pv 0) (bB bH bG)))))
   (cD (PSB.mk (bT (i:=3) jG.nd rfl (Or.inr rfl) (fW (bK wB) rB rB ["_law_x"] (cA ((gZ mO (pv 2) (fj bH) (fj bH))).mono) (cU (i:=0)) cF (bO mD (pv 0) (pv 2)))))
   (cD (PSB.mk (bT (i:=4) jG.nd rfl (Or.inl rfl) (bM mR (hr.mono (by decide)) (by rfl) (bB (bO Iu (bO cZ (bQ bN (pv 2) bH (fun _ _=>rfl)) bH) bH) (bB (bO dZ bH (bO cZ (bQ bN (pv 2) bH (fun _ _=>rfl)) bH)) bG)))))
   (cD (PSB.mk (bT (i:=5) jG.nd rfl (Or.inl rfl) (cR (bB (dI (bB (bQ bN (pv 3) bH (fun _ _=>rfl)) (bB (dI (bB bH (bB bH bG))) bG))) bG))))
   (cD (PSB.mk (dF (cW qy (bO cZ (bQ bN (pv 2) bH (fun _ _=>rfl)) bH) bH (cL _))
    (bI (bT (i:=6) jG.nd rfl (Or.inl rfl) (bO dZ bH (bO cZ (bQ bN (pv 2) bH (fun _ _=>rfl)) bH)))
    (bI (bT (i:=7) jG.nd rfl (Or.inl rfl) (bM mR (hr.mono (by decide)) (by rfl) (bB (bO mD (bQ bN (pv 2) bH (fun _ _=>rfl)) (bO dZ (pv 6) bH)) (bB (pv 6) bG))))
    (bL (bT (i:=5) jG.nd rfl (Or.inl rfl) (cR (bB (dI (bB (bQ bN (pv 3) bH (fun _ _=>rfl)) (bB (pv 7) bG))) (bB (dI (bB (bQ bN (pv 3) bH (fun _ _=>rfl)) (bB (dI (bB (bO Iu (bQ dD (pv 7) bH (fun _ _=>rfl)) (bQ dD (pv 7) bH (fun _ _=>rfl))) (bB (bQ dD (pv 7) bH (fun _ _=>rfl)) bG))) bG))) bG)))))))
    cH))
   (cD (PSB.mk (dF (cW qy (bO cZ (bQ bN (pv 2) bH (fun _ _=>rfl)) bH) bH (cL _))
    (bI (bT (i:=3) jG.nd rfl (Or.inr rfl) (gZ mO (pv 3) uW (fj (bO dZ bH (bO cZ (bQ bN (pv 2) bH (fun _ _=>rfl)) bH)))))
    (bL (vN (bK wB) rB rB ["_law_room"] (cA ((pv 3)).mono) (cU (i:=0)) cF (dI (bB (pv 0) (bB (dI (bB bH (bB (bU cT (by rfl) T.iC PySem.boot_len (bB (pv 4) bG)) bG))) bG))) (bW (i:=5) jG.nd rfl (Or.inl rfl)))))
    cH))
   (cD (PSB.mk (dF (cW qy (bO cZ (bQ bN (pv 2) bH (fun _ _=>rfl)) bH) bH (cL _))
    (bI (bT (i:=8) jG.nd rfl (Or.inr rfl) (fW (bK wB) rB rB ["_law_x"] (cA ((gZ mO (pv 2) (fj bH) (fj (bO dZ bH (bO cZ (bQ bN (pv 2) bH (fun _ _=>rfl)) bH))))).mono) (cU (i:=0)) cF (bO mD (pv 0) (bQ bN (cR (bB bH (bB bH (bB bH (bB bH bG))))) (bO cZ (bQ bN (pv 3) bH (fun _ _=>rfl)) bH) (fun _ _=>rfl)))))
    (bI (tL (bO dZ (bQ bN (pv 8) (Rq JL bH) (fun _ _=>rfl)) bH) (Dg (pv 8) (Rq JL bH) set_list))
    (bL (vN (bK wB) rB rB ["_law_k"] (gH (by rfl) T.kY (bB (bU cT (by rfl) T.iC PySem.boot_len (bB (pv 8) bG)) bG).mono) (cU (i:=0)) cF (dI (bB (bQ bN (pv 4) (pv 0) (fun _ _=>rfl)) (bB (bM mR (hr.mono (by decide)) (by rfl) (bB (bQ bN (pv 9) (pv 0) (fun _ _=>rfl)) (bB (bU (Gr rfl) (by rfl) T.aaM boot_sum (bB (pv 9) bG)) bG))) bG))) (bW (i:=5) jG.nd rfl (Or.inl rfl))))))
    cH))
   (wW (PSB.mk (bY (dI (bB (bU (TJ rfl) (by rfl) T.aeS boot_min (bB (bO cZ (bQ bN (pv 2) bH (fun _ _=>rfl)) bH) (bB bH bG))) (bB (pv 4) (bB (pv 5) bG)))))))))))))),?_⟩
  unfold fK oA
  refine ⟨_,rfl,c,13,rfl,by decide,fun l xs H1 S1 hl hl1 hx hr'=>?_⟩
  dsimp only [dw]
  have at_:∀ j,j < 13->∃ y,atI (xs.map V.int) (j:Nat) = some (.int y)/\0 <= y/\y < 2000000000:=fun j hj=>by
   have:j < xs.length:=by omega
   exact ⟨xs[j],bV (j:=j) (by rw [aq,aj this]; rfl),hr' _ (aV this)⟩
  refine cB fun R1 hR1=>?_
  walk_at "rd"
  refine cC ?_
  walk_at "rd"
  refine ⟨_,.of hl1,fun p hp=>?_⟩
  have ec:mQ (xs.map V.int) (some 2) (some 6) = ((xs.drop 2).take 4).map V.int:=by
   rw [List.map_take,List.map_drop]
   exact Ak (ys:=xs.map V.int) (a:=2) (b:=6) (by decide) (by rw [ak]; omega)
  rw [ec]
  have ul:((xs.drop 2).take 4).length = 4:=by rw [bf,List.length_drop]; omega
  have u0:∀ x ∈ (xs.drop 2).take 4,0 <= x:=fun x hx=>(hr' x (List.mem_of_mem_drop (List.mem_of_mem_take hx))).1
  have S2:Same H1 (upd H1 p (.lst (((xs.drop 2).take 4).map V.int))):=Same.upd hp
  generalize upd H1 p (.lst (((xs.drop 2).take 4).map V.int)) = H2 at S2 ⊢
  generalize (xs.drop 2).take 4 = us at ul u0 ⊢
  have z9:100 < sizeLine:=by decide
  refine ⟨by rw [ak]; omega,fun D1 hD1=>⟨abG D1 n H2,⟨[],rfl,rfl,by simp,rfl⟩,?_,?_⟩⟩
  .rintro k v ys Hc hk ⟨r4,rfl,rl,rn,rfl⟩ hy hpc
   rw [aq] at hk
   cases er:us[k]? with
   | none=>rw [er] at hk; cases hk
   | some i =>
    rw [er] at hk
    cases hk
    have i0:=u0 i (aB er)
    have m0:0 <= i % (n:Int):=Int.emod_nonneg _ (by omega)
    have m1:i % (n:Int) < n:=Int.emod_lt_of_pos _ (by omega)
    have ef:i.fmod (n:Int) = (((i % (n:Int)).toNat:Nat):Int):=by rw [aX _ (by omega)]; omega
    refine ⟨i,rfl,by omega,?_⟩
    rw [ef]
    refine ⟨bC,hpc,r4 ++ [(i % (n:Int)).toNat],by rw [bw]; rfl,by rw [aA,rl]; rfl,fun r hr=>?_,rm⟩
    rcases List.mem_append.mp hr with hr | hr
    .exact rn r hr
    .rw [List.mem_singleton.mp hr]; omega
  .rintro ys Hc ⟨r4,rfl,rl,rn,rfl⟩ hy
   rw [ak,ul] at rl
   have S3:Same H (upd H2 D1 (.lst (r4.map fun r=>V.int (r:Nat)))):=S1.trans (S2.trans (Same.upd hD1))
   have hl3:upd H2 D1 (.lst (r4.map fun r=>V.int (r:Nat))) l = some (.lst (xs.map V.int)):=Same.upd hD1 _ _ (S2 _ _ hl1)
   have hr3:upd H2 D1 (.lst (r4.map fun r=>V.int (r:Nat))) D1 = some (.lst (r4.map fun r=>V.int (r:Nat))):=bC
   generalize upd H2 D1 (.lst (r4.map fun r=>V.int (r:Nat))) = H3 at S3 hl3 hr3 ⊢
   obtain ⟨x6,a6,p6⟩:=at_ 6 (by decide)
   obtain ⟨x0,a0,p0⟩:=at_ 0 (by decide)
   obtain ⟨x1,a1,p1⟩:=at_ 1 (by decide)
   subst hR1
   refine cB fun R2 hR2=>?_
   walk_at "rd"
   refine ⟨_,hl3,_,a0,_,rfl,_,hl3,_,a1,_,rfl,by omega,Bd.sm (by omega),fun pp gp=>?_⟩
   have y0:=Ac.jx (t:=x0 % 61 - 30) (b:=1 + x1 % 12) (by omega)
   have yg:=Ac.zp (t:=x0 % 61 - 30) (b:=1 + x1 % 12) (by omega)
   generalize (Ac.lw (x0 % 61 - 30) (1 + x1 % 12)).1 = px at *
   generalize (Ac.lw (x0 % 61 - 30) (1 + x1 % 12)).2 = py at *
   have SP:Same H3 (upd H3 pp (.tup [.int px,.int py])):=Same.upd gp
   have hpp:upd H3 pp (.tup [.int px,.int py]) pp = some (.tup [.int px,.int py]):=bC
   generalize upd H3 pp (.tup [.int px,.int py]) = H3' at SP hpp ⊢
   have hl3:=SP _ _ hl3
   have hr3:=SP _ _ hr3
   have S3:=S3.trans SP
   subst hR2
   refine cB fun R3 hR3=>?_
   walk_at "rd"
   obtain ⟨ra,rb,rc,rd,rfl⟩:=Y8 rl
   refine ⟨_,hr3,_,eU,eE,fun q1 h1=>⟨eE,fun q2 h2=>⟨by decide,fun q3 h3=>?_⟩⟩⟩
   have d12:q1 ≠ q2:=bD bC h2
   have d23:q2 ≠ q3:=bD bC h3
   have d13:q1 ≠ q3:=bD ((bF d12).trans bC) h3
   have S4:Same H3' (upd (upd (upd H3' q1 (.tup [.int 1,.int 1])) q2 (.tup [.int ra,.ref q1])) q3 (.lst [.ref q2])):=(Same.upd h1).trans ((Same.upd h2).trans (Same.upd h3))
   have e1:upd (upd (upd H3' q1 (.tup [.int 1,.int 1])) q2 (.tup [.int ra,.ref q1])) q3 (.lst [.ref q2]) q1 = some (.tup [.int 1,.int 1]):=(bF d13).trans ((bF d12).trans bC)
   have e2:upd (upd (upd H3' q1 (.tup [.int 1,.int 1])) q2 (.tup [.int ra,.ref q1])) q3 (.lst [.ref q2]) q2 = some (.tup [.int ra,.ref q1]):=(bF d23).trans bC
   have e3:upd (upd (upd H3' q1 (.tup [.int 1,.int 1])) q2 (.tup [.int ra,.ref q1])) q3 (.lst [.ref q2]) q3 = some (.lst [.ref q2]):=bC
   have f3:H q3 = none:=Same.free S3 (Same.free (Same.upd h1) (Same.free (Same.upd h2) h3))
   generalize upd (upd (upd H3' q1 (.tup [.int 1,.int 1])) q2 (.tup [.int ra,.ref q1])) q3 (.lst [.ref q2]) = H4 at S4 e1 e2 e3 ⊢
   have hl4:=S4 _ _ hl3
   have hr4:=S4 _ _ hr3
   have hp4:=S4 _ _ hpp
   have S4:=S3.trans S4
   subst hR3
   refine Gs fun R hR=>?_
   obtain ⟨s6,e6,s60,s65⟩ : ∃ s6,x6 % 6 = s6/\0 <= s6/\s6 <= 5:=⟨_,rfl,by omega,by omega⟩
   have fin:∀ (so:Int) (u3 u6 u7 u8:Option V) (lp:Addr) (rs:List Nat) (ws:List Int) (S:Int) (ps:List V) (H9:Hp),so = (if 4 < s6 then 4 else s6)->Same H4 H9->H lp = none->H9 lp = some (.lst ps)->PI H9 ps rs ws S->qj n so rs ws S->R { nx:=fun _ H'=>Q .non H',rt:=Q } [some (.int c),some (.int n),some (.ref l),u3,some (.ref pp),some (.ref lp),u6,u7,u8] H9:=by
    intro so u3 u6 u7 u8 lp rs ws S ps H9 eso S9 fl hlp hpi hdr
    subst hR
    walk_at "rd"
    refine ⟨_,S9 _ _ hl4,_,a6,_,rfl,by decide,fun p2 f2=>?_⟩
    rw [e6,<- eso]
    have S10:Same H9 (upd H9 p2 (.tup [.int so,.ref pp,.ref lp])):=Same.upd f2
    exact q p2 pp lp so px py S rs ws ps _ (S4.trans (S9.trans S10)) (Same.free (S4.trans S9) f2) bC (S10 _ _ (S9 _ _ hp4)) y0 yg (S10 _ _ hlp) fl (hpi.same S10) hdr
   clear hR
   have tst:∀ (σ:L2.St) (H9:Hp),Same H4 H9->σ[2]? = some (some (.ref l))->∀ R:VK,R (.int s6) H9->tOp (rI (fun x j=>0 < j) fun i j=>V.int (i % j)) (tOp rQ (jw 2) (tC (V.int 6))) (tC (V.int 6)) σ H9 R:=fun σ H9 S9 hσ R r=>⟨_,hσ,_,_,_,_,rfl,rfl,S9 _ _ hl4,a6,_,_,rfl,rfl,(show (0:Int) < 6 by decide),(show R (V.int (x6 % 6)) H9 by rw [e6]; exact r)⟩
   have rf:Same H4 H4:=fun _ _ z=>z
   obtain e | e | e | e:(s6 = 0\/s6 = 4\/s6 = 5)\/s6 = 1\/s6 = 2\/s6 = 3:=by omega
   .refine dj (tst _ _ rf rfl) (by omega) (dj (tst _ _ rf rfl) (by omega) (dj (tst _ _ rf rfl) (by omega) (fin _ _ _ _ _ q3 [ra] [1] 1 [.ref q2] H4 rfl rf f3 e3 ⟨rfl,fun k r x h1 h2=>?_⟩ ?_)))
    .match k with
     | 0 =>
      cases h1
      cases h2
      exact ⟨q2,q1,rfl,e2,by rw [QS]; exact e1⟩
     | k + 1=>simp at h1
    .have so1:(if 4 < s6 then (4:Int) else s6) = 0\/(if 4 < s6 then (4:Int) else s6) = 4:=by split <;> omega
     generalize (if 4 < s6 then (4:Int) else s6) = so at so1
     exact ⟨by omega,by omega,rfl,by decide,by decide,by simp,by simp,rfl,by simp,fun _=>⟨rfl,rfl,rfl⟩,fun z=>by omega,fun z=>by omega,fun r hr=>rn r (by rw [List.mem_singleton.mp hr]; simp)⟩
   .subst e
    obtain ⟨x8,a8,p8⟩:=at_ 8 (by decide)
    obtain ⟨x9,a9,p9⟩:=at_ 9 (by decide)
    refine j7 (tst _ _ rf rfl) rfl fun Kn hK=>?_
    walk_at "rd"
    obtain ⟨b,eb,b0,b6⟩ : ∃ b,1 + x8 % 6 = b/\1 <= b/\b <= 6:=⟨_,rfl,by omega,by omega⟩
    obtain ⟨wt,ew,w0,w1⟩ : ∃ wt,x9.fmod (b + 1) = wt/\0 <= wt/\wt <= b:=by
     have m0:0 <= x9 % (b + 1):=Int.emod_nonneg _ (by omega)
     have m1:x9 % (b + 1) < b + 1:=Int.emod_lt_of_pos _ (by omega)
     exact ⟨_,rfl,by rw [aX _ (by omega)]; exact m0,by rw [aX _ (by omega)]; omega⟩
    refine ⟨_,hl4,_,a8,_,rfl,_,hl4,_,a9,_,rfl,by omega,by omega,Bd.sm (by omega),fun c1 g1=>?_⟩
    rw [eb,ew]
    have T1:Same H4 (upd H4 c1 (.tup [.int (Ac.lw wt b).1,.int (Ac.lw wt b).2])):=Same.upd g1
    have k1:upd H4 c1 (.tup [.int (Ac.lw wt b).1,.int (Ac.lw wt b).2]) c1 = some (.tup [.int (Ac.lw wt b).1,.int (Ac.lw wt b).2]):=bC
    generalize upd H4 c1 (.tup [.int (Ac.lw wt b).1,.int (Ac.lw wt b).2]) = H5 at T1 k1 ⊢
    refine ⟨_,T1 _ _ hr4,_,eU,eE,fun t1 g2=>?_⟩
    have T2:Same H5 (upd H5 t1 (.tup [.int ra,.ref c1])):=Same.upd g2
    have k2:upd H5 t1 (.tup [.int ra,.ref c1]) t1 = some (.tup [.int ra,.ref c1]):=bC
    generalize upd H5 t1 (.tup [.int ra,.ref c1]) = H6 at T2 k2 ⊢
    have j1:=T2 _ _ k1
    refine ⟨_,T2 _ _ (T1 _ _ hr4),_,gO,_,j1,_,gO,_,j1,_,eU,_,rfl,_,rfl,_,j1,_,gO,eE,fun c2 g3=>⟨eE,fun t2 g4=>⟨eE,fun lp g5=>?_⟩⟩⟩
    have m34:c2 ≠ t2:=bD bC g4
    have m45:t2 ≠ lp:=bD bC g5
    have m35:c2 ≠ lp:=bD ((bF m34).trans bC) g5
    have T3:Same H6 (upd (upd (upd H6 c2 (.tup [.int ((Ac.lw wt b).2 - (Ac.lw wt b).1),.int (Ac.lw wt b).2])) t2 (.tup [.int rb,.ref c2])) lp (.lst [.ref t1,.ref t2])):=(Same.upd g3).trans ((Same.upd g4).trans (Same.upd g5))
    have S6:Same H H6:=S4.trans (T1.trans T2)
    have T9:=(T1.trans T2).trans T3
    refine hK _ _ (dj (tst _ _ T9 rfl) (by decide) (dj (tst _ _ T9 rfl) (by decide) ?_))
    refine fin 1 _ _ _ _ lp [ra,rb] [wt,b - wt] b [.ref t1,.ref t2] _ rfl T9 (Same.free S6 (Same.free (Same.upd g3) (Same.free (Same.upd g4) g5))) bC ⟨rfl,fun k r x h1 h2=>?_⟩ ?_
    .match k with
     | 0 =>
      cases h1
      cases h2
      exact ⟨t1,c1,rfl,T3 _ _ k2,T3 _ _ j1⟩
     | 1 =>
      cases h1
      cases h2
      exact ⟨t2,c2,rfl,(bF m45).trans bC,by rw [Ie]; exact (bF m35).trans ((bF m34).trans bC)⟩
     | k + 2=>simp at h1
    .refine ⟨by decide,by decide,rfl,by omega,by omega,by simp,?_,?_,by simp,fun z=>by omega,fun _=>rfl,fun z=>by omega,?_⟩
     .intro x hx
      simp only [List.mem_cons,List.not_mem_nil,or_false] at hx
      omega
     .simp
      omega
     .intro r hr
      simp only [List.mem_cons,List.not_mem_nil,or_false] at hr
      rcases hr with rfl | rfl
      .exact rn _ (by simp)
      .exact rn _ (by simp)
   .subst e
    obtain ⟨x7,a7,p7⟩:=at_ 7 (by decide)
    refine dj (tst _ _ rf rfl) (by decide) (j7 (tst _ _ rf rfl) rfl fun Kn hK=>?_)
    walk_at "rd"
    obtain ⟨m,em,m1,m4⟩ : ∃ m:Nat,1 + x7 % 4 = m/\1 <= m/\m <= 4:=⟨(1 + x7 % 4).toNat,by omega,by omega,by omega⟩
    refine ⟨_,hl4,_,a7,_,rfl,_,.of hr4,fun p5 g5=>?_⟩
    rw [em,Bm (by rw [ak]; simp; omega),<- List.map_take]
    have l5:([ra,rb,rc,rd].take m).length = m:=by rw [bf]; simp; omega
    have r5:∀ r ∈ [ra,rb,rc,rd].take m,r < n:=fun r hr=>rn r (List.mem_of_mem_take hr)
    generalize [ra,rb,rc,rd].take m = rs at l5 r5 ⊢
    have T1:Same H4 (upd H4 p5 (.lst (rs.map fun r=>V.int (r:Nat)))):=Same.upd g5
    have k1:upd H4 p5 (.lst (rs.map fun r=>V.int (r:Nat))) p5 = some (.lst (rs.map fun r=>V.int (r:Nat))):=bC
    generalize upd H4 p5 (.lst (rs.map fun r=>V.int (r:Nat))) = H5 at T1 k1 ⊢
    have S5:=S4.trans T1
    have rl5:(List.replicate m (1:Int)).length = m:=aN
    refine cC ?_
    walk_at "rd"
    refine ⟨_,k1,by rw [ak]; omega,fun D2 hD2=>⟨evJ D2 rs (List.replicate m 1) m H5,⟨Same.upd hD2,bC,by simp; exact ⟨rfl,fun k r x h1 _=>by simp at h1⟩⟩,?_,?_⟩⟩
    .rintro k v ys Hc hk ⟨T5,h5,pi⟩ hy hpc
     rw [aq] at hk
     cases er:rs[k]? with
     | none=>rw [er] at hk; cases hk
     | some r =>
      rw [er] at hk
      cases hk
      have lk:k < m:=by rw [<- l5]; exact (ao.mp er).1
      have ew:(List.replicate m (1:Int))[k]? = some 1:=by rw [List.getElem?_replicate,if_pos lk]
      refine ⟨_,hpc,?_⟩
      rw [ak,l5]
      refine ⟨eE,fun c1 g1=>⟨eE,fun t1 g2=>?_⟩⟩
      have T6:Same Hc (upd (upd Hc c1 (.tup [.int 1,.int m])) t1 (.tup [.int r,.ref c1])):=(Same.upd g1).trans (Same.upd g2)
      have i1:upd (upd Hc c1 (.tup [.int 1,.int m])) t1 (.tup [.int r,.ref c1]) c1 = some (.tup [.int 1,.int m]):=(bF (bD bC g2)).trans bC
      have i2:upd (upd Hc c1 (.tup [.int 1,.int m])) t1 (.tup [.int r,.ref c1]) t1 = some (.tup [.int r,.ref c1]):=bC
      generalize upd (upd Hc c1 (.tup [.int 1,.int m])) t1 (.tup [.int r,.ref c1]) = H7 at T6 i1 i2 ⊢
      have nt:∀ t us,H7 t = some (.tup us)->upd H7 D2 (.lst (ys ++ [.ref t1])) t = some (.tup us):=fun t us e=>(bF (eY e (T6 _ _ h5) (by intro z; cases z))).trans e
      refine ⟨T6 _ _ h5,T6 _ _ hpc,fun b o e=>(bF (bD e hD2)).trans (T6 _ _ (T5 _ _ e)),bC,?_⟩
      rw [cg er,cg ew]
      refine ((pi.same T6).imp nt).snoc ?_ (nt _ _ i2) (by rw [QS]; exact nt _ _ i1)
      rw [bf,bf,rl5,l5]
    .rintro ys Hc ⟨T5,h5,pi⟩ hy
     rw [ak,aP,l5,aK (by rw [rl5]; exact aF _)] at pi
     refine hK _ _ (dj (tst _ _ (T1.trans T5) rfl) (by decide) (fin 2 _ _ _ _ D2 rs (List.replicate m 1) m ys Hc rfl (T1.trans T5) (Same.free S5 hD2) h5 pi ?_))
     exact ⟨by decide,by decide,by rw [rl5,l5],by omega,by omega,by omega,fun x hx=>by rw [(List.mem_replicate.mp hx).2]; decide,SQ m,by omega,fun z=>by omega,fun z=>by omega,fun _=>⟨by rw [l5],by rw [l5]⟩,r5⟩
   .subst e
    obtain ⟨x7,a7,p7⟩:=at_ 7 (by decide)
    obtain ⟨x12,a12,p12⟩:=at_ 12 (by decide)
    refine dj (tst _ _ rf rfl) (by decide) (dj (tst _ _ rf rfl) (by decide) (j7 (tst _ _ rf rfl) rfl fun Kn hK=>?_))
    walk_at "rd"
    refine cC ?_
    walk_at "rd"
    obtain ⟨m,em,m1,m4⟩ : ∃ m:Nat,9 + x7 % 4 = ((8 + m:Nat):Int)/\1 <= m/\m <= 4:=⟨(1 + x7 % 4).toNat,by omega,by omega,by omega⟩
    refine ⟨_,hl4,_,a7,_,rfl,_,.of hl4,fun p5 g5=>?_⟩
    have ec:mQ (xs.map V.int) (some 8) (some (9 + x7 % 4)) = ((xs.drop 8).take m).map V.int:=by
     rw [em,List.map_take,List.map_drop]
     have:=Ak (ys:=xs.map V.int) (a:=8) (b:=8 + m) (by omega) (by rw [ak]; omega)
     rw [show 8 + m - 8 = m by omega] at this
     exact this
    rw [ec]
    have l5:((xs.drop 8).take m).length = m:=by rw [bf,List.length_drop]; omega
    have r5:∀ x ∈ (xs.drop 8).take m,0 <= x:=fun x hx=>(hr' x (List.mem_of_mem_drop (List.mem_of_mem_take hx))).1
    have T1:Same H4 (upd H4 p5 (.lst (((xs.drop 8).take m).map V.int))):=Same.upd g5
    generalize upd H4 p5 (.lst (((xs.drop 8).take m).map V.int)) = H5 at T1 ⊢
    generalize (xs.drop 8).take m = vs at l5 r5 ⊢
    have S5:=S4.trans T1
    obtain ⟨md,ed,hmd⟩ : ∃ md:Int,atI [V.int 3,V.int 3,V.int 3,V.int 1000] (x12 % 4) = some (.int md)/\(md = 3\/md = 1000):=by
     obtain e | e | e | e:x12 % 4 = 0\/x12 % 4 = 1\/x12 % 4 = 2\/x12 % 4 = 3:=by omega
     .exact ⟨3,by rw [e]; exact bV (j:=0) rfl,.inl rfl⟩
     .exact ⟨3,by rw [e]; exact bV (j:=1) rfl,.inl rfl⟩
     .exact ⟨3,by rw [e]; exact bV (j:=2) rfl,.inl rfl⟩
     .exact ⟨1000,by rw [e]; exact bV (j:=3) rfl,.inr rfl⟩
    refine ⟨by rw [ak]; omega,fun D2 hD2=>⟨weJ D2 H5,⟨[],rfl,rfl,by simp,Same.upd hD2,bC⟩,?_,?_⟩⟩
    .rintro k v ys Hc hk ⟨ws,rfl,wl,wb,T5,h5⟩ hy hpc
     rw [aq] at hk
     cases er:vs[k]? with
     | none=>rw [er] at hk; cases hk
     | some i =>
      rw [er] at hk
      cases hk
      have i0:=r5 i (aB er)
      have f0:0 <= i.fmod md/\i.fmod md <= 1000:=by
       rcases hmd with rfl | rfl
       .rw [aX _ (by decide)]; omega
       .rw [aX _ (by decide)]; omega
      refine ⟨by decide,fun p6 g6=>⟨_,(bF (bD (T5 _ _ (T1 _ _ hl4)) g6)).trans (T5 _ _ (T1 _ _ hl4)),_,a12,_,rfl,_,ed,i,rfl,md,rfl,by omega,(bF (bD h5 g6)).trans h5,(bF (bD hpc g6)).trans hpc,ws ++ [i.fmod md],by rw [bw]; rfl,by rw [aA,wl]; rfl,fun x hx=>?_,fun b o e=>(bF (bD e hD2)).trans ((bF (bD (T5 _ _ e) g6)).trans (T5 _ _ e)),bC⟩⟩
      rcases List.mem_append.mp hx with hx | hx
      .exact wb x hx
      .rw [List.mem_singleton.mp hx]; exact f0
    .rintro ys Hc ⟨ws,rfl,wl,wb,T5,h5⟩ hy
     rw [ak,l5] at wl
     have lm:m - 1 < ws.length:=by omega
     have el:ws[m - 1]? = some ws[m - 1]:=aj lm
     have bl:=wb _ (aV lm)
     generalize ws[m - 1] = wl0 at el bl
     have ix:ixN (ws.map V.int).length (-1) = some (m - 1):=by rw [ak,wl]; exact VP m1
     have ea:atI (ws.map V.int) (-1) = some (.int wl0):=by
      unfold atI
      rw [ix]
      show (ws.map V.int)[m - 1]? = _
      rw [aq,el]; rfl
     refine ⟨_,h5,_,ea,wl0,rfl,_,h5,_,ix,?_⟩
     rw [<- List.map_set]
     have l6:(ws.set (m - 1) (wl0 + 1)).length = m:=by rw [List.length_set,wl]
     have b6:∀ x ∈ ws.set (m - 1) (wl0 + 1),0 <= x/\x <= 1001:=fun x hx=>by
      rcases List.mem_or_eq_of_mem_set hx with hx | rfl
      .have:=wb x hx
       omega
      .omega
     have in6:wl0 + 1 ∈ ws.set (m - 1) (wl0 + 1):=List.mem_set lm _
     generalize ws.set (m - 1) (wl0 + 1) = ww at l6 b6 in6 ⊢
     obtain ⟨s1,s2,s3'⟩:=Ge ww b6
     have sp:=s3' _ in6
     have T6:Same H4 (upd Hc D2 (.lst (ww.map V.int))):=fun b o e=>(bF (bD (T1 _ _ e) hD2)).trans (T5 _ _ (T1 _ _ e))
     have k6:upd Hc D2 (.lst (ww.map V.int)) D2 = some (.lst (ww.map V.int)):=bC
     have r6:upd Hc D2 (.lst (ww.map V.int)) D1 = some (.lst ([ra,rb,rc,rd].map fun r=>V.int (r:Nat))):=(bF (bD (T1 _ _ hr4) hD2)).trans (T5 _ _ (T1 _ _ hr4))
     have hl6:upd Hc D2 (.lst (ww.map V.int)) l = some (.lst (xs.map V.int)):=(bF (bD (T1 _ _ hl4) hD2)).trans (T5 _ _ (T1 _ _ hl4))
     generalize upd Hc D2 (.lst (ww.map V.int)) = H6 at T6 k6 r6 hl6 ⊢
     have lt4:([ra,rb,rc,rd].take m).length = m:=by rw [bf]; simp; omega
     refine mU ?_
     walk_at "rd"
     refine ⟨_,k6,m,by rw [ak,l6],by omega,fun D3 hD3=>⟨evJ D3 ([ra,rb,rc,rd].take m) ww ww.sum H6,⟨Same.upd hD3,bC,by simp; exact ⟨rfl,fun k r x h1 _=>by simp at h1⟩⟩,?_,?_⟩⟩
     .rintro k ys Hc hk ⟨T7,h7,pi⟩ hy
      have er : [ra,rb,rc,rd][k]? = some ([ra,rb,rc,rd][k]'(by simp; omega)):=aj _
      have et:([ra,rb,rc,rd].take m)[k]? = some ([ra,rb,rc,rd][k]'(by simp; omega)):=by rw [List.getElem?_take,if_pos hk]; exact er
      have ew:ww[k]? = some (ww[k]'(by omega)):=aj _
      generalize [ra,rb,rc,rd][k]'(by simp; omega) = r at er et
      generalize ww[k]'(by omega) = wk at ew
      refine ⟨_,T7 _ _ r6,_,bV (j:=k) (by rw [aq,er]; rfl),_,T7 _ _ k6,_,bV (j:=k) (by rw [aq,ew]; rfl),ww,T7 _ _ k6,wk,rfl,by omega,Bd.sm (by omega),fun c1 g1=>⟨eE,fun t1 g2=>?_⟩⟩
      have T8:Same Hc (upd (upd Hc c1 (.tup [.int (Ac.lw wk ww.sum).1,.int (Ac.lw wk ww.sum).2])) t1 (.tup [.int r,.ref c1])):=(Same.upd g1).trans (Same.upd g2)
      have i1:upd (upd Hc c1 (.tup [.int (Ac.lw wk ww.sum).1,.int (Ac.lw wk ww.sum).2])) t1 (.tup [.int r,.ref c1]) c1 = some (.tup [.int (Ac.lw wk ww.sum).1,.int (Ac.lw wk ww.sum).2]):=(bF (bD bC g2)).trans bC
      have i2:upd (upd Hc c1 (.tup [.int (Ac.lw wk ww.sum).1,.int (Ac.lw wk ww.sum).2])) t1 (.tup [.int r,.ref c1]) t1 = some (.tup [.int r,.ref c1]):=bC
      generalize upd (upd Hc c1 (.tup [.int (Ac.lw wk ww.sum).1,.int (Ac.lw wk ww.sum).2])) t1 (.tup [.int r,.ref c1]) = H8 at T8 i1 i2 ⊢
      have nt:∀ t us,H8 t = some (.tup us)->upd H8 D3 (.lst (ys ++ [.ref t1])) t = some (.tup us):=fun t us e=>(bF (eY e (T8 _ _ h7) (by intro z; cases z))).trans e
      refine ⟨T8 _ _ h7,fun b o e=>(bF (bD e hD3)).trans (T8 _ _ (T7 _ _ e)),bC,?_⟩
      rw [cg et,cg ew]
      refine ((pi.same T8).imp nt).snoc ?_ (nt _ _ i2) (nt _ _ i1)
      rw [bf,bf,l6,lt4]
     .rintro ys Hc ⟨T7,h7,pi⟩ hy
      have pi:PI Hc ys ([ra,rb,rc,rd].take m) ww ww.sum:=by
       have e1:([ra,rb,rc,rd].take m).take m = [ra,rb,rc,rd].take m:=aK (by rw [lt4]; exact aF _)
       have e2:ww.take m = ww:=aK (by rw [l6]; exact aF _)
       rw [e1,e2] at pi
       exact pi
      refine hK _ _ (fin 3 _ _ _ _ D3 ([ra,rb,rc,rd].take m) ww ww.sum ys Hc rfl (T6.trans T7) (Same.free (S4.trans T6) hD3) h7 pi ?_)
      exact ⟨by decide,by decide,by rw [lt4,l6],by omega,by omega,by omega,fun x hx=>(b6 x hx).1,rfl,by omega,fun z=>by omega,fun z=>by omega,fun z=>by omega,fun r hr=>rn r (List.mem_of_mem_take hr)⟩
structure DD (n:Nat) (H:Hp) (d:Addr):Prop where
 ex:∃ (p lp:Addr) (so x y S:Int) (rs:List Nat) (ws:List Int) (ps:List V),H d = some (.tup [.int so,.ref p,.ref lp])/\H p = some (.tup [.int x,.int y])/\0 < y/\Int.gcd x y = 1/\H lp = some (.lst ps)/\PI H ps rs ws S/\qj n so rs ws S
theorem DD.same {n:Nat} {H H':Hp} {d:Addr} (h:DD n H d) (S:Same H H'):DD n H' d:=by
 obtain ⟨_,_,_,_,_,_,_,_,_,a,b,b1,b2,c,d,e⟩:=h.ex
 exact ⟨_,_,_,_,_,_,_,_,_,S _ _ a,S _ _ b,b1,b2,S _ _ c,d.same S,e⟩
structure RD (n:Nat) (H:Hp) (xs:List V) (dss:List (List Addr)):Prop where
 len:xs.length = dss.length
 at_:∀ (k:Nat) (ds:List Addr),dss[k]? = some ds->∃ l,xs[k]? = some (.ref l)/\H l = some (.lst (ds.map V.ref))/\∀ d ∈ ds,DD n H d
theorem RD.same {n:Nat} {H H':Hp} {xs:List V} {dss:List (List Addr)} (h:RD n H xs dss) (S:Same H H'):RD n H' xs dss:=⟨h.len,fun k ds e=>let ⟨l,a,b,c⟩:=h.at_ k ds e; ⟨l,a,S _ _ b,fun d hd=>(c d hd).same S⟩⟩
theorem DD.off {n:Nat} {H:Hp} {ls:List Addr} {d p lp:Addr} {so x y S:Int} {rs:List Nat} {ws:List Int} {ps:List V} (hls:∀ l ∈ ls,∃ zs,H l = some (.lst zs)) (nl:lp ∉ ls) (h1:H d = some (.tup [.int so,.ref p,.ref lp])) (h2:H p = some (.tup [.int x,.int y])) (y0:0 < y) (g:Int.gcd x y = 1) (h3:H lp = some (.lst ps)) (h4:PI H ps rs ws S) (h5:qj n so rs ws S):DD n (del ls H) d:=by
 have nt:∀ t us,H t = some (.tup us)->del ls H t = some (.tup us):=fun t us e=>eG (fun z=>by
  obtain ⟨zs,hz⟩:=hls t z
  rw [hz] at e
  cases e) e
 exact ⟨p,lp,so,x,y,S,rs,ws,ps,nt _ _ h1,nt _ _ h2,y0,g,eG nl h3,h4.imp nt,h5⟩
noncomputable def Bv (K:Frag) (a:Addr) (ns:List Int):Sp:=fun vs H Q _=>∃ (c:Int) (n:Nat) (m:Nat),vs = [.ref a,.int c,.int n,.int m]/\SqL K H a (ns.map V.int)/\ns.length <= 63/\0 <= c/\n <= 12/\m <= 100/\∀ (r:Addr) (xs:List V) (dss:List (List Addr)) H',Same H H'->H r = none->H' r = some (.lst xs)->dss.length = n->RD n H' xs dss->(∀ ds ∈ dss,ds.length <= m)->Q (.ref r) H'
structure RL (n m:Nat) (H0 H:Hp) (ls:List Addr) (dss:List (List Addr)):Prop where
 len:ls.length = dss.length
 nd:ls.Nodup
 new:∀ l ∈ ls,H0 l = none
 at_:∀ (k:Nat) (l:Addr) (ds:List Addr),ls[k]? = some l->dss[k]? = some ds->H l = some (.lst (ds.map V.ref))/\ds.length <= m/\∀ d ∈ ds,DD n (del ls H) d
theorem RL.rd {n m:Nat} {H0 H:Hp} {ls:List Addr} {dss:List (List Addr)} (h:RL n m H0 H ls dss):RD n H (ls.map V.ref) dss:=⟨by rw [ak,h.len],fun k ds e=>by
 have lk:k < ls.length:=by rw [h.len]; exact (ao.mp e).1
 have el:ls[k]? = some ls[k]:=aj lk
 obtain ⟨a,_,c⟩:=h.at_ k _ ds el e
 exact ⟨ls[k],by rw [aq,el]; rfl,a,fun d hd=>(c d hd).same gY⟩⟩
theorem RL.lists {n m:Nat} {H0 H:Hp} {ls:List Addr} {dss:List (List Addr)} (h:RL n m H0 H ls dss):∀ l ∈ ls,∃ zs,H l = some (.lst zs):=fun l hl=>by
 obtain ⟨k,hk⟩:=aW hl
 have lk:k < dss.length:=by rw [<- h.len]; exact (ao.mp hk).1
 exact ⟨_,(h.at_ k l _ hk (aj lk)).1⟩
theorem RL.same {n m:Nat} {H0 H H':Hp} {ls:List Addr} {dss:List (List Addr)} (h:RL n m H0 H ls dss) (S:Same H H'):RL n m H0 H' ls dss:=⟨h.len,h.nd,h.new,fun k l ds e1 e2=>let ⟨a,b,c⟩:=h.at_ k l ds e1 e2; ⟨S _ _ a,b,fun d hd=>(c d hd).same (kO fun b o _ e=>S _ _ e)⟩⟩
theorem RL.put {n m:Nat} {H0 H:Hp} {ls:List Addr} {dss:List (List Addr)} {k:Nat} {l d:Addr} {ds:List Addr} (h:RL n m H0 H ls dss) (el:ls[k]? = some l) (ed:dss[k]? = some ds) (hm:ds.length < m) (hd:DD n (del ls H) d):RL n m H0 (upd H l (.lst ((ds ++ [d]).map V.ref))) ls (dss.set k (ds ++ [d])):=by
 have lm:=aB el
 have ee:del ls (upd H l (.lst ((ds ++ [d]).map V.ref))) = del ls H:=by
  funext b
  unfold del
  split
  .rfl
  .rename_i hb
   exact bF fun z=>hb (z ▸ lm)
 refine ⟨by rw [List.length_set,h.len],h.nd,h.new,fun j l' ds' e1 e2=>?_⟩
 rw [ee]
 by_cases e:k = j
 .subst e
  rw [el] at e1
  cases e1
  rw [List.getElem?_set_self (ao.mp ed).1] at e2
  cases e2
  obtain ⟨a,b,c⟩:=h.at_ k l ds el ed
  refine ⟨bC,by rw [aA]; simp; omega,fun d' hd'=>?_⟩
  rcases List.mem_append.mp hd' with hd' | hd'
  .exact c d' hd'
  .rw [List.mem_singleton.mp hd']; exact hd
 .rw [List.getElem?_set_ne e] at e2
  obtain ⟨a,b,c⟩:=h.at_ j l' ds' e1 e2
  refine ⟨(bF fun z=>?_).trans a,b,c⟩
  subst z
  have l1:=ao.mp el
  have l2:=ao.mp e1
  have pw:=List.pairwise_iff_getElem.mp h.nd
  rcases Nat.lt_or_gt_of_ne e with lt | lt
  .exact pw k j l1.1 l2.1 lt (l1.2.trans l2.2.symm)
  .exact pw j k l2.1 l1.1 lt (l2.2.trans l1.2.symm)
noncomputable def dJ0 (n m:Nat) (D1:Addr) (H H1:Hp) (k:Nat) (ys:List V) (Hc:Hp):Prop:=∃ ls:List Addr,ys = ls.map V.ref/\RL n m H Hc ls (List.replicate k [])/\Same H1 Hc/\Hc D1 = some (.lst ys)/\D1 ∉ ls
theorem RL.nil {n m:Nat} {H0 H:Hp} : RL n m H0 H [] (List.replicate 0 []):=⟨rfl,List.nodup_nil,by simp,fun k l ds e=>by simp at e⟩
theorem RL.more {n m k:Nat} {H0 H:Hp} {ls:List Addr} {l:Addr} (h:RL n m H0 H ls (List.replicate k [])) (h0:H0 l = none) (hl:H l = none):RL n m H0 (upd H l (.lst [])) (ls ++ [l]) (List.replicate (k + 1) []):=by
 have hk:ls.length = k:=by rw [h.len,aN]
 have nin:l ∉ ls:=fun z=>by
  obtain ⟨zs,hz⟩:=h.lists l z
  rw [hl] at hz
  cases hz
 refine ⟨by rw [aA,hk,aN]; rfl,?_,fun l' hl'=>?_,fun j l' ds e1 e2=>?_⟩
 .rw [List.nodup_append]
  refine ⟨h.nd,by simp,fun a ha b hb z=>?_⟩
  rw [List.mem_singleton.mp hb] at z
  exact nin (z ▸ ha)
 .rcases List.mem_append.mp hl' with hl' | hl'
  .exact h.new l' hl'
  .rw [List.mem_singleton.mp hl']; exact h0
 .have lj:=(ao.mp e2).1
  rw [aN] at lj
  rw [List.getElem?_replicate,if_pos lj] at e2
  cases e2
  by_cases hj:j < ls.length
  .rw [aD hj] at e1
   obtain ⟨a,_⟩:=h.at_ j l' [] e1 (by rw [List.getElem?_replicate,if_pos (by omega)])
   exact ⟨(bF (fun z=>by rw [z,hl] at a; cases a)).trans a,bh _,by simp⟩
  .rw [aC (by omega)] at e1
   have e0:j - ls.length = 0:=by omega
   rw [e0] at e1
   cases e1
   exact ⟨bC,bh _,by simp⟩
theorem RL.other {n m k:Nat} {H0 H:Hp} {ls:List Addr} {D1:Addr} {o:HO} (h:RL n m H0 H ls (List.replicate k [])) (nd:D1 ∉ ls):RL n m H0 (upd H D1 o) ls (List.replicate k []):=by
 refine ⟨h.len,h.nd,h.new,fun j l ds e1 e2=>?_⟩
 obtain ⟨a,b,_⟩:=h.at_ j l ds e1 e2
 have lj:=(ao.mp e2).1
 rw [aN] at lj
 rw [List.getElem?_replicate,if_pos lj] at e2
 cases e2
 exact ⟨(bF fun z=>by subst z; exact nd (aB e1)).trans a,b,by simp⟩
noncomputable def dJ (a D1:Addr) (c:Int) (n m:Nat) (ls:List Addr) (u5 u6:Option V) (H:Hp) (k:Nat) (σ:L2.St) (H':Hp):Prop:=∃ (u7 u8:Option V) (dss:List (List Addr)),σ = [some (.ref a),some (.int c),some (.int n),some (.int m),some (.ref D1),u5,u6,u7,u8]/\Same H H'/\H' D1 = some (.lst (ls.map V.ref))/\dss.length = n/\RL n m H H' ls dss
theorem Xk (F:Fun K tX tX A_ f fd) (T:Txt K mg D) (a:Addr) (ns:List Int) (oW:OkF P w K mg base 1 uV u_ (vD K a ns)) (d_:OkF P w K mg base 1 jm je fK) (PK:OkF P w K mg base 3 wH yd Aw):cu P w K mg base CX0 4 f fd sS (Bv K a ns):=by
 refine F.ok qH (fun vs H Q E h=>?_) (fun cdv A outer s H vs Q E hr h=>?_)
 .obtain ⟨c,n,m,rfl,_⟩:=h
  rfl
 .obtain ⟨c,n,m,rfl,hs,n63,c0,n12,m100,q⟩:=h
  refine ⟨_,(bI (vN (bK A_) Ko Ko ["_law_k"] (gH (by rfl) T.kY (bB (pv 2) bG).mono) (cU (i:=0)) cF (cR bG) (bW (i:=4) qH.nd rfl (Or.inl rfl)))
   (bI (dF (cW Qt (pv 2) bH (cL _))
    (bI (bT (i:=5) qH.nd rfl (Or.inl rfl) (bO cZ (bM oW (hr.mono (by decide)) (by rfl) (bB (pv 0) (bB (pv 1) bG))) bH))
    (bI (bT (i:=6) qH.nd rfl (Or.inl rfl) (bM d_ (hr.mono (by decide)) (by rfl) (bB (pv 5) (bB (bO mD (bO cZ (bO VF (pv 5) bH) bH) (bO dZ (bO fL bH (pv 2)) bH)) bG))))
    (bL (gC PassesOwn.never rfl (cA ((bO rD (pv 6) (gZ mO (pv 0) (fj (bO dZ (pv 1) bH)) (fj (bO dZ (pv 1) bH))))).mono) (bW (i:=7) qH.nd rfl (Or.inl rfl))
     (bI (bT (i:=8) qH.nd rfl (Or.inl rfl) (bO mD (bQ bN (bM d_ (hr.mono (by decide)) (by rfl) (bB (pv 7) (bB bH bG))) bH (fun _ _=>rfl)) (pv 2)))
     (bL (dF (cW Gz (bU cT (by rfl) T.iC PySem.boot_len (bB (bQ bN (pv 4) (pv 8) (fun _ _=>rfl)) bG)) (pv 3) (cL _))
      (bL (dh (sX (bQ bN (pv 4) (pv 8) (fun _ _=>rfl)) (bB (bM PK (hr.mono (by decide)) (by rfl) (bB (pv 7) (bB (pv 2) bG))) bG))))
      cH)))))))
    cH)
   (bL (bY (pv 4))))),?_⟩
  unfold vD fK Aw
  refine cB fun R1 hR1=>?_
  walk_at "rd"
  refine mU ?_
  walk_at "rd"
  refine ⟨n,rfl,by omega,fun D1 hD1=>⟨dJ0 n m D1 H H,⟨[],rfl,.nil,Same.upd hD1,bC,by simp⟩,?_,?_⟩⟩
  .rintro k ys Hc hk ⟨ls,rfl,rl,S1,h1,nd⟩ hy
   refine ⟨bh _,fun l hl=>?_⟩
   have nD:D1 ≠ l:=bD h1 hl
   refine ⟨(bF nD).trans h1,ls ++ [l],by rw [bw]; rfl,(rl.more (Same.free S1 hl) hl).other ?_,fun b o e=>(bF (bD e hD1)).trans ((bF (bD (S1 _ _ e) hl)).trans (S1 _ _ e)),bC,?_⟩
   .simp only [List.mem_append,List.mem_singleton,not_or]
    exact ⟨nd,nD⟩
   .simp only [List.mem_append,List.mem_singleton,not_or]
    exact ⟨nd,nD⟩
  .rintro ys Hc ⟨ls,rfl,rl,S1,h1,nd⟩ hy
   subst hR1
   refine cB fun R2 hR2=>?_
   have fin:∀ (u5 u6 u7 u8:Option V) (dss:List (List Addr)) (H9:Hp),Same H H9->H9 D1 = some (.lst (ls.map V.ref))->dss.length = n->RL n m H H9 ls dss->R2 { nx:=fun _ H'=>Q .non H',rt:=Q } [some (.ref a),some (.int c),some (.int n),some (.int m),some (.ref D1),u5,u6,u7,u8] H9:=by
    intro u5 u6 u7 u8 dss H9 S9 h9 ld r9
    subst hR2
    refine ⟨_,rfl,q D1 _ dss H9 S9 hD1 h9 ld r9.rd fun ds hds=>?_⟩
    obtain ⟨k,hk⟩:=aW hds
    have lk:k < ls.length:=by rw [r9.len]; exact (ao.mp hk).1
    exact (r9.at_ k _ ds (aj lk) hk).2.1
   clear hR2
   walk_at "rd"
   refine U8 (fun hn=>?_) fun _=>fin none none none none (List.replicate n []) Hc S1 h1 aN rl
   have hn:0 < (n:Int):=of_decide_eq_true hn
   have c0':0 <= cell ns c % 2147483647:=Int.emod_nonneg _ (by decide)
   have c1':cell ns c % 2147483647 < 2147483647:=Int.emod_lt_of_pos _ (by decide)
   generalize cell ns c % 2147483647 = fc at c0' c1' ⊢
   have v0:0 <= fc * 48271 % 104729 % (2 * (n:Int) + 1):=Int.emod_nonneg _ (by omega)
   have v1:fc * 48271 % 104729 % (2 * (n:Int) + 1) < 2 * (n:Int) + 1:=Int.emod_lt_of_pos _ (by omega)
   refine ⟨Same.sql S1 hs,n63,c0,.inr (by constructor <;> decide),Bd.sm (by decide),Bd.sm (by omega),by omega,(fc * 48271 % 104729 % (2 * (n:Int) + 1)).toNat,by rw [aX _ (by omega)]; omega,by omega,fun l xs H2 S2 fl hl2 _ _=>dG ?_⟩
   walk_at "rd"
   refine ⟨_,Same.sql (S1.trans S2) hs,fun p5 g5=>⟨_,(bF (bD hl2 g5)).trans hl2,?_,fun p6 g6=>⟨dJ a D1 c n m ls (some (.int fc)) (some (.ref l)) H,?_,?_,?_⟩⟩⟩
   .have z9:1000 < sizeLine:=by decide
    have:(mQ (ns.map V.int) (some (c + 1)) (some (c + 13))).length <= (ns.map V.int).length:=by
     unfold mQ
     rw [bf,List.length_drop]
     omega
    rw [ak] at this ⊢
    omega
   .have T5:Same Hc (upd (upd H2 p5 (.lst (mQ (ns.map V.int) (some (c + 1)) (some (c + 13))))) p6 (.lst (xs.map V.int ++ mQ (ns.map V.int) (some (c + 1)) (some (c + 13))))):=S2.trans ((Same.upd g5).trans (Same.upd g6))
    exact ⟨none,none,List.replicate n [],rfl,S1.trans T5,T5 _ _ h1,aN,rl.same T5⟩
   .rintro k v σ' H' hk ⟨u7,u8,dss,rfl,S9,h9,ld,r9⟩ hp6
    obtain ⟨i,rfl⟩ : ∃ i,v = V.int i:=by
     rcases List.mem_append.mp (aB hk) with z | z
     .obtain ⟨i,_,rfl⟩:=List.mem_map.mp z
      exact ⟨i,rfl⟩
     .obtain ⟨i,_,rfl⟩:=List.mem_map.mp (List.mem_of_mem_drop (List.mem_of_mem_take z))
      exact ⟨i,rfl⟩
    walk_at "rd"
    refine ⟨14,rfl,by decide,fun l2 xs2 H3 S3 fl2 hl2 ln2 hx2=>?_⟩
    have e13:xs2[13]? = some (xs2[13]'(by omega)):=aj _
    generalize xs2[13]'(by omega) = x13 at e13
    have m0:0 <= x13 % (n:Int):=Int.emod_nonneg _ (by omega)
    have m1:x13 % (n:Int) < n:=Int.emod_lt_of_pos _ (by omega)
    obtain ⟨room,hroom,ef⟩ : ∃ room:Nat,room < n/\x13.fmod (n:Int) = (room:Int):=⟨(x13 % (n:Int)).toNat,by omega,by rw [aX _ (by omega)]; omega⟩
    refine ⟨_,hl2,_,bV (j:=13) (by rw [aq,e13]; rfl),_,rfl,by omega,?_⟩
    rw [ef]
    have kd:dss[room]? = some (dss[room]'(by omega)):=aj _
    have kl:ls[room]? = some (ls[room]'(by rw [r9.len]; omega)):=aj _
    generalize dss[room]'(by omega) = ds at kd
    generalize ls[room]'(by rw [r9.len]; omega) = lr at kl
    have r3:=r9.same S3
    have al:=r3.at_ room lr ds kl kd
    refine ⟨_,S3 _ _ h9,_,bV (j:=room) (by rw [aq,kl]; rfl),lr,rfl,_,al.1,?_⟩
    rw [ak]
    by_cases hm:ds.length < m
    .rw [if_pos (decide_eq_true (by omega))]
     have lin:=aB kl
     have nD:D1 ≠ lr:=fun z=>nd (by rw [z]; exact lin)
     have n6:lr ≠ p6:=by
      obtain ⟨zs,hz⟩:=rl.lists lr lin
      exact bD (Same.upd g5 _ _ (S2 _ _ hz)) g6
     have z9:1000 < sizeLine:=by decide
     refine ⟨_,S3 _ _ h9,_,bV (j:=room) (by rw [aq,kl]; rfl),lr,rfl,⟨_,al.1⟩,n,rfl,by omega,n12,fun d p lp so x y S rs ws ps H5 S5 fd hd hp y0 g hlp flp hpi hdr=>?_⟩
     have r5:=r3.same S5
     have al5:=r5.at_ room lr ds kl kd
     have nl:lp ∉ ls:=fun z=>by
      obtain ⟨zs,hz⟩:=r3.lists lp z
      rw [hz] at flp
      cases flp
     have dd:=DD.off r5.lists nl hd hp y0 g hlp hpi hdr
     have r4:=r5.put kl kd hm dd
     rw [bw] at r4
     have S35:=S3.trans S5
     refine ⟨_,al5.1,by rw [ak]; omega,(bF n6.symm).trans (S35 _ _ hp6),_,_,dss.set room (ds ++ [d]),rfl,fun b o e=>(bF (fun z=>?_)).trans (S35 _ _ (S9 _ _ e)),(bF nD).trans (S35 _ _ h9),by rw [List.length_set]; exact ld,r4⟩
     rw [z,r9.new lr lin] at e
     cases e
    .rw [if_neg (by simp; omega)]
     exact ⟨S3 _ _ hp6,_,_,dss,rfl,S9.trans S3,S3 _ _ h9,ld,r3⟩
   .rintro σ' H' ⟨u7,u8,dss,rfl,S9,h9,ld,r9⟩ _
    exact fin _ _ _ _ dss H' S9 h9 ld r9
theorem WF.keys {H:Hp} : ∀ {xs:List V} {gs:List (Str × Int × Int)} {ws:List (Str × Addr)},WF K H xs gs ws->ws.map (·.1) = gs.map (·.1)
 | _,_,_,.nil=>rfl
 | _,_,_,.cons _ _ r=>by rw [List.map_cons,List.map_cons,r.keys]
theorem WX {ns:List Str} {rs:List Nat} (h:∀ r ∈ rs,r < ns.length):∃ nms,Aq ns rs nms:=by
 refine ⟨rs.map fun r=>(ns[r]?).getD Str.empty,ak ..,fun k r m e1 e2=>?_⟩
 rw [aq,e1,Option.map_some,aj (h r (aB e1))] at e2
 cases e2
 exact aj _
structure zE (K:Frag) (n:Nat) (ns:List Str) (H H':Hp) (d:Addr) (g:Dr):Prop where
 ex:∃ (p lp:Addr) (so x y S:Int) (rs:List Nat) (ws:List Int) (ps xs:List V) (nms:List Str),H d = some (.tup [.int so,.ref p,.ref lp])/\H p = some (.tup [.int x,.int y])/\0 < y/\Int.gcd x y = 1/\H lp = some (.lst ps)/\PI H ps rs ws S/\qj n so rs ws S/\Aq ns rs nms/\g.p = p/\WF K H' xs (Ac.ways (nms.zip ws) S) g.ws
theorem zE.on {n:Nat} {ns:List Str} {H H' H2:Hp} {d:Addr} {g:Dr} (S:Same H' H2) (h:zE K n ns H H' d g):zE K n ns H H2 d g:=let ⟨p,lp,so,x,y,S',rs,ws,ps,xs,nms,a1,a2,a3,a4,a5,a6,a7,a8,a9,b⟩:=h.ex; ⟨p,lp,so,x,y,S',rs,ws,ps,xs,nms,a1,a2,a3,a4,a5,a6,a7,a8,a9,b.same S⟩
theorem zE.up {n:Nat} {ns:List Str} {H H' H2:Hp} {d:Addr} {g:Dr} (S:Same H H2) (h:zE K n ns H H' d g):zE K n ns H2 H' d g:=let ⟨p,lp,so,x,y,S',rs,ws,ps,xs,nms,a1,a2,a3,a4,a5,a6,a7,a8,a9,b⟩:=h.ex; ⟨p,lp,so,x,y,S',rs,ws,ps,xs,nms,S _ _ a1,S _ _ a2,a3,a4,S _ _ a5,a6.same S,a7,a8,a9,b⟩
theorem zE.few {n:Nat} {ns:List Str} {H H':Hp} {d:Addr} {g:Dr} (h:zE K n ns H H' d g):g.ws.length <= 8/\∀ z ∈ g.ws,z.1 ∈ ns:=by
 obtain ⟨p,lp,so,x,y,S',rs,ws,ps,xs,nms,a1,a2,a3,a4,a5,a6,a7,a8,a9,b⟩:=h.ex
 have lo:∀ z ∈ nms.zip ws,0 <= z.2:=fun z hz=>a7.lo _ (List.of_mem_zip (a:=z.1) (b:=z.2) hz).2
 have k:=b.keys
 constructor
 .have e1:=congrArg List.length k
  rw [ak,ak] at e1
  have e2:=Ac.Wv lo S'
  have e3:(nms.zip ws).length <= nms.length:=by rw [List.length_zip]; omega
  have:=a8.1
  have:=a7.l8
  omega
 .intro z hz
  have hz:=List.mem_map_of_mem (f:=(·.1)) hz
  rw [k] at hz
  obtain ⟨v,hv,e⟩:=List.mem_map.mp hz
  have hv:=Ac.VH hv
  obtain ⟨u,hu,e'⟩:=List.mem_map.mp hv
  have hu:=(List.of_mem_zip (a:=u.1) (b:=u.2) hu).1
  rw [<- e,<- e']
  obtain ⟨j,hj⟩:=aW hu
  have lj:j < rs.length:=by rw [<- a8.1]; exact (ao.mp hj).1
  exact aB (a8.2 j _ _ (aj lj) hj)
structure v8 (K:Frag) (n:Nat) (ns:List Str) (H H':Hp) (ds:List Addr) (gs:List Dr):Prop where
 len:gs.length = ds.length
 at_:∀ (j:Nat) (d:Addr) (g:Dr),ds[j]? = some d->gs[j]? = some g->zE K n ns H H' d g
theorem v8.on {n:Nat} {ns:List Str} {H H' H2:Hp} {ds:List Addr} {gs:List Dr} (S:Same H' H2) (h:v8 K n ns H H' ds gs):v8 K n ns H H2 ds gs:=⟨h.len,fun j d g e1 e2=>(h.at_ j d g e1 e2).on S⟩
theorem v8.up {n:Nat} {ns:List Str} {H H' H2:Hp} {ds:List Addr} {gs:List Dr} (S:Same H H2) (h:v8 K n ns H H' ds gs):v8 K n ns H2 H' ds gs:=⟨h.len,fun j d g e1 e2=>(h.at_ j d g e1 e2).up S⟩
theorem v8.mem {n:Nat} {ns:List Str} {H H':Hp} {ds:List Addr} {gs:List Dr} (h:v8 K n ns H H' ds gs) {g:Dr} (hg:g ∈ gs):∃ d,zE K n ns H H' d g:=by
 obtain ⟨j,hj⟩:=aW hg
 have lj:j < ds.length:=by rw [<- h.len]; exact (ao.mp hj).1
 exact ⟨_,h.at_ j _ g (aj lj) hj⟩
theorem v8.snoc {n:Nat} {ns:List Str} {H H':Hp} {ds:List Addr} {gs:List Dr} {d:Addr} {g:Dr} (h:v8 K n ns H H' ds gs) (hd:zE K n ns H H' d g):v8 K n ns H H' (ds ++ [d]) (gs ++ [g]):=by
 have l:=h.len
 refine ⟨by rw [aA,aA,l]; rfl,fun j d' g' e1 e2=>?_⟩
 rcases pQ e1 with ⟨a,b⟩ | ⟨a,b⟩ <;> rcases pQ e2 with ⟨c,e⟩ | ⟨c,e⟩
 .exact h.at_ j d' g' b e
 .omega
 .omega
 .subst b; subst e; exact hd
theorem vQ.snoc {H:Hp} {xs:List V} {gs:List Dr} {s:Addr} {g:Dr} (h:vQ D H xs gs) (hs:Xx D H s g):vQ D H (xs ++ [.ref s]) (gs ++ [g]):=by
 have l:=h.len
 refine ⟨by rw [aA,aA,l]; rfl,fun k g' e=>?_⟩
 rcases pQ e with ⟨a,b⟩ | ⟨a,b⟩
 .obtain ⟨s',c,d⟩:=h.at_ k g' b
  exact ⟨s',by rw [aD (by omega)]; exact c,d⟩
 .subst b
  exact ⟨s,by rw [aC (by omega),l,a,Nat.sub_self]; rfl,hs⟩
theorem mq.snoc {H:Hp} {xs ys:List V} {rms:List (Str × List Dr)} {t l:Addr} {g:Str × List Dr} (h:mq D H xs rms) (ht:H t = some (.tup [.str g.1,.ref l])) (hl:H l = some (.lst ys)) (hd:vQ D H ys g.2):mq D H (xs ++ [.ref t]) (rms ++ [g]):=by
 have le:=h.len
 refine ⟨by rw [aA,aA,le]; rfl,fun k g' e=>?_⟩
 rcases pQ e with ⟨a,b⟩ | ⟨a,b⟩
 .obtain ⟨t',l',ys',c,d⟩:=h.at_ k g' b
  exact ⟨t',l',ys',by rw [aD (by omega)]; exact c,d⟩
 .subst b
  exact ⟨t,l,ys,by rw [aC (by omega),le,a,Nat.sub_self]; rfl,ht,hl,hd⟩
structure wu (K:Frag) (n:Nat) (H:Hp) (dss:List (List Addr)) (rms:List (Str × List Dr)):Prop where
 len:rms.length = dss.length
 at_:∀ (j:Nat) (ds:List Addr) (g:Str × List Dr),dss[j]? = some ds->rms[j]? = some g->v8 K n (rms.map (·.1)) H H ds g.2
theorem wu.same {n:Nat} {H H':Hp} {dss:List (List Addr)} {rms:List (Str × List Dr)} (h:wu K n H dss rms) (S:Same H H'):wu K n H' dss rms:=⟨h.len,fun j ds g e1 e2=>((h.at_ j ds g e1 e2).on S).up S⟩
theorem acj {so:Int} (s0:0 <= so) (s3:so <= 4):eN D (clsOf D so):=by
 unfold eN
 obtain rfl | rfl | rfl | rfl | rfl:so = 0\/so = 1\/so = 2\/so = 3\/so = 4:=by omega
 all_goals simp [clsOf]
theorem yI {as:List Addr} {H:Hp} (hls:∀ l ∈ as,∃ zs,H l = some (.lst zs)) {b:Addr} {u:HO} (nu:∀ zs,u ≠ .lst zs) (e:H b = some u):del as H b = some u:=eG (fun z=>by
 obtain ⟨zs,hz⟩:=hls b z
 rw [hz] at e
 injection e with e
 exact nu zs e.symm) e
theorem WF.off {as:List Addr} {H:Hp} (hls:∀ l ∈ as,∃ zs,H l = some (.lst zs)) {xs:List V} {gs:List (Str × Int × Int)} {ws:List (Str × Addr)} (h:WF K H xs gs ws):WF K (del as H) xs gs ws:=by
 refine h.imp (fun t ys e=>yI hls (by intro z y; cases y) e) fun c xs e=>?_
 rcases e with (e | ⟨o,e⟩) | e
 .exact .inl (.inl (yI hls (by intro z y; cases y) e))
 .exact .inl (.inr ⟨o,yI hls (by intro z y; cases y) e⟩)
 .exact .inr e
noncomputable def Jo (K:Frag) (D:Adr):Sp:=fun vs H Q _=>∃ (c x y:Int) (p r:Addr) (xs:List V) (dss:List (List Addr)) (n m:Nat),vs = [.int c,.ref p,.ref r]/\H p = some (.tup [.int x,.int y])/\0 <= x/\x < y/\y <= 100/\Int.gcd x y = 1/\H r = some (.lst xs)/\RD n H xs dss/\dss.length = n/\n <= 12/\m <= 12/\(∀ ds ∈ dss,ds.length <= m) /\
 ∀ (o:Addr) (H':Hp) (rms:List (Str × List Dr)),Same H H'->H o = none->jV D H' o p rms->GD rms->wu K n H' dss rms->Q (.ref o) H'
noncomputable def hlJ (K:Frag) (D:Adr) (σ0:List (Option V)) (D1:Addr) (n:Nat) (ns:List Str) (dss:List (List Addr)) (H H1:Hp) (k:Nat) (σ:L2.St) (H':Hp):Prop:=∃ (u5 u6:Option V) (zs:List V) (rms:List (Str × List Dr)),σ = σ0 ++ [u5,u6]/\Same H1 H'/\H' D1 = some (.lst zs)/\mq D (del [D1] H') zs rms/\rms.map (·.1) = ns.take k/\(∀ g ∈ rms,(g.2.map (·.nm)).Nodup)/\∀ (j:Nat) (ds:List Addr) (g:Str × List Dr),dss[j]? = some ds->rms[j]? = some g->v8 K n ns H (del [D1] H') ds g.2
noncomputable def dlJ (K:Frag) (D:Adr) (D1 D2:Addr) (n:Nat) (ns ts:List Str) (ds:List Addr) (H H1:Hp) (k:Nat) (zs:List V) (H':Hp):Prop:=∃ gs:List Dr,Same H1 H'/\H' D2 = some (.lst zs)/\vQ D (del [D1,D2] H') zs gs/\gs.map (·.nm) = ts.take k/\v8 K n ns H (del [D1,D2] H') (ds.take k) gs
theorem YQ (F:Fun K xQ xQ Jv f fd) (T:Txt K mg D) (Av:OkF P w K mg base 2 uy tR D_) (Ii:OkF P w K mg base 8 uc tW (Bw K D)) (Jq:OkI P w K mg base (CXO P w) 4 D.Hall_init lA (qX K D)):cu P w K mg base CX0 9 f fd yE (Jo K D):=by
 refine F.ok wR (fun vs H Q E h=>?_) (fun cdv A outer s H vs Q E hr h=>?_)
 .obtain ⟨c,x,y,p,r,xs,dss,n,m,rfl,_⟩:=h
  rfl
 .obtain ⟨c,x,y,p,r,xs,dss,n,m,rfl,hp,x0,xy,y1,gx,hrm,rd,ln,n12,m12,hm,q⟩:=h
  refine ⟨_,(bI (bT (i:=3) wR.nd rfl (Or.inr rfl) (bM Av (hr.mono (by decide)) (by rfl) (bB (pv 0) (bB (bU cT (by rfl) T.iC PySem.boot_len (bB (pv 2) bG)) bG))))
   (bI (bT (i:=4) wR.nd rfl (Or.inl rfl) (cR bG))
   (bI (gC PassesOwn.never rfl (gH (by rfl) T.kY (bB (bU cT (by rfl) T.iC PySem.boot_len (bB (pv 2) bG)) bG).mono) (bW (i:=5) wR.nd rfl (Or.inl rfl))
    (bI (bT (i:=6) wR.nd rfl (Or.inl rfl) (bM Av (hr.mono (by decide)) (by rfl) (bB (bO dZ (pv 0) (pv 5)) (bB (bU cT (by rfl) T.iC PySem.boot_len (bB (bQ bN (pv 2) (pv 5) (fun _ _=>rfl)) bG)) bG))))
    (bL (dh (sX (pv 4) (bB (dI (bB (bQ bN (pv 3) (pv 5) (fun _ _=>rfl)) (bB (fW (bK Jv) Oi Oi ["_law_title", "_law_door_here"] (Vo (by rfl) T.aaN (bB (pv 6) (bB (bQ bN (pv 2) (pv 5) (fun _ _=>rfl)) bG)).mono) (fM (n:=2) rfl (b_ (cU (i:=0)) (b_ (cU (i:=1)) eZ))) cF (bM Ii (hr.mono (by decide)) (by rfl) (bB (pv 0) (bB (pv 1) (bB (pv 5) bG))))) bG))) bG))))))
   (bL (bY (uH T.aak Jq (hr.mono (by decide)) (by rfl) T.ace wO (bB (pv 1) (bB (pv 4) bG)))))))),?_⟩
  have lx:xs.length = n:=by rw [rd.len,ln]
  have z9:100 < sizeLine:=by decide
  refine fZ ⟨_,rfl,_,rfl,r,xs,rfl,hrm,c,n,by rw [lx],n12,fun l0 ns H1 S1 f0 hl0 lns wns nns=>fZ ⟨bh _,fun D1 hD1=>m9 (qt ?_)⟩⟩
  refine ⟨_,rfl,r,xs,rfl,(bF (bD (S1 _ _ hrm) hD1)).trans (S1 _ _ hrm),n,by rw [lx],by omega,hlJ K D [some (.int c),some (.ref p),some (.ref r),some (.ref l0),some (.ref D1)] D1 n ns dss H H1,⟨none,none,[],[],rfl,Same.upd hD1,bC,⟨rfl,fun k g e=>by simp at e⟩,rfl,by simp,fun j ds g _ e=>by simp at e⟩,?_,?_⟩
  .rintro k σ' H' hk ⟨u5,u6,zs,rms,rfl,S2,hD,hR,hn,hd,hi⟩
   have ed:dss[k]? = some (dss[k]'(by omega)):=aj _
   have em:=aV (l:=dss) (n:=k) (by omega)
   have en:ns[k]? = some (ns[k]'(by omega)):=aj _
   generalize dss[k]'(by omega) = ds at ed em
   generalize ns[k]'(by omega) = nk at en
   have dm:=hm ds em
   obtain ⟨lk,ek,hlk,dd⟩:=rd.at_ k ds ed
   have SH:=S1.trans S2
   refine ⟨_,rfl,_,rfl,_,_,rfl,rfl,_,rfl,_,rfl,_,_,_,_,rfl,rfl,SH _ _ hrm,bV ek,lk,_,rfl,SH _ _ hlk,_,ds.length,by rw [ak],by omega,fun l1 ts H3 S3 f3 hl3 lts wts nts=>⟨_,rfl,D1,_,rfl,S3 _ _ hD,_,rfl,_,rfl,_,_,_,_,rfl,rfl,S3 _ _ (S2 _ _ hl0),bV (by rw [aq,en]; rfl),Mv (OJ ?_)⟩⟩
   have SH3:=SH.trans S3
   have S13:=S2.trans S3
   refine ⟨_,rfl,_,rfl,_,rfl,_,_,_,_,rfl,rfl,SH3 _ _ hrm,bV ek,l1,lk,_,_,rfl,hl3,SH3 _ _ hlk,by rw [ak,ak,lts],by rw [ak]; omega,fun D2 hD2=>⟨dlJ K D D1 D2 n ns ts ds H H3,⟨[],Same.upd hD2,bC,⟨rfl,fun k g e=>by simp at e⟩,rfl,⟨rfl,fun j d g _ e=>by simp at e⟩⟩,?_,?_⟩⟩
   .rintro j xv yv zs2 Hc t hx hy ⟨gs,S5,h5,dr,gn,ri⟩ hz ht ha hb pre hpre
    obtain ⟨u1,u2,rfl⟩:=m8 hpre
    rw [aq] at hx hy
    have lj:j < ds.length:=by
     by_cases z:j < ds.length
     .exact z
     .rw [aM (by omega)] at hy
      cases hy
    have e1:ts[j]? = some (ts[j]'(by omega)):=aj _
    have e2:ds[j]? = some ds[j]:=aj _
    rw [e1] at hx
    rw [e2] at hy
    cases hx
    cases hy
    generalize ts[j]'(by omega) = tj at e1 ⊢
    generalize ds[j] = d at e2 ⊢
    obtain ⟨p1,lp,so,x1,y2,S',rs,ws,ps,a1,a2,a3,a4,a5,a6,a7⟩:=(dd d (aB e2)).ex
    obtain ⟨nms,no⟩:=WX (ns:=ns) (rs:=rs) fun r hr=>by rw [lns]; exact a7.lt r hr
    have SHc:Same H Hc:=SH3.trans S5
    have SU:=SHc.trans (Same.upd ht (o:=.tup [.str tj,.ref d]))
    have hl0c:=Same.upd ht (o:=.tup [.str tj,.ref d]) _ _ (S5 _ _ (S13 _ _ hl0))
    refine ⟨_,_,rfl,bC,rfl,⟨_,_,rfl,_,_,rfl,rfl,[_,_],rfl,rfl,⟨_,rfl,_,rfl,_,rfl,so,d,l0,lp,p1,tj,x1,y2,S',rs,ws,ps,ns,nms,rfl,SU _ _ a1,wts _ (aB e1),⟨.inl (.inl (SU _ _ a2)),a3,a4⟩,SU _ _ a5,a6.same SU,hl0c,no,a7.drawn no wns,fun H4 s ld ys us S6 fs fld d1=>?_⟩⟩⟩
    have S7:Same Hc H4:=(Same.upd ht).trans S6
    have hD4:H4 D1 = some (.lst zs):=S7 _ _ (S5 _ _ (S3 _ _ hD))
    have h54:=S7 _ _ h5
    have hls:∀ l ∈ [D1,D2],∃ zs,H4 l = some (.lst zs):=fun l hl=>by
     simp only [List.mem_cons,List.not_mem_nil,or_false] at hl
     rcases hl with rfl | rfl
     .exact ⟨_,hD4⟩
     .exact ⟨_,h54⟩
    have nw:∀ b,upd Hc t (.tup [.str tj,.ref d]) b = none->b ∉ [D1,D2]:=fun b hb z=>by
     simp only [List.mem_cons,List.not_mem_nil,or_false] at z
     rcases z with rfl | rfl
     .rw [Same.upd ht _ _ (S5 _ _ (S3 _ _ hD))] at hb
      cases hb
     .rw [Same.upd ht _ _ h5] at hb
      cases hb
    obtain ⟨dx,hs⟩:=d1.at_
    have wo:=d1.wf.off hls
    have st:Same (del [D1,D2] Hc) (del [D1,D2] H4):=kO fun b o _ e=>S7 _ _ e
    have di:zE K n ns H (del [D1,D2] H4) d ⟨tj,p1,us⟩:=⟨p1,lp,so,x1,y2,S',rs,ws,ps,ys,nms,a1,a2,a3,a4,a5,a6,a7,no,rfl,wo⟩
    refine ⟨h54,S7 _ _ ha,S7 _ _ hb,gs ++ [⟨tj,p1,us⟩],fun b u e=>(bF (bD e hD2)).trans (S7 _ _ (S5 _ _ e)),bC,?_,?_,?_⟩
    .rw [nM (by simp)]
     exact (dr.same st).snoc ⟨clsOf D so,dx,ld,ys,acj a7.s0 a7.s3,eG (nw _ fs) hs,eG (nw _ fld) d1.hl,wo.ways,aL di.few.1 (by decide)⟩
    .rw [bw,gn,cg e1]; rfl
    .rw [nM (by simp),cg e2]
     exact (ri.on st).snoc di
   .rintro zs2 Hc ⟨gs,S5,h5,dr,gn,ri⟩ hz
    rw [ak,aK (aF _)] at gn
    rw [ak,aK (by omega)] at ri
    have rk:rms.length = k:=by
     have:=congrArg List.length hn
     rw [ak,bf] at this
     omega
    have zl:=hR.len
    have hDc:Hc D1 = some (.lst zs):=S5 _ _ (S3 _ _ hD)
    have n12':D1 ≠ D2:=bD (S3 _ _ hD) hD2
    refine ⟨eE,fun t2 g2=>?_⟩
    have n1:D1 ≠ t2:=bD hDc g2
    have st:Same (del [D1] H') (del [D1] (upd Hc t2 (.tup [.str nk,.ref D2]))):=kO fun b o _ e=>Same.upd g2 _ _ (S5 _ _ (S3 _ _ e))
    have s2:Same (del [D1,D2] Hc) (del [D1] (upd Hc t2 (.tup [.str nk,.ref D2]))):=fun b o e=>by
     obtain ⟨a,e⟩:=nj e
     exact eG (by simp at a ⊢; exact a.1) (Same.upd g2 _ _ e)
    refine ⟨_,zs,rfl,(bF n1).trans hDc,by omega,some (.int k),some (.ref l1),zs ++ [.ref t2],rms ++ [(nk,gs)],rfl,fun b u e=>(bF (bD e hD1)).trans (Same.upd g2 _ _ (S5 _ _ (S13 _ _ e))),bC,?_,?_,?_,?_⟩
    .rw [nM (by simp)]
     exact (hR.same st).snoc (eG (by simp; exact n1.symm) bC) (eG (by simp; exact n12'.symm) ((bF (bD h5 g2)).trans h5)) (dr.same s2)
    .rw [bw,hn,cg en]; rfl
    .intro g hg
     rcases List.mem_append.mp hg with hg | hg
     .exact hd g hg
     .rw [List.mem_singleton.mp hg,gn]; exact nts
    .intro j ds' g h1 h2
     rw [nM (by simp)]
     rcases pQ h2 with ⟨_,b⟩ | ⟨a,rfl⟩
     .exact (hi j ds' g h1 b).on st
     .rw [a,rk,ed] at h1
      cases h1
      exact ri.on s2
  .rintro σ' H' ⟨u5,u6,zs,rms,rfl,S2,hD,hR,hn,hd,hi⟩
   refine ⟨_,rfl,_,rfl,fun o dx g1 g2 g3=>?_⟩
   have SM:Same H' (upd (upd H' dx (.own o)) o (.ins D.Hall dx [])):=fun b u e=>by rw [bF (bD e g1),bF (bD e g2)]; exact e
   have SH:=S1.trans S2
   rw [aK (by omega)] at hn
   have rl:rms.length = n:=by rw [<- lns,<- hn,ak]
   have ri:∀ g ∈ rms,∃ ds ∈ dss,v8 K n ns H (del [D1] H') ds g.2:=fun g hg=>by
    obtain ⟨j,hj⟩:=aW hg
    have lj:j < dss.length:=by have:=(ao.mp hj).1; omega
    exact ⟨_,aV lj,hi j _ g (aj lj) hj⟩
   have ok:GD rms:=by
    refine ⟨by omega,by rw [hn]; exact nns,fun g hg=>wns _ (by rw [<- hn]; exact List.mem_map_of_mem hg),fun g hg=>?_,hd,fun g hg d hd' z hz=>?_⟩
    .obtain ⟨ds,h1,h2⟩:=ri g hg
     have:=hm ds h1
     have:=h2.len
     omega
    .obtain ⟨ds,h1,h2⟩:=ri g hg
     obtain ⟨_,h3⟩:=h2.mem hd'
     rw [hn]
     exact h3.few.2 z hz
   refine ⟨o,dx,p,D1,x,y,zs,rms,rfl,bC,⟨.inl (.inl (SM _ _ (SH _ _ hp))),by omega,gx⟩,x0,xy,Bd.sm (by omega),Bd.sm (by omega),SM _ _ hD,(hR.same gY).same SM,ok,fun H5 kp hh=>⟨rfl,?_⟩⟩
   have SS:Same H' H5:=fun b u e=>kp b u (bD e g1) (SM b u e)
   refine q o H5 rms (SH.trans SS) (Same.free SH g1) hh ok ⟨by rw [rl,ln],fun j ds g h1 h2=>?_⟩
   rw [hn]
   exact ((hi j ds g h1 h2).on (gY.trans SS)).up (SH.trans SS)
noncomputable def nK (n:Nat):Key:=.inl (n:Int)
theorem Ph {a b:Nat} (h:nK a = nK b):a = b:=by
 unfold nK at h
 injection h with h
 omega
inductive DN (H:Hp) (S:Int):List (Key × V)->List (Nat × Int)->Prop
 | nil:DN H S [] []
 | cons {n:Nat} {W:Int} {c:Addr} {kvs:List (Key × V)} {acc:List (Nat × Int)} (h:H c = some (.tup [.int (Ac.lw W S).1,.int (Ac.lw W S).2])) (t:DN H S kvs acc):DN H S ((nK n,.ref c) :: kvs) ((n,W) :: acc)
theorem DN.imp {H H':Hp} {S:Int} (h:∀ c x y,H c = some (.tup [.int x,.int y])->H' c = some (.tup [.int x,.int y])):∀ {kvs:List (Key × V)} {acc:List (Nat × Int)},DN H S kvs acc->DN H' S kvs acc
 | _,_,.nil=>.nil
 | _,_,.cons a t=>.cons (h _ _ _ a) (t.imp h)
theorem DN.len {H:Hp} {S:Int} : ∀ {kvs:List (Key × V)} {acc:List (Nat × Int)},DN H S kvs acc->kvs.length = acc.length
 | _,_,.nil=>rfl
 | _,_,.cons _ t=>congrArg (· + 1) t.len
theorem DN.val {H:Hp} {S:Int} (r:Nat):∀ {kvs:List (Key × V)} {acc:List (Nat × Int)},DN H S kvs acc->(lV kvs (nK r) = none/\Ac.look acc r = 0)\/∃ c,lV kvs (nK r) = some (.ref c)/\H c = some (.tup [.int (Ac.lw (Ac.look acc r) S).1,.int (Ac.lw (Ac.look acc r) S).2])
 | _,_,.nil=>.inl ⟨rfl,rfl⟩
 | _,_,.cons (n:=n) (W:=W) (c:=c) (kvs:=kvs) (acc:=acc) h t=>by
  by_cases e:n = r
  .subst e
   refine .inr ⟨c,xR rfl,?_⟩
   have:Ac.look ((n,W) :: acc) n = W:=by simp [Ac.look]
   rw [this]; exact h
  .have e1:lV ((nK n,V.ref c) :: kvs) (nK r) = lV kvs (nK r):=yD fun z=>e (Ph z)
   have e2:Ac.look ((n,W) :: acc) r = Ac.look acc r:=by simp [Ac.look,List.find?_cons,e]
   rw [e1,e2]
   exact t.val r
theorem DN.any {H:Hp} {S:Int} (r:Nat):∀ {kvs:List (Key × V)} {acc:List (Nat × Int)},DN H S kvs acc->(kvs.any fun kv=>decide (kv.1 = (nK r))) = acc.any fun g=>decide (g.1 = r)
 | _,_,.nil=>rfl
 | _,_,.cons (n:=n) _ t=>by
  rw [List.any_cons,List.any_cons,t.any r]
  congr 1
  by_cases e:n = r
  .subst e; rw [decide_eq_true rfl,decide_eq_true rfl]
  .rw [decide_eq_false e,decide_eq_false fun z=>e (Ph z)]
theorem DN.sets {H:Hp} {S y:Int} {c:Addr} {r:Nat} (hc:H c = some (.tup [.int (Ac.lw y S).1,.int (Ac.lw y S).2])):∀ {kvs:List (Key × V)} {acc:List (Nat × Int)},DN H S kvs acc->DN H S (kvs.map fun kv=>if kv.1 = (nK r) then (kv.1,.ref c) else kv) (acc.map fun g=>if g.1 = r then (g.1,y) else g)
 | _,_,.nil=>.nil
 | _,_,.cons (n:=n) (W:=W) (c:=c') h t=>by
  rw [List.map_cons,List.map_cons]
  by_cases e:n = r
  .subst e
   rw [if_pos rfl,if_pos rfl]
   exact .cons hc (t.sets hc)
  .rw [if_neg e,if_neg fun z=>e (Ph z)]
   exact .cons h (t.sets hc)
theorem DN.snoc {H:Hp} {S y:Int} {c:Addr} {r:Nat} (hc:H c = some (.tup [.int (Ac.lw y S).1,.int (Ac.lw y S).2])):∀ {kvs:List (Key × V)} {acc:List (Nat × Int)},DN H S kvs acc->DN H S (kvs ++ [(nK r,.ref c)]) (acc ++ [(r,y)])
 | _,_,.nil=>.cons hc .nil
 | _,_,.cons h t=>.cons h (t.snoc hc)
theorem DN.put {H:Hp} {S y:Int} {c:Addr} {r:Nat} {kvs:List (Key × V)} {acc:List (Nat × Int)} (hc:H c = some (.tup [.int (Ac.lw y S).1,.int (Ac.lw y S).2])) (h:DN H S kvs acc):DN H S (putK kvs (nK r) (.ref c)) (Ac.put acc r y):=by
 unfold putK Ac.put
 rw [h.any r]
 split
 .exact h.sets hc
 .exact h.snoc hc
theorem DN.get {H:Hp} {S:Int} : ∀ {kvs:List (Key × V)} {acc:List (Nat × Int)} {i:Nat} {k:Key} {v:V},DN H S kvs acc->kvs[i]? = some (k,v)->∃ n W c,acc[i]? = some (n,W)/\k = nK n/\v = .ref c/\H c = some (.tup [.int (Ac.lw W S).1,.int (Ac.lw W S).2])
 | _,_,_,_,_,.nil,e=>by simp at e
 | _,_,0,_,_,.cons h _,e=>by
  rw [List.getElem?_cons_zero] at e
  cases e
  exact ⟨_,_,_,rfl,rfl,rfl,h⟩
 | _,_,i + 1,_,_,.cons _ t,e=>t.get (by rw [List.getElem?_cons_succ] at e; exact e)
noncomputable def ldA (acc:List (Nat × Int)):List Nat:=(acc.filter fun g=>decide (0 < g.2)).map (·.1)
noncomputable def ldN (rs:List Nat) (ws:List Int):List Nat:=ldA (Ac.dH (rs.zip ws))
theorem Kr {acc:List (Nat × Int)} {i n:Nat} {W:Int} (h:acc[i]? = some (n,W)):ldA (acc.take (i + 1)) = ldA (acc.take i) ++ if 0 < W then [n] else []:=by
 unfold ldA
 rw [List.take_succ,h,List.filter_append,bw]
 congr 1
 show List.map _ (List.filter _ [(n,W)]) = _
 by_cases e:0 < W
 .rw [if_pos e,List.filter_cons,if_pos (decide_eq_true e)]; rfl
 .rw [if_neg e,List.filter_cons,if_neg (by simpa using e)]; rfl
structure TN (H:Hp) (ys:List V) (xs:List Nat):Prop where
 len:ys.length = xs.length
 at_:∀ (k r:Nat),xs[k]? = some r->∃ t c,ys[k]? = some (.ref t)/\H t = some (.tup [.int (r:Nat),c])
theorem TN.imp {H H':Hp} (h':∀ t us,H t = some (.tup us)->H' t = some (.tup us)) {ys:List V} {xs:List Nat} (h:TN H ys xs):TN H' ys xs:=⟨h.len,fun k r e=>let ⟨t,c,a,b⟩:=h.at_ k r e; ⟨t,c,a,h' _ _ b⟩⟩
theorem TN.nil {H:Hp} : TN H [] []:=⟨rfl,fun k r e=>by simp at e⟩
theorem TN.snoc {H:Hp} {ys:List V} {xs:List Nat} {t:Addr} {r:Nat} {c:V} (h:TN H ys xs) (ht:H t = some (.tup [.int (r:Nat),c])):TN H (ys ++ [.ref t]) (xs ++ [r]):=by
 have l:=h.len
 refine ⟨by rw [aA,aA,l]; rfl,fun k r' e=>?_⟩
 rcases pQ e with ⟨a,b⟩ | ⟨a,b⟩
 .obtain ⟨t',c',d,f⟩:=h.at_ k r' b
  exact ⟨t',c',by rw [aD (by omega)]; exact d,f⟩
 .subst b
  exact ⟨t,c,by rw [aC (by omega),l,a,Nat.sub_self]; rfl,ht⟩
noncomputable def Bl:Sp:=fun vs H Q _=>∃ (n:Nat) (d p lp:Addr) (so S:Int) (rs:List Nat) (ws:List Int) (ps:List V),vs = [.ref d]/\H d = some (.tup [.int so,.ref p,.ref lp])/\H lp = some (.lst ps)/\PI H ps rs ws S/\qj n so rs ws S /\
 ∀ r ys H',Same H H'->H r = none->H' r = some (.lst ys)->TN H' ys (ldN rs ws)->Q (.ref r) H'
noncomputable def lwJ (d0 d:Addr) (gs:List (Nat × Int)) (S:Int) (H:Hp) (k:Nat) (σ:L2.St) (H':Hp):Prop:=∃ u v w x kvs,σ = [some (.ref d0),some (.ref d),u,v,w,x]/\Same H H'/\H' d = some (.dK kvs)/\DN H' S kvs (Ac.dH (gs.take k))
noncomputable def lwC (acc:List (Nat × Int)) (d D1:Addr) (u:HO) (H:Hp) (i:Nat) (ys:List V) (Hc:Hp):Prop:=Same (upd H d u) Hc/\Hc D1 = some (.lst ys)/\TN Hc ys (ldA (acc.take i))
theorem ZM (F:Fun K wM wM JB f fd) (T:Txt K mg D) (mR:OkF P w K mg base 2 nY oE oA):cu P w K mg base CX0 3 f fd yJ Bl:=by
 refine F.ok uU (fun vs H Q E h=>?_) (fun cdv A outer s H vs Q E hr h=>?_)
 .obtain ⟨n,d,p,lp,so,S,rs,ws,ps,rfl,_⟩:=h
  rfl
 .obtain ⟨n,d0,p,lp,so,S,rs,ws,ps,rfl,hd0,hlp,hpi,dr,q⟩:=h
  have p0:=dr.pos
  have sle:=dr.le
  have l8:=dr.l8
  have len:=dr.len
  have gl:(rs.zip ws).length = rs.length:=by rw [List.length_zip]; omega
  refine ⟨_,(bI (bT (i:=1) uU.nd rfl (Or.inl rfl) xG)
   (bI (gC PassesOwn.never rfl (cA ((bQ dD (pv 0) bH (fun _ _=>rfl))).mono) (fM (n:=2) rfl (b_ (bW (i:=2) uU.nd rfl (Or.inl rfl)) (b_ (bW (i:=3) uU.nd rfl (Or.inl rfl)) eZ)))
    (bI (tL (Mq (rT hr) (pv 1) (pv 2) (dI (bB bH (bB bH bG))) (by first | exact ⟨rfl,rfl,rfl,rfl,rfl⟩ | constructor <;> rfl)) (fM (n:=2) rfl (b_ (bW (i:=4) uU.nd rfl (Or.inl rfl)) (b_ (bW (i:=5) uU.nd rfl (Or.inl rfl)) eZ))))
    (bL (Aj (rT hr) (pv 1) (pv 2) (bM mR (hr.mono (by decide)) (by rfl) (bB (bO dZ (bO fL (pv 4) (bQ dD (pv 3) bH (fun _ _=>rfl))) (bO fL (bQ dD (pv 3) bH (fun _ _=>rfl)) (pv 5))) (bB (bO fL (pv 5) (bQ dD (pv 3) bH (fun _ _=>rfl))) bG))) rfl))))
   (bL (bY (fW (bK JB) Xb ["_law_door_here", "_law_found", "?_law_room", "?_law_chance", "_law_top", "_law_bottom"] ["_law_room", "_law_chance"] (Vz ((pv 1)).mono rfl rfl) (fM (n:=2) rfl (b_ (cU (i:=0)) (b_ (cU (i:=1)) eZ))) (wZ (cW Rv (bQ dD (pv 1) bH (fun _ _=>rfl)) bH (cL _))) (dI (bB (pv 0) (bB (pv 1) bG)))))))),?_⟩
  unfold oA
  walk_at "rd"
  refine fun d hd=>dG ?_
  walk_at "rd"
  have S0:Same H (upd H d (.dK [])):=Same.upd hd
  refine ⟨_,S0 _ _ hd0,_,bV (j:=2) rfl,lp,rfl,ps,S0 _ _ hlp,lwJ d0 d (rs.zip ws) S H,⟨none,none,none,none,[],rfl,S0,bC,.nil⟩,?_,?_⟩
  .rintro k x σ' H' hk ⟨u1,u2,u3,u4,kvs,rfl,S1,h1,da⟩ hl'
   have lk:k < rs.length:=by rw [<- hpi.len]; exact (ao.mp hk).1
   have e1:rs[k]? = some rs[k]:=aj lk
   have e2:ws[k]? = some (ws[k]'(by omega)):=aj _
   obtain ⟨t,c,a,b,cc⟩:=hpi.at_ k _ _ e1 e2
   rw [hk] at a
   cases a
   have eg:(rs.zip ws)[k]? = some (rs[k],ws[k]'(by omega)):=List.getElem?_zip_eq_some.mpr ⟨e1,e2⟩
   have wl:=dr.lo _ (aB e2)
   generalize rs[k] = n0 at *
   generalize ws[k]'(by omega) = x0 at *
   have lo:∀ g ∈ rs.zip ws,0 <= g.2:=fun g hg=>dr.lo _ (List.of_mem_zip (a:=g.1) (b:=g.2) hg).2
   have al:=Ac.qF ((rs.zip ws).take k) fun g hg=>lo g (List.mem_of_mem_take hg)
   have sums:0 <= (((rs.zip ws).take k).map (·.2)).sum/\(((rs.zip ws).take k).map (·.2)).sum <= S/\x0 <= S:=by
    have e3:(rs.zip ws).map (·.2) = ws:=List.map_snd_zip (by omega)
    rw [List.map_take,e3]
    have m1:∀ l:List Int,(∀ z ∈ l,0 <= z)->0 <= l.sum/\∀ z ∈ l,z <= l.sum:=fun l=>by
     induction l with
     | nil=>intro _; exact ⟨by simp,by simp⟩
     | cons a l ih =>
      intro h
      obtain ⟨h1,h2⟩:=ih fun z hz=>h z (aH _ hz)
      have h0:=h a aO
      rw [List.sum_cons]
      refine ⟨by omega,fun z hz=>?_⟩
      rcases List.mem_cons.mp hz with rfl | hz
      .omega
      .have:=h2 z hz
       omega
    have s1:=dr.sum
    have a1:=(m1 (ws.take k) fun z hz=>dr.lo z (List.mem_of_mem_take hz)).1
    have a2:=(m1 (ws.drop k) fun z hz=>dr.lo z (List.mem_of_mem_drop hz)).1
    have a3:=(m1 ws dr.lo).2 x0 (aB e2)
    have a4:(ws.take k).sum + (ws.drop k).sum = ws.sum:=by rw [<- List.sum_append,List.take_append_drop]
    omega
   have look:0 <= Ac.look (Ac.dH ((rs.zip ws).take k)) n0/\(Ac.look (Ac.dH ((rs.zip ws).take k)) n0).natAbs <= 10 ^ 20:=by
    rcases Ac.Ed (Ac.dH ((rs.zip ws).take k)) n0 with e0 | ⟨g,hg,e0⟩
    .rw [e0]; exact ⟨Int.le_refl _,by decide⟩
    .rw [e0]
     have:=al.2.2 g hg
     omega
   have q1:=Ac.jx (t:=Ac.look (Ac.dH ((rs.zip ws).take k)) n0) p0
   have q2:=Ac.jx (t:=x0) p0
   have d1:=aL (Ac.Gy (Ac.look (Ac.dH ((rs.zip ws).take k)) n0) S) look.2
   have d2:=aL (Ac.Gh (Ac.look (Ac.dH ((rs.zip ws).take k)) n0) S) (by omega:S.natAbs <= 10 ^ 20)
   have d3:=aL (Ac.Gy x0 S) (by omega:x0.natAbs <= 10 ^ 20)
   have d4:=aL (Ac.Gh x0 S) (by omega:S.natAbs <= 10 ^ 20)
   have d5:Bd ((Ac.lw (Ac.look (Ac.dH ((rs.zip ws).take k)) n0) S).2 * (Ac.lw x0 S).2):=by
    refine Nat.lt_of_le_of_lt (m:=10 ^ 20 * 10 ^ 20) ?_ (by decide +kernel)
    rw [Int.natAbs_mul]
    exact Nat.mul_le_mul d2 d4
   have hlen:kvs.length < sizeLine:=by
    have h9:9 < sizeLine:=by decide
    have:=al.2.1
    rw [da.len]
    rw [bf] at *
    omega
   have vk:kV (nK n0) = .int (n0:Nat):=rfl
   walk_at "rd"
   refine ⟨_,S1 _ _ b,rfl,_,_,rfl,_,_,rfl,rfl,.inl ⟨kvs,.inl h1⟩,eE,fun tz gz=>?_⟩
   have S2:Same H' (upd H' tz (.tup [.int 0,.int 1])):=Same.upd gz
   have hz:upd H' tz (.tup [.int 0,.int 1]) tz = some (.tup [.int 0,.int 1]):=bC
   generalize upd H' tz (.tup [.int 0,.int 1]) = H2 at S2 hz ⊢
   obtain ⟨cq,o,ho,hq,sq⟩ : ∃ cq o,qC H2 d (.int (n0:Nat)) o/\o.getD (.ref tz) = .ref cq/\H2 cq = some (.tup [.int (Ac.lw (Ac.look (Ac.dH ((rs.zip ws).take k)) n0) S).1,.int (Ac.lw (Ac.look (Ac.dH ((rs.zip ws).take k)) n0) S).2]):=by
    have dg:qC H2 d (.int (n0:Nat)) (lV kvs (nK n0)):=qC.k (k:=nK n0) (S2 _ _ h1)
    rcases da.val n0 with ⟨e1,e2⟩ | ⟨c',e1,e2⟩
    .rw [e2,((Ac.lZ p0).mpr rfl).1,((Ac.lZ p0).mpr rfl).2]
     exact ⟨tz,_,dg,by rw [e1]; rfl,hz⟩
    .exact ⟨c',_,dg,by rw [e1]; rfl,S2 _ _ e2⟩
   have hc2:=S2 _ _ (S1 _ _ cc)
   refine ⟨o,ho,cq,hq,_,sq,rfl,_,_,rfl,_,_,rfl,rfl,c,rfl,_,hc2,_,gO,_,rfl,_,rfl,z_ d1,z_ d4,c,rfl,_,hc2,_,eU,_,rfl,?_⟩
   have qm:0 < (Ac.lw (Ac.look (Ac.dH ((rs.zip ws).take k)) n0) S).2 * (Ac.lw x0 S).2:=Int.mul_pos q1 q2
   obtain ⟨ez,eo⟩:=Ac.WK (z:=(Ac.lw ((Ac.lw (Ac.look (Ac.dH ((rs.zip ws).take k)) n0) S).1 * (Ac.lw x0 S).2 + (Ac.lw x0 S).1 * (Ac.lw (Ac.look (Ac.dH ((rs.zip ws).take k)) n0) S).2) ((Ac.lw (Ac.look (Ac.dH ((rs.zip ws).take k)) n0) S).2 * (Ac.lw x0 S).2)).1) p0 (Ac.jx qm) (Ac.zp qm) (Ac.yt qm)
   refine ⟨_,rfl,z_ d3,z_ d2,c,rfl,_,hc2,_,gO,_,rfl,_,rfl,z_ d2,z_ d4,qm,d5,fun r gr=>?_⟩
   rw [ez,eo]
   have h12:=S2 _ _ h1
   have rd:d ≠ r:=bD h12 gr
   have ld:lp ≠ d:=bD hlp hd
   refine ⟨_,M7.k (k:=nK n0) ((bF rd).trans h12) hlen,(bF ld).trans ((bF (bD (S2 _ _ hl') gr)).trans (S2 _ _ hl')),_,_,_,_,_,rfl,?_,bC,?_⟩
   .intro b' o' e'
    rw [bF (bD e' hd),bF (bD (S2 _ _ (S1 _ _ e')) gr)]
    exact S2 _ _ (S1 _ _ e')
   .rw [cg eg,Ac.vh]
    refine DN.put ?_ (da.imp fun c' x' y' e'=>?_)
    .rw [bF rd.symm]; exact bC
    .rw [bF (eY e' h1 (by intro z; cases z)),bF (bD (S2 _ _ e') gr)]; exact S2 _ _ e'
  .rintro σ' H' ⟨u1,u2,u3,u4,kvs,rfl,S1,h1,da⟩ _
   rw [hpi.len,<- gl,aP] at da
   have lo:∀ g ∈ rs.zip ws,0 <= g.2:=fun g hg=>dr.lo _ (List.of_mem_zip (a:=g.1) (b:=g.2) hg).2
   have al:=Ac.qF (rs.zip ws) lo
   have hlen:kvs.length <= sizeLine:=by
    have h9:9 < sizeLine:=by decide
    have:=al.2.1
    rw [da.len]
    omega
   refine G7 ?_
   refine ⟨_,rfl,d,kvs,rfl,h1,hlen,fun o D1 gD=>⟨lwC (Ac.dH (rs.zip ws)) d D1 (.frz o (.dK kvs)) H',⟨Same.upd gD,bC,.nil⟩,?_,?_⟩⟩
   .rintro i k y ys Hc t hi ⟨S2,hD,tn⟩ hy ht hfr pre hpre
    obtain ⟨w1,w2,rfl⟩:=m8 hpre
    obtain ⟨n0,W,c,ea,rfl,rfl,hc⟩:=da.get hi
    have hcd:c ≠ d:=eY hc h1 (by intro z; cases z)
    have S3:Same Hc (upd Hc t (.tup [kV (nK n0),.ref c])):=Same.upd ht
    have h3:upd Hc t (.tup [kV (nK n0),.ref c]) t = some (.tup [.int (n0:Nat),.ref c]):=bC
    have hcc:=S3 _ _ (S2 _ _ ((bF hcd).trans hc))
    generalize upd Hc t (.tup [kV (nK n0),.ref c]) = H3 at S3 h3 hcc ⊢
    have hD3:=S3 _ _ hD
    have hf3:=S3 _ _ hfr
    have W0:=(al.2.2 _ (aB ea)).1
    have tk:∀ {H4:Hp},Same Hc H4->∀ {o:HO},TN (upd H4 D1 o) ys (ldA ((Ac.dH (rs.zip ws)).take i)):=fun {H4} S4 {o}=>tn.imp fun t' us e=>(bF (eY e hD (by intro z; cases z))).trans (S4 _ _ e)
    refine ⟨_,_,rfl,h3,rfl,⟨_,_,rfl,_,_,rfl,rfl,[_,_],rfl,rfl,?_⟩⟩
    by_cases hW:0 < W
    .have hn0:¬ (Ac.lw W S).1 = 0:=fun z=>by
      have:=Ac.yt (t:=W) p0
      rw [z,Int.zero_mul] at this
      have:=Int.mul_pos hW (Ac.jx (t:=W) p0)
      omega
     refine ⟨_,rfl,_,_,_,_,rfl,rfl,hcc,eU,rfl,_,rfl,?_⟩
     rw [show (!decide (V.int (Ac.lw W S).1 = V.int 0)) = true by simp [hn0]]
     refine ⟨_,rfl,_,rfl,eE,fun pt gt=>?_⟩
     have S5:Same Hc (upd H3 pt (.tup [.int (n0:Nat),.ref c])):=S3.trans (Same.upd gt)
     have nD:D1 ≠ pt:=bD hD3 gt
     refine ⟨S5 _ _ hD,S5 _ _ hfr,fun b' o' e'=>(bF (bD e' gD)).trans (S5 _ _ (S2 _ _ e')),bC,?_⟩
     rw [Kr ea,if_pos hW]
     exact (tk S5).snoc ((bF nD.symm).trans bC)
    .have e0:W = 0:=by have W0:0 <= W:=W0; omega
     subst e0
     refine ⟨_,rfl,_,_,_,_,rfl,rfl,hcc,eU,rfl,_,rfl,?_⟩
     rw [((Ac.lZ (b:=S) p0).mpr rfl).1]
     refine ⟨hf3,fun b' o' e'=>S3 _ _ (S2 _ _ e'),hD3,?_⟩
     rw [Kr ea,if_neg (by decide),List.append_nil]
     exact tn.imp fun t' us e=>S3 _ _ e
   .rintro ys Hc ⟨S2,hD,tn⟩ _
    rw [da.len,aP] at tn
    refine q D1 ys Hc (fun b o' e'=>S2 _ _ ((bF (bD e' hd)).trans (S1 _ _ e'))) ?_ hD tn
    cases z:H D1 with
    | none=>rfl
    | some o' =>
     have:=(bF (H:=H') (o:=.frz o (.dK kvs)) (bD z hd)).trans (S1 _ _ z)
     rw [this] at gD
     cases gD
structure oK (n:Nat) (H:Hp) (d:Addr) (xs:List Nat):Prop where
 ex:∃ (p lp:Addr) (so S:Int) (rs:List Nat) (ws:List Int) (ps:List V),H d = some (.tup [.int so,.ref p,.ref lp])/\H lp = some (.lst ps)/\PI H ps rs ws S/\qj n so rs ws S/\xs = ldN rs ws
theorem oK.same {n:Nat} {H H':Hp} {d:Addr} {xs:List Nat} (h:oK n H d xs) (S:Same H H'):oK n H' d xs:=by
 obtain ⟨_,_,_,_,_,_,_,a,b,c,e⟩:=h.ex
 exact ⟨_,_,_,_,_,_,_,S _ _ a,S _ _ b,c.same S,e⟩
theorem W7 {n:Nat} {so S:Int} {rs:List Nat} {ws:List Int} (dr:qj n so rs ws S):(ldN rs ws).length <= 8/\∀ r ∈ ldN rs ws,r < n:=by
 have lo:∀ g ∈ rs.zip ws,0 <= g.2:=fun g hg=>dr.lo _ (List.of_mem_zip (a:=g.1) (b:=g.2) hg).2
 have al:=Ac.qF (rs.zip ws) lo
 constructor
 .unfold ldN ldA
  rw [ak]
  have:=List.length_filter_le (fun g:Nat × Int=>decide (0 < g.2)) (Ac.dH (rs.zip ws))
  have l:=al.2.1
  rw [List.length_zip] at l
  have:=dr.l8
  omega
 .intro r hr
  unfold ldN ldA at hr
  obtain ⟨g,hg,rfl⟩:=List.mem_map.mp hr
  have k:=Ac.LK _ g (List.mem_filter.mp hg).1
  obtain ⟨u,hu,e⟩:=List.mem_map.mp k
  rw [<- e]
  exact dr.lt _ (List.of_mem_zip (a:=u.1) (b:=u.2) hu).1
theorem oK.bd {n:Nat} {H:Hp} {d:Addr} {xs:List Nat} (h:oK n H d xs):xs.length <= 8/\∀ r ∈ xs,r < n:=by
 obtain ⟨p,lp,so,S',rs,ws,ps,a,b,c,e,rfl⟩:=h.ex
 exact W7 e
noncomputable def Ej:Sp:=fun vs H Q _=>∃ (r:Addr) (xs:List V) (dss:List (List Addr)) (n:Nat),vs = [.ref r]/\H r = some (.lst xs)/\RD n H xs dss/\dss.length <= 12/\(∀ ds ∈ dss,ds.length <= 12) /\
 ∀ l ls H',Same H H'->H l = none->Eu H' (.ref l) ls->fD (fD (oK n H)) dss ls->Q (.ref l) H'
noncomputable def afB (D1:Addr) (n:Nat) (dss:List (List Addr)) (H:Hp) (k:Nat) (ys:List V) (H':Hp):Prop:=∃ ls,Same H H'/\H' D1 = some (.lst ys)/\fD (ILL (del [D1] H')) ys ls/\fD (fD (oK n H)) (dss.take k) ls
noncomputable def afk (D1 D2:Addr) (n:Nat) (ds:List Addr) (H H1:Hp) (k:Nat) (ys:List V) (H':Hp):Prop:=∃ xs,Same H1 H'/\H' D2 = some (.lst ys)/\fD (IL (del [D1,D2] H')) ys xs/\fD (oK n H) (ds.take k) xs
theorem X5 (F:Fun K tY tY uZ f fd) (T:Txt K mg D) (O1:OkF P w K mg base 3 wM yJ Bl):cu P w K mg base CX0 4 f fd tV Ej:=by
 refine F.ok Yi (fun vs H Q E h=>?_) (fun cdv A outer s H vs Q E hr h=>?_)
 .obtain ⟨r,xs,dss,n,rfl,_⟩:=h
  rfl
 .obtain ⟨r,xs,dss,n,rfl,hrr,rd,n12,m12,q⟩:=h
  have z9:100 < sizeLine:=by decide
  refine ⟨_,(bL (bY (fW (bK uZ) q_ q_ ["_law_doors_here"] (cA ((pv 0)).mono) (cU (i:=0)) cF (wg (bK uZ) ("_law_doors_here" :: q_) ("_law_doors_here" :: q_) ["_law_door_here"] rfl rfl rfl (by decide +kernel) (by decide +kernel) rfl (by decide +kernel) (by decide +kernel) (by decide +kernel) (by decide +kernel) (by decide +kernel) (sO (K:=K) rfl ((pv 0)).mono) (fun _ _ _ _ _=>(bW (i:=0) (show List.Nodup (["_law_door_here", "_law_doors_here", "_law_rooms"] : List Str) from by decide +kernel) rfl (Or.inl rfl) (Or.inr rfl))) (fun _ _ _ _ _=>cF) (fun _ _ _ _ _=>(Cz (bK uZ) ("_law_door_here" :: "_law_doors_here" :: q_) ("_law_door_here" :: "_law_doors_here" :: q_) ["_law_room", "_law_chance"] rfl rfl rfl (by decide +kernel) (by decide +kernel) rfl (by decide +kernel) (by decide +kernel) (by decide +kernel) (by decide +kernel) (by decide +kernel) (sO (K:=K) rfl ((bM O1 (hr.mono (by decide)) (by rfl) (bB (pv 0) bG))).mono) (fun _ _ _ _ _=>(fM (n:=2) rfl (b_ (bW (i:=0) (show List.Nodup (["_law_room", "_law_chance", "_law_door_here", "_law_doors_here", "_law_rooms"] : List Str) from by decide +kernel) rfl (Or.inl rfl) (Or.inr rfl)) (b_ (bW (i:=1) (show List.Nodup (["_law_room", "_law_chance", "_law_door_here", "_law_doors_here", "_law_rooms"] : List Str) from by decide +kernel) rfl (Or.inl rfl) (Or.inr rfl)) eZ)))) (fun _ _ _ _ _=>cF) (fun _ _ _ _ _=>(pv 0)))))))),?_⟩
  unfold Bl
  refine za (cC ?_)
  refine ⟨_,rfl,r,xs,rfl,hrr,by rw [rd.len]; omega,fun D1 g1=>⟨afB D1 n dss H,⟨[],Same.upd g1,bC,.nil,.nil⟩,?_,?_⟩⟩
  .rintro k v ys Hc hk ⟨ls,S1,h1,a1,b1⟩ hy hc
   have lk:k < dss.length:=by rw [<- rd.len]; exact (ao.mp hk).1
   have ed:dss[k]? = some dss[k]:=aj lk
   have dm:=m12 _ (aV lk)
   obtain ⟨lk',ek,hlk,dd⟩:=rd.at_ k _ ed
   rw [hk] at ek
   cases ek
   generalize dss[k] = ds at *
   refine cC ?_
   refine ⟨_,rfl,lk',_,rfl,S1 _ _ hlk,by rw [ak]; omega,fun D2 g2=>⟨afk D1 D2 n ds H Hc,⟨[],Same.upd g2,bC,.nil,.nil⟩,?_,?_⟩⟩
   .rintro j v zs2 Hd hj ⟨xs2,S2,h2,a2,b2⟩ hz hd
    rw [aq] at hj
    cases e:ds[j]? with
    | none=>rw [e] at hj; cases hj
    | some d =>
     rw [e] at hj
     cases hj
     obtain ⟨p,lp,so,x,y,S,rs,ws,ps,c1,c2,c3,c4,c5,c6,c7⟩:=(dd d (aB e)).ex
     have TT:=S1.trans S2
     have bd:=W7 c7
     refine j5 ?_
     refine ⟨_,rfl,n,d,p,lp,so,S,rs,ws,ps,rfl,TT _ _ c1,TT _ _ c5,c6.same TT,c7,fun r3 ys3 H3 S3 g3 h3 tn=>?_⟩
     refine ⟨r3,ys3,rfl,h3,by rw [tn.len]; omega,fun D3 g4=>⟨vJ D3 H3 ((ldN rs ws).map nV),⟨Same.upd g4,bC,rfl⟩,?_,?_⟩⟩
     .rintro i v us He hi j2 hu hr3 pre hpre
      obtain ⟨w1,w2,rfl⟩:=m8 hpre
      have li:i < (ldN rs ws).length:=by rw [<- tn.len]; exact (ao.mp hi).1
      have ei:(ldN rs ws)[i]? = some (ldN rs ws)[i]:=aj li
      obtain ⟨t,c,e1,e2⟩:=tn.at_ i _ ei
      rw [hi] at e1
      cases e1
      refine ⟨_,_,rfl,j2.1 _ _ e2,rfl,⟨_,_,rfl,_,_,rfl,rfl,[_,_],rfl,rfl,⟨_,rfl,j2.2.1,hr3,j2.next g4 (fun _ _ z=>z) ?_⟩⟩⟩
      rw [aq,ei]; rfl
     .rintro us He ⟨S4,h4,eu⟩ hu
      rw [tn.len,aK (by rw [ak]; exact aF _)] at eu
      subst eu
      have S5:=S3.trans S4
      have n1:D3 ≠ D1:=(bD (S3 _ _ (S2 _ _ h1)) g4).symm
      have n2:D3 ≠ D2:=(bD (S3 _ _ h2) g4).symm
      refine ⟨S5 _ _ h2,S5 _ _ hd,xs2 ++ [ldN rs ws],fun b o z=>(bF (bD z g2)).trans (S5 _ _ (S2 _ _ z)),bC,?_,?_⟩
      .rw [nM (by simp)]
       exact (a2.imp fun _ _ z=>z.same (kO fun b o _ e=>S5 _ _ e)).snoc ⟨D3,rfl,eG (by simp; exact ⟨n1,n2⟩) h4⟩
      .rw [cg e]
       exact b2.snoc ⟨p,lp,so,S,rs,ws,ps,c1,c5,c6,c7,rfl⟩
   .rintro zs2 Hd ⟨xs2,S2,h2,a2,b2⟩ hz
    rw [ak,aP] at b2
    have n1:D2 ≠ D1:=(bD h1 g2).symm
    refine ⟨S2 _ _ h1,S2 _ _ hc,ls ++ [xs2],fun b o z=>(bF (bD z g1)).trans (S2 _ _ (S1 _ _ z)),bC,?_,?_⟩
    .rw [nM (by simp)]
     refine (a1.imp fun _ _ z=>z.same (kO fun b o _ e=>S2 _ _ e)).snoc ⟨D2,zs2,rfl,eG (by simp; exact n1) h2,a2.imp fun _ _ z=>z.same fun b o e=>?_⟩
     obtain ⟨e1,e2⟩:=nj e
     exact eG (by simp at e1 ⊢; exact e1.1) e2
    .rw [cg ed]
     exact b1.snoc b2
  .rintro ys Hc ⟨ls,S1,h1,a1,b1⟩ hy
   rw [rd.len,aP] at b1
   exact q D1 ls Hc S1 g1 ⟨D1,ys,rfl,h1,a1.imp fun _ _ z=>z.same gY⟩ b1
noncomputable def CG:Sp:=fun vs H Q _=>∃ (c:Int) (n:Nat),vs = [.int c,.int n]/\n <= 12/\∀ l (gs:List Nat) H',Same H H'->H l = none->H' l = some (.lst (gs.map nV))->(∀ g ∈ gs,g < n)->gs.length <= 8->Q (.ref l) H'
theorem Xq (F:Fun K uq uq Ax f fd) (T:Txt K mg D) (d_:OkF P w K mg base 1 jm je fK):cu P w K mg base CX0 2 f fd t_ CG:=by
 refine F.ok Ky (fun vs H Q E h=>?_) (fun cdv A outer s H vs Q E hr h=>?_)
 .obtain ⟨c,n,rfl,_⟩:=h
  rfl
 .obtain ⟨c,n,rfl,n12,q⟩:=h
  refine ⟨_,(bI (dF (cW qy (pv 1) bH (cL _))
    (bL (bY (cR bG)))
    cH)
   (bI (bT (i:=2) Ky.nd rfl (Or.inl rfl) (bM d_ (hr.mono (by decide)) (by rfl) (bB (pv 0) (bB bH bG))))
   (bL (bY (fW (bK Ax) Jp Jp ["_law_x"] (cA ((gZ mO (pv 2) (fj bH) (fj (bO dZ bH (bO mD (bQ bN (pv 2) bH (fun _ _=>rfl)) (bQ bN (cR (bB bH (bB bH (bB bH (bB bH bG))))) (bO cZ (bQ bN (pv 2) bH (fun _ _=>rfl)) bH) (fun _ _=>rfl))))))).mono) (cU (i:=0)) cF (bO mD (pv 0) (pv 2))))))),?_⟩
  unfold fK
  walk_at "rd"
  refine U8 (fun h=>⟨bh _,fun p hp=>q p [] _ (Same.upd hp) hp bC (by simp) (by simp)⟩) fun h=>⟨9,rfl,by decide,fun l xs H1 S1 fl hl ln hx=>?_⟩
  have hn:0 < (n:Int):=by simp at h; omega
  have at_:∀ j,j < 9->∃ y,atI (xs.map V.int) (j:Nat) = some (.int y)/\0 <= y/\y < 2000000000:=fun j hj=>by
   have:j < xs.length:=by omega
   exact ⟨xs[j],bV (j:=j) (by rw [aq,aj this]; rfl),hx _ (aV this)⟩
  obtain ⟨x0,a0,p0⟩:=at_ 0 (by decide)
  obtain ⟨x8,a8,p8⟩:=at_ 8 (by decide)
  have z9:100 < sizeLine:=by decide
  refine cC ?_
  walk_at "rd"
  obtain ⟨md,ed,hmd⟩ : ∃ md:Int,atI [V.int 4,V.int 4,V.int 4,V.int 8] (x8 % 4) = some (.int md)/\(md = 4\/md = 8):=by
   obtain e | e | e | e:x8 % 4 = 0\/x8 % 4 = 1\/x8 % 4 = 2\/x8 % 4 = 3:=by omega
   .exact ⟨4,by rw [e]; exact bV (j:=0) rfl,.inl rfl⟩
   .exact ⟨4,by rw [e]; exact bV (j:=1) rfl,.inl rfl⟩
   .exact ⟨4,by rw [e]; exact bV (j:=2) rfl,.inl rfl⟩
   .exact ⟨8,by rw [e]; exact bV (j:=3) rfl,.inr rfl⟩
  obtain ⟨m,em,m7⟩ : ∃ m:Nat,1 + x0.fmod md = ((1 + m:Nat):Int)/\m <= 7:=by
   rw [aX _ (by omega)]
   rcases hmd with rfl | rfl
   .exact ⟨(x0 % 4).toNat,by omega,by omega⟩
   .exact ⟨(x0 % 8).toNat,by omega,by omega⟩
  refine ⟨_,hl,_,a0,by decide,fun p1 f1=>?_⟩
  have S2:Same H1 (upd H1 p1 (.lst [.int 4,.int 4,.int 4,.int 8])):=Same.upd f1
  generalize upd H1 p1 (.lst [.int 4,.int 4,.int 4,.int 8]) = H2 at S2 ⊢
  refine ⟨_,S2 _ _ hl,_,a8,_,rfl,_,ed,_,rfl,_,rfl,by omega,_,.of (S2 _ _ hl),fun p2 f2=>?_⟩
  have ec:mQ (xs.map V.int) (some 1) (some (1 + x0.fmod md)) = ((xs.drop 1).take m).map V.int:=by
   rw [em,List.map_take,List.map_drop]
   have:=Ak (ys:=xs.map V.int) (a:=1) (b:=1 + m) (by omega) (by rw [ak]; omega)
   rw [show 1 + m - 1 = m by omega] at this
   exact this
  rw [ec]
  have l5:((xs.drop 1).take m).length = m:=by rw [bf,List.length_drop]; omega
  have S3:Same H2 (upd H2 p2 (.lst (((xs.drop 1).take m).map V.int))):=Same.upd f2
  generalize upd H2 p2 (.lst (((xs.drop 1).take m).map V.int)) = H3 at S3 ⊢
  generalize (xs.drop 1).take m = us at l5 ⊢
  have SH:=S1.trans (S2.trans S3)
  have lt:∀ i:Int,(i % (n:Int)).toNat < n:=fun i=>by
   have m0:0 <= i % (n:Int):=Int.emod_nonneg _ (by omega)
   have m1:i % (n:Int) < n:=Int.emod_lt_of_pos _ (by omega)
   omega
  refine ⟨by rw [ak]; omega,fun D1 gD=>⟨vJ D1 H3 ((us.map fun i=>(i % (n:Int)).toNat).map nV),⟨Same.upd gD,bC,rfl⟩,?_,?_⟩⟩
  .rintro k v ys Hc hk j hy hpc
   rw [aq] at hk
   cases er:us[k]? with
   | none=>rw [er] at hk; cases hk
   | some i =>
    rw [er] at hk
    cases hk
    have m0:0 <= i % (n:Int):=Int.emod_nonneg _ (by omega)
    have ef:i.fmod (n:Int) = (((i % (n:Int)).toNat:Nat):Int):=by rw [aX _ (by omega)]; omega
    refine ⟨i,rfl,by omega,?_⟩
    rw [ef]
    exact ⟨j.2.1,hpc,j.next gD (fun _ _ z=>z) (by rw [List.map_map,aq,er]; rfl)⟩
  .rintro ys Hc ⟨S4,h4,ey⟩ hy
   rw [ak,aK (by rw [ak,ak]; exact aF _)] at ey
   subst ey
   refine q D1 _ Hc (SH.trans S4) (Same.free SH gD) h4 (fun g hg=>?_) (by rw [ak]; omega)
   obtain ⟨i,_,rfl⟩:=List.mem_map.mp hg
   exact lt i
inductive A2 {α β:Type} (R:α->β->Prop):List α->List β->Prop
 | nil:A2 R [] []
 | cons {x:α} {y:β} {xs:List α} {ys:List β} (h:R x y) (t:A2 R xs ys):A2 R (x :: xs) (y :: ys)
theorem A2.of {α β:Type} {R:α->β->Prop} : ∀ {xs:List α} {ys:List β},xs.length = ys.length->(∀ (k:Nat) (x:α) (y:β),xs[k]? = some x->ys[k]? = some y->R x y)->A2 R xs ys
 | [],[],_,_=>.nil
 | x :: xs,y :: ys,l,h=>.cons (h 0 x y rfl rfl) (A2.of (Nat.succ.inj l) fun k a b e1 e2=>h (k + 1) a b e1 e2)
theorem A2.map_ {α β γ:Type} {R:α->β->Prop} {f:β->α} (h:∀ x y,R x y->f y = x):∀ {xs:List α} {ys:List β},A2 R xs ys->ys.map f = xs
 | _,_,.nil=>rfl
 | _,_,.cons a t=>by rw [List.map_cons,h _ _ a,A2.map_ (γ:=γ) h t]
section
variable {κ κ':Type} [DecidableEq κ] [DecidableEq κ'] {ρ:κ->κ'->Prop}
noncomputable def RW2 (ρ:κ->κ'->Prop) (g:κ × Int) (g':κ' × Int):Prop:=ρ g.1 g'.1/\0 <= g.2/\0 <= g'.2/\(0 < g.2 ↔ 0 < g'.2)
theorem Lq (bi:∀ a b a' b',ρ a b->ρ a' b'->(a = a' ↔ b = b')) {r:κ} {r':κ'} (hr:ρ r r'):∀ {acc:List (κ × Int)} {acc':List (κ' × Int)},A2 (RW2 ρ) acc acc'->0 <= Ac.look acc r/\0 <= Ac.look acc' r'/\(0 < Ac.look acc r ↔ 0 < Ac.look acc' r')
 | _,_,.nil=>⟨Int.le_refl _,Int.le_refl _,Iff.rfl⟩
 | _,_,.cons (x:=g) (y:=g') (xs:=xs) (ys:=ys) h t=>by
  by_cases e:g.1 = r
  .have e':=(bi _ _ _ _ h.1 hr).mp e
   have a:Ac.look (g :: xs) r = g.2:=by simp [Ac.look,List.find?_cons,e]
   have b:Ac.look (g' :: ys) r' = g'.2:=by simp [Ac.look,List.find?_cons,e']
   rw [a,b]
   exact h.2
  .have e':¬ g'.1 = r':=fun z=>e ((bi _ _ _ _ h.1 hr).mpr z)
   have a:Ac.look (g :: xs) r = Ac.look xs r:=by simp [Ac.look,List.find?_cons,e]
   have b:Ac.look (g' :: ys) r' = Ac.look ys r':=by simp [Ac.look,List.find?_cons,e']
   rw [a,b]
   exact Lq bi hr t
theorem Q7 (bi:∀ a b a' b',ρ a b->ρ a' b'->(a = a' ↔ b = b')) {r:κ} {r':κ'} (hr:ρ r r'):∀ {acc:List (κ × Int)} {acc':List (κ' × Int)},A2 (RW2 ρ) acc acc'->(acc.any fun g=>decide (g.1 = r)) = acc'.any fun g=>decide (g.1 = r')
 | _,_,.nil=>rfl
 | _,_,.cons h t=>by
  rw [List.any_cons,List.any_cons,Q7 bi hr t]
  congr 1
  exact decide_eq_decide.mpr (bi _ _ _ _ h.1 hr)
theorem Kv (bi:∀ a b a' b',ρ a b->ρ a' b'->(a = a' ↔ b = b')) {r:κ} {r':κ'} (hr:ρ r r') {x x':Int} (hx:0 <= x/\0 <= x'/\(0 < x ↔ 0 < x')):∀ {acc:List (κ × Int)} {acc':List (κ' × Int)},A2 (RW2 ρ) acc acc'->A2 (RW2 ρ) (acc.map fun g=>if g.1 = r then (g.1,x) else g) (acc'.map fun g=>if g.1 = r' then (g.1,x') else g)
 | _,_,.nil=>.nil
 | _,_,.cons (x:=g) (y:=g') h t=>by
  rw [List.map_cons,List.map_cons]
  refine .cons ?_ (Kv bi hr hx t)
  have b:=bi _ _ _ _ h.1 hr
  by_cases e:g.1 = r
  .rw [if_pos e,if_pos (b.mp e)]
   exact ⟨h.1,hx⟩
  .rw [if_neg e,if_neg fun z=>e (b.mpr z)]
   exact h
theorem MP {R:κ × Int->κ' × Int->Prop} {g:κ × Int} {g':κ' × Int} (hg:R g g'):∀ {acc:List (κ × Int)} {acc':List (κ' × Int)},A2 R acc acc'->A2 R (acc ++ [g]) (acc' ++ [g'])
 | _,_,.nil=>.cons hg .nil
 | _,_,.cons h t=>.cons h (MP hg t)
theorem Vl (bi:∀ a b a' b',ρ a b->ρ a' b'->(a = a' ↔ b = b')) {gs:List (κ × Int)} {gs':List (κ' × Int)} (h:A2 (RW2 ρ) gs gs'):A2 (RW2 ρ) (Ac.dH gs) (Ac.dH gs'):=by
 have go:∀ {gs:List (κ × Int)} {gs':List (κ' × Int)},A2 (RW2 ρ) gs gs'->∀ {acc:List (κ × Int)} {acc':List (κ' × Int)},A2 (RW2 ρ) acc acc'->A2 (RW2 ρ) (gs.foldl (fun a g=>Ac.put a g.1 (Ac.look a g.1 + g.2)) acc) (gs'.foldl (fun a g=>Ac.put a g.1 (Ac.look a g.1 + g.2)) acc'):=fun {gs gs'} h=>by
  induction h with
  | nil=>intro acc acc' ha; exact ha
  | @cons x y _ _ hx _ ih =>
   intro acc acc' ha
   rw [List.foldl_cons,List.foldl_cons]
   refine ih ?_
   have l:=Lq bi hx.1 ha
   have hw:0 <= Ac.look acc x.1 + x.2/\0 <= Ac.look acc' y.1 + y.2/\(0 < Ac.look acc x.1 + x.2 ↔ 0 < Ac.look acc' y.1 + y.2):=⟨Int.add_nonneg l.1 hx.2.1,Int.add_nonneg l.2.1 hx.2.2.1,by
    have a:=hx.2.2.2
    have a1:=hx.2.1
    have a2:=hx.2.2.1
    omega⟩
   unfold Ac.put
   rw [Q7 bi hx.1 ha]
   split
   .exact Kv bi hx.1 hw ha
   .exact MP ⟨hx.1,hw⟩ ha
 exact go h .nil
theorem Bq:∀ {acc:List (κ × Int)} {acc':List (κ' × Int)},A2 (RW2 ρ) acc acc'->A2 ρ ((acc.filter fun g=>decide (0 < g.2)).map (·.1)) ((acc'.filter fun g=>decide (0 < g.2)).map (·.1))
 | _,_,.nil=>.nil
 | _,_,.cons (x:=g) (y:=g') h t=>by
  by_cases e:0 < g.2
  .rw [List.filter_cons,if_pos (decide_eq_true e),List.filter_cons,if_pos (decide_eq_true (h.2.2.2.mp e))]
   exact .cons h.1 (Bq t)
  .rw [List.filter_cons,if_neg (by simpa using e),List.filter_cons,if_neg (by simpa using fun z=>e (h.2.2.2.mpr z))]
   exact Bq t
end
theorem Q9 {w S:Int} (hS:0 < S):0 < (Ac.lw w S).1 ↔ 0 < w:=by
 have e:=Ac.yt (t:=w) hS
 have p:=Ac.jx (t:=w) hS
 constructor
 .intro h
  have:0 < w * (Ac.lw w S).2:=by rw [<- e]; exact Int.mul_pos h hS
  exact Int.pos_of_mul_pos_left this p
 .intro h
  have:0 < (Ac.lw w S).1 * S:=by rw [e]; exact Int.mul_pos h p
  exact Int.pos_of_mul_pos_left this hS
theorem Y7 {n:Nat} {ns:List Str} {H H':Hp} {d:Addr} {g:Dr} {xs:List Nat} (nd:ns.Nodup) (di:zE K n ns H H' d g) (lo:oK n H d xs):yu ns g = xs:=by
 obtain ⟨p,lp,so,x,y,S,rs,ws,ps,zs,nms,a1,a2,a3,a4,a5,a6,a7,a8,a9,b⟩:=di.ex
 obtain ⟨p',lp',so',S',rs',ws',ps',c1,c2,c3,c4,rfl⟩:=lo.ex
 rw [a1] at c1
 cases c1
 rw [a5] at c2
 cases c2
 have bi:∀ (a:Nat) (b:Str) (a':Nat) (b':Str),ns[a]? = some b->ns[a']? = some b'->(a = a' ↔ b = b'):=fun a b a' b' h1 h2=>by
  constructor
  .intro z; subst z; rw [h1] at h2; cases h2; rfl
  .intro z
   subst z
   rw [<- Ja nd h1,<- Ja nd h2]
 have l1:=a6.len
 have l2:=c3.len
 have l3:=a7.len
 have l4:=c4.len
 have l5:=a8.1
 have rel:A2 (RW2 fun (a:Nat) (b:Str)=>ns[a]? = some b) (rs'.zip ws') (nms.zip ws):=by
  refine A2.of (by rw [List.length_zip,List.length_zip]; omega) fun k g1 g2 e1 e2=>?_
  obtain ⟨b1,b2⟩:=List.getElem?_zip_eq_some.mp e1
  obtain ⟨b3,b4⟩:=List.getElem?_zip_eq_some.mp e2
  have lk:k < rs.length:=by have:=(ao.mp b3).1; omega
  have er:rs[k]? = some rs[k]:=aj lk
  obtain ⟨t,c,d1,d2,d3⟩:=c3.at_ k _ _ b1 b2
  obtain ⟨t',c',f1,f2,f3⟩:=a6.at_ k _ _ er b4
  rw [d1] at f1
  cases f1
  rw [d2] at f2
  have en:=a8.2 k _ _ er b3
  generalize rs[k] = r at *
  injection f2 with f2
  injection f2 with f2
  injection f2 with z1 f2
  injection f2 with z2 _
  injection z1 with z1
  injection z2 with z2
  subst z2
  rw [d3] at f3
  injection f3 with f3
  injection f3 with f3
  injection f3 with z3 _
  injection z3 with z3
  have z1:g1.1 = r:=by omega
  refine ⟨by show ns[g1.1]? = some g2.1; rw [z1]; exact en,c4.lo _ (aB b2),a7.lo _ (aB b4),?_⟩
  exact (Q9 (w:=g1.2) c4.pos).symm.trans (Iff.trans (by rw [z3]) (Q9 (w:=g2.2) a7.pos))
 have ke:=Bq (Vl bi rel)
 unfold yu
 have e1:g.ws.map (fun z=>toN ns z.1) = (g.ws.map (·.1)).map (toN ns):=by rw [List.map_map]; rfl
 rw [e1,b.keys]
 have e2:(Ac.ways (nms.zip ws) S).map (·.1) = ((Ac.dH (nms.zip ws)).filter fun g=>decide (0 < g.2)).map (·.1):=by
  unfold Ac.ways
  rw [List.map_map]; rfl
 rw [e2]
 exact A2.map_ (γ:=Nat) (fun a b h=>Ja nd h) ke
structure Wy (n:Nat) (gs:List Nat) (LL ls:List (List (List Nat))):Prop where
 ll:LL.length = n
 l2:ls.length = n
 at_:∀ r,r < n->ls.getD r [] = if r ∈ gs then [] else LL.getD r []
 lt:∀ ds ∈ LL,∀ d ∈ ds,d.length <= 8/\∀ y ∈ d,y < n
theorem ad1 {n:Nat} {H:Hp} {dss:List (List Addr)} {rms:List (Str × List Dr)} {LL:List (List (List Nat))} {gs:List Nat} (ok:GD rms) (hi:wu K n H dss rms) (dn:dss.length = n) (lo:fD (fD (oK n H)) dss LL):Wy n gs LL (d8 rms (bZ rms.length gs)):=by
 have rn:rms.length = n:=by rw [hi.len,dn]
 have ll:LL.length = n:=by rw [<- lo.len,dn]
 have ml:(bZ rms.length gs).length = n:=by rw [ig,rn]
 refine ⟨ll,by unfold d8; rw [List.length_zipWith]; omega,fun r hr=>?_,fun ds hd d hdd=>?_⟩
 .have er:rms[r]? = some (rms[r]'(by omega)):=aj _
  have ed:dss[r]? = some (dss[r]'(by omega)):=aj _
  have el:LL[r]? = some (LL[r]'(by omega)):=aj _
  have em:(bZ rms.length gs)[r]? = some (decide (r ∈ gs)):=by unfold bZ; rw [aq,List.getElem?_range (by omega)]; rfl
  have e1:(d8 rms (bZ rms.length gs)).getD r [] = Gk (rms.map (·.1)) (rms[r]'(by omega)) (decide (r ∈ gs)):=by
   unfold d8
   rw [au,List.getElem?_zipWith,er,em]; rfl
  have e2:LL.getD r [] = LL[r]'(by omega):=by rw [au,el]; rfl
  have ri:=hi.at_ r _ _ ed er
  have lr:=lo.at_ r _ _ ed el
  rw [e1,e2]
  generalize rms[r]'(by omega) = g at *
  generalize dss[r]'(by omega) = as at *
  generalize LL[r]'(by omega) = L at *
  unfold Gk
  by_cases z:r ∈ gs
  .rw [if_pos z,if_pos (decide_eq_true z)]
  .rw [if_neg z,if_neg (by simpa using z)]
   have l1:=ri.len
   have l2:=lr.len
   refine List.ext_getElem? fun k=>?_
   rw [aq]
   by_cases hk:k < as.length
   .have eg:g.2[k]? = some (g.2[k]'(by omega)):=aj _
    have ea:as[k]? = some as[k]:=aj hk
    have eL:L[k]? = some (L[k]'(by omega)):=aj _
    rw [eg,eL,Option.map_some,Y7 ok.nd (ri.at_ k _ _ ea eg) (lr.at_ k _ _ ea eL)]
   .rw [aM (by omega),aM (by omega)]; rfl
 .obtain ⟨k,hk⟩:=aW hd
  have lk:k < dss.length:=by rw [lo.len]; exact (ao.mp hk).1
  have h:=lo.at_ k _ _ (aj lk) hk
  obtain ⟨j,hj⟩:=aW hdd
  have lj:j < dss[k].length:=by rw [h.len]; exact (ao.mp hj).1
  exact (h.at_ j _ _ (aj lj) hj).bd
theorem zu {n r:Nat} {gs:List Nat} : (bZ n gs).getD r false = true ↔ r < n/\r ∈ gs:=by
 unfold bZ
 rw [au,aq]
 by_cases h:r < n
 .rw [List.getElem?_range h]
  simp [h]
 .rw [aM (by rw [List.length_range]; omega)]
  simp [h]
theorem in_nums {k:Nat} {gs:List Nat} : inV (.int (k:Nat)) (gs.map nV) = decide (k ∈ gs):=by
 induction gs with
 | nil=>rfl
 | cons g gs ih =>
  have e:inV (.int (k:Nat)) ((g :: gs).map nV) = (((g:Int) == (k:Int)) || inV (.int (k:Nat)) (gs.map nV)):=rfl
  rw [e,ih]
  by_cases z:k = g
  .subst z; simp
  .have z1:¬ (g:Int) = (k:Int):=by omega
   have z2:((g:Int) == (k:Int)) = false:=by simp [z1]
   rw [z2]
   simp [z]
theorem T_ (gs:List Nat):(gs.map nV).all oY = true:=by
 rw [List.all_map]
 exact List.all_eq_true.mpr fun _ _=>rfl
noncomputable def nsJ {α:Type} (R:Hp->V->α->Prop) (D1:Addr) (tgt:List α) (H:Hp) (k:Nat) (ys:List V) (H':Hp):Prop:=Same H H'/\H' D1 = some (.lst ys)/\fD (R (del [D1] H')) ys (tgt.take k)
theorem Ga {α:Type} {K:Frag} {i:Nat} {te:TE} {σ:L2.St} {H:Hp} {Q:VK} {a:Addr} {xs:List V} (R:Hp->V->α->Prop) (tgt:List α) (mono:∀ {H H':Hp} {v:V} {t:α},Same H H'->R H v t->R H' v t) (hσ:σ[i]? = some (some (.ref a))) (ha:H a = some (.lst xs)) (l:xs.length = tgt.length) (sz:tgt.length <= sizeLine)
  (hb:∀ (k:Nat) x t Hc D1 ys (R':VK),xs[k]? = some x->tgt[k]? = some t->Same H Hc->Hc D1 = some (.lst ys)->(∀ y H2,Same Hc H2->R (del [D1] H2) y t->R' y H2)->te (some x :: σ) Hc R')
  (q:∀ D Hc ys,Same H Hc->H D = none->Hc D = some (.lst ys)->fD (R (del [D] Hc)) ys tgt->Q (.ref D) Hc):dO (pK K (tM (jw i))) 1 (tMG (dw 0)) (tMT vG) (tM te) σ H Q:=by
 refine cC ⟨_,hσ,a,xs,rfl,ha,by omega,fun D1 hD=>⟨nsJ R D1 tgt H,⟨Same.upd hD,bC,.nil⟩,fun k x ys Hc hk ⟨S1,h1,a1⟩ hy hc=>?_,fun ys Hc ⟨S1,h1,a1⟩ hy=>?_⟩⟩
 .have lk:k < tgt.length:=by rw [<- l]; exact (ao.mp hk).1
  refine hb k x _ Hc D1 ys _ hk (aj lk) S1 h1 fun y H2 S2 r=>⟨S2 _ _ h1,S2 _ _ hc,fun b o z=>(bF (bD z hD)).trans (S2 _ _ (S1 _ _ z)),bC,?_⟩
  rw [nM (by simp),cg (aj lk)]
  exact (a1.imp fun _ _ z=>mono (kO fun b o _ e=>S2 _ _ e) z).snoc r
 .rw [l,aP] at a1
  exact q D1 Hc ys S1 hD h1 a1
noncomputable def Gives (t:TE) (σ:L2.St) (H:Hp) (v:V):Prop:=∀ H' (R:VK),Same H H'->R v H'->t σ H' R
theorem Vv {ys:List V} {n:Nat} (h:n <= ys.length):mQ ys (some (n:Int)) none = ys.drop n:=by
 unfold mQ
 rw [HT.pJ,Nat.min_eq_left h]
 exact aK (by rw [List.length_drop]; exact aF _)
theorem af7 {tg tk tv tm:TE} {σ:L2.St} {H:Hp} {Q:VK} {lg:Addr} {gs:List Nat} {k:Nat} {v m:V} (hg:Gives tg σ H (.ref lg)) (hk:Gives tk σ H (.int (k:Nat))) (hv:Gives tv σ H v) (hm:Gives tm σ H m) (h:H lg = some (.lst (gs.map nV))) (kl:k <= gs.length) (g8:gs.length <= 90) (q:∀ p H',Same H H'->H p = none->H' p = some (.lst ((gs.take k).map nV ++ v :: ((gs.drop k).map nV ++ [m])))->Q (.ref p) H'):tOp KR (tOp KR (tOp KR (tSl (Tw K) tg vd (GC tk)) (Ks (fu tv kh))) (tSl (Tw K) tg (GC tk) vd)) (Ks (fu tm kh)) σ H Q:=by
 have z9:100 < sizeLine:=by decide
 refine hg H _ (fun _ _ z=>z) (hk H _ (fun _ _ z=>z) ⟨_,rfl,lg,_,rfl,.of h,fun p1 f1=>?_⟩)
 rw [Bm (by rw [ak]; exact kl),<- List.map_take]
 have S1:Same H (upd H p1 (.lst ((gs.take k).map nV))):=Same.upd f1
 have e1:upd H p1 (.lst ((gs.take k).map nV)) p1 = _:=bC
 generalize upd H p1 (.lst ((gs.take k).map nV)) = H1 at S1 e1 ⊢
 refine hv H1 _ S1 ⟨GF,fun p2 f2=>⟨p1,p2,_,_,rfl,rfl,Same.upd f2 _ _ e1,bC,by rw [ak,bf]; simp; omega,fun p3 f3=>?_⟩⟩
 have S3:Same H1 (upd (upd H1 p2 (.lst [v])) p3 (.lst ((gs.take k).map nV ++ [v]))):=(Same.upd f2).trans (Same.upd f3)
 have e3:upd (upd H1 p2 (.lst [v])) p3 (.lst ((gs.take k).map nV ++ [v])) p3 = _:=bC
 generalize upd (upd H1 p2 (.lst [v])) p3 (.lst ((gs.take k).map nV ++ [v])) = H3 at S3 e3 ⊢
 have S13:=S1.trans S3
 refine hg H3 _ S13 (hk H3 _ S13 ⟨_,rfl,lg,_,rfl,.of (S13 _ _ h),fun p4 f4=>?_⟩)
 rw [Vv (by rw [ak]; exact kl),<- List.map_drop]
 refine ⟨p3,p4,_,_,rfl,rfl,Same.upd f4 _ _ e3,bC,by simp; omega,fun p5 f5=>?_⟩
 have S5:Same H3 (upd (upd H3 p4 (.lst ((gs.drop k).map nV))) p5 (.lst (((gs.take k).map nV ++ [v]) ++ (gs.drop k).map nV))):=(Same.upd f4).trans (Same.upd f5)
 have e5:upd (upd H3 p4 (.lst ((gs.drop k).map nV))) p5 (.lst (((gs.take k).map nV ++ [v]) ++ (gs.drop k).map nV)) p5 = _:=bC
 generalize upd (upd H3 p4 (.lst ((gs.drop k).map nV))) p5 (.lst (((gs.take k).map nV ++ [v]) ++ (gs.drop k).map nV)) = H5 at S5 e5 ⊢
 have S15:=S13.trans S5
 refine hm H5 _ S15 ⟨GF,fun p6 f6=>⟨p5,p6,_,_,rfl,rfl,Same.upd f6 _ _ e5,bC,by simp; omega,fun p7 f7=>?_⟩⟩
 have S7:Same H5 (upd H5 p6 (.lst [m])):=Same.upd f6
 refine q p7 _ (S15.trans (S7.trans (Same.upd f7))) (Same.free (S15.trans S7) f7) ?_
 rw [bC,List.append_assoc,List.append_assoc]; rfl
noncomputable def nmD (gs:List Nat):PyData:=.list (gs.map fun g:Nat=>PyData.int g)
theorem qN {H:Hp} {l:Addr} {gs:List Nat} (h:H l = some (.lst (gs.map nV))):Shows H (.ref l) (nmD gs):=by
 refine .lst h ?_
 clear h
 induction gs with
 | nil=>exact .nil
 | cons g gs ih=>exact .cons (.int g) ih
theorem Kq (gs:List Nat):PyData.canLayAll0 (gs.map fun g:Nat=>PyData.int g) = true/\PyData.depthAll (gs.map fun g:Nat=>PyData.int g) <= 1:=by
 induction gs with
 | nil=>exact ⟨rfl,bh _⟩
 | cons g gs ih=>exact ⟨ih.1,Nat.max_le.mpr ⟨by show 0 <= 1; decide,ih.2⟩⟩
theorem BL (a b:List Nat):SeqAt.shaped (.list [nmD a,nmD b]) = true:=by
 unfold SeqAt.shaped
 rw [Bool.and_eq_true]
 have la:=Kq a
 have lb:=Kq b
 refine ⟨?_,decide_eq_true ?_⟩
 .show (PyData.canLayAll0 (a.map fun g:Nat=>PyData.int g) && (PyData.canLayAll0 (b.map fun g:Nat=>PyData.int g) && true)) = true
  rw [la.1,lb.1]; rfl
 .show max (PyData.depthAll (a.map fun g:Nat=>PyData.int g) + 1) (max (PyData.depthAll (b.map fun g:Nat=>PyData.int g) + 1) 0) + 1 <= 64
  have:=Nat.max_le.mpr ⟨(show PyData.depthAll (a.map fun g:Nat=>PyData.int g) + 1 <= 2 by omega),Nat.max_le.mpr ⟨(show PyData.depthAll (b.map fun g:Nat=>PyData.int g) + 1 <= 2 by omega),(show 0 <= 2 by decide)⟩⟩
  omega
theorem K7 (gs:List Nat):PyData.eqvAll (gs.map fun g:Nat=>PyData.int g) (gs.map fun g:Nat=>PyData.int g) = true:=by
 induction gs with
 | nil=>rfl
 | cons g gs ih =>
  show (((g:Int) == (g:Int)) && PyData.eqvAll (gs.map fun g:Nat=>PyData.int g) (gs.map fun g:Nat=>PyData.int g)) = true
  rw [ih,beq_self_eq_true]; rfl
theorem TQ (a b:List Nat):PyData.eqv (.list [nmD a,nmD b]) (.list [nmD a,nmD b]) = true:=by
 show (PyData.eqvAll (a.map fun g:Nat=>PyData.int g) (a.map fun g:Nat=>PyData.int g) && (PyData.eqvAll (b.map fun g:Nat=>PyData.int g) (b.map fun g:Nat=>PyData.int g) && true)) = true
 rw [K7,K7]; rfl
noncomputable def jD {α:Type} (g:α->α):Nat->α->α
 | 0,a=>a
 | n + 1,a=>g (jD g n a)
noncomputable def lN (s:List Bool->Nat->List Bool) (n:Nat) (f:List Bool):List Bool:=(List.range n).foldl s f
theorem Ls {s:List Bool->Nat->List Bool} (h:∀ f k,(s f k).length = f.length):∀ (ks:List Nat) (f:List Bool),(ks.foldl s f).length = f.length
 | [],f=>rfl
 | k :: ks,f=>by rw [List.foldl_cons,Ls h ks,h]
theorem rG {s:List Bool->Nat->List Bool} (h:∀ f k,(s f k).length = f.length) {n:Nat} {f:List Bool} : (lN s n f).length = f.length:=Ls h _ f
theorem Ds {s:List Bool->Nat->List Bool} (h:∀ f k,(s f k).length = f.length) {n:Nat} {f:List Bool} : ∀ m,(jD (lN s n) m f).length = f.length
 | 0=>rfl
 | m + 1=>by
  show (lN s n _).length = _
  rw [rG h,Ds h m]
theorem ql {s:List Bool->Nat->List Bool} {k:Nat} {f:List Bool} : lN s (k + 1) f = s (lN s k f) k:=by unfold lN; rw [List.range_succ,List.foldl_append]; rfl
theorem Nb {α:Type} {g:α->α} {I:α->Prop} {μ:α->Nat} {n:Nat} (gi:∀ a,I a->I (g a)) (h:∀ a,I a->g a = a\/μ a < μ (g a)) (b:∀ a,I a->μ a <= n) {a:α} (ia:I a):g (jD g n a) = jD g n a:=by
 have ii:∀ m,I (jD g m a):=fun m=>by
  induction m with
  | zero=>exact ia
  | succ m ih=>exact gi _ ih
 have st:∀ m,g (jD g m a) = jD g m a\/m <= μ (jD g m a):=fun m=>by
  induction m with
  | zero=>exact .inr (bh _)
  | succ m ih =>
   rcases ih with e | e
   .left
    show g (g (jD g m a)) = g (jD g m a)
    rw [e,e]
   .rcases h _ (ii m) with e2 | e2
    .left
     show g (g (jD g m a)) = g (jD g m a)
     rw [e2,e2]
    .right
     show m + 1 <= μ (g (jD g m a))
     omega
 rcases st n with e | e
 .exact e
 .rcases h _ (ii n) with e2 | e2
  .exact e2
  .have:=b _ (gi _ (ii n))
   omega
theorem Py {a b:List Bool} (l:a.length = b.length) (h:gQ a b) (g:gQ b a):a = b:=by
 refine Classical.byContradiction fun z=>?_
 have:=oZ l h z
 have:=oZ l.symm g (Ne.symm z)
 omega
theorem Mi {f:List Bool} : rR f <= f.length:=List.countP_le_length
theorem Rp {s:List Bool->Nat->List Bool} {le:List Bool->List Bool->Prop} (rf:∀ f,le f f) (tr:∀ f g h,le f g->le g h->le f h) (an:∀ f g,f.length = g.length->le f g->le g f->f = g) (sl:∀ f k,(s f k).length = f.length) (up:∀ f k,le f (s f k)) {n:Nat} {f:List Bool} (e:lN s n f = f):∀ k,k < n->s f k = f:=by
 have mo:∀ j k,le (lN s k f) (lN s (k + j) f):=fun j k=>by
  induction j with
  | zero=>exact rf _
  | succ j ih =>
   rw [show k + (j + 1) = (k + j) + 1 from rfl,ql]
   exact tr _ _ _ ih (up _ _)
 have at_:∀ k,k <= n->lN s k f = f:=fun k hk=>by
  have h1:=mo k 0
  rw [Nat.zero_add] at h1
  have h2:=mo (n - k) k
  rw [show k + (n - k) = n by omega,e] at h2
  exact (an _ _ (rG sl).symm h1 h2).symm
 intro k hk
 have h1:=at_ k (by omega)
 have h2:=at_ (k + 1) (by omega)
 rw [ql,h1] at h2
 exact h2
theorem le_refl (f:List Bool):gQ f f:=fun _ h=>h
theorem le_trans (f g h:List Bool) (a:gQ f g) (b:gQ g h):gQ f h:=fun r z=>b r (a r z)
theorem Wr {s:List Bool->Nat->List Bool} (up:∀ f k,gQ f (s f k)):∀ (n:Nat) (f:List Bool),gQ f (lN s n f)
 | 0,f=>le_refl f
 | n + 1,f=>by rw [ql]; exact le_trans _ _ _ (Wr up n f) (up _ _)
theorem KZ {s:List Bool->Nat->List Bool} (dn:∀ f k,gQ (s f k) f):∀ (n:Nat) (f:List Bool),gQ (lN s n f) f
 | 0,f=>le_refl f
 | n + 1,f=>by rw [ql]; exact le_trans _ _ _ (dn _ _) (KZ dn n f)
theorem Am {f:List Bool} {k r:Nat} {b:Bool} (hk:k < f.length):(f.set k b).getD r false = if r = k then b else f.getD r false:=by
 rw [au,List.getElem?_set]
 by_cases e:k = r
 .subst e
  rw [if_pos rfl,if_pos hk,if_pos rfl]; rfl
 .rw [if_neg e,if_neg (Ne.symm e),au]
theorem Qx {f:List Bool} {k:Nat} {b:Bool} (hk:¬ k < f.length):f.set k b = f:=List.set_eq_of_length_le (by omega)
theorem abE {f:List Bool} {r:Nat} (h:f.getD r false = true):r < f.length:=Nat.lt_of_not_le fun z=>by
 rw [au,aM z] at h
 cases h
theorem Ef {s:List Bool->Nat->List Bool} {I:List Bool->Prop} {n:Nat} (h:∀ f k,k < n->I f->I (s f k)) {f:List Bool} (i:I f):∀ m,I (jD (lN s n) m f):=by
 have rk:∀ (k:Nat) (f:List Bool),k <= n->I f->I (lN s k f):=fun k=>by
  induction k with
  | zero=>intro f _ i; exact i
  | succ k ih=>intro f hk i; rw [ql]; exact h _ _ (by omega) (ih f (by omega) i)
 intro m
 induction m with
 | zero=>exact i
 | succ m ih=>exact rk n _ (aF _) ih
noncomputable def uG (b:Bool) (c:List Bool->Nat->Bool) (f:List Bool) (k:Nat):List Bool:=if c f k then f.set k b else f
noncomputable def endL (b:Bool) (c:List Bool->Nat->Bool) (n:Nat) (f:List Bool):List Bool:=jD (lN (uG b c) n) n f
section
variable {b:Bool} {c:List Bool->Nat->Bool} {n:Nat} {f:List Bool}
theorem nG (f:List Bool) (k:Nat):(uG b c f k).length = f.length:=by
 unfold uG
 split
 .exact List.length_set
 .rfl
theorem Q8:(endL b c n f).length = f.length:=Ds nG _
theorem Ol (c:List Bool->Nat->Bool) (f:List Bool) (k:Nat):gQ f (uG true c f k):=by
 intro r h
 unfold uG
 split
 .by_cases hk:k < f.length
  .rw [Am hk]
   split
   .rfl
   .exact h
  .rw [Qx hk]; exact h
 .exact h
theorem K5 (c:List Bool->Nat->Bool) (f:List Bool) (k:Nat):gQ (uG false c f k) f:=by
 intro r h
 unfold uG at h
 split at h
 .by_cases hk:k < f.length
  .rw [Am hk] at h
   split at h
   .cases h
   .exact h
  .rw [Qx hk] at h; exact h
 .exact h
theorem YC (hf:f.length = n):∀ k,k < n->uG b c (endL b c n f) k = endL b c n f:=by
 cases b with
 | true =>
  refine Rp le_refl le_trans (fun f g l a b=>Py l a b) nG (Ol c) ?_
  refine Nb (I:=fun f=>f.length = n) (μ:=rR) (fun f h=>by rw [rG nG,h]) (fun f h=>?_) (fun f h=>by rw [<- h]; exact Mi) hf
  by_cases e:lN (uG true c) n f = f
  .exact .inl e
  .exact .inr (oZ (by rw [rG nG]) (Wr (Ol c) _ _) (Ne.symm e))
 | false =>
  refine Rp (le:=fun a b=>gQ b a) le_refl (fun f g h a b=>le_trans _ _ _ b a) (fun f g l a b=>Py l b a) nG (K5 c) ?_
  refine Nb (I:=fun f=>f.length = n) (μ:=fun f=>n - rR f) (fun f h=>by rw [rG nG,h]) (fun f h=>?_) (fun f h=>Nat.sub_le _ _) hf
  by_cases e:lN (uG false c) n f = f
  .exact .inl e
  .have:=oZ (by rw [rG nG]) (KZ (K5 c) n f) e
   have h2:rR f <= f.length:=Mi
   exact .inr (by omega)
theorem abC (hf:f.length = n) {k:Nat} (hk:k < n) (h:(endL b c n f).getD k false ≠ b):c (endL b c n f) k = false:=by
 have e:=YC (b:=b) (c:=c) hf k hk
 unfold uG at e
 cases z:c (endL b c n f) k with
 | false=>rfl
 | true =>
  rw [z,if_pos rfl] at e
  have g:=Am (f:=endL b c n f) (k:=k) (r:=k) (b:=b) (by rw [Q8,hf]; exact hk)
  rw [e,if_pos rfl] at g
  exact absurd g h
theorem WL {I:List Bool->Prop} (h:∀ f k,k < n->f.length = n->I f->I (uG b c f k)) (hf:f.length = n) (i:I f):I (endL b c n f) :=
 (Ef (s:=uG b c) (n:=n) (I:=fun f=>f.length = n/\I f) (fun f k hk i=>⟨by rw [nG]; exact i.1,h f k hk i.1 i.2⟩) ⟨hf,i⟩ n).2
theorem Gg {X:Nat->Prop} (hf:f.length = n) (h0:∀ r,f.getD r false = true->X r) (h1:∀ g k,(∀ r,g.getD r false = true->X r)->c g k = true->X k) {r:Nat} (x:(endL true c n f).getD r false = true):X r:=by
 refine WL (b:=true) (c:=c) (I:=fun g=>∀ r,g.getD r false = true->X r) (fun g k hk lg i r x=>?_) hf h0 r x
 unfold uG at x
 split at x
 .rename_i z
  rw [Am (by rw [lg]; exact hk)] at x
  split at x
  .rename_i e
   subst e
   exact h1 g r i z
  .exact i r x
 .exact i r x
theorem abV:gQ f (endL true c n f):=Ef (I:=fun g=>gQ f g) (fun g k _ i=>le_trans _ _ _ i (Ol c g k)) (le_refl _) _
end
theorem V8 {te:TE} {a b n:Nat} {tb:TS} {D:Ends} {H H1:Hp} {D1:Addr} {f0:List Bool} {s:List Bool->Nat->List Bool} (L:Option V->Option V->Option V->L2.St) (h:∀ u v w H' (R:VK),Same H H'->R (.int (n:Nat)) H'->te (L u v w) H' R) (n20:n <= 20) (ga:∀ u v w x,(L u v w).set a x = L x v w) (gb:∀ u v w x,(L u v w).set b x = L u x w) (sl:∀ f k,(s f k).length = f.length) (fl:f0.length = n)
  (body:∀ (t k:Nat) w H' f,k < n->f.length = n->Same H H'->H' D1 = some (.lst (f.map V.bl))->∀ D2:Ends,(∀ w' H2,Same H H2->H2 D1 = some (.lst ((s f k).map V.bl))->D2.nx (L (some (.int (t:Nat))) (some (.int (k:Nat))) w') H2)->tb D2 (L (some (.int (t:Nat))) (some (.int (k:Nat))) w) H')
  (u0 v0 w0:Option V) (S1:Same H H1) (h1:H1 D1 = some (.lst (f0.map V.bl))) (fin:∀ u v w H',Same H H'->H' D1 = some (.lst ((jD (lN s n) n f0).map V.bl))->D.nx (L u v w) H'):Em (z6 (tMA (fu te kh))) (dw a) (Em (z6 (tMA (fu te kh))) (dw b) tb) D (L u0 v0 w0) H1:=by
 refine qt (h u0 v0 w0 H1 _ S1 ⟨n,rfl,by omega,fun t σ H'=>∃ u v w,σ = L u v w/\Same H H'/\H' D1 = some (.lst ((jD (lN s n) t f0).map V.bl)),⟨u0,v0,w0,rfl,S1,h1⟩,?_,?_⟩)
 .rintro t σ' H' ht ⟨u,v,w,rfl,S2,h2⟩
  have il:(jD (lN s n) t f0).length = n:=by rw [Ds sl,fl]
  have nx:jD (lN s n) (t + 1) f0 = lN s n (jD (lN s n) t f0):=rfl
  generalize jD (lN s n) t f0 = ft at il nx h2
  show Em _ _ _ _ ((L u v w).set a _) _
  rw [ga]
  refine qt (h _ v w H' _ S2 ⟨n,rfl,by omega,fun k σ H3=>∃ v w,σ = L (some (.int (t:Nat))) v w/\Same H H3/\H3 D1 = some (.lst ((lN s k ft).map V.bl)),⟨v,w,rfl,S2,h2⟩,?_,?_⟩)
  .rintro k σ3 H3 hk ⟨v3,w3,rfl,S3,h3⟩
   have rl:(lN s k ft).length = n:=by rw [rG sl,il]
   have rx:lN s (k + 1) ft = s (lN s k ft) k:=ql
   show tb _ ((L _ v3 w3).set b _) _
   rw [gb]
   exact body t k w3 H3 _ hk rl S3 h3 _ fun w' H2 S h=>⟨_,w',rfl,S,by rw [rx]; exact h⟩
  .rintro σ3 H3 ⟨v3,w3,rfl,S3,h3⟩
   exact ⟨_,v3,w3,rfl,S3,by rw [nx]; exact h3⟩
 .rintro σ' H' ⟨u,v,w,rfl,S2,h2⟩
  exact fin u v w H' S2 h2
theorem K4 {i m:Nat} {σ:L2.St} {H:Hp} {Q:VK} {a D1:Addr} {x:List Nat} {f:List Bool} (hσ:σ[i]? = some (some (.ref a))) (hm:σ[m]? = some (some (.ref D1))) (ha:H a = some (.lst (x.map nV))) (h1:H D1 = some (.lst (f.map V.bl))) (bx:x.length <= 100/\∀ y ∈ x,y < f.length) (q:∀ D Hc,Same H Hc->H D = none->Hc D = some (.lst ((x.map fun r=>f.getD r false).map V.bl))->Q (.ref D) Hc):dO (pK K (tM (jw i))) 1 (tMG (dw 0)) (tMT vG) (tM (tOp rQ (jw (m + 1)) (jw 0))) σ H Q:=by
 have z9:100 < sizeLine:=by decide
 refine Bo ((x.map fun r=>f.getD r false).map V.bl) hσ ha (by rw [ak,ak,ak]) (by rw [ak,ak]; omega) ?_ q
 intro j v y He R hi hv S3 r
 rw [aq] at hi hv
 rw [aq] at hv
 cases e:x[j]? with
 | none=>rw [e] at hi; cases hi
 | some c =>
  rw [e] at hi hv
  cases hi
  cases hv
  exact ⟨_,hm,_,rfl,_,_,_,_,rfl,rfl,S3 _ _ h1,Cu (bx.2 c (aB e)),r _ fun _ _ z=>z⟩
theorem abQ {i m:Nat} {σ:L2.St} {H:Hp} {Q:VK} {a D1:Addr} {x:List Nat} {f:List Bool} (hσ:σ[i]? = some (some (.ref a))) (hm:σ[m]? = some (some (.ref D1))) (ha:H a = some (.lst (x.map nV))) (h1:H D1 = some (.lst (f.map V.bl))) (bx:x.length <= 100/\∀ y ∈ x,y < f.length) (q:∀ Hc,Same H Hc->Q (.bl (qp f x)) Hc):tCB GJ (fu (dO (pK K (tM (jw i))) 1 (tMG (dw 0)) (tMT vG) (tM (tOp rQ (jw (m + 1)) (jw 0)))) kh) σ H Q :=
 Hl (K4 hσ hm ha h1 bx fun D Hc S _ h=>⟨D,_,rfl,h,by rw [List.all_map]; exact q Hc S⟩)
theorem aaY {i m:Nat} {σ:L2.St} {H:Hp} {Q:VK} {a D1:Addr} {x:List Nat} {f:List Bool} (hσ:σ[i]? = some (some (.ref a))) (hm:σ[m]? = some (some (.ref D1))) (ha:H a = some (.lst (x.map nV))) (h1:H D1 = some (.lst (f.map V.bl))) (bx:x.length <= 100/\∀ y ∈ x,y < f.length) (q:∀ Hc,Same H Hc->Q (.bl (x.any fun r=>f.getD r false)) Hc):tCB W2 (fu (dO (pK K (tM (jw i))) 1 (tMG (dw 0)) (tMT vG) (tM (tOp rQ (jw (m + 1)) (jw 0)))) kh) σ H Q :=
 Hl (K4 hσ hm ha h1 bx fun D Hc S _ h=>⟨D,_,rfl,h,by rw [List.any_map]; exact q Hc S⟩)
theorem Qi {t u:TT} {σ:L2.St} {H:Hp} {Q:Bool->Hp->Prop} (h:t σ H fun c H1=>if c = true then u σ H1 Q else Q false H1):RG t u σ H Q:=h
theorem abe {t u:TT} {σ:L2.St} {H:Hp} {Q:Bool->Hp->Prop} (h:t σ H fun c H1=>if c = true then Q true H1 else u σ H1 Q):tOr t u σ H Q:=h
theorem wz {te:TE} {σ:L2.St} {H:Hp} {Q:Bool->Hp->Prop} (h:te σ H fun y H2=>∃ k,Ow y = some k/\Q k H2):R9 te σ H Q:=h
theorem Qm {t:TT} {σ:L2.St} {H:Hp} {Q:Bool->Hp->Prop} (h:t σ H fun c H1=>Q (!c) H1):Yc t σ H Q:=h
theorem abO {te:TE} {g:TG} {D:Ends} {σ:L2.St} {H:Hp} (h:te σ H fun x H1=>g x σ H1 D.nx):z7 te g D σ H:=h
noncomputable def onB (ds:List (List Nat)) (lot kn:List Bool):Bool:=ds.any fun x=>qp lot x && x.any fun r=>kn.getD r false
noncomputable def Xp:Sp:=fun vs H Q _=>∃ (p l k:Addr) (ds:List (List Nat)) (lot kn:List Bool),vs = [.ref p,.ref l,.ref k]/\ILL H (.ref p) ds/\H l = some (.lst (lot.map V.bl))/\H k = some (.lst (kn.map V.bl))/\kn.length = lot.length/\(∀ x ∈ ds,x.length <= 100/\∀ y ∈ x,y < lot.length)/\∀ H',Same H H'->Q (.bl (onB ds lot kn)) H'
theorem aeR (F:Fun K M_ M_ Xm f fd) (T:Txt K mg D):cu P w K mg base CX0 1 f fd La Xp:=by
 refine F.ok aaW (fun vs H Q E h=>?_) (fun cdv A outer s H vs Q E hr h=>?_)
 .obtain ⟨p,l,k,ds,lot,kn,rfl,_⟩:=h
  rfl
 .obtain ⟨p,l,k,ds,lot,kn,rfl,⟨p',zs,ep,hp,al⟩,hl,hk,kl,bd,q⟩:=h
  cases ep
  refine ⟨_,(bI (gC PassesOwn.never rfl (cA ((pv 0)).mono) (bW (i:=3) aaW.nd rfl (Or.inl rfl))
    (bL (dF (PW.pt (pw_and (cQ (bU (vg rfl) (by rfl) T.Q5 boot_all (bB (fW (bK Xm) W5 W5 ["_law_room"] (cA ((pv 3)).mono) (cU (i:=0)) cF (bQ bN (pv 2) (pv 0) (fun _ _=>rfl))) bG)) (fun _=>rfl)) (pw_and1 (cQ (bU (vB rfl) (by rfl) T.Qh boot_any (bB (fW (bK Xm) W5 W5 ["_law_room"] (cA ((pv 3)).mono) (cU (i:=0)) cF (bQ bN (pv 3) (pv 0) (fun _ _=>rfl))) bG)) (fun _=>rfl)))))
     (bL (bY iH))
     cH)))
   (bL (bY iH))),?_⟩
  refine cB fun R1 hR1=>?_
  refine m9 (dG ⟨_,rfl,p,zs,rfl,hp,fun i σ H'=>∃ u,σ = [some (.ref p),some (.ref l),some (.ref k),u]/\Same H H'/\onB (ds.take i) lot kn = false,⟨none,rfl,fun _ _ z=>z,rfl⟩,?_,?_⟩)
  .rintro i v σ' H' hi ⟨u,rfl,S2,e⟩ hz
   obtain ⟨x,ex,lx,rfl,hlx⟩:=al.get hi
   have bx:=bd x (aB ex)
   have en:onB (ds.take (i + 1)) lot kn = (onB (ds.take i) lot kn || (qp lot x && x.any fun r=>kn.getD r false)):=by
    unfold onB
    rw [cg ex,List.any_append,List.any_cons,List.any_nil,Bool.or_false]
   refine J3 (Qi (wz (abQ (i:=3) (m:=1) rfl rfl (S2 _ _ hlx) (S2 _ _ hl) bx fun Hc Sc=>⟨_,rfl,?_⟩)))
   cases es:qp lot x with
   | false=>exact ⟨Sc _ _ hz,_,rfl,S2.trans Sc,by rw [en,e,es]; rfl⟩
   | true =>
    rw [if_pos rfl]
    have SS:=S2.trans Sc
    refine wz (aaY (i:=3) (m:=2) rfl rfl (SS _ _ hlx) (SS _ _ hk) (by rw [kl]; exact bx) fun Hd Sd=>⟨_,rfl,?_⟩)
    cases ea:x.any (fun r=>kn.getD r false) with
    | false=>exact ⟨Sd _ _ (Sc _ _ hz),_,rfl,SS.trans Sd,by rw [en,e,es,ea]; rfl⟩
    | true =>
     have:onB ds lot kn = true:=List.any_eq_true.mpr ⟨x,aB ex,by rw [es,ea]; rfl⟩
     have z:=q Hd (SS.trans Sd)
     rw [this] at z
     exact z
  .rintro σ' H' ⟨u,rfl,S2,e⟩ _
   rw [al.len,aP] at e
   subst hR1
   have:=q H' S2
   rw [e] at this
   exact this
theorem K9 {i:Nat} {te:TE} {σ:L2.St} {H:Hp} {Q:VK} {a:Addr} {xs:List V} (vs:List V) (hσ:σ[i]? = some (some (.ref a))) (ha:H a = some (.lst xs)) (l:xs.length = vs.length) (sz:vs.length <= 64) (hb:∀ (k:Nat) y Hc (R:VK),vs[k]? = some y->Same H Hc->(∀ H2,Same Hc H2->R y H2)->te (some (.int (k:Nat)) :: σ) Hc R)
  (q:∀ D Hc,Same H Hc->H D = none->Hc D = some (.lst vs)->Q (.ref D) Hc):dO (z6 (tMA (fu (tCB Dv (fu (jw i) kh)) kh))) 1 (tMG (dw 0)) (tMT vG) (tM te) σ H Q:=by
 refine mU ⟨_,hσ,a,xs,rfl,ha,vs.length,by rw [l],sz,fun D hD=>⟨vJ D H vs,⟨Same.upd hD,bC,rfl⟩,fun k ys Hc hk j hy=>?_,fun ys Hc ⟨S1,h1,ey⟩ hy=>?_⟩⟩
 .exact hb k _ Hc _ (aj hk) j.1 fun H2 S=>⟨S _ _ j.2.1,j.next hD S (aj hk)⟩
 .rw [aP] at ey
  subst ey
  exact q D Hc S1 hD h1
noncomputable def gl0 (n:Nat) (gs:List Nat) (lot:List Bool):List Bool:=(List.range n).map fun k=>decide (k ∈ gs) && lot.getD k false
theorem pN {n:Nat} {gs:List Nat} {lot:List Bool} : (gl0 n gs lot).length = n:=by unfold gl0; rw [ak,List.length_range]
noncomputable def wI (LL:List (List (List Nat))) (lot kn:List Bool) (k:Nat):Bool:=lot.getD k false && (!kn.getD k false && onB (LL.getD k []) lot kn)
noncomputable def lF (LL:List (List (List Nat))) (gs:List Nat) (lot:List Bool):List Bool:=endL true (wI LL lot) lot.length (gl0 lot.length gs lot)
noncomputable abbrev LBd (LL:List (List (List Nat))):Prop:=∀ ds ∈ LL,∀ x ∈ ds,x.length <= 100/\∀ y ∈ x,y < LL.length
noncomputable def Hv:Sp:=fun vs H Q _=>∃ (a l g:Addr) (lot:List Bool) (LL:List (List (List Nat))) (gs:List Nat),vs = [.ref a,.ref l,.ref g]/\H a = some (.lst (lot.map V.bl))/\Eu H (.ref l) LL/\H g = some (.lst (gs.map nV))/\lot.length = LL.length/\LL.length <= 20/\LBd LL/\∀ H',Same H H'->Q (.bl (decide (lF LL gs lot = lot))) H'
theorem aac (F:Fun K xT xT GZ f fd) (T:Txt K mg D) (abp:OkF P w K mg base 1 M_ La Xp):cu P w K mg base CX0 2 f fd yF Hv:=by
 refine F.ok Bk (fun vs H Q E h=>?_) (fun cdv A outer s H vs Q E hr h=>?_)
 .obtain ⟨a,l,g,lot,LL,gs,rfl,_⟩:=h
  rfl
 .obtain ⟨a,l,g,lot,LL,gs,rfl,ha,⟨l',zs,el,hl,al⟩,hg,ll,n20,bd,q⟩:=h
  cases el
  have zl:=al.len
  refine ⟨_,(bI (vN (bK GZ) V5 ["_law_lot", "_law_leads_here", "_law_goals_here", "_law_known", "_law_turn", "?_law_k"] ["_law_k"] (gH (by rfl) T.kY (bB (bU cT (by rfl) T.iC PySem.boot_len (bB (pv 0) bG)) bG).mono) (cU (i:=0)) cF (yW (jf (show OpR _ _ (rIn K false) from R8) (pv 0) (pv 3) rfl) (BW (bQ bN (pv 1) (pv 0) (fun _ _=>rfl)))) (bW (i:=3) Bk.nd rfl (Or.inl rfl)))
   (bI (gC PassesOwn.never rfl (gH (by rfl) T.kY (bB (bU cT (by rfl) T.iC PySem.boot_len (bB (pv 0) bG)) bG).mono) (bW (i:=4) Bk.nd rfl (Or.inl rfl))
    (bL (gC PassesOwn.never rfl (gH (by rfl) T.kY (bB (bU cT (by rfl) T.iC PySem.boot_len (bB (pv 0) bG)) bG).mono) (bW (i:=5) Bk.nd rfl (Or.inl rfl))
     (bL (dF (PW.pt (pw_and (cQ (bQ bN (pv 0) (pv 5) (fun _ _=>rfl)) (fun _=>rfl)) (pw_and (d9 (cQ (bQ bN (pv 3) (pv 5) (fun _ _=>rfl)) (fun _=>rfl))) (pw_and1 (cQ (bM abp (hr.mono (by decide)) (by rfl) (bB (bQ bN (pv 1) (pv 5) (fun _ _=>rfl)) (bB (pv 0) (bB (pv 3) bG)))) (fun _=>rfl))))))
      (bL (tL iH (Dg (pv 3) (pv 5) set_list)))
      cH)))))
   (bL (bY (jf (Px hr.units) (pv 3) (pv 0) (cL _)))))),?_⟩
  refine cB fun R1 hR1=>?_
  refine fZ (K9 ((gl0 lot.length gs lot).map V.bl) rfl ha (by rw [ak,ak,pN]) (by rw [ak,pN]; omega) ?_ ?_)
  .intro k y Hc R hk S1 r
   have lk:k < lot.length:=by
    have:=(ao.mp hk).1
    rw [ak,pN] at this
    exact this
   unfold gl0 at hk
   rw [List.map_map,aq,List.getElem?_range lk] at hk
   cases hk
   refine ⟨_,rfl,_,rfl,g,gs.map nV,rfl,.inl (.of (S1 _ _ hg)),rfl,T_ gs,decide (k ∈ gs),congrArg V.bl in_nums,?_⟩
   have r:R (V.bl (decide (k ∈ gs) && lot.getD k false)) Hc:=r Hc fun _ _ z=>z
   cases eg:decide (k ∈ gs) with
   | false=>rw [eg] at r; exact r
   | true =>
    rw [eg,Bool.true_and] at r
    exact ⟨_,rfl,_,rfl,a,_,(k:Nat),_,rfl,rfl,S1 _ _ ha,Cu lk,r⟩
  intro D1 H1 S1 g1 h1
  dsimp only [dw,L2.start]
  subst hR1
  refine m9 (V8 (te:=tCB Dv (fu (jw 0) kh)) (H:=H) (n:=lot.length) (D1:=D1) (f0:=gl0 lot.length gs lot) (s:=uG true (wI LL lot)) (fun u v _=>[some (.ref a),some (.ref l),some (.ref g),some (.ref D1),u,v]) (fun u v w H' R S r=>⟨_,rfl,a,_,rfl,S _ _ ha,by rw [ak]; exact r⟩) (by omega) (fun _ _ _ _=>rfl) (fun _ _ _ _=>rfl) nG pN ?_ none none none S1 h1 fun u v w H' S h=>?_)
  .intro t k w H' f hk fl S h2 D2 fin
   have ez:zs[k]? = some (zs[k]'(by omega)):=aj _
   obtain ⟨ds,ek,il⟩:=al.get ez
   have eds:LL.getD k [] = ds:=by rw [au,ek]; rfl
   have bx:=bd ds (aB ek)
   have ec:uG true (wI LL lot) f k = if (lot.getD k false && (!f.getD k false && onB ds lot f)) = true then f.set k true else f:=by unfold uG wI; rw [eds]
   rw [ec] at fin
   refine J3 ⟨_,rfl,_,rfl,a,_,(k:Nat),_,rfl,rfl,S _ _ ha,Cu hk,_,rfl,?_⟩
   cases el:lot.getD k false with
   | false =>
    rw [el] at fin
    exact fin none H' S h2
   | true =>
    rw [el] at fin
    rw [if_pos rfl]
    refine ⟨_,rfl,_,rfl,D1,_,(k:Nat),_,rfl,rfl,h2,Cu (by omega),_,rfl,?_⟩
    cases ef:f.getD k false with
    | true =>
     rw [ef] at fin
     exact fin none H' S h2
    | false =>
     rw [ef] at fin
     rw [if_pos (show (!false) = true from rfl)]
     have il2:=il.same S
     obtain ⟨pd,us,ev,hp,aa⟩:=il
     refine wz ⟨_,rfl,_,rfl,l,zs,(k:Nat),zs[k]'(by omega),rfl,rfl,S _ _ hl,bV (j:=k) ez,_,rfl,_,rfl,pd,a,D1,ds,lot,f,by rw [ev],by rw [<- ev]; exact il2,S _ _ ha,h2,fl,fun x hx=>by rw [ll]; exact bx x hx,fun H3 S3=>⟨_,rfl,?_⟩⟩
     have h3:=S3 _ _ h2
     cases es:onB ds lot f with
     | false =>
      rw [es] at fin
      exact fin none H3 (S.trans S3) h3
     | true =>
      rw [es] at fin
      refine ⟨_,rfl,_,rfl,D1,_,_,_,rfl,rfl,h3,Ba (by rw [ak]; omega),?_⟩
      exact fin none _ (fun b o z=>(bF (bD z g1)).trans (S3 _ _ (S _ _ z))) (by show _ = some (HO.lst ((f.set k true).map V.bl)); rw [List.map_set]; exact bC)
  .have h:H' D1 = some (.lst ((lF LL gs lot).map V.bl)):=h
   refine ⟨_,rfl,_,rfl,blD (lF LL gs lot),blD lot,uY h,uY (S _ _ ha),qY _,qY _,?_⟩
   rw [I_,if_neg (by decide)]
   exact q _ S
noncomputable def LB (H:Hp) (v:V) (f:List Bool):Prop:=∃ a,v = .ref a/\H a = some (.lst (f.map V.bl))
theorem LB.same {H H':Hp} {v:V} {f:List Bool} (S:Same H H') (h:LB H v f):LB H' v f:=h.imp fun _ z=>⟨z.1,S _ _ z.2⟩
noncomputable def Jr:Sp:=fun vs H Q _=>∃ n:Nat,vs = [.int n]/\n <= 6/\∀ r zs lots H',Same H H'->H' r = some (.lst zs)->fD (LB H') zs lots->(∀ f ∈ lots,f.length = n)->lots.length <= 64->Q (.ref r) H'
theorem fD.app {α β:Type} {R:α->β->Prop} {xs xs':List α} {ys ys':List β} (h:fD R xs ys) (g:fD R xs' ys'):fD R (xs ++ xs') (ys ++ ys'):=by
 have l:=h.len
 refine ⟨by rw [aA,aA,l,g.len],fun k x y a b=>?_⟩
 by_cases hk:k < xs.length
 .rw [aD hk] at a
  rw [aD (by omega)] at b
  exact h.at_ k x y a b
 .rw [aC (by omega)] at a
  rw [aC (by omega)] at b
  exact g.at_ _ x y a (by rw [l]; exact b)
theorem Gd {i:Nat} {b:Bool} {σ:L2.St} {H:Hp} {Q:VK} {a:Addr} {zs:List V} {lots:List (List Bool)} {k:Nat} (hσ:σ[i]? = some (some (.ref a))) (ha:H a = some (.lst zs)) (al:fD (LB H) zs lots) (l64:lots.length <= 64) (hk:∀ f ∈ lots,f.length = k) (k6:k <= 6) (q:∀ D Hc ys,Same H Hc->H D = none->Hc D = some (.lst ys)->fD (LB (del [D] Hc)) ys (lots.map (· ++ [b]))->Q (.ref D) Hc):dO (pK K (tM (jw i))) 1 (tMG (dw 0)) (tMT vG) (tM (tOp KR (jw 0) (Ks (fu (tC (V.bl b)) kh)))) σ H Q:=by
 have z9:100 < sizeLine:=by decide
 refine Ga LB (lots.map (· ++ [b])) (fun S h=>h.same S) hσ ha (by rw [ak,al.len]) (by rw [ak]; omega) (fun j x t Hc D1 ys R' hx ht Sc h1 r=>?_) q
 obtain ⟨f,ef,p,rfl,hp⟩:=al.get hx
 rw [aq,ef] at ht
 cases ht
 have fk:=hk f (aB ef)
 refine ⟨_,rfl,GF,fun p1 g1=>⟨p,p1,_,_,rfl,rfl,Same.upd g1 _ _ (Sc _ _ hp),bC,by rw [ak]; simp; omega,fun p2 g2=>?_⟩⟩
 have n2:p2 ≠ D1:=(bD (Same.upd g1 _ _ h1) g2).symm
 refine r _ _ ((Same.upd g1).trans (Same.upd g2)) ⟨p2,rfl,eG (by simpa using n2) ?_⟩
 rw [bC,bw]; rfl
theorem Zy (F:Fun K xO xO Cq f fd) (T:Txt K mg D):cu P w K mg base CX0 1 f fd yH Jr:=by
 refine F.ok Ar (fun vs H Q E h=>?_) (fun cdv A outer s H vs Q E hr h=>?_)
 .obtain ⟨n,rfl,_⟩:=h
  rfl
 .obtain ⟨n,rfl,n6,q⟩:=h
  have z9:100 < sizeLine:=by decide
  refine ⟨_,(bI (bT (i:=1) Ar.nd rfl (Or.inl rfl) (cR (bB (cR bG) bG)))
   (bI (gC PassesOwn.never rfl (gH (by rfl) T.kY (bB (pv 0) bG).mono) (bW (i:=2) Ar.nd rfl (Or.inl rfl))
    (bL (bT (i:=1) Ar.nd rfl (Or.inl rfl) (bO rD (fW (bK Cq) Dl Dl ["_law_lot"] (cA ((pv 1)).mono) (cU (i:=0)) cF (bO rD (pv 0) (cR (bB iH bG)))) (fW (bK Cq) Dl Dl ["_law_lot"] (cA ((pv 1)).mono) (cU (i:=0)) cF (bO rD (pv 0) (cR (bB iH bG))))))))
   (bL (bY (pv 1))))),?_⟩
  refine cB fun R1 hR1=>?_
  refine fZ ⟨bh _,fun p0 g0=>⟨GF,fun p1 g1=>?_⟩⟩
  have S1:Same H (upd (upd H p0 (.lst [])) p1 (.lst [.ref p0])):=(Same.upd g0).trans (Same.upd g1)
  have h0:=Same.upd g1 (o:=.lst [.ref p0]) _ _ (bC (H:=H) (a:=p0) (o:=.lst []))
  have h1:upd (upd H p0 (.lst [])) p1 (.lst [.ref p0]) p1 = _:=bC
  generalize upd (upd H p0 (.lst [])) p1 (.lst [.ref p0]) = H1 at S1 h0 h1 ⊢
  dsimp only [dw,L2.start]
  subst hR1
  refine cB fun R1 hR1=>?_
  refine m9 (qt ⟨_,rfl,n,rfl,by omega,fun k σ H'=>∃ a u zs lots,σ = [some (.int (n:Nat)),some (.ref a),u]/\Same H H'/\H' a = some (.lst zs)/\fD (LB H') zs lots/\(∀ f ∈ lots,f.length = k)/\lots.length = 2 ^ k,⟨p1,none,_,[[]],rfl,S1,h1,⟨rfl,fun k x y e1 e2=>?_⟩,by simp,rfl⟩,?_,?_⟩)
  .cases k with
   | zero=>cases e1; cases e2; exact ⟨p0,rfl,h0⟩
   | succ k=>cases e1
  .rintro k σ' H' hk ⟨a,u,zs,lots,rfl,S2,ha,al,lk,l2⟩
   have p64:2 ^ k <= 2 ^ 5:=Nat.pow_le_pow_right (by decide) (by omega)
   have p64:lots.length <= 32:=by rw [l2]; exact p64
   refine abO (acV (Gd (i:=1) (b:=false) (k:=k) rfl ha al (by omega) lk (by omega) fun D3 H3 y3 S3 f3 h3 a3=>Gd (i:=1) (b:=true) (k:=k) rfl (S3 _ _ ha) (al.imp fun _ _ z=>z.same S3) (by omega) lk (by omega) fun D4 H4 y4 S4 f4 h4 a4=>⟨D3,D4,_,_,rfl,rfl,S4 _ _ h3,h4,?_,fun D5 f5=>?_⟩))
   .rw [a3.len,a4.len,ak,ak]; omega
   .have S5:Same H4 (upd H4 D5 (.lst (y3 ++ y4))):=Same.upd f5
    refine ⟨D5,_,y3 ++ y4,lots.map (· ++ [false]) ++ lots.map (· ++ [true]),rfl,S2.trans (S3.trans (S4.trans S5)),bC,((a3.imp fun _ _ z=>z.same (fun b o e=>S5 _ _ (S4 _ _ (gY _ _ e)))).app (a4.imp fun _ _ z=>z.same (fun b o e=>S5 _ _ (gY _ _ e)))),fun f hf=>?_,?_⟩
    .rcases List.mem_append.mp hf with hf | hf <;>
     .obtain ⟨g,hg,rfl⟩:=List.mem_map.mp hf
      rw [aA,lk g hg]; rfl
    .rw [aA,ak,ak,l2,Nat.pow_succ]; omega
  .rintro σ' H' ⟨a,u,zs,lots,rfl,S2,ha,al,lk,l2⟩
   subst hR1
   have p64:2 ^ n <= 2 ^ 6:=Nat.pow_le_pow_right (by decide) n6
   exact ⟨_,rfl,q a zs lots H' S2 ha al lk (by rw [l2]; exact p64)⟩
section
variable {n:Nat} {gs:List Nat} {LL ls:List (List (List Nat))}
theorem Ia {n r:Nat} {gs:List Nat} {lot:List Bool} : (gl0 n gs lot).getD r false = true ↔ r < n/\r ∈ gs/\lot.getD r false = true:=by
 unfold gl0
 rw [au,aq]
 by_cases h:r < n
 .rw [List.getElem?_range h]
  simp [h]
 .rw [aM (by rw [List.length_range]; omega)]
  simp [h]
theorem Rz {ds:List (List Nat)} {lot kn:List Bool} : onB ds lot kn = true ↔ ∃ d ∈ ds,qp lot d = true/\∃ y ∈ d,kn.getD y false = true:=by
 unfold onB
 rw [List.any_eq_true]
 constructor
 .rintro ⟨d,hd,h⟩
  rw [Bool.and_eq_true] at h
  exact ⟨d,hd,h.1,List.any_eq_true.mp h.2⟩
 .rintro ⟨d,hd,h,g⟩
  exact ⟨d,hd,by rw [Bool.and_eq_true]; exact ⟨h,List.any_eq_true.mpr g⟩⟩
theorem Rb {lot:List Bool} : gQ (lF LL gs lot) lot:=fun r h =>
 Gg (c:=wI LL lot) (X:=fun r=>lot.getD r false = true) pN (fun r z=>(Ia.mp z).2.2) (fun g k i z=>by
  unfold wI at z
  rw [Bool.and_eq_true] at z
  exact z.1) h
theorem aaB (W:Wy n gs LL ls) {L:List Bool} (ln:L.length = n) (g:lF LL gs L = L) {lot:List Bool} (h:Fz (bZ n gs) ls lot):gQ L lot:=by
 induction h with
 | all=>exact Rg (by rw [ig]; exact ln)
 | @next lot lot' h nx ih =>
  obtain ⟨M,c,rfl⟩:=nx
  intro r hr
  rw [<- g] at hr
  rw [Ci]
  have sl:(gR lot ls).length = n:=by
   unfold gR
   rw [ak,W.l2]
  refine Gg (c:=wI LL L) (X:=fun r=>iB (stK gq (bZ n gs) (gR lot ls) M) r = true) pN (fun r z=>?_) (fun f k i z=>?_) hr
  .obtain ⟨a,b,_⟩:=Ia.mp z
   exact sV (zu.mpr ⟨by omega,b⟩) M
  .unfold wI at z
   rw [Bool.and_eq_true,Bool.and_eq_true] at z
   obtain ⟨z1,z2,z3⟩:=z
   have kn:k < n:=by rw [<- ln]; exact abE z1
   by_cases kg:k ∈ gs
   .exact sV (zu.mpr ⟨kn,kg⟩) M
   .obtain ⟨d,hd,sd,y,hy,ey⟩:=Rz.mp z3
    have e:=W.at_ k kn
    rw [if_neg kg] at e
    refine G4 c (by rw [sl]; exact kn) (tQ.mpr ⟨d,?_,y,hy,i y ey⟩)
    rw [CV,e]
    exact List.mem_filter.mpr ⟨hd,vq.mpr fun w hw=>ih w (vq.mp sd w hw)⟩
theorem Tg (W:Wy n gs LL ls) {lot:List Bool} (nx:jF (bZ n gs) ls lot lot):lF LL gs lot = lot:=by
 have ln:lot.length = n:=by rw [nx.len,ig]
 obtain ⟨M,c,e⟩:=nx
 have hl:∀ r,lot.getD r false = iB (stK gq (bZ n gs) (gR lot ls) M) r:=fun r=>by
  have:=Ci (st:=stK gq (bZ n gs) (gR lot ls) M) (r:=r)
  rw [<- e] at this
  exact this
 have sl:(gR lot ls).length = n:=by
  unfold gR
  rw [ak,W.l2]
 refine Py (by unfold lF; rw [Q8,pN]) Rb fun r hr=>?_
 rw [hl] at hr
 refine Bb (J:=gq) (ms:=bZ n gs) (ls:=gR lot ls) (fun r=>(lF LL gs lot).getD r false = true) (fun r h=>?_) (fun st r i lr j=>?_) M r hr
 .obtain ⟨a,b⟩:=zu.mp h
  refine abV r (Ia.mpr ⟨by omega,b,?_⟩)
  rw [hl]
  exact sV h M
 .rw [sl] at lr
  obtain ⟨d,hd0,y,hy,hs⟩:=tQ.mp j
  have hd:=hd0
  rw [CV] at hd
  obtain ⟨hd1,hd2⟩:=List.mem_filter.mp hd
  have ng:r ∉ gs:=fun g=>by
   have:=W.at_ r lr
   rw [if_pos g] at this
   rw [this] at hd1
   cases hd1
  have e:=W.at_ r lr
  rw [if_neg ng] at e
  rw [e] at hd1
  have ky:=i y hs
  have rl:lot.getD r false = true:=by
   rw [hl]
   refine G4 c (by rw [sl]; exact lr) (tQ.mpr ⟨d,hd0,y,hy,?_⟩)
   rw [<- hl]
   exact Rb y ky
  cases z:(lF LL gs lot).getD r false with
  | true=>rfl
  | false =>
   have no:(lot.getD r false && (!(lF LL gs lot).getD r false && onB (LL.getD r []) lot (lF LL gs lot))) = false:=abC (b:=true) (c:=wI LL lot) pN (k:=r) (by omega) (by show (lF LL gs lot).getD r false ≠ true; rw [z]; decide)
   rw [rl,z,Rz.mpr ⟨d,hd1,hd2,y,hy,ky⟩] at no
   cases no
end
theorem HB {H:Hp} {a:Addr} {xs:List V} (h:H a = some (.lst xs)):tyS H (.ref a) = some "list" := by
 unfold tyS
 dsimp only
 rw [h]
theorem Yj {i:Nat} {σ:L2.St} {H:Hp} {Q:VK} {a:Addr} {fs:List Bool} (hσ:σ[i]? = some (some (.ref a))) (ha:H a = some (.lst (fs.map V.bl))) (l20:fs.length <= 20) (q:∀ Hc,Same H Hc->Q (.bl true) Hc):tCB GJ (fu (dO (pK K (tM (jw i))) 1 (tMG (dw 0)) (tMT vG) (tM (tCB Oj (fu (jw 0) (fu (tC (V.ty "bool")) kh))))) kh) σ H Q:=by
 have z9:100 < sizeLine:=by decide
 refine Hl (Bo ((fs.map fun _=>true).map V.bl) hσ ha (by rw [ak,ak,ak]) (by rw [ak,ak]; omega) ?_ fun D Hc S _ h=>⟨D,_,rfl,h,?_⟩)
 .intro j v y He R hi hv S3 r
  rw [aq] at hi hv
  rw [aq] at hv
  cases e:fs[j]? with
  | none=>rw [e] at hi; cases hi
  | some b =>
   rw [e] at hi hv
   cases hi
   cases hv
   exact ⟨_,rfl,_,_, "bool",rfl,by simp,rfl,r _ fun _ _ z=>z⟩
 .have:(fs.map fun _=>true).all id = true:=by rw [List.all_map]; exact List.all_eq_true.mpr fun _ _=>rfl
  rw [this]
  exact q Hc S
noncomputable def CJ:Sp:=fun vs H Q _=>∃ (r l g:Addr) (fs:List Bool) (LL:List (List (List Nat))) (gs:List Nat),vs = [.ref r,.ref l,.ref g]/\H r = some (.lst (fs.map V.bl))/\Eu H (.ref l) LL/\H g = some (.lst (gs.map nV))/\fs.length = LL.length/\LL.length <= 6/\LBd LL/\lF LL gs fs = fs/\(∀ L,L.length = LL.length->lF LL gs L = L->gQ L fs)/\∀ H',Same H H'->Q (.bl true) H'
theorem YJ {i m:Nat} {σ:L2.St} {H:Hp} {Q:VK} {a b:Addr} {lot fs:List Bool} (hσ:σ[i]? = some (some (.ref a))) (hm:σ[m]? = some (some (.ref b))) (ha:H a = some (.lst (lot.map V.bl))) (hb:H b = some (.lst (fs.map V.bl))) (l:lot.length = fs.length) (l20:lot.length <= 20) (q:∀ Hc x,Same H Hc->(x = true->∃ k,lot.getD k false = true/\fs.getD k false = false)->Q (.bl x) Hc):tCB W2 (fu (dO (z6 (tMA (fu (tCB Dv (fu (jw i) kh)) kh))) 1 (tMG (dw 0)) (tMT vG) (tM (KY (tOp rQ (jw (i + 1)) (jw 0)) (Li (tOp rQ (jw (m + 1)) (jw 0)))))) kh) σ H Q:=by
 have gl:((List.range lot.length).map fun k=>lot.getD k false && !fs.getD k false).length = lot.length:=by rw [ak,List.length_range]
 refine Hl (K9 (((List.range lot.length).map fun k=>lot.getD k false && !fs.getD k false).map V.bl) hσ ha (by rw [ak,ak,gl]) (by rw [ak,gl]; omega) ?_ fun D Hc S _ h=>⟨D,_,rfl,h,q Hc _ S fun z=>?_⟩)
 .intro k y Hc R hk S1 r
  have lk:k < lot.length:=by
   have:=(ao.mp hk).1
   rw [ak,gl] at this
   exact this
  rw [List.map_map,aq,List.getElem?_range lk] at hk
  cases hk
  have r:R (V.bl (lot.getD k false && !fs.getD k false)) Hc:=r Hc fun _ _ z=>z
  refine ⟨_,hσ,_,rfl,a,_,(k:Nat),_,rfl,rfl,S1 _ _ ha,Cu lk,_,rfl,?_⟩
  cases e:lot.getD k false with
  | false=>rw [e] at r; exact r
  | true =>
   rw [e,Bool.true_and] at r
   exact ⟨_,hm,_,rfl,b,_,(k:Nat),_,rfl,rfl,S1 _ _ hb,Cu (by omega),_,rfl,r⟩
 .obtain ⟨x,hx,e⟩:=List.any_eq_true.mp z
  obtain ⟨k,hk,rfl⟩:=List.mem_map.mp hx
  have e:(lot.getD k false && !fs.getD k false) = true:=e
  rw [Bool.and_eq_true,Bool.not_eq_true'] at e
  exact ⟨k,e⟩
theorem U5 (F:Fun K sI sI wU f fd) (T:Txt K mg D) (G6:OkF P w K mg base 2 xT yF Hv) (Pq:OkF P w K mg base 1 xO yH Jr):cu P w K mg base CX0 3 f fd tZ CJ:=by
 refine F.ok Ku (fun vs H Q E h=>?_) (fun cdv A outer s H vs Q E hr h=>?_)
 .obtain ⟨r,l,g,fs,LL,gs,rfl,_⟩:=h
  rfl
 .obtain ⟨r,l,g,fs,LL,gs,rfl,hr',ill,hg,fl,n6,bd,gd,gr,q⟩:=h
  have ill':=ill
  obtain ⟨l',zs,el,hl,al⟩:=ill'
  cases el
  refine ⟨_,(bI (dF (PW.pt (pw_or (d9 (cQ (bU lB (by rfl) T.eF boot_isinstance (bB (pv 0) (bB (nR (v:=.ty "list") (by rfl) T.zj boot_list rfl) bG))) (fun _=>rfl))) (pw_or1 (cW Rv (bU cT (by rfl) T.iC PySem.boot_len (bB (pv 0) bG)) (bU cT (by rfl) T.iC PySem.boot_len (bB (pv 1) bG)) (cL _)))))
    (bL (bY iH))
    cH)
   (bI (dF (PW.pt (pw_or (d9 (cQ (bU (vg rfl) (by rfl) T.Q5 boot_all (bB (fW (bK wU) xq xq ["_law_one"] (cA ((pv 0)).mono) (cU (i:=0)) cF (bU lB (by rfl) T.eF boot_isinstance (bB (pv 0) (bB (nR (v:=.ty "bool") (by rfl) T.GR boot_bool rfl) bG)))) bG)) (fun _=>rfl))) (pw_or1 (d9 (cQ (bM G6 (hr.mono (by decide)) (by rfl) (bB (pv 0) (bB (pv 1) (bB (pv 2) bG)))) (fun _=>rfl))))))
    (bL (bY iH))
    cH)
   (bI (gC PassesOwn.never rfl (cA ((bM Pq (hr.mono (by decide)) (by rfl) (bB (bU cT (by rfl) T.iC PySem.boot_len (bB (pv 1) bG)) bG))).mono) (bW (i:=3) Ku.nd rfl (Or.inr rfl))
    (bL (dF (PW.pt (pw_and (cQ (bU (vB rfl) (by rfl) T.Qh boot_any (bB (fW (bK wU) xq xq ["_law_k"] (gH (by rfl) T.kY (bB (bU cT (by rfl) T.iC PySem.boot_len (bB (pv 3) bG)) bG).mono) (cU (i:=0)) cF (yW (bQ bN (pv 4) (pv 0) (fun _ _=>rfl)) (BW (XJ (bQ bN (pv 1) (pv 0) (fun _ _=>rfl)))))) bG)) (fun _=>rfl)) (pw_and1 (cQ (bM G6 (hr.mono (by decide)) (by rfl) (bB (pv 3) (bB (pv 1) (bB (pv 2) bG)))) (fun _=>rfl)))))
     (bL (bY iH))
     cH)))
   (bL (bY iH))))),?_⟩
  refine cB fun R1 hR1=>?_
  refine m9 ⟨_,rfl,_,_, "list",rfl,by simp,HB hr',true,rfl,_,rfl,r,_,rfl,hr',_,rfl,l,_,rfl,hl,rfl,false,?_,?_⟩
  .rw [ak,al.len,fl]
   exact congrArg (fun b=>V.bl (!b)) (decide_eq_true rfl)
  show R1 _ _ _
  subst hR1
  refine cB fun R1 hR1=>?_
  refine m9 (J3 (abe (Qm (wz (Yj (i:=0) rfl hr' (by omega) fun H1 S1=>⟨true,rfl,?_⟩)))))
  rw [if_neg (show ¬ (!true) = true by decide)]
  refine Qm (wz ⟨_,rfl,_,rfl,_,rfl,r,l,g,fs,LL,gs,rfl,S1 _ _ hr',ill.same S1,S1 _ _ hg,fl,by omega,bd,fun H2 S2=>⟨true,?_,?_⟩⟩)
  .rw [decide_eq_true gd]; rfl
  show R1 _ _ _
  subst hR1
  have SS:=S1.trans S2
  refine cB fun R1 hR1=>?_
  refine m9 (dG ⟨_,rfl,l,zs,rfl,SS _ _ hl,zs.length,rfl,by rw [al.len]; exact n6,fun rl ys lots H3 S3 h3 a3 lk l64=>⟨rl,ys,rfl,h3,fun _ σ H'=>∃ u,σ = [some (.ref r),some (.ref l),some (.ref g),u]/\Same H3 H',⟨none,rfl,fun _ _ z=>z⟩,?_,?_⟩⟩)
  .rintro j v σ' H' hj ⟨u,rfl,S4⟩ hz
   obtain ⟨L,eL,p,rfl,hp⟩:=a3.get hj
   have ll:=lk L (aB eL)
   rw [al.len] at ll
   have TT:=SS.trans (S3.trans S4)
   refine J3 (Qi (wz (YJ (i:=3) (m:=0) rfl rfl (S4 _ _ hp) (TT _ _ hr') (by omega) (by omega) fun H5 x S5 hx=>⟨_,rfl,?_⟩)))
   cases x with
   | false=>exact ⟨S5 _ _ hz,_,rfl,S4.trans S5⟩
   | true =>
    rw [if_pos rfl]
    have T5:=TT.trans S5
    refine wz ⟨_,rfl,_,rfl,_,rfl,p,l,g,L,LL,gs,rfl,S5 _ _ (S4 _ _ hp),ill.same T5,T5 _ _ hg,ll,by omega,bd,fun H6 S6=>⟨false,?_,S6 _ _ (S5 _ _ hz),_,rfl,S4.trans (S5.trans S6)⟩⟩
    obtain ⟨k,k1,k2⟩:=hx rfl
    have ng:¬ lF LL gs L = L:=fun z=>by
     have:=gr L ll z k k1
     rw [k2] at this
     cases this
    rw [decide_eq_false ng]; rfl
  .rintro σ' H' ⟨u,rfl,S4⟩ _
   subst hR1
   exact q _ (SS.trans (S3.trans S4))
noncomputable def EqS (H:Hp) (v:V):Prop:=∃ d,Shows H v d/\SeqAt.shaped d = true/\PyData.eqv d d = true
theorem EqS.same {H H':Hp} {v:V} (h:EqS H v) (S:Same H H'):EqS H' v:=h.imp fun _ z=>⟨z.1.same S,z.2⟩
noncomputable def Oe:Sp:=fun vs H Q _=>∃ (c:Int) (n:Nat),vs = [.int c,.int n]/\0 <= c/\c < 1000003/\∀ v H',Same H H'->Odd H' v->EqS H' v->¬ wC n v->Q v H'
theorem abL (F:Fun K Eh Eh Vs f fd) (T:Txt K mg D):cu P w K mg base CX0 1 f fd BP Oe:=by
 refine F.ok ab8 (fun vs H Q E h=>?_) (fun cdv A outer s H vs Q E hr h=>?_)
 .obtain ⟨c,n,rfl,_⟩:=h
  rfl
 .obtain ⟨c,n,rfl,c0,c1,q⟩:=h
  refine ⟨_,(bL (bY (bQ bN (cR (bB (pv 1) (bB (bO dZ (bO dZ (pv 1) bH) (bO iI (pv 0) bH)) (bB (bO Iu (Rq JL bH) (bO cZ (bO iI (pv 0) bH) bH)) (bB iH (bB iH (bB uP (bB pH (bB (dI (bB bH (bB bH bG))) bG))))))))) (bO cZ (pv 0) bH) (fun _ _=>rfl)))),?_⟩
  walk_at "rd"
  refine ⟨Bd.sm (by decide),Bd.sm (by decide),eE,fun p1 g1=>⟨by decide,fun p4 g4=>?_⟩⟩
  have S4:Same H (upd (upd H p1 (.tup [.int 0,.int 1])) p4 (.lst [.int n,.int (n + 1 + c.fdiv 8),.int (-1 - c.fdiv 8 % 9),.bl true,.bl false,.non,.str (Str.ofString "a"),.ref p1])):=(Same.upd g1).trans (Same.upd g4)
  have k1:=Same.upd g4 (o:=.lst [.int n,.int (n + 1 + c.fdiv 8),.int (-1 - c.fdiv 8 % 9),.bl true,.bl false,.non,.str (Str.ofString "a"),.ref p1]) _ _ (bC (H:=H) (a:=p1) (o:=.tup [.int 0,.int 1]))
  generalize upd (upd H p1 (.tup [.int 0,.int 1])) p4 (.lst [.int n,.int (n + 1 + c.fdiv 8),.int (-1 - c.fdiv 8 % 9),.bl true,.bl false,.non,.str (Str.ofString "a"),.ref p1]) = H4 at *
  have f0:0 <= c.fdiv 8:=Int.fdiv_nonneg c0 (by decide)
  obtain ⟨j,ej,lj⟩ : ∃ j:Nat,c % 8 = j/\j < 8:=⟨(c % 8).toNat,by omega,by omega⟩
  rw [ej]
  match j,lj with
  | 0,_=>exact ⟨_,bV (j:=0) rfl,q _ _ S4 ⟨_,rfl⟩ ⟨_,.int _,rfl,beq_self_eq_true _⟩ fun y=>by have:=y.2; omega⟩
  | 1,_=>exact ⟨_,bV (j:=1) rfl,q _ _ S4 ⟨_,rfl⟩ ⟨_,.int _,rfl,beq_self_eq_true _⟩ fun y=>by have:=y.2; omega⟩
  | 2,_=>exact ⟨_,bV (j:=2) rfl,q _ _ S4 ⟨_,rfl⟩ ⟨_,.int _,rfl,beq_self_eq_true _⟩ fun y=>by have:=y.1; omega⟩
  | 3,_=>exact ⟨_,bV (j:=3) rfl,q _ _ S4 ⟨_,rfl⟩ ⟨_,.bl _,rfl,rfl⟩ fun y=>y⟩
  | 4,_=>exact ⟨_,bV (j:=4) rfl,q _ _ S4 ⟨_,rfl⟩ ⟨_,.bl _,rfl,rfl⟩ fun y=>y⟩
  | 5,_=>exact ⟨_,bV (j:=5) rfl,q _ _ S4 ⟨_,rfl⟩ ⟨_,.non,rfl,rfl⟩ fun y=>y⟩
  | 6,_=>exact ⟨_,bV (j:=6) rfl,q _ _ S4 ⟨_,rfl⟩ ⟨_,.str _,by decide +kernel,beq_self_eq_true _⟩ fun y=>y⟩
  | 7,_=>exact ⟨_,bV (j:=7) rfl,q _ _ S4 ⟨"tuple",by unfold tyS; dsimp only; rw [k1]⟩ ⟨_,.tup k1 (.cons (.int _) (.cons (.int _) .nil)),rfl,rfl⟩ fun y=>y⟩
  | j + 8,lj=>omega
noncomputable def v9 (D:Adr):Sp:=fun vs H Q _=>∃ (o lg p:Addr) (rms:List (Str × List Dr)) (gs:List Nat) (c:Int),vs = [.ref o,.ref lg,.int c,.int (rms.length:Nat)]/\jV D H o p rms/\H lg = some (.lst (gs.map nV))/\gs.length <= 90/\(∀ g ∈ gs,g < rms.length)/\rms.length <= 20/\∀ H',Same H H'->Q (.bl true) H'
theorem Oo (F:Fun K pA pA yZ f fd) (T:Txt K mg D) (U7:OkF P w K mg base 1 Eh BP Oe) (zO:OkF P w K mg base 6 oO oR (wF D)):cu P w K mg base CX0 7 f fd pI (v9 D):=by
 refine F.ok rF (fun vs H Q E h=>?_) (fun cdv A outer s H vs Q E hr h=>?_)
 .obtain ⟨o,lg,p,rms,gs,c,rfl,_⟩:=h
  rfl
 .obtain ⟨o,lg,p,rms,gs,c,rfl,hh,hg,g9,gn,n20,q⟩:=h
  refine ⟨_,(bI (bT (i:=4) rF.nd rfl (Or.inl rfl) (bM U7 (hr.mono (by decide)) (by rfl) (bB (bO cZ (pv 2) bH) (bB (pv 3) bG))))
   (bI (bT (i:=5) rF.nd rfl (Or.inl rfl) (bO mD (bO iI (bO cZ (pv 2) bH) bH) (bO dZ (bU cT (by rfl) T.iC PySem.boot_len (bB (pv 1) bG)) bH)))
   (bI (bT (i:=6) rF.nd rfl (Or.inl rfl) (bM zO (hr.mono (by decide)) (by rfl) (bB (pv 0) (bB (bO rD (bO rD (bO rD (gZ mO (pv 1) uW (fj (pv 5))) (cR (bB (pv 4) bG))) (gZ mO (pv 1) (fj (pv 5)) uW)) (cR (bB (bO dZ (pv 3) bH) bG))) bG))))
   (bL (bY (yW (jf qy (bU cT (by rfl) T.iC PySem.boot_len (bB (pv 6) bG)) bH (cL _)) (yW (jf (Px hr.units) (bQ bN (pv 6) bH (fun _ _=>rfl)) (pv 4) (cL _)) (BW (jf qy (bU lB (by rfl) T.eF boot_isinstance (bB (bQ bN (pv 6) bH (fun _ _=>rfl)) (bB (nR (v:=.ty "bool") (by rfl) T.GR boot_bool rfl) bG))) (bU lB (by rfl) T.eF boot_isinstance (bB (pv 4) (bB (nR (v:=.ty "bool") (by rfl) T.GR boot_bool rfl) bG))) (cL _)))))))))),?_⟩
  refine cB fun R1 hR1=>?_
  refine fZ ⟨_,rfl,c,1000003,rfl,rfl,(show (0:Int) < 1000003 by decide),_,rfl,c % 1000003,rms.length,rfl,Int.emod_nonneg _ (by decide),Int.emod_lt_of_pos _ (by decide),fun v H1 S1 ov ev nv=>?_⟩
  subst hR1
  dsimp only [dw,L2.start,List.length_cons,List.length_nil,List.set_cons_succ,List.set_cons_zero]
  refine cB fun R1 hR1=>?_
  have hg1:=S1 _ _ hg
  refine fZ ⟨_,rfl,c,1000003,rfl,rfl,(show (0:Int) < 1000003 by decide),_,_,rfl,rfl,⟨by decide,Bd.sm (by decide)⟩,_,rfl,lg,_,rfl,hg1,_,_,rfl,rfl,_,_,rfl,rfl,by omega,?_⟩
  subst hR1
  dsimp only [dw,List.set_cons_succ,List.set_cons_zero]
  refine cB fun R1 hR1=>?_
  obtain ⟨k,ek,kl⟩ : ∃ k:Nat,((c % 1000003).fdiv 8).fmod (((gs.map nV).length:Nat) + 1) = (k:Nat)/\k <= gs.length:=by
   rw [ak,aX _ (by omega)]
   generalize (c % 1000003).fdiv 8 = x
   have m0:0 <= x % ((gs.length:Int) + 1):=Int.emod_nonneg _ (by omega)
   have m1:x % ((gs.length:Int) + 1) < (gs.length:Int) + 1:=Int.emod_lt_of_pos _ (by omega)
   exact ⟨(x % ((gs.length:Int) + 1)).toNat,by omega,by omega⟩
  rw [ek]
  show qw _ R1 _ [some (.ref o),some (.ref lg),some (.int c),some (.int (rms.length:Nat)),some v,some (.int (k:Nat)),none] H1
  refine fZ ⟨_,rfl,af7 (lg:=lg) (gs:=gs) (k:=k) (v:=v) (m:=.int ((rms.length:Int) + 2)) (fun H' R S q=>⟨_,rfl,q⟩) (fun H' R S q=>⟨_,rfl,q⟩) (fun H' R S q=>⟨_,rfl,q⟩) (fun H' R S q=>⟨_,rfl,_,_,rfl,rfl,q⟩) hg1 kl (by omega) fun lb H2 S2 fb eb=>?_⟩
  refine ⟨o,lb,p,rms,gs.take k,v,_,rfl,(hh.same S1).same S2,eb,by simp; omega,fun g hg=>gn g (List.mem_of_mem_take hg),n20,ov.same S2,nv,fun lt H3 S3 ft et=>?_⟩
  have S23:=S2.trans S3
  obtain ⟨ty,ety⟩:=ov.same S23
  subst hR1
  dsimp only [dw,List.set_cons_succ,List.set_cons_zero]
  refine za ⟨_,rfl,lt,_,rfl,et,rfl,true,rfl,?_⟩
  have rest:tOp rEq (tCB Oj (fu (tOp rQ (jw 6) (tC (V.int 0))) (fu (tC (V.ty "bool")) kh))) (tCB Oj (fu (jw 4) (fu (tC (V.ty "bool")) kh))) [some (.ref o),some (.ref lg),some (.int c),some (.int (rms.length:Nat)),some v,some (.int (k:Nat)),some (.ref lt)] H3 Q:=by
   refine ⟨_,rfl,lt,_,0,_,rfl,rfl,et,eU,_,_,ty,rfl,by simp,ety,_,rfl,_,_,ty,rfl,by simp,ety,rfl,?_⟩
   rw [decide_eq_true rfl]
   exact q _ (S1.trans S23)
  obtain ⟨d,sd,hd,ed⟩:=ev.same S23
  exact ⟨_,rfl,lt,_,0,_,rfl,rfl,et,eU,_,rfl,d,d,sd,sd,hd,hd,true,congrArg V.bl ed,rest⟩
theorem wu.few {n:Nat} {H:Hp} {dss:List (List Addr)} {rms:List (Str × List Dr)} (h:wu K n H dss rms) (ok:GD rms):I8 rms:=by
 refine ⟨ok.len,ok.few,fun g hg d hd=>?_⟩
 obtain ⟨j,hj⟩:=aW hg
 have lj:j < dss.length:=by rw [<- h.len]; exact (ao.mp hj).1
 obtain ⟨_,z⟩:=(h.at_ j _ g (aj lj) hj).mem hd
 exact aL z.few.1 (by decide)
theorem fD.two {α β:Type} {R:α->β->Prop} {ys:List α} {x y:β} (h:fD R ys [x,y]):∃ a b,ys = [a,b]/\R a x/\R b y:=by
 obtain ⟨a,b,rfl⟩:=m8 h.len
 exact ⟨a,b,rfl,h.at_ 0 a x rfl rfl,h.at_ 1 b y rfl rfl⟩
theorem fD.pair {α β:Type} {R:α->β->Prop} {a b:α} {x y:β} (h:R a x) (g:R b y):fD R [a,b] [x,y]:=fD.snoc (fD.snoc .nil h) g
theorem abZ (F:Fun K Jg Jg K6 f fd) (T:Txt K mg D) (Za:∀ a ns,OkF P w K mg base 1 uV u_ (vD K a ns)) (Ou:OkF P w K mg base 2 xK xY Ib) (Wo:∀ a ns,OkF P w K mg base 4 tX sS (Bv K a ns)) (Km:OkF P w K mg base 4 tY tV Ej) (Oz:OkF P w K mg base 9 xQ yE (Jo K D)) (Az:OkF P w K mg base 2 uq t_ CG) (lE:OkF P w K mg base 5 dY eV (Hs D)) (zJ:OkF P w K mg base 7 pA pI (v9 D)) (JG:OkF P w K mg base 3 sI tZ CJ):cu P w K mg base CX0 10 f fd O8 (QZ K):=by
 refine F.okB o9 (fun vs H Q E h=>?_) (fun cdv A outer s H vs Q E hr h=>?_)
 .obtain ⟨a,ns,rfl,_⟩:=h
  rfl
 .obtain ⟨a,ns,rfl,hs,hl,_,hQ⟩:=h
  have oW:=Za a ns
  have Kh:=Wo a ns
  refine ⟨_,(cD (PSB.mk (bT (i:=1) o9.nd rfl (Or.inl rfl) (bM Kh (hr.mono (by decide)) (by rfl) (bB (pv 0) (bB bH (bB (bM Ou (hr.mono (by decide)) (by rfl) (bB (bM oW (hr.mono (by decide)) (by rfl) (bB (pv 0) (bB bH bG))) bG)) (bB bH bG)))))))
   (cD (PSB.mk (bT (i:=2) o9.nd rfl (Or.inl rfl) (bM Km (hr.mono (by decide)) (by rfl) (bB (pv 1) bG))))
   (cD (Rt (i:=3) o9.nd rfl (Or.inl rfl) (Rw (Qj (Qn (Al (pP iD (pP iD uX))) (Qn (Al (pP iD (pP iD uX))) (Qn (Al (pP iD (pP iD uX))) (Qn (Al (pP iD (pP iD uX))) uX))))) (bO cZ (bO iI (bM oW (hr.mono (by decide)) (by rfl) (bB (pv 0) (bB bH bG))) bH) bH) (fun _ _=>rfl)))
   (cD (PSB.mk (bT (i:=4) o9.nd rfl (Or.inl rfl) (bM Oz (hr.mono (by decide)) (by rfl) (bB (bM oW (hr.mono (by decide)) (by rfl) (bB (pv 0) (bB bH bG))) (bB (pv 3) (bB (pv 1) bG))))))
   (cD (PSB.mk (bT (i:=5) o9.nd rfl (Or.inl rfl) (cR (bB (bM Az (hr.mono (by decide)) (by rfl) (bB (bM oW (hr.mono (by decide)) (by rfl) (bB (pv 0) (bB bH bG))) (bB (bU cT (by rfl) T.iC PySem.boot_len (bB (pv 1) bG)) bG))) (bB (bM Az (hr.mono (by decide)) (by rfl) (bB (bM oW (hr.mono (by decide)) (by rfl) (bB (pv 0) (bB bH bG))) (bB (bU cT (by rfl) T.iC PySem.boot_len (bB (pv 1) bG)) bG))) bG)))))
   (cD (PSB.mk (vN (bK K6) aaK ["_law_script", "_law_rooms", "_law_leads_here", "_law_share", "_law_hall_here", "_law_goals_here", "_law_handed", "_law_held", "_law_kept", "_law_found", "?_law_some"] ["_law_some"] (cA ((pv 5)).mono) (cU (i:=0)) cF (qu rE (by rfl) T.zj boot_list (bB (pv 0) bG)) (bW (i:=6) o9.nd rfl (Or.inl rfl))))
   (cD (PSB.mk (bT (i:=7) o9.nd rfl (Or.inl rfl) (cR (bB (bM lE (hr.mono (by decide)) (by rfl) (bB (pv 4) (bB (bQ bN (pv 6) bH (fun _ _=>rfl)) bG))) (bB (bM lE (hr.mono (by decide)) (by rfl) (bB (pv 4) (bB (bQ bN (pv 6) bH (fun _ _=>rfl)) bG))) bG)))))
   (cD (PSB.mk (dF (d9 (cQ (bM zJ (hr.mono (by decide)) (by rfl) (bB (pv 4) (bB (bQ bN (pv 5) bH (fun _ _=>rfl)) (bB (bM oW (hr.mono (by decide)) (by rfl) (bB (pv 0) (bB bH bG))) (bB (bU cT (by rfl) T.iC PySem.boot_len (bB (pv 1) bG)) bG))))) (fun _=>rfl)))
    (bL (bY iH))
    cH))
   (cD (PSB.mk (dF (d9 (cQ (bU lB (by rfl) T.eF boot_isinstance (bB (bQ bN (pv 7) bH (fun _ _=>rfl)) (bB (nR (v:=.ty "list") (by rfl) T.zj boot_list rfl) bG))) (fun _=>rfl)))
    (bL (bY iH))
    cH))
   (cD (PSB.mk (bT (i:=8) o9.nd rfl (Or.inl rfl) (qu rE (by rfl) T.zj boot_list (bB (bQ bN (pv 7) bH (fun _ _=>rfl)) bG))))
   (cD (PSB.mk (dh (sX (bQ bN (pv 7) bH (fun _ _=>rfl)) (bB bH bG))))
   (cD (PSB.mk (dh (sX (pv 7) (bB (bM lE (hr.mono (by decide)) (by rfl) (bB (pv 4) (bB (bQ bN (pv 6) bH (fun _ _=>rfl)) bG))) bG))))
   (cD (PSB.mk (gC PassesOwn.never rfl (Vo (by rfl) T.aaN (bB (bO rD (cR (bB (pv 8) bG)) (gZ mO (pv 7) (fj bH) uW)) (bB (cR (bB (bQ bN (pv 5) bH (fun _ _=>rfl)) (bB (bQ bN (pv 5) bH (fun _ _=>rfl)) (bB (bQ bN (pv 5) bH (fun _ _=>rfl)) bG)))) bG)).mono) (fM (n:=2) rfl (b_ (bW (i:=9) o9.nd rfl (Or.inl rfl)) (b_ (bW (i:=10) o9.nd rfl (Or.inl rfl)) eZ)))
    (bL (dF (d9 (cQ (bM JG (hr.mono (by decide)) (by rfl) (bB (pv 9) (bB (pv 2) (bB (pv 10) bG)))) (fun _=>rfl)))
     (bL (bY iH))
     cH))))
   (wW (PSB.mk (bY (jf (Px hr.units) (pv 6) (pv 5) (cL _)))))))))))))))))),?_⟩
  refine cB fun R1 hR1=>?_
  refine fZ ⟨_,rfl,_,rfl,0,rfl,hs,hl,by decide,_,rfl,fun n H1 n8 S1=>⟨4,n,3,rfl,Same.sql S1 hs,hl,by decide,by omega,by decide,fun r xs dss H2 S2 fr hr2 ld rd dm=>?_⟩⟩
  have SH2:=S1.trans S2
  subst hR1
  refine cB fun R1 hR1=>?_
  refine fZ ⟨_,rfl,r,xs,dss,n,rfl,hr2,rd,by omega,fun ds hd=>by have:=dm ds hd; omega,fun l LL H3 S3 fl hl3 lo=>?_⟩
  have SH3:=SH2.trans S3
  subst hR1
  refine cB fun R1 hR1=>?_
  refine fZ ?_
  walk_at "rd"
  refine ⟨eE,fun p1 g1=>⟨eE,fun p2 g2=>⟨eE,fun p3 g3=>⟨eE,fun p4 g4=>⟨by decide,fun p5 g5=>?_⟩⟩⟩⟩⟩
  have S4:Same H3 (upd (upd (upd (upd (upd H3 p1 (.tup [.int 1,.int 2])) p2 (.tup [.int 0,.int 1])) p3 (.tup [.int 2,.int 3])) p4 (.tup [.int 99,.int 100])) p5 (.lst [.ref p1,.ref p2,.ref p3,.ref p4])):=(Same.upd g1).trans ((Same.upd g2).trans ((Same.upd g3).trans ((Same.upd g4).trans (Same.upd g5))))
  have k1:=Same.upd g5 (o:=.lst [.ref p1,.ref p2,.ref p3,.ref p4]) _ _ (Same.upd g4 (o:=.tup [.int 99,.int 100]) _ _ (Same.upd g3 (o:=.tup [.int 2,.int 3]) _ _ (Same.upd g2 (o:=.tup [.int 0,.int 1]) _ _ (bC (H:=H3) (a:=p1) (o:=.tup [.int 1,.int 2])))))
  have k2:=Same.upd g5 (o:=.lst [.ref p1,.ref p2,.ref p3,.ref p4]) _ _ (Same.upd g4 (o:=.tup [.int 99,.int 100]) _ _ (Same.upd g3 (o:=.tup [.int 2,.int 3]) _ _ (bC (a:=p2) (o:=.tup [.int 0,.int 1]))))
  have k3:=Same.upd g5 (o:=.lst [.ref p1,.ref p2,.ref p3,.ref p4]) _ _ (Same.upd g4 (o:=.tup [.int 99,.int 100]) _ _ (bC (a:=p3) (o:=.tup [.int 2,.int 3])))
  have k4:=Same.upd g5 (o:=.lst [.ref p1,.ref p2,.ref p3,.ref p4]) _ _ (bC (a:=p4) (o:=.tup [.int 99,.int 100]))
  have k5:=bC (H:=upd (upd (upd (upd H3 p1 (.tup [.int 1,.int 2])) p2 (.tup [.int 0,.int 1])) p3 (.tup [.int 2,.int 3])) p4 (.tup [.int 99,.int 100])) (a:=p5) (o:=.lst [.ref p1,.ref p2,.ref p3,.ref p4])
  generalize upd (upd (upd (upd (upd H3 p1 (.tup [.int 1,.int 2])) p2 (.tup [.int 0,.int 1])) p3 (.tup [.int 2,.int 3])) p4 (.tup [.int 99,.int 100])) p5 (.lst [.ref p1,.ref p2,.ref p3,.ref p4]) = H4 at *
  have SH4:=SH3.trans S4
  unfold vD
  refine ⟨1,rfl,Same.sql SH4 hs,hl,by decide,_,rfl,Bd.sm (by decide),_,k5,?_⟩
  obtain ⟨ps,x,y,ea,hp,x0,xy,y1,gx⟩ : ∃ (ps:Addr) (x y:Int),atI [V.ref p1,V.ref p2,V.ref p3,V.ref p4] ((cell ns 1).fdiv 7 % 4) = some (.ref ps)/\H4 ps = some (.tup [.int x,.int y])/\0 <= x/\x < y/\y <= 100/\Int.gcd x y = 1:=by
   obtain e | e | e | e:(cell ns 1).fdiv 7 % 4 = 0\/(cell ns 1).fdiv 7 % 4 = 1\/(cell ns 1).fdiv 7 % 4 = 2\/(cell ns 1).fdiv 7 % 4 = 3:=by omega
   .exact ⟨p1,1,2,by rw [e]; exact bV (j:=0) rfl,k1,by decide,by decide,by decide,rfl⟩
   .exact ⟨p2,0,1,by rw [e]; exact bV (j:=1) rfl,k2,by decide,by decide,by decide,rfl⟩
   .exact ⟨p3,2,3,by rw [e]; exact bV (j:=2) rfl,k3,by decide,by decide,by decide,rfl⟩
   .exact ⟨p4,99,100,by rw [e]; exact bV (j:=3) rfl,k4,by decide,by decide,by decide,rfl⟩
  refine ⟨_,ea,?_⟩
  have hr4:=S4 _ _ (S3 _ _ hr2)
  have rd4:=(rd.same S3).same S4
  have hl4:=hl3.same S4
  subst hR1
  refine cB fun R1 hR1=>?_
  refine fZ ⟨_,rfl,1,rfl,Same.sql SH4 hs,hl,by decide,_,rfl,_,rfl,_,x,y,ps,r,xs,dss,n,3,rfl,hp,x0,xy,y1,gx,hr4,rd4,ld,by omega,by decide,dm,fun o H5 rms S5 fo hh ok hi=>?_⟩
  have SH5:=SH4.trans S5
  have hr5:=S5 _ _ hr4
  have rd5:=rd4.same S5
  have hl5:=hl4.same S5
  have lx:xs.length = n:=by rw [rd.len,ld]
  subst hR1
  refine cB fun R1 hR1=>?_
  refine fZ ⟨_,rfl,2,rfl,Same.sql SH5 hs,hl,by decide,_,rfl,r,xs,rfl,hr5,_,n,by rw [lx],by omega,fun lg gs H6 S6 fg hg6 gn g8=>⟨_,rfl,3,rfl,Same.sql (SH5.trans S6) hs,hl,by decide,_,rfl,r,xs,rfl,S6 _ _ hr5,_,n,by rw [lx],by omega,fun lg2 gs2 H7 S7 fg2 hg72 gn2 g82=>⟨eE,fun pg fpg=>?_⟩⟩⟩
  have S67:=S6.trans S7
  have S8:Same H7 (upd H7 pg (.lst [.ref lg,.ref lg2])):=Same.upd fpg
  have hpg:upd H7 pg (.lst [.ref lg,.ref lg2]) pg = some (.lst [.ref lg,.ref lg2]):=bC
  generalize upd H7 pg (.lst [.ref lg,.ref lg2]) = H8 at S8 hpg ⊢
  have SH8:=SH5.trans (S67.trans S8)
  have hg8:=S8 _ _ (S7 _ _ hg6)
  have hg82:=S8 _ _ hg72
  have hr8:=S8 _ _ (S67 _ _ hr5)
  have hl8:=(hl5.same S67).same S8
  have hh8:=(hh.same S67).same S8
  have lo8:fD (fD (oK n H8)) dss LL:=lo.imp fun _ _ h=>h.imp fun _ _ z=>((((z.same S3).same S4).same S5).same S67).same S8
  have hi8:=(hi.same S67).same S8
  have few:=hi.few ok
  have rn:rms.length = n:=by rw [hi.len,ld]
  have W:∀ gs,Wy n gs LL (d8 rms (bZ rms.length gs)):=fun gs=>ad1 ok hi8 ld lo8
  subst hR1
  dsimp only [dw,List.set_cons_succ,List.set_cons_zero]
  refine cB fun R1 hR1=>?_
  refine fZ (Ga IL [gs,gs2] (fun S ⟨p,e,z⟩=>⟨p,e,S _ _ z⟩) rfl hpg rfl eE (fun k x t Hc D1 ys R' hk ht Sc h1 q=>?_) fun hd H9 ys S9 f9 h9 a9=>?_)
  .obtain ⟨p,rfl,hp'⟩:=(fD.pair (R:=IL H8) ⟨lg,rfl,hg8⟩ ⟨lg2,rfl,hg82⟩).at_ k x t hk ht
   exact ⟨_,rfl,p,_,rfl,Sc _ _ hp',fun p2 f2=>q _ _ (Same.upd f2) ⟨p2,rfl,eG (by simpa using (bD h1 f2).symm) bC⟩⟩
  obtain ⟨_,_,rfl,⟨h1,rfl,hh1⟩,⟨h2,rfl,hh2⟩⟩:=a9.two
  have hh1:=gY _ _ hh1
  have hh2:=gY _ _ hh2
  have SH9:=SH8.trans S9
  have hh9:=hh8.same S9
  have gn':∀ g ∈ gs,g < rms.length:=by rw [rn]; exact gn
  have gn2':∀ g ∈ gs2,g < rms.length:=by rw [rn]; exact gn2
  subst hR1
  dsimp only [dw,List.set_cons_succ,List.set_cons_zero]
  refine cB fun R1 hR1=>?_
  refine fZ ⟨_,rfl,_,rfl,hd,_,0,_,rfl,rfl,h9,eU,o,h1,ps,rms,gs,rfl,hh9,hh1,by omega,gn',ok,few,fun r1 st1 Ha Sa fa e1 b1 b2=>⟨_,rfl,_,rfl,hd,_,1,_,rfl,rfl,Sa _ _ h9,gO,o,h2,ps,rms,gs2,rfl,hh9.same Sa,Sa _ _ hh2,by omega,gn2',ok,few,fun r2 st2 Hb Sb fb e2 d1 d2=>⟨eE,fun ph fph=>?_⟩⟩⟩
  have tf:∀ {gz:List Nat} {lot:List Bool},Fz (bZ rms.length gz) (d8 rms (bZ rms.length gz)) lot->jF (bZ rms.length gz) (d8 rms (bZ rms.length gz)) lot lot->lot.length = n/\lF LL gz lot = lot/\∀ L,L.length = LL.length->lF LL gz L = L->gQ L lot:=fun {gz lot} a b=>by
   have w:=W gz
   rw [rn] at a b w
   exact ⟨by rw [b.len,ig],Tg w b,fun L ln g=>aaB w (by rw [ln,w.ll]) g a⟩
  have t1:=tf b1 b2
  have t2:=tf d1 d2
  have Sd:Same Hb (upd Hb ph (.lst [.ref r1,.ref r2])):=Same.upd fph
  have hph:upd Hb ph (.lst [.ref r1,.ref r2]) ph = some (.lst [.ref r1,.ref r2]):=bC
  generalize upd Hb ph (.lst [.ref r1,.ref r2]) = Hd at Sd hph ⊢
  have S9d:Same H9 Hd:=Sa.trans (Sb.trans Sd)
  have he1:=Sd _ _ (Sb _ _ e1)
  have he2:=Sd _ _ e2
  have fr2:H9 r2 = none:=Same.free Sa fb
  have frh:H9 ph = none:=Same.free (Sa.trans Sb) fph
  have n12:r2 ≠ r1:=(bD e1 fb).symm
  have n2h:r2 ≠ ph:=bD e2 fph
  have n1h:ph ≠ r1:=(bD (Sb _ _ e1) fph).symm
  have SHd:=SH9.trans S9d
  clear Sa Sb Sd
  subst hR1
  dsimp only [dw,List.set_cons_succ,List.set_cons_zero]
  refine cB fun R1 hR1=>?_
  have hg9:=S9d _ _ (S9 _ _ hg8)
  refine m9 ⟨_,rfl,_,rfl,pg,_,0,_,rfl,rfl,S9d _ _ (S9 _ _ hpg),eU,_,rfl,17,rfl,Same.sql SHd hs,hl,by decide,_,rfl,r,xs,rfl,S9d _ _ (S9 _ _ hr8),o,lg,ps,rms,gs,_,by rw [lx,rn],hh9.same S9d,hg9,by omega,gn',by omega,fun Hg Sdg=>⟨true,rfl,?_⟩⟩
  show R1 _ _ _
  have S9g:=S9d.trans Sdg
  have SHg:=SHd.trans Sdg
  have hph:=Sdg _ _ hph
  have he1:=Sdg _ _ he1
  have he2:=Sdg _ _ he2
  subst hR1
  refine cB fun R1 hR1=>?_
  refine m9 ⟨_,rfl,ph,_,0,_,rfl,rfl,hph,eU,_,_, "list",rfl,by simp,HB he1,true,rfl,?_⟩
  show R1 _ _ _
  subst hR1
  refine cB fun R1 hR1=>?_
  refine fZ ⟨_,rfl,ph,_,0,_,rfl,rfl,hph,eU,r1,_,rfl,he1,fun kp fkp=>?_⟩
  subst hR1
  dsimp only [dw,List.set_cons_succ,List.set_cons_zero]
  refine cB fun R1 hR1=>?_
  have z9:100 < sizeLine:=by decide
  have nk1:kp ≠ r1:=(bD he1 fkp).symm
  have nkh:kp ≠ ph:=(bD hph fkp).symm
  have fk9:H9 kp = none:=Same.free S9g fkp
  refine m9 ⟨_,rfl,ph,_,0,_,rfl,rfl,Same.upd fkp _ _ hph,eU,r1,_,rfl,Same.upd fkp _ _ he1,_,_,rfl,Same.upd fkp _ _ he1,by rw [ak]; omega,?_⟩
  have S9h:Same H9 (upd (upd Hg kp (.lst (st1.map V.bl))) r1 (.lst (st1.map V.bl ++ [.int 0]))):=fun b u e=>(bF fun z=>by subst z; rw [fa] at e; cases e).trans (Same.upd fkp _ _ (S9g _ _ e))
  have hkp:upd (upd Hg kp (.lst (st1.map V.bl))) r1 (.lst (st1.map V.bl ++ [.int 0])) kp = some (.lst (st1.map V.bl)):=(bF nk1).trans bC
  have hph:upd (upd Hg kp (.lst (st1.map V.bl))) r1 (.lst (st1.map V.bl ++ [.int 0])) ph = some (.lst [.ref r1,.ref r2]):=(bF n1h).trans (Same.upd fkp _ _ hph)
  have he2:upd (upd Hg kp (.lst (st1.map V.bl))) r1 (.lst (st1.map V.bl ++ [.int 0])) r2 = some (.lst (st2.map V.bl)):=(bF n12).trans (Same.upd fkp _ _ he2)
  generalize upd (upd Hg kp (.lst (st1.map V.bl))) r1 (.lst (st1.map V.bl ++ [.int 0])) = Hh at S9h hkp hph he2 ⊢
  subst hR1
  dsimp only
  refine cB fun R1 hR1=>?_
  refine m9 ⟨_,rfl,ph,_,rfl,hph,_,rfl,_,rfl,hd,_,0,_,rfl,rfl,S9h _ _ h9,eU,o,h1,ps,rms,gs,rfl,hh9.same S9h,S9h _ _ hh1,by omega,gn',ok,few,fun r3 st3 Hi Si fi e3 b5 b6=>⟨_,_,rfl,Si _ _ hph,Nat.lt_of_le_of_lt (show 2 <= 100 by decide) z9,?_⟩⟩
  have t3:=tf b5 b6
  have S9j:Same H9 (upd Hi ph (.lst ([.ref r1,.ref r2] ++ [.ref r3]))):=fun b u e=>(bF fun z=>by subst z; rw [frh] at e; cases e).trans (Si _ _ (S9h _ _ e))
  have n3h:r3 ≠ ph:=(bD hph fi).symm
  have hkp:=(bF (o:=.lst ([.ref r1,.ref r2] ++ [.ref r3])) nkh).trans (Si _ _ hkp)
  have he2:=(bF (o:=.lst ([.ref r1,.ref r2] ++ [.ref r3])) n2h).trans (Si _ _ he2)
  have he3:=(bF (o:=.lst ([.ref r1,.ref r2] ++ [.ref r3])) n3h).trans e3
  have hph:upd Hi ph (.lst ([.ref r1,.ref r2] ++ [.ref r3])) ph = _:=bC
  generalize upd Hi ph (.lst ([.ref r1,.ref r2] ++ [.ref r3])) = Hj at S9j hkp he2 he3 hph ⊢
  clear Si Sdg S9h
  subst hR1
  dsimp only
  refine cB fun R1 hR1=>?_
  have hpj:=S9j _ _ (S9 _ _ hpg)
  refine m9 (Ul ⟨_,rfl,GF,fun q1 fq1=>⟨_,rfl,_,rfl,ph,_,rfl,.of (Same.upd fq1 _ _ hph),fun q2 fq2=>?_⟩⟩)
  have Sk:Same Hj (upd (upd Hj q1 (.lst [.ref kp])) q2 (.lst (mQ ([V.ref r1,V.ref r2] ++ [V.ref r3]) (some 1) none))):=(Same.upd fq1).trans (Same.upd fq2)
  refine ⟨q1,q2,_,_,rfl,rfl,Same.upd fq2 _ _ bC,bC,Nat.le_of_lt (Nat.lt_of_le_of_lt (show 3 <= 100 by decide) z9),fun q3 fq3=>⟨_,rfl,pg,_,0,_,rfl,rfl,Same.upd fq3 _ _ (Sk _ _ hpj),eU,_,rfl,pg,_,1,_,rfl,rfl,Same.upd fq3 _ _ (Sk _ _ hpj),gO,_,rfl,pg,_,0,_,rfl,rfl,Same.upd fq3 _ _ (Sk _ _ hpj),eU,Nat.le_of_lt (Nat.lt_of_le_of_lt (show 3 <= 100 by decide) z9),fun q4 fq4=>?_⟩⟩
  have Sl:=Sk.trans (Same.upd fq3 (o:=.lst ([V.ref kp] ++ mQ ([V.ref r1,V.ref r2] ++ [V.ref r3]) (some 1) none)))
  have hq3:upd (upd (upd Hj q1 (.lst [.ref kp])) q2 (.lst (mQ ([V.ref r1,V.ref r2] ++ [V.ref r3]) (some 1) none))) q3 (.lst ([V.ref kp] ++ mQ ([V.ref r1,V.ref r2] ++ [V.ref r3]) (some 1) none)) q3 = some (.lst [.ref kp,.ref r2,.ref r3]):=bC
  generalize upd (upd (upd Hj q1 (.lst [.ref kp])) q2 (.lst (mQ ([V.ref r1,V.ref r2] ++ [V.ref r3]) (some 1) none))) q3 (.lst ([V.ref kp] ++ mQ ([V.ref r1,V.ref r2] ++ [V.ref r3]) (some 1) none)) = Hk at *
  have Sm:=Sl.trans (Same.upd fq4 (o:=.lst [.ref lg,.ref lg2,.ref lg]))
  have hq3:=Same.upd fq4 (o:=.lst [.ref lg,.ref lg2,.ref lg]) _ _ hq3
  have hq4:upd Hk q4 (.lst [.ref lg,.ref lg2,.ref lg]) q4 = _:=bC
  dsimp only [kh]
  generalize upd Hk q4 (.lst [.ref lg,.ref lg2,.ref lg]) = Hm at *
  have Sn:=S9j.trans Sm
  have hgm:=Sn _ _ (S9 _ _ hg8)
  have hgm2:=Sn _ _ (S9 _ _ hg82)
  have lt':∀ ds ∈ LL,∀ x ∈ ds,x.length <= 100/\∀ y ∈ x,y < LL.length:=fun ds hd x hx=>by rw [(W gs).ll]; exact ⟨aL ((W gs).lt ds hd x hx).1 (by decide),((W gs).lt ds hd x hx).2⟩
  have hlm:=(hl8.same S9).same Sn
  have okz:∀ (j:Nat) x y,[V.ref kp,V.ref r2,V.ref r3][j]? = some x->[V.ref lg,V.ref lg2,V.ref lg][j]? = some y->∃ (ra ga:Addr) (st:List Bool) (gz:List Nat),x = .ref ra/\y = .ref ga/\Hm ra = some (.lst (st.map V.bl))/\Hm ga = some (.lst (gz.map nV))/\st.length = n/\lF LL gz st = st/\∀ L,L.length = LL.length->lF LL gz L = L->gQ L st:=fun j x y e1 e2=>by
   match j with
   | 0=>cases e1; cases e2; exact ⟨_,_,st1,gs,rfl,rfl,Sm _ _ hkp,hgm,t1⟩
   | 1=>cases e1; cases e2; exact ⟨_,_,st2,gs2,rfl,rfl,Sm _ _ he2,hgm2,t2⟩
   | 2=>cases e1; cases e2; exact ⟨_,_,st3,gs,rfl,rfl,Sm _ _ he3,hgm,t3⟩
   | j + 3=>cases e1
  refine ⟨q3,q4,_,_,rfl,hq3,hq4,rfl,fun _ σ H'=>∃ u1 u2,σ = [some (.ref a),some (.ref r),some (.ref l),some (.ref ps),some (.ref o),some (.ref pg),some (.ref hd),some (.ref ph),some (.ref kp),u1,u2]/\Same Hm H',⟨_,_,rfl,fun _ _ z=>z⟩,?_,?_⟩
  .rintro j x y σ' H' t e1 e2 ⟨u1,u2,rfl,St⟩ ha hb ft
   obtain ⟨ra,ga,st,gz,rfl,rfl,i1,i2,i3,i4,i5⟩:=okz j x y e1 e2
   have Su:Same H' (upd H' t (.tup [.ref ra,.ref ga])):=Same.upd ft
   have Sv:=St.trans Su
   have ll:=(W gs).ll
   exact ⟨t,_,rfl,bC,rfl,_,_,rfl,_,_,rfl,rfl,_,rfl,_,rfl,_,rfl,ra,l,ga,st,LL,gz,rfl,Sv _ _ i1,hlm.same Sv,Sv _ _ i2,by omega,by omega,lt',i4,i5,fun H2 S2=>⟨true,rfl,S2 _ _ (Su _ _ ha),S2 _ _ (Su _ _ hb),_,_,rfl,Sv.trans S2⟩⟩
  .rintro σ' H' ⟨u1,u2,rfl,St⟩ _ _
   subst hR1
   have Sv:=Sn.trans St
   refine ⟨_,rfl,_,rfl,.list [nmD gs,nmD gs2],.list [nmD gs,nmD gs2],.lst (Sv _ _ h9) (.cons (qN (Sv _ _ hh1)) (.cons (qN (Sv _ _ hh2)) .nil)),.lst (Sv _ _ (S9 _ _ hpg)) (.cons (qN (Sv _ _ (S9 _ _ hg8))) (.cons (qN (Sv _ _ (S9 _ _ hg82))) .nil)),BL gs gs2,BL gs gs2,?_⟩
   rw [TQ,if_neg (by decide)]
   exact hQ _
end
theorem law_fn {l:PySem.W.OpenLaw} {w:World} {K:Frag} {mg:Str->Option Value} (T0:∃ D,Txt K mg D) (base:Heap) (f:Addr) (fd:FuncData) (F:Fun K Jg Jg K6 f fd) :
  cu l.prog w K mg base CX0 10 f fd O8 (QZ K):=by
 obtain ⟨D,T⟩:=T0
 have oW:∀ a ns,OkF l.prog w K mg base 1 uV u_ (vD K a ns):=fun a ns=>T.ab4.ok fun _ _ F=>ZF F a ns
 have dB:OkF l.prog w K mg base 1 gM gK jy:=T.Pk.ok fun _ _ F=>M5 F T
 have WW:OkF l.prog w K mg base 1 DX DR Jh:=T.aeC.ok fun _ _ F=>aa8 F T
 have jh:OkF l.prog w K mg base 1 jN jH iY:=T.RV.ok fun _ _ F=>PX F T
 have mR:OkF l.prog w K mg base 2 nY oE oA:=T.UG.ok fun _ _ F=>Ug F WW
 have nQ:OkF l.prog w K mg base 2 o_ oX mX:=T.aaD.ok fun _ _ F=>Wx F T dB jh
 have pO:OkF l.prog w K mg base 1 qL qx (qz (K:=K)):=T.Zn.ok fun _ _ F=>Vr F
 have abj:OkF l.prog w K mg base 3 xW xH (sU (K:=K) fun a b=>a + b):=T.abt.ok fun _ _ F=>aax F nQ
 have Ze:OkF l.prog w K mg base 3 uz uF (sU (K:=K) fun a b=>a - b):=T.ZL.ok fun _ _ F=>Vn F nQ
 have jr:OkF l.prog w K mg base 1 jR jM ux:=T.Sy.ok fun _ _ F=>Oq F T
 have gW:OkF l.prog w K mg base 2 i_ iZ (gP (K:=K)):=T.NK.ok fun _ _ F=>Nm F T dB jh
 have h_:OkX l.prog w K mg base 3 iw iy (g_ (K:=K)):=T.Ho.okX fun _ _ F=>Ey F T jr gW
 have wX:OkX l.prog w K mg base 2 dM dN jl:=T.xr.okX fun _ _ F=>vX F T jr
 have FQ:OkX l.prog w K mg base 3 fH fG (ou (K:=K)):=T.Cd.okX fun _ _ F=>Ai F T gW pO
 have jg:OkI l.prog w K mg base (CXO l.prog w) 4 D.Door_init jk (jo (K:=K) D):=T.HY.ok fun _ F=>JD F T h_
 have rM:OkI l.prog w K mg base (CXO l.prog w) 5 D.Sure_init lC (qZ (K:=K) D):=T.Kp.ok fun _ F=>Ke F T jg wX
 have tO:OkI l.prog w K mg base CX0 1 D.Door_ways kE (nF D):=T.Jb.ok fun _ F=>Iv F T
 have Im:OkF l.prog w K mg base 2 uR sY xg:=T.aae.ok fun _ _ F=>W_ F jh
 have Zo:OkF l.prog w K mg base 3 sH uo wL:=T.f_total.ok fun _ _ F=>Wi F T Im nQ
 have U3:OkX l.prog w K mg base 4 iQ iJ j9:=T.Et.okX fun _ _ F=>Cp F T wX FQ Zo.wild
 have Ua:OkX l.prog w K mg base 4 iW jc (vo K):=T.EY.okX fun _ _ F=>Cv F T abj.wild
 have dU:OkI l.prog w K mg base (CXO l.prog w) 5 D.Mixed_init fV (fU K D):=T.Fj.ok fun _ F=>Eo F T jg U3 Ua
 have rA:OkI l.prog w K mg base (CXO l.prog w) 6 D.Toss_init lM (rN K D):=T.Jz.ok fun _ F=>Ik F T h_ FQ Ze.wild dU
 have qM:OkI l.prog w K mg base (CXO l.prog w) 6 D.Even_init k_ (qU K D):=T.Jf.ok fun _ F=>JR F T dU
 have qe:OkF l.prog w K mg base 3 iT iR (lu (K:=K)):=T.En.ok fun _ _ F=>DW F T gW pO
 have rP:OkF l.prog w K mg base 2 jA jz mL:=T.Ji.ok fun _ _ F=>Fv F T jr
 have nq:OkF l.prog w K mg base 2 gF gw (ji D):=T.z8.ok fun _ _ F=>zQ F T tO
 have sW:OkF l.prog w K mg base 3 j8 kZ (nH D):=T.K8.ok fun _ _ F=>Jk F T nq
 have Mu:OkI l.prog w K mg base CX0 4 D.Hall_init lA (qX K D):=T.JX.ok fun _ F=>Jd F T qe rP sW
 have cI:OkI l.prog w K mg base CX0 1 D.Hall_size dX (cX D):=T.J_.ok fun _ F=>JK F T
 have d7:OkI l.prog w K mg base CX0 2 D.Hall_check_room cM (iz D):=T.oV.ok fun _ F=>vZ F T dB cI
 have qb:OkI l.prog w K mg base CX0 1 D.NoRoom_init iK (uD D.NoRoom):=T.DY.ok fun _ F=>Bs F T
 have jK:OkI l.prog w K mg base (CXO l.prog w) 3 D.Hall_check_room cM (zG D):=T.oV.ok fun _ F=>Dz F T dB cI qb
 have qg:OkI l.prog w K mg base CX0 3 D.Hall_offers iU (lG D):=T.Ca.ok fun _ F=>CQ F T d7
 have d_:OkF l.prog w K mg base 1 jm je fK:=T.Wq.ok fun _ _ F=>Ti F T
 have Ou:OkF l.prog w K mg base 2 xK xY Ib:=T.abN.ok fun _ _ F=>YD F T d_
 have Av:OkF l.prog w K mg base 2 uy tR D_:=T.Yv.ok fun _ _ F=>Vc F T d_
 have Ii:OkF l.prog w K mg base 8 uc tW (Bw K D):=T.Zh.ok fun _ _ F=>Wb F T rM dU rA qM
 have Oz:OkF l.prog w K mg base 9 xQ yE (Jo K D):=T.abw.ok fun _ _ F=>YQ F T Av Ii Mu.wild
 have PK:OkF l.prog w K mg base 3 wH yd Aw:=T.abK.ok fun _ _ F=>YB F T d_ mR
 have Kh:∀ a ns,OkF l.prog w K mg base 4 tX sS (Bv K a ns):=fun a ns=>T.aap.ok fun _ _ F=>Xk F T a ns (oW a ns) d_ PK
 have Ir:OkF l.prog w K mg base 1 tK uI yO:=T.Y5.ok fun _ _ F=>Wa F T
 have nZ:OkF l.prog w K mg base 2 lY lQ (qQ gq):=T.SJ.ok fun _ _ F=>NP F T Ir
 have rH:OkF l.prog w K mg base 3 dR eO (mF D):=T.yp.ok fun _ _ F=>Fb F T cI d7
 have pY:OkX l.prog w K mg base 4 dR eO (gA D):=T.yp.okX fun _ _ F=>Br F T cI jK
 have lX:OkF l.prog w K mg base 4 j4 jX (mY D):=T.Ob.ok fun _ _ F=>K1 F T qg
 have mC:OkF l.prog w K mg base 3 jW jZ (mV l.prog w K mg base):=T.Nx.ok fun _ _ F=>Lj F T
 have oh:OkF l.prog w K mg base 1 lR lW oH:=T.TF.ok fun _ _ F=>Pg F T
 have lE:OkF l.prog w K mg base 5 dY eV (Hs D):=T.xU.ok fun _ _ F=>Er F T cI rH lX nZ mC oh
 have pX:OkX l.prog w K mg base 5 dY eV (gA D):=T.xU.okX fun _ _ F=>Du F T cI pY lX nZ mC oh
 have zO:OkF l.prog w K mg base 6 oO oR (wF D):=T.Um.ok fun _ _ F=>NQ F T pX
 have O1:OkF l.prog w K mg base 3 wM yJ Bl:=T.aa5.ok fun _ _ F=>ZM F T mR
 have Km:OkF l.prog w K mg base 4 tY tV Ej:=T.aaC.ok fun _ _ F=>X5 F T O1
 have Az:OkF l.prog w K mg base 2 uq t_ CG:=T.Zz.ok fun _ _ F=>Xq F T d_
 have U7:OkF l.prog w K mg base 1 Eh BP Oe:=T.acJ.ok fun _ _ F=>abL F T
 have zJ:OkF l.prog w K mg base 7 pA pI (v9 D):=T.TY.ok fun _ _ F=>Oo F T U7 zO
 have abp:OkF l.prog w K mg base 1 M_ La Xp:=T.aft.ok fun _ _ F=>aeR F T
 have G6:OkF l.prog w K mg base 2 xT yF Hv:=T.ab6.ok fun _ _ F=>aac F T abp
 have Pq:OkF l.prog w K mg base 1 xO yH Jr:=T.abg.ok fun _ _ F=>Zy F T
 have JG:OkF l.prog w K mg base 3 sI tZ CJ:=T.ZW.ok fun _ _ F=>U5 F T G6 Pq
 exact abZ F T oW Ou Kh Km Oz Az lE zJ JG
end K34
open PySem PySem.W PyProof.Rows
set_option maxRecDepth 100000 in
set_option maxHeartbeats 0 in
theorem PySem.Challenge.cw_chancehall_k34_sure_rooms_holds : PySem.Challenge.rw_chancehall_k34_sure_rooms.Holds := by
 w_on
 refine holds_law H34.wsd fun said=>?_
 refine holds_open (q:=H34.qv) (loose:=[]) (XP:=XL H34.qv []) (YP:=InK H34.KH) H34.left (InK.of H34.asK) InK.keeps H34.hX XL.keeps (by rfl) (by rfl) (by rfl) H34.hR (by rfl) said (by decide +kernel) ⟨rfl,rfl,rfl,rfl,rfl,by decide +kernel⟩ ?hw ?hc
 (case hw=>w_witness2)
 k_fill
 refine L2.aeF (l:=PySem.Challenge.rw_chancehall_k34_sure_rooms) (k:=10) (x := "_law_script") rfl rfl ⟨rfl,by decide,by decide⟩ (fun w h Y=>(show (H34.KH w.params).In h from Y)) ?F
 case F =>
  intro w mg fa h KX G hmg
  refine ⟨K34.K6,?_,fun base f fd F=>K34.law_fn ?T base f fd F⟩
  .exact L2.q_f 1 fun _ _ _ _ _ _ _=>rfl
  case T =>
   refine ⟨⟨68,81,93,105,117,136,268,289,308,327,344,429,153,154,251,258,265,286,305,324,341,386,393,400,407,414,421,426,133⟩,⟨L2.q_c,L2.q_c,L2.q_c,L2.q_c,L2.q_c,L2.q_c,L2.q_c,L2.q_c,L2.q_c,L2.q_c,L2.q_c,L2.q_c,L2.q_c,L2.q_c,L2.q_x,L2.q_x,L2.q_x,L2.q_x,by k_is,by k_is,by k_is,L2.q_g,L2.q_t,L2.q_t,L2.q_M,L2.q_4,L2.q_I,L2.q_m,L2.q_m,L2.q_n,L2.q_n,L2.q_n,L2.q_n,L2.q_n,L2.q_n,L2.q_M,L2.q_4,L2.q_I,L2.q_m,L2.q_m,L2.q_n,L2.q_n,L2.q_n,L2.q_n,L2.q_n,L2.q_n,L2.q_M,L2.q_4,L2.q_I,L2.q_m,L2.q_m,L2.q_n,L2.q_n,L2.q_n,L2.q_n,L2.q_n,L2.q_n,L2.q_M,L2.q_4,L2.q_I,L2.q_m,L2.q_m,L2.q_n,L2.q_n,L2.q_n,L2.q_n,L2.q_n,L2.q_n,L2.q_M,L2.q_4,L2.q_I,L2.q_m,L2.q_m,L2.q_n,L2.q_n,L2.q_n,L2.q_n,L2.q_n,L2.q_n,L2.q_M,L2.q_4,L2.q_I,L2.q_m,L2.q_m,L2.q_m,L2.q_m,L2.q_m,L2.q_m,L2.q_n,L2.q_n,L2.q_n,L2.q_n,L2.q_n,L2.q_n,L2.q_E,L2.q_S,L2.q_5,by k_is,by k_is,L2.q_n,L2.q_b,L2.q_B,L2.q_h 3 fun _ _ _ _ _ _ _ _ _=>rfl,L2.q_B,L2.q_h 1 fun _ _ _ _ _ _ _=>rfl,L2.q_B,L2.q_h 2 fun _ _ _ _ _ _ _ _=>rfl,L2.q_B,L2.q_h 4 fun _ _ _ _ _ _ _ _ _ _=>rfl,L2.q_B,L2.q_h 4 fun _ _ _ _ _ _ _ _ _ _=>rfl,L2.q_B,L2.q_h 6 fun _ _ _ _ _ _ _ _ _ _ _ _=>rfl,L2.q_B,L2.q_h 4 fun _ _ _ _ _ _ _ _ _ _=>rfl,L2.q_B,L2.q_h 3 fun _ _ _ _ _ _ _ _ _=>rfl,L2.q_B,L2.q_h 1 fun _ _ _ _ _ _ _=>rfl,L2.q_B,L2.q_h 1 fun _ _ _ _ _ _ _=>rfl,L2.q_B,L2.q_h 2 fun _ _ _ _ _ _ _ _=>rfl,L2.q_B,L2.q_h 2 fun _ _ _ _ _ _ _ _=>rfl,L2.q_B,L2.q_h 3 fun _ _ _ _ _ _ _ _ _=>rfl,L2.q_B,L2.q_h 2 fun _ _ _ _ _ _ _ _=>rfl,L2.q_h 2 fun _ _ _ _ _ _ _ _=>rfl,L2.q_z,L2.q_z,L2.q_z,L2.q_z,L2.q_z,L2.q_z,L2.q_z,L2.q_z,L2.q_z,L2.q_z,L2.q_z,L2.q_z,L2.q_z,L2.q_z,L2.q_z,L2.q_z,L2.q_f 1 fun _ _ _ _ _ _ _=>rfl,L2.q_f 2 fun _ _ _ _ _ _ _ _=>rfl,L2.q_f 2 fun _ _ _ _ _ _ _ _=>rfl,L2.q_f 2 fun _ _ _ _ _ _ _ _=>rfl,L2.q_f 2 fun _ _ _ _ _ _ _ _=>rfl,L2.q_f 3 fun _ _ _ _ _ _ _ _ _=>rfl,L2.q_f 2 fun _ _ _ _ _ _ _ _=>rfl,L2.q_f 2 fun _ _ _ _ _ _ _ _=>rfl,L2.q_f 1 fun _ _ _ _ _ _ _=>rfl,L2.q_f 2 fun _ _ _ _ _ _ _ _=>rfl,L2.q_f 2 fun _ _ _ _ _ _ _ _=>rfl,L2.q_f 1 fun _ _ _ _ _ _ _=>rfl,L2.q_f 2 fun _ _ _ _ _ _ _ _=>rfl,L2.q_f 2 fun _ _ _ _ _ _ _ _=>rfl,L2.q_f 2 fun _ _ _ _ _ _ _ _=>rfl,L2.q_f 1 fun _ _ _ _ _ _ _=>rfl,L2.q_f 1 fun _ _ _ _ _ _ _=>rfl,L2.q_f 1 fun _ _ _ _ _ _ _=>rfl,L2.q_f 2 fun _ _ _ _ _ _ _ _=>rfl,L2.q_f 1 fun _ _ _ _ _ _ _=>rfl,L2.q_f 1 fun _ _ _ _ _ _ _=>rfl,L2.q_f 1 fun _ _ _ _ _ _ _=>rfl,L2.q_f 1 fun _ _ _ _ _ _ _=>rfl,L2.q_f 1 fun _ _ _ _ _ _ _=>rfl,L2.q_f 1 fun _ _ _ _ _ _ _=>rfl,L2.q_f 2 fun _ _ _ _ _ _ _ _=>rfl,L2.q_f 2 fun _ _ _ _ _ _ _ _=>rfl,L2.q_f 2 fun _ _ _ _ _ _ _ _=>rfl,L2.q_f 2 fun _ _ _ _ _ _ _ _=>rfl,L2.q_f 2 fun _ _ _ _ _ _ _ _=>rfl,L2.q_f 2 fun _ _ _ _ _ _ _ _=>rfl,L2.q_f 2 fun _ _ _ _ _ _ _ _=>rfl,L2.q_f 2 fun _ _ _ _ _ _ _ _=>rfl,L2.q_f 4 fun _ _ _ _ _ _ _ _ _ _=>rfl,L2.q_f 3 fun _ _ _ _ _ _ _ _ _=>rfl,L2.q_f 3 fun _ _ _ _ _ _ _ _ _=>rfl,L2.q_f 1 fun _ _ _ _ _ _ _=>rfl,L2.q_f 1 fun _ _ _ _ _ _ _=>rfl,L2.q_f 1 fun _ _ _ _ _ _ _=>rfl,L2.q_f 2 fun _ _ _ _ _ _ _ _=>rfl,L2.q_f 3 fun _ _ _ _ _ _ _ _ _=>rfl,L2.q_f 3 fun _ _ _ _ _ _ _ _ _=>rfl,L2.q_f 1 fun _ _ _ _ _ _ _=>rfl,L2.q_f 3 fun _ _ _ _ _ _ _ _ _=>rfl,L2.q_f 2 fun _ _ _ _ _ _ _ _=>rfl,L2.q_f 2 fun _ _ _ _ _ _ _ _=>rfl,L2.q_f 4 fun _ _ _ _ _ _ _ _ _ _=>rfl⟩⟩
#print axioms PySem.Challenge.cw_chancehall_k34_sure_rooms_holds
