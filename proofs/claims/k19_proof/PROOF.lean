import PyProof.Rows.All
import Wide.All
import OpenK.AllK
import Wide.FinOn
import Lean
import PyProof.EqAt
import PyProof.EqKinds
import PyProof.TupleCall
import PyProof.EqLayable
import KE.KIntText
import PyProof.EnumMake
import PyProof.EnumStmt
import PyProof.EnumFor
import PyProof.Rows.EnumRows
import PySem.Challenge.RW_chancehall_k19_whole_heavy_rows
set_option Elab.async false
set_option linter.all false
set_option maxRecDepth 100000
namespace L2
open PySem PySem.Spec PyProof.Rows
abbrev Key := Sum Int Str
def keyIs : Key → Value → Bool
  | .inl k, v => Value.isInt k v
  | .inr x, v => Value.isStrOf x v
def keyH (w : World) : Key → Int
  | .inl k => hashInt k
  | .inr x => hashStr w x
theorem keyIs_shape : ∀ {k : Key} {v : Value}, keyIs k v = true → (∃ i t, k = Sum.inl i ∧ v = Value.int i t) ∨ (∃ x t, k = Sum.inr x ∧ v = Value.str x t)
  | .inl i, v, h => by
    obtain ⟨t, e⟩ := Value.isInt_shape (k := i) (v := v) h
    exact .inl ⟨i, t, rfl, e⟩
  | .inr x, v, h => by
    obtain ⟨t, e⟩ := Value.isStrOf_shape (x := x) (v := v) h
    exact .inr ⟨x, t, rfl, e⟩
theorem key_ll (a b : Int) : decide ((Sum.inl a : Key) = Sum.inl b) = (a == b) := by
  by_cases e : a = b
  · subst e; simp
  · have h : ¬ (Sum.inl a : Key) = Sum.inl b := fun q => e (Sum.inl.inj q)
    rw [decide_eq_false h]
    exact (beq_eq_false_iff_ne.mpr e).symm
theorem key_rr (a b : Str) : decide ((Sum.inr a : Key) = Sum.inr b) = decide (a = b) := by
  by_cases e : a = b
  · subst e; simp
  · have h : ¬ (Sum.inr a : Key) = Sum.inr b := fun q => e (Sum.inr.inj q)
    rw [decide_eq_false h, decide_eq_false e]
theorem key_lr (a : Int) (b : Str) : decide ((Sum.inl a : Key) = Sum.inr b) = false := decide_eq_false (fun q => nomatch q)
theorem key_rl (a : Str) (b : Int) : decide ((Sum.inr a : Key) = Sum.inl b) = false := decide_eq_false (fun q => nomatch q)
def mixKind (prog : Program) (w : World) : PySem.KeyKind prog w Key where
  is := keyIs
  hash := keyH w
  inj := fun v a b ha hb => by
    rcases keyIs_shape ha with ⟨i, t, rfl, rfl⟩ | ⟨x, t, rfl, rfl⟩
    · rcases keyIs_shape hb with ⟨j, u, rfl, e⟩ | ⟨y, u, rfl, e⟩
      · injection e with e1 _; rw [e1]
      · exact nomatch e
    · rcases keyIs_shape hb with ⟨j, u, rfl, e⟩ | ⟨y, u, rfl, e⟩
      · exact nomatch e
      · injection e with e1 _; rw [e1]
  byValue := fun k v h => by
    rcases keyIs_shape h with ⟨i, t, rfl, rfl⟩ | ⟨x, t, rfl, rfl⟩ <;> rfl
  pyHash := fun hv h => by
    rcases keyIs_shape hv with ⟨i, t, rfl, rfl⟩ | ⟨x, t, rfl, rfl⟩
    · exact wpAny_pyHash_int h
    · exact wpAny_pyHash_str h
  eqBool := fun hu hv h => by
    rcases keyIs_shape hu with ⟨i, t, rfl, rfl⟩ | ⟨x, t, rfl, rfl⟩
    · rcases keyIs_shape hv with ⟨j, u, rfl, rfl⟩ | ⟨y, u, rfl, rfl⟩
      · rw [key_ll] at h; exact wpAny_eqBool_int h
      · rw [key_lr] at h; exact SeqAt.EqAt.int_str i t y u _ _ _ _ h
    · rcases keyIs_shape hv with ⟨j, u, rfl, rfl⟩ | ⟨y, u, rfl, rfl⟩
      · rw [key_rl] at h; exact SeqAt.EqAt.str_int x t j u _ _ _ _ h
      · rw [key_rr] at h; exact wpAny_eqBool_str h
  «strs» := fun k x t v h => by
    rcases keyIs_shape h with ⟨i, u, rfl, e⟩ | ⟨y, u, rfl, e⟩
    · exact nomatch e
    · injection e with e1 _
      subst e1
      cases v <;> rfl
end L2
namespace L2
open PySem PySem.Spec PyProof.Rows
inductive V where
  | non | bl (b : Bool) | int (i : Int) | str (x : Str) | byt (b : Array UInt8) | flt (b : UInt64) | ref (a : Addr) | ty (n : String)
  deriving DecidableEq
def RelV : V → Value → Prop
  | .non, u => u = Value.none
  | .bl b, u => u = Value.bool b
  | .int i, u => ∃ t, u = Value.int i t
  | .str x, u => ∃ t, u = Value.str x t
  | .byt b, u => ∃ t, u = Value.bytes b t
  | .flt b, u => ∃ t, u = Value.float b t
  | .ref a, u => u = Value.ref a
  | .ty n, u => u = Value.type n
abbrev Vals : List V → List Value → Prop := Paired RelV
theorem Vals.length {xs : List V} {us : List Value} (r : Vals xs us) : xs.length = us.length := Paired.length r
theorem Vals.get : ∀ {xs : List V} {us : List Value} {i : Nat} {x : V}, Vals xs us → xs[i]? = some x → ∃ u, us[i]? = some u ∧ RelV x u
  | _, _, _, _, .nil, e => by simp at e
  | _, _, 0, _, .cons r _, e => by simp at e; subst e; exact ⟨_, rfl, r⟩
  | _, _, i + 1, x, .cons _ t, e => by
    obtain ⟨u, h1, h2⟩ := Vals.get (i := i) (x := x) t (by simpa using e)
    exact ⟨u, by simpa using h1, h2⟩
theorem Vals.set {x : V} {u : Value} (r : RelV x u) : ∀ {xs : List V} {us : List Value} (i : Nat), Vals xs us → Vals (xs.set i x) (us.set i u)
  | _, _, _, .nil => .nil
  | _, _, 0, .cons _ t => .cons r t
  | _, _, i + 1, .cons q t => .cons q (Vals.set r i t)
theorem Vals.append : ∀ {xs ys : List V} {us ws : List Value}, Vals xs us → Vals ys ws → Vals (xs ++ ys) (us ++ ws)
  | _, _, _, _, .nil, s => s
  | _, _, _, _, .cons r t, s => .cons r (Vals.append t s)
theorem Vals.take : ∀ {xs : List V} {us : List Value} (n : Nat), Vals xs us → Vals (xs.take n) (us.take n)
  | _, _, 0, _ => .nil
  | _, _, _ + 1, .nil => .nil
  | _, _, n + 1, .cons r t => .cons r (Vals.take n t)
theorem Vals.drop : ∀ {xs : List V} {us : List Value} (n : Nat), Vals xs us → Vals (xs.drop n) (us.drop n)
  | _, _, 0, r => r
  | _, _, _ + 1, .nil => .nil
  | _, _, n + 1, .cons _ t => Vals.drop n t
def RelO : Option V → Option Value → Prop
  | some v, some u => RelV v u
  | none, none => True
  | _, _ => False
def KV {κ : Type} : List (κ × V) → List (κ × Value) → Prop := Paired fun (p : κ × V) (q : κ × Value) => p.1 = q.1 ∧ RelV p.2 q.2
def kV : Key → V
  | .inl i => .int i
  | .inr x => .str x
inductive HO where
    | lst (xs : List V)
    | tup (xs : List V)
    | dK (kvs : List (Key × V))
    | set (S : Int → Bool) (n : Nat)
    | ins (C dx : Addr) (fs : List (Str × V))
    | own (x : Addr)
    | xd (fs : List (Str × V))
    | met (f x : Addr)
    | rng (lo hi : Int)
    | frz (o : Obj) (u : HO)
    | tbl (ps : Array Value)
    | ext (φ : Heap → Prop)
abbrev Hp := Addr → Option HO
def upd (H : Hp) (a : Addr) (o : HO) : Hp := fun b => if b = a then some o else H b
theorem upd_same {H : Hp} {a : Addr} {o : HO} : upd H a o a = some o := by unfold upd; rw [if_pos rfl]
theorem upd_ne {H : Hp} {a b : Addr} {o : HO} (h : b ≠ a) : upd H a o b = H b := by unfold upd; rw [if_neg h]
theorem upd_upd {H : Hp} {a : Addr} {o u : HO} : upd (upd H a o) a u = upd H a u := by
  funext b; unfold upd; split <;> rfl
theorem ne_of {H : Hp} {a b : Addr} {o u : HO} (h : H a = some o) (h' : H b = some u) (d : o ≠ u) : a ≠ b := by
  intro e; subst e; rw [h] at h'; exact d (Option.some.inj h')
theorem ne_of_none {H : Hp} {a b : Addr} {o : HO} (h : H a = some o) (h' : H b = none) : a ≠ b := by
  intro e; subst e; rw [h] at h'; cases h'
section
variable (P : Program) (w : World)
def ObjOk (H : Hp) (h : Heap) (a : Addr) : HO → Prop
  | .lst xs => xs.length ≤ sizeLine ∧ ∃ (its : List Value) (n : Nat), Vals xs its ∧ h.get? a = some { cls := .type "list", data := .seq its.toArray n }
  | .tup xs => xs.length ≤ sizeLine ∧ ∃ its : List Value, Vals xs its ∧ IsTup h a its.toArray
  | .dK kvs => kvs.length ≤ sizeLine ∧ (a == sysModules) = false ∧ ∃ vs, KV kvs vs ∧ h.DictOf (mixKind P w) a vs
  | .set S n => h.SetOf (intKind P w) a S n
  | .ins C dx fs => H dx = some (.own a) ∧ fs.length ≤ 1000 ∧ dx ≠ a ∧ h.get? a = some (PySem.W.instObj C dx) ∧
      ∃ mA, h.Ns1 dx mA ∧ (∀ f, RelO (fs.lookup f) (mA f)) ∧ PySem.Within mA (fs.map (·.1))
  | .own _ => ∃ o, h.get? a = some o
  | .xd fs => ∃ mA, h.Ns1 a mA ∧ ∀ f, RelO (fs.lookup f) (mA f)
  | .rng lo hi => ∃ t u v, h.get? a = some { cls := .type "range", data := .fields #[.int lo t, .int hi u, .int 1 v] }
  | .frz o u => h.get? a = some o ∧ ObjOk H h a u
  | .tbl ps => h.get? a = some { cls := .none, data := .fields ps }
  | .met f x => h.get? a = some (PySem.W.methodObj (.ref f) (.ref x))
  | .ext φ => φ h ∧ (∃ o, h.get? a = some o) ∧ ∀ h1 h2 : Heap, φ h1 → (∀ o, h1.get? a = some o → h2.get? a = some o) → φ h2
def HOk (H : Hp) (h : Heap) : Prop := ∀ a o, H a = some o → ObjOk P w H h a o
end
section
variable {P : Program} {w : World} {H H' : Hp} {h h' : Heap} {a : Addr} {o : HO}
theorem ObjOk.lt (x : ObjOk P w H h a o) : a < h.objs.size := by
  cases o with
  | lst xs => obtain ⟨_, _, _, _, e⟩ := x; exact Heap.lt_size e
  | tup xs => obtain ⟨_, _, _, p⟩ := x; exact p.lt
  | dK kvs => obtain ⟨_, _, _, _, o, _, _, e, _⟩ := x; exact Heap.lt_size e
  | set S n => obtain ⟨o, _, _, _, e, _⟩ := x; exact Heap.lt_size e
  | ins C dx fs => obtain ⟨_, _, _, e, _⟩ := x; exact Heap.lt_size e
  | own y => obtain ⟨_, e⟩ := x; exact Heap.lt_size e
  | xd fs => obtain ⟨_, ⟨_, _, _, e, _⟩, _⟩ := x; exact Heap.lt_size e
  | rng lo hi => obtain ⟨_, _, _, e⟩ := x; exact Heap.lt_size e
  | frz ob u => obtain ⟨e, _⟩ := x; exact Heap.lt_size e
  | tbl ps => exact Heap.lt_size (show h.get? a = some _ from x)
  | met f y => exact Heap.lt_size (show h.get? a = some _ from x)
  | ext φ => obtain ⟨_, ⟨_, e⟩, _⟩ := x; exact Heap.lt_size e
theorem ObjOk.stay (x : ObjOk P w H h a o) (k : ∀ b u, (b = a ∨ H b = some (.own a)) → h.get? b = some u → h'.get? b = some u)
    (ho : ∀ b, H b = some (.own a) → H' b = some (.own a)) (ht : ∀ b xs, H b = some (.tup xs) → H' b = some (.tup xs)) : ObjOk P w H' h' a o := by
  induction o with
  | lst xs => obtain ⟨z, its, n, r, e⟩ := x; exact ⟨z, its, n, r, k _ _ (.inl rfl) e⟩
  | tup xs => obtain ⟨z, its, r, ob, e, c⟩ := x; exact ⟨z, its, r, ob, k _ _ (.inl rfl) e, c⟩
  | dK kvs => obtain ⟨z, y, vs, r, ob, es, ep, e, c⟩ := x; exact ⟨z, y, vs, r, ob, es, ep, k _ _ (.inl rfl) e, c⟩
  | set S n => obtain ⟨ob, es, ep, t, e, c⟩ := x; exact ⟨ob, es, ep, t, k _ _ (.inl rfl) e, c⟩
  | ins C dx fs =>
    obtain ⟨d, z, ne, e, mA, ⟨od, es, ep, e2, c⟩, r⟩ := x
    exact ⟨ho _ d, z, ne, k _ _ (.inl rfl) e, mA, ⟨od, es, ep, k _ _ (.inr d) e2, c⟩, r⟩
  | own y => obtain ⟨ob, e⟩ := x; exact ⟨ob, k _ _ (.inl rfl) e⟩
  | xd fs => obtain ⟨mA, ⟨od, es, ep, e, c⟩, r⟩ := x; exact ⟨mA, ⟨od, es, ep, k _ _ (.inl rfl) e, c⟩, r⟩
  | rng lo hi => obtain ⟨t, u, v, e⟩ := x; exact ⟨t, u, v, k _ _ (.inl rfl) e⟩
  | frz ob u ih => obtain ⟨e, q⟩ := x; exact ⟨k _ _ (.inl rfl) e, ih q⟩
  | tbl ps =>
    have e : h.get? a = some { cls := .none, data := .fields ps } := x
    show h'.get? a = some { cls := .none, data := .fields ps }
    exact k a _ (.inl rfl) e
  | met f y =>
    have e : h.get? a = some (PySem.W.methodObj (.ref f) (.ref y)) := x
    show h'.get? a = some (PySem.W.methodObj (.ref f) (.ref y))
    exact k a _ (.inl rfl) e
  | ext φ => obtain ⟨p, ⟨o, e⟩, st⟩ := x; exact ⟨st _ _ p fun o q => k _ _ (.inl rfl) q, ⟨o, k _ _ (.inl rfl) e⟩, st⟩
theorem HOk.lt (x : HOk P w H h) (e : H a = some o) : a < h.objs.size := (x a o e).lt
theorem HOk.fresh (x : HOk P w H h) (e : h.objs.size ≤ a) : H a = none := by
  cases q : H a with
  | none => rfl
  | some u => exact absurd (Nat.lt_of_lt_of_le (x.lt q) e) (Nat.lt_irrefl _)
theorem HOk.kept (x : HOk P w H h) (k : ∀ b u, h.get? b = some u → h'.get? b = some u) : HOk P w H h' := fun a o e =>
  (x a o e).stay (fun b u _ q => k b u q) (fun _ q => q) fun _ _ q => q
theorem HOk.laid (x : HOk P w H h) (k : ∀ b u, h.get? b = some u → h'.get? b = some u) (hp : h.objs.size ≤ a) (new : ObjOk P w (upd H a o) h' a o) : HOk P w (upd H a o) h' := fun b u e => by
  have hn := x.fresh hp
  by_cases hb : b = a
  · subst hb; rw [upd_same] at e; cases e; exact new
  · rw [upd_ne hb] at e
    exact (x b u e).stay (fun c v _ q => k c v q) (fun c q => by rw [upd_ne (ne_of_none q hn)]; exact q) fun c xs q => by rw [upd_ne (ne_of_none q hn)]; exact q
end
def Rd (H : Hp) (a : Addr) (u : HO) : Prop := H a = some u ∨ ∃ o, H a = some (.frz o u)
theorem Rd.of {H : Hp} {a : Addr} {u : HO} (h : H a = some u) : Rd H a u := .inl h
theorem Rd.ok {P : Program} {w : World} {H : Hp} {h : Heap} {a : Addr} {u : HO} (r : Rd H a u) (x : HOk P w H h) : ObjOk P w H h a u := by
  rcases r with r | ⟨o, r⟩
  · exact x a u r
  · obtain ⟨_, q⟩ := x a _ r
    exact q
def Mut : Option HO → Prop
  | some (.lst _) => True
  | some (.dK _) => True
  | some (.set _ _) => True
  | some (.ins _ _ _) => True
  | some (.ext _) => True
  | _ => False
section
variable {P : Program} {w : World} {H : Hp} {h h' : Heap} {x e : Addr} {o' : HO}
theorem HOk.write (ok : HOk P w H h) (mu : Mut (H x)) (he : e = x ∨ H e = some (.own x)) (k : ∀ b u, b ≠ e → h.get? b = some u → h'.get? b = some u) (heo : ∃ u, h'.get? e = some u)
    (new : ObjOk P w (upd H x o') h' x o') : HOk P w (upd H x o') h' := fun b u q => by
  have nown : ∀ c y, H c = some (.own y) → c ≠ x := fun c y r z => by subst z; rw [r] at mu; exact mu
  have ntup : ∀ c xs, H c = some (.tup xs) → c ≠ x := fun c xs r z => by subst z; rw [r] at mu; exact mu
  by_cases hb : b = x
  · subst hb; rw [upd_same] at q; cases q; exact new
  · rw [upd_ne hb] at q
    by_cases hbe : b = e
    · have q' : H b = some (.own x) := by
        rcases he with z | z
        · exact absurd (hbe.trans z) hb
        · rw [hbe]; exact z
      rw [q] at q'; cases q'
      obtain ⟨v, hv⟩ := heo
      exact ⟨v, by rw [hbe]; exact hv⟩
    · refine (ok b u q).stay (fun c v hc r => k c v ?_ r) (fun c r => by rw [upd_ne (nown c b r)]; exact r) fun c xs r => by rw [upd_ne (ntup c xs r)]; exact r
      rcases hc with rfl | hc
      · exact hbe
      · rintro rfl
        rcases he with z | z
        · exact nown c b hc z
        · rw [hc] at z; cases z; exact hb rfl
end
structure Un (fs ex : List Addr) (H H' : Hp) (h h' : Heap) : Prop where
  keep : ∀ b o, h.get? b = some o → H b = none → b ∉ fs → b ∉ ex → h'.get? b = some o
  slot : ∀ b o, h.get? b = some o → H b = none → b ∈ fs → b ∉ ex → ∃ sl, h'.get? b = some { o with slots := sl }
  free : ∀ b o, h.get? b = some o → H b = none → b ∉ ex → H' b = none
  there : ∀ b o, h.get? b = some o → b ∉ ex → ∃ o', h'.get? b = some o'
  tups : ∀ b xs, H b = some (.tup xs) → H' b = some (.tup xs)
  frzs : ∀ b o u, H b = some (.frz o u) → H' b = some (.frz o u)
  tbls : ∀ b ps, H b = some (.tbl ps) → ∃ more, H' b = some (.tbl (ps ++ more))
section
variable {fs fs' ex ex' : List Addr} {H H1 H2 : Hp} {h h1 h2 h' : Heap} {a x e : Addr} {o : HO}
theorem Un.any (u : Un fs ex H H1 h h1) {b : Addr} {ob : Obj} (q : h.get? b = some ob) (n : H b = none) (hx : b ∉ ex) : ∃ sl, h1.get? b = some { ob with slots := sl } := by
  by_cases hb : b ∈ fs
  · exact u.slot b ob q n hb hx
  · exact ⟨ob.slots, u.keep b ob q n hb hx⟩
theorem Un.kept (k : ∀ b u, h.get? b = some u → h'.get? b = some u) : Un fs ex H H h h' :=
  ⟨fun b ob q _ _ _ => k b ob q, fun b ob q _ _ _ => ⟨ob.slots, k b ob q⟩, fun _ _ _ n _ => n, fun b ob q _ => ⟨ob, k b ob q⟩, fun _ _ q => q, fun _ _ _ q => q, fun _ ps q => ⟨#[], by rw [q]; simp⟩⟩
theorem Un.refl : Un fs ex H H h h := Un.kept fun _ _ q => q
theorem Un.laid (k : ∀ b u, h.get? b = some u → h'.get? b = some u) (hp : h.objs.size ≤ a) (hn : H a = none) : Un fs ex H (upd H a o) h h' where
  keep := fun b u q _ _ _ => k b u q
  slot := fun b u q _ _ _ => ⟨u.slots, k b u q⟩
  free := fun b u q n _ => by rw [upd_ne (Nat.ne_of_lt (Nat.lt_of_lt_of_le (Heap.lt_size q) hp))]; exact n
  there := fun b u q _ => ⟨u, k b u q⟩
  tups := fun b xs q => by rw [upd_ne (ne_of_none q hn)]; exact q
  frzs := fun b u xs q => by rw [upd_ne (ne_of_none q hn)]; exact q
  tbls := fun b ps q => ⟨#[], by rw [upd_ne (ne_of_none q hn), q]; simp⟩
theorem Un.write (mu : Mut (H x)) (he : e = x ∨ H e = some (.own x)) (k : ∀ b u, b ≠ e → h.get? b = some u → h'.get? b = some u) (heo : ∃ u, h'.get? e = some u) : Un fs ex H (upd H x o) h h' := by
  have hx : ∀ b, H b = none → b ≠ x := fun b n z => by subst z; rw [n] at mu; exact mu
  have hb : ∀ b, H b = none → b ≠ e := fun b n z => by
    subst z
    rcases he with r | r
    · exact hx b n r
    · rw [n] at r; cases r
  have hm : ∀ b u, H b = some u → ¬ Mut (some u) → b ≠ x := fun b u q nm z => by subst z; rw [q] at mu; exact nm mu
  refine ⟨fun b u q n _ _ => k b u (hb b n) q, fun b u q n _ _ => ⟨u.slots, k b u (hb b n) q⟩, fun b u q n _ => by rw [upd_ne (hx b n)]; exact n, fun b u q _ => ?_,
    fun b xs q => by rw [upd_ne (hm b _ q fun z => z)]; exact q, fun b u xs q => by rw [upd_ne (hm b _ q fun z => z)]; exact q, fun b ps q => ⟨#[], by rw [upd_ne (hm b _ q fun z => z), q]; simp⟩⟩
  by_cases hbe : b = e
  · subst hbe; exact heo
  · exact ⟨u, k b u hbe q⟩
end
def trk (h : Heap) (H : Hp) : List Addr := (List.range h.objs.size).filter fun a => (H a).isSome
def hidT (h : Heap) (H : Hp) : Heap := PySem.W.hideAll h (trk h H)
theorem hidT_size (h : Heap) (H : Hp) : (hidT h H).objs.size = h.objs.size := PySem.W.hideAll_size _ _
theorem hidT_get {h : Heap} {H : Hp} {b : Addr} {o : Obj} (e : h.get? b = some o) (n : H b = none) : (hidT h H).get? b = some o :=
  PySem.W.hideAll_get _ e fun hm => by
    have q : (H b).isSome = true := (List.mem_filter.mp hm).2
    rw [n] at q; simp at q
theorem of_hidT {h : Heap} {H : Hp} {b : Addr} {o : Obj} (e : (hidT h H).get? b = some o) : h.get? b = some o ∧ H b = none := by
  have e' : h.get? b = some o := PySem.W.of_hideAll (trk h H) e
  refine ⟨e', ?_⟩
  cases q : H b with
  | none => rfl
  | some x =>
    have hm : b ∈ trk h H := List.mem_filter.mpr ⟨List.mem_range.mpr (Heap.lt_size e'), by simp [q]⟩
    have z : (hidT h H).get? b = none := PySem.W.hideAll_none (trk h H) hm
    rw [z] at e; cases e
def allNews (g h : Heap) (L : Addr) : List (Addr × Obj) := (List.range h.objs.size).filterMap fun a => if a = L ∨ (g.get? a).isSome = true then none else (h.get? a).map fun o => (a, o)
def rest (g h : Heap) (L d : Addr) : List (Addr × Obj) := (allNews g h L).filter fun p => decide (p.1 ≠ d)
end L2
namespace L2
open PySem PySem.Spec PyProof.Rows
structure Mod (K : PySem.W.Frag) (mg : Str → Option Value) (base : Heap) : Prop where
  kin : K.In base
  glob : base.Ns mainGlobals mg
  blt : ∃ mb, base.Ns builtinsNs mb ∧ ∀ x : Str, x ≠ "__name__" → mb x = bootBuiltins x
  nolimit : base.NoLimit
structure Cx where
  prog : Program
  w : World
  K : PySem.W.Frag
  mg : Str → Option Value
  base : Heap
  A : Around
  N : List Str
  s₀ : Shared
  H₀ : Hp
  env : Env
  outer : List Env
  stack : List Env
  ex : List Addr
  fn : Str → Bool
  calm : Bool
  pn : List (Addr × Obj)
  xe : Value → Shared → Prop
def frs (l : List Env) : List Addr := l.filterMap (·.frame)
abbrev Cx.fs (X : Cx) : List Addr := frs X.outer
def Vis (sc : Scope) (x : Str) : Prop := sc.names.lookup x = some .local ∨ sc.names.lookup x = some .cell ∨ sc.names.lookup x = some .free
def Loc (sc : Scope) (x : Str) : Prop := sc.names.lookup x = some .local ∨ sc.names.lookup x = some .cell
def Look (env : Env) (h : Heap) (m : Str → Option Value) (x : Str) (u : Value) : Prop :=
  (env.kindOf x = some .local ∧ m x = some u) ∨ ((env.kindOf x = some .cell ∨ env.kindOf x = some .free) ∧ ∃ c, env.cells.lookup x = some c ∧ h.IsCell c (some u))
structure Cx.Ok (X : Cx) : Prop where
  mod : Mod X.K X.mg X.base
  kind : X.env.scope.kind = .function
  glob : X.env.globals = mainGlobals
  blt : X.env.builtins = builtinsNs
  above : X.s₀.heap.objs.size ≤ X.env.locals
  inj : ∀ x y c, X.env.cells.lookup x = some c → X.env.cells.lookup y = some c → x = y
  has : ∀ x, (X.env.kindOf x = some .cell ∨ X.env.kindOf x = some .free) → ∃ c, X.env.cells.lookup x = some c
  cab : ∀ x c, X.fn x = true → X.env.cells.lookup x = some c → X.s₀.heap.objs.size ≤ c
  hd : X.calm = true → X.A.handled = none
  frames : X.A.frames = some X.stack
  stk : X.stack = X.outer ∨ (X.stack = X.env :: X.outer ∧ X.env.frame = some X.env.locals)
  exf : ∀ b ∈ X.ex, b ≠ X.env.locals ∧ ∀ x c, X.env.cells.lookup x = some c → c ≠ b
  bs : ∀ b o, X.base.get? b = some o → X.s₀.heap.get? b = some o ∧ X.H₀ b = none
  bsz : X.base.objs.size ≤ X.s₀.heap.objs.size
  noex : ∀ b o, X.base.get? b = some o → b ∉ X.ex
  exfs : ∀ b ∈ X.ex, b ∉ X.fs
  funs : X.s₀.heap.FunFrames X.base X.outer
  frf : ∀ b ∈ X.fs, X.H₀ b = none
structure Inv (X : Cx) (pins : List (Addr × Obj)) (σ : List (Option V)) (H : Hp) (s : Shared) : Prop where
  ok : X.Ok
  os : s.os = X.s₀.os
  bare : AllBare s.gens
  base : Un X.fs X.ex X.H₀ H X.s₀.heap s.heap
  loc : ∃ m, s.heap.Ns X.env.locals m ∧ ∀ (i : Nat) (x : Str) (v : V), X.N[i]? = some x → σ[i]? = some (some v) → Vis X.env.scope x → ∃ u, RelV v u ∧ Look X.env s.heap m x u
  cell : ∀ x c, X.env.cells.lookup x = some c → ∃ v, s.heap.IsCell c v
  free : H X.env.locals = none
  freeC : ∀ x c, X.env.cells.lookup x = some c → H c = none
  pin : ∀ p ∈ X.pn ++ pins, s.heap.get? p.1 = some p.2 ∧ H p.1 = none ∧ p.1 ≠ X.env.locals ∧ p.1 ∉ X.fs ∧ ∀ v, p.2.data ≠ .cell v
  hok : HOk X.prog X.w H s.heap
  len : σ.length = X.N.length
section
variable {X : Cx} {pins : List (Addr × Obj)} {σ : List (Option V)} {H H' : Hp} {s : Shared} {h' : Heap}
theorem Cx.Ok.nofr (ok : X.Ok) {b : Addr} {o : Obj} (e : X.base.get? b = some o) : b ∉ X.fs := fun hb => by
  have := (ok.funs.mem hb).1
  rw [e] at this; cases this
theorem Inv.bs (I : Inv X pins σ H s) : ∀ b o, X.base.get? b = some o → s.heap.get? b = some o ∧ H b = none := fun b o e =>
  ⟨I.base.keep b o (I.ok.bs b o e).1 (I.ok.bs b o e).2 (I.ok.nofr e) (I.ok.noex b o e), I.base.free b o (I.ok.bs b o e).1 (I.ok.bs b o e).2 (I.ok.noex b o e)⟩
theorem Inv.bk (I : Inv X pins σ H s) : ∀ b o, X.base.get? b = some o → s.heap.get? b = some o := fun b o e => (I.bs b o e).1
theorem Inv.mod (I : Inv X pins σ H s) : Mod X.K X.mg X.base := I.ok.mod
theorem Inv.kIn (I : Inv X pins σ H s) : X.K.In s.heap := I.ok.mod.kin.keeps I.bk
theorem Inv.fr (I : Inv X pins σ H s) : ∃ m, Fr X.base X.env.locals s.heap m :=
  let ⟨m, hn, _⟩ := I.loc
  ⟨m, hn, I.bk, Nat.le_trans I.ok.bsz I.ok.above⟩
theorem Inv.lt (I : Inv X pins σ H s) : X.env.locals < s.heap.objs.size := let ⟨_, hn, _⟩ := I.loc; hn.lt
theorem Inv.sz (I : Inv X pins σ H s) : X.s₀.heap.objs.size ≤ s.heap.objs.size := Nat.le_trans I.ok.above (Nat.le_of_lt I.lt)
theorem Inv.nofs (I : Inv X pins σ H s) {a : Addr} (h : s.heap.objs.size ≤ a) : a ∉ X.fs := fun hb => by
  obtain ⟨_, o, ho, _⟩ := I.ok.funs.mem hb
  exact absurd (Nat.lt_of_lt_of_le (Heap.lt_size ho) (Nat.le_trans I.sz h)) (Nat.lt_irrefl _)
theorem Inv.cne (I : Inv X pins σ H s) : ∀ x c, X.env.cells.lookup x = some c → c ≠ X.env.locals := fun x c e z => by
  obtain ⟨v, o, ho, hd⟩ := I.cell x c e
  obtain ⟨m, ⟨o', es, ep, ho', hd', _⟩, _⟩ := I.loc
  rw [z, ho'] at ho; cases ho; rw [hd'] at hd; cases hd
theorem Inv.funs (I : Inv X pins σ H s) : s.heap.FunFrames X.base X.outer := by
  have all : ∀ (l : List Env), (∀ b ∈ frs l, b ∈ X.fs) → X.s₀.heap.FunFrames X.base l → s.heap.FunFrames X.base l := by
    intro l
    induction l with
    | nil => intro _ _; trivial
    | cons env r ih =>
      intro hs hl
      obtain ⟨hk, ⟨L, o, hf, hn, ho, hd⟩, hr⟩ := hl
      have hL : L ∈ X.fs := hs L (by unfold frs; rw [List.filterMap_cons, hf]; exact List.mem_cons_self)
      obtain ⟨sl, e⟩ := I.base.slot L o ho (I.ok.frf L hL) hL fun z => I.ok.exfs L z hL
      exact ⟨hk, ⟨L, _, hf, hn, e, hd⟩, ih (fun b hb => hs b (by unfold frs; rw [List.filterMap_cons, hf]; exact List.mem_cons_of_mem _ hb)) hr⟩
  exact all X.outer (fun _ hb => hb) I.ok.funs
theorem Inv.stack (I : Inv X pins σ H s) : s.heap.FunFrames X.base X.stack := by
  rcases I.ok.stk with e | ⟨e, hf⟩
  · rw [e]; exact I.funs
  · rw [e]
    obtain ⟨m, hn, _⟩ := I.loc
    refine .cons (by rw [I.ok.kind]; decide) hf hn ?_ I.funs
    exact Heap.get?_none_of_le (Nat.le_trans I.ok.bsz I.ok.above)
theorem Inv.stkSub (I : Inv X pins σ H s) : ∀ b ∈ frs X.stack, b ∈ X.env.locals :: X.fs := fun b hb => by
  rcases I.ok.stk with e | ⟨e, hf⟩
  · rw [e] at hb; exact List.mem_cons_of_mem _ hb
  · rw [e] at hb
    unfold frs at hb
    rw [List.filterMap_cons, hf] at hb
    exact hb
theorem Inv.stkFree (I : Inv X pins σ H s) : ∀ b ∈ frs X.stack, H b = none := fun b hb => by
  rcases List.mem_cons.mp (I.stkSub b hb) with e | hb
  · rw [e]; exact I.free
  · obtain ⟨_, o, ho, _⟩ := I.ok.funs.mem hb
    exact I.base.free b o ho (I.ok.frf b hb) fun z => I.ok.exfs b z hb
theorem Inv.step {g' : Array GenState} {t' : Nat} {d' : Drawn} {ch : List Addr} (I : Inv X pins σ H s)
    (hch : ∀ b ∈ ch, (b ∈ X.ex ∨ X.s₀.heap.objs.size ≤ b) ∧ b ≠ X.env.locals ∧ (∀ x c, X.env.cells.lookup x = some c → c ≠ b) ∧ ∀ p ∈ X.pn ++ pins, p.1 ≠ b)
    (keep : ∀ b o, b ≠ X.env.locals → b ∉ X.fs → b ∉ ch → s.heap.get? b = some o → H b = none → h'.get? b = some o)
    (slot : ∀ b o, b ≠ X.env.locals → b ∈ X.fs → b ∉ ch → s.heap.get? b = some o → H b = none → ∃ sl, h'.get? b = some { o with slots := sl }) (free : ∀ b o, b ∉ ch → s.heap.get? b = some o → H b = none → H' b = none)
    (there : ∀ b o, b ∉ ch → s.heap.get? b = some o → ∃ o', h'.get? b = some o')
    (tups : ∀ b xs, H b = some (.tup xs) → H' b = some (.tup xs)) (frzs : ∀ b o u, H b = some (.frz o u) → H' b = some (.frz o u)) (tbls : ∀ b ps, H b = some (.tbl ps) → ∃ more, H' b = some (.tbl (ps ++ more)))
    (ns : ∀ m, s.heap.Ns X.env.locals m → h'.Ns X.env.locals m) (hok : HOk X.prog X.w H' h') (hg : AllBare g') :
    Inv X pins σ H' { s with heap := h', gens := g', drawn := d', toks := t' } := by
  have neL : ∀ b o, X.s₀.heap.get? b = some o → b ≠ X.env.locals := fun b o e => Nat.ne_of_lt (Nat.lt_of_lt_of_le (Heap.lt_size e) I.ok.above)
  have neC : ∀ b o, X.s₀.heap.get? b = some o → b ∉ X.ex → b ∉ ch := fun b o e hx hb => by
    rcases (hch b hb).1 with z | z
    · exact hx z
    · exact absurd (Nat.lt_of_lt_of_le (Heap.lt_size e) z) (Nat.lt_irrefl _)
  have cellK : ∀ x c, X.env.cells.lookup x = some c → ∀ v, s.heap.IsCell c v → h'.IsCell c v := fun x c e v ⟨o, ho, hd⟩ => by
    have nch : c ∉ ch := fun z => (hch c z).2.2.1 x c e rfl
    by_cases hc : c ∈ X.fs
    · obtain ⟨sl, q⟩ := slot c o (I.cne x c e) hc nch ho (I.freeC x c e)
      exact ⟨_, q, hd⟩
    · exact ⟨o, keep c o (I.cne x c e) hc nch ho (I.freeC x c e), hd⟩
  refine ⟨I.ok, I.os, hg, ⟨fun b o e n hb hx => ?_, fun b o e n hb hx => ?_, fun b o e n hx => ?_, fun b o e hx => ?_, fun b xs e => tups b xs (I.base.tups b xs e), fun b o xs e => frzs b o xs (I.base.frzs b o xs e), fun b ps e => ?_⟩, ?_, fun x c e => ?_, ?_, fun x c e => ?_, fun p hp => ?_, hok, I.len⟩
  · exact keep b o (neL b o e) hb (neC b o e hx) (I.base.keep b o e n hb hx) (I.base.free b o e n hx)
  · obtain ⟨sl, e1⟩ := I.base.slot b o e n hb hx
    obtain ⟨sl', e2⟩ := slot b _ (neL b o e) hb (neC b o e hx) e1 (I.base.free b o e n hx)
    exact ⟨sl', e2⟩
  · obtain ⟨o', e1⟩ := I.base.there b o e hx
    exact free b o' (neC b o e hx) e1 (I.base.free b o e n hx)
  · obtain ⟨o', e1⟩ := I.base.there b o e hx
    exact there b o' (neC b o e hx) e1
  · obtain ⟨m1, e1⟩ := I.base.tbls b ps e
    obtain ⟨m2, e2⟩ := tbls b _ e1
    exact ⟨m1 ++ m2, by rw [e2, Array.append_assoc]⟩
  · obtain ⟨m, hn, hl⟩ := I.loc
    refine ⟨m, ns m hn, fun i x v e1 e2 e3 => ?_⟩
    obtain ⟨u, r, l⟩ := hl i x v e1 e2 e3
    refine ⟨u, r, ?_⟩
    rcases l with l | ⟨k, c, e, z⟩
    · exact .inl l
    · exact .inr ⟨k, c, e, cellK x c e _ z⟩
  · obtain ⟨v, z⟩ := I.cell x c e
    exact ⟨v, cellK x c e v z⟩
  · obtain ⟨m, ⟨o, _, _, ho, _⟩, _⟩ := I.loc
    exact free _ o (fun z => (hch _ z).2.1 rfl) ho I.free
  · obtain ⟨v, o, ho, hd⟩ := I.cell x c e
    exact free c o (fun z => (hch c z).2.2.1 x c e rfl) ho (I.freeC x c e)
  · obtain ⟨e, n, ne, nf, d⟩ := I.pin p hp
    have nch : p.1 ∉ ch := fun z => (hch p.1 z).2.2.2 p hp rfl
    exact ⟨keep p.1 p.2 ne nf nch e n, free p.1 p.2 nch e n, ne, nf, d⟩
theorem Inv.un {t' : Nat} (I : Inv X pins σ H s) (u : Un X.fs [] H H' s.heap h') (hok : HOk X.prog X.w H' h') : Inv X pins σ H' { s with heap := h', toks := t' } := by
  obtain ⟨m, ⟨o, es, ep, ho, r⟩, _⟩ := id I.loc
  obtain ⟨sl, hL⟩ := u.any ho I.free (by simp)
  exact I.step (g' := s.gens) (d' := s.drawn) (ch := []) (fun _ z => nomatch z) (fun b o _ hb _ e n => u.keep b o e n hb (by simp)) (fun b o _ hb _ e n => u.slot b o e n hb (by simp)) (fun b o _ e n => u.free b o e n (by simp)) (fun b o _ e => u.there b o e (by simp)) u.tups u.frzs u.tbls (fun m' hm => by
    obtain ⟨o', es', ep', ho', r'⟩ := hm
    rw [ho] at ho'; cases ho'
    exact ⟨_, es', ep', hL, r'⟩) hok I.bare
theorem Inv.call {g' : Array GenState} {t' : Nat} {d' : Drawn} {ch : List Addr} (I : Inv X pins σ H s) (u : Un (frs X.stack) ch H H' s.heap h') (hok : HOk X.prog X.w H' h') (hg : AllBare g')
    (hch : ∀ b ∈ ch, (b ∈ X.ex ∨ X.s₀.heap.objs.size ≤ b) ∧ b ≠ X.env.locals ∧ (∀ x c, X.env.cells.lookup x = some c → c ≠ b) ∧ ∀ p ∈ X.pn ++ pins, p.1 ≠ b) :
    Inv X pins σ H' { s with heap := h', gens := g', drawn := d', toks := t' } := by
  obtain ⟨m, ⟨o, es, ep, ho, r⟩, _⟩ := id I.loc
  obtain ⟨sl, hL⟩ := u.any ho I.free fun z => (hch _ z).2.1 rfl
  exact I.step (ch := ch) hch (fun b o hL hb hc e n => u.keep b o e n (fun z => (List.mem_cons.mp (I.stkSub b z)).elim hL hb) hc) (fun b o _ _ hc e n => u.any e n hc) (fun b o hc e n => u.free b o e n hc) (fun b o hc e => u.there b o e hc) u.tups u.frzs u.tbls (fun m' hm => by
    obtain ⟨o', es', ep', ho', r'⟩ := hm
    rw [ho] at ho'; cases ho'
    exact ⟨_, es', ep', hL, r'⟩) hok hg
theorem Inv.turned {t' : Nat} {it : Addr} (I : Inv X pins σ H s) (k : ∀ b o, b ≠ it → s.heap.get? b = some o → h'.get? b = some o) (hn : H it = none) (hL : it ≠ X.env.locals)
    (h1 : it ∈ X.ex ∨ X.s₀.heap.objs.size ≤ it) (h2 : ∀ x c, X.env.cells.lookup x = some c → c ≠ it) (h3 : ∀ p ∈ X.pn ++ pins, p.1 ≠ it) : Inv X pins σ H { s with heap := h', toks := t' } := by
  have nit : ∀ b u, H b = some u → b ≠ it := fun b u e z => by rw [z, hn] at e; cases e
  refine I.step (g' := s.gens) (d' := s.drawn) (ch := [it]) (fun b hb => ?_) (fun b o _ _ hc e _ => k b o (fun z => hc (by simp [z])) e) (fun b o _ _ hc e _ => ⟨o.slots, k b o (fun z => hc (by simp [z])) e⟩) (fun _ _ _ _ n => n)
    (fun b o hc e => ⟨o, k b o (fun z => hc (by simp [z])) e⟩) (fun _ _ e => e) (fun _ _ _ e => e) (fun b ps e => ⟨#[], by rw [e]; simp⟩) (fun m hm => ?_) (fun b u e => ?_) I.bare
  · have e : b = it := by simpa using hb
    subst e
    exact ⟨h1, hL, h2, h3⟩
  · obtain ⟨o, es, ep, ho, r⟩ := hm
    exact ⟨o, es, ep, k _ o (Ne.symm hL) ho, r⟩
  · refine (I.hok b u e).stay (fun c v hc q => k c v ?_ q) (fun _ q => q) fun _ _ q => q
    rcases hc with z | z
    · rw [z]; exact nit b u e
    · exact nit c _ z
theorem Inv.tok (I : Inv X pins σ H s) (t : Nat) : Inv X pins σ H { s with toks := t } := I.un (h' := s.heap) (t' := t) Un.refl I.hok
theorem Inv.kept {t' : Nat} (I : Inv X pins σ H s) (k : ∀ b u, s.heap.get? b = some u → h'.get? b = some u) : Inv X pins σ H { s with heap := h', toks := t' } := I.un (Un.kept k) (I.hok.kept k)
theorem Inv.laid {a : Addr} {o : HO} {t' : Nat} (I : Inv X pins σ H s) (k : ∀ b u, s.heap.get? b = some u → h'.get? b = some u) (hp : s.heap.objs.size ≤ a) (new : ObjOk X.prog X.w (upd H a o) h' a o) :
    Inv X pins σ (upd H a o) { s with heap := h', toks := t' } := I.un (Un.laid k hp (I.hok.fresh hp)) (I.hok.laid k hp new)
theorem Inv.write {x e : Addr} {o : HO} {t' : Nat} (I : Inv X pins σ H s) (mu : Mut (H x)) (he : e = x ∨ H e = some (.own x)) (k : ∀ b u, b ≠ e → s.heap.get? b = some u → h'.get? b = some u) (heo : ∃ u, h'.get? e = some u)
    (new : ObjOk X.prog X.w (upd H x o) h' x o) : Inv X pins σ (upd H x o) { s with heap := h', toks := t' } := I.un (Un.write mu he k heo) (I.hok.write mu he k heo new)
theorem Inv.pins_of {pins' : List (Addr × Obj)} (I : Inv X pins σ H s) (h : ∀ p ∈ pins', s.heap.get? p.1 = some p.2 ∧ H p.1 = none ∧ p.1 ≠ X.env.locals ∧ p.1 ∉ X.fs ∧ ∀ v, p.2.data ≠ .cell v) : Inv X pins' σ H s :=
  ⟨I.ok, I.os, I.bare, I.base, I.loc, I.cell, I.free, I.freeC, fun p hp => (List.mem_append.mp hp).elim (fun z => I.pin p (List.mem_append_left _ z)) (h p), I.hok, I.len⟩
theorem nodup_ix {N : List Str} (hN : N.Nodup) {i j : Nat} {x : Str} (a : N[i]? = some x) (b : N[j]? = some x) : i = j := by
  obtain ⟨h1, e1⟩ := List.getElem?_eq_some_iff.mp a
  obtain ⟨h2, e2⟩ := List.getElem?_eq_some_iff.mp b
  exact (List.getElem_inj hN).mp (e1.trans e2.symm)
theorem store_ok2 {M : Model} {A : Around} {E : Value → Shared → Prop} {i : Nat} {x : Str} {v : V} {u : Value} {Q : Unit → Shared → Prop} (I : Inv X pins σ H s) (hN : X.N.Nodup) (hi : X.N[i]? = some x) (hx : Loc X.env.scope x) (r : RelV v u)
    (h : ∀ s', Inv X pins (σ.set i (some v)) H s' → (∃ a, Heap.SameBut a s.heap s'.heap ∧ (a = X.env.locals ∨ X.env.cells.lookup x = some a)) → Q () s') (hf : X.fn x = true ∨ X.env.scope.names.lookup x = some .local := by first | exact .inl rfl | exact .inr rfl | assumption) : wpAny M A (storeName X.env x u) Q E s := by
  obtain ⟨m, hn, hl⟩ := id I.loc
  have hcls : (X.env.scope.kind == .class || (X.env.scope.kind == .module && X.env.locals != X.env.globals)) = false := by rw [I.ok.kind]; rfl
  have hiσ : i < σ.length := by rw [I.len]; exact (List.getElem?_eq_some_iff.mp hi).1
  have cne := I.cne
  have tracked : ∀ {a : Addr} {h' : Heap}, (∃ o, s.heap.get? a = some o ∧ H a = none) → Heap.SameBut a s.heap h' → HOk X.prog X.w H h' := fun {a h'} ha hs b ob e => by
    obtain ⟨_, _, hfree⟩ := ha
    refine (I.hok b ob e).stay (fun c w' hc q => (hs.2 c ?_).trans q) (fun _ q => q) fun _ _ q => q
    rintro rfl
    rcases hc with rfl | hc
    · rw [hfree] at e; cases e
    · rw [hfree] at hc; cases hc
  rcases hx with hk | hk
  · refine wpAny_storeName_local hk hn (fun h' hn' hs => ?_) hcls
    obtain ⟨oL, _, _, hoL, _⟩ := id hn
    refine h _ ⟨I.ok, I.os, I.bare, ⟨fun b o e n hb hx => ?_, fun b o e n hb hx => ?_, I.base.free, fun b o e hx => ?_, I.base.tups, I.base.frzs, I.base.tbls⟩, ⟨_, hn', fun j y v' e1 e2 e3 => ?_⟩, fun y c e => ?_, I.free, I.freeC, fun p hp => ?_, tracked ⟨oL, hoL, I.free⟩ hs, by simpa using I.len⟩ ⟨_, hs, .inl rfl⟩
    · exact (hs.2 b (Nat.ne_of_lt (Nat.lt_of_lt_of_le (Heap.lt_size e) I.ok.above))).trans (I.base.keep b o e n hb hx)
    · obtain ⟨sl, e1⟩ := I.base.slot b o e n hb hx
      exact ⟨sl, (hs.2 b (Nat.ne_of_lt (Nat.lt_of_lt_of_le (Heap.lt_size e) I.ok.above))).trans e1⟩
    · obtain ⟨o', e1⟩ := I.base.there b o e hx
      exact ⟨o', (hs.2 b (Nat.ne_of_lt (Nat.lt_of_lt_of_le (Heap.lt_size e) I.ok.above))).trans e1⟩
    · by_cases hj : j = i
      · subst hj
        rw [hi] at e1; cases e1
        rw [List.getElem?_set_self hiσ] at e2
        cases e2
        exact ⟨u, r, .inl ⟨hk, by simp⟩⟩
      · rw [List.getElem?_set_ne (Ne.symm hj)] at e2
        obtain ⟨u', r', q⟩ := hl j y v' e1 e2 e3
        refine ⟨u', r', ?_⟩
        rcases q with ⟨k, e⟩ | ⟨k, c, e, z⟩
        · refine .inl ⟨k, ?_⟩
          have : y ≠ x := fun e => hj (nodup_ix hN e1 (e ▸ hi))
          simp [this, e]
        · exact .inr ⟨k, c, e, z.sameBut hs (cne y c e)⟩
    · obtain ⟨w', z⟩ := I.cell y c e
      exact ⟨w', z.sameBut hs (cne y c e)⟩
    · obtain ⟨e, n, ne, nf, d⟩ := I.pin p hp
      exact ⟨(hs.2 p.1 ne).trans e, n, ne, nf, d⟩
  · have hfn : X.fn x = true := by
      rcases hf with z | z
      · exact z
      · rw [z] at hk; cases hk
    obtain ⟨c, hc⟩ := I.ok.has x (.inl hk)
    obtain ⟨w', z⟩ := I.cell x c hc
    refine wpAny_storeName_cell I.ok.kind hk hc z (fun h' hc' hs => ?_)
    obtain ⟨oc, hoc, hocd⟩ := id z
    refine h { s with heap := h' } ⟨I.ok, I.os, I.bare, ⟨fun b o e n hb hx => ?_, fun b o e n hb hx => ?_, I.base.free, fun b o e hx => ?_, I.base.tups, I.base.frzs, I.base.tbls⟩, ⟨m, hn.sameBut hs (Ne.symm (cne x c hc)), fun j y v' e1 e2 e3 => ?_⟩, fun y c' e => ?_, I.free, I.freeC, fun p hp => ?_, tracked ⟨oc, hoc, I.freeC x c hc⟩ hs, by simpa using I.len⟩ ⟨c, hs, .inr hc⟩
    · exact (hs.2 b (Nat.ne_of_lt (Nat.lt_of_lt_of_le (Heap.lt_size e) (I.ok.cab x c hfn hc)))).trans (I.base.keep b o e n hb hx)
    · obtain ⟨sl, e1⟩ := I.base.slot b o e n hb hx
      exact ⟨sl, (hs.2 b (Nat.ne_of_lt (Nat.lt_of_lt_of_le (Heap.lt_size e) (I.ok.cab x c hfn hc)))).trans e1⟩
    · obtain ⟨o', e1⟩ := I.base.there b o e hx
      exact ⟨o', (hs.2 b (Nat.ne_of_lt (Nat.lt_of_lt_of_le (Heap.lt_size e) (I.ok.cab x c hfn hc)))).trans e1⟩
    · by_cases hj : j = i
      · subst hj
        rw [hi] at e1; cases e1
        rw [List.getElem?_set_self hiσ] at e2
        cases e2
        exact ⟨u, r, .inr ⟨.inl hk, c, hc, hc'⟩⟩
      · rw [List.getElem?_set_ne (Ne.symm hj)] at e2
        obtain ⟨u', r', q⟩ := hl j y v' e1 e2 e3
        refine ⟨u', r', ?_⟩
        rcases q with q | ⟨k, c', e, z'⟩
        · exact .inl q
        · refine .inr ⟨k, c', e, z'.sameBut hs ?_⟩
          rintro rfl
          exact hj (nodup_ix hN e1 (I.ok.inj _ _ _ e hc ▸ hi))
    · by_cases hcc : c' = c
      · subst hcc; exact ⟨_, hc'⟩
      · obtain ⟨w2, z2⟩ := I.cell y c' e
        exact ⟨w2, z2.sameBut hs hcc⟩
    · obtain ⟨e, n, ne, nf, d⟩ := I.pin p hp
      refine ⟨(hs.2 p.1 ?_).trans e, n, ne, nf, d⟩
      intro q
      rw [q, hoc] at e
      have q' : oc = p.2 := Option.some.inj e
      exact d w' (by rw [← q']; exact hocd)
theorem store_ok {M : Model} {A : Around} {E : Value → Shared → Prop} {i : Nat} {x : Str} {v : V} {u : Value} {Q : Unit → Shared → Prop} (I : Inv X pins σ H s) (hN : X.N.Nodup) (hi : X.N[i]? = some x) (hx : Loc X.env.scope x) (r : RelV v u)
    (h : ∀ s', Inv X pins (σ.set i (some v)) H s' → Q () s') (hf : X.fn x = true ∨ X.env.scope.names.lookup x = some .local := by first | exact .inl rfl | exact .inr rfl | assumption) : wpAny M A (storeName X.env x u) Q E s :=
  store_ok2 I hN hi hx r (fun s' I' _ => h s' I') hf
theorem Inv.call' {s' : Shared} {ch : List Addr} (I : Inv X pins σ H s) (ho : s'.os = s.os) (u : Un (frs X.stack) ch H H' s.heap s'.heap) (hok : HOk X.prog X.w H' s'.heap) (hg : AllBare s'.gens)
    (hch : ∀ b ∈ ch, (b ∈ X.ex ∨ X.s₀.heap.objs.size ≤ b) ∧ b ≠ X.env.locals ∧ (∀ x c, X.env.cells.lookup x = some c → c ≠ b) ∧ ∀ p ∈ X.pn ++ pins, p.1 ≠ b) : Inv X pins σ H' s' := by
  obtain ⟨h', g', d', t', o'⟩ := s'
  have e : o' = s.os := ho
  subst e
  exact I.call (g' := g') (t' := t') (d' := d') u hok hg hch
end
abbrev XK := Value → Option Addr → Hp → Prop
abbrev St := List (Option V)
abbrev VK := V → Hp → Prop
abbrev TE := St → Hp → VK → Prop
abbrev TT := St → Hp → (Bool → Hp → Prop) → Prop
abbrev TA := St → Hp → (List V → Hp → Prop) → Prop
structure Ends where
  nx : St → Hp → Prop
  rt : VK
  bk : St → Hp → Prop := fun _ _ => False
  ct : St → Hp → Prop := fun _ _ => False
abbrev TS := Ends → St → Hp → Prop
def EP (X : Cx) (pins : List (Addr × Obj)) (σ : St) (Q : VK) (u : Value) (s' : Shared) : Prop := ∃ v H', Inv X pins σ H' s' ∧ RelV v u ∧ Q v H'
def TP (X : Cx) (pins : List (Addr × Obj)) (σ : St) (Q : Bool → Hp → Prop) (b : Bool) (s' : Shared) : Prop := ∃ H', Inv X pins σ H' s' ∧ Q b H'
def AP (X : Cx) (pins : List (Addr × Obj)) (σ : St) (Q : List V → Hp → Prop) (us : List Value) (s' : Shared) : Prop := ∃ vs H', Inv X pins σ H' s' ∧ Vals vs us ∧ Q vs H'
def SP (X : Cx) (pins : List (Addr × Obj)) (D : Ends) (f : Flow) (s' : Shared) : Prop :=
  match f with
  | .next => ∃ σ' H', Inv X pins σ' H' s' ∧ D.nx σ' H'
  | .brk => ∃ σ' H', Inv X pins σ' H' s' ∧ D.bk σ' H'
  | .cont => ∃ σ' H', Inv X pins σ' H' s' ∧ D.ct σ' H'
  | .ret u => ∃ v σ' H', Inv X pins σ' H' s' ∧ RelV v u ∧ D.rt v H'
def PE (X : Cx) (e : Expr) (t : TE) : Prop :=
  ∀ (pins : List (Addr × Obj)) (s : Shared) (σ : St) (H : Hp) (Q : VK), Inv X pins σ H s → t σ H Q → wpAny (model X.prog X.w) X.A (eval e X.env) (EP X pins σ Q) X.xe s
def PT (X : Cx) (e : Expr) (t : TT) : Prop :=
  ∀ (pins : List (Addr × Obj)) (s : Shared) (σ : St) (H : Hp) (Q : Bool → Hp → Prop), Inv X pins σ H s → t σ H Q → wpAny (model X.prog X.w) X.A (isTrue e X.env (eval e X.env)) (TP X pins σ Q) X.xe s
def PW (X : Cx) (e : Expr) (t : TT) : Prop :=
  ∀ (whole : Sem Value) (pins : List (Addr × Obj)) (s : Shared) (σ : St) (H : Hp) (Q : Bool → Hp → Prop), Inv X pins σ H s → t σ H Q → wpAny (model X.prog X.w) X.A (isTrue e X.env whole) (TP X pins σ Q) X.xe s
theorem PW.pt {X : Cx} {e : Expr} {t : TT} (h : PW X e t) : PT X e t := h _
def PA (X : Cx) (es : List Expr) (t : TA) : Prop :=
  ∀ (pos : Pos) (pins : List (Addr × Obj)) (s : Shared) (σ : St) (H : Hp) (Q : List V → Hp → Prop), Inv X pins σ H s → t σ H Q → wpAny (model X.prog X.w) X.A (spliced (backTo pos (starEach es X.env))) (AP X pins σ Q) X.xe s
def PS (X : Cx) (st : Stmt) (t : TS) : Prop :=
  ∀ (pins : List (Addr × Obj)) (s : Shared) (σ : St) (H : Hp) (D : Ends), Inv X pins σ H s → t D σ H → wpAny (model X.prog X.w) X.A (exec st X.env) (SP X pins D) X.xe s
def PSs (X : Cx) (st : List Stmt) (t : TS) : Prop :=
  ∀ (pins : List (Addr × Obj)) (s : Shared) (σ : St) (H : Hp) (D : Ends), Inv X pins σ H s → t D σ H → wpAny (model X.prog X.w) X.A (execs st X.env) (SP X pins D) X.xe s
theorem thn {α : Type} {t : Sem α} {Q Q' : α → Shared → Prop} {M : Model} {A : Around} {E : Value → Shared → Prop} {s : Shared} (h : wpAny M A t Q E s) (hQ : ∀ a s, Q a s → Q' a s) : wpAny M A t Q' E s := wpAny_mono h hQ fun _ _ x => x
end L2
namespace L2
open PySem PySem.Spec PyProof.Rows
section
variable {X : Cx}
def tVar (i : Nat) : TE := fun σ H Q => ∃ v, σ[i]? = some (some v) ∧ Q v H
def tC (v : V) : TE := fun _ H Q => Q v H
theorem pe_var {i : Nat} {x : Str} {pos : Pos} (hN : X.N[i]? = some x) (hv : Vis X.env.scope x) (hd : (x == ("__debug__" : Str)) = false := by decide) (hcd : (x == ("__classdict__" : Str)) = false := by decide) : PE X (.Name x pos) (tVar i) := by
  intro pins s σ H Q I h
  obtain ⟨v, e, h⟩ := h
  obtain ⟨m, hn, hl⟩ := I.loc
  obtain ⟨u, r, l⟩ := hl i x v hN e hv
  have fin : EP X pins σ Q u s := ⟨v, H, I, r, h⟩
  rcases l with ⟨hk, hm⟩ | ⟨hk, c, hc, hcell⟩
  · exact wpAny_Name (wpAny_loadName_local I.ok.kind hk hn hm fin) hd
  · rcases hk with hk | hk
    · exact wpAny_Name (wpAny_loadName_cell I.ok.kind hk hc hcell fin) hd
    · exact wpAny_Name (wpAny_loadName_free I.ok.kind hk hc hcell fin hcd) hd
theorem pe_int {i j pos} : PE X (.Constant (.int i) j pos) (tC (.int i)) := fun _ _ _ H _ I h => wpAny_Constant_int ⟨.int i, H, I.tok _, ⟨_, rfl⟩, h⟩
theorem pe_bl {b j pos} : PE X (.Constant (.bool b) j pos) (tC (.bl b)) := fun _ _ _ H _ I h => Constant_bool ⟨.bl b, H, I, rfl, h⟩
theorem pe_non {j pos} : PE X (.Constant .none j pos) (tC .non) := fun _ _ _ H _ I h => Constant_none ⟨.non, H, I, rfl, h⟩
theorem pe_str {x j pos} : PE X (.Constant (.str x) j pos) (tC (.str x)) := fun _ _ _ H _ I h => Calls.Constant_str ⟨.str x, H, I.tok _, ⟨_, rfl⟩, h⟩
def Gl (X : Cx) (x : Str) : Prop := X.env.kindOf x = some .globalImplicit
theorem ld_glob {E : Value → Shared → Prop} {pins : List (Addr × Obj)} {s : Shared} {σ : St} {H : Hp} {x : Str} {u : Value} {pos : Pos} {Q : Value → Shared → Prop} (I : Inv X pins σ H s) (hg : Gl X x) (hm : X.mg x = some u) (h : Q u s)
    (hd : (x == ("__debug__" : Str)) = false := by decide) : wpAny (model X.prog X.w) X.A (eval (.Name x pos) X.env) Q E s :=
  Calls.Name_function_global I.ok.kind hg (Calls.loadGlobal_global (by rw [I.ok.glob]; exact I.mod.glob.keeps I.bk) hm h) hd
theorem ld_blt {E : Value → Shared → Prop} {pins : List (Addr × Obj)} {s : Shared} {σ : St} {H : Hp} {x : Str} {u : Value} {pos : Pos} {Q : Value → Shared → Prop} (I : Inv X pins σ H s) (hg : Gl X x) (hm : X.mg x = none) (hv : bootBuiltins x = some u) (h : Q u s)
    (hn : x ≠ "__name__" := by decide) (hd : (x == ("__debug__" : Str)) = false := by decide) : wpAny (model X.prog X.w) X.A (eval (.Name x pos) X.env) Q E s := by
  obtain ⟨mb, h1, h2⟩ := I.mod.blt
  exact Calls.Name_function_global I.ok.kind hg (Calls.loadGlobal_builtin (by rw [I.ok.glob]; exact I.mod.glob.keeps I.bk) hm (by rw [I.ok.blt]; exact h1.keeps I.bk) ((h2 x hn).trans hv) h) hd
theorem pe_glob {x : Str} {v : V} {u : Value} {pos : Pos} (hg : Gl X x) (hm : X.mg x = some u) (r : RelV v u) (hd : (x == ("__debug__" : Str)) = false := by decide) : PE X (.Name x pos) (tC v) :=
  fun _ _ _ H _ I h => ld_glob I hg hm ⟨v, H, I, r, h⟩ hd
theorem pe_bltn {x : Str} {v : V} {u : Value} {pos : Pos} (hg : Gl X x) (hm : X.mg x = none) (hv : bootBuiltins x = some u) (r : RelV v u) (hn : x ≠ "__name__" := by decide) (hd : (x == ("__debug__" : Str)) = false := by decide) : PE X (.Name x pos) (tC v) :=
  fun _ _ _ H _ I h => ld_blt I hg hm hv ⟨v, H, I, r, h⟩ hn hd
def t2I (ta tb : TE) (k : Int → Int → Hp → Prop) : St → Hp → Prop := fun σ H => ta σ H fun x H1 => tb σ H1 fun y H2 => ∃ i j, x = .int i ∧ y = .int j ∧ k i j H2
def tAdd (ta tb : TE) : TE := fun σ H Q => t2I ta tb (fun i j H2 => Q (.int (i + j)) H2) σ H
def tSub (ta tb : TE) : TE := fun σ H Q => t2I ta tb (fun i j H2 => Q (.int (i - j)) H2) σ H
def tMul (ta tb : TE) : TE := fun σ H Q => t2I ta tb (fun i j H2 => (-(2 ^ 64) < i ∧ i < 2 ^ 64) ∧ Q (.int (i * j)) H2) σ H
variable {a b : Expr} {ta tb : TE} {pos : Pos}
def PC (X : Cx) (op : CmpOp) (a b : Expr) (t : TE) : Prop :=
  ∀ (pins : List (Addr × Obj)) (s : Shared) (σ : St) (H : Hp) (Q : VK), Inv X pins σ H s → t σ H Q →
    wpAny (model X.prog X.w) X.A (eval a X.env) (fun v s₁ => wpAny (model X.prog X.w) X.A (eval b X.env) (fun u s₂ => wpAny (model X.prog X.w) X.A (compareOp op v u) (EP X pins σ Q) X.xe s₂) X.xe s₁) X.xe s
def tCmp (p : Int → Int → Bool) (ta tb : TE) : TE := fun σ H Q => t2I ta tb (fun i j H2 => Q (.bl (p i j)) H2) σ H
abbrev tLt : TE → TE → TE := tCmp fun i j => decide (i < j)
abbrev tLe : TE → TE → TE := tCmp fun i j => decide (i ≤ j)
abbrev tGt : TE → TE → TE := tCmp fun i j => decide (j < i)
abbrev tGe : TE → TE → TE := tCmp fun i j => decide (j ≤ i)
abbrev tEqI : TE → TE → TE := tCmp fun i j => decide (i = j)
abbrev tNeI : TE → TE → TE := tCmp fun i j => !decide (i = j)
def tIsN (ta : TE) : TE := fun σ H Q => ta σ H fun x H1 => Q (.bl (decide (x = .non))) H1
def tNotN (ta : TE) : TE := fun σ H Q => ta σ H fun x H1 => Q (.bl (!decide (x = .non))) H1
def tB (t : TE) : TT := fun σ H Q => t σ H fun x H1 => ∃ c, x = .bl c ∧ Q c H1
variable {tA tB' : TT} {rest : List Expr}
def tAnd (t u : TT) : TT := fun σ H Q => t σ H fun c H1 => if c = true then u σ H1 Q else Q false H1
def tOr (t u : TT) : TT := fun σ H Q => t σ H fun c H1 => if c = true then Q true H1 else u σ H1 Q
def tNot (t : TT) : TT := fun σ H Q => t σ H fun c H1 => Q (!c) H1
theorem pw_and1 (ha : PT X a tA) : PW X (.BoolOp .And [a] pos) tA := by
  intro wh pins s σ H Q I h
  refine isTrue_and (thn (ha pins s σ H Q I h) fun c s1 e => ?_)
  cases c with
  | true => exact isTrue_and_nil e
  | false => exact e
theorem pw_or1 (ha : PT X a tA) : PW X (.BoolOp .Or [a] pos) tA := by
  intro wh pins s σ H Q I h
  refine isTrue_or (thn (ha pins s σ H Q I h) fun c s1 e => ?_)
  cases c with
  | false => exact isTrue_or_nil e
  | true => exact e
theorem pw_and (ha : PT X a tA) (hb : PW X (.BoolOp .And (b :: rest) pos) tB') : PW X (.BoolOp .And (a :: b :: rest) pos) (tAnd tA tB') := by
  intro wh pins s σ H Q I h
  refine isTrue_and (thn (ha pins s σ H _ I h) fun c s1 ⟨H1, I1, q1⟩ => ?_)
  cases c with
  | true => exact hb wh pins s1 σ H1 Q I1 q1
  | false => exact ⟨H1, I1, q1⟩
theorem pw_or (ha : PT X a tA) (hb : PW X (.BoolOp .Or (b :: rest) pos) tB') : PW X (.BoolOp .Or (a :: b :: rest) pos) (tOr tA tB') := by
  intro wh pins s σ H Q I h
  refine isTrue_or (thn (ha pins s σ H _ I h) fun c s1 ⟨H1, I1, q1⟩ => ?_)
  cases c with
  | true => exact ⟨H1, I1, q1⟩
  | false => exact hb wh pins s1 σ H1 Q I1 q1
theorem pt_not (ha : PT X a tA) : PT X (.UnaryOp .Not a pos) (tNot tA) := by
  intro pins s σ H Q I h
  exact isTrue_not (ha pins s σ H (fun c H1 => Q (!c) H1) I h)
def tAndV (ta tb : TE) : TE := fun σ H Q => ta σ H fun x H1 => ∃ c, x = .bl c ∧ if c = true then tb σ H1 Q else Q (.bl false) H1
def tOrV (ta tb : TE) : TE := fun σ H Q => ta σ H fun x H1 => ∃ c, x = .bl c ∧ if c = true then Q (.bl true) H1 else tb σ H1 Q
def tNotV (ta : TE) : TE := fun σ H Q => ta σ H fun x H1 => ∃ c, x = .bl c ∧ Q (.bl (!c)) H1
theorem pe_one {op} {t : TE} (h : PE X a t) : PE X (.BoolOp op [a] pos) t := fun pins s σ H Q I hw => BoolOp_one (h pins s σ H Q I hw)
theorem pe_and (ha : PE X a ta) (hb : PE X (.BoolOp .And (b :: rest) pos) tb) : PE X (.BoolOp .And (a :: b :: rest) pos) (tAndV ta tb) := by
  intro pins s σ H Q I h
  refine BoolOp_and (thn (ha pins s σ H _ I h) fun v s1 ⟨x, H1, I1, r1, q1⟩ => ?_)
  obtain ⟨c, rfl, q1⟩ := q1
  cases r1
  refine wpAny_truthy_bool ?_
  cases c with
  | true => exact hb pins s1 σ H1 Q I1 q1
  | false => exact ⟨.bl false, H1, I1, rfl, q1⟩
theorem pe_not (ha : PE X a ta) : PE X (.UnaryOp .Not a pos) (tNotV ta) := by
  intro pins s σ H Q I h
  refine UnaryOp_ (thn (ha pins s σ H _ I h) fun v s1 ⟨x, H1, I1, r1, q1⟩ => ?_)
  obtain ⟨c, rfl, q1⟩ := q1
  cases r1
  exact not_of (wpAny_truthy_bool ⟨.bl (!c), H1, I1, rfl, q1⟩)
def tIf (t : TT) (ta tb : TE) : TE := fun σ H Q => t σ H fun c H1 => if c = true then ta σ H1 Q else tb σ H1 Q
end
end L2
namespace L2
open PySem PySem.Spec PyProof.Rows
def SqL (K : PySem.W.Frag) (H : Hp) (a : Addr) (xs : List V) : Prop :=
  Rd H a (.lst xs) ∨
    ∃ (o : Obj) (its : Array Value) (n : Nat), K.lookup a = some o ∧ o.cls = .type "list" ∧ o.dict = none ∧ o.data = .seq its n ∧ its.size ≤ sizeLine ∧ Vals xs its.toList
def SqT (K : PySem.W.Frag) (H : Hp) (a : Addr) (xs : List V) : Prop :=
  Rd H a (.tup xs) ∨
    ∃ (o : Obj) (its : Array Value) (n : Nat), K.lookup a = some o ∧ o.cls = .type "tuple" ∧ o.data = .seq its n ∧ its.size ≤ sizeLine ∧ Vals xs its.toList
def absV : Value → Option V
  | .none => some .non
  | .bool b => some (.bl b)
  | .int i _ => some (.int i)
  | .str x _ => some (.str x)
  | .bytes b _ => some (.byt b)
  | .float b _ => some (.flt b)
  | .ref a => some (.ref a)
  | .type n => some (.ty n)
  | _ => none
theorem RelV.abs {x : V} {u : Value} (r : RelV x u) : absV u = some x := by
  cases x with
  | non => cases r; rfl
  | bl _ => cases r; rfl
  | int _ => obtain ⟨t, rfl⟩ := r; rfl
  | str _ => obtain ⟨t, rfl⟩ := r; rfl
  | byt _ => obtain ⟨t, rfl⟩ := r; rfl
  | flt _ => obtain ⟨t, rfl⟩ := r; rfl
  | ref _ => cases r; rfl
  | ty _ => cases r; rfl
theorem RelV.inj {x y : V} {u : Value} (r : RelV x u) (q : RelV y u) : x = y := Option.some.inj (r.abs.symm.trans q.abs)
theorem Vals.inj : ∀ {xs ys : List V} {us : List Value}, Vals xs us → Vals ys us → xs = ys
  | _, _, _, .nil, .nil => rfl
  | _, _, _, .cons r t, .cons r' t' => by rw [r.inj r', Vals.inj t t']
section
variable {X : Cx} {pins : List (Addr × Obj)} {σ : St} {H : Hp} {s : Shared} {a : Addr} {xs ys : List V}
theorem SqL.of {K : PySem.W.Frag} (h : H a = some (.lst xs)) : SqL K H a xs := .inl (.inl h)
theorem SqT.of {K : PySem.W.Frag} (h : H a = some (.tup xs)) : SqT K H a xs := .inl (.inl h)
theorem Inv.list (I : Inv X pins σ H s) (h : SqL X.K H a xs) : ∃ its : List Value, Vals xs its ∧ PlainL s.heap a its.toArray ∧ xs.length ≤ sizeLine := by
  rcases h with h | ⟨o, its, n, hk, hc, hd, hs, hz, r⟩
  · obtain ⟨z, its, n, r, e⟩ := h.ok I.hok
    exact ⟨its, r, ⟨_, n, e, rfl, rfl, rfl⟩, z⟩
  · refine ⟨its.toList, r, ⟨o, n, I.kIn a o hk, hc, hd, by simpa using hs⟩, ?_⟩
    have e := r.length
    simp only [Array.length_toList] at e
    omega
theorem Inv.tuple (I : Inv X pins σ H s) (h : SqT X.K H a xs) : ∃ its : List Value, Vals xs its ∧ IsTup s.heap a its.toArray ∧ xs.length ≤ sizeLine := by
  rcases h with h | ⟨o, its, n, hk, hc, hs, hz, r⟩
  · obtain ⟨z, its, r, p⟩ := h.ok I.hok
    exact ⟨its, r, p, z⟩
  · refine ⟨its.toList, r, ⟨o, I.kIn a o hk, hc, n, by simpa using hs⟩, ?_⟩
    have e := r.length
    simp only [Array.length_toList] at e
    omega
theorem Inv.list_inj (I : Inv X pins σ H s) (h : SqL X.K H a xs) (h' : SqL X.K H a ys) : xs = ys := by
  obtain ⟨its, r, ⟨o, n, e, _, _, d⟩, _⟩ := I.list h
  obtain ⟨its', r', ⟨o', n', e', _, _, d'⟩, _⟩ := I.list h'
  rw [e] at e'; cases e'
  rw [d] at d'
  injection d' with d1 _
  have : its = its' := by simpa using congrArg Array.toList d1
  subst this
  exact r.inj r'
end
abbrev Cx.wish (X : Cx) (E : Value → Shared → Prop) : Cx := { X with xe := E }
abbrev Cx.nox (X : Cx) : Cx := X.wish fun _ _ => False
theorem Cx.Ok.wish {X : Cx} (ok : X.Ok) (E : Value → Shared → Prop) : (X.wish E).Ok :=
  ⟨ok.mod, ok.kind, ok.glob, ok.blt, ok.above, ok.inj, ok.has, ok.cab, ok.hd, ok.frames, ok.stk, ok.exf, ok.bs, ok.bsz, ok.noex, ok.exfs, ok.funs, ok.frf⟩
theorem Cx.Ok.unwish {X : Cx} {E : Value → Shared → Prop} (ok : (X.wish E).Ok) : X.Ok :=
  ⟨ok.mod, ok.kind, ok.glob, ok.blt, ok.above, ok.inj, ok.has, ok.cab, ok.hd, ok.frames, ok.stk, ok.exf, ok.bs, ok.bsz, ok.noex, ok.exfs, ok.funs, ok.frf⟩
section
variable {X : Cx} {pins : List (Addr × Obj)} {σ : St} {H : Hp} {s : Shared} {E : Value → Shared → Prop}
theorem Inv.wish (I : Inv X pins σ H s) (E : Value → Shared → Prop) : Inv (X.wish E) pins σ H s := ⟨I.ok.wish E, I.os, I.bare, I.base, I.loc, I.cell, I.free, I.freeC, I.pin, I.hok, I.len⟩
theorem Inv.unwish (I : Inv (X.wish E) pins σ H s) : Inv X pins σ H s := ⟨I.ok.unwish, I.os, I.bare, I.base, I.loc, I.cell, I.free, I.freeC, I.pin, I.hok, I.len⟩
theorem SP.unwish {D : Ends} {f : Flow} {s' : Shared} (h : SP (X.wish E) pins D f s') : SP X pins D f s' := by
  cases f with
  | next => obtain ⟨σ', H', I, q⟩ := h; exact ⟨σ', H', I.unwish, q⟩
  | brk => obtain ⟨σ', H', I, q⟩ := h; exact ⟨σ', H', I.unwish, q⟩
  | cont => obtain ⟨σ', H', I, q⟩ := h; exact ⟨σ', H', I.unwish, q⟩
  | ret u => obtain ⟨v, σ', H', I, r, q⟩ := h; exact ⟨v, σ', H', I.unwish, r, q⟩
theorem PSs.nox {st : List Stmt} {t : TS} (h : PSs X.nox st t) : PSs X st t := fun pins s σ H D I hw =>
  wpAny_mono (h pins s σ H D (I.wish _) hw) (fun _ _ q => q.unwish) fun _ _ z => False.elim z
end
section
variable {X : Cx} {st : Stmt} {rest : List Stmt} {t u : TS} {e : Expr} {te : TE} {pos : Pos}
def tNext : TS := fun D σ H => D.nx σ H
def tSeq (t u : TS) : TS := fun D σ H => t { D with nx := u D } σ H
theorem pss_nil : PSs X [] tNext := fun _ _ σ H _ I h => wpAny_execs_nil ⟨σ, H, I, h⟩
theorem pss_cons (h1 : PS X st t) (h2 : PSs X rest u) : PSs X (st :: rest) (tSeq t u) := by
  intro pins s σ H D I h
  refine wpAny_execs_cons (thn (h1 pins s σ H { D with nx := u D } I h) fun f s1 q => ?_)
  cases f with
  | next =>
    obtain ⟨σ', H', I', q⟩ := q
    exact h2 pins s1 σ' H' D I' q
  | ret v => exact q
  | brk => exact q
  | cont => exact q
theorem pss_one (h1 : PS X st t) : PSs X [st] t := by
  intro pins s σ H D I h
  refine wpAny_execs_cons (thn (h1 pins s σ H D I h) fun f s1 q => ?_)
  cases f with
  | next => exact wpAny_execs_nil q
  | ret v => exact q
  | brk => exact q
  | cont => exact q
def tBreak : TS := fun D σ H => D.bk σ H
def tCont : TS := fun D σ H => D.ct σ H
theorem Inv.quiet {pins : List (Addr × Obj)} {σ : St} {H : Hp} {s : Shared} (I : Inv X pins σ H s) : interactive X.env = false := by simp [interactive, I.ok.kind]
def tDrop (te : TE) : TS := fun D σ H => te σ H fun _ H1 => D.nx σ H1
theorem ps_expr (he : PE X e te) (hs : swapsWith e none pos.line X.env = pure false := by rfl) : PS X (.Expr e pos) (tDrop te) := by
  intro pins s σ H D I h
  exact wpAny_Expr_any (thn (he pins s σ H _ I h) fun v s1 ⟨x, H1, I1, r1, q1⟩ => ⟨σ, H1, I1, q1⟩) I.quiet hs
def tRet (te : TE) : TS := fun D σ H => te σ H D.rt
theorem ps_ret (he : PE X e te) : PS X (.Return (some e) pos) (tRet te) := by
  intro pins s σ H D I h
  exact wpAny_Return_some (thn (he pins s σ H _ I h) fun v s1 ⟨x, H1, I1, r1, q1⟩ => ⟨x, σ, H1, I1, r1, q1⟩)
def tRetN : TS := fun D _ H => D.rt .non H
def tIfS (c : TT) (t u : TS) : TS := fun D σ H => c σ H fun b H1 => if b = true then t D σ H1 else u D σ H1
theorem ps_if {c : Expr} {a b : List Stmt} {tc : TT} (hc : PT X c tc) (ha : PSs X a t) (hb : PSs X b u) : PS X (.If c a b pos) (tIfS tc t u) := by
  intro pins s σ H D I h
  refine wpAny_If (thn (hc pins s σ H _ I h) fun d s1 ⟨H1, I1, q1⟩ => ?_)
  cases d with
  | true => exact ha pins s1 σ H1 D I1 q1
  | false => exact hb pins s1 σ H1 D I1 q1
def tNever : TS := fun _ _ _ => False
end
abbrev TG := V → St → Hp → (St → Hp → Prop) → Prop
abbrev TGs := List V → St → Hp → (St → Hp → Prop) → Prop
def PG (X : Cx) (target : Expr) (t : TG) : Prop :=
  ∀ (pins : List (Addr × Obj)) (s : Shared) (σ : St) (H : Hp) (v : V) (u : Value) (Q : St → Hp → Prop), Inv X pins σ H s → RelV v u → t v σ H Q →
    wpAny (model X.prog X.w) X.A (assign target X.env u) (fun _ s' => ∃ σ' H', Inv X pins σ' H' s' ∧ Q σ' H') X.xe s
def PGs (X : Cx) (ts : List Expr) (t : TGs) : Prop :=
  ∀ (pins : List (Addr × Obj)) (s : Shared) (σ : St) (H : Hp) (vs : List V) (us : List Value) (Q : St → Hp → Prop), Inv X pins σ H s → Vals vs us → t vs σ H Q →
    wpAny (model X.prog X.w) X.A (assignInOrder ((assignEach ts X.env).map (·.2)) us) (fun _ s' => ∃ σ' H', Inv X pins σ' H' s' ∧ Q σ' H') X.xe s
abbrev TSet := V → V → V → Hp → (Hp → Prop) → Prop
def PSet (X : Cx) (t : TSet) : Prop :=
  ∀ (pins : List (Addr × Obj)) (s : Shared) (σ : St) (H : Hp) (o i v : V) (ov iv u : Value) (Q : Hp → Prop), Inv X pins σ H s → RelV o ov → RelV i iv → RelV v u → t o i v H Q →
    wpAny (model X.prog X.w) X.A (setItem ov iv u) (fun _ s' => ∃ H', Inv X pins σ H' s' ∧ Q H') X.xe s
abbrev TIp := V → V → Hp → VK → Prop
def PIp (X : Cx) (op : Operator) (t : TIp) : Prop :=
  ∀ (pins : List (Addr × Obj)) (s : Shared) (σ : St) (H : Hp) (x y : V) (v u : Value) (Q : VK), Inv X pins σ H s → RelV x v → RelV y u → t x y H Q →
    wpAny (model X.prog X.w) X.A (inplaceOp op v u) (EP X pins σ Q) X.xe s
section
variable {X : Cx} {pos : Pos}
def gName (i : Nat) : TG := fun v σ H Q => Q (σ.set i (some v)) H
theorem pg_name {i : Nat} {x : Str} (hN : X.N.Nodup) (hi : X.N[i]? = some x) (hx : Loc X.env.scope x) (hf : X.fn x = true ∨ X.env.scope.names.lookup x = some .local := by first | exact .inl rfl | exact .inr rfl | assumption) : PG X (.Name x pos) (gName i) := by
  intro pins s σ H v u Q I r h
  exact wpAny_assign_Name (store_ok I hN hi hx r (fun s' I' => ⟨_, H, I', h⟩) hf)
def gNil : TGs := fun vs σ H Q => vs = [] ∧ Q σ H
def gCons (t : TG) (u : TGs) : TGs := fun vs σ H Q => ∃ v r, vs = v :: r ∧ t v σ H fun σ' H' => u r σ' H' Q
theorem pgs_nil : PGs X [] gNil := by
  intro pins s σ H vs us Q I r h
  obtain ⟨e, h⟩ := h
  subst e
  cases r
  exact assignInOrder_nil ⟨σ, H, I, h⟩
theorem pgs_cons {e : Expr} {es : List Expr} {t : TG} {u : TGs} (h1 : PG X e t) (h2 : PGs X es u)
    (hs : (assignEach (e :: es) X.env).map (·.2) = assign e X.env :: (assignEach es X.env).map (·.2) := by rfl) : PGs X (e :: es) (gCons t u) := by
  intro pins s σ H vs us Q I r h
  obtain ⟨v, vr, e1, h⟩ := h
  subst e1
  cases r with
  | cons r rr =>
    rw [hs]
    refine assignInOrder_cons (thn (h1 pins s σ H _ _ _ I r h) fun _ s1 ⟨σ1, H1, I1, q1⟩ => ?_)
    exact h2 pins s1 σ1 H1 _ _ Q I1 rr q1
def gTup (K : PySem.W.Frag) (n : Nat) (t : TGs) : TG := fun v σ H Q => ∃ a xs, v = .ref a ∧ SqT K H a xs ∧ xs.length = n ∧ t xs σ H Q
theorem pg_tup {es : List Expr} {k : Nat} {t : TGs} {n : Nat} (hc : X.calm = true) (h : PGs X es t)
    (hn : (assignEach es X.env).length = n := by rfl) (hst : (assignEach es X.env).findIdx? (·.1) = none := by rfl) : PG X (.Tuple es k pos) (gTup X.K n t) := by
  intro pins s σ H v u Q I r hw
  obtain ⟨a, xs, e1, hq, hl, hw⟩ := hw
  subst e1
  cases r
  obtain ⟨its, rv, ht, hz⟩ := I.tuple hq
  refine assign_Tuple_tuple (I.ok.hd hc) ht (by simp [hn, ← hl, rv.length]) hst fun h' hx => ?_
  have I1 : Inv X pins σ H { s with heap := h' } := I.kept (t' := s.toks) fun b o e => hx b o (Nat.ne_of_lt (Heap.lt_size e)) e
  exact h pins _ σ H xs _ Q I1 (by simpa using rv) hw
def gSub (to ti : TE) (t : TSet) : TG := fun v σ H Q => to σ H fun o H1 => ti σ H1 fun i H2 => t o i v H2 fun H3 => Q σ H3
theorem pg_sub {o i : Expr} {to ti : TE} {t : TSet} (ho : PE X o to) (hi : PE X i ti) (hs : PSet X t)
    (ha : ∀ v, assign (.Subscript o i pos) X.env v = (do
      let ov ← holding [v] (eval o X.env)
      let iv ← holding [v, ov] (eval i X.env)
      standAt pos
      holding [v, ov, iv] (setItem ov iv v)
      release [v, ov, iv] []) := by intro _; rfl) : PG X (.Subscript o i pos) (gSub to ti t) := by
  intro pins s σ H v u Q I r h
  rw [ha]
  refine wpAny_bind (wpAny_holding (thn (ho pins s σ H _ I h) fun ov s1 ⟨x, H1, I1, r1, q1⟩ => ?_))
  refine wpAny_bind (wpAny_holding (thn (hi pins s1 σ H1 _ I1 q1) fun iv s2 ⟨y, H2, I2, r2, q2⟩ => ?_))
  refine wpAny_bind (wpAny_standAt (wpAny_bind (wpAny_holding (thn (hs pins s2 σ H2 x y v ov iv u _ I2 r1 r2 r q2) fun _ s3 ⟨H3, I3, q3⟩ => ?_))))
  exact wpAny_release ⟨σ, H3, I3, q3⟩
def tAsg (te : TE) (g : TG) : TS := fun D σ H => te σ H fun x H1 => g x σ H1 D.nx
theorem ps_asg {tg e : Expr} {te : TE} {g : TG} (he : PE X e te) (hg : PG X tg g) (hs : swapsWithSole [tg] e pos.line X.env = pure false := by rfl) (hw : swappedStores [tg] e X.env = pure none := by rfl)
    (h1 : (assignEach [tg] X.env).map (·.2) = [assign tg X.env] := by rfl) : PS X (.Assign [tg] e pos) (tAsg te g) := by
  intro pins s σ H D I h
  refine wpAny_Assign_stores (thn (he pins s σ H _ I h) fun v s1 ⟨x, H1, I1, r1, q1⟩ => ?_) hs hw
  rw [h1]
  exact thn (hg pins s1 σ H1 x v _ I1 r1 q1) fun _ s2 q => q
theorem ps_set {i : Nat} {x : Str} {e : Expr} {te : TE} {pos' : Pos} (hN : X.N.Nodup) (hi : X.N[i]? = some x) (hx : Loc X.env.scope x) (he : PE X e te) (hs : swapsWith e (some (.Name x pos')) pos.line X.env = pure false := by rfl) (hf : X.fn x = true ∨ X.env.scope.names.lookup x = some .local := by first | exact .inl rfl | exact .inr rfl | assumption) :
    PS X (.Assign [.Name x pos'] e pos) (tAsg te (gName i)) := by
  intro pins s σ H D I h
  refine wpAny_Assign_Name (thn (he pins s σ H _ I h) fun v s1 ⟨y, H1, I1, r1, q1⟩ => ?_) hs
  exact store_ok I1 hN hi hx r1 (fun s2 I2 => ⟨_, H1, I2, q1⟩) hf
def tPar (i j : Nat) (ta : TA) : TS := fun D σ H => ta σ H fun vs H1 => ∃ v w, vs = [v, w] ∧ D.nx ((σ.set i (some v)).set j (some w)) H1
theorem ps_par {i j : Nat} {x y : Str} {a b : Expr} {ta : TA} {px py pt : Pos} {kt k2 pt2} (hc : X.calm = true) (hN : X.N.Nodup) (hi : X.N[i]? = some x) (hj : X.N[j]? = some y) (hij : i ≠ j)
    (hx : X.env.scope.names.lookup x = some .local) (hy : X.env.scope.names.lookup y = some .local) (ha : PA X [a, b] ta)
    (hw : swappedStores [.Tuple [.Name x px, .Name y py] kt pt] (.Tuple [a, b] k2 pt2) X.env = pure (some [x, y]))
    (hs : swapsWithSole [.Tuple [.Name x px, .Name y py] kt pt] (.Tuple [a, b] k2 pt2) pos.line X.env = pure false := by rfl) :
    PS X (.Assign [.Tuple [.Name x px, .Name y py] kt pt] (.Tuple [a, b] k2 pt2) pos) (tPar i j ta) := by
  intro pins s σ H D I h
  rw [exec_Assign_arm]
  refine wpAny_bind (wpAny_standAt ?_)
  rw [hs]
  refine wpAny_bind (wpAny_pure ?_)
  rw [if_neg (by decide)]
  refine wpAny_bind (Tuple_ (thn (ha _ pins s σ H _ I h) fun us s1 ⟨vs, H1, I1, r1, q1⟩ => ?_))
  obtain ⟨v, w, e1, q1⟩ := q1
  subst e1
  obtain ⟨u1, u2, rfl, rv, rw'⟩ : ∃ u1 u2, us = [u1, u2] ∧ RelV v u1 ∧ RelV w u2 := by
    cases r1 with
    | cons p q =>
      cases q with
      | cons p' q' =>
        cases q'
        exact ⟨_, _, rfl, p, p'⟩
  refine wpAny_newObj_type ?_ (by show 2 ≤ sizeLine; decide)
  have I2 : Inv X pins σ H1 { s1 with heap := s1.heap.push { cls := .type "tuple", data := .seq [u1, u2].toArray } } := I1.kept (t' := s1.toks) fun b o e => Heap.get?_push_of_some _ e
  rw [hw]
  refine wpAny_bind (wpAny_pure ?_)
  show wpAny (model X.prog X.w) X.A (do rule "assign.swapped-stores"; let items ← unpackItems (.ref s1.heap.objs.size) 2 none; assignInOrder [fun v => bindName X.env y v, fun v => bindName X.env x v] items.reverse; pure Flow.next) _ _ _
  refine wpAny_bind (wpAny_rule (wpAny_bind (unpackItems_tuple (items := #[u1, u2]) (I.ok.hd hc) (IsTup.new s1.heap _) fun h' hx' => ?_)))
  have I3 := I2.kept (h' := h') (t' := s1.toks) fun b o e => hx' b o (Nat.ne_of_lt (Heap.lt_size e)) e
  show wpAny _ _ (assignInOrder [fun v => bindName X.env y v, fun v => bindName X.env x v] [u2, u1] >>= fun _ => pure Flow.next) _ _ _
  refine wpAny_bind (assignInOrder_cons (wpAny_bindName (store_ok I3 hN hj (.inl hy) rw' (fun s2 I4 => ?_) (.inr hy))))
  refine assignInOrder_cons (wpAny_bindName (store_ok I4 hN hi (.inl hx) rv (fun s3 I5 => assignInOrder_nil (wpAny_pure ?_)) (.inr hx)))
  rw [List.set_comm _ _ (Ne.symm hij)] at I5
  exact ⟨_, H1, I5, q1⟩
def tAug (i : Nat) (te : TE) (ti : TIp) : TS := fun D σ H => ∃ x, σ[i]? = some (some x) ∧ te σ H fun y H1 => ti x y H1 fun z H2 => D.nx (σ.set i (some z)) H2
theorem ps_aug {i : Nat} {x : Str} {e : Expr} {te : TE} {op : Operator} {ti : TIp} {pos' : Pos} (hN : X.N.Nodup) (hi : X.N[i]? = some x) (hx : Loc X.env.scope x) (he : PE X e te) (ho : PIp X op ti) (hf : X.fn x = true ∨ X.env.scope.names.lookup x = some .local := by first | exact .inl rfl | exact .inr rfl | assumption) :
    PS X (.AugAssign (.Name x pos') op e pos) (tAug i te ti) := by
  intro pins s σ H D I h
  obtain ⟨v, e1, h⟩ := h
  obtain ⟨m, hn, hl⟩ := I.loc
  have vis : Vis X.env.scope x := by rcases hx with k | k; exact .inl k; exact .inr (.inl k)
  obtain ⟨u, r, l⟩ := hl i x v hi e1 vis
  refine wpAny_AugAssign_Name ?_
  have go : wpAny (model X.prog X.w) X.A (eval e X.env) (fun w s₂ => wpAny (model X.prog X.w) X.A (inplaceOp op u w) (fun r s₃ => wpAny (model X.prog X.w) X.A (storeName X.env x r) (fun _ => SP X pins D .next) X.xe s₃) X.xe s₂) X.xe s := by
    refine thn (he pins s σ H _ I h) fun w s1 ⟨y, H1, I1, r1, q1⟩ => ?_
    refine thn (ho pins s1 σ H1 v y u w _ I1 r r1 q1) fun z s2 ⟨zv, H2, I2, r2, q2⟩ => ?_
    exact store_ok I2 hN hi hx r2 (fun s3 I3 => ⟨_, H2, I3, q2⟩) hf
  rcases l with ⟨hk, hm⟩ | ⟨hk, c, hc, hcell⟩
  · exact wpAny_loadName_local I.ok.kind hk hn hm go
  · rcases hk with hk | hk
    · exact wpAny_loadName_cell I.ok.kind hk hc hcell go
    · rcases hx with k | k
      · have : X.env.scope.names.lookup x = some .free := hk
        rw [k] at this; cases this
      · have : X.env.scope.names.lookup x = some .free := hk
        rw [k] at this; cases this
def tAugS (to ti te : TE) (tget : V → V → Hp → VK → Prop) (tip : TIp) (tset : TSet) : TS := fun D σ H => to σ H fun o H1 => ti σ H1 fun i H2 => tget o i H2 fun x H3 => te σ H3 fun y H4 => tip x y H4 fun z H5 => tset o i z H5 fun H6 => D.nx σ H6
def PGet (X : Cx) (t : V → V → Hp → VK → Prop) : Prop :=
  ∀ (pins : List (Addr × Obj)) (s : Shared) (σ : St) (H : Hp) (o i : V) (ov iv : Value) (Q : VK), Inv X pins σ H s → RelV o ov → RelV i iv → t o i H Q →
    wpAny (model X.prog X.w) X.A (getItem ov iv) (EP X pins σ Q) X.xe s
def ipI (f : Int → Int → Int) : TIp := fun x y H Q => ∃ i j, x = .int i ∧ y = .int j ∧ Q (.int (f i j)) H
theorem ip_add : PIp X .Add (ipI fun i j => i + j) := by
  intro pins s σ H x y v u Q I r1 r2 h
  obtain ⟨i, j, e1, e2, q⟩ := h
  subst e1; subst e2
  obtain ⟨t, rfl⟩ := r1
  obtain ⟨t', rfl⟩ := r2
  exact iadd_int ⟨.int _, H, I.tok _, ⟨_, rfl⟩, q⟩
end
section
variable {X : Cx} {pos : Pos}
def tWhile (c : TT) (tb : TS) : TS := fun D σ H => ∃ W : Nat → St → Hp → Prop, (∃ m, W m σ H) ∧ ∀ m σ H, W m σ H →
  c σ H fun b H1 => if b = true then ∃ N : St → Hp → Prop, (∀ σ' H', N σ' H' → ∃ m', m' < m ∧ W m' σ' H') ∧ tb { D with nx := N, ct := N, bk := D.nx } σ H1 else D.nx σ H1
theorem ps_while {c : Expr} {body : List Stmt} {tc : TT} {tb : TS} (hp : PassesOwn (model X.prog X.w) X.A X.env X.xe) (hc : PT X c tc) (hb : PSs X body tb) : PS X (.While c body [] pos) (tWhile tc tb) := by
  intro pins s σ H D I h
  obtain ⟨W, ⟨m0, w0⟩, turn⟩ := h
  refine wpAny_While (codeAny_whileLoop (fun n s' => ∃ σ' H', Inv X pins σ' H' s' ∧ W n σ' H') ?_ m0 ⟨σ, H, I, w0⟩)
  rintro n s1 ⟨σ1, H1, I1, w1⟩
  refine wpAny_passesOwn hp (thn (hc pins s1 σ1 H1 _ I1 (turn n σ1 H1 w1)) fun b s2 ⟨H2, I2, q2⟩ => ?_)
  cases b with
  | true =>
    obtain ⟨N, hN, q2⟩ := q2
    rw [if_pos rfl]
    refine wpAny_passesOwn hp (thn (hb pins s2 σ1 H2 _ I2 q2) fun f s3 q3 => ?_)
    cases f with
    | next =>
      obtain ⟨σ3, H3, I3, n3⟩ := q3
      obtain ⟨m', hm, w3⟩ := hN σ3 H3 n3
      exact ⟨m', hm, σ3, H3, I3, w3⟩
    | cont =>
      obtain ⟨σ3, H3, I3, n3⟩ := q3
      obtain ⟨m', hm, w3⟩ := hN σ3 H3 n3
      exact ⟨m', hm, σ3, H3, I3, w3⟩
    | brk => exact q3
    | ret v => exact q3
  | false =>
    rw [if_neg Bool.false_ne_true]
    exact wpAny_execs_nil ⟨σ1, H2, I2, q2⟩
end
structure It where
  go : Nat → Hp → Prop
  yld : Nat → Hp → V → Hp → Prop
  stop : Nat → Hp → Prop
def FpOk (X : Cx) (pins : List (Addr × Obj)) (H : Hp) (b : Addr) : Prop :=
  H b = none ∧ b ≠ X.env.locals ∧ b ∉ X.fs ∧ (b ∈ X.ex ∨ X.s₀.heap.objs.size ≤ b) ∧ (∀ x c, X.env.cells.lookup x = some c → c ≠ b) ∧ ∀ p ∈ X.pn ++ pins, p.1 ≠ b
theorem Inv.fpOk {X : Cx} {pins : List (Addr × Obj)} {σ : St} {H H' : Hp} {s : Shared} {b : Addr} (I : Inv X pins σ H s) (hb : s.heap.objs.size ≤ b) (hn : H' b = none) : FpOk X pins H' b := by
  refine ⟨hn, Nat.ne_of_gt (Nat.lt_of_lt_of_le I.lt hb), I.nofs hb, .inr (Nat.le_trans I.sz hb), fun x c e z => ?_, fun p hp z => ?_⟩
  · obtain ⟨v, q⟩ := I.cell x c e
    exact absurd (Nat.lt_of_lt_of_le q.lt (by rw [z]; exact hb)) (Nat.lt_irrefl _)
  · exact absurd (Nat.lt_of_lt_of_le (Heap.lt_size (I.pin p hp).1) (by rw [z]; exact hb)) (Nat.lt_irrefl _)
structure Turn (P : Program) (w : World) (K : PySem.W.Frag) (tg : Expr) (J : It) (fp : List Addr) (it : Addr) (tn : Nat → Heap → Prop) : Prop where
  mem : it ∈ fp
  obj : ∀ i h, tn i h → ∀ b ∈ fp, ∃ o, h.get? b = some o ∧ ∀ v, o.data ≠ .cell v
  keep : ∀ i h h', tn i h → (∀ b ∈ fp, ∀ o, h.get? b = some o → h'.get? b = some o) → tn i h'
  item : ∀ (X : Cx), X.prog = P → X.w = w → X.K = K → X.calm = true → ∀ (i : Nat) (pins : List (Addr × Obj)) (s : Shared) (σ : St) (H : Hp) (E : Value → Shared → Prop), Inv X pins σ H s → (∀ b ∈ fp, FpOk X pins H b) → tn i s.heap → J.go i H →
    wpAny (model P w) X.A (pyNext (.ref it)) (fun r s1 => ∃ u, r = some u ∧
      wpAny (model P w) X.A (letOwnedTupleGo tg (.ref it) u) (fun _ s2 => ∃ x H', Inv X pins σ H' s2 ∧ RelV x u ∧ J.yld i H x H' ∧ tn (i + 1) s2.heap ∧ ∀ b ∈ fp, H' b = none) E s1) E s
  done : ∀ (X : Cx), X.prog = P → X.w = w → X.K = K → X.calm = true → ∀ (i : Nat) (pins : List (Addr × Obj)) (s : Shared) (σ : St) (H : Hp) (E : Value → Shared → Prop), Inv X pins σ H s → (∀ b ∈ fp, FpOk X pins H b) → tn i s.heap → J.stop i H →
    wpAny (model P w) X.A (pyNext (.ref it)) (fun r s1 => r = none ∧ Inv X pins σ H s1) E s
  self : ∀ (A : Around) (i : Nat) (s : Shared) (Q : Value → Shared → Prop) (E : Value → Shared → Prop), tn i s.heap → Q (.ref it) s → wpAny (model P w) A (pyIter (.ref it)) Q E s
abbrev TI := St → Hp → (It → Hp → Prop) → Prop
def PIE (X : Cx) (pins : List (Addr × Obj)) (σ : St) (tg : Expr) (R : It → Hp → Prop) (itv : Value) (s2 : Shared) : Prop :=
  ∃ (it : Addr) (fp : List Addr) (tn : Nat → Heap → Prop) (J : It) (H' : Hp), itv = .ref it ∧ Inv X pins σ H' s2 ∧ Turn X.prog X.w X.K tg J fp it tn ∧ tn 0 s2.heap ∧ (∀ b ∈ fp, FpOk X pins H' b) ∧ R J H'
def PI (X : Cx) (tg iter : Expr) (wi : TI) : Prop :=
  ∀ (pins : List (Addr × Obj)) (s : Shared) (σ : St) (H : Hp) (R : It → Hp → Prop), Inv X pins σ H s → wi σ H R →
    wpAny (model X.prog X.w) X.A (eval iter X.env) (fun v s1 => wpAny (model X.prog X.w) X.A (pyIter v) (PIE X pins σ tg R) X.xe s1) X.xe s
theorem go_of {M : Model} {A : Around} {E : Value → Shared → Prop} {s : Shared} {tg : Expr} {it : Addr} {u : Value} {o : Obj} {n : String} {vs : Array Value} {Q : Unit → Shared → Prop} (ho : s.heap.get? it = some o) (hc : o.cls = .type n) (hd : o.data = .fields vs)
    (hn : ["enumerate", "zip", "dict_itemiterator", "dict_reverseitemiterator", "odict_iterator", "itertools.zip_longest", "itertools.pairwise"].contains n = false) (hQ : Q () s) : wpAny M A (letOwnedTupleGo tg (.ref it) u) Q E s := by
  unfold letOwnedTupleGo
  cases tg <;> first
    | exact wpAny_pure hQ
    | (cases u <;> first
        | exact wpAny_pure hQ
        | (refine wpAny_bind (wpAny_load ho ?_)
           rw [hc, hd]
           show wpAny M A (if (["enumerate", "zip", "dict_itemiterator", "dict_reverseitemiterator", "odict_iterator", "itertools.zip_longest", "itertools.pairwise"].contains n && vs[0]? == some (rawInt _)) = true then _ else _) Q E s
           rw [if_neg (by intro h; rw [hn, Bool.false_and] at h; cases h)]
           exact wpAny_pure hQ))
def Itl (K : PySem.W.Frag) (a : Addr) : It :=
  ⟨fun i H => ∃ xs x, SqL K H a xs ∧ xs[i]? = some x, fun i H x H' => H' = H ∧ ∀ xs, SqL K H a xs → xs[i]? = some x, fun i H => ∃ xs, SqL K H a xs ∧ xs.length ≤ i⟩
def Itt (K : PySem.W.Frag) (a : Addr) : It :=
  ⟨fun i H => ∃ xs x, SqT K H a xs ∧ xs[i]? = some x, fun i H x H' => H' = H ∧ ∀ xs, SqT K H a xs → xs[i]? = some x, fun i H => ∃ xs, SqT K H a xs ∧ xs.length ≤ i⟩
def Itr (lo : Int) (n : Nat) : It := ⟨fun i _ => i < n, fun i H x H' => H' = H ∧ x = .int (lo + i), fun i _ => n ≤ i⟩
theorem turn_list {P : Program} {w : World} {K : PySem.W.Frag} {tg : Expr} (a it : Addr) : Turn P w K tg (Itl K a) [it] it (fun i h => h.IsListIter it a i) where
  mem := by simp
  obj := fun i h st b hb => by
    have e : b = it := by simpa using hb
    subst e
    obtain ⟨o, e, c, d⟩ := st
    exact ⟨o, e, fun v z => by rw [d] at z; cases z⟩
  keep := fun i h h' st k => st.at fun o e => k it (by simp) o e
  item := by
    intro X hP hw hK hc i pins s σ H E I hf st hg
    subst hP hw hK
    obtain ⟨xs, x, hq, hx⟩ := hg
    obtain ⟨its, rv, p, hz⟩ := I.list hq
    obtain ⟨u, hu, ru⟩ := rv.get hx
    obtain ⟨f0, f1, f2, f3, f4, f5⟩ := hf it (by simp)
    refine wpAny_pyNext_list_item st p.isList (x := u) (by simpa using hu) fun h' st' sb => ?_
    have I1 : Inv X pins σ H { s with heap := h' } := I.turned (t' := s.toks) (fun b o hb e => (sb.2 b hb).trans e) f0 f1 f3 f4 f5
    obtain ⟨o, e, c, d⟩ := id st'
    exact ⟨u, rfl, go_of (s := { s with heap := h' }) e c d (by decide) ⟨x, H, I1, ru, ⟨rfl, fun ys hy => by rw [I.list_inj hy hq]; exact hx⟩, st', fun b hb => (hf b hb).1⟩⟩
  done := by
    intro X hP hw hK hc i pins s σ H E I hf st hg
    subst hP hw hK
    obtain ⟨xs, hq, hx⟩ := hg
    obtain ⟨its, rv, p, hz⟩ := I.list hq
    obtain ⟨f0, f1, f2, f3, f4, f5⟩ := hf it (by simp)
    have hl := rv.length
    exact wpAny_pyNext_list_end (I.ok.hd hc) st p.isList (by simp; omega) fun h' eb => ⟨rfl, I.turned (t' := s.toks) (fun b o hb e => eb b o hb e) f0 f1 f3 f4 f5⟩
  self := fun _ _ _ _ _ st h => wpAny_pyIter_listiter st h
theorem turn_range {P : Program} {w : World} {K : PySem.W.Frag} {tg : Expr} (it : Addr) (lo : Int) (n : Nat) : Turn P w K tg (Itr lo n) [it] it (fun i h => IsRangeIter h it (lo + (i : Nat) * 1) ((n : Int) - (i : Nat)) 1) where
  mem := by simp
  obj := fun i h st b hb => by
    have e : b = it := by simpa using hb
    subst e
    exact ⟨_, st, fun v z => by
      have z' : Data.fields _ = Data.cell v := z
      cases z'⟩
  keep := fun i h h' st k => k it (by simp) _ st
  item := by
    intro X hP hw hK hc i pins s σ H E I hf st hg
    subst hP hw hK
    obtain ⟨f0, f1, f2, f3, f4, f5⟩ := hf it (by simp)
    have W := Walks.range (prog := X.prog) (w := X.w) (I.ok.hd hc) it lo 1 n
    refine W.item i s _ _ hg st fun v h' tk hv st' kk => ?_
    obtain ⟨t, rfl⟩ := hv
    have I1 : Inv X pins σ H { s with heap := h', toks := tk } := I.turned (fun b o hb e => kk b o (by simpa using hb) e) f0 f1 f3 f4 f5
    refine ⟨_, rfl, go_of (s := { s with heap := h', toks := tk }) (n := "range_iterator") st' rfl rfl (by decide) ⟨.int (lo + i), H, I1, ⟨t, ?_⟩, ⟨rfl, rfl⟩, st', fun b hb => (hf b hb).1⟩⟩
    rw [Int.mul_one]
  done := by
    intro X hP hw hK hc i pins s σ H E I hf st hg
    subst hP hw hK
    obtain ⟨f0, f1, f2, f3, f4, f5⟩ := hf it (by simp)
    exact wpAny_pyNext_range_end (I.ok.hd hc) st (by have : n ≤ i := hg; omega) fun h' eb => ⟨rfl, I.turned (t' := s.toks) (fun b o hb e => eb b o hb e) f0 f1 f3 f4 f5⟩
  self := fun _ _ _ _ _ st h => wpAny_pyIter_rangeiter st h
end L2
namespace L2
open PySem PySem.Spec PyProof.Rows
section
variable {X : Cx} {tg : Expr}
def iList (K : PySem.W.Frag) (tl : TE) : TI := fun σ H R => tl σ H fun x H1 => ∃ a, x = .ref a ∧ (∃ xs, SqL K H1 a xs) ∧ R (Itl K a) H1
def iTup (K : PySem.W.Frag) (tl : TE) : TI := fun σ H R => tl σ H fun x H1 => ∃ a, x = .ref a ∧ (∃ xs, SqT K H1 a xs) ∧ R (Itt K a) H1
theorem pi_list {l : Expr} {tl : TE} (hl : PE X l tl) : PI X tg l (iList X.K tl) := by
  intro pins s σ H R I h
  refine thn (hl pins s σ H _ I h) fun v s1 ⟨x, H1, I1, r1, q1⟩ => ?_
  obtain ⟨a, e, ⟨xs, hq⟩, q⟩ := q1
  subst e
  cases r1
  obtain ⟨its, rv, p, hz⟩ := I1.list hq
  refine wpAny_pyIter_list p.isList ?_
  refine ⟨s1.heap.objs.size, [s1.heap.objs.size], _, _, H1, rfl, I1.kept (t' := s1.toks) fun b o e => Heap.get?_push_of_some _ e, turn_list a _, ⟨_, Heap.get?_push_size _ rfl, rfl, rfl⟩, fun b hb => ?_, q⟩
  have e : b = s1.heap.objs.size := by simpa using hb
  subst e
  exact I1.fpOk (Nat.le_refl _) (I1.hok.fresh (Nat.le_refl _))
theorem range_it {pins : List (Addr × Obj)} {σ : St} {H : Hp} {s : Shared} {R : It → Hp → Prop} {E : Value → Shared → Prop} {lo hi : Int} {t u v : Tok} {tk : Nat} (I : Inv X pins σ H s) (h1 : -(2 ^ 62) ≤ lo) (h2 : lo < 2 ^ 62) (h3 : -(2 ^ 62) ≤ hi) (h4 : hi < 2 ^ 62)
    (q : R (Itr lo (hi - lo).toNat) H) : wpAny (model X.prog X.w) X.A (pyIter (.ref s.heap.objs.size)) (PIE X pins σ tg R) E { s with heap := s.heap.push { cls := .type "range", data := .fields #[.int lo t, .int hi u, .int 1 v] }, toks := tk } := by
  refine wpAny_pyIter_range (IsRange.new ..) (small_one h1 h2 h3 h4) ?_
  have I1 : Inv X pins σ H { s with heap := s.heap.push { cls := .type "range", data := .fields #[.int lo t, .int hi u, .int 1 v] }, toks := tk } := I.kept fun b o e => Heap.get?_push_of_some _ e
  refine ⟨(s.heap.push { cls := .type "range", data := .fields #[.int lo t, .int hi u, .int 1 v] }).objs.size, [(s.heap.push { cls := .type "range", data := .fields #[.int lo t, .int hi u, .int 1 v] }).objs.size], _, _, H, rfl,
    I1.kept (t' := tk) fun b o e => Heap.get?_push_of_some _ e, turn_range _ lo (hi - lo).toNat, ?_, fun b hb => ?_, q⟩
  · have e1 : lo + ((0 : Nat) : Int) * 1 = lo := by simp
    have e2 : (((hi - lo).toNat : Nat) : Int) - ((0 : Nat) : Int) = Builtin.Range.rangeSize lo hi 1 := by rw [rangeSize_one]; split <;> omega
    show IsRangeIter _ _ (lo + ((0 : Nat) : Int) * 1) ((((hi - lo).toNat : Nat) : Int) - ((0 : Nat) : Int)) 1
    rw [e1, e2]
    exact Heap.get?_push_size _ rfl
  · have e : b = (s.heap.push { cls := .type "range", data := .fields #[.int lo t, .int hi u, .int 1 v] }).objs.size := by simpa using hb
    subst e
    exact I1.fpOk (Nat.le_refl _) (I1.hok.fresh (Nat.le_refl _))
def iRng1 (ta : TA) : TI := fun σ H R => ta σ H fun vs H1 => ∃ j : Int, vs = [.int j] ∧ -(2 ^ 62) ≤ j ∧ j < 2 ^ 62 ∧ R (Itr 0 j.toNat) H1
def iRng2 (ta : TA) : TI := fun σ H R => ta σ H fun vs H1 => ∃ i j : Int, vs = [.int i, .int j] ∧ (-(2 ^ 62) ≤ i ∧ i < 2 ^ 62 ∧ -(2 ^ 62) ≤ j ∧ j < 2 ^ 62) ∧ R (Itr i (j - i).toNat) H1
theorem pi_range1 {a : Expr} {ta : TA} {p pos : Pos} (hg : Gl X "range") (hm : X.mg "range" = none) (ha : PA X [a] ta) (hs : starEach [a] X.env = [(false, eval a X.env)] := by rfl) : PI X tg (.Call (.Name "range" p) [a] [] pos) (iRng1 ta) := by
  intro pins s σ H R I h
  refine Call_ (ld_blt I hg hm boot_range (PyProof.Rows.callWith_type1 (thn (ha pos pins s σ H _ I h) fun us s1 ⟨vs, H1, I1, r1, q1⟩ => ?_) hs rfl))
  obtain ⟨j, e, q1, q2, q⟩ := q1
  subst e
  cases r1 with
  | cons r rr =>
    cases rr
    obtain ⟨t, rfl⟩ := r
    exact call_range_1 (range_it I1 (by omega) (by omega) q1 q2 (by simpa using q))
theorem pi_range2 {a b : Expr} {ta : TA} {p pos : Pos} (hg : Gl X "range") (hm : X.mg "range" = none) (ha : PA X [a, b] ta) (hs : starEach [a, b] X.env = [(false, eval a X.env), (false, eval b X.env)] := by rfl) (hs2 : starEach [b] X.env = [(false, eval b X.env)] := by rfl) :
    PI X tg (.Call (.Name "range" p) [a, b] [] pos) (iRng2 ta) := by
  intro pins s σ H R I h
  refine Call_ (ld_blt I hg hm boot_range (PyProof.Rows.callWith_type1 (thn (ha pos pins s σ H _ I h) fun us s1 ⟨vs, H1, I1, r1, q1⟩ => ?_) (by rw [hs, hs2]) (by rw [hs2]; rfl)))
  obtain ⟨i, j, e, ⟨q1, q2, q3, q4⟩, q⟩ := q1
  subst e
  cases r1 with
  | cons r rr =>
    cases rr with
    | cons r' rr =>
      cases rr
      obtain ⟨t, rfl⟩ := r
      obtain ⟨t', rfl⟩ := r'
      exact call_range_2 (range_it I1 q1 q2 q3 q4 q)
def tFor (wi : TI) (g : TG) (tb : TS) : TS := fun D σ H => wi σ H fun J H1 => ∃ W : Nat → Nat → St → Hp → Prop, (∃ m, W 0 m σ H1) ∧ ∀ i m σ H, W i m σ H →
  (J.stop i H ∧ D.nx σ H) ∨ (J.go i H ∧ ∃ N : St → Hp → Prop, (∀ σ' H', N σ' H' → ∃ m', m' < m ∧ W (i + 1) m' σ' H') ∧ ∀ x H', J.yld i H x H' → g x σ H' fun σ2 H2 => tb { D with nx := N, ct := N, bk := D.nx } σ2 H2)
def pinsAt (fp : List Addr) (h : Heap) : List (Addr × Obj) := fp.filterMap fun b => (h.get? b).map fun o => (b, o)
theorem mem_pinsAt {fp : List Addr} {h : Heap} {b : Addr} {o : Obj} (hb : b ∈ fp) (e : h.get? b = some o) : (b, o) ∈ pinsAt fp h := List.mem_filterMap.mpr ⟨b, hb, by rw [e]; rfl⟩
theorem of_pinsAt {fp : List Addr} {h : Heap} {p : Addr × Obj} (hp : p ∈ pinsAt fp h) : p.1 ∈ fp ∧ h.get? p.1 = some p.2 := by
  obtain ⟨b, hb, e⟩ := List.mem_filterMap.mp hp
  cases q : h.get? b with
  | none => rw [q] at e; cases e
  | some o =>
    rw [q] at e
    have e' : (b, o) = p := Option.some.inj e
    subst e'
    exact ⟨hb, q⟩
theorem Inv.pinned {pins : List (Addr × Obj)} {σ : St} {H : Hp} {s : Shared} {fp : List Addr} (I : Inv X pins σ H s) (hf : ∀ b ∈ fp, FpOk X pins H b) (ho : ∀ b ∈ fp, ∃ o, s.heap.get? b = some o ∧ ∀ v, o.data ≠ .cell v) : Inv X (pins ++ pinsAt fp s.heap) σ H s :=
  I.pins_of fun p hp => (List.mem_append.mp hp).elim (fun z => I.pin p (List.mem_append_right _ z)) fun z => by
    obtain ⟨hb, e⟩ := of_pinsAt z
    obtain ⟨f0, f1, f2, _⟩ := hf p.1 hb
    obtain ⟨o, e', d⟩ := ho p.1 hb
    rw [e] at e'; cases e'
    exact ⟨e, f0, f1, f2, d⟩
theorem Inv.unpinned {pins pl : List (Addr × Obj)} {σ : St} {H : Hp} {s : Shared} (I : Inv X (pins ++ pl) σ H s) : Inv X pins σ H s := I.pins_of fun p hp => I.pin p (List.mem_append_right _ (List.mem_append_left _ hp))
theorem ps_for {iter : Expr} {body : List Stmt} {wi : TI} {g : TG} {tb : TS} {pos : Pos} (hp : PassesOwn (model X.prog X.w) X.A X.env X.xe) (hc : X.calm = true) (hi : PI X tg iter wi) (hg : PG X tg g) (hb : PSs X body tb)
    (hs : ∀ x, foldedSetIterable iter X.env x = pure x := by intro _; rfl) : PS X (.For tg iter body [] pos) (tFor wi g tb) := by
  intro pins s σ H D I h
  refine wpAny_For (thn (hi pins s σ H _ I h) fun v s1 h1 => thn h1 fun itv s2 h2 => ?_) hs
  obtain ⟨it, fp, tn, J, H2, e, I2, T, st2, f2, W, ⟨m0, w0⟩, turn⟩ := h2
  subst e
  -- what stays true of the iterator's objects through the loop
  have stat : ∀ {H' : Hp}, (∀ b ∈ fp, H' b = none) → ∀ b ∈ fp, FpOk X pins H' b := fun hn b hb => ⟨hn b hb, (f2 b hb).2⟩
  refine codeAny_forLoop_any (fun n s' => ∃ i σ' H', Inv X pins σ' H' s' ∧ tn i s'.heap ∧ (∀ b ∈ fp, H' b = none) ∧ W i n σ' H') ?_ m0 ⟨0, σ, H2, I2, st2, fun b hb => (f2 b hb).1, w0⟩
  rintro n s3 ⟨i, σ3, H3, I3, st3, fr3, w3⟩
  rcases turn i n σ3 H3 w3 with ⟨stop, qn⟩ | ⟨go, N, hN, step⟩
  · refine wpAny_passesOwn hp (thn (T.done X rfl rfl rfl hc i pins s3 σ3 H3 X.xe I3 (stat fr3) st3 stop) fun r s4 ⟨hr, I4⟩ => ?_)
    subst hr
    exact wpAny_execs_nil ⟨σ3, H3, I4, qn⟩
  · refine wpAny_passesOwn hp (thn (T.item X rfl rfl rfl hc i pins s3 σ3 H3 X.xe I3 (stat fr3) st3 go) fun r s4 ⟨u, hr, h4⟩ => ?_)
    subst hr
    refine wpAny_passesOwn hp (thn h4 fun _ s5 ⟨x, H5, I5, r5, y5, st5, fr5⟩ => ?_)
    have I5' := I5.pinned (stat fr5) (T.obj _ _ st5)
    refine wpAny_passesOwn hp (thn (hg _ s5 σ3 H5 x u _ I5' r5 (step x H5 y5)) fun _ s6 ⟨σ6, H6, I6, q6⟩ => ?_)
    refine wpAny_passesOwn hp (thn (hb _ s6 σ6 H6 _ I6 q6) fun f s7 q7 => ?_)
    have again : ∀ {σ7 : St} {H7 : Hp}, Inv X (pins ++ pinsAt fp s5.heap) σ7 H7 s7 → N σ7 H7 → ∃ m, m < n ∧ ∃ i σ' H', Inv X pins σ' H' s7 ∧ tn i s7.heap ∧ (∀ b ∈ fp, H' b = none) ∧ W i m σ' H' := fun {σ7 H7} I7 n7 => by
      obtain ⟨m', hm, w7⟩ := hN σ7 H7 n7
      refine ⟨m', hm, i + 1, σ7, H7, I7.unpinned, T.keep _ _ _ st5 fun b hb o e => (I7.pin (b, o) (List.mem_append_right _ (List.mem_append_right _ (mem_pinsAt hb e)))).1, fun b hb => ?_, w7⟩
      obtain ⟨o, e, d⟩ := T.obj _ _ st5 b hb
      exact (I7.pin (b, o) (List.mem_append_right _ (List.mem_append_right _ (mem_pinsAt hb e)))).2.1
    cases f with
    | next => obtain ⟨σ7, H7, I7, n7⟩ := q7; exact again I7 n7
    | cont => obtain ⟨σ7, H7, I7, n7⟩ := q7; exact again I7 n7
    | brk => obtain ⟨σ7, H7, I7, q7⟩ := q7; exact ⟨σ7, H7, I7.unpinned, q7⟩
    | ret v => obtain ⟨x7, σ7, H7, I7, r7, q7⟩ := q7; exact ⟨x7, σ7, H7, I7.unpinned, r7, q7⟩
end
theorem while_by {c : TT} {tb : TS} {D : Ends} {σ : St} {H : Hp} (Pv : St → Hp → Prop) (μ : St → Hp → Nat) (h0 : Pv σ H)
    (hs : ∀ σ H, Pv σ H → c σ H fun b H1 => if b = true then tb { D with nx := fun σ' H' => Pv σ' H' ∧ μ σ' H' < μ σ H, ct := fun σ' H' => Pv σ' H' ∧ μ σ' H' < μ σ H, bk := D.nx } σ H1 else D.nx σ H1)
    (mono : ∀ σ H Q Q', (∀ b H1, Q b H1 → Q' b H1) → c σ H Q → c σ H Q') : tWhile c tb D σ H := by
  refine ⟨fun m σ H => m = μ σ H ∧ Pv σ H, ⟨_, rfl, h0⟩, ?_⟩
  rintro m σ H ⟨rfl, p⟩
  refine mono σ H _ _ (fun b H1 q => ?_) (hs σ H p)
  cases b with
  | true => exact ⟨_, fun σ' H' ⟨p', l⟩ => ⟨_, l, rfl, p'⟩, q⟩
  | false => exact q
end L2
namespace L2
open PySem PySem.Spec PyProof.Rows
abbrev R2 := V → V → Hp → VK → Prop
def OpR (X : Cx) (f : Value → Value → Sem Value) (r : R2) : Prop :=
  ∀ (pins : List (Addr × Obj)) (s : Shared) (σ : St) (H : Hp) (x y : V) (v u : Value) (Q : VK), Inv X pins σ H s → RelV x v → RelV y u → r x y H Q →
    wpAny (model X.prog X.w) X.A (f v u) (EP X pins σ Q) X.xe s
def UnR (X : Cx) (f : Value → Sem Value) (r : V → Hp → VK → Prop) : Prop :=
  ∀ (pins : List (Addr × Obj)) (s : Shared) (σ : St) (H : Hp) (x : V) (v : Value) (Q : VK), Inv X pins σ H s → RelV x v → r x H Q →
    wpAny (model X.prog X.w) X.A (f v) (EP X pins σ Q) X.xe s
def CallR (X : Cx) (f : Value) (r : List V → Hp → VK → Prop) : Prop :=
  ∀ (pins : List (Addr × Obj)) (s : Shared) (σ : St) (H : Hp) (xs : List V) (us : List Value) (Q : VK), Inv X pins σ H s → Vals xs us → r xs H Q →
    wpAny (model X.prog X.w) X.A (call f us) (EP X pins σ Q) X.xe s
def TruR (X : Cx) (r : V → Hp → (Bool → Hp → Prop) → Prop) : Prop :=
  ∀ (pins : List (Addr × Obj)) (s : Shared) (σ : St) (H : Hp) (x : V) (v : Value) (Q : Bool → Hp → Prop), Inv X pins σ H s → RelV x v → r x H Q →
    wpAny (model X.prog X.w) X.A (truthy v) (TP X pins σ Q) X.xe s
def tOp (r : R2) (ta tb : TE) : TE := fun σ H Q => ta σ H fun x H1 => tb σ H1 fun y H2 => r x y H2 Q
def tUn (r : V → Hp → VK → Prop) (ta : TE) : TE := fun σ H Q => ta σ H fun x H1 => r x H1 Q
def rI (C : Int → Int → Prop) (g : Int → Int → V) : R2 := fun x y H Q => ∃ i j, x = .int i ∧ y = .int j ∧ C i j ∧ Q (g i j) H
def rI0 (g : Int → Int → V) : R2 := fun x y H Q => ∃ i j, x = .int i ∧ y = .int j ∧ Q (g i j) H
def rU (g : Int → V) : V → Hp → VK → Prop := fun x H Q => ∃ i, x = .int i ∧ Q (g i) H
section
variable {X : Cx} {a b c : Expr} {ta tb tc : TE} {pos : Pos}
theorem binT (ha : PE X a ta) (hb : PE X b tb) {pins : List (Addr × Obj)} {s : Shared} {σ : St} {H : Hp} {R : V → V → Hp → Prop} (I : Inv X pins σ H s)
    (h : ta σ H fun x H1 => tb σ H1 fun y H2 => R x y H2) {Q : Value → Shared → Prop} {f : Value → Value → Sem Value}
    (hf : ∀ v u s2 x y H2, Inv X pins σ H2 s2 → RelV x v → RelV y u → R x y H2 → wpAny (model X.prog X.w) X.A (f v u) Q X.xe s2) :
    wpAny (model X.prog X.w) X.A (eval a X.env) (fun v s₁ => wpAny (model X.prog X.w) X.A (eval b X.env) (fun u s₂ => wpAny (model X.prog X.w) X.A (f v u) Q X.xe s₂) X.xe s₁) X.xe s := by
  refine thn (ha pins s σ H _ I h) fun v s1 ⟨x, H1, I1, r1, q1⟩ => ?_
  refine thn (hb pins s1 σ H1 _ I1 q1) fun u s2 ⟨y, H2, I2, r2, q2⟩ => ?_
  exact hf v u s2 x y H2 I2 r1 r2 q2
theorem pe_op {op : Operator} {r : R2} (ho : OpR X (binaryOp op) r) (ha : PE X a ta) (hb : PE X b tb) : PE X (.BinOp a op b pos) (tOp r ta tb) := by
  intro pins s σ H Q I h
  exact wpAny_BinOp (binT ha hb I h fun v u s2 x y H2 I2 rx ry q => ho pins s2 σ H2 x y v u Q I2 rx ry q)
theorem pe_un {op : UnaryOp} {r : V → Hp → VK → Prop} (ho : UnR X (unaryOp op) r) (ha : PE X a ta) : PE X (.UnaryOp op a pos) (tUn r ta) := by
  intro pins s σ H Q I h
  exact UnaryOp_ (thn (ha pins s σ H _ I h) fun v s1 ⟨x, H1, I1, r1, q1⟩ => ho pins s1 σ H1 x v Q I1 r1 q1)
theorem opI {f : Value → Value → Sem Value} {C : Int → Int → Prop} {g : Int → Int → Int}
    (rule : ∀ (i j : Int) (t u : Tok) (s : Shared) (Q : Value → Shared → Prop) (E : Value → Shared → Prop), C i j → Q (.int (g i j) s.toks) { s with toks := s.toks + 1 } → wpAny (model X.prog X.w) X.A (f (.int i t) (.int j u)) Q E s) :
    OpR X f (rI C fun i j => .int (g i j)) := by
  intro pins s σ H x y v u Q I rx ry h
  obtain ⟨i, j, rfl, rfl, hc, q⟩ := h
  obtain ⟨t, rfl⟩ := rx
  obtain ⟨t', rfl⟩ := ry
  exact rule i j t t' s _ _ hc ⟨.int (g i j), H, I.tok _, ⟨_, rfl⟩, q⟩
theorem opI0 {f : Value → Value → Sem Value} {g : Int → Int → Int}
    (rule : ∀ (i j : Int) (t u : Tok) (s : Shared) (Q : Value → Shared → Prop) (E : Value → Shared → Prop), Q (.int (g i j) s.toks) { s with toks := s.toks + 1 } → wpAny (model X.prog X.w) X.A (f (.int i t) (.int j u)) Q E s) :
    OpR X f (rI0 fun i j => .int (g i j)) := by
  intro pins s σ H x y v u Q I rx ry h
  obtain ⟨i, j, rfl, rfl, q⟩ := h
  obtain ⟨t, rfl⟩ := rx
  obtain ⟨t', rfl⟩ := ry
  exact rule i j t t' s _ _ ⟨.int (g i j), H, I.tok _, ⟨_, rfl⟩, q⟩
theorem opB0 {f : Value → Value → Sem Value} {g : Int → Int → Bool}
    (rule : ∀ (i j : Int) (t u : Tok) (s : Shared) (Q : Value → Shared → Prop) (E : Value → Shared → Prop), Q (.bool (g i j)) s → wpAny (model X.prog X.w) X.A (f (.int i t) (.int j u)) Q E s) :
    OpR X f (rI0 fun i j => .bl (g i j)) := by
  intro pins s σ H x y v u Q I rx ry h
  obtain ⟨i, j, rfl, rfl, q⟩ := h
  obtain ⟨t, rfl⟩ := rx
  obtain ⟨t', rfl⟩ := ry
  exact rule i j t t' s _ _ ⟨.bl (g i j), H, I, rfl, q⟩
def CDiv (i j : Int) : Prop := 0 < j ∧ j < 1073741824
def CDivN (i j : Int) : Prop := j ≠ 0 ∧ j.natAbs < 1073741824
def CPow (i j : Int) : Prop := 0 ≤ j ∧ j ≤ 1000000 ∧ i.natAbs < 2 ^ 64
def CMul (i j : Int) : Prop := (-(2 ^ 64) < i ∧ i < 2 ^ 64) ∨ (-(2 ^ 64) < j ∧ j < 2 ^ 64)
theorem CMul.ok {i j : Int} (h : CMul i j) : IntMulOk i j := by
  rcases h with ⟨h1, h2⟩ | ⟨h1, h2⟩
  · exact .of_left (intBits_le_64 h1 h2)
  · exact .of_right (intBits_le_64 h1 h2)
theorem op_add : OpR X (binaryOp .Add) (rI0 fun i j => .int (i + j)) := opI0 fun _ _ _ _ _ _ _ q => add_int q
theorem op_sub : OpR X (binaryOp .Sub) (rI0 fun i j => .int (i - j)) := opI0 fun _ _ _ _ _ _ _ q => sub_int q
theorem op_mul : OpR X (binaryOp .Mult) (rI CMul fun i j => .int (i * j)) := opI fun _ _ _ _ _ _ _ hc q => mul_int q hc.ok
theorem op_mod : OpR X (binaryOp .Mod) (rI (fun _ j => 0 < j) fun i j => .int (i % j)) := opI fun i j _ _ _ _ _ hc q => by
  have h1 : (0 : Int) < j := hc
  exact mod_int' (by omega) (by rw [Int.fmod_eq_emod_of_nonneg i (by omega)]; exact q)
theorem op_modN : OpR X (binaryOp .Mod) (rI (fun _ j => j ≠ 0) fun i j => .int (i.fmod j)) := opI fun _ _ _ _ _ _ _ hc q => mod_int' hc q
theorem unI {f : Value → Sem Value} {g : Int → Int}
    (rule : ∀ (i : Int) (t : Tok) (s : Shared) (Q : Value → Shared → Prop) (E : Value → Shared → Prop), Q (.int (g i) s.toks) { s with toks := s.toks + 1 } → wpAny (model X.prog X.w) X.A (f (.int i t)) Q E s) :
    UnR X f (rU fun i => .int (g i)) := by
  intro pins s σ H x v Q I rx h
  obtain ⟨i, rfl, q⟩ := h
  obtain ⟨t, rfl⟩ := rx
  exact rule i t s _ _ ⟨.int (g i), H, I.tok _, ⟨_, rfl⟩, q⟩
theorem un_neg : UnR X (unaryOp .USub) (rU fun i => .int (-i)) := unI fun _ _ _ _ _ q => neg_int q
end
def scal : V → V → Bool
  | .non, .non => true | .non, .int _ => true | .int _, .non => true | .non, .bl _ => true | .bl _, .non => true | .non, .str _ => true | .str _, .non => true
  | .int _, .int _ => true | .bl _, .bl _ => true | .str _, .str _ => true | .byt _, .byt _ => true
  | .int _, .str _ => true | .str _, .int _ => true | .bl _, .str _ => true | .str _, .bl _ => true
  | _, _ => false
def rEq : R2 := fun x y H Q => scal x y = true ∧ Q (.bl (decide (x = y))) H
def rNe : R2 := fun x y H Q => scal x y = true ∧ Q (.bl (!decide (x = y))) H
theorem dec_int {i j : Int} : decide (V.int i = V.int j) = (i == j) := by
  rw [Bool.eq_iff_iff]
  simp
theorem dec_bl {i j : Bool} : decide (V.bl i = V.bl j) = (i == j) := by
  rw [Bool.eq_iff_iff]
  simp
theorem dec_str {i j : Str} : decide (V.str i = V.str j) = (i == j) := by
  rw [Bool.eq_iff_iff]
  simp
theorem dec_byt {i j : Array UInt8} : decide (V.byt i = V.byt j) = (i.toList == j.toList) := by
  rw [Bool.eq_iff_iff]
  cases i
  cases j
  simp
section
variable {X : Cx} {a b c : Expr} {ta tb tc : TE} {pos : Pos}
theorem fin_bl {pins : List (Addr × Obj)} {σ : St} {H : Hp} {s : Shared} {Q : VK} {k k' : Bool} (I : Inv X pins σ H s) (q : Q (.bl k) H) (e : k = k') : EP X pins σ Q (.bool k') s := by
  subst e
  exact ⟨.bl k, H, I, rfl, q⟩
theorem op_eq : OpR X (compareOp .Eq) rEq := by
  intro pins s σ H x y v u Q I rx ry h
  obtain ⟨hs, q⟩ := h
  cases x with
  | non =>
    cases rx
    cases y with
    | non => cases ry; exact PySem.EqNone.eq_none_none (fin_bl I q (by simp))
    | bl j => cases ry; exact PySem.EqNone.eq_none_bool (fin_bl I q (by simp))
    | int j => obtain ⟨t', rfl⟩ := ry; exact PySem.EqNone.eq_none_int (fin_bl I q (by simp))
    | str j => obtain ⟨t', rfl⟩ := ry; exact PySem.EqNone.eq_none_str (fin_bl I q (by simp))
    | _ => exact absurd (show false = true from hs) Bool.false_ne_true
  | bl i =>
    cases rx
    cases y with
    | non => cases ry; exact PySem.EqNone.eq_bool_none (fin_bl I q (by simp))
    | bl j => cases ry; exact eq_bool (fin_bl I q dec_bl)
    | str j => obtain ⟨t', rfl⟩ := ry; exact PySem.EqMixed.eq_bool_str (fin_bl I q (by simp))
    | _ => exact absurd (show false = true from hs) Bool.false_ne_true
  | int i =>
    obtain ⟨t, rfl⟩ := rx
    cases y with
    | non => cases ry; exact PySem.EqNone.eq_int_none (fin_bl I q (by simp))
    | int j => obtain ⟨t', rfl⟩ := ry; exact eq_int (fin_bl I q dec_int)
    | str j => obtain ⟨t', rfl⟩ := ry; exact PySem.EqMixed.eq_int_str (fin_bl I q (by simp))
    | _ => exact absurd (show false = true from hs) Bool.false_ne_true
  | str i =>
    obtain ⟨t, rfl⟩ := rx
    cases y with
    | non => cases ry; exact PySem.EqNone.eq_str_none (fin_bl I q (by simp))
    | bl j => cases ry; exact PySem.EqMixed.eq_str_bool (fin_bl I q (by simp))
    | int j => obtain ⟨t', rfl⟩ := ry; exact PySem.EqMixed.eq_str_int (fin_bl I q (by simp))
    | str j => obtain ⟨t', rfl⟩ := ry; exact eq_str (fin_bl I q dec_str)
    | _ => exact absurd (show false = true from hs) Bool.false_ne_true
  | byt i =>
    obtain ⟨t, rfl⟩ := rx
    cases y with
    | byt j => obtain ⟨t', rfl⟩ := ry; exact PySem.W.eq_bytes (fin_bl I q dec_byt)
    | _ => exact absurd (show false = true from hs) Bool.false_ne_true
  | _ => cases y <;> exact absurd (show false = true from hs) Bool.false_ne_true
theorem op_ne : OpR X (compareOp .NotEq) rNe := by
  intro pins s σ H x y v u Q I rx ry h
  obtain ⟨hs, q⟩ := h
  cases x with
  | non =>
    cases rx
    cases y with
    | non => cases ry; exact PySem.EqNone.ne_none_none (fin_bl I q (by simp))
    | bl j => cases ry; exact PySem.EqNone.ne_none_bool (fin_bl I q (by simp))
    | int j => obtain ⟨t', rfl⟩ := ry; exact PySem.EqNone.ne_none_int (fin_bl I q (by simp))
    | str j => obtain ⟨t', rfl⟩ := ry; exact PySem.EqNone.ne_none_str (fin_bl I q (by simp))
    | _ => exact absurd (show false = true from hs) Bool.false_ne_true
  | bl i =>
    cases rx
    cases y with
    | non => cases ry; exact PySem.EqNone.ne_bool_none (fin_bl I q (by simp))
    | bl j => cases ry; exact ne_bool (fin_bl I q (congrArg not dec_bl))
    | str j => obtain ⟨t', rfl⟩ := ry; exact PySem.EqMixed.ne_bool_str (fin_bl I q (by simp))
    | _ => exact absurd (show false = true from hs) Bool.false_ne_true
  | int i =>
    obtain ⟨t, rfl⟩ := rx
    cases y with
    | non => cases ry; exact PySem.EqNone.ne_int_none (fin_bl I q (by simp))
    | int j => obtain ⟨t', rfl⟩ := ry; exact ne_int (fin_bl I q (congrArg not dec_int))
    | str j => obtain ⟨t', rfl⟩ := ry; exact PySem.EqMixed.ne_int_str (fin_bl I q (by simp))
    | _ => exact absurd (show false = true from hs) Bool.false_ne_true
  | str i =>
    obtain ⟨t, rfl⟩ := rx
    cases y with
    | non => cases ry; exact PySem.EqNone.ne_str_none (fin_bl I q (by simp))
    | bl j => cases ry; exact PySem.EqMixed.ne_str_bool (fin_bl I q (by simp))
    | int j => obtain ⟨t', rfl⟩ := ry; exact PySem.EqMixed.ne_str_int (fin_bl I q (by simp))
    | str j => obtain ⟨t', rfl⟩ := ry; exact ne_str (fin_bl I q (congrArg not dec_str))
    | _ => exact absurd (show false = true from hs) Bool.false_ne_true
  | byt i =>
    obtain ⟨t, rfl⟩ := rx
    cases y with
    | byt j => obtain ⟨t', rfl⟩ := ry; exact PySem.W.ne_bytes (fin_bl I q (congrArg not dec_byt))
    | _ => exact absurd (show false = true from hs) Bool.false_ne_true
  | _ => cases y <;> exact absurd (show false = true from hs) Bool.false_ne_true
theorem op_lt : OpR X (compareOp .Lt) (rI0 fun i j => .bl (decide (i < j))) := opB0 fun _ _ _ _ _ _ _ q => lt_int q
theorem op_le : OpR X (compareOp .LtE) (rI0 fun i j => .bl (decide (i ≤ j))) := opB0 fun _ _ _ _ _ _ _ q => le_int q
theorem op_gt : OpR X (compareOp .Gt) (rI0 fun i j => .bl (decide (j < i))) := opB0 fun _ _ _ _ _ _ _ q => gt_int q
theorem op_notN : OpR X (compareOp .IsNot) (fun x y H Q => y = .non ∧ Q (.bl (!decide (x = .non))) H) := by
  intro pins s σ H x y v u Q I rx ry h
  obtain ⟨rfl, q⟩ := h
  cases ry
  refine isnot_none_gen (fin_bl I q ?_)
  cases x <;> first
    | (cases rx; rfl)
    | (obtain ⟨t, rfl⟩ := rx; rfl)
def isObj : HO → Bool
  | .lst _ => true
  | .ins _ _ _ => true
  | _ => false
theorem nomark (b : Expr) {op : CmpOp} (h : op ≠ .In := by decide) (h2 : op ≠ .NotIn := by decide) : behindInMarks op b = false := by
  have e1 : (op == CmpOp.In) = false := by cases op <;> first | rfl | exact absurd rfl h
  have e2 : (op == CmpOp.NotIn) = false := by cases op <;> first | rfl | exact absurd rfl h2
  cases b <;> simp [behindInMarks, e1, e2]
theorem pe_cmpR {op : CmpOp} {r : R2} (ho : OpR X (compareOp op) r) (ha : PE X a ta) (hb : PE X b tb) (hm : behindInMarks op b = false) : PE X (.Compare a [op] [b] pos) (tOp r ta tb) := by
  intro pins s σ H Q I h
  exact wpAny_Compare1 (binT ha hb I h fun v u s2 x y H2 I2 rx ry q => ho pins s2 σ H2 x y v u Q I2 rx ry q) hm
def tTest (t : TE) : TT := fun σ H Q => t σ H fun x H' => ∃ k, x = .bl k ∧ Q k H'
theorem pt_cmpR {op : CmpOp} {r : R2} (ho : OpR X (compareOp op) r) (ha : PE X a ta) (hb : PE X b tb) (hm : behindInMarks op b = false) : PT X (.Compare a [op] [b] pos) (tTest (tOp r ta tb)) := by
  intro pins s σ H Q I h
  refine wpAny_isTrue_Compare1 (thn (ha pins s σ H _ I h) fun v s1 ⟨x, H1, I1, r1, q1⟩ => thn (hb pins s1 σ H1 _ I1 q1) fun u s2 ⟨y, H2, I2, r2, q2⟩ =>
    thn (ho pins s2 σ H2 x y v u _ I2 r1 r2 q2) fun c s3 ⟨z, H3, I3, r3, k, e, q3⟩ => ?_) hm
  subst e
  cases r3
  exact wpAny_truthy_bool ⟨H3, I3, q3⟩
def tChain (r r' : R2) (ta tb tc : TE) : TE := fun σ H Q => ta σ H fun x H1 => tb σ H1 fun y H2 => r x y H2 fun z H3 => ∃ k, z = .bl k ∧
  (if k = true then tc σ H3 fun w' H4 => r' y w' H4 Q else Q (.bl false) H3)
def TruV (K : PySem.W.Frag) (x : V) (H : Hp) (k : Bool) : Prop :=
  match x with
  | .non => k = false
  | .bl b => k = b
  | .int i => k = (i != 0)
  | .str y => y.length ≤ sizeLine ∧ k = ((y.length : Int) != 0)
  | .byt y => y.size ≤ sizeLine ∧ k = ((y.size : Int) != 0)
  | .ref p => (∃ xs, SqL K H p xs ∧ k = !xs.isEmpty) ∨ (∃ xs, SqT K H p xs ∧ k = !xs.isEmpty) ∨ ∃ kvs, H p = some (.dK kvs) ∧ k = !kvs.isEmpty
  | _ => False
theorem isEmpty_kv {κ : Type} {kvs : List (κ × V)} {vs : List (κ × Value)} (r : KV kvs vs) : (!vs.isEmpty) = !kvs.isEmpty := by
  cases r <;> rfl
theorem isEmpty_of {xs : List V} {its : List Value} (r : Vals xs its) : (!its.toArray.isEmpty) = !xs.isEmpty := by
  cases r <;> simp
theorem line63 : (sizeLine : Nat) < 2 ^ 63 := by rw [sizeLine_eq]; decide
theorem tru_ok : TruR X (fun x H Q => ∃ k, TruV X.K x H k ∧ Q k H) := by
  intro pins s σ H x v Q I rx h
  obtain ⟨k, e, q⟩ := h
  have hl := line63
  have hs : sizeLine = 16777216 := sizeLine_eq
  cases x with
  | non =>
    cases rx
    have e' : k = false := e
    subst e'
    exact truthy_none ⟨H, I, q⟩
  | bl b =>
    cases rx
    have e' : k = b := e
    subst e'
    exact wpAny_truthy_bool ⟨H, I, q⟩
  | int i =>
    obtain ⟨t, rfl⟩ := rx
    have e' : k = (i != 0) := e
    subst e'
    exact PySem.P.truthy_int ⟨H, I, q⟩
  | str y =>
    obtain ⟨t, rfl⟩ := rx
    obtain ⟨hy, e'⟩ : y.length ≤ sizeLine ∧ k = ((y.length : Int) != 0) := e
    subst e'
    exact PySem.P.truthy_str (by omega) ⟨H, I.tok _, q⟩
  | byt y =>
    obtain ⟨t, rfl⟩ := rx
    obtain ⟨hy, e'⟩ : y.size ≤ sizeLine ∧ k = ((y.size : Int) != 0) := e
    subst e'
    exact PySem.W.truthy_bytes (by omega) ⟨H, I.tok _, q⟩
  | ref p =>
    cases rx
    have e' : (∃ xs, SqL X.K H p xs ∧ k = !xs.isEmpty) ∨ (∃ xs, SqT X.K H p xs ∧ k = !xs.isEmpty) ∨ ∃ kvs, H p = some (.dK kvs) ∧ k = !kvs.isEmpty := e
    rcases e' with ⟨xs, hx, e'⟩ | ⟨xs, hx, e'⟩ | ⟨kvs, hx, e'⟩
    · subst e'
      obtain ⟨its, r, pl, hz⟩ := I.list hx
      have hlen := r.length
      exact wpAny_truthy_list pl.isList (by simp only [List.size_toArray]; omega) ⟨H, I.tok _, by rw [isEmpty_of r]; exact q⟩
    · subst e'
      obtain ⟨its, r, pl, hz⟩ := I.tuple hx
      have hlen := r.length
      exact truthy_tuple pl (by simp only [List.size_toArray]; omega) ⟨H, I.tok _, by rw [isEmpty_of r]; exact q⟩
    · subst e'
      obtain ⟨hz, hS, vs, r, m⟩ : kvs.length ≤ sizeLine ∧ (p == sysModules) = false ∧ ∃ vs, KV kvs vs ∧ s.heap.DictOf (mixKind X.prog X.w) p vs := I.hok p _ hx
      have hlen : kvs.length = vs.length := Paired.length r
      exact wpAny_truthy_dict hS m (by omega) ⟨H, I.tok _, by rw [isEmpty_kv r]; exact q⟩
  | _ => exact (show False from e).elim
def PlainIxT (b : Expr) : Prop := ∀ o i, subscripted b false o i = operate [o, i] (getItem o i)
theorem vals1 {x : V} {us : List Value} (r : Vals [x] us) : ∃ u, us = [u] ∧ RelV x u := by
  cases r with
  | cons r1 r2 => cases r2; exact ⟨_, rfl, r1⟩
theorem call_abs : CallR X (.builtin "abs") (fun xs H Q => ∃ i, xs = [.int i] ∧ Q (.int (if i < 0 then -i else i)) H) := by
  intro pins s σ H xs us Q I r h
  obtain ⟨i, rfl, q⟩ := h
  obtain ⟨u, rfl, t, rfl⟩ := vals1 r
  exact call_abs_int fun u tk => ⟨.int (if i < 0 then -i else i), H, I.tok _, ⟨_, rfl⟩, q⟩
def LenV (K : PySem.W.Frag) (x : V) (H : Hp) (n : Nat) : Prop :=
  match x with
  | .str y => y.length ≤ sizeLine ∧ n = y.length
  | .byt y => y.size ≤ sizeLine ∧ n = y.size
  | .ref p => (∃ xs, SqL K H p xs ∧ n = xs.length) ∨ ∃ xs, SqT K H p xs ∧ n = xs.length
  | _ => False
end
end L2
namespace L2
open PySem PySem.Spec PyProof.Rows
structure ObjM (h : Heap) (x dx C : Addr) (mA : Str → Option Value) : Prop where
  obj : h.get? x = some (PySem.W.instObj C dx)
  ns : h.Ns1 dx mA
  ne : dx ≠ x
theorem lookIn_ns {h : Heap} {dx : Addr} {mA : Str → Option Value} (n : h.Ns1 dx mA) : ∃ od, h.get? dx = some od ∧ ∀ name, PySem.W.lookIn name od = some (mA name) := by
  obtain ⟨o, es, ep, ho, hd, hk, _, hm⟩ := n
  refine ⟨o, ho, fun name => ?_⟩
  have e := hm name
  unfold nsFind findBy at e
  rw [← Array.find?_toList] at e
  unfold PySem.W.lookIn
  rw [hd]
  dsimp only
  split
  · rename_i y q
    rw [q] at e
    exact congrArg some e
  · rename_i q
    rw [q] at e
    have a : es.toList.any (·.refKey) = false := by
      rw [List.any_eq_false]
      intro y hy
      obtain ⟨z, t, hkey⟩ := hk y (Array.mem_toList_iff.mp hy)
      simp [DictEntry.refKey, hkey]
    have a' : ¬ es.toList.any (·.refKey) = true := by rw [a]; exact Bool.false_ne_true
    rw [if_neg a']
    exact congrArg some e
theorem ObjM.look {h : Heap} {x dx C : Addr} {mA : Str → Option Value} (I : ObjM h x dx C mA) : ∃ od, PySem.W.InstAt h x (PySem.W.instObj C dx) C (some od) ∧ ∀ name, PySem.W.lookIn name od = some (mA name) :=
  let ⟨od, ho, hl⟩ := lookIn_ns I.ns
  ⟨od, ⟨I.obj, rfl, rfl, ho⟩, hl⟩
section
variable {prog : Program} {w : World} {A : Around} {E : Value → Shared → Prop} {s : Shared} {K : PySem.W.Frag} {x dx C f : Addr} {mA : Str → Option Value} {name : Str} {v : Value}
end
def putF (f : Str) (v : V) : List (Str × V) → List (Str × V)
  | [] => [(f, v)]
  | (g, x) :: r => if g = f then (g, v) :: r else (g, x) :: putF f v r
section
variable {P : Program} {w : World} {H H' : Hp} {h h' : Heap} {a C dx : Addr} {fs fs' : List (Str × V)}
theorem ins_get (hok : HOk P w H h) (e : H a = some (.ins C dx fs)) : ∃ mA, ObjM h a dx C mA ∧ (∀ f, RelO (fs.lookup f) (mA f)) ∧ PySem.Within mA (fs.map (·.1)) ∧ fs.length ≤ 1000 ∧ H dx = some (.own a) := by
  obtain ⟨d, z, ne, ob, mA, n, r, q⟩ := (show ObjOk P w H h a (.ins C dx fs) from hok a _ e)
  exact ⟨mA, ⟨ob, n, ne⟩, r, q, z, d⟩
end
structure Cls (K : PySem.W.Frag) (C : Addr) : Prop where
  pg : PySem.W.plainGet K C Str.empty = true
  hd : PySem.W.hasDictIn K C = true
  po : PySem.W.plainOver K C = true
  sa : PySem.W.findIn K (.ref C) "__setattr__" = some (some (.builtin "object.__setattr__"))
theorem Cls.get {K : PySem.W.Frag} {C : Addr} (c : Cls K C) (f : Str) : PySem.W.plainGet K C f = true := c.pg
def NoAttr (K : PySem.W.Frag) (C : Addr) (f : Str) : Prop := PySem.W.findIn K (.ref C) f = some none
structure Con (K : PySem.W.Frag) (C : Addr) (f : Str) (v : V) (u : Value) : Prop where
  at_ : PySem.W.findIn K (.ref C) f = some (some u)
  rel : RelV v u
  get : PySem.W.specialIn K u "__get__" = some none
  cp : PySem.W.copiedNames.contains f = false
structure Meth (K : PySem.W.Frag) (C : Addr) (m : Str) (f : Addr) : Prop where
  at_ : PySem.W.findIn K (.ref C) m = some (some (.ref f))
  fn : PySem.W.isFn K (.ref f) = true
  kp : PySem.W.keepIn K (.ref f) = true
section
variable {X : Cx} {pins : List (Addr × Obj)} {σ : St} {H : Hp} {s : Shared} {a C dx : Addr} {fs : List (Str × V)} {f : Str} {v : V} {A : Around} {E : Value → Shared → Prop}
end
def tFld (K : PySem.W.Frag) (ta : TE) (f : Str) : TE := fun σ H Q => ta σ H fun x H1 => ∃ a C dx fs v, x = .ref a ∧ H1 a = some (.ins C dx fs) ∧ Cls K C ∧ NoAttr K C f ∧ fs.lookup f = some v ∧ Q v H1
def tCon (K : PySem.W.Frag) (ta : TE) (f : Str) : TE := fun σ H Q => ta σ H fun x H1 => ∃ a C dx fs v u, x = .ref a ∧ H1 a = some (.ins C dx fs) ∧ Cls K C ∧ Con K C f v u ∧ fs.lookup f = none ∧ Q v H1
def sFld (K : PySem.W.Frag) (ta tv : TE) (f : Str) : TS := fun D σ H => tv σ H fun y H1 => ta σ H1 fun x H2 => ∃ a C dx fs, x = .ref a ∧ H2 a = some (.ins C dx fs) ∧ Cls K C ∧ NoAttr K C f ∧ fs.length < 1000 ∧
  D.nx σ (upd H2 a (.ins C dx (putF f y fs)))
def InOp (X : Cx) (op : Operator) (rd : V → V → Hp → VK → Prop) : Prop :=
  ∀ (pins : List (Addr × Obj)) (s : Shared) (σ : St) (H : Hp) (x y : V) (u v : Value) (Q : VK), Inv X pins σ H s → RelV x u → RelV y v → rd x y H Q → wpAny (model X.prog X.w) X.A (inplaceOp op u v) (EP X pins σ Q) X.xe s
def sFldAug (K : PySem.W.Frag) (ta tv : TE) (rd : V → V → Hp → VK → Prop) (f : Str) : TS := fun D σ H => ta σ H fun x H1 => ∃ a C dx fs v, x = .ref a ∧ H1 a = some (.ins C dx fs) ∧ Cls K C ∧ NoAttr K C f ∧ fs.lookup f = some v ∧
  tv σ H1 fun y H2 => rd v y H2 fun z H3 => ∃ dx' fs', H3 a = some (.ins C dx' fs') ∧ fs'.length < 1000 ∧ D.nx σ (upd H3 a (.ins C dx' (putF f z fs')))
section
variable {X : Cx} {o e value : Expr} {f : Str} {pos pos' tpos : Pos} {ta tv : TE}
def rAdd : V → V → Hp → VK → Prop := fun x y H Q => ∃ i j, x = .int i ∧ y = .int j ∧ Q (.int (i + j)) H
def rSub : V → V → Hp → VK → Prop := fun x y H Q => ∃ i j, x = .int i ∧ y = .int j ∧ Q (.int (i - j)) H
end
section
variable {X : Cx} {pins : List (Addr × Obj)} {σ : St} {H : Hp} {s : Shared} {A : Around} {E : Value → Shared → Prop} {Q : Value → Shared → Prop} {c : Value} {b : Bool}
inductive TyOf (K : PySem.W.Frag) (H : Hp) : V → Value → Prop where
  | non : TyOf K H .non (.type "NoneType")
  | bl (x : Bool) : TyOf K H (.bl x) (.type "bool")
  | int (i : Int) : TyOf K H (.int i) (.type "int")
  | str (x : Str) : TyOf K H (.str x) (.type "str")
  | flt (x : UInt64) : TyOf K H (.flt x) (.type "float")
  | lst {a : Addr} {xs : List V} (e : H a = some (.lst xs)) : TyOf K H (.ref a) (.type "list")
  | frz {a : Addr} {o : Obj} {xs : List V} (e : H a = some (.frz o (.lst xs))) : TyOf K H (.ref a) (.type "list")
  | tup {a : Addr} {xs : List V} (e : H a = some (.tup xs)) : TyOf K H (.ref a) (.type "tuple")
  | dK {a : Addr} {kvs : List (Key × V)} (e : H a = some (.dK kvs)) : TyOf K H (.ref a) (.type "dict")
  | ins {a C dx : Addr} {fs : List (Str × V)} (e : H a = some (.ins C dx fs)) (cl : Cls K C) (ha : PySem.W.findIn K (.ref C) "__class__" = some (some (.builtin "object.__class__")))
      (hn : PySem.W.specialIn K (.builtin "object.__class__") "__get__" = some (some (.builtin "getset_descriptor.__get__"))) (htk : PySem.W.takesIn K (.builtin "object.__class__") = some true)
      (hm : PySem.W.mroIn K C (.type "object") = some true) : TyOf K H (.ref a) (.ref C)
theorem isinst_ok {x : V} {u t : Value} (I : Inv X pins σ H s) (rx : RelV x u) (ty : TyOf X.K H x t) (e : PySem.W.kitOne X.K t c = some b) (h : ∀ tk, Q (.bool b) { s with toks := tk }) :
    wpAny (model X.prog X.w) A (call (.builtin "isinstance") [u, c]) Q E s := by
  cases ty with
  | non => cases (show u = Value.none from rx); exact PySem.W.kia_one PySem.W.kitx_none I.kIn True.intro e (fun z => nomatch z) h
  | bl y => cases (show u = Value.bool y from rx); exact PySem.W.kia_one PySem.W.kitx_bool I.kIn True.intro e (fun z => nomatch z) h
  | int i => obtain ⟨t, q⟩ := (show ∃ t, u = Value.int i t from rx); cases q; exact PySem.W.kia_one PySem.W.kitx_int I.kIn True.intro e (fun z => nomatch z) h
  | str y => obtain ⟨t, q⟩ := (show ∃ t, u = Value.str y t from rx); cases q; exact PySem.W.kia_one PySem.W.kitx_str I.kIn True.intro e (fun z => nomatch z) h
  | flt y => obtain ⟨t, q⟩ := (show ∃ t, u = Value.float y t from rx); cases q; exact PySem.W.kia_one PySem.W.kitx_float I.kIn True.intro e (fun z => nomatch z) h
  | @lst a xs ea =>
    cases (show u = Value.ref a from rx)
    obtain ⟨_, _, n, _, h1⟩ := (show ObjOk X.prog X.w H s.heap a (.lst xs) from I.hok a _ ea)
    exact PySem.W.kia_one PySem.W.kitx_list I.kIn ⟨_, h1, rfl⟩ e (fun z => nomatch z) h
  | @frz a ob xs ea =>
    cases (show u = Value.ref a from rx)
    obtain ⟨_, _, _, n, _, h1⟩ := (show ObjOk X.prog X.w H s.heap a (.frz ob (.lst xs)) from I.hok a _ ea)
    exact PySem.W.kia_one PySem.W.kitx_list I.kIn ⟨_, h1, rfl⟩ e (fun z => nomatch z) h
  | @tup a xs ea =>
    cases (show u = Value.ref a from rx)
    obtain ⟨_, _, _, p⟩ := (show ObjOk X.prog X.w H s.heap a (.tup xs) from I.hok a _ ea)
    obtain ⟨o, h1, h2, _⟩ := p
    exact PySem.W.kia_one PySem.W.kitx_tuple I.kIn ⟨o, h1, h2⟩ e (fun z => nomatch z) h
  | @dK a kvs ea =>
    cases (show u = Value.ref a from rx)
    obtain ⟨_, _, vs, _, p⟩ := (show ObjOk X.prog X.w H s.heap a (.dK kvs) from I.hok a _ ea)
    obtain ⟨o, es, ep, h1, h2, _⟩ := p
    exact PySem.W.kia_one PySem.W.kitx_dict I.kIn ⟨o, h1, h2.1⟩ e (fun z => nomatch z) h
  | @ins a C dx fs ea cl ha hn htk hm =>
    cases (show u = Value.ref a from rx)
    obtain ⟨mA, O, _⟩ := ins_get I.hok ea
    obtain ⟨od, J, _⟩ := O.look
    exact PySem.W.kia_one (PySem.W.kitx_own (cl.get _) cl.hd ha hn htk hm) I.kIn J e (fun z => nomatch z) h
end
end L2
namespace L2
open PySem PySem.Spec PyProof.Rows
structure Room (k : Nat) (A : Around) : Prop where
  hd : A.handled = none
  dp : A.depth + 3 * k + 5 < recursionLimit
  un : A.units + 16 * k + 200 < cLine
theorem Room.mono {j k : Nat} {A : Around} (r : Room k A) (h : j ≤ k) : Room j A := ⟨r.hd, by have := r.dp; omega, by have := r.un; omega⟩
theorem Room.deeper {k : Nat} {A : Around} (r : Room (k + 1) A) (env : Env) : Room k (A.deeper env) :=
  ⟨r.hd, by have := r.dp; show A.depth + 1 + 3 * k + 5 < _; omega, by have := r.un; show A.units + 3 + 16 * k + 200 < _; omega⟩
theorem Room.depth {k : Nat} {A : Around} (r : Room k A) : A.depth < recursionLimit := by have := r.dp; omega
theorem Room.units {k : Nat} {A : Around} (r : Room k A) : A.units + 64 < cLine := by have := r.un; omega
def tNil : TA := fun _ H Q => Q [] H
def tCons (ta : TE) (tr : TA) : TA := fun σ H Q => ta σ H fun x H1 => tr σ H1 fun xs H2 => Q (x :: xs) H2
section
variable {X : Cx} {e : Expr} {es : List Expr} {te : TE} {t : TA} {pos : Pos}
theorem pa_nil : PA X [] tNil := fun _ _ _ _ H Q I h => Calls.spliced_nil ⟨[], H, I, .nil, h⟩
theorem pa_cons (ha : PE X e te) (hr : PA X es t) (hs : starEach (e :: es) X.env = (false, eval e X.env) :: starEach es X.env := by rfl) : PA X (e :: es) (tCons te t) := by
  intro pos pins s σ H Q I h
  rw [hs]
  show wpAny _ _ (spliced ((false, eval e X.env) :: backTo pos (starEach es X.env))) _ _ s
  refine Calls.spliced_cons (thn (ha pins s σ H _ I h) fun u s1 ⟨x, H1, I1, r1, q1⟩ => ?_)
  exact thn (hr pos pins s1 σ H1 _ I1 q1) fun us s2 ⟨xs, H2, I2, r2, q2⟩ => ⟨x :: xs, H2, I2, .cons r1 r2, q2⟩
def tTup (t : TA) : TE := fun σ H Q => t σ H fun xs H1 => xs.length ≤ sizeLine ∧ ∀ p, H1 p = none → Q (.ref p) (upd H1 p (.tup xs))
def tLst (t : TA) : TE := fun σ H Q => t σ H fun xs H1 => xs.length ≤ sizeLine ∧ ∀ p, H1 p = none → Q (.ref p) (upd H1 p (.lst xs))
theorem pe_tup {x1} (h : PA X es t) : PE X (.Tuple es x1 pos) (tTup t) := by
  intro pins s σ H Q I hq
  refine wpAny_Tuple_spliced (thn (h pos pins s σ H _ I hq) fun us s1 ⟨xs, H1, I1, r, z, q⟩ => ⟨by rw [← r.length]; exact z, ?_⟩)
  have hf : H1 s1.heap.objs.size = none := I1.hok.fresh (Nat.le_refl _)
  refine ⟨.ref s1.heap.objs.size, upd H1 s1.heap.objs.size (.tup xs), I1.laid (t' := s1.toks) (fun b u e => Heap.get?_push_of_some _ e) (Nat.le_refl _) ?_, rfl, q _ hf⟩
  exact ⟨z, us, r, ⟨_, Heap.get?_push_size _ rfl, rfl, _, rfl⟩⟩
theorem pe_lst (h : PA X es t) : PE X (.List es pos) (tLst t) := by
  intro pins s σ H Q I hq
  refine wpAny_List_spliced (thn (h pos pins s σ H _ I hq) fun us s1 ⟨xs, H1, I1, r, z, q⟩ => ⟨by rw [← r.length]; exact z, ?_⟩)
  have hf : H1 s1.heap.objs.size = none := I1.hok.fresh (Nat.le_refl _)
  refine ⟨.ref s1.heap.objs.size, upd H1 s1.heap.objs.size (.lst xs), I1.laid (t' := s1.toks) (fun b u e => Heap.get?_push_of_some _ e) (Nat.le_refl _) ?_, rfl, q _ hf⟩
  exact ⟨z, us, 0, r, Heap.get?_push_size _ rfl⟩
end
abbrev Sp := List V → Hp → VK → XK → Prop
abbrev CXT := List Env → Hp → Shared → XK → Value → Shared → Prop
structure Env0 (P : Program) (w : World) (K : PySem.W.Frag) (mg : Str → Option Value) (base : Heap) (A : Around) (outer : List Env) (s : Shared) (H : Hp) : Prop where
  frames : A.frames = some outer
  mod : Mod K mg base
  bs : ∀ b o, base.get? b = some o → s.heap.get? b = some o ∧ H b = none
  bsz : base.objs.size ≤ s.heap.objs.size
  funs : s.heap.FunFrames base outer
  frf : ∀ b ∈ frs outer, H b = none
  hok : HOk P w H s.heap
  bare : AllBare s.gens
def CE (outer : List Env) (P : Program) (w : World) (H : Hp) (s : Shared) (Q : VK) (u : Value) (s' : Shared) : Prop :=
  ∃ v H', s'.os = s.os ∧ AllBare s'.gens ∧ Un (frs outer) [] H H' s.heap s'.heap ∧ HOk P w H' s'.heap ∧ RelV v u ∧ Q v H'
def CR (CX : CXT) (outer : List Env) (P : Program) (w : World) (H : Hp) (s : Shared) (Q : VK) (E : XK) (r : Result) (s' : Shared) : Prop :=
  match r with
  | .ok (.ret u) => CE outer P w H s Q u s'
  | .ok _ => False
  | .error e => CX outer H s E e s'
structure FnOk (P : Program) (w : World) (K : PySem.W.Frag) (mg : Str → Option Value) (base : Heap) (CX : CXT) (k : Nat) (f : Addr) (fd : FuncData) (ps : List Str) (sp : Sp) : Prop where
  len : ∀ vs H Q E, sp vs H Q E → vs.length = ps.length
  run : ∀ (A : Around) (outer : List Env) (s : Shared) (H : Hp) (args : Args) (us : List Value) (vs : List V) (Q : VK) (E : XK), Room k A → Env0 P w K mg base A outer s H → BindsTo s fd args (ps.zip us) → Vals vs us → sp vs H Q E →
    codeAny (model P w) A (.call (.ref f) args) (CR CX outer P w H s Q E) s
section
variable {X : Cx} {pins : List (Addr × Obj)} {σ : St} {H : Hp} {s s' : Shared}
theorem Inv.env0 (I : Inv X pins σ H s) : Env0 X.prog X.w X.K X.mg X.base X.A X.stack s H :=
  ⟨I.ok.frames, I.ok.mod, I.bs, Nat.le_trans I.ok.bsz I.sz, I.stack, I.stkFree, I.hok, I.bare⟩
theorem Inv.after {Q : VK} {u : Value} (I : Inv X pins σ H s) (h : CE X.stack X.prog X.w H s Q u s') : EP X pins σ Q u s' := by
  obtain ⟨v, H', os, bare, un, hok, r, q⟩ := h
  obtain ⟨hh, g, d, t, os'⟩ := s'
  obtain rfl : os' = s.os := os
  exact ⟨v, H', I.call (h' := hh) (g' := g) (d' := d) (t' := t) (ch := []) un hok bare (fun b z => absurd z (by simp)), r, q⟩
end
def tCall (sp : Sp) (dvs : List V) (E : XK) (t : TA) : TE := fun σ H Q => t σ H fun vs H1 => sp (vs ++ dvs) H1 Q E
def tMeth (C : Addr) (m : Str) (sp : Sp) (dvs : List V) (E : XK) (ta : TE) (t : TA) : TE := fun σ H Q => ta σ H fun x H1 => ∃ a dx fs, x = .ref a ∧ H1 a = some (.ins C dx fs) ∧ fs.lookup m = none ∧
  t σ H1 fun vs H2 => sp (x :: (vs ++ dvs)) H2 Q E
def tMake (C : Addr) (sp : Sp) (dvs : List V) (E : XK) (t : TA) : TE := fun σ H Q => t σ H fun vs H1 => ∀ x dx, H1 x = none → H1 dx = none → dx ≠ x →
  sp (.ref x :: (vs ++ dvs)) (upd (upd H1 dx (.own x)) x (.ins C dx [])) (fun v H2 => v = .non ∧ Q (.ref x) H2) E
def Binds (K : PySem.W.Frag) (fd : FuncData) (ps : List Str) (ds : List Value) : Prop :=
  ∀ (s : Shared) (us : List Value), K.In s.heap → (us ++ ds).length = ps.length → BindsTo s fd ⟨us, []⟩ (ps.zip (us ++ ds))
theorem Binds.all {K : PySem.W.Frag} {fd : FuncData} {ps : List Str} (h : ∀ us : List Value, us.length = ps.length → bindArgs fd ⟨us, []⟩ = pure (ps.zip us)) : Binds K fd ps [] := fun s us _ hl => by
  rw [List.append_nil] at hl ⊢
  exact .of_eq (h us hl)
def Passes (CX : CXT) (X : Cx) (E : XK) : Prop := ∀ (pins : List (Addr × Obj)) (σ : St) (H : Hp) (s : Shared) (e : Value) (s' : Shared), Inv X pins σ H s → CX X.stack H s E e s' → X.xe e s'
section
variable {X : Cx} {CX : CXT} {k : Nat} {f C : Addr} {fd : FuncData} {ps : List Str} {sp : Sp} {dvs : List V} {ds : List Value} {E : XK} {x m : Str} {p pos apos : Pos} {e o : Expr} {es : List Expr} {ta : TE} {t : TA}
theorem run_fn {pins : List (Addr × Obj)} {σ : St} {H : Hp} {s : Shared} {Q : VK} {us : List Value} {vs : List V} (F : FnOk X.prog X.w X.K X.mg X.base CX k f fd ps sp) (hr : Room k X.A) (hb : Binds X.K fd ps ds) (hd : Vals dvs ds) (hx : Passes CX X E)
    (I : Inv X pins σ H s) (r : Vals vs us) (h : sp (vs ++ dvs) H Q E) : wpAny (model X.prog X.w) X.A (call (.ref f) us) (EP X pins σ Q) X.xe s := by
  have r2 : Vals (vs ++ dvs) (us ++ ds) := r.append hd
  have hl : (us ++ ds).length = ps.length := by rw [← r2.length]; exact F.len _ _ _ _ h
  refine wpAny_call (codeAny_mono (F.run X.A X.stack s H ⟨us, []⟩ (us ++ ds) (vs ++ dvs) Q E hr I.env0 (hb s us I.kIn hl) r2 h) fun r s' hq => ?_)
  cases r with
  | error e => exact hx pins σ H s e s' I hq
  | ok fl =>
    cases fl with
    | ret u => exact I.after hq
    | next => exact False.elim hq
    | brk => exact False.elim hq
    | cont => exact False.elim hq
theorem pe_call (F : FnOk X.prog X.w X.K X.mg X.base CX k f fd ps sp) (hr : Room k X.A) (hg : Gl X x) (hm : X.mg x = some (.ref f)) (hk : PySem.W.keepIn X.K (.ref f) = true) (hb : Binds X.K fd ps ds) (hd : Vals dvs ds) (hx : Passes CX X E)
    (ha : PA X (e :: es) t) (hdb : (x == ("__debug__" : Str)) = false := by decide) (he : starEach (e :: es) X.env = (false, eval e X.env) :: starEach es X.env := by rfl) (hpl : (backTo pos (starEach es X.env)).any (·.1) = false := by rfl) :
    PE X (.Call (.Name x p) (e :: es) [] pos) (tCall sp dvs E t) := by
  intro pins s σ H Q I h
  refine wpAny_Call_Name_kw (ld_glob I hg hm ?_ hdb)
  refine PySem.W.callWith_K (h₀ := X.base) I.ok.mod.kin hk (thn (ha pos pins s σ H _ I h) fun us s1 ⟨vs, H1, I1, r, q⟩ => ⟨I1.kIn, ?_⟩) he hpl
  exact run_fn F hr hb hd hx I1 r q
structure Mk (K : PySem.W.Frag) (C f : Addr) : Prop where
  makes : PySem.W.makesIn K C = true
  init : PySem.W.findIn K (.ref C) "__init__" = some (some (.ref f))
  fn : PySem.W.isFn K (.ref f) = true
  kp : PySem.W.keepIn K (.ref C) = true
end
def PK (X : Cx) (kws : List Keyword) (t : TA) : Prop :=
  ∀ (pos : Pos) (pins : List (Addr × Obj)) (s : Shared) (σ : St) (H : Hp) (Q : List V → Hp → Prop), Inv X pins σ H s → t σ H Q → wpAny (model X.prog X.w) X.A (evalAll ((backToKw pos (keywordEach kws X.env)).map (·.2))) (AP X pins σ Q) X.xe s
section
variable {X : Cx} {CX : CXT} {k : Nat} {f C : Addr} {fd : FuncData} {ps ks : List Str} {sp : Sp} {E : XK} {x m : Str} {p pos apos kpos : Pos} {e o : Expr} {es : List Expr} {kws : List Keyword} {te ta : TE} {t tk : TA} {nm : Option Str}
structure KBinds (K : PySem.W.Frag) (fd : FuncData) (ps ks : List Str) (g : List Value → List Value → List Value) (gV : List V → List V → List V) : Prop where
  to : ∀ (s : Shared) (us ws : List Value), K.In s.heap → (g us ws).length = ps.length → BindsTo s fd ⟨us, ks.zip ws⟩ (ps.zip (g us ws))
  rel : ∀ {vs : List V} {us : List Value} {zs : List V} {ws : List Value}, Vals vs us → Vals zs ws → Vals (gV vs zs) (g us ws)
def tCallK (sp : Sp) (gV : List V → List V → List V) (E : XK) (t tk : TA) : TE := fun σ H Q => t σ H fun vs H1 => tk σ H1 fun zs H2 => sp (gV vs zs) H2 Q E
variable {g : List Value → List Value → List Value} {gV : List V → List V → List V}
end
structure FnScope (N P : List Str) (sc : Scope) : Prop where
  kind : sc.kind = .function
  co : sc.isCoroutine = false
  gen : sc.isGenerator = false
  nd : N.Nodup
  pre : N.take P.length = P
  par : ∀ x ∈ P, sc.names.lookup x = some .local ∨ sc.names.lookup x = some .cell
  nofree : ∀ y ∈ sc.names, y.2 ≠ .free
theorem bindL_out {kindOf : Str → Option NameKind} {x : Str} : ∀ {binds : List (Str × Value)} {m : Str → Option Value}, (∀ v, (x, v) ∉ binds) → bindL kindOf binds m x = m x
  | [], _, _ => rfl
  | (n, v) :: r, m, h => by
    unfold bindL
    rw [bindL_out fun w hw => h w (List.mem_cons_of_mem _ hw)]
    split
    · have : x ≠ n := by rintro rfl; exact h v List.mem_cons_self
      simp [this]
    · rfl
theorem bindC_out {kindOf : Str → Option NameKind} {x : Str} : ∀ {binds : List (Str × Value)} {m : Str → Option Value}, (∀ v, (x, v) ∉ binds) → bindC kindOf binds m x = m x
  | [], _, _ => rfl
  | (n, v) :: r, m, h => by
    unfold bindC
    rw [bindC_out fun w hw => h w (List.mem_cons_of_mem _ hw)]
    split
    · rfl
    · have : x ≠ n := by rintro rfl; exact h v List.mem_cons_self
      simp [this]
theorem bindL_get {kindOf : Str → Option NameKind} {x : Str} {v : Value} : ∀ {P : List Str} {vs : List Value} {i : Nat} {m : Str → Option Value}, P.Nodup → P[i]? = some x → vs[i]? = some v → kindOf x = some .local →
    bindL kindOf (P.zip vs) m x = some v
  | [], _, _, _, _, h, _, _ => by simp at h
  | _ :: _, [], _, _, _, _, h, _ => by simp at h
  | p :: P, w :: vs, 0, m, nd, h1, h2, hk => by
    simp at h1 h2; subst h1; subst h2
    show bindL kindOf ((p, w) :: P.zip vs) m p = _
    unfold bindL
    rw [bindL_out fun v hv => (List.nodup_cons.mp nd).1 (List.of_mem_zip hv).1, if_pos hk]
    simp
  | p :: P, w :: vs, i + 1, m, nd, h1, h2, hk => by
    show bindL kindOf ((p, w) :: P.zip vs) m x = _
    unfold bindL
    exact bindL_get (i := i) (List.nodup_cons.mp nd).2 (by simpa using h1) (by simpa using h2) hk
theorem bindC_get {kindOf : Str → Option NameKind} {x : Str} {v : Value} : ∀ {P : List Str} {vs : List Value} {i : Nat} {m : Str → Option Value}, P.Nodup → P[i]? = some x → vs[i]? = some v → kindOf x ≠ some .local →
    bindC kindOf (P.zip vs) m x = some v
  | [], _, _, _, _, h, _, _ => by simp at h
  | _ :: _, [], _, _, _, _, h, _ => by simp at h
  | p :: P, w :: vs, 0, m, nd, h1, h2, hk => by
    simp at h1 h2; subst h1; subst h2
    show bindC kindOf ((p, w) :: P.zip vs) m p = _
    unfold bindC
    rw [bindC_out fun v hv => (List.nodup_cons.mp nd).1 (List.of_mem_zip hv).1, if_neg hk]
    simp
  | p :: P, w :: vs, i + 1, m, nd, h1, h2, hk => by
    show bindC kindOf ((p, w) :: P.zip vs) m x = _
    unfold bindC
    exact bindC_get (i := i) (List.nodup_cons.mp nd).2 (by simpa using h1) (by simpa using h2) hk
def start (N : List Str) (vs : List V) : St := vs.map some ++ List.replicate (N.length - vs.length) none
def cxOf (CX : CXT) (P : Program) (w : World) (K : PySem.W.Frag) (mg : Str → Option Value) (base : Heap) (N : List Str) (qual : Str) (scope : Scope) (f : Addr) (cd : Value) (A : Around) (outer : List Env) (s : Shared) (H : Hp) (E : XK) : Cx where
  prog := P
  w := w
  K := K
  mg := mg
  base := base
  A := A.deeper (envOfC qual scope s.heap.objs.size f cd)
  N := N
  s₀ := s
  H₀ := H
  env := envOfC qual scope s.heap.objs.size f cd
  outer := outer
  stack := envOfC qual scope s.heap.objs.size f cd :: outer
  ex := []
  calm := true
  fn := fun _ => true
  pn := []
  xe := fun e s' => wpAny (model P w) (A.deeper (envOfC qual scope s.heap.objs.size f cd)) (leaving (envOfC qual scope s.heap.objs.size f cd) e) (fun _ s'' => CX outer H s E e s'') (fun e' s'' => CX outer H s E e' s'') s'
theorem cell_has {sc : Scope} {n : Nat} {x : Str} (h : sc.names.lookup x = some .cell) : ∃ c, (cellsFrom n sc.names []).lookup x = some c := by
  have q := PySem.W.cellsFrom_some sc.names n [] (.inl h)
  exact Option.isSome_iff_exists.mp q
theorem inv_start {CX : CXT} {P : Program} {w : World} {K : PySem.W.Frag} {mg : Str → Option Value} {base : Heap} {N ps : List Str} {qual : Str} {scope : Scope} {f : Addr} {cd : Value} {A : Around} {outer : List Env} {s s1 : Shared} {H : Hp} {E : XK} {us : List Value} {vs : List V}
    (S : FnScope N ps scope) (hd : A.handled = none) (e0 : Env0 P w K mg base A outer s H) (hl : vs.length = ps.length) (r : Vals vs us)
    (x : InCallC s s.heap.objs.size (bindL (envOfC qual scope s.heap.objs.size f cd).kindOf (ps.zip us) fun _ => none) (cellsFrom (s.heap.objs.size + 1) scope.names []) (bindC (envOfC qual scope s.heap.objs.size f cd).kindOf (ps.zip us) fun _ => none) s1) :
    Inv (cxOf CX P w K mg base N qual scope f cd A outer s H E) [] (start N vs) H s1 := by
  have hpl : ps.length ≤ N.length := by have := congrArg List.length S.pre; rw [List.length_take] at this; omega
  obtain ⟨h1, tk, rfl, hk⟩ := x.done
  have noA : ∀ b : Addr, b ∉ (cxOf CX P w K mg base N qual scope f cd A outer s H E).ex := fun b z => absurd (show b ∈ ([] : List Addr) from z) (by simp)
  refine ⟨⟨e0.mod, S.kind, rfl, rfl, Nat.le_refl _, fun y z c h1 h2 => ?_, fun y hy => ?_, fun y c _ h => ?_, fun _ => hd, Around.frames_deeper e0.frames, .inr ⟨rfl, rfl⟩, fun b z => absurd z (noA b), e0.bs, e0.bsz, fun b _ _ => noA b, fun b z => absurd z (noA b), e0.funs, e0.frf⟩,
    rfl, e0.bare, Un.kept hk, ⟨_, x.toInCall.ns, fun i y v h1 h2 h3 => ?_⟩, fun y c h => ⟨_, x.cell y c h⟩, e0.hok.fresh (Nat.le_refl _), fun y c h => ?_, fun p hp => absurd (show p ∈ ([] : List (Addr × Obj)) from hp) (by simp), e0.hok.kept hk, ?_⟩
  · exact name_of_addr x.apart (PySem.mem_of_lookup h1) (PySem.mem_of_lookup h2)
  · have hy : scope.names.lookup y = some .cell ∨ scope.names.lookup y = some .free := hy
    rcases hy with hy | hy
    · exact cell_has hy
    · exact absurd rfl (S.nofree _ (PySem.mem_of_lookup hy))
  · exact Nat.le_of_lt (x.above y c (PySem.mem_of_lookup h))
  · have hi : i < vs.length := by
      unfold start at h2
      by_cases hi : i < vs.length
      · exact hi
      · rw [List.getElem?_append_right (by simpa using hi)] at h2
        rw [List.getElem?_replicate] at h2
        split at h2 <;> cases h2
    have ha : vs[i]? = some v := by
      unfold start at h2
      rw [List.getElem?_append_left (by simpa using hi), List.getElem?_map] at h2
      cases e : vs[i]? with
      | none => rw [e] at h2; cases h2
      | some a => rw [e] at h2; cases h2; rfl
    obtain ⟨u, hu, rv⟩ := r.get ha
    have hp : ps[i]? = some y := by
      rw [← S.pre, List.getElem?_take_of_lt (by omega)]; exact h1
    have ndP : ps.Nodup := by rw [← S.pre]; exact S.nd.sublist (List.take_sublist _ _)
    refine ⟨u, rv, ?_⟩
    rcases S.par y (List.mem_of_getElem? hp) with k | k
    · exact .inl ⟨k, bindL_get ndP hp hu k⟩
    · obtain ⟨c, e⟩ := cell_has (n := s.heap.objs.size + 1) k
      refine .inr ⟨.inl k, c, e, ?_⟩
      have q := x.cell y c e
      rw [bindC_get ndP hp hu (by show scope.names.lookup y ≠ _; rw [k]; decide)] at q
      exact q
  · exact e0.hok.fresh (Nat.le_of_lt (x.above y c (PySem.mem_of_lookup h)))
  · unfold start
    show _ = N.length
    rw [List.length_append, List.length_map, List.length_replicate]
    omega
theorem fn_of {CX : CXT} {P : Program} {w : World} {K : PySem.W.Frag} {mg : Str → Option Value} {base : Heap} {k : Nat} {f : Addr} {name qual : Str} {params : Arguments} {body : List Stmt} {scope : Scope} {dV kV doc pm cdv ct oc : Value} {an od : Option Addr}
    {osl : Array (Option Value)} {N ps : List Str} {sp : Sp} (lk : K.lookup f = some ⟨oc, od, .func (PySem.W.fnOf name qual params body scope dV kV doc pm an cdv ct), osl⟩) (hcd : PySem.W.codeIn K cdv qual = true) (S : FnScope N ps scope)
    (len : ∀ vs H Q E, sp vs H Q E → vs.length = ps.length)
    (hbody : ∀ (A : Around) (outer : List Env) (s : Shared) (H : Hp) (vs : List V) (Q : VK) (E : XK), Room k (A.deeper (envOfC qual scope s.heap.objs.size f cdv)) → sp vs H Q E →
      ∃ t, PSs (cxOf CX P w K mg base N qual scope f cdv A outer s H E) body t ∧ t { nx := fun _ H' => Q .non H', rt := Q } (start N vs) H) :
    FnOk P w K mg base CX (k + 1) f (PySem.W.fnOf name qual params body scope dV kV doc pm an cdv ct) ps sp := by
  refine ⟨len, fun A outer s H args us vs Q E hr e0 hb r hsp => ?_⟩
  have hl := len _ _ _ _ hsp
  have KX : K.In s.heap := e0.mod.kin.keeps fun b o e => (e0.bs b o e).1
  have lim : s.heap.NoLimit := e0.mod.nolimit.keeps fun b o e => (e0.bs b o e).1
  have hkind : ∀ y ∈ ps.zip us, scope.names.lookup y.1 = some .local ∨ (scope.names.lookup y.1 = some .cell ∧ ((cellsFrom (s.heap.objs.size + 1) scope.names []).lookup y.1).isSome = true) := fun ⟨n, v⟩ hy => by
    rcases S.par n (List.of_mem_zip hy).1 with q | q
    · exact .inl q
    · exact .inr ⟨q, PySem.W.cellsFrom_some _ _ _ (.inl q)⟩
  refine codeAny_call_function hr.depth (KX _ _ lk) rfl S.co S.gen rfl (PySem.W.codeRec_of KX hcd) (hb _ _ _ _ ?_)
  refine wpAny_newFunctionEnv_cells S.kind hkind fun env he s1 x => ?_
  subst he
  refine ⟨lim.keeps x.toInCall.keep, codeAny_func ?_⟩
  obtain ⟨t, ht, hq⟩ := hbody A outer s H vs Q E (hr.deeper _) hsp
  have I : Inv (cxOf CX P w K mg base N qual scope f cdv A outer s H E) [] (start N vs) H s1 := inv_start S hr.hd e0 hl r x
  refine wpAny_mono (ht [] s1 (start N vs) H _ I hq) (fun fl s' hs => ?_) fun e s' hs => hs
  have fin : ∀ {σ' : St} {H' : Hp} {v : V} {u : Value}, Inv (cxOf CX P w K mg base N qual scope f cdv A outer s H E) [] σ' H' s' → RelV v u → Q v H' → CE outer P w H s Q u s' :=
    fun {σ' H' v u} J rv q => ⟨v, H', J.os, J.bare, J.base, J.hok, rv, q⟩
  cases fl with
  | ret u =>
    obtain ⟨v, σ', H', J, rv, q⟩ := hs
    exact fin J rv q
  | next =>
    obtain ⟨σ', H', J, q⟩ := hs
    exact fin (v := V.non) (u := Value.none) J rfl q
  | brk =>
    obtain ⟨_, _, _, q⟩ := hs
    exact False.elim q
  | cont =>
    obtain ⟨_, _, _, q⟩ := hs
    exact False.elim q
end L2
namespace L2
open PySem PySem.Spec PyProof.Rows
section
variable {X : Cx} {x : Str} {p pos : Pos} {e : Expr} {es : List Expr} {t : TA} {id T : String} {r : List V → Hp → VK → Prop}
def tCB (r : List V → Hp → VK → Prop) (t : TA) : TE := fun σ H Q => t σ H fun vs H1 => r vs H1 Q
theorem pe_callB (hc : CallR X (.builtin id) r) (hg : Gl X x) (hm : X.mg x = none) (hv : bootBuiltins x = some (.builtin id)) (ha : PA X (e :: es) t) (hn : x ≠ "__name__" := by decide) (hdb : (x == ("__debug__" : Str)) = false := by decide)
    (he : starEach (e :: es) X.env = (false, eval e X.env) :: starEach es X.env := by rfl) (hpl : (backTo pos (starEach es X.env)).any (·.1) = false := by rfl) : PE X (.Call (.Name x p) (e :: es) [] pos) (tCB r t) := by
  intro pins s σ H Q I h
  refine wpAny_Call_Name_kw (ld_blt I hg hm hv ?_ hn hdb)
  exact PyProof.Rows.callWith_builtin1 (thn (ha pos pins s σ H _ I h) fun us s1 ⟨vs, H1, I1, r1, q1⟩ => hc pins s1 σ H1 vs us Q I1 r1 q1) he hpl
theorem pe_callTy (hc : CallR X (.type T) r) (hg : Gl X x) (hm : X.mg x = none) (hv : bootBuiltins x = some (.type T)) (ha : PA X (e :: es) t) (hn : x ≠ "__name__" := by decide) (hdb : (x == ("__debug__" : Str)) = false := by decide)
    (he : starEach (e :: es) X.env = (false, eval e X.env) :: starEach es X.env := by rfl) (hpl : (backTo pos (starEach es X.env)).any (·.1) = false := by rfl) : PE X (.Call (.Name x p) (e :: es) [] pos) (tCB r t) := by
  intro pins s σ H Q I h
  refine wpAny_Call_Name_kw (ld_blt I hg hm hv ?_ hn hdb)
  exact PyProof.Rows.callWith_type1 (thn (ha pos pins s σ H _ I h) fun us s1 ⟨vs, H1, I1, r1, q1⟩ => hc pins s1 σ H1 vs us Q I1 r1 q1) he hpl
end
end L2
namespace HT
open PySem PyProof.Rows
def lexLt : List Int → List Int → Bool
  | [], [] => false
  | [], _ :: _ => true
  | _ :: _, [] => false
  | x :: xs, y :: ys => if x = y then lexLt xs ys else decide (x < y)
section
open PySem.SeqAt
open PySem.AutoSeq1 (wpAny_loadPart')
open PySem.MeetsSeq PySem.MeetsSeq2 PySem.MeetsSeq3
end
section
variable {prog : Program} {w : World} {A : Around} {E : Value → Shared → Prop} {s : Shared}
def sIx (n d : Nat) : Option Int → Nat
  | none => d
  | some v => if v < 0 then (v + (n : Int)).toNat else min v.toNat n
theorem sIx_nat (n d k : Nat) : sIx n d (some (k : Int)) = min k n := by
  show (if (k : Int) < 0 then ((k : Int) + (n : Int)).toNat else min (k : Int).toNat n) = min k n
  rw [if_neg (by omega), Int.toNat_natCast]
end
end HT
namespace L2
open PySem PySem.Spec PyProof.Rows
abbrev TO := St → Hp → (Option Int → Hp → Prop) → Prop
def PO (X : Cx) (e : Option Expr) (t : TO) : Prop :=
  ∀ (pins : List (Addr × Obj)) (s : Shared) (σ : St) (H : Hp) (Q : Option Int → Hp → Prop), Inv X pins σ H s → t σ H Q →
    wpAny (model X.prog X.w) X.A (evalPart e X.env) (fun u s' => ∃ o H', Inv X pins σ H' s' ∧ IsPart u o ∧ Q o H') X.xe s
def tNoPart : TO := fun _ H Q => Q none H
def tPart (t : TE) : TO := fun σ H Q => t σ H fun x H1 => ∃ i, x = .int i ∧ Q (some i) H1
theorem intsAre_of {ns : List Int} : ∀ {us : List Value}, Vals (ns.map V.int) us → IntsAre us ns := by
  induction ns with
  | nil => intro us r; rw [List.map_nil] at r; cases r; exact .nil
  | cons n ns ih =>
    intro us r
    rw [List.map_cons] at r
    cases r with
    | cons r1 r2 =>
      obtain ⟨t, e⟩ := r1
      subst e
      exact .cons n t (ih r2)
section
variable {X : Cx} {e : Expr} {te : TE} {lo hi : Option Expr} {tl th : TO} {pos p2 : Pos}
theorem po_some (h : PE X e te) : PO X (some e) (tPart te) := by
  intro pins s σ H Q I hw
  rw [evalPart_some]
  refine thn (h pins s σ H _ I hw) fun u s1 ⟨x, H1, I1, r1, q1⟩ => ?_
  obtain ⟨i, rfl, q⟩ := q1
  obtain ⟨t, rfl⟩ := r1
  exact ⟨some i, H1, I1, .int i t, q⟩
def SlR (X : Cx) (r : V → Option Int → Option Int → Hp → VK → Prop) : Prop :=
  ∀ (pins : List (Addr × Obj)) (s : Shared) (σ : St) (H : Hp) (x : V) (v vl vu : Value) (lo hi : Option Int) (sl : Addr) (Q : VK), Inv X pins σ H s → RelV x v → s.heap.IsSliceOf sl vl vu .none → IsPart vl lo → IsPart vu hi → r x lo hi H Q →
    ∃ T id, typeLookup (.type T) "__getitem__" = pure (some (.builtin id)) ∧ s.TypeIs v T ∧ wpAny (model X.prog X.w) X.A (getItem v (.ref sl)) (EP X pins σ Q) X.xe s
def tSl (r : V → Option Int → Option Int → Hp → VK → Prop) (te : TE) (tl th : TO) : TE := fun σ H Q => te σ H fun x H1 => tl σ H1 fun l H2 => th σ H2 fun u H3 => r x l u H3 Q
theorem pe_slice {r : V → Option Int → Option Int → Hp → VK → Prop} (hr : SlR X r) (he : PE X e te) (hl : PO X lo tl) (hu : PO X hi th) : PE X (.Subscript e (.Slice lo hi none p2) pos) (tSl r te tl th) := by
  intro pins s σ H Q I h
  refine Subscript_ (thn (he pins s σ H _ I h) fun v s1 ⟨x, H1, I1, r1, q1⟩ => ?_)
  refine wpAny_Slice (thn (hl pins s1 σ H1 _ I1 q1) fun vl s2 ⟨l, H2, I2, pl, q2⟩ => thn (hu pins s2 σ H2 _ I2 q2) fun vu s3 ⟨u, H3, I3, pu, q3⟩ => ?_)
  rw [evalPart_none]
  refine wpAny_pure ?_
  have I4 : Inv X pins σ H3 { s3 with heap := s3.heap.push { cls := .type "slice", data := .fields #[vl, vu, .none] } } := I3.kept (t' := s3.toks) fun b ob q => Heap.get?_push_of_some _ q
  obtain ⟨T, id, hT, ht, hg⟩ := hr pins { s3 with heap := s3.heap.push { cls := .type "slice", data := .fields #[vl, vu, .none] } } σ H3 x v vl vu l u s3.heap.objs.size Q I4 r1 (Heap.IsSliceOf.new ..) pl pu q3
  show wpAny (model X.prog X.w) X.A (subscriptTail e (.Slice lo hi none p2) v (.ref s3.heap.objs.size)) (EP X pins σ Q) X.xe { s3 with heap := s3.heap.push { cls := .type "slice", data := .fields #[vl, vu, .none] } }
  exact tail_any (ops := [.ref s3.heap.objs.size, v]) ht hT hg (by with_unfolding_all rfl)
def cutV (xs : List V) (lo hi : Option Int) : List V := (xs.drop (HT.sIx xs.length 0 lo)).take (HT.sIx xs.length xs.length hi - HT.sIx xs.length 0 lo)
theorem cutV_length (xs : List V) (lo hi : Option Int) : (cutV xs lo hi).length ≤ xs.length := by
  unfold cutV
  rw [List.length_take, List.length_drop]
  omega
def rSlT (K : PySem.W.Frag) : V → Option Int → Option Int → Hp → VK → Prop := fun x lo hi H Q => ∃ a xs, x = .ref a ∧ SqT K H a xs ∧
  ¬ (HT.sIx xs.length 0 lo = 0 ∧ HT.sIx xs.length xs.length hi = xs.length) ∧ ∀ p, H p = none → Q (.ref p) (upd H p (.tup (cutV xs lo hi)))
def rLtT (K : PySem.W.Frag) : R2 := fun x y H Q => ∃ a b ns ms, x = .ref a ∧ y = .ref b ∧ SqT K H a (ns.map V.int) ∧ SqT K H b (ms.map V.int) ∧ Q (.bl (HT.lexLt ns ms)) H
def rCatT (K : PySem.W.Frag) : R2 := fun x y H Q => ∃ a b xs ys, x = .ref a ∧ y = .ref b ∧ SqT K H a xs ∧ SqT K H b ys ∧ xs ≠ [] ∧ xs.length + ys.length ≤ sizeLine ∧
  (ys = [] → Q (.ref a) H) ∧ (ys ≠ [] → ∀ p, H p = none → Q (.ref p) (upd H p (.tup (xs ++ ys))))
end
end L2
namespace L2
open PySem PySem.Spec PyProof.Rows
def ixN (n : Nat) (i : Int) : Option Nat := if 0 ≤ i then (if i < n then some i.toNat else none) else if -(n : Int) ≤ i then some (i + n).toNat else none
def atI {α : Type} (xs : List α) (i : Int) : Option α := (ixN xs.length i).bind fun j => xs[j]?
theorem ixN_seq {n : Nat} {i : Int} {j : Nat} (h : ixN n i = some j) : seqIndex? i n = some j ∧ j < n ∧ -(n : Int) ≤ i ∧ i < n := by
  unfold ixN at h
  by_cases h0 : 0 ≤ i
  · rw [if_pos h0] at h
    by_cases h1 : i < n
    · rw [if_pos h1] at h
      have e : i.toNat = j := Option.some.inj h
      exact ⟨by rw [seqIndex_of h0 h1, e], by omega, by omega, h1⟩
    · rw [if_neg h1] at h; cases h
  · rw [if_neg h0] at h
    by_cases h1 : -(n : Int) ≤ i
    · rw [if_pos h1] at h
      have e : (i + n).toNat = j := Option.some.inj h
      exact ⟨by rw [seqIndex_neg (by omega) h1, e], by omega, h1, by omega⟩
    · rw [if_neg h1] at h; cases h
theorem atI_get {α : Type} {xs : List α} {i : Int} {v : α} (h : atI xs i = some v) : ∃ j, seqIndex? i xs.length = some j ∧ xs[j]? = some v ∧ j < xs.length ∧ -(xs.length : Int) ≤ i ∧ i < xs.length := by
  unfold atI at h
  cases e : ixN xs.length i with
  | none => rw [e] at h; cases h
  | some j =>
    rw [e] at h
    obtain ⟨h1, h2, h3, h4⟩ := ixN_seq e
    exact ⟨j, h1, h, h2, h3, h4⟩
theorem atI_nat {α : Type} {xs : List α} {j : Nat} {v : α} (h : xs[j]? = some v) : atI xs (j : Int) = some v := by
  have hj : j < xs.length := (List.getElem?_eq_some_iff.mp h).1
  have e : ixN xs.length (j : Int) = some j := by
    unfold ixN
    rw [if_pos (by omega), if_pos (by omega)]; simp
  unfold atI; rw [e]; exact h
def PlainIx (b : Expr) : Prop := ∀ o i, subscripted b false o i = operate [o, i] (getItem o i)
def IxR (X : Cx) (r : R2) : Prop :=
  ∀ (value slice : Expr) (pins : List (Addr × Obj)) (s : Shared) (σ : St) (H : Hp) (x y : V) (v u : Value) (Q : VK), Inv X pins σ H s → RelV x v → RelV y u → r x y H Q →
    subscripted slice false v u = operate [v, u] (getItem v u) → wpAny (model X.prog X.w) X.A (subscriptTail value slice v u) (EP X pins σ Q) X.xe s
def MtR (X : Cx) (id : String) (r : V → List V → Hp → VK → Prop) : Prop :=
  ∀ (pins : List (Addr × Obj)) (s : Shared) (σ : St) (H : Hp) (x : V) (xs : List V) (v : Value) (us : List Value) (Q : VK), Inv X pins σ H s → RelV x v → Vals xs us → r x xs H Q →
    wpAny (model X.prog X.w) X.A (call (.builtin id) (v :: us)) (EP X pins σ Q) X.xe s
section
variable {X : Cx} {a b : Expr} {ta tb : TE} {pos : Pos}
theorem pe_ix {r : R2} (hr : IxR X r) (ha : PE X a ta) (hb : PE X b tb) (hs : PlainIx b) : PE X (.Subscript a b pos) (tOp r ta tb) := by
  intro pins s σ H Q I h
  exact Subscript_ (binT ha hb I h fun v u s2 x y H2 I2 rx ry q => hr a b pins s2 σ H2 x y v u Q I2 rx ry q (hs _ _))
def rIxL (K : PySem.W.Frag) : R2 := fun x y H Q => ∃ p xs i v, x = .ref p ∧ y = .int i ∧ SqL K H p xs ∧ atI xs i = some v ∧ Q v H
def rIxT (K : PySem.W.Frag) : R2 := fun x y H Q => ∃ p xs i v, x = .ref p ∧ y = .int i ∧ SqT K H p xs ∧ atI xs i = some v ∧ Q v H
def rIxS : R2 := fun x y H Q => ∃ z i c, x = .str z ∧ y = .int i ∧ z.length ≤ sizeLine ∧ atI z.cps.toList i = some c ∧ Q (.str ⟨#[c]⟩) H
theorem ix_list : IxR X (rIxL X.K) := by
  intro value slice pins s σ H x y v u Q I rx ry h hs
  obtain ⟨p, xs, i, z, rfl, rfl, hq, he, q⟩ := h
  cases rx
  obtain ⟨t, rfl⟩ := ry
  obtain ⟨its, r, pl, hz⟩ := I.list hq
  obtain ⟨j, h1, h2, h3, h4, h5⟩ := atI_get he
  obtain ⟨w, ew, rw'⟩ := r.get h2
  have hl := r.length
  have hn := line63
  have fin : EP X pins σ Q w s := ⟨z, H, I, rw', q⟩
  by_cases h0 : 0 ≤ i
  · have hj : i.toNat = j := by
      rw [seqIndex_of h0 h5] at h1
      exact Option.some.inj h1
    exact item_listR pl.isList h0 (by omega) (by rw [hj]; simpa using ew) fin hs
  · have hj : (i + (its.toArray.size : Int)).toNat = j := by
      rw [seqIndex_neg (by omega) h4] at h1
      rw [List.size_toArray, ← hl]
      exact Option.some.inj h1
    exact subscriptTail_builtinR (x := w) pl.isList.typeIs slot_list_getitem.lookup
      (wpAny_getItem_list_neg (Q := fun r s' => r = w ∧ EP X pins σ Q r s') pl.isList (by omega) (by rw [List.size_toArray] <;> omega) (by omega) (by rw [hj]; simpa using ew) ⟨rfl, fin⟩) hs
theorem ix_tup : IxR X (rIxT X.K) := by
  intro value slice pins s σ H x y v u Q I rx ry h hs
  obtain ⟨p, xs, i, z, rfl, rfl, hq, he, q⟩ := h
  cases rx
  obtain ⟨t, rfl⟩ := ry
  obtain ⟨its, r, pl, hz⟩ := I.tuple hq
  obtain ⟨j, h1, h2, h3, h4, h5⟩ := atI_get he
  obtain ⟨w, ew, rw'⟩ := r.get h2
  have hl := r.length
  have hn := line63
  have fin : EP X pins σ Q w s := ⟨z, H, I, rw', q⟩
  exact subscriptTail_builtinR (x := w) pl.typeIs slot_tuple_getitem.lookup
    (getItem_tuple (j := j) (Q := fun r s' => r = w ∧ EP X pins σ Q r s') pl (by omega) (by omega) (by rw [List.size_toArray, ← hl]; exact h1) (by simpa using ew) ⟨rfl, fin⟩) hs
def rIx (K : PySem.W.Frag) : R2 := fun x y H Q => rIxL K x y H Q ∨ rIxT K x y H Q ∨ rIxS x y H Q
theorem mapSeq_set (its : List Value) (n j : Nat) (u : Value) : Obj.mapSeq (·.setIfInBounds j u) { cls := .type "list", data := .seq its.toArray n } = { cls := .type "list", data := .seq (its.set j u).toArray n } := by
  simp [Obj.mapSeq]
theorem Inv.lst {pins : List (Addr × Obj)} {σ : St} {H : Hp} {s : Shared} {p : Addr} {xs : List V} (I : Inv X pins σ H s) (h : H p = some (.lst xs)) :
    ∃ (its : List Value) (n : Nat), Vals xs its ∧ s.heap.get? p = some { cls := .type "list", data := .seq its.toArray n } ∧ xs.length ≤ sizeLine := by
  obtain ⟨z, its, n, r, e⟩ := I.hok p _ h
  exact ⟨its, n, r, e, z⟩
theorem Inv.lstUpd {pins : List (Addr × Obj)} {σ : St} {H : Hp} {s : Shared} {p : Addr} {xs ys : List V} {its its' : List Value} {n n' : Nat} {f : Obj → Obj} (I : Inv X pins σ H s) (h : H p = some (.lst xs))
    (ho : s.heap.get? p = some { cls := .type "list", data := .seq its.toArray n }) (hf : f { cls := .type "list", data := .seq its.toArray n } = { cls := .type "list", data := .seq its'.toArray n' }) (r : Vals ys its') (hz : ys.length ≤ sizeLine) (t : Nat) :
    Inv X pins σ (upd H p (.lst ys)) { s with heap := s.heap.update p f, toks := t } := by
  have e : (s.heap.update p f).get? p = some { cls := .type "list", data := .seq its'.toArray n' } := by
    rw [Heap.get?_update_self f ho (by rw [hf] <;> rfl), hf]
  refine I.write (x := p) (e := p) (by rw [h]; trivial) (.inl rfl) (fun b u hb q => (Heap.get?_update_other _ _ (Ne.symm hb)).trans q) ⟨_, e⟩ ?_
  exact ⟨hz, its', n', r, e⟩
def rSetL : V → V → V → Hp → (Hp → Prop) → Prop := fun o i v H Q => ∃ p xs k j, o = .ref p ∧ i = .int k ∧ H p = some (.lst xs) ∧ ixN xs.length k = some j ∧ Q (upd H p (.lst (xs.set j v)))
theorem set_list : PSet X rSetL := by
  intro pins s σ H o i v ov iv u Q I ro ri rv h
  obtain ⟨p, xs, k, j, rfl, rfl, hp, hj, q⟩ := h
  cases ro
  obtain ⟨t, rfl⟩ := ri
  obtain ⟨its, n, r, ho, hz⟩ := I.lst hp
  obtain ⟨h1, h2, h3, h4⟩ := ixN_seq hj
  have hl := r.length
  have hn := line63
  have I' : Inv X pins σ (upd H p (.lst (xs.set j v))) { s with heap := s.heap.update p (Obj.mapSeq (·.setIfInBounds j u)) } :=
    I.lstUpd hp ho (mapSeq_set its n j u) (r.set rv j) (by rw [List.length_set]; exact hz) s.toks
  by_cases h0 : 0 ≤ k
  · have hk : k.toNat = j := by
      rw [seqIndex_of h0 h4] at h1
      exact Option.some.inj h1
    exact PySem.W.ki_setAt ho h0 (by omega) (by rw [List.size_toArray, ← hl]; exact h4) (by rw [hk]; exact ⟨_, I', q⟩)
  · have hk : (k + (its.toArray.size : Int)).toNat = j := by
      rw [seqIndex_neg (by omega) h3] at h1
      rw [List.size_toArray, ← hl]
      exact Option.some.inj h1
    exact PySem.W.ki_setBack ho (by omega) (by rw [List.size_toArray, ← hl]; exact h3) (by omega) (by rw [hk]; exact ⟨_, I', q⟩)
theorem slice_bounds (lo hi : Option Int) (n : Nat) : (sliceBounds lo hi none n).1 = ((HT.sIx n 0 lo : Nat) : Int) ∧ (sliceBounds lo hi none n).2.1 = ((HT.sIx n n hi : Nat) : Int) ∧ (sliceBounds lo hi none n).2.2 = 1 := by
  refine ⟨?_, ?_, rfl⟩
  · cases lo with
    | none => simp [sliceBounds, HT.sIx]
    | some i =>
      simp only [sliceBounds, HT.sIx, Option.getD_none, show (1 : Int) > 0 by decide, if_true]
      by_cases h : i < 0
      · simp only [h, if_true] <;> omega
      · simp only [h, if_false] <;> omega
  · cases hi with
    | none => simp [sliceBounds, HT.sIx]
    | some i =>
      simp only [sliceBounds, HT.sIx, Option.getD_none, show (1 : Int) > 0 by decide, if_true]
      by_cases h : i < 0
      · simp only [h, if_true] <;> omega
      · simp only [h, if_false] <;> omega
theorem slicePick_cut (its : List Value) (lo hi : Option Int) : slicePick its.toArray lo hi none = ((its.drop (HT.sIx its.length 0 lo)).take (HT.sIx its.length its.length hi - HT.sIx its.length 0 lo)).toArray := by
  obtain ⟨h1, h2, h3⟩ := slice_bounds lo hi its.toArray.size
  unfold slicePick
  rw [h1, h2, h3]
  simp only [sliceRange_one, pick_run, List.size_toArray] <;> rfl
def rSlL (K : PySem.W.Frag) : V → Option Int → Option Int → Hp → VK → Prop := fun x lo hi H Q => ∃ a xs, x = .ref a ∧ SqL K H a xs ∧ ∀ p, H p = none → Q (.ref p) (upd H p (.lst (cutV xs lo hi)))
theorem sl_list : SlR X (rSlL X.K) := by
  intro pins s σ H x v vl vu lo hi sl Q I rx hs pl pu h
  obtain ⟨a, xs, rfl, hx, q⟩ := h
  cases rx
  obtain ⟨its, r, ht, hz⟩ := I.list hx
  have hlen := r.length
  refine ⟨"list", _, slot_list_getitem.lookup, ht.isList.typeIs, ?_⟩
  refine wpAny_getItem_list_slice ht.isList hs pl pu .none (by simp) ?_ (by rw [List.size_toArray] <;> omega)
  rw [slicePick_cut, ← hlen]
  refine ⟨.ref s.heap.objs.size, _, I.laid (t' := s.toks) (o := .lst (cutV xs lo hi)) (fun b ob q => Heap.get?_push_of_some _ q) (Nat.le_refl _) ?_, rfl, q _ (I.hok.fresh (Nat.le_refl _))⟩
  exact ⟨Nat.le_trans (cutV_length xs lo hi) hz, _, 0, (r.drop (HT.sIx xs.length 0 lo)).take (HT.sIx xs.length xs.length hi - HT.sIx xs.length 0 lo), Heap.get?_push_size _ rfl⟩
def flatV : V → Bool
  | .non => true
  | .bl _ => true
  | .int _ => true
  | .str _ => true
  | _ => false
def eqV : V → V → Bool
  | .non, .non => true
  | .bl a, .bl b => a == b
  | .bl a, .int b => (if a then 1 else 0) == b
  | .int a, .bl b => a == (if b then 1 else 0)
  | .int a, .int b => a == b
  | .str a, .str b => a == b
  | _, _ => false
def eqU (x : V) (u : Value) : Bool := match u with
  | .none => eqV .non x
  | .bool b => eqV (.bl b) x
  | .int i _ => eqV (.int i) x
  | .str z _ => eqV (.str z) x
  | _ => false
def inV (x : V) (xs : List V) : Bool := xs.any fun y => eqV y x
def rIn (K : PySem.W.Frag) (neg : Bool) : R2 := fun x y H Q => ∃ p xs, y = .ref p ∧ (SqL K H p xs ∨ SqT K H p xs) ∧ flatV x = true ∧ xs.all flatV = true ∧ Q (.bl (if neg then !inV x xs else inV x xs)) H
theorem call_len_seq : CallR X (.builtin "len") (fun xs H Q => ∃ p ys, xs = [.ref p] ∧ (SqL X.K H p ys ∨ SqT X.K H p ys) ∧ Q (.int ys.length) H) := by
  intro pins s σ H xs us Q I r h
  obtain ⟨p, ys, rfl, hq, q⟩ := h
  obtain ⟨u, rfl, rx⟩ := vals1 r
  cases rx
  have hn := line63
  rcases hq with hq | hq
  · obtain ⟨its, r', pl, hz⟩ := I.list hq
    have hlen := r'.length
    exact Calls.call_len_list pl.isList (by simp only [List.size_toArray] <;> omega) ⟨.int ys.length, H, I.tok _, ⟨s.toks + 1, by rw [List.size_toArray, hlen]⟩, q⟩
  · obtain ⟨its, r', pl, hz⟩ := I.tuple hq
    have hlen := r'.length
    exact len_tuple pl (by simp only [List.size_toArray] <;> omega) ⟨.int ys.length, H, I.tok _, ⟨s.toks + 1, by rw [List.size_toArray, hlen]⟩, q⟩
theorem call_list_of : CallR X (.type "list") (fun xs H Q => ∃ p ys, xs = [.ref p] ∧ (SqL X.K H p ys ∨ SqT X.K H p ys) ∧ ∀ l, H l = none → Q (.ref l) (upd H l (.lst ys))) := by
  intro pins s σ H xs us Q I r h
  obtain ⟨p, ys, rfl, hq, q⟩ := h
  obtain ⟨u, rfl, rx⟩ := vals1 r
  cases rx
  have fin : ∀ (its : List Value), Vals ys its → ys.length ≤ sizeLine → ∀ (h' : Heap) (c' : Nat), (∀ b o', s.heap.get? b = some o' → h'.get? b = some o') →
      h'.get? s.heap.objs.size = some { cls := .type "list", dict := none, data := .seq its.toArray c', slots := #[] } → EP X pins σ Q (.ref s.heap.objs.size) { s with heap := h' } := fun its r' hz h' c' kp e =>
    ⟨.ref s.heap.objs.size, _, I.laid (t' := s.toks) kp (Nat.le_refl _) (show ObjOk X.prog X.w _ h' _ (.lst ys) from ⟨hz, its, c', r', e⟩), rfl, q _ (I.hok.fresh (Nat.le_refl _))⟩
  rcases hq with hq | hq
  · obtain ⟨its, r', pl, hz⟩ := I.list hq
    have hlen := r'.length
    obtain ⟨o, ho, hc, n, hd⟩ := pl.isList
    exact call_list_seq p (.inl rfl) ho hc hd (fun h' c' kp e => fin its r' hz h' c' kp e) (by simp only [List.size_toArray] <;> omega)
  · obtain ⟨its, r', pl, hz⟩ := I.tuple hq
    have hlen := r'.length
    obtain ⟨o, ho, hc, n, hd⟩ := pl
    exact call_list_seq p (.inr rfl) ho hc hd (fun h' c' kp e => fin its r' hz h' c' kp e) (by simp only [List.size_toArray] <;> omega)
def tyV (K : PySem.W.Frag) (T : String) (x : V) (H : Hp) : Prop := match x with
  | .str _ => T = "str"
  | .int _ => T = "int"
  | .ref p => (T = "list" ∧ ∃ xs, SqL K H p xs) ∨ (T = "tuple" ∧ ∃ o, K.lookup p = some o ∧ o.cls = .type "tuple" ∧ o.dict = none) ∨
      (T = "dict" ∧ (∃ kvs, H p = some (.dK kvs))) ∨ (T = "set" ∧ ∃ S n, H p = some (.set S n))
  | _ => False
theorem tyV_is {pins : List (Addr × Obj)} {σ : St} {H : Hp} {s : Shared} {T : String} {x : V} {v : Value} (I : Inv X pins σ H s) (r : RelV x v) (ty : tyV X.K T x H) :
    s.TypeIs v T ∧ ∀ a, v = .ref a → ∃ ob, s.heap.get? a = some ob ∧ ob.dict = none := by
  cases x with
  | str z =>
    obtain ⟨t, rfl⟩ := r
    cases (show T = "str" from ty)
    exact ⟨typeIs_str s z t, fun _ e => nomatch e⟩
  | int i =>
    obtain ⟨t, rfl⟩ := r
    cases (show T = "int" from ty)
    exact ⟨typeIs_int s i t, fun _ e => nomatch e⟩
  | ref p =>
    cases r
    rcases ty with ⟨rfl, xs, hq⟩ | ⟨rfl, o, hk, hc, hd⟩ | ⟨rfl, hk⟩ | ⟨rfl, S, n, hk⟩
    · obtain ⟨its, _, pl, _⟩ := I.list hq
      refine ⟨pl.isList.typeIs, fun a e => ?_⟩
      cases e
      obtain ⟨o, n, e, c, hd, _⟩ := pl
      exact ⟨o, e, hd⟩
    · refine ⟨⟨o, I.kIn p o hk, hc⟩, fun a e => ?_⟩
      cases e
      exact ⟨o, I.kIn _ o hk, hd⟩
    · have z : ∃ o, s.heap.get? p = some o ∧ o.ExactDict := by
        obtain ⟨kvs, hk⟩ := hk
        obtain ⟨_, _, _, _, o, _, _, e, ex, _⟩ := I.hok p _ hk
        exact ⟨o, e, ex⟩
      obtain ⟨o, e, ex⟩ := z
      refine ⟨⟨o, e, ex.1⟩, fun a e2 => ?_⟩
      cases e2
      exact ⟨o, e, ex.2.1⟩
    · obtain ⟨o, _, _, _, e, ex, _⟩ := I.hok p _ hk
      refine ⟨⟨o, e, ex.1⟩, fun a e2 => ?_⟩
      cases e2
      exact ⟨o, e, ex.2.1⟩
  | _ => exact False.elim ty
def tBM0 (K : PySem.W.Frag) (T : String) (r : V → List V → Hp → VK → Prop) (to : TE) : TE := fun σ H Q => to σ H fun x H1 => tyV K T x H1 ∧ r x [] H1 Q
def tBM (K : PySem.W.Frag) (T : String) (r : V → List V → Hp → VK → Prop) (to : TE) (t : TA) : TE := fun σ H Q => to σ H fun x H1 => tyV K T x H1 ∧ t σ H1 fun xs H2 => r x xs H2 Q
variable {o e : Expr} {es : List Expr} {to : TE} {t : TA} {name : Str} {apos cpos : Pos} {T id : String} {r : V → List V → Hp → VK → Prop}
theorem pe_bm (pa : PlainAttrs T) (slot : Slot T name id) (hty : typeOf (.builtin id) = pure (.type "method_descriptor")) (hm : MtR X id r) (ho : PE X o to) (ha : PA X (e :: es) t)
    (hbase : attributeBase o name X.env (eval o X.env) = eval o X.env := by rfl)
    (hfew : ((backTo cpos (starEach (e :: es) X.env)).all (fun x => !x.1) && (backToKw cpos (keywordEach [] X.env)).all (fun x => x.1.isSome)
      && decide ((e :: es).length + ([] : List Keyword).length + (if ([] : List Keyword).isEmpty then 0 else 1) < 30)) = true := by rfl)
    (hline : (apos.endLine == cpos.line) = true := by rfl) (hs : starEach (e :: es) X.env = (false, eval e X.env) :: starEach es X.env := by rfl) (hplain : (backTo cpos (starEach es X.env)).any (·.1) = false := by rfl) :
    PE X (.Call (.Attribute o name apos) (e :: es) [] cpos) (tBM X.K T r to t) := by
  intro pins s σ H Q I h
  refine wpAny_Call_method_late hbase hfew hline rfl (thn (ho pins s σ H _ I h) fun v s1 ⟨x, H1, I1, r1, ty, q1⟩ => ?_)
  obtain ⟨h1, h2⟩ := tyV_is I1 r1 ty
  refine ⟨T, id, pa, slot, hty, h1, h2, ?_⟩
  have hA := ha cpos pins s1 σ H1 _ I1 q1
  rw [hs] at hA ⊢
  refine Calls.callWith_builtin (by show (false || (backTo cpos (starEach es X.env)).any (·.1)) = false; rw [hplain] <;> rfl) (Calls.evalArgs_plain ?_)
  exact thn hA fun us s2 ⟨vs, H2, I2, r2, q2⟩ => hm pins s2 σ H2 x vs v us Q I2 r1 r2 q2
/- xs.append(e), list.index on a module's tuple .. are MtR facts of 06m -/
end
end L2
namespace L2
open PySem PySem.Spec PyProof.Rows
def MtM (X : Cx) (id : String) (r : V → List V → Hp → VK → Prop) : Prop :=
  ∀ (pins : List (Addr × Obj)) (s : Shared) (σ : St) (H : Hp) (x : V) (xs : List V) (v : Value) (us : List Value) (Q : VK), Inv X pins σ H s → RelV x v → Vals xs us → r x xs H Q →
    wpAny (model X.prog X.w) X.A (call (.builtin id) (v :: us)) (EP X pins σ Q) X.xe s
theorem Vals.one : ∀ {x : V} {us : List Value}, Vals [x] us → ∃ u, us = [u] ∧ RelV x u
  | _, _, .cons r .nil => ⟨_, rfl, r⟩
theorem Vals.two : ∀ {x y : V} {us : List Value}, Vals [x, y] us → ∃ u v, us = [u, v] ∧ RelV x u ∧ RelV y v
  | _, _, _, .cons r (.cons q .nil) => ⟨_, _, rfl, r, q⟩
theorem Vals.rep {xs : List V} {us : List Value} (h : Vals xs us) : ∀ k : Nat, Vals (List.replicate k xs).flatten (List.replicate k us).flatten
  | 0 => .nil
  | k + 1 => by
    rw [List.replicate_succ, List.replicate_succ, List.flatten_cons, List.flatten_cons]
    exact Vals.append h (Vals.rep h k)
theorem foldl_rep (its : List Value) : ∀ (k : Nat) (acc : List Value),
    List.foldl (fun x1 x2 => x1 ++ x2) acc.toArray (List.replicate k its.toArray) = (acc ++ (List.replicate k its).flatten).toArray
  | 0, acc => by simp
  | k + 1, acc => by
    have e : acc.toArray ++ its.toArray = (acc ++ its).toArray := by simp
    have e2 : (acc ++ its) ++ (List.replicate k its).flatten = acc ++ (List.replicate (k + 1) its).flatten := by
      rw [List.replicate_succ, List.flatten_cons, List.append_assoc]
    rw [← e2, ← foldl_rep its k (acc ++ its), ← e, List.replicate_succ, List.foldl_cons]
section
variable {X : Cx} {pins : List (Addr × Obj)} {σ : St} {H : Hp} {s : Shared} {l b : Addr} {xs ys zs : List V}
theorem Inv.lset {its its' : List Value} {n : Nat} {f : Array Value → Array Value} {t' : Nat} (I : Inv X pins σ H s) (hH : H l = some (.lst xs))
    (e : s.heap.get? l = some { cls := .type "list", data := .seq its.toArray n }) (hf : f its.toArray = its'.toArray) (hv : Vals ys its') (hz : ys.length ≤ sizeLine) :
    Inv X pins σ (upd H l (.lst ys)) { s with heap := s.heap.update l (Obj.mapSeq f), toks := t' } := by
  have q := PySem.IsL.update e f
  rw [hf] at q
  refine I.write (x := l) (e := l) (by rw [hH]; exact trivial) (.inl rfl) (fun b' u hb hu => (Heap.get?_update_other s.heap (Obj.mapSeq f) (Ne.symm hb)).trans hu) ⟨_, q⟩ ?_
  exact ⟨hz, its', _, hv, q⟩
theorem Inv.lnew {its : List Value} {t' : Nat} (I : Inv X pins σ H s) (hv : Vals ys its) (hz : ys.length ≤ sizeLine) :
    Inv X pins σ (upd H s.heap.objs.size (.lst ys)) { s with heap := s.heap.push { cls := .type "list", data := .seq its.toArray }, toks := t' } :=
  I.laid (fun _ _ q => Heap.get?_push_of_some _ q) (Nat.le_refl _) ⟨hz, its, 0, hv, Heap.get?_push_size _ rfl⟩
theorem Inv.fresh (I : Inv X pins σ H s) : H s.heap.objs.size = none := I.hok.fresh (Nat.le_refl _)
theorem Inv.lstM (I : Inv X pins σ H s) (hH : H l = some (.lst xs)) : xs.length ≤ sizeLine ∧ ∃ (its : List Value) (n : Nat), Vals xs its ∧ xs.length = its.length ∧ s.heap.get? l = some { cls := .type "list", data := .seq its.toArray n } := by
  obtain ⟨z, its, n, r, e⟩ := I.hok l _ hH
  exact ⟨z, its, n, r, r.length, e⟩
theorem notLongL {n : Nat} (h : n ≤ sizeLine) : Builtin.List.listTooLong n = false := by
  unfold Builtin.List.listTooLong
  exact decide_eq_false (by omega)
end
section
variable {X : Cx}
def rAppend : V → List V → Hp → VK → Prop := fun x vs H Q => ∃ l xs y, x = .ref l ∧ vs = [y] ∧ H l = some (.lst xs) ∧ xs.length < sizeLine ∧ Q .non (upd H l (.lst (xs ++ [y])))
theorem mt_append : MtM X "list.append" rAppend := by
  intro pins s σ H x vs v us Q I rx rv h
  obtain ⟨l, xs, y, rfl, rfl, hH, hz, q⟩ := h
  cases rx
  obtain ⟨u, rfl, ru⟩ := rv.one
  obtain ⟨z, its, n, r, hl, e⟩ := I.lstM hH
  refine call_meets F.slot_list_append ⟨_, e, rfl⟩ F.entry_list_append (F.args_list_append_2 _ _) (PySem.list_append l its.toArray n u (by rw [List.size_toArray]; omega)) ⟨e, ?_⟩
  refine ⟨.non, _, I.lset (its' := its ++ [u]) hH e (by simp) (r.append (.cons ru .nil)) ?_, rfl, q⟩
  rw [List.length_append, List.length_singleton]
  omega
def rExtend : V → List V → Hp → VK → Prop := fun x vs H Q => ∃ l b xs zs, x = .ref l ∧ vs = [.ref b] ∧ H l = some (.lst xs) ∧ H b = some (.lst zs) ∧ xs.length + zs.length ≤ sizeLine ∧ Q .non (upd H l (.lst (xs ++ zs)))
def rPop : V → List V → Hp → VK → Prop := fun x vs H Q => ∃ l xs y, x = .ref l ∧ vs = [] ∧ H l = some (.lst xs) ∧ xs[xs.length - 1]? = some y ∧ Q y (upd H l (.lst xs.dropLast))
def rPopAt : V → List V → Hp → VK → Prop := fun x vs H Q => ∃ l xs i k y, x = .ref l ∧ vs = [.int i] ∧ H l = some (.lst xs) ∧ -(2 ^ 63) ≤ i ∧ i < 2 ^ 63 ∧ seqIndex? i xs.length = some k ∧ xs[k]? = some y ∧ Q y (upd H l (.lst (xs.eraseIdx k)))
def rReverse : V → List V → Hp → VK → Prop := fun x vs H Q => ∃ l xs, x = .ref l ∧ vs = [] ∧ H l = some (.lst xs) ∧ Q .non (upd H l (.lst xs.reverse))
def rClear : V → List V → Hp → VK → Prop := fun x vs H Q => ∃ l xs, x = .ref l ∧ vs = [] ∧ H l = some (.lst xs) ∧ Q .non (upd H l (.lst []))
def rCat : R2 := fun x y H Q => ∃ l b xs zs, x = .ref l ∧ y = .ref b ∧ H l = some (.lst xs) ∧ H b = some (.lst zs) ∧ xs.length + zs.length ≤ sizeLine ∧ ∀ p, H p = none → Q (.ref p) (upd H p (.lst (xs ++ zs)))
theorem op_cat : OpR X (binaryOp .Add) rCat := by
  intro pins s σ H x y v u Q I rx ry h
  obtain ⟨l, b, xs, zs, rfl, rfl, hH, hB, hz, q⟩ := h
  cases rx
  cases ry
  obtain ⟨z, its, n, r, hl, e⟩ := I.lstM hH
  obtain ⟨z2, its2, n2, r2, hl2, e2⟩ := I.lstM hB
  refine PySem.P.add_list e e2 ?_ (by rw [List.size_toArray, List.size_toArray]; omega)
  have ea : its.toArray ++ its2.toArray = (its ++ its2).toArray := by simp
  rw [ea]
  exact ⟨.ref _, _, I.lnew (t' := s.toks) (r.append r2) (by rw [List.length_append]; omega), rfl, q _ I.fresh⟩
def rRep : R2 := fun x y H Q => ∃ l k xs, x = .ref l ∧ y = .int k ∧ H l = some (.lst xs) ∧ -(2 ^ 63) ≤ k ∧ k < 2 ^ 63 ∧ xs.length * k.toNat ≤ sizeLine ∧
  ∀ p, H p = none → Q (.ref p) (upd H p (.lst (List.replicate k.toNat xs).flatten))
theorem len_rep {α : Type} (xs : List α) (k : Nat) : (List.replicate k xs).flatten.length = k * xs.length := by
  induction k with
  | zero => simp
  | succ k ih => rw [List.replicate_succ, List.flatten_cons, List.length_append, ih, Nat.succ_mul, Nat.add_comm]
theorem op_rep : OpR X (binaryOp .Mult) rRep := by
  intro pins s σ H x y v u Q I rx ry h
  obtain ⟨l, k, xs, rfl, rfl, hH, h1, h2, hz, q⟩ := h
  cases rx
  obtain ⟨t, rfl⟩ := ry
  obtain ⟨z, its, n, r, hl, e⟩ := I.lstM hH
  have hlen : its.toArray.size * k.toNat ≤ sizeLine := by rw [List.size_toArray, ← hl]; exact hz
  have hcap : ¬ its.toArray.size * k.toNat > (2 ^ 63 - 1) / 8 := by
    have : (sizeLine : Nat) ≤ (2 ^ 63 - 1) / 8 := by decide
    omega
  have hfit : ¬ (!Builtin.List.listFitsIndex k) = true := by
    rw [fitsIndex_both h1 h2]
    exact Bool.false_ne_true
  have hlong : ¬ Builtin.List.listTooLong (its.toArray.size * k.toNat) = true := by
    rw [notLongL hlen]
    exact Bool.false_ne_true
  have hnew : List.foldl (fun x1 x2 => x1 ++ x2) #[] (List.replicate (if its.toArray.isEmpty = true then 0 else k.toNat) its.toArray) = (List.replicate k.toNat its).flatten.toArray := by
    have f0 : ∀ m : Nat, List.foldl (fun x1 x2 => x1 ++ x2) #[] (List.replicate m its.toArray) = (List.replicate m its).flatten.toArray := fun m => by
      have := foldl_rep its m []
      rw [List.nil_append] at this
      exact this
    rw [f0]
    cases its with
    | nil => simp
    | cons a r' => rw [if_neg (by simp)]
  refine wpAny_binaryOp_repeat_ref (T := "list") (U := "int") (by decide) ⟨_, e, rfl⟩ (fun s' => typeIs_int s' k t) noFill_list_mul F.fills_int_mul F.slot_int_rmul repeat_list F.slot_int_index.lookup
    (call_meets F.slot_int_rmul (typeIs_int s k t) F.entry_int_rmul (F.args_int_rmul_2 _ _) (int___rmul___int_list k t l its.toArray n)
      ⟨e, rfl, ⟨_, e, rfl⟩, call_meets F.slot_list_mul ⟨_, e, rfl⟩ F.entry_list_mul (F.args_list_mul_2 _ _) (AutoListH.list___mul___list_int_3 l its.toArray n k t hfit hcap hlong) ⟨e, ?_⟩⟩)
  rw [hnew]
  exact ⟨.ref _, _, I.lnew (t' := s.toks) (r.rep k.toNat) (by rw [len_rep, Nat.mul_comm]; exact hz), rfl, q _ I.fresh⟩
end
section
variable {prog : Program} {w : World} {A : Around} {E : Value → Shared → Prop} {s : Shared}
end
section
variable {X : Cx}
end
end L2
namespace Att
open PySem PySem.W PySem.Calls PyProof.Rows
theorem ints_of_wellAll {P : Params} {h : Heap} : ∀ (ns : List Int) (vs : List Value), WellAll P h vs (ns.map WData.int) → IntsAre vs ns := by
  intro ns
  induction ns with
  | nil =>
    intro vs w
    rw [List.map_nil] at w
    cases w
    exact .nil
  | cons n ns ih =>
    intro vs w
    rw [List.map_cons] at w
    cases w with
    | cons a b =>
      cases a
      exact .cons _ _ (ih _ b)
theorem script_of {l : OpenLaw} {n : Nat} (hn : l.most = some n) {P : Params} {h : Heap} {args : List WData} {vals : List Value}
    (hpre : l.row.toRowW.claim.pre args = true) (hwl : WellAll P h vals args) :
    ∃ a vs ns, vals = [Value.ref a] ∧ args = [WData.list (ns.map WData.int)] ∧ h.get? a = some { cls := .type "list", data := .seq vs.toArray } ∧ IntsAre vs ns ∧ ns.length ≤ n := by
  have hsh : WShape.hasAll [] args [.list .int] = true := (pre_splitW hpre).1
  have hc : l.pre.holds [] { args := args } = true := (pre_splitW hpre).2
  obtain ⟨d, r, rfl, h1, h2⟩ := hasAllW_cons hsh
  obtain rfl := hasAllW_nil h2
  obtain ⟨xs, rfl, h3⟩ := hasW_list h1
  obtain ⟨ns, rfl⟩ := items_int h3
  have hlen : ns.length ≤ n := by
    unfold OpenLaw.pre at hc
    have h4 : (WTm.not (.lt (.lit (.int (n : Int))) (.len (.arg 0)))).holds [] { args := [.list (ns.map .int)] } = true := by
      have h4 := (holds_andW hc).1
      rw [hn] at h4
      exact h4
    have h5 := condW_of h4 (w_not (w_lt w_lit (w_len_list (w_arg rfl))))
    rw [List.length_map] at h5
    refine Nat.le_of_not_lt fun q => ?_
    have q' : (n : Int) < ((ns.length : Nat) : Int) := by omega
    first
      | (rw [decide_eq_true q'] at h5; exact absurd h5 (by decide))
      | (simp at h5; omega)
  cases hwl with
  | cons w1 w2 =>
    cases w2
    cases w1 with
    | list ho hall => exact ⟨_, _, ns, rfl, rfl, ho, ints_of_wellAll ns _ hall, hlen⟩
theorem post_true (l : OpenLaw) (args : List WData) : l.row.toRowW.claim.post args (.bool true) args = true :=
  postW_of (r := l.row.toRowW) (X := (true == true))
    (show WShape.has [] (.bool true) .bool = true by first | rfl | decide | simp [WShape.has, WShape.arms, WShape.armsAll])
    (show (WTm.eq .res (.lit (.bool true))).value [] { args := args, res := some (.bool true), after := args } = some (.bool (true == true)) from w_eq_bool (w_res rfl) w_lit) rfl
theorem attach_call {l : OpenLaw} {n : Nat} {q : Program} {loose : List Str} {XP : (Str → Option Value) → Heap → Prop} {YP : World → Heap → Prop} {d : DefRec}
    (hn : l.most = some n) (hdf : d.params.defaults = [])
    (call : ∀ (w : World) (s₀ s₁ : Shared) (mg mb : Str → Option Value) (fa : Addr) (o : Obj) (pm cd doc : Value) (a : Addr) (vs : List Value) (ns : List Int),
      Ground q loose [] XP w s₀ mg mb s₁.heap → YP w s₁.heap →
      s₁.heap.get? fa = some o → o.data = .func (docDef d.name d.params d.body d.scope pm cd doc) → s₁.heap.CodeRec cd d.name → mg d.name = some (.ref fa) →
      s₁.heap.get? a = some { cls := .type "list", data := .seq vs.toArray } → IntsAre vs ns → ns.length ≤ n → s₁.gens = #[] →
      codeAny (model l.prog w) callerA (.call (.ref fa) ⟨[.ref a], []⟩) (fun r s' => r = .ok (.ret (.bool true)) ∧ OldK s₁.heap s'.heap ∧ s'.os = s₁.os ∧ AllBare s'.gens) s₁) :
    WalkO q loose XP YP l.row.toRowW d [] (fun f vs => PySem.call f vs) := by
  intro w s₀ s₁ mg mb G Y fa o pm cd doc dV kV ho hd hcd hD hmg hg args vals as hpre hlay hrd hwl hlo
  obtain rfl : dV = .none := Dflts.none hD hdf
  obtain rfl : kV = .none := Dflts.noKw hD
  obtain ⟨a, vs, ns, rfl, rfl, hobj, hints, hlen⟩ := script_of hn hpre hwl
  refine enter_call (codeAny_mono (call w s₀ s₁ mg mb fa o pm cd doc a vs ns G Y ho (fd_plain hd) hcd hmg hobj hints hlen hg) fun r s' hq => ?_)
  obtain ⟨rfl, h2, h3, h4⟩ := hq
  exact ⟨.inl ⟨.bool true, .bool true, [], rfl, fun _ => rfl, .bool true, post_true l _, fun _ => ⟨List.Pairwise.nil, fun _ hm => (nomatch hm)⟩⟩, h2, h3, h4⟩
section
variable {prog : Program} {w : World} {A : Around} {E : Value → Shared → Prop} {s : Shared} {K : Frag}
def noObjs (h : Heap) : Heap := { h with objs := #[] }
def ledger (h : Heap) (L d : Addr) : List (Addr × Obj) := (List.range h.objs.size).filterMap fun a => if a = L ∨ a = d then none else (h.get? a).map fun o => (a, o)
end
end Att
namespace L2
open PySem PySem.Spec PyProof.Rows
theorem vals_ints : ∀ {vs : List Value} {ns : List Int}, IntsAre vs ns → Vals (ns.map V.int) vs
  | _, _, .nil => .nil
  | _, _, .cons n t h => .cons ⟨t, rfl⟩ (vals_ints h)
def Only (H : Hp) : Prop := ∀ b, H b = none ∨ ∃ o xs, H b = some (.frz o (.lst xs))
theorem law_call {P : Program} {w : World} {K : PySem.W.Frag} {mg mb : Str → Option Value} {CX : CXT} {k : Nat} {fa a : Addr} {fd : FuncData} {x : Str} {sp : Sp} {s₁ : Shared} {vs : List Value} {ns : List Int}
    (KX : K.In s₁.heap) (hns : s₁.heap.Ns mainGlobals mg) (hb : s₁.heap.Ns builtinsNs mb) (hbb : ∀ x : Str, x ≠ "__name__" → mb x = bootBuiltins x) (hlim : s₁.heap.NoLimit) (hg : s₁.gens = #[])
    (ha : s₁.heap.get? a = some { cls := .type "list", data := .seq vs.toArray }) (hi : IntsAre vs ns) (hl : ns.length ≤ sizeLine) (hr : Room k callerA)
    (F : ∀ base : Heap, K.In base → base.Ns mainGlobals mg → FnOk P w K mg base CX k fa fd [x] sp) (hbind : ∀ (s : Shared) (u : Value), BindsTo s fd ⟨[u], []⟩ [(x, u)])
    (hsp : ∀ H : Hp, Only H → SqL K H a (ns.map V.int) → sp [.ref a] H (fun v _ => v = .bl true) fun _ _ _ => False)
    (hCX : ∀ H e s', CX [] H s₁ (fun _ _ _ => False) e s' → False) :
    codeAny (model P w) callerA (.call (.ref fa) ⟨[.ref a], []⟩) (fun r s' => r = .ok (.ret (.bool true)) ∧ OldK s₁.heap s'.heap ∧ s'.os = s₁.os ∧ AllBare s'.gens) s₁ := by
  have rv := vals_ints hi
  have lenV := hi.length
  -- from an abstract heap in which nothing but the script may be tracked
  have core : ∀ H : Hp, Only H → SqL K H a (ns.map V.int) → HOk P w H s₁.heap → (∀ b, H b ≠ none → b = a) → (H a ≠ none → K.lookup a = none) →
      codeAny (model P w) callerA (.call (.ref fa) ⟨[.ref a], []⟩) (fun r s' => r = .ok (.ret (.bool true)) ∧ OldK s₁.heap s'.heap ∧ s'.os = s₁.os ∧ AllBare s'.gens) s₁ := by
    intro H hO hS hok hA hK
    have base_of : ∀ {b : Addr} {o : Obj}, s₁.heap.get? b = some o → H b = none → (hidT s₁.heap H).get? b = some o := fun e n => hidT_get e n
    have noA : ∀ {b : Addr} {o : Obj} {es : Array DictEntry} {ep : Nat}, s₁.heap.get? b = some o → o.data = .dict es ep → H b = none := fun {b o es ep} e d => by
      cases q : H b with
      | none => rfl
      | some u =>
        have e' : b = a := hA b (by rw [q]; simp)
        subst e'
        rw [ha] at e; cases e
        have d' : Data.seq vs.toArray _ = Data.dict es ep := d
        cases d'
    have nsK : ∀ {b : Addr} {m : Str → Option Value}, s₁.heap.Ns b m → (hidT s₁.heap H).Ns b m := fun {b m} ⟨o, es, ep, e, d, r⟩ => ⟨o, es, ep, base_of e (noA e d), d, r⟩
    have hKb : K.In (hidT s₁.heap H) := fun b o e => base_of (KX b o e) (by
      cases q : H b with
      | none => rfl
      | some u =>
        have e' : b = a := hA b (by rw [q]; simp)
        subst e'
        rw [hK (by rw [q]; simp)] at e; cases e)
    have hM : Mod K mg (hidT s₁.heap H) := ⟨hKb, nsK hns, ⟨mb, nsK hb, hbb⟩, let ⟨mc, h1, h2⟩ := hlim; ⟨mc, nsK h1, h2⟩⟩
    have e0 : Env0 P w K mg (hidT s₁.heap H) callerA [] s₁ H := ⟨rfl, hM, fun b o e => of_hidT e, Nat.le_of_eq (hidT_size _ _), trivial, fun b hb => absurd (show b ∈ ([] : List Addr) from hb) (by simp), hok, .of_eq hg⟩
    refine codeAny_mono ((F _ hKb (nsK hns)).run callerA [] s₁ H ⟨[.ref a], []⟩ [.ref a] [.ref a] _ _ hr e0 (hbind s₁ (.ref a)) (.cons rfl .nil) (hsp H hO hS)) fun r s' h => ?_
    cases r with
    | error e => exact (hCX H e s' h).elim
    | ok fl =>
      cases fl with
      | next => exact False.elim h
      | brk => exact False.elim h
      | cont => exact False.elim h
      | ret u =>
        obtain ⟨v, H', os, bare, un, hok', r', q⟩ := h
        have q' : v = .bl true := q
        subst q'
        obtain rfl : u = Value.bool true := r'
        refine ⟨rfl, OldK.of_keep fun b o e => ?_, os, bare⟩
        cases q : H b with
        | none => exact un.keep b o e q (by intro z; exact absurd (show b ∈ ([] : List Addr) from z) (by simp)) (by simp)
        | some u =>
          rcases hO b with z | ⟨ob, xs, z⟩
          · rw [q] at z; cases z
          · have z2 := un.frzs b ob _ z
            obtain ⟨e1, _⟩ := hok b _ z
            obtain ⟨e2, _⟩ := hok' b _ z2
            rw [e] at e1; cases e1
            exact e2
  cases hk : K.lookup a with
  | some o =>
    -- the script is one of the module's own objects
    have e := KX a o hk
    rw [ha] at e
    cases e
    refine core (fun _ => none) (fun _ => .inl rfl) (.inr ⟨_, vs.toArray, _, hk, rfl, rfl, rfl, by rw [List.size_toArray, lenV]; exact hl, by simpa using rv⟩) (fun b u z => by have z' : (none : Option HO) = some u := z; cases z') (fun b z => absurd rfl z) fun z => absurd rfl z
  | none =>
    refine core (fun b => if b = a then some (.frz { cls := .type "list", data := .seq vs.toArray } (.lst (ns.map V.int))) else none) (fun b => ?_) (.inl (.inr ⟨{ cls := .type "list", data := .seq vs.toArray }, if_pos rfl⟩)) (fun b u z => ?_) (fun b z => ?_) fun _ => hk
    · by_cases hb : b = a
      · exact .inr ⟨_, _, if_pos hb⟩
      · exact .inl (if_neg hb)
    · by_cases hb : b = a
      · have z' := (if_pos hb).symm.trans z
        cases z'
        subst hb
        exact ⟨ha, by rw [List.length_map]; exact hl, vs, _, rv, ha⟩
      · have z' := (if_neg hb).symm.trans z
        cases z'
    · by_cases hb : b = a
      · exact hb
      · exact absurd (if_neg hb) z
end L2
namespace L2
open PySem PySem.Spec PyProof.Rows
abbrev KOf {K : PySem.W.Frag} {h : Heap} (_ : K.In h) : PySem.W.Frag := K
theorem walk_of {l : PySem.W.OpenLaw} {n k : Nat} {q : Program} {loose : List Str} {XP : (Str → Option Value) → Heap → Prop} {YP : World → Heap → Prop} {d : DefRec} {K : Params → PySem.W.Frag} {CX : World → CXT} {sp : World → Sp} {x : Str}
    (hn : l.most = some n) (hn2 : n ≤ sizeLine) (hdf : d.params.defaults = []) (hr : Room k callerA)
    (hY : ∀ (w : World) (h : Heap), YP w h → (K w.params).In h)
    (F : ∀ (w : World) (mg : Str → Option Value) (fa : Addr) (h : Heap), (K w.params).In h → h.Ns mainGlobals mg → mg d.name = some (.ref fa) →
      ∃ fd : FuncData, (∀ (s : Shared) (u : Value), BindsTo s fd ⟨[u], []⟩ [(x, u)]) ∧
        ∀ base : Heap, (K w.params).In base → base.Ns mainGlobals mg → FnOk l.prog w (K w.params) mg base (CX w) k fa fd [x] (sp w))
    (hsp : ∀ (w : World) (H : Hp) (a : Addr) (ns : List Int), ns.length ≤ n → Only H → SqL (K w.params) H a (ns.map V.int) → sp w [.ref a] H (fun v _ => v = .bl true) fun _ _ _ => False)
    (hCX : ∀ (w : World) (H : Hp) (s : Shared) (e : Value) (s' : Shared), CX w [] H s (fun _ _ _ => False) e s' → False) :
    PySem.W.WalkO q loose XP YP l.row.toRowW d [] (fun f vs => PySem.call f vs) := by
  refine Att.attach_call hn hdf fun w s₀ s₁ mg mb fa o pm cd doc a vs ns G Y ho hd hcd hmg hobj hints hlen hg => ?_
  have KX := hY w _ Y
  obtain ⟨fd, hb, hF⟩ := F w mg fa _ KX G.T.g hmg
  exact law_call KX G.T.g G.T.b G.T.builtins G.T.nolimit hg hobj hints (Nat.le_trans hlen hn2) hr hF hb (fun H hO hS => hsp w H a ns hlen hO hS) fun H e s' => hCX w H s₁ e s'
end L2
/- THE LAST THEOREM (shape; LID, My.* are yours):
   My.Adr: a structure of the addresses that your layer names (classes, functions); My.Txt K t: a structure (Prop) of the equations over K;
   My.txt_mk : {K} {implicit addresses ..} (e1 : nsIn K mainGlobals "law" = some (some (.ref f))) (e2 : K.lookup f = some ⟨oc, od, .func (fnOf "law" "law" params body scope dV kV doc pm an cdv ct), sl⟩) (e3 : codeIn K cdv "law" = true) .. : ∃ t, My.Txt K t
set_option maxRecDepth 100000 in
set_option maxHeartbeats 0 in
theorem PySem.Challenge.cw_LID_holds : PySem.Challenge.rw_LID.Holds := by
  w_on; o_law; k_head; (case hw => w_witness2)
  k_fill
  refine L2.walk_of (l := PySem.Challenge.rw_LID) (n := 63) (k := 40) (x := "script") (CX := fun w => ..) (sp := fun _ => My.sp_law) rfl (by decide) rfl ⟨rfl, by decide, by decide⟩ (fun w h Y => PySem.W.kIn_of Y) ?F ?S ?C
  case F =>
    intro w mg fa h KX G hmg
    have T : ∃ t, My.Txt (L2.KOf KX) t := by
      dsimp only [L2.KOf]                          -- K must stand as «<heap const> w.params» for k_is
      refine' My.txt_mk ?e1 ?e2 ?e3 ..
      (case e1 => PySem.W.k_is)                    -- in the order: a name -> its address -> its object -> its parts
      (case e2 => PySem.W.k_is)
      ..
    obtain ⟨t, T⟩ := T
    have e0 := hmg.symm.trans (PySem.W.mg_of KX G T.law)
    cases e0                                       -- fa is the law's own address
    exact ⟨_, fun s u => .of_eq rfl, fun base kb nb => My.law_fn T kb nb⟩     -- if «.of_eq rfl» comes too early: refine' ⟨_, ?b, fun base kb nb => My.law_fn T kb nb⟩; exact fun s u => .of_eq rfl
  case S => exact fun w H a ns hl hO hS => ..
  case C => exact ..
(the tactic k_is has no namespace: write k_is) -/
namespace L2
open PySem PySem.Spec PyProof.Rows
def inClass (s : Stmt) (j : Nat) : Stmt := match s with
  | .ClassDef _ _ _ body _ _ _ _ _ _ _ => body.getD j (.Pass ⟨0, 0, 0, 0⟩)
  | _ => .Pass ⟨0, 0, 0, 0⟩
def defArgs (s : Stmt) : Arguments := match s with
  | .FunctionDef _ a _ _ _ _ _ _ _ _ => a
  | _ => { posonlyargs := [], args := [], vararg := none, kwonlyargs := [], kw_defaults := [], kwarg := none, defaults := [] }
def defBody (s : Stmt) : List Stmt := match s with
  | .FunctionDef _ _ b _ _ _ _ _ _ _ => b
  | _ => []
def defScope (s : Stmt) : Scope := match s with
  | .FunctionDef _ _ _ _ _ _ sc _ _ _ => sc
  | _ => { kind := .function, names := [], isGenerator := false, isCoroutine := false }
abbrev CX0 : CXT := fun _ _ _ _ _ _ => False
abbrev E0 : XK := fun _ _ _ => False
theorem pass0 {X : Cx} : Passes CX0 X E0 := fun _ _ _ _ _ _ _ h => h.elim
structure Fun (K : PySem.W.Frag) (x qual : Str) (st : Stmt) (f : Addr) (fd : FuncData) : Prop where
  ex : ∃ (oc : Value) (od : Option Addr) (kV doc pm : Value) (an : Option Addr) (cdv ct : Value) (osl : Array (Option Value)),
    fd = PySem.W.fnOf x qual (defArgs st) (defBody st) (defScope st) .none kV doc pm an cdv ct ∧ K.lookup f = some ⟨oc, od, .func fd, osl⟩ ∧ PySem.W.codeIn K cdv qual = true
  kp : PySem.W.keepIn K (.ref f) = true
section
variable {P : Program} {w : World} {K : PySem.W.Frag} {mg : Str → Option Value} {base : Heap}
theorem Fun.ok {x qual : Str} {st : Stmt} {f : Addr} {fd : FuncData} {N ps : List Str} {k : Nat} {sp : Sp} (F : Fun K x qual st f fd) (S : FnScope N ps (defScope st)) (len : ∀ vs H Q E, sp vs H Q E → vs.length = ps.length)
    (hbody : ∀ (cdv : Value) (A : Around) (outer : List Env) (s : Shared) (H : Hp) (vs : List V) (Q : VK) (E : XK), Room k (A.deeper (envOfC qual (defScope st) s.heap.objs.size f cdv)) → sp vs H Q E →
      ∃ t, PSs (cxOf CX0 P w K mg base N qual (defScope st) f cdv A outer s H E).nox (defBody st) t ∧ t { nx := fun _ H' => Q .non H', rt := Q } (start N vs) H) : FnOk P w K mg base CX0 (k + 1) f fd ps sp := by
  obtain ⟨oc, od, kV, doc, pm, an, cdv, ct, osl, rfl, lk, hcd⟩ := F.ex
  refine fn_of lk hcd S len fun A outer s H vs Q E hr hsp => ?_
  obtain ⟨t, h, q⟩ := hbody cdv A outer s H vs Q E hr hsp
  exact ⟨t, h.nox, q⟩
theorem fun_mk {x qual : Str} {st : Stmt} {f : Addr} {oc : Value} {od an : Option Addr} {osl : Array (Option Value)} {kV doc pm cdv ct : Value} (l : K.lookup f = some ⟨oc, od, .func (PySem.W.fnOf x qual (defArgs st) (defBody st) (defScope st) .none kV doc pm an cdv ct), osl⟩)
    (c : PySem.W.codeIn K cdv qual = true) (k : PySem.W.keepIn K (.ref f) = true) : Fun K x qual st f (PySem.W.fnOf x qual (defArgs st) (defBody st) (defScope st) .none kV doc pm an cdv ct) := ⟨⟨oc, od, kV, doc, pm, an, cdv, ct, osl, rfl, l, c⟩, k⟩
end
section
variable {X : Cx}
theorem pv (i : Nat) {x : Str} {pos : Pos} (hN : X.N[i]? = some x := by rfl) (hv : Vis X.env.scope x := by first | exact Or.inl rfl | exact Or.inr (Or.inl rfl) | exact Or.inr (Or.inr rfl)) (hd : (x == ("__debug__" : Str)) = false := by decide)
    (hcd : (x == ("__classdict__" : Str)) = false := by decide) : PE X (.Name x pos) (tVar i) := pe_var hN hv hd hcd
end
theorem ite2 {c A B : Prop} [Decidable c] (h1 : c → A) (h2 : ¬ c → B) : if c then A else B := by
  by_cases h : c
  · rw [if_pos h]
    exact h1 h
  · rw [if_neg h]
    exact h2 h
def Same (H H' : Hp) : Prop := ∀ b o, H b = some o → H' b = some o
theorem Same.refl (H : Hp) : Same H H := fun _ _ h => h
theorem Same.trans {H H1 H2 : Hp} (a : Same H H1) (b : Same H1 H2) : Same H H2 := fun c o h => b c o (a c o h)
theorem Same.free {H H' : Hp} (e : Same H H') {l : Addr} (h : H' l = Option.none) : H l = Option.none := by
  cases q : H l with
  | none => rfl
  | some o =>
    rw [e l o q] at h
    cases h
end L2
set_option Elab.async false
set_option linter.all false
set_option maxRecDepth 100000
set_option maxHeartbeats 4000000
namespace L2
open PySem PySem.Spec PyProof.Rows
def Bd (i : Int) : Prop := i.natAbs < 2 ^ 8000
theorem Bd.log2 {i : Int} (h : Bd i) : i.natAbs.log2 < 8000 := by
  by_cases h0 : i.natAbs = 0
  · rw [h0, Nat.log2_zero]; omega
  · exact (Nat.log2_lt h0).mpr h
theorem Bd.bits {i : Int} (h : Bd i) : Builtin.Int.intBits i ≤ 2 ^ 20 := by
  have e : (2 : Nat) ^ 20 = 1048576 := by decide
  have := h.log2
  unfold Builtin.Int.intBits
  split
  · exact Nat.zero_le _
  · omega
section
variable {X : Cx}
theorem op_mulB : OpR X (binaryOp .Mult) (rI (fun i j => Bd i ∧ Bd j) fun i j => .int (i * j)) := opI fun _ _ _ _ _ _ _ hc q => mul_int q (.of_bits hc.1.bits hc.2.bits)
theorem op_fdivB : OpR X (binaryOp .FloorDiv) (rI (fun _ j => j ≠ 0 ∧ Bd j) fun i j => .int (i.fdiv j)) := opI fun _ _ _ _ _ _ _ hc q => floordiv_int hc.1 q (.inl (PyProof.noPylong_of_log2 (by have := hc.2.log2; omega)))
theorem call_isinst : CallR X (.builtin "isinstance") (fun xs H Q => ∃ x c cv t b, xs = [x, c] ∧ ((∃ T, c = .ty T ∧ cv = Value.type T) ∨ ∃ C, c = .ref C ∧ cv = Value.ref C) ∧ TyOf X.K H x t ∧ PySem.W.kitOne X.K t cv = some b ∧ Q (.bl b) H) := by
  intro pins s σ H xs us Q I r h
  obtain ⟨x, c, cv, t, b, rfl, rc, ty, e, q⟩ := h
  obtain ⟨u, v, rfl, ru, rv⟩ := r.two
  have e2 : v = cv := by
    rcases rc with ⟨T, rfl, rfl⟩ | ⟨T, rfl, rfl⟩
    · exact rv
    · exact rv
  subst e2
  exact isinst_ok I ru ty e fun tk => ⟨.bl b, H, I.tok _, rfl, q⟩
theorem call_sorted : CallR X (.builtin "sorted") (fun xs H Q => ∃ l ns, xs = [.ref l] ∧ SqL X.K H l (ns.map V.int) ∧ ns.length < 64 ∧ ∀ (ms : List Int) p, H p = none → ms.Perm ns → ms.Pairwise (· ≤ ·) → Q (.ref p) (upd H p (.lst (ms.map V.int)))) := by
  intro pins s σ H xs us Q I r h
  obtain ⟨l, ns, rfl, hl, h64, q⟩ := h
  obtain ⟨u, rfl, ru⟩ := r.one
  cases ru
  obtain ⟨its, rv, p, hz⟩ := I.list hl
  have hI := intsAre_of rv
  have hlen : its.length = ns.length := by have := rv.length; simpa using this.symm
  refine sorted_ints (vs := its) p.isList hI (by omega) fun out ns' a1 a2 a3 => ?_
  obtain ⟨e, he⟩ := sortedAll_at s.heap its out
  have hfr : H (s.heap.objs.size + 1) = none := I.hok.fresh (Nat.le_succ _)
  refine ⟨.ref _, _, I.laid (a := s.heap.objs.size + 1) (o := .lst (ns'.map V.int)) (t' := s.toks) (fun b u e => sortedAll_old e) (Nat.le_succ _) ?_, rfl, q ns' _ hfr a2 a3⟩
  refine ⟨?_, out.toList, e, vals_ints a1, he⟩
  rw [List.length_map, a2.length_eq]
  rw [List.length_map] at hz
  exact hz
end
section
variable {prog : Program} {w : World} {A : Around} {E : Value → Shared → Prop} {s : Shared}
theorem draw_list {it t : Addr} {items : Array Value} (hne : t ≠ it) : ∀ (n i : Nat) (s : Shared) (Q : List Value → Shared → Prop), s.heap.IsListIter it t i → PlainL s.heap t items → i + n ≤ items.size →
    (∀ h', h'.IsListIter it t (i + n) → Heap.SameBut it s.heap h' → Q ((items.toList.drop i).take n) { s with heap := h' }) → wpAny (model prog w) A (draw (.ref it) n) Q E s
  | 0, i, s, Q, hit, _, _, hQ => by
    show wpAny _ _ (pure []) Q E s
    exact wpAny_pure (by simpa using hQ s.heap hit (Heap.SameBut.refl ..))
  | n + 1, i, s, Q, hit, ht, hle, hQ => by
    have hlt : i < items.size := by omega
    show wpAny _ _ (pyNext (.ref it) >>= _) Q E s
    refine wpAny_bind (wpAny_pyNext_list_item hit ht.isList (x := items[i]) (by simp [hlt]) fun h₁ hit₁ hs₁ => ?_)
    have ht₁ : PlainL h₁ t items := by
      obtain ⟨o, k, e, r⟩ := ht
      exact ⟨o, k, (hs₁.2 t hne).trans e, r⟩
    refine wpAny_bind (wpAny_holding (draw_list hne n (i + 1) _ _ hit₁ ht₁ (by omega) fun h₂ hit₂ hs₂ => wpAny_pure ?_))
    have hd : items.toList.drop i = items[i] :: items.toList.drop (i + 1) := by simp [List.drop_eq_getElem_cons, hlt]
    have := hQ h₂ (by rw [show i + (n + 1) = i + 1 + n by omega]; exact hit₂) (hs₁.trans hs₂)
    rw [hd, List.take_succ_cons] at this
    exact this
theorem unpackItems_list {t : Addr} {items : Array Value} {Q : List Value → Shared → Prop} (hh : A.handled = none) (ht : PlainL s.heap t items)
    (hQ : ∀ h', Heap.ExtBut s.heap.objs.size s.heap h' → Q items.toList { s with heap := h' }) : wpAny (model prog w) A (unpackItems (.ref t) items.size none) Q E s := by
  have hlt : t ≠ s.heap.objs.size := by obtain ⟨o, _, ho, _⟩ := ht; exact Nat.ne_of_lt (Heap.lt_size ho)
  unfold unpackItems
  refine wpAny_bind ?_
  · unfold notIterableAtAll
    refine wpAny_bind (wpAny_specialOf ht.isList.typeIs slot_list_iter.lookup ?_)
    refine wpAny_pure ?_
    simp only [Bool.false_eq_true, if_false]
    refine wpAny_bind (wpAny_holding (wpAny_pyIter_list ht.isList ?_))
    have ht0 : PlainL (s.heap.push { cls := .type "list_iterator", data := .fields #[.ref t, .int 0 0] }) t items := by
      obtain ⟨o, k, e, r⟩ := ht
      exact ⟨o, k, Heap.get?_push_of_some _ e, r⟩
    refine wpAny_bind (wpAny_holding (draw_list hlt items.size 0 _ _ ⟨_, Heap.get?_push_size _ rfl, rfl, rfl⟩ ht0 (by omega) fun h₁ hit₁ hs₁ => ?_))
    have hall : List.take items.size (List.drop 0 items.toList) = items.toList := by
      rw [List.drop_zero]; exact List.take_of_length_le (by simp)
    rw [hall]
    rw [if_neg (by simp)]
    have ht₁ : PlainL h₁ t items := by
      obtain ⟨o, k, e, r⟩ := ht0
      exact ⟨o, k, (hs₁.2 t hlt).trans e, r⟩
    refine wpAny_bind (wpAny_holding (wpAny_pyNext_list_end hh hit₁ ht₁.isList (by simp) fun h₂ he₂ => ?_))
    simp only [Option.isSome_none, Bool.false_eq_true, if_false]
    refine wpAny_pure (hQ h₂ fun b o hb e => he₂ b o hb (hs₁.extBut b o hb (Heap.get?_push_of_some _ e)))
theorem assign_Tuple_list {env : Env} {elts : List Expr} {x1} {pos : Pos} {t : Addr} {items : Array Value} {Q : Unit → Shared → Prop} (hh : A.handled = none) (ht : PlainL s.heap t items)
    (hn : (assignEach elts env).length = items.size) (hstar : (assignEach elts env).findIdx? (·.1) = none)
    (h : ∀ h', Heap.ExtBut s.heap.objs.size s.heap h' → wpAny (model prog w) A (assignInOrder ((assignEach elts env).map (·.2)) items.toList) Q E { s with heap := h' }) :
    wpAny (model prog w) A (assign (.Tuple elts x1 pos) env (.ref t)) Q E s := by
  rw [assign_Tuple]
  refine wpAny_bind (wpAny_standAt ?_)
  unfold unpack
  rw [hn, hstar]
  exact wpAny_bind (wpAny_holding (unpackItems_list hh ht h))
end
section
variable {X : Cx} {pos : Pos}
def gTupL (K : PySem.W.Frag) (n : Nat) (t : TGs) : TG := fun v σ H Q => ∃ a xs, v = .ref a ∧ SqL K H a xs ∧ xs.length = n ∧ t xs σ H Q
theorem pg_tupL {es : List Expr} {k : Nat} {t : TGs} {n : Nat} (hc : X.calm = true) (h : PGs X es t)
    (hn : (assignEach es X.env).length = n := by rfl) (hst : (assignEach es X.env).findIdx? (·.1) = none := by rfl) : PG X (.Tuple es k pos) (gTupL X.K n t) := by
  intro pins s σ H v u Q I r hw
  obtain ⟨a, xs, e1, hq, hl, hw⟩ := hw
  subst e1
  cases r
  obtain ⟨its, rv, ht, hz⟩ := I.list hq
  refine assign_Tuple_list (I.ok.hd hc) ht (by simp [hn, ← hl, rv.length]) hst fun h' hx => ?_
  have I1 : Inv X pins σ H { s with heap := h' } := I.kept (t' := s.toks) fun b o e => hx b o (Nat.ne_of_lt (Heap.lt_size e)) e
  exact h pins _ σ H xs _ Q I1 (by simpa using rv) hw
end
theorem ObjOk.btw {P : Program} {w : World} {H H2 H' : Hp} {h h' : Heap} {a : Addr} {o : HO} (x : ObjOk P w H h a o) (y : ObjOk P w H' h' a o) (s1 : Same H H2) : ObjOk P w H2 h' a o := by
  induction o with
  | ins C dx fs => exact ⟨s1 dx _ x.1, y.2⟩
  | frz ob u ih => exact ⟨y.1, ih x.2 y.2⟩
  | _ => exact y
def Plus (H H2 : Hp) : Prop := Same H H2 ∧ ∀ a o, H2 a = some o → H a = some o ∨ (∃ xs, o = .tup xs) ∨ ∃ xs, o = .lst xs
theorem Plus.refl (H : Hp) : Plus H H := ⟨Same.refl H, fun _ _ e => .inl e⟩
theorem FnOk.forget {P : Program} {w : World} {K : PySem.W.Frag} {mg : Str → Option Value} {base : Heap} {CX : CXT} {k : Nat} {f : Addr} {fd : FuncData} {ps : List Str} {sp sp' : Sp} (F : FnOk P w K mg base CX k f fd ps sp)
    (hs : ∀ vs H Q E, sp' vs H Q E → ∃ Q', sp vs H Q' E ∧ ∀ v H', Q' v H' → ∃ H2, Plus H H2 ∧ Same H2 H' ∧ Q v H2) : FnOk P w K mg base CX k f fd ps sp' := by
  refine ⟨fun vs H Q E h => ?_, fun A outer s H args us vs Q E hr e0 hb r h => ?_⟩
  · obtain ⟨Q', h', _⟩ := hs vs H Q E h
    exact F.len vs H Q' E h'
  obtain ⟨Q', h', hq⟩ := hs vs H Q E h
  refine codeAny_mono (F.run A outer s H args us vs _ E hr e0 hb r h') fun res s' hs => ?_
  cases res with
  | error e => exact hs
  | ok fl =>
    cases fl with
    | ret u =>
      obtain ⟨v, H', ho, hbr, un, hok, rv, q'⟩ := hs
      obtain ⟨H2, ⟨s1, cl⟩, s2, q⟩ := hq v H' q'
      have fr : ∀ b, H' b = none → H2 b = none := fun b e => s2.free e
      refine ⟨v, H2, ho, hbr, ⟨un.keep, un.slot, fun b o e n hx => fr b (un.free b o e n hx), un.there, fun b xs e => s1 b _ e, fun b o u e => s1 b _ e, fun b ps e => ⟨#[], by rw [s1 b _ e]; simp⟩⟩, fun a o e => ?_, rv, q⟩
      have z := hok a o (s2 a o e)
      rcases cl a o e with c | ⟨xs, rfl⟩ | ⟨xs, rfl⟩
      · exact (e0.hok a o c).btw z s1
      · exact z
      · exact z
    | next => exact hs
    | brk => exact hs
    | cont => exact hs
theorem FnOk.clean {P : Program} {w : World} {K : PySem.W.Frag} {mg : Str → Option Value} {base : Heap} {CX : CXT} {k : Nat} {f : Addr} {fd : FuncData} {ps : List Str} {sp sp' : Sp} (F : FnOk P w K mg base CX k f fd ps sp)
    (h : ∀ vs H Q E, sp' vs H Q E → sp vs H (fun v H' => Same H H' ∧ Q v H) E) : FnOk P w K mg base CX k f fd ps sp' :=
  F.forget fun vs H Q E hs => ⟨_, h vs H Q E hs, fun v H' ⟨s, q⟩ => ⟨H, Plus.refl H, s, q⟩⟩
theorem Same.upd {H : Hp} {p : Addr} {o : HO} (hp : H p = none) : Same H (upd H p o) := fun b u e => by
  rw [upd_ne (ne_of_none e hp)]; exact e
section
variable {X : Cx}
theorem IxR.imp {r r' : R2} (h : IxR X r) (i : ∀ x y H Q, r' x y H Q → r x y H Q) : IxR X r' := by
  intro b pos pins s σ H x y v u Q I rx ry q hs
  exact h _ _ _ _ _ _ _ _ _ _ _ I rx ry (i _ _ _ _ q) hs
def rIxTH : R2 := fun x y H Q => ∃ p xs i v, x = .ref p ∧ y = .int i ∧ H p = some (.tup xs) ∧ atI xs i = some v ∧ Q v H
def rIxLH : R2 := fun x y H Q => ∃ p xs i v, x = .ref p ∧ y = .int i ∧ H p = some (.lst xs) ∧ atI xs i = some v ∧ Q v H
theorem ix_tupH : IxR X rIxTH := ix_tup.imp fun x y H Q ⟨p, xs, i, v, a, b, c, d⟩ => ⟨p, xs, i, v, a, b, .of c, d⟩
theorem ix_listH : IxR X rIxLH := ix_list.imp fun x y H Q ⟨p, xs, i, v, a, b, c, d⟩ => ⟨p, xs, i, v, a, b, .of c, d⟩
theorem atI_0 {α : Type} {x : α} {xs : List α} : atI (x :: xs) 0 = some x := atI_nat (j := 0) rfl
theorem atI_1 {α : Type} {x y : α} {xs : List α} : atI (x :: y :: xs) 1 = some y := atI_nat (j := 1) rfl
theorem CallR.imp {f : Value} {r r' : List V → Hp → VK → Prop} (h : CallR X f r) (i : ∀ xs H Q, r' xs H Q → r xs H Q) : CallR X f r' := fun pins s σ H xs us Q I rx q => h pins s σ H xs us Q I rx (i _ _ _ q)
def rLenT : List V → Hp → VK → Prop := fun xs H Q => ∃ p ys, xs = [.ref p] ∧ H p = some (.tup ys) ∧ Q (.int ys.length) H
def rLenL : List V → Hp → VK → Prop := fun xs H Q => ∃ p ys, xs = [.ref p] ∧ H p = some (.lst ys) ∧ Q (.int ys.length) H
theorem call_lenT : CallR X (.builtin "len") rLenT := call_len_seq.imp fun xs H Q ⟨p, ys, a, b, c⟩ => ⟨p, ys, a, .inr (.of b), c⟩
theorem call_lenL : CallR X (.builtin "len") rLenL := call_len_seq.imp fun xs H Q ⟨p, ys, a, b, c⟩ => ⟨p, ys, a, .inl (.of b), c⟩
def tyS (H : Hp) : V → Option String
  | .non => some "NoneType"
  | .bl _ => some "bool"
  | .int _ => some "int"
  | .str _ => some "str"
  | .ref a => match H a with
    | some (.lst _) => some "list"
    | some (.tup _) => some "tuple"
    | some (.dK _) => some "dict"
    | _ => none
  | _ => none
theorem tyS_of {K : PySem.W.Frag} {H : Hp} {x : V} {t : String} (h : tyS H x = some t) : TyOf K H x (.type t) := by
  cases x with
  | non => cases h; exact .non
  | bl => cases h; exact .bl _
  | int => cases h; exact .int _
  | str => cases h; exact .str _
  | byt => cases h
  | flt => cases h
  | ty => cases h
  | ref a =>
    have h : (match H a with
      | some (.lst _) => some "list"
      | some (.tup _) => some "tuple"
      | some (.dK _) => some "dict"
      | _ => none) = some t := h
    split at h
    · cases h; exact .lst (by assumption)
    · cases h; exact .tup (by assumption)
    · cases h; exact .dK (by assumption)
    · cases h
def subS (t T : String) : Bool := (t == T) || (t == "bool" && T == "int")
theorem kit_sub {K : PySem.W.Frag} {t T : String} (ht : t ∈ ["NoneType", "bool", "int", "str", "list", "tuple", "dict"]) (hT : T ∈ ["bool", "int", "str", "list", "tuple", "dict"]) : PySem.W.kitOne K (.type t) (.type T) = some (subS t T) := by
  simp only [List.mem_cons, List.not_mem_nil, or_false] at ht hT
  rcases ht with rfl | rfl | rfl | rfl | rfl | rfl | rfl <;> rcases hT with rfl | rfl | rfl | rfl | rfl | rfl <;> with_unfolding_all rfl
theorem tyS_in {H : Hp} {x : V} {t : String} (h : tyS H x = some t) : t ∈ ["NoneType", "bool", "int", "str", "list", "tuple", "dict"] := by
  cases x with
  | non => cases h; decide
  | bl => cases h; decide
  | int => cases h; decide
  | str => cases h; decide
  | byt => cases h
  | flt => cases h
  | ty => cases h
  | ref a =>
    have h : (match H a with
      | some (.lst _) => some "list"
      | some (.tup _) => some "tuple"
      | some (.dK _) => some "dict"
      | _ => none) = some t := h
    split at h <;> cases h <;> decide
def rIsi : List V → Hp → VK → Prop := fun xs H Q => ∃ x T t, xs = [x, .ty T] ∧ T ∈ ["bool", "int", "str", "list", "tuple", "dict"] ∧ tyS H x = some t ∧ Q (.bl (subS t T)) H
theorem call_isi : CallR X (.builtin "isinstance") rIsi := call_isinst.imp fun xs H Q ⟨x, T, t, a, b, c, d⟩ => ⟨x, .ty T, .type T, .type t, _, a, .inl ⟨T, rfl, rfl⟩, tyS_of c, kit_sub (tyS_in c) b, d⟩
theorem PG.imp {e : Expr} {t t' : TG} (h : PG X e t) (i : ∀ v σ H Q, t' v σ H Q → t v σ H Q) : PG X e t' := fun pins s σ H v u Q I r q => h pins s σ H v u Q I r (i _ _ _ _ q)
def gTupH (n : Nat) (t : TGs) : TG := fun v σ H Q => ∃ a xs, v = .ref a ∧ H a = some (.tup xs) ∧ xs.length = n ∧ t xs σ H Q
def gLstH (n : Nat) (t : TGs) : TG := fun v σ H Q => ∃ a xs, v = .ref a ∧ H a = some (.lst xs) ∧ xs.length = n ∧ t xs σ H Q
theorem pg_tupH {es : List Expr} {k : Nat} {t : TGs} {n : Nat} {pos : Pos} (hc : X.calm = true) (h : PGs X es t) (hn : (assignEach es X.env).length = n := by rfl) (hst : (assignEach es X.env).findIdx? (·.1) = none := by rfl) : PG X (.Tuple es k pos) (gTupH n t) :=
  (pg_tup hc h hn hst).imp fun v σ H Q ⟨a, xs, e1, e2, e3⟩ => ⟨a, xs, e1, .of e2, e3⟩
theorem pg_lstH {es : List Expr} {k : Nat} {t : TGs} {n : Nat} {pos : Pos} (hc : X.calm = true) (h : PGs X es t) (hn : (assignEach es X.env).length = n := by rfl) (hst : (assignEach es X.env).findIdx? (·.1) = none := by rfl) : PG X (.Tuple es k pos) (gLstH n t) :=
  (pg_tupL hc h hn hst).imp fun v σ H Q ⟨a, xs, e1, e2, e3⟩ => ⟨a, xs, e1, .of e2, e3⟩
def rSrtH : List V → Hp → VK → Prop := fun xs H Q => ∃ l ns, xs = [.ref l] ∧ H l = some (.lst (ns.map V.int)) ∧ ns.length < 64 ∧ ∀ (ms : List Int) p, H p = none → ms.Perm ns → ms.Pairwise (· ≤ ·) → Q (.ref p) (upd H p (.lst (ms.map V.int)))
theorem call_srtH : CallR X (.builtin "sorted") rSrtH := call_sorted.imp fun xs H Q ⟨l, ns, a, b, c⟩ => ⟨l, ns, a, .of b, c⟩
theorem tyS_non {H : Hp} : tyS H .non = some "NoneType" := rfl
theorem tyS_bl {H : Hp} {b : Bool} : tyS H (.bl b) = some "bool" := rfl
theorem tyS_int {H : Hp} {i : Int} : tyS H (.int i) = some "int" := rfl
theorem tyS_str {H : Hp} {x : Str} : tyS H (.str x) = some "str" := rfl
theorem tyS_tup {H : Hp} {p : Addr} {xs : List V} (h : H p = some (.tup xs)) : tyS H (.ref p) = some "tuple" := by
  show (match H p with
      | some (.lst _) => some "list"
      | some (.tup _) => some "tuple"
      | some (.dK _) => some "dict"
      | _ => none) = _
  rw [h]
theorem tyS_lst {H : Hp} {p : Addr} {xs : List V} (h : H p = some (.lst xs)) : tyS H (.ref p) = some "list" := by
  show (match H p with
      | some (.lst _) => some "list"
      | some (.tup _) => some "tuple"
      | some (.dK _) => some "dict"
      | _ => none) = _
  rw [h]
def truB : V → Option Bool
  | .bl b => some b
  | .int i => some (i != 0)
  | .non => some false
  | _ => none
theorem truB_of {K : PySem.W.Frag} {x : V} {H : Hp} {k : Bool} (h : truB x = some k) : TruV K x H k := by
  cases x <;> cases h <;> rfl
def tTru (ta : TE) : TT := fun σ H Q => ta σ H fun x H' => ∃ k, truB x = some k ∧ Q k H'
theorem pt_tru {a : Expr} {ta : TE} (ha : PE X a ta) (he : ∀ whole, isTrue a X.env whole = (do let v ← whole; standAt a.pos; holding [v] (truthy v))) : PT X a (tTru ta) := by
  intro pins s σ H Q I h
  exact isTrue_plain (thn (ha pins s σ H _ I h) fun v s1 ⟨x, H1, I1, r1, k, e, q1⟩ => tru_ok pins s1 σ H1 x v Q I1 r1 ⟨k, truB_of e, q1⟩) (he _)
end
section
variable {X : Cx} {st : Stmt} {rest : List Stmt} {t u : TS}
def tCut (t u : TS) : TS := fun D σ H => ∃ Mid : St → Hp → Prop, t { D with nx := Mid } σ H ∧ ∀ σ' H', Mid σ' H' → u D σ' H'
theorem pss_cut (h1 : PS X st t) (h2 : PSs X rest u) : PSs X (st :: rest) (tCut t u) := by
  intro pins s σ H D I h
  obtain ⟨Mid, ha, hb⟩ := h
  refine wpAny_execs_cons (thn (h1 pins s σ H { D with nx := Mid } I ha) fun f s1 q => ?_)
  cases f with
  | next =>
    obtain ⟨σ', H', I', q⟩ := q
    exact h2 pins s1 σ' H' D I' (hb σ' H' q)
  | ret v => exact q
  | brk => exact q
  | cont => exact q
end
def OkF (P : Program) (w : World) (K : PySem.W.Frag) (mg : Str → Option Value) (base : Heap) (k : Nat) (x : Str) (ps : List Str) (sp : Sp) : Prop :=
  ∃ f fd, FnOk P w K mg base CX0 k f fd ps sp ∧ Binds K fd ps [] ∧ mg x = some (.ref f) ∧ PySem.W.keepIn K (.ref f) = true
def HasF (K : PySem.W.Frag) (mg : Str → Option Value) (x : Str) (st : Stmt) (ps : List Str) : Prop :=
  ∃ f fd, Fun K x x st f fd ∧ (∀ us : List Value, us.length = ps.length → bindArgs fd ⟨us, []⟩ = pure (ps.zip us)) ∧ mg x = some (.ref f)
theorem HasF.ok {P : Program} {w : World} {K : PySem.W.Frag} {mg : Str → Option Value} {base : Heap} {k : Nat} {x : Str} {st : Stmt} {ps : List Str} {sp : Sp} (h : HasF K mg x st ps)
    (hf : ∀ f fd, Fun K x x st f fd → FnOk P w K mg base CX0 k f fd ps sp) : OkF P w K mg base k x ps sp := by
  obtain ⟨f, fd, a, b, c⟩ := h
  exact ⟨f, fd, hf f fd a, .all b, c, a.kp⟩
theorem hasF_mk {K : PySem.W.Frag} {h : Heap} {mg : Str → Option Value} {x : Str} {st : Stmt} {ps : List Str} {f : Addr} {oc : Value} {od an : Option Addr} {osl : Array (Option Value)} {kV doc pm cdv ct : Value} (X : K.In h) (G : h.Ns mainGlobals mg)
    (a : PySem.W.nsIn K mainGlobals x = some (some (.ref f))) (l : K.lookup f = some ⟨oc, od, .func (PySem.W.fnOf x x (defArgs st) (defBody st) (defScope st) .none kV doc pm an cdv ct), osl⟩)
    (c : PySem.W.codeIn K cdv x = true) (k : PySem.W.keepIn K (.ref f) = true)
    (hb : ∀ (kV doc pm : Value) (an : Option Addr) (cdv ct : Value) (us : List Value), us.length = ps.length → bindArgs (PySem.W.fnOf x x (defArgs st) (defBody st) (defScope st) .none kV doc pm an cdv ct) ⟨us, []⟩ = pure (ps.zip us)) : HasF K mg x st ps :=
  ⟨f, _, fun_mk l c k, hb kV doc pm an cdv ct, PySem.W.mg_of X G a⟩
def spLaw (K : PySem.W.Frag) : Sp := fun vs H Q _ => ∃ (a : Addr) (ns : List Int), vs = [.ref a] ∧ SqL K H a (ns.map V.int) ∧ ns.length ≤ 63 ∧ Only H ∧ ∀ H', Q (.bl true) H'
theorem walkF {l : PySem.W.OpenLaw} {k : Nat} {x : Str} {q : Program} {loose : List Str} {XP : (Str → Option Value) → Heap → Prop} {YP : World → Heap → Prop} {d : DefRec} {K : Params → PySem.W.Frag} (hn : l.most = some 63) (hdf : d.params.defaults = [])
    (hr : Room k callerA) (hY : ∀ (w : World) (h : Heap), YP w h → (K w.params).In h)
    (F : ∀ (w : World) (mg : Str → Option Value) (fa : Addr) (h : Heap), (K w.params).In h → h.Ns mainGlobals mg → mg d.name = some (.ref fa) →
      ∃ st, HasF (K w.params) mg d.name st [x] ∧ ∀ (base : Heap) (f : Addr) (fd : FuncData), Fun (K w.params) d.name d.name st f fd → FnOk l.prog w (K w.params) mg base CX0 k f fd [x] (spLaw (K w.params))) :
    PySem.W.WalkO q loose XP YP l.row.toRowW d [] (fun f vs => PySem.call f vs) := by
  refine L2.walk_of (n := 63) (k := k) (x := x) (CX := fun _ => CX0) (sp := fun w => spLaw (K w.params)) hn (by decide) hdf hr hY (fun w mg fa h KX G hmg => ?_) (fun _ _ a ns hl hO hS => ⟨a, ns, rfl, hS, hl, hO, fun _ => rfl⟩) fun _ _ _ _ _ z => z
  obtain ⟨st, ⟨f, fd, hf, hb, hm⟩, ok⟩ := F w mg fa h KX G hmg
  rw [hm] at hmg
  have e : f = fa := by injection hmg with z; injection z
  subst e
  exact ⟨fd, fun s u => .of_eq (hb [u] rfl), fun base _ _ => ok base f fd hf⟩
section
variable {X : Cx} {p pos : Pos} {e : Expr} {es : List Expr} {t : TA} {x : Str} {k : Nat} {ps : List Str} {sp : Sp}
def tCallF (sp : Sp) (t : TA) : TE := fun σ H Q => t σ H fun vs H1 => sp vs H1 Q E0
theorem pe_callF (G : OkF X.prog X.w X.K X.mg X.base k x ps sp) (hr : Room k X.A) (hg : Gl X x) (ha : PA X (e :: es) t) (hdb : (x == ("__debug__" : Str)) = false := by decide)
    (he : starEach (e :: es) X.env = (false, eval e X.env) :: starEach es X.env := by rfl) (hpl : (backTo pos (starEach es X.env)).any (·.1) = false := by rfl) : PE X (.Call (.Name x p) (e :: es) [] pos) (tCallF sp t) := by
  obtain ⟨f, fd, F, b, hm, kp⟩ := G
  intro pins s σ H Q I h
  refine pe_call F hr hg hm kp b .nil pass0 ha hdb he hpl pins s σ H Q I ?_
  show t σ H fun vs H1 => sp (vs ++ []) H1 Q E0
  simp only [List.append_nil]
  exact h
end
theorem abs_if (a : Int) : (if a < 0 then -a else a) = ((a.natAbs : Nat) : Int) := by split <;> omega
theorem perm_two {ms : List Int} {x y : Int} (h : ms.Perm [x, y]) : ms = [x, y] ∨ ms = [y, x] := by
  match ms, h.length_eq with
  | [l, k], _ =>
    have h1 : l ∈ [x, y] := h.mem_iff.mp (by simp)
    simp only [List.mem_cons, List.not_mem_nil, or_false] at h1
    rcases h1 with rfl | rfl
    · have h2 := (List.perm_cons l).mp h
      have h3 := h2.mem_iff.mp (List.mem_cons_self)
      simp only [List.mem_cons, List.not_mem_nil, or_false] at h3
      exact .inl (by rw [h3])
    · have h2 := (List.perm_cons l).mp (h.trans (List.Perm.swap ..))
      have h3 := h2.mem_iff.mp (List.mem_cons_self)
      simp only [List.mem_cons, List.not_mem_nil, or_false] at h3
      exact .inr (by rw [h3])
theorem fmod_nat (a b : Nat) : Int.fmod (a : Int) (b : Int) = ((a % b : Nat) : Int) := by
  rw [Int.fmod_eq_emod_of_nonneg _ (Int.natCast_nonneg b)]; rfl
theorem fdiv_pos (a : Int) {b : Int} (h : 0 < b) : Int.fdiv a b = a / b := Int.fdiv_eq_ediv_of_nonneg a (Int.le_of_lt h)
theorem Bd.div {a b : Int} (h : Bd a) (hb : 0 < b) : Bd (a / b) := by
  unfold Bd at *
  refine Nat.lt_of_le_of_lt ?_ h
  have e := Int.mul_ediv_add_emod a b
  have r0 := Int.emod_nonneg a (show b ≠ 0 by omega)
  have r1 := Int.emod_lt_of_pos a hb
  generalize a / b = q at *
  generalize a % b = r at *
  rcases (by omega : q = 0 ∨ 1 ≤ q ∨ q ≤ -1) with z | z | z
  · subst z; simp
  · have := Int.mul_le_mul_of_nonneg_right (show 1 ≤ b by omega) (show 0 ≤ q by omega)
    omega
  · have h1 : b * (q + 1) ≤ 1 * (q + 1) := Int.mul_le_mul_of_nonpos_right (show 1 ≤ b by omega) (show q + 1 ≤ 0 by omega)
    rw [Int.mul_add] at h1
    omega
end L2
set_option Elab.async false
set_option linter.all false
set_option maxRecDepth 100000
set_option maxHeartbeats 4000000
namespace L2
open PySem PySem.Spec PyProof.Rows
def TrD (h base : Heap) (e : Addr) (cls : Value) (d : Option Addr) (fl : Value) : Prop :=
  ∃ oe vs T oT ts, h.get? e = some oe ∧ (oe.cls = cls ∧ oe.dict = d) ∧ oe.data = .fields vs ∧ vs[1]? = some (.ref T) ∧ base.get? T = none ∧ T ≠ e ∧ h.get? T = some oT ∧ oT.data = .fields ts ∧ ts[3]? = some fl
def FlyD (base : Heap) (l : List Env) (e : Addr) (cls : Value) (d : Option Addr) (fl : Value) (h : Heap) : Prop :=
  base.StaysIn h ∧ base.get? e = none ∧ h.FunFrames base l ∧ TrD h base e cls d fl
section
variable {M : Model} {A : Around} {E : Value → Shared → Prop} {s : Shared} {base : Heap} {env : Env} {outer l : List Env} {L e : Addr} {cls : Value} {d : Option Addr} {Q : Unit → Shared → Prop}
end
structure Fly (P : Program) (w : World) (l : List Env) (H : Hp) (s : Shared) (a : Addr) (C : Value) (H' : Hp) (s' : Shared) (B : Heap) (d : Option Addr) : Prop where
  os : s'.os = s.os
  bare : AllBare s'.gens
  new : s.heap.get? a = none
  un : Un (frs l) [] H H' s.heap s'.heap
  hok : HOk P w H' s'.heap
  frf : ∀ b ∈ frs l, H' b = none
  fl : FlyD B l a C d .none s'.heap
  cov : ∀ b o, s'.heap.get? b = some o → b ∉ frs l → ((∃ u, s.heap.get? b = some u) ∨ ∃ u, H' b = some u) → B.get? b = some o
section
variable {P : Program} {w : World} {l : List Env} {H H' : Hp} {s s' : Shared} {a : Addr} {C : Value} {B : Heap} {d : Option Addr} {h' : Heap}
end
section
variable {X : Cx} {pins : List (Addr × Obj)} {σ : List (Option V)} {H H' : Hp} {s s' : Shared} {a : Addr} {C : Value} {B : Heap} {d : Option Addr} {h' : Heap}
end
def CXO (P : Program) (w : World) : CXT := fun l H s E e s' => ∃ a C d H' B, e = .ref a ∧ Fly P w l H s a C H' s' B d ∧ E C d H'
def XFly (X : Cx) (Ex : Value → Option Addr → L2.St → Hp → Prop) : Prop :=
  ∀ pins σ H s a C H' s' B d, Inv X pins σ H s → Fly X.prog X.w X.stack H s a C H' s' B d → Ex C d σ H' → X.xe (.ref a) s'
def XMade (X : Cx) (Ex : Value → Option Addr → L2.St → Hp → Prop) : Prop :=
  ∀ pins σ H s a C vs h1, Inv X pins σ H s → Heap.MadeExcOf s.heap h1 a C vs → Ex C none σ H → X.xe (.ref a) { s with heap := h1 }
section
variable {P : Program} {w : World} {K : PySem.W.Frag} {mg : Str → Option Value} {base : Heap} {N : List Str} {qual : Str} {scope : Scope} {f : Addr} {cd : Value} {A : Around} {outer : List Env} {s : Shared} {H : Hp} {E : XK}
end
section
variable {P : Program} {w : World} {K : PySem.W.Frag} {mg : Str → Option Value} {base : Heap}
def OkX (P : Program) (w : World) (K : PySem.W.Frag) (mg : Str → Option Value) (base : Heap) (k : Nat) (x : Str) (ps : List Str) (sp : Sp) : Prop :=
  ∃ f fd, FnOk P w K mg base (CXO P w) k f fd ps sp ∧ Binds K fd ps [] ∧ mg x = some (.ref f) ∧ PySem.W.keepIn K (.ref f) = true
end
section
variable {X : Cx} {p pos : Pos} {e : Expr} {es : List Expr} {t : TA} {x : Str} {k : Nat} {ps : List Str} {sp : Sp} {Ex : Value → Option Addr → L2.St → Hp → Prop}
def tCallX (sp : Sp) (Ex : Value → Option Addr → L2.St → Hp → Prop) (t : TA) : TE := fun σ H Q => t σ H fun vs H1 => sp vs H1 Q fun C d H' => Ex C d σ H'
end
abbrev bmV : List Value := [.type "ValueError", .type "Exception", .type "BaseException", .type "object"]
def ExcC (K : PySem.W.Frag) (C : Addr) : Prop := PySem.W.excIn K C bmV "ValueError.__new__" = true
theorem exc_obj {K : PySem.W.Frag} {h : Heap} {C : Addr} (X : K.In h) (q : ExcC K C) : ∃ bm N nm qn bs hdct sn sub ab col dd k0 k1 k2 k3 k5 mN, h.get? C = some (excClassObj nm qn C N bs bm hdct sn sub ab col dd k0 k1 k2 k3 k5 "ValueError.__new__") ∧
    h.Ns N mN ∧ mN "__init__" = none ∧ OwnTail h bmV bm := by
  unfold ExcC PySem.W.excIn at q
  split at q
  · rename_i dd cd sl ho
    split at q
    · rename_i C' bm k0 k1 k2 k3 n k5 hm hs
      simp only [Bool.and_eq_true, beq_iff_eq, Bool.not_eq_true'] at q
      obtain ⟨⟨⟨⟨⟨rfl, rfl⟩, hdel⟩, ht⟩, hok⟩, hni⟩ := q
      obtain ⟨nm, bs, mro, ns, qn, hd, sn, sub, ab, col, del⟩ := cd
      dsimp only at hm hdel hok hni
      subst hm hdel
      have hsl : sl = #[k0, k1, k2, k3, some (.builtin "ValueError.__new__"), k5] := by
        obtain ⟨l⟩ := sl
        simp only at hs
        rw [hs]
      subst hsl
      exact ⟨bm, ns, nm, qn, bs, hd, sn, sub, ab, col, dd, k0, k1, k2, k3, k5, _, X _ _ ho, .of_isNs (PySem.W.isNs_of_in X hok), PySem.W.nsMap_none_of_in X hok hni, PySem.W.tail_of_in X ht⟩
    · cases q
  · cases q
section
variable {X : Cx} {x : Str} {np cpos pos : Pos} {e₀ : Expr} {rest : List Expr} {ta : TA} {C : Addr} {Ex : Value → Option Addr → L2.St → Hp → Prop}
def tRaise (C : Addr) (Ex : Value → Option Addr → L2.St → Hp → Prop) (ta : TA) : TS := fun _ σ H => ta σ H fun vs H1 => vs.length ≤ sizeLine ∧ Ex (.ref C) none σ H1
theorem ps_raise (hc : X.calm = true) (hg : Gl X x) (hm : X.mg x = some (.ref C)) (q : ExcC X.K C) (hx : XMade X Ex) (ha : PA X (e₀ :: rest) ta) (hd : (x == ("__debug__" : Str)) = false := by decide)
    (he : starEach (e₀ :: rest) X.env = (false, eval e₀ X.env) :: starEach rest X.env := by rfl) (hplain : (backTo cpos (starEach rest X.env)).any (·.1) = false := by rfl) :
    PS X (.Raise (some (.Call (.Name x np) (e₀ :: rest) [] cpos)) none pos) (tRaise C Ex ta) := by
  intro pins s σ H D I h
  obtain ⟨tl, N, nm, qn, bs, hdct, sn, sub, ab, col, dd, k0, k1, k2, k3, k5, mN, hC, hN, hni, T⟩ := exc_obj I.ok.mod.kin q
  have FB := PySem.F.excBase_ValueError
  refine wpAny_Raise_call_subT (C := C) (nm := nm) (q := qn) (N := N) (bs := bs) (bm := tl) (hdct := hdct) (sn := sn) (sub := sub) (ab := ab) (col := col) (dd := dd) (k0 := k0) (k1 := k1) (k2 := k2) (k3 := k3) (k5 := k5)
    FB (mN := mN) (T.hasType FB.hasBase) (I.ok.hd hc) (by rw [he]; show (false || (backTo cpos (starEach rest X.env)).any (·.1)) = false; rw [hplain]; rfl) hni (ld_glob I hg hm ⟨rfl, ?_⟩ hd)
  have h2 := ha cpos pins s σ H _ I h
  rw [he] at h2 ⊢
  exact Calls.evalArgs_plain (wpAny_mono h2 (fun us s₂ ⟨vs, H1, I1, r, hl, ex⟩ => ⟨rfl, by rw [← r.length]; exact hl, I1.bk _ _ hC, hN.keeps I1.bk, T.keeps I1.bk, fun h' e M => hx pins σ H1 s₂ e _ us h' I1 M ex⟩) fun _ _ y => y)
end
abbrev Cx.tryc (X : Cx) (pn : List (Addr × Obj)) (E : Value → Shared → Prop) : Cx := { X with pn := pn, xe := E }
abbrev Cx.marked (X : Cx) (a : Addr) (E : Value → Shared → Prop) : Cx := { X with A := X.A.mark (some (.ref a)), calm := false, xe := E }
section
variable {X : Cx} {pins pins' pn : List (Addr × Obj)} {σ : L2.St} {H H' : Hp} {s : Shared} {E : Value → Shared → Prop} {a : Addr}
end
def XO (a C : Addr) (d : Option Addr) : HO := .ext fun h => ∃ o, h.get? a = some o ∧ o.cls = .ref C ∧ o.dict = d ∧ ∃ vs, o.data = .fields vs
section
variable {X : Cx} {pos hpos np : Pos} {body suite : List Stmt} {b₀ : Stmt} {n Dn : Str} {D : Addr} {i : Nat} {tb : (Value → Option Addr → L2.St → Hp → Prop) → TS} {th : TS}
def Ends.unset (R : Ends) (i : Nat) : Ends := { nx := fun σ H => R.nx (σ.set i none) H, rt := R.rt, bk := fun σ H => R.bk (σ.set i none) H, ct := fun σ H => R.ct (σ.set i none) H }
def tTryAs (K : PySem.W.Frag) (D : Addr) (i : Nat) (tb : (Value → Option Addr → L2.St → Hp → Prop) → TS) (th : TS) : TS := fun R σ H =>
  ∃ Ex : Value → Option Addr → L2.St → Hp → Prop, tb Ex R σ H ∧ ∀ C' d σ' H', Ex C' d σ' H' → ∃ C, C' = .ref C ∧ PySem.W.mroIn K C (.ref D) = some true ∧
    ∀ a, H' a = none → th (R.unset i) (σ'.set i (some (.ref a))) (upd H' a (XO a C d))
end
end L2
set_option Elab.async false
set_option linter.all false
set_option maxRecDepth 100000
set_option maxHeartbeats 4000000
namespace L2
open PySem PySem.Spec PyProof.Rows
structure ExcK (K : PySem.W.Frag) (C : Addr) : Prop where
  ga : PySem.W.findIn K (.ref C) "__getattribute__" = some (some (.builtin "BaseException.__getattribute__"))
  gn : PySem.W.findIn K (.ref C) "__getattr__" = some none
  cl : PySem.W.findIn K (.ref C) "__class__" = some (some (.builtin "object.__class__"))
  mo : PySem.W.mroIn K C (.type "object") = some true
  mb : PySem.W.mroIn K C (.type "BaseException") = some true
section
variable {prog : Program} {w : World} {A : Around} {E : Value → Shared → Prop} {h : Heap} {g : Array GenState} {d : Drawn} {t : Nat} {os : OsState} {a C : Addr} {o : Obj} {K : PySem.W.Frag}
end
end L2
set_option Elab.async false
set_option linter.all false
set_option maxRecDepth 100000
set_option maxHeartbeats 4000000
namespace L2
open PySem PySem.Spec PyProof.Rows
def clOf (cells : List (Str × Addr)) : List (Str × NameKind) → List (Str × Addr) → List (Str × Addr)
  | [], acc => acc
  | (n, k) :: r, acc => clOf cells r (if k == .free then (n, (cells.lookup n).getD 0) :: acc else acc)
theorem closure_eq {scope : Scope} {env : Env} (h : ∀ y ∈ scope.names, y.2 = .free → ∃ c, env.cells.lookup y.1 = some c) : closureFor scope env = pure (clOf env.cells scope.names []) := by
  unfold closureFor
  have go : ∀ (l : List (Str × NameKind)) (acc : List (Str × Addr)), (∀ y ∈ l, y.2 = .free → ∃ c, env.cells.lookup y.1 = some c) →
      (forIn l acc (fun (x : Str × NameKind) (r : List (Str × Addr)) => if (x.2 == NameKind.free) = true then (do let a ← cellOf env x.1; pure (ForInStep.yield ((x.1, a) :: r))) else pure (ForInStep.yield r)) : Sem (List (Str × Addr))) = pure (clOf env.cells l acc) := by
    intro l
    induction l with
    | nil => intro acc _; rfl
    | cons y r ih =>
      intro acc hy
      obtain ⟨n, k⟩ := y
      rw [List.forIn_cons]
      by_cases hk : k = .free
      · subst hk
        obtain ⟨c, hc⟩ := hy (n, .free) List.mem_cons_self rfl
        have e1 : cellOf env n = pure c := by unfold cellOf; rw [show env.cells.lookup n = some c from hc]
        simp only [beq_self_eq_true, if_true, e1, pure_bind]
        rw [ih _ fun z hz => hy z (List.mem_cons_of_mem _ hz)]
        show pure _ = pure (clOf env.cells r (if (NameKind.free == NameKind.free) = true then (n, (env.cells.lookup n).getD 0) :: acc else acc))
        rw [show env.cells.lookup n = some c from hc]
        rfl
      · have hb : (k == NameKind.free) = false := by simpa using hk
        simp only [hb, Bool.false_eq_true, if_false, pure_bind]
        rw [ih _ fun z hz => hy z (List.mem_cons_of_mem _ hz)]
        show pure _ = pure (clOf env.cells r (if (k == NameKind.free) = true then (n, (env.cells.lookup n).getD 0) :: acc else acc))
        rw [hb]
        rfl
  have e := go scope.names [] h
  show (forIn scope.names [] (fun (x : Str × NameKind) (r : List (Str × Addr)) => if (x.2 == NameKind.free) = true then (do let a ← cellOf env x.1; pure (ForInStep.yield ((x.1, a) :: r))) else pure (ForInStep.yield r)) : Sem (List (Str × Addr))) >>= (fun cs => pure cs) = _
  rw [e]
  rfl
theorem clOf_mem {cells : List (Str × Addr)} : ∀ {names : List (Str × NameKind)} {acc : List (Str × Addr)} {x : Str} {c : Addr}, (∀ y ∈ names, y.2 = .free → ∃ c, cells.lookup y.1 = some c) → (x, c) ∈ clOf cells names acc → (x, c) ∈ acc ∨ cells.lookup x = some c
  | [], _, _, _, _, h => .inl h
  | (n, k) :: r, acc, x, c, hf, h => by
    unfold clOf at h
    rcases clOf_mem (fun y hy => hf y (List.mem_cons_of_mem _ hy)) h with z | z
    · by_cases hk : k = .free
      · subst hk
        simp only [beq_self_eq_true, if_true] at z
        rcases List.mem_cons.mp z with e | e
        · obtain ⟨c', hc'⟩ := hf (n, .free) List.mem_cons_self rfl
          cases e
          rw [show cells.lookup n = some c' from hc']
          exact .inr rfl
        · exact .inl e
      · have hb : (k == NameKind.free) = false := by simpa using hk
        simp only [hb, Bool.false_eq_true, if_false] at z
        exact .inl z
    · exact .inr z
theorem clOf_has {cells : List (Str × Addr)} : ∀ {names : List (Str × NameKind)} {acc : List (Str × Addr)} {x : Str}, ((x, NameKind.free) ∈ names ∨ ∃ c, (x, c) ∈ acc) → ∃ c, (x, c) ∈ clOf cells names acc
  | [], _, _, h => by
    rcases h with h | h
    · cases h
    · exact h
  | (n, k) :: r, acc, x, h => by
    unfold clOf
    refine clOf_has ?_
    rcases h with h | ⟨c, h⟩
    · rcases List.mem_cons.mp h with e | e
      · cases e
        exact .inr ⟨_, by simp only [beq_self_eq_true, if_true]; exact List.mem_cons_self⟩
      · exact .inl e
    · refine .inr ⟨c, ?_⟩
      split
      · exact List.mem_cons_of_mem _ h
      · exact h
theorem lookup_some_of_mem {α : Type} {x : Str} {c : α} : ∀ {l : List (Str × α)}, (x, c) ∈ l → ∃ c', l.lookup x = some c'
  | (y, d) :: r, h => by
    rw [List.lookup_cons]
    cases hb : x == y with
    | true => exact ⟨d, rfl⟩
    | false =>
      rcases List.mem_cons.mp h with e | e
      · cases e; simp at hb
      · exact lookup_some_of_mem e
def shad (x : Str) (N : List Str) : List Str := N.map fun y => if y = x then "?" else y
def Cx.comp (X : Cx) (N' : List Str) (scope : Scope) (x : Str) (C : Addr) (s₀ : Shared) (H₀ : Hp) (ex : List Addr) (pn : List (Addr × Obj)) : Cx :=
  { X with env := compEnvC scope (clOf X.env.cells scope.names []) C X.env, N := x :: N', s₀ := s₀, H₀ := H₀, outer := X.stack, ex := ex, fn := fun _ => false, pn := pn, xe := fun _ _ => False }
def tComp (wi : TI) (te : TE) : TE := fun σ H Q => wi σ H fun J H1 => ∀ D, H1 D = none → ∃ W : Nat → Nat → List V → Hp → Prop, (∃ m, W 0 m [] (upd H1 D (.lst []))) ∧ ∀ i m ys Hc, W i m ys Hc →
  (J.stop i Hc ∧ Q (.ref D) Hc) ∨ (J.go i Hc ∧ ∀ x H', J.yld i Hc x H' → te (some x :: σ) H' fun y H2 => ys.length < sizeLine ∧ H2 D = some (.lst ys) ∧ ∃ m', m' < m ∧ W (i + 1) m' (ys ++ [y]) (upd H2 D (.lst (ys ++ [y]))))
section
variable {X : Cx} {elt iter : Expr} {x : Str} {px pos : Pos} {scope : Scope} {wi : TI} {te : TE}
theorem Inv.nostk' {pins : List (Addr × Obj)} {σ : L2.St} {H : Hp} {s : Shared} (I : Inv X pins σ H s) {b : Addr} (h1 : b ≠ X.env.locals) (h2 : b ∉ X.fs) : b ∉ frs X.stack := fun z => by
  rcases List.mem_cons.mp (I.stkSub b z) with e | e
  · exact h1 e
  · exact h2 e
theorem relabel_free {env : Env} : ∀ {names : List (Str × NameKind)} {y : Str}, (names.map fun (n, k) => if (k == NameKind.free && env.scope.kind == .function && env.kindOf n == some .cell) then (n, NameKind.cell) else (n, k)).lookup y = some .cell ∨
    (names.map fun (n, k) => if (k == NameKind.free && env.scope.kind == .function && env.kindOf n == some .cell) then (n, NameKind.cell) else (n, k)).lookup y = some .free → (∀ z ∈ names, z.2 ≠ .cell) → (y, NameKind.free) ∈ names
  | [], y, h, _ => by rcases h with h | h <;> cases h
  | (n, k) :: r, y, h, hc => by
    have ih := @relabel_free env r y
    simp only [List.map_cons] at h
    by_cases hcond : (k == NameKind.free && env.scope.kind == .function && env.kindOf n == some .cell) = true
    · rw [if_pos hcond] at h
      simp only [List.lookup_cons] at h
      cases hb : y == n with
      | true =>
        have hk : k = .free := by
          simp only [Bool.and_eq_true, beq_iff_eq] at hcond
          exact hcond.1.1
        have : y = n := by simpa using hb
        subst this hk
        exact List.mem_cons_self
      | false =>
        rw [hb] at h
        exact List.mem_cons_of_mem _ (ih h fun z hz => hc z (List.mem_cons_of_mem _ hz))
    · rw [if_neg hcond] at h
      simp only [List.lookup_cons] at h
      cases hb : y == n with
      | true =>
        rw [hb] at h
        have : y = n := by simpa using hb
        subst this
        rcases h with h | h
        · exact absurd (Option.some.inj h) (hc (y, k) List.mem_cons_self)
        · have : k = .free := Option.some.inj h
          subst this
          exact List.mem_cons_self
      | false =>
        rw [hb] at h
        exact List.mem_cons_of_mem _ (ih h fun z hz => hc z (List.mem_cons_of_mem _ hz))
end
end L2
set_option Elab.async false
set_option linter.all false
set_option maxRecDepth 100000
set_option maxHeartbeats 4000000
namespace L2
open PySem PySem.Spec PyProof.Rows
section
variable {X : Cx}
def rIsiX (K : PySem.W.Frag) : List V → Hp → VK → Prop := fun xs H Q => ∃ a C d c cv b, xs = [.ref a, c] ∧ H a = some (XO a C d) ∧ ((∃ T, c = .ty T ∧ cv = Value.type T) ∨ ∃ D, c = .ref D ∧ cv = Value.ref D) ∧ ExcK K C ∧ PySem.W.kitOne K (.ref C) cv = some b ∧ Q (.bl b) H
def rIsB (neg : Bool) : R2 := fun x y H Q => ∃ b, y = .bl b ∧ Q (.bl (if neg then !decide (x = .bl b) else decide (x = .bl b))) H
def eqF : List V → List V → Bool
  | [], [] => true
  | x :: xs, y :: ys => eqV x y && eqF xs ys
  | _, _ => false
def eqH (H : Hp) (x y : V) : Option Bool :=
  match x, y with
  | .ref a, .ref b => match H a, H b with
    | some (.tup xs), some (.tup ys) => if xs.all flatV && ys.all flatV then some (eqF xs ys) else none
    | some (.lst xs), some (.lst ys) => if xs.all flatV && ys.all flatV then some (eqF xs ys) else none
    | some (.lst _), some (.tup _) => some false
    | some (.tup _), some (.lst _) => some false
    | _, _ => none
  | .ref a, y => if flatV y then (match H a with
    | some (.tup _) => some false
    | some (.lst _) => some false
    | _ => none) else none
  | x, .ref b => if flatV x then (match H b with
    | some (.tup _) => some false
    | some (.lst _) => some false
    | _ => none) else none
  | x, y => if scal x y then some (decide (x = y)) else none
def rEqH : R2 := fun x y H Q => ∃ k, eqH H x y = some k ∧ Q (.bl k) H
theorem Inv.tupIs {pins : List (Addr × Obj)} {σ : L2.St} {H : Hp} {s : Shared} {a : Addr} {xs : List V} (I : Inv X pins σ H s) (h : H a = some (.tup xs)) : ∃ its, Vals xs its ∧ IsTup s.heap a its.toArray ∧ s.heap.IsTuple a its.toArray := by
  obtain ⟨its, rv, ht, _⟩ := I.tuple (SqT.of h)
  exact ⟨its, rv, ht, ht⟩
theorem Inv.lstIs {pins : List (Addr × Obj)} {σ : L2.St} {H : Hp} {s : Shared} {a : Addr} {xs : List V} (I : Inv X pins σ H s) (h : H a = some (.lst xs)) : ∃ its, Vals xs its ∧ s.heap.IsList a its.toArray := by
  obtain ⟨its, rv, ht, _⟩ := I.list (SqL.of h)
  exact ⟨its, rv, ht.isList⟩
theorem xmade_no : XMade X (fun _ _ _ _ => False) := fun _ _ _ _ _ _ _ _ _ _ z => z.elim
def IsX (H : Hp) (a C : Addr) : Prop := ∃ d, H a = some (XO a C d)
def rIsiN (C D : Addr) (b : Bool) : List V → Hp → VK → Prop := fun xs H Q => ∃ a, xs = [.ref a, .ref D] ∧ IsX H a C ∧ Q (.bl b) H
def rIsiT (C : Addr) (T : String) (b : Bool) : List V → Hp → VK → Prop := fun xs H Q => ∃ a, xs = [.ref a, .ty T] ∧ IsX H a C ∧ Q (.bl b) H
end
end L2
set_option Elab.async false
set_option linter.all false
set_option maxRecDepth 100000
set_option maxHeartbeats 4000000
namespace L2
open PySem PySem.Spec PyProof.Rows
def tDisp1 (tk tv : TE) : TE := fun σ H Q => ∀ p, H p = none → tk σ (upd H p (.dK [])) fun x H1 => ∃ i, x = .int i ∧ tv σ H1 fun y H2 => H2 p = some (.dK []) ∧ Q (.ref p) (upd H2 p (.dK [(.inl i, y)]))
open PySem.SeqAt in
section
variable {X : Cx}
def rEqD : R2 := fun x y H Q => (∃ a b kvs ys, x = .ref a ∧ y = .ref b ∧ H a = some (.dK kvs) ∧ H b = some (.tup ys) ∧ Q (.bl false) H) ∨ rEqH x y H Q
structure PEB (X : Cx) (e : Expr) (t : TE) : Prop where
  out : PE X e t
structure PAB (X : Cx) (es : List Expr) (t : TA) : Prop where
  out : PA X es t
structure PSB (X : Cx) (st : Stmt) (t : TS) : Prop where
  out : PS X st t
structure PSsB (X : Cx) (b : List Stmt) (t : TS) : Prop where
  out : PSs X b t
end
section
variable {P : Program} {w : World} {K : PySem.W.Frag} {mg : Str → Option Value} {base : Heap}
end
end L2
set_option Elab.async false
set_option linter.all false
set_option maxRecDepth 100000
set_option maxHeartbeats 4000000
namespace L2
open PySem PySem.Spec PyProof.Rows
mutual
inductive Shows (H : Hp) : V → PyData → Prop
  | non : Shows H .non .none
  | bl (b : Bool) : Shows H (.bl b) (.bool b)
  | int (i : Int) : Shows H (.int i) (.int i)
  | str (x : Str) : Shows H (.str x) (.str x)
  | lst {a : Addr} {xs : List V} {ds : List PyData} : H a = some (.lst xs) → ShowsAll H xs ds → Shows H (.ref a) (.list ds)
  | tup {a : Addr} {xs : List V} {ds : List PyData} : H a = some (.tup xs) → ShowsAll H xs ds → Shows H (.ref a) (.tuple ds)
inductive ShowsAll (H : Hp) : List V → List PyData → Prop
  | nil : ShowsAll H [] []
  | cons {x : V} {xs : List V} {d : PyData} {ds : List PyData} : Shows H x d → ShowsAll H xs ds → ShowsAll H (x :: xs) (d :: ds)
end
mutual
theorem Shows.same {H H' : Hp} (S : Same H H') : ∀ {x : V} {d : PyData}, Shows H x d → Shows H' x d
  | _, _, .non => .non
  | _, _, .bl b => .bl b
  | _, _, .int i => .int i
  | _, _, .str x => .str x
  | _, _, .lst e h => .lst (S _ _ e) (ShowsAll.same S h)
  | _, _, .tup e h => .tup (S _ _ e) (ShowsAll.same S h)
theorem ShowsAll.same {H H' : Hp} (S : Same H H') : ∀ {xs : List V} {ds : List PyData}, ShowsAll H xs ds → ShowsAll H' xs ds
  | _, _, .nil => .nil
  | _, _, .cons h t => .cons (Shows.same S h) (ShowsAll.same S t)
end
section
variable {X : Cx} {pins : List (Addr × Obj)} {σ : L2.St} {H : Hp} {s : Shared}
mutual
theorem Inv.reads (I : Inv X pins σ H s) : ∀ {x : V} {d : PyData} {v : Value}, Shows H x d → RelV x v → ∃ as, Reads s.heap v d as
  | _, _, _, .non, r => by cases r; exact ⟨_, .none⟩
  | _, _, _, .bl b, r => by cases r; exact ⟨_, .bool b⟩
  | _, _, _, .int i, r => by obtain ⟨t, rfl⟩ := r; exact ⟨_, .int i t⟩
  | _, _, _, .str x, r => by obtain ⟨t, rfl⟩ := r; exact ⟨_, .str x t⟩
  | _, _, _, .lst e h, r => by
    cases r
    obtain ⟨its, rv, ⟨o, ho, hc, n, hd⟩⟩ := I.lstIs e
    obtain ⟨as, q⟩ := Inv.readsAll I h rv
    exact ⟨_, .list ho hc hd q⟩
  | _, _, _, .tup e h, r => by
    cases r
    obtain ⟨its, rv, _, ⟨o, ho, hc, n, hd⟩⟩ := I.tupIs e
    obtain ⟨as, q⟩ := Inv.readsAll I h rv
    exact ⟨_, .tuple ho hc hd q⟩
theorem Inv.readsAll (I : Inv X pins σ H s) : ∀ {xs : List V} {ds : List PyData} {vs : List Value}, ShowsAll H xs ds → Vals xs vs → ∃ as, ReadsAll s.heap vs ds as
  | _, _, _, .nil, r => by cases r; exact ⟨_, .nil⟩
  | _, _, _, .cons h t, r => by
    cases r with
    | cons r1 r2 =>
      obtain ⟨a, q1⟩ := Inv.reads I h r1
      obtain ⟨b, q2⟩ := Inv.readsAll I t r2
      exact ⟨_, .cons q1 q2⟩
end
def rEqR (neg : Bool) : R2 := fun x y H Q => ∃ d e, Shows H x d ∧ Shows H y e ∧ SeqAt.shaped d = true ∧ SeqAt.shaped e = true ∧ Q (.bl (if neg then !PyData.eqv d e else PyData.eqv d e)) H
theorem op_neR (hu : X.A.units + 64 < cLine) : OpR X (compareOp .NotEq) (rEqR true) := by
  intro pins s σ H x y v u Q I rx ry h
  obtain ⟨d, e, hd, he, sd, se, q⟩ := h
  obtain ⟨as, ra⟩ := I.reads hd rx
  obtain ⟨bs, rb⟩ := I.reads he ry
  exact SeqAt.compareNe_shaped ra rb sd se hu ⟨.bl _, H, I, rfl, q⟩
def rSumH : List V → Hp → VK → Prop := fun xs H Q => ∃ (l : Addr) (ns : List Int), xs = [.ref l] ∧ H l = some (.lst (ns.map V.int)) ∧ Q (.int ns.sum) H
def rMaxH : List V → Hp → VK → Prop := fun xs H Q => ∃ (l : Addr) (ns : List Int), xs = [.ref l] ∧ H l = some (.lst (ns.map V.int)) ∧ 0 < ns.length ∧ ∀ M, M ∈ ns → (∀ a, a ∈ ns → a ≤ M) → Q (.int M) H
def rMinH : List V → Hp → VK → Prop := fun xs H Q => ∃ (l : Addr) (ns : List Int), xs = [.ref l] ∧ H l = some (.lst (ns.map V.int)) ∧ 0 < ns.length ∧ ∀ M, M ∈ ns → (∀ a, a ∈ ns → M ≤ a) → Q (.int M) H
def tRev (te ts : TE) : TE := fun σ H Q => te σ H fun x H1 => ts σ H1 fun y H2 => y = .int (-1) ∧ ∃ a xs, x = .ref a ∧ H2 a = some (.lst xs) ∧ ∀ p, H2 p = none → Q (.ref p) (upd H2 p (.lst xs.reverse))
end
end L2
set_option Elab.async false
set_option linter.all false
set_option maxRecDepth 100000
set_option maxHeartbeats 4000000
namespace L2
open PySem PySem.Spec PyProof.Rows
section
variable {K : PySem.W.Frag} {tl : TE} {ta : TA} {g : TG} {tb : TS} {D : Ends} {σ : L2.St} {H : Hp}
theorem tFor_list (h : tl σ H fun x H1 => ∃ a xs, x = .ref a ∧ H1 a = some (.lst xs) ∧ ∃ J : Nat → L2.St → Hp → Prop, J 0 σ H1 ∧
      (∀ k x σ' H', xs[k]? = some x → J k σ' H' → H' a = some (.lst xs) → g x σ' H' fun σ2 H2 => tb { D with nx := fun σ3 H3 => H3 a = some (.lst xs) ∧ J (k + 1) σ3 H3, ct := fun σ3 H3 => H3 a = some (.lst xs) ∧ J (k + 1) σ3 H3, bk := D.nx } σ2 H2) ∧
      ∀ σ' H', J xs.length σ' H' → H' a = some (.lst xs) → D.nx σ' H') (hm : ∀ (P Q : V → Hp → Prop), (∀ x H', P x H' → Q x H') → tl σ H P → tl σ H Q) : tFor (iList K tl) g tb D σ H := by
  refine hm _ _ ?_ h
  rintro x H1 ⟨a, xs, rfl, hx, J, j0, step, fin⟩
  refine ⟨a, rfl, ⟨xs, .of hx⟩, fun k m σ' H' => k ≤ xs.length ∧ m = xs.length - k ∧ H' a = some (.lst xs) ∧ J k σ' H', ⟨_, Nat.zero_le _, rfl, hx, j0⟩, ?_⟩
  rintro k m σ' H' ⟨hk, rfl, hx', j⟩
  by_cases e : k = xs.length
  · subst e
    exact .inl ⟨⟨xs, .of hx', Nat.le_refl _⟩, fin σ' H' j hx'⟩
  · have hlt : k < xs.length := by omega
    have e1 : xs[k]? = some xs[k] := List.getElem?_eq_getElem hlt
    refine .inr ⟨⟨xs, _, .of hx', e1⟩, fun σ3 H3 => H3 a = some (.lst xs) ∧ J (k + 1) σ3 H3, fun σ3 H3 ⟨z1, z2⟩ => ⟨xs.length - (k + 1), by omega, by omega, rfl, z1, z2⟩, ?_⟩
    rintro x H'' ⟨rfl, y⟩
    exact step k x σ' H'' (y xs (.of hx')) j hx'
theorem tFor_rng1 (h : ta σ H fun vs H1 => ∃ n : Nat, vs = [.int n] ∧ n < 2 ^ 61 ∧ ∃ J : Nat → L2.St → Hp → Prop, J 0 σ H1 ∧
      (∀ (k : Nat) σ' H', k < n → J k σ' H' → g (.int k) σ' H' fun σ2 H2 => tb { D with nx := J (k + 1), ct := J (k + 1), bk := D.nx } σ2 H2) ∧ ∀ σ' H', J n σ' H' → D.nx σ' H')
    (hm : ∀ (P Q : List V → Hp → Prop), (∀ x H', P x H' → Q x H') → ta σ H P → ta σ H Q) : tFor (iRng1 ta) g tb D σ H := by
  refine hm _ _ ?_ h
  rintro x H1 ⟨n, rfl, hn, J, j0, step, fin⟩
  refine ⟨n, rfl, by omega, by omega, ?_⟩
  rw [Int.toNat_natCast]
  refine ⟨fun k m σ' H' => k ≤ n ∧ m = n - k ∧ J k σ' H', ⟨_, Nat.zero_le _, rfl, j0⟩, ?_⟩
  rintro k m σ' H' ⟨hk, rfl, j⟩
  by_cases e : k = n
  · subst e
    exact .inl ⟨Nat.le_refl _, fin σ' H' j⟩
  · have hlt : k < n := by omega
    refine .inr ⟨hlt, J (k + 1), fun σ3 H3 z => ⟨n - (k + 1), by omega, by omega, rfl, z⟩, ?_⟩
    rintro x H'' ⟨rfl, rfl⟩
    rw [Int.zero_add]
    exact step k σ' H'' hlt j
end
end L2
set_option Elab.async false
set_option linter.all false
set_option maxRecDepth 100000
set_option maxHeartbeats 4000000
namespace L2
open PySem PySem.Spec PyProof.Rows
section
variable {X : Cx}
def tM (t : TE) : TE := fun σ H Q => ∃ R : VK, t σ H R ∧ ∀ x H', R x H' → Q x H'
def tMA (t : TA) : TA := fun σ H Q => ∃ R : List V → Hp → Prop, t σ H R ∧ ∀ x H', R x H' → Q x H'
theorem PE.mono {a : Expr} {t : TE} (h : PE X a t) : PE X a (tM t) := fun pins s σ H Q I ⟨R, h1, h2⟩ =>
  thn (h pins s σ H R I h1) fun v s' ⟨x, H', I', r, q⟩ => ⟨x, H', I', r, h2 x H' q⟩
theorem PA.mono {es : List Expr} {t : TA} (h : PA X es t) : PA X es (tMA t) := fun pos pins s σ H Q I ⟨R, h1, h2⟩ =>
  thn (h pos pins s σ H R I h1) fun v s' ⟨x, H', I', r, q⟩ => ⟨x, H', I', r, h2 x H' q⟩
theorem PE.imp {a : Expr} {t t' : TE} (h : PE X a t) (i : ∀ σ H Q, t' σ H Q → t σ H Q) : PE X a t' := fun pins s σ H Q I q => h pins s σ H Q I (i σ H Q q)
theorem tM_in {t : TE} {σ : L2.St} {H : Hp} {Q : VK} (h : t σ H Q) : tM t σ H Q := ⟨Q, h, fun _ _ q => q⟩
theorem tFor_listM {K : PySem.W.Frag} {tl : TE} {g : TG} {tb : TS} {D : Ends} {σ : L2.St} {H : Hp} (h : tl σ H fun x H1 => ∃ a xs, x = .ref a ∧ H1 a = some (.lst xs) ∧ ∃ J : Nat → L2.St → Hp → Prop, J 0 σ H1 ∧
      (∀ k x σ' H', xs[k]? = some x → J k σ' H' → H' a = some (.lst xs) → g x σ' H' fun σ2 H2 => tb { D with nx := fun σ3 H3 => H3 a = some (.lst xs) ∧ J (k + 1) σ3 H3, ct := fun σ3 H3 => H3 a = some (.lst xs) ∧ J (k + 1) σ3 H3, bk := D.nx } σ2 H2) ∧
      ∀ σ' H', J xs.length σ' H' → H' a = some (.lst xs) → D.nx σ' H') : tFor (iList K (tM tl)) g tb D σ H :=
  tFor_list (tM_in h) fun _ _ i ⟨R, a, b⟩ => ⟨R, a, fun x H' q => i x H' (b x H' q)⟩
theorem tFor_rngM {ta : TA} {g : TG} {tb : TS} {D : Ends} {σ : L2.St} {H : Hp} (h : ta σ H fun vs H1 => ∃ n : Nat, vs = [.int n] ∧ n < 2 ^ 61 ∧ ∃ J : Nat → L2.St → Hp → Prop, J 0 σ H1 ∧
      (∀ (k : Nat) σ' H', k < n → J k σ' H' → g (.int k) σ' H' fun σ2 H2 => tb { D with nx := J (k + 1), ct := J (k + 1), bk := D.nx } σ2 H2) ∧ ∀ σ' H', J n σ' H' → D.nx σ' H') : tFor (iRng1 (tMA ta)) g tb D σ H :=
  tFor_rng1 (ta := tMA ta) ⟨_, h, fun _ _ q => q⟩ fun _ _ i ⟨R, a, b⟩ => ⟨R, a, fun x H' q => i x H' (b x H' q)⟩
def tApp (to : TE) (t : TA) : TE := fun σ H Q => to σ H fun x H1 => ∃ l xs, x = .ref l ∧ H1 l = some (.lst xs) ∧ t σ H1 fun vs H2 => ∃ y ys, vs = [y] ∧ H2 l = some (.lst ys) ∧ ys.length < sizeLine ∧ Q .non (upd H2 l (.lst (ys ++ [y])))
theorem pe_app {o e : Expr} {to : TE} {t : TA} {apos cpos : Pos} (ho : PE X o to) (ha : PA X [e] t) (hb : attributeBase o "append" X.env (eval o X.env) = eval o X.env := by rfl)
    (hf : ((backTo cpos (starEach [e] X.env)).all (fun x => !x.1) && (backToKw cpos (keywordEach [] X.env)).all (fun x => x.1.isSome) && decide ([e].length + ([] : List Keyword).length + (if ([] : List Keyword).isEmpty then 0 else 1) < 30)) = true := by rfl)
    (hl : (apos.endLine == cpos.line) = true := by rfl) (hs : starEach [e] X.env = (false, eval e X.env) :: starEach [] X.env := by rfl) (hp : (backTo cpos (starEach [] X.env)).any (·.1) = false := by rfl) :
    PE X (.Call (.Attribute o "append" apos) [e] [] cpos) (tApp to t) := by
  refine (pe_bm PySem.F.plainAttrs_list PySem.F.slot_list_append PySem.F.type_list_append mt_append ho.mono ha.mono hb hf hl hs hp).imp fun σ H Q h => ?_
  refine ⟨_, h, ?_⟩
  rintro x H1 ⟨l, xs, rfl, hx, h2⟩
  refine ⟨.inl ⟨rfl, _, SqL.of hx⟩, _, h2, ?_⟩
  rintro vs H2 ⟨y, ys, rfl, hy, hz, q⟩
  exact ⟨l, ys, y, rfl, rfl, hy, hz, q⟩
def tClr (to : TE) : TE := fun σ H Q => to σ H fun x H1 => ∃ l xs, x = .ref l ∧ H1 l = some (.lst xs) ∧ Q .non (upd H1 l (.lst []))
def rListH : List V → Hp → VK → Prop := fun xs H Q => ∃ p ys, xs = [.ref p] ∧ H p = some (.lst ys) ∧ ∀ l, H l = none → Q (.ref l) (upd H l (.lst ys))
theorem call_listH : CallR X (.type "list") rListH := call_list_of.imp fun xs H Q ⟨p, ys, a, b, c⟩ => ⟨p, ys, a, .inl (.of b), c⟩
end
mutual
theorem canLay_int : ∀ ns : List Int, PyData.canLayAll0 (ns.map PyData.int) = true
  | [] => rfl
  | n :: ns => by
    rw [List.map_cons]; unfold PyData.canLayAll0
    rw [canLay_int ns]; rfl
end
def frD (f : Int × Int) : PyData := .tuple [.int f.1, .int f.2]
theorem canLay_fr : ∀ fs : List (Int × Int), PyData.canLayAll0 (fs.map frD) = true
  | [] => rfl
  | n :: ns => by
    rw [List.map_cons]; unfold PyData.canLayAll0
    rw [canLay_fr ns]; rfl
theorem depth_fr : ∀ fs : List (Int × Int), PyData.depthAll (fs.map frD) ≤ 1
  | [] => Nat.zero_le _
  | n :: ns => by
    rw [List.map_cons]; unfold PyData.depthAll
    have := depth_fr ns
    have e : PyData.depth (frD n) = 1 := rfl
    rw [e]; omega
theorem shaped_frs (fs : List (Int × Int)) : SeqAt.shaped (.list (fs.map frD)) = true := by
  have h1 : PyData.canLay0 (.list (fs.map frD)) = true := by unfold PyData.canLay0; exact canLay_fr fs
  have h2 : PyData.depth (.list (fs.map frD)) ≤ 64 := by unfold PyData.depth; have := depth_fr fs; omega
  unfold SeqAt.shaped
  rw [h1, decide_eq_true h2]; rfl
theorem eqv_frs (fs : List (Int × Int)) : PyData.eqv (.list (fs.map frD)) (.list (fs.map frD)) = true := by
  have h1 : PyData.canLay0 (.list (fs.map frD)) = true := by unfold PyData.canLay0; exact canLay_fr fs
  exact PySem.SeqAt.eqv_refl _ h1
def lvD (ns : List Int) (b : Int) : PyData := .tuple [.list (ns.map .int), .int b]
inductive FL (H : Hp) : List V → List (Int × Int) → Prop
  | nil : FL H [] []
  | cons {p : Addr} {f : Int × Int} {xs : List V} {fs : List (Int × Int)} : H p = some (.tup [.int f.1, .int f.2]) → FL H xs fs → FL H (.ref p :: xs) (f :: fs)
theorem FL.imp {H H' : Hp} (h : ∀ p a b, H p = some (.tup [.int a, .int b]) → H' p = some (.tup [.int a, .int b])) : ∀ {xs : List V} {fs : List (Int × Int)}, FL H xs fs → FL H' xs fs
  | _, _, .nil => .nil
  | _, _, .cons e t => .cons (h _ _ _ e) (FL.imp h t)
theorem FL.same {H H' : Hp} (S : Same H H') {xs : List V} {fs : List (Int × Int)} (h : FL H xs fs) : FL H' xs fs := h.imp fun p _ _ e => S p _ e
theorem FL.updL {H : Hp} {l : Addr} {ys zs : List V} (hl : H l = some (.lst ys)) {xs : List V} {fs : List (Int × Int)} (h : FL H xs fs) : FL (upd H l (.lst zs)) xs fs :=
  h.imp fun p _ _ e => (upd_ne (ne_of e hl (by intro z; cases z))).trans e
theorem FL.length {H : Hp} : ∀ {xs : List V} {fs : List (Int × Int)}, FL H xs fs → xs.length = fs.length
  | _, _, .nil => rfl
  | _, _, .cons _ t => by rw [List.length_cons, List.length_cons, FL.length t]
theorem FL.get {H : Hp} : ∀ {xs : List V} {fs : List (Int × Int)} {k : Nat} {x : V}, FL H xs fs → xs[k]? = some x → ∃ p f, x = .ref p ∧ fs[k]? = some f ∧ H p = some (.tup [.int f.1, .int f.2])
  | _, _, 0, _, .cons e t, h => by
    rw [List.getElem?_cons_zero] at h
    cases h
    exact ⟨_, _, rfl, rfl, e⟩
  | _ :: xs, _ :: fs, k + 1, x, .cons e t, h => by
    rw [List.getElem?_cons_succ] at h
    obtain ⟨p, f, h1, h2, h3⟩ := FL.get (k := k) t h
    exact ⟨p, f, h1, by rw [List.getElem?_cons_succ]; exact h2, h3⟩
theorem FL.append {H : Hp} : ∀ {xs ys : List V} {fs gs : List (Int × Int)}, FL H xs fs → FL H ys gs → FL H (xs ++ ys) (fs ++ gs)
  | _, _, _, _, .nil, h => h
  | _, _, _, _, .cons e t, h => .cons e (FL.append t h)
theorem FL.one {H : Hp} {p : Addr} {a b : Int} (h : H p = some (.tup [.int a, .int b])) : FL H [.ref p] [(a, b)] := .cons (f := (a, b)) h .nil
theorem FL.set {H : Hp} {p : Addr} {f : Int × Int} (e0 : H p = some (.tup [.int f.1, .int f.2])) : ∀ {xs : List V} {fs : List (Int × Int)} (k : Nat), FL H xs fs → FL H (xs.set k (.ref p)) (fs.set k f)
  | _, _, _, .nil => .nil
  | _, _, 0, .cons e t => .cons e0 t
  | _, _, k + 1, .cons e t => .cons e (FL.set e0 k t)
theorem FL.shows {H : Hp} : ∀ {xs : List V} {fs : List (Int × Int)}, FL H xs fs → ShowsAll H xs (fs.map frD)
  | _, _, .nil => .nil
  | _, _, .cons e t => .cons (.tup e (.cons (.int _) (.cons (.int _) .nil))) (FL.shows t)
end L2
set_option Elab.async false
set_option linter.all false
set_option maxRecDepth 100000
set_option maxHeartbeats 4000000
namespace L2
open PySem PySem.Spec PyProof.Rows
def Its (x : Str) : It := ⟨fun i _ => i < x.cps.size, fun i H v H' => H' = H ∧ ∃ c, x.cps[i]? = some c ∧ v = .str ⟨#[c]⟩, fun i _ => i = x.cps.size⟩
section
variable {X : Cx} {tg : Expr}
def iStr (te : TE) : TI := fun σ H R => te σ H fun v H1 => ∃ x, v = .str x ∧ R (Its x) H1
end
def cutS (x : Str) (lo hi : Option Int) : Str := ⟨((x.cps.toList.drop (HT.sIx x.length 0 lo)).take (HT.sIx x.length x.length hi - HT.sIx x.length 0 lo)).toArray⟩
def rSlS : V → Option Int → Option Int → Hp → VK → Prop := fun x lo hi H Q => ∃ y, x = .str y ∧ y.length ≤ sizeLine ∧ Q (.str (cutS y lo hi)) H
end L2
set_option Elab.async false
set_option linter.all false
set_option maxRecDepth 100000
set_option maxHeartbeats 4000000
namespace L2
open PySem PySem.Spec PyProof.Rows
def tDispS (tk tv : TE) : TE := fun σ H Q => ∀ p, H p = none → tk σ (upd H p (.dK [])) fun x H1 => ∃ i, x = .str i ∧ tv σ H1 fun y H2 => H2 p = some (.dK []) ∧ Q (.ref p) (upd H2 p (.dK [(.inr i, y)]))
section
variable {X : Cx}
def rAddS : R2 := fun x y H Q => ∃ i j, x = .str i ∧ y = .str j ∧ i.length + j.length ≤ sizeLine ∧ Q (.str (i ++ j)) H
def rLeS : R2 := fun x y H Q => ∃ i j, x = .str i ∧ y = .str j ∧ Q (.bl (!decide (j.cps.toList < i.cps.toList))) H
def rInS (neg : Bool) : R2 := fun x y H Q => ∃ i j, x = .str i ∧ y = .str j ∧ ∃ c, i = ⟨#[c]⟩ ∧ Q (.bl (if neg then !decide (c ∈ j.cps.toList) else decide (c ∈ j.cps.toList))) H
def rIntT : List V → Hp → VK → Prop := fun xs H Q => ∃ x n, xs = [.str x] ∧ x.length ≤ 640 ∧ PySem.intText? x = some n ∧ Q (.int n) H
theorem bools_are : ∀ {bs : List Bool} {us : List Value}, Vals (bs.map V.bl) us → ∀ (i : Nat) (v : Value), us[i]? = some v → ∃ b, bs[i]? = some b ∧ v = .bool b
  | [], _, .nil, i, v, h => by cases i <;> cases h
  | b :: bs, _, .cons r t, 0, v, h => by
    rw [List.getElem?_cons_zero] at h
    cases h
    exact ⟨b, rfl, r⟩
  | b :: bs, _, .cons r t, i + 1, v, h => by
    rw [List.getElem?_cons_succ] at h
    exact bools_are t i v h
def rAllH : List V → Hp → VK → Prop := fun xs H Q => ∃ (l : Addr) (bs : List Bool), xs = [.ref l] ∧ H l = some (.lst (bs.map V.bl)) ∧ Q (.bl (bs.all id)) H
theorem range_all_bools : ∀ bs : List Bool, ((List.range bs.length).all fun i => (bs[i]?).getD true) = bs.all id
  | [] => rfl
  | b :: bs => by
    rw [List.length_cons, List.range_succ_eq_map, List.all_cons, List.all_map, List.all_cons]
    have := range_all_bools bs
    simp only [Function.comp_def, List.getElem?_cons_succ, List.getElem?_cons_zero, Option.getD_some, id] at this ⊢
    rw [this]
theorem call_allH (hc : X.calm = true) : CallR X (.builtin "all") rAllH := by
  intro pins s σ H xs us Q I r h
  obtain ⟨l, bs, rfl, hl, q⟩ := h
  obtain ⟨u, rfl, ru⟩ := r.one
  cases ru
  obtain ⟨its, rv, p⟩ := I.lstIs hl
  have hlt : l < s.heap.objs.size := by obtain ⟨_, e, _⟩ := p; exact Heap.lt_size e
  refine call_all_walk (wpAny_pyIter_list p ?_)
  refine ⟨s.heap.objs.size, [s.heap.objs.size, l], [s.heap.objs.size], its.toArray.size, _, _, fun i => (bs[i]?).getD true, rfl, Walks.list (A := X.A.in1) (I.ok.hd hc) _ l (Nat.ne_of_lt hlt) its.toArray,
    ⟨⟨_, Heap.get?_push_size _ rfl, rfl, rfl⟩, p.push _⟩, fun i v s' Q' E' hP hQ => ?_, fun h' tk hk => ?_⟩
  · obtain ⟨b, e, rfl⟩ := bools_are rv i v (by simpa using hP)
    simp only [e, Option.getD_some] at hQ
    exact wpAny_truthy_bool hQ
  · have e : ((List.range its.toArray.size).all fun i => (bs[i]?).getD true) = bs.all id := by
      rw [List.size_toArray, ← rv.length, List.length_map]; exact range_all_bools bs
    refine ⟨.bl (bs.all id), H, I.kept (t' := tk) fun b o q => hk b o (fun hm => ?_) (Heap.get?_push_of_some _ q), ?_, q⟩
    · rw [List.mem_singleton.mp hm] at q
      exact Nat.lt_irrefl _ (Heap.lt_size q)
    · rw [e]; rfl
def rStarts : V → List V → Hp → VK → Prop := fun x vs H Q => ∃ a b, x = .str a ∧ vs = [.str b] ∧ Q (.bl (decide (0 + b.length ≤ a.length) && Builtin.Str.subAt a b 0)) H
def findV : List Nat → Int
  | i :: _ => (i : Int)
  | [] => -1
def rFind : V → List V → Hp → VK → Prop := fun x vs H Q => ∃ a b, x = .str a ∧ vs = [.str b] ∧ Q (.int (findV (Builtin.Str.occurrences a b 0 a.length 1))) H
def rSplit : V → List V → Hp → VK → Prop := fun x vs H Q => ∃ a b, x = .str a ∧ vs = [.str b] ∧ 1 ≤ b.length ∧ a.length < sizeLine ∧ ∀ p, H p = none → Q (.ref p) (upd H p (.lst ((Txt.split a b).map V.str)))
def tSM (r : V → List V → Hp → VK → Prop) (to : TE) (t : TA) : TE := fun σ H Q => to σ H fun x H1 => (∃ y, x = .str y) ∧ t σ H1 fun vs H2 => r x vs H2 Q
def rMulS : R2 := fun x y H Q => ∃ i n, x = .str i ∧ y = .int n ∧ i.length = 1 ∧ 0 ≤ n ∧ n ≤ 1000 ∧ ∀ z : Str, z.length ≤ n.toNat + 1 → Q (.str z) H
end
end L2
set_option Elab.async false
set_option linter.all false
set_option maxRecDepth 100000
set_option maxHeartbeats 4000000
namespace L2
open PySem PySem.Spec PyProof.Rows
def hid (y : Str) : Str := Str.ofString "?" ++ y
def shadG (xs : List Str) (N : List Str) : List Str := N.map fun y => if y ∈ xs then hid y else y
def Cx.compG (X : Cx) (N' : List Str) (scope : Scope) (xs : List Str) (C : Addr) (s₀ : Shared) (H₀ : Hp) (ex : List Addr) (pn : List (Addr × Obj)) : Cx :=
  { X with env := compEnvC scope (clOf X.env.cells scope.names []) C X.env, N := xs ++ N', s₀ := s₀, H₀ := H₀, outer := X.stack, ex := ex, fn := fun _ => false, pn := pn, xe := fun _ _ => False }
def PTs (X : Cx) (ifs : List Expr) (tc : TT) : Prop := ∀ (pins : List (Addr × Obj)) (s : Shared) (σ : L2.St) (H : Hp) (Q : Bool → Hp → Prop), Inv X pins σ H s → tc σ H Q →
  wpAny (model X.prog X.w) X.A (forIn ifs true fun c r => if r = true then do let ok ← isTrue c X.env (eval c X.env); pure (ForInStep.yield ok) else pure (ForInStep.yield r)) (fun b s' => ∃ H', Inv X pins σ H' s' ∧ Q b H') X.xe s
def tYes : TT := fun _ H Q => Q true H
theorem pts_nil {X : Cx} : PTs X [] tYes := fun _ _ _ H _ I q => wpAny_tests_nil ⟨H, I, q⟩
theorem pts_one {X : Cx} {c : Expr} {tc : TT} (h : PT X c tc) : PTs X [c] tc := fun pins s σ H Q I q => wpAny_tests_one (h pins s σ H Q I q)
def tCompG (wi : TI) (n : Nat) (gt : TG) (tc : TT) (te : TE) : TE := fun σ H Q => wi σ H fun J H1 => ∀ D, H1 D = none → ∃ W : Nat → Nat → List V → Hp → Prop, (∃ m, W 0 m [] (upd H1 D (.lst []))) ∧ ∀ i m ys Hc, W i m ys Hc →
  (J.stop i Hc ∧ Q (.ref D) Hc) ∨ (J.go i Hc ∧ ∀ x H', J.yld i Hc x H' → ∀ pre : L2.St, pre.length = n → gt x (pre ++ σ) H' fun σ2 H2 => ∃ pre' : L2.St, pre'.length = n ∧ σ2 = pre' ++ σ ∧ tc σ2 H2 fun b H3 =>
    match b with
    | true => te σ2 H3 fun y H4 => ys.length < sizeLine ∧ H4 D = some (.lst ys) ∧ ∃ m', m' < m ∧ W (i + 1) m' (ys ++ [y]) (upd H4 D (.lst (ys ++ [y])))
    | false => ∃ m', m' < m ∧ W (i + 1) m' ys H3)
section
variable {X : Cx} {elt iter : Expr} {pos : Pos} {scope : Scope} {wi : TI} {te : TE}
theorem compG_core {use : Option (Value → Sem Unit)} {post : Value → Shared → Prop} {Qv : VK} {pins : List (Addr × Obj)} {s : Shared} {σ : L2.St} {H : Hp} {pp : Pos} {xs N' : List Str} {tg : Expr} {ifs : List Expr} {gt : TG} {tc : TT} (hc : X.calm = true) (hsh : shadG xs X.N = N') (hN : (xs ++ N').Nodup) (hkind : scope.kind = .function) (hcell : ∀ y ∈ scope.names, y.2 ≠ .cell) (hnames : ∀ y ∈ scope.names, y.2 = .local → scope.names.lookup y.1 = some .local)
    (hfree : ∀ y ∈ scope.names, y.2 = .free → X.env.kindOf y.1 = some .cell ∨ X.env.kindOf y.1 = some .free) (hloc : ∀ y ∈ X.N, y ∉ xs → (relabel scope X.env).names.lookup y ≠ some .local) (hq : ∀ y ∈ X.N, y ∈ xs → (relabel scope X.env).names.lookup (hid y) = none) (hi : PI X tg iter wi)
    (hg : ∀ C s₀ H₀ ex pn, PG (X.compG N' scope xs C s₀ H₀ ex pn) tg gt) (ht : ∀ C s₀ H₀ ex pn, PTs (X.compG N' scope xs C s₀ H₀ ex pn) ifs tc) (he : ∀ C s₀ H₀ ex pn, PE (X.compG N' scope xs C s₀ H₀ ex pn) elt te) (hs : ∀ z, foldedSetIterable iter X.env z = pure z) (I : Inv X pins σ H s) (h : tCompG wi xs.length gt tc te σ H Qv)
    (endC : ∀ (C D : Addr) (Hc : Hp) (s6 : Shared) (m : Str → Option Value) (fl : Flow), s6.heap.Ns C m → Inv X pins σ Hc s6 → FpOk X pins Hc C → Qv (.ref D) Hc → compPost (model X.prog X.w) X.A X.xe use post (.ref D) C (.ok fl) s6) :
    wpAny (model X.prog X.w) X.A (comprehension (.ListComp elt [⟨tg, iter, ifs, 0⟩] scope pos) scope X.env pp (newList []) false (eval iter X.env) use) post X.xe s := by
  have hfr : ∀ y ∈ scope.names, y.2 = .free → ∃ c, X.env.cells.lookup y.1 = some c := fun y hy e => I.ok.has y.1 (hfree y hy e)
  refine wpAny_comprehension_free (use := use) (Q := post) rfl hs (closure_eq hfr) hkind hnames (thn (hi pins s σ H _ I h) fun v s1 h1 => thn h1 fun itv s2 h2 => ?_)
  obtain ⟨it, fp, tn, J, H2, e, I2, T, st2, f2, R⟩ := h2
  subst e
  have nD : H2 s2.heap.objs.size = none := I2.hok.fresh (Nat.le_refl _)
  obtain ⟨W, ⟨m0, w0⟩, turn⟩ := R s2.heap.objs.size nD
  refine wpAny_newObj_type ?_ (by show 0 ≤ sizeLine; exact Nat.zero_le _)
  have I3 : Inv X pins σ (upd H2 s2.heap.objs.size (.lst [])) { s2 with heap := s2.heap.push { cls := .type "list", dict := none, data := .seq ([] : List Value).toArray } } := I2.lnew (t' := s2.toks) (ys := []) (its := []) .nil (Nat.zero_le _)
  have oldT : ∀ b o, s2.heap.get? b = some o → (s2.heap.push { cls := .type "list", dict := none, data := .seq ([] : List Value).toArray }).get? b = some o := fun b o e => Heap.get?_push_of_some _ e
  generalize hs3 : ({ s2 with heap := s2.heap.push { cls := .type "list", dict := none, data := .seq ([] : List Value).toArray } } : Shared) = s3 at I3 ⊢
  have st3 : tn 0 s3.heap := T.keep _ _ _ st2 fun b _ o e => by rw [← hs3]; exact oldT b o e
  generalize hH3 : upd H2 s2.heap.objs.size (.lst []) = H3 at I3 w0
  have f3 : ∀ b ∈ fp, FpOk X pins H3 b := fun b hb => by
    obtain ⟨a1, a2⟩ := f2 b hb
    refine ⟨?_, a2⟩
    obtain ⟨o, e, _⟩ := T.obj _ _ st2 b hb
    rw [← hH3, upd_ne (Nat.ne_of_lt (Heap.lt_size e))]
    exact a1
  refine wpAny_newFunctionEnv hcell (by intro y hy; simp at hy) (fun g hns hsb => ?_) hkind
  have kg : ∀ b o, s3.heap.get? b = some o → g.get? b = some o := fun b o e => (hsb.2 b (Nat.ne_of_lt (Heap.lt_size e))).trans (Heap.get?_push_of_some _ e)
  have clm : ∀ {y : Str} {c : Addr}, (clOf X.env.cells scope.names []).lookup y = some c → X.env.cells.lookup y = some c := fun {y c} e => by
    rcases clOf_mem hfr (PySem.mem_of_lookup e) with z | z
    · cases z
    · exact z
  have kinds : ∀ {y : Str}, ((relabel scope X.env).names.lookup y = some .cell ∨ (relabel scope X.env).names.lookup y = some .free) → (X.env.kindOf y = some .cell ∨ X.env.kindOf y = some .free) ∧ ∃ c, (clOf X.env.cells scope.names []).lookup y = some c := fun {y} e => by
    have z := relabel_free e hcell
    obtain ⟨c, hc'⟩ := clOf_has (cells := X.env.cells) (acc := []) (.inl z)
    exact ⟨hfree _ z rfl, lookup_some_of_mem hc'⟩
  have lt3 : ∀ b ∈ fp, b < s3.heap.objs.size := fun b hb => by
    obtain ⟨o, e, _⟩ := T.obj _ _ st3 b hb
    exact Heap.lt_size e
  have nst : ∀ b ∈ fp, b ∉ frs X.stack := fun b hb => I3.nostk' (f3 b hb).2.1 (f3 b hb).2.2.1
  generalize hX : X.compG N' scope xs s3.heap.objs.size s3 H3 fp (X.pn ++ pins) = Y
  have ok' : Y.Ok := by
    subst hX
    exact ⟨I3.ok.mod, hkind, I3.ok.glob, I3.ok.blt, Nat.le_refl _, fun y z c h1 h2 => I3.ok.inj y z c (clm h1) (clm h2), fun y hy => (kinds hy).2, fun _ _ z => (nomatch z), I3.ok.hd, I3.ok.frames, .inl rfl,
      fun b hb => ⟨Nat.ne_of_lt (lt3 b hb), fun y c e => (f3 b hb).2.2.2.2.1 y c (clm e)⟩, I3.bs, Nat.le_trans I3.ok.bsz I3.sz, fun b o e hb => by
        rcases (f3 b hb).2.2.2.1 with z | z
        · exact I3.ok.noex b o e z
        · exact absurd (Nat.lt_of_lt_of_le (Nat.lt_of_lt_of_le (Heap.lt_size e) I3.ok.bsz) z) (Nat.lt_irrefl _), nst, I3.stack, I3.stkFree⟩
  have J4 : ∀ tk, Inv Y [] (List.replicate xs.length none ++ σ) H3 { s3 with heap := g, toks := tk } := fun tk => by
    subst hX
    refine ⟨ok', rfl, I3.bare, Un.kept kg, ⟨_, hns, fun i y v e1 e2 e3 => ?_⟩, fun y c e => ?_, I3.hok.fresh (Nat.le_refl _), fun y c e => I3.freeC y c (clm e), fun p hp => ?_, I3.hok.kept kg, ?_⟩
    · by_cases hin : i < xs.length
      · rw [List.getElem?_append_left (by rw [List.length_replicate]; exact hin), List.getElem?_replicate, if_pos hin] at e2
        cases e2
      · obtain ⟨j, rfl⟩ : ∃ j, i = xs.length + j := ⟨i - xs.length, by omega⟩
        have e0 : N'[j]? = some y := by
          have e1 : (xs ++ N')[xs.length + j]? = some y := e1
          rw [List.getElem?_append_right (by omega)] at e1
          rw [show xs.length + j - xs.length = j by omega] at e1
          exact e1
        have e2' : σ[j]? = some (some v) := by
          rw [List.getElem?_append_right (by rw [List.length_replicate]; omega), List.length_replicate] at e2
          rw [show xs.length + j - xs.length = j by omega] at e2
          exact e2
        rw [← hsh] at e0
        obtain ⟨y0, e1', ey⟩ : ∃ y0, X.N[j]? = some y0 ∧ (if y0 ∈ xs then hid y0 else y0) = y := by
          unfold shadG at e0
          rw [List.getElem?_map] at e0
          cases hz : X.N[j]? with
          | none => rw [hz] at e0; cases e0
          | some y0 => rw [hz] at e0; exact ⟨y0, rfl, Option.some.inj e0⟩
        have e3 : (relabel scope X.env).names.lookup y = some .local ∨ (relabel scope X.env).names.lookup y = some .cell ∨ (relabel scope X.env).names.lookup y = some .free := e3
        have ne : ¬ y0 ∈ xs := fun z => by
          rw [if_pos z] at ey
          subst ey
          rw [hq y0 (List.mem_of_getElem? e1') z] at e3
          rcases e3 with z | z | z <;> cases z
        rw [if_neg ne] at ey
        subst ey
        have e3' : (relabel scope X.env).names.lookup y0 = some .cell ∨ (relabel scope X.env).names.lookup y0 = some .free := by
          rcases e3 with z | z
          · exact absurd z (hloc y0 (List.mem_of_getElem? e1') ne)
          · exact z
        obtain ⟨kd, c, hcl⟩ := kinds e3'
        obtain ⟨m, _, hl⟩ := I3.loc
        obtain ⟨u, r, lk⟩ := hl j y0 v e1' e2' (.inr kd)
        refine ⟨u, r, .inr ⟨e3', c, hcl, ?_⟩⟩
        rcases lk with ⟨k1, _⟩ | ⟨_, c', q1, o, q2, q3⟩
        · exfalso
          have k1' : X.env.kindOf y0 = some .local := k1
          rcases kd with k2 | k2 <;> rw [k1'] at k2 <;> cases k2
        · rw [clm hcl] at q1
          cases q1
          exact ⟨o, kg _ _ q2, q3⟩
    · obtain ⟨v, o, q2, q3⟩ := I3.cell y c (clm e)
      exact ⟨v, o, kg _ _ q2, q3⟩
    · have hp' : p ∈ X.pn ++ pins := by simpa [Cx.compG] using hp
      obtain ⟨a1, a2, a3, a4, a5⟩ := I3.pin p hp'
      exact ⟨kg _ _ a1, a2, Nat.ne_of_lt (Heap.lt_size a1), I3.nostk' a3 a4, a5⟩
    · show (List.replicate xs.length none ++ σ).length = (xs ++ N').length
      have hln : N'.length = X.N.length := by rw [← hsh]; unfold shadG; rw [List.length_map]
      rw [List.length_append, List.length_replicate, List.length_append, I3.len, hln]
  have fpY : ∀ {Hc : Hp}, (∀ b ∈ fp, Hc b = none) → ∀ b ∈ fp, FpOk Y [] Hc b := fun {Hc} hn b hb => by
    subst hX
    exact ⟨hn b hb, Nat.ne_of_lt (lt3 b hb), nst b hb, .inl hb, fun y c e => (f3 b hb).2.2.2.2.1 y c (clm e), fun p hp => (f3 b hb).2.2.2.2.2 p (by simpa [Cx.compG] using hp)⟩
  have loop : ∀ s4 : Shared, s4 = { s3 with heap := g, toks := s3.toks + ([] : List (Str × Value)).length } →
      codeAny (model X.prog X.w) X.A (.compLoop (.ListComp elt [⟨tg, iter, ifs, 0⟩] scope pos) 0 (.ref it) (.ref s2.heap.objs.size) Y.env) (compPost (model X.prog X.w) X.A X.xe use post (.ref s2.heap.objs.size) s3.heap.objs.size) s4 := by
    rintro s4 rfl
    have YP : Y.prog = X.prog ∧ Y.w = X.w ∧ Y.K = X.K ∧ Y.calm = X.calm ∧ Y.A = X.A ∧ Y.env.locals = s3.heap.objs.size := by subst hX; exact ⟨rfl, rfl, rfl, rfl, rfl, rfl⟩
    obtain ⟨y1, y2, y3, y4, y5, y6⟩ := YP
    have he' : PE Y elt te := by subst hX; exact he _ _ _ _ _
    have hg' : PG Y tg gt := by subst hX; exact hg _ _ _ _ _
    have ht' : PTs Y ifs tc := by subst hX; exact ht _ _ _ _ _
    have xeY : Y.xe = fun _ _ => False := by subst hX; rfl
    have yb : ∀ {Hc : Hp} {w' : L2.St} {pn : List (Addr × Obj)} {s' : Shared}, Inv Y pn w' Hc s' → Un (frs X.stack) fp H3 Hc s3.heap s'.heap := fun {Hc w' pn s'} Z => by
      have := Z.base
      subst hX
      exact this
    have yos : ∀ {Hc : Hp} {w' : L2.St} {pn : List (Addr × Obj)} {s' : Shared}, Inv Y pn w' Hc s' → s'.os = s3.os := fun {Hc w' pn s'} Z => by
      have := Z.os
      subst hX
      exact this
    refine codeAny_loop rfl (fun n s' => ∃ i ys Hc, ∃ w' : L2.St, w'.length = xs.length ∧ Inv Y [] (w' ++ σ) Hc s' ∧ tn i s'.heap ∧ (∀ b ∈ fp, Hc b = none) ∧ W i n ys Hc) (fun n s5 hI => ?_) m0 ⟨0, [], H3, List.replicate xs.length none, List.length_replicate, J4 _, T.keep _ _ _ st3 fun b _ o e => kg b o e, fun b hb => (f3 b hb).1, w0⟩
    obtain ⟨i, ys, Hc, w', hw', Z, stc, frc, wc⟩ := hI
    show wpAny _ _ ((compTurn (.ListComp elt [⟨tg, iter, ifs, 0⟩] scope pos) 0 (.ref it) (.ref s2.heap.objs.size) Y.env).onRaise (fun z => do noteFrame z Y.env; theTreesLotGoes z)) _ _ s5
    refine wpAny_noted (wpAny_noRaise ?_)
    rw [compTurn_list]
    show wpAny (model X.prog X.w) X.A _ _ _ _
    rcases turn i n ys Hc wc with ⟨stop, qn⟩ | ⟨go, step⟩
    · have hd := T.done Y y1 y2 y3 (y4.trans hc) i [] s5 (w' ++ σ) Hc (fun _ _ => False) Z (fpY frc) stc stop
      rw [y5] at hd
      refine wpAny_bind (wpAny_standAt (wpAny_bind (thn hd fun r s6 ⟨hr, Z6⟩ => ?_)))
      subst hr
      refine wpAny_pure ?_
      obtain ⟨m, hn6, _⟩ := Z6.loc
      rw [y6] at hn6
      have u6 := yb Z6
      have hok : HOk X.prog X.w Hc s6.heap := by
        have z := Z6.hok
        rw [y1, y2] at z
        exact z
      have cn : Hc s3.heap.objs.size = none := by
        have z := Z6.free
        rw [y6] at z
        exact z
      have I6 : Inv X pins σ Hc s6 := I3.call' (s' := s6) (ch := fp) (yos Z6) u6 hok Z6.bare fun b hb => ⟨(f3 b hb).2.2.2.1, (f3 b hb).2.1, (f3 b hb).2.2.2.2.1, (f3 b hb).2.2.2.2.2⟩
      have fC : FpOk X pins Hc s3.heap.objs.size := I3.fpOk (Nat.le_refl _) cn
      exact endC _ _ Hc s6 m _ hn6 I6 fC qn
    · have hd := T.item Y y1 y2 y3 (y4.trans hc) i [] s5 (w' ++ σ) Hc (fun _ _ => False) Z (fpY frc) stc go
      rw [y5] at hd
      refine wpAny_bind (wpAny_standAt (wpAny_bind (thn hd fun r s6 ⟨u, hr, h6⟩ => ?_)))
      subst hr
      refine wpAny_bind (thn h6 fun _ s7 ⟨xv, H7, Z7, r7, yl, st7, fr7⟩ => ?_)
      have Z7' := Z7.pinned (fpY fr7) (T.obj _ _ st7)
      have hst := hg' _ s7 _ H7 xv u _ Z7' r7 (step xv H7 yl w' hw')
      rw [y1, y2, y5, xeY] at hst
      refine wpAny_bind (thn hst fun _ s8 ⟨σ8, H8, Z8, pre, hpre, e8, q8⟩ => ?_)
      subst e8
      have hte := ht' _ s8 _ H8 _ Z8 q8
      rw [y1, y2, y5, xeY] at hte
      have fin : ∀ {m' : Nat} {ys' : List V} {H9 : Hp} {s9 : Shared}, Inv Y ([] ++ pinsAt fp s7.heap) (pre ++ σ) H9 s9 → m' < n → W (i + 1) m' ys' H9 → ∃ m, m < n ∧ ∃ i ys Hc, ∃ w' : L2.St, w'.length = xs.length ∧ Inv Y [] (w' ++ σ) Hc s9 ∧ tn i s9.heap ∧ (∀ b ∈ fp, Hc b = none) ∧ W i m ys Hc := fun {m' ys' H9 s9} Z9 hm' w9 =>
        ⟨m', hm', i + 1, ys', H9, pre, hpre, Z9.unpinned, T.keep _ _ _ st7 fun b hb o e => (Z9.pin (b, o) (List.mem_append_right _ (List.mem_append_right _ (mem_pinsAt hb e)))).1, fun b hb => by
          obtain ⟨o, e, _⟩ := T.obj _ _ st7 b hb
          exact (Z9.pin (b, o) (List.mem_append_right _ (List.mem_append_right _ (mem_pinsAt hb e)))).2.1, w9⟩
      refine wpAny_bind (thn hte fun ok s9 ⟨H9, Z9, q9⟩ => ?_)
      cases ok with
      | false =>
        obtain ⟨m', hm', w9⟩ := q9
        exact wpAny_pure ⟨rfl, fin Z9 hm' w9⟩
      | true =>
        have hel := he' _ s9 _ H9 _ Z9 q9
        rw [y1, y2, y5, xeY] at hel
        refine wpAny_bind (wpAny_bind (thn hel fun ev s10 ⟨yv, H10, Z10, r10, hz, hD10, m', hm', w10⟩ => ?_))
        have hap := mt_append (X := Y) _ s10 _ H10 (.ref s2.heap.objs.size) [yv] (.ref s2.heap.objs.size) [ev] (fun _ Hf => Hf = upd H10 s2.heap.objs.size (.lst (ys ++ [yv]))) Z10 rfl (.cons r10 .nil) ⟨_, ys, yv, rfl, rfl, hD10, hz, rfl⟩
        rw [y1, y2, y5, xeY] at hap
        refine wpAny_bind (thn hap fun av s11 ⟨_, H11, Z11, _, e11⟩ => ?_)
        subst e11
        exact wpAny_pure (wpAny_pure ⟨rfl, fin Z11 hm' w10⟩)
  have henv : Y.env = compEnvC scope (clOf X.env.cells scope.names []) s3.heap.objs.size X.env := by subst hX; rfl
  rw [henv] at loop
  exact codeAny_compStart_list (loop _ rfl) (T.self _ 0 _ _ _ (T.keep _ _ _ st3 fun b _ o e => kg b o e) (loop _ rfl))
theorem pe_compG {xs N' : List Str} {tg : Expr} {ifs : List Expr} {gt : TG} {tc : TT} (hc : X.calm = true) (hsh : shadG xs X.N = N') (hN : (xs ++ N').Nodup) (hkind : scope.kind = .function) (hcell : ∀ y ∈ scope.names, y.2 ≠ .cell) (hnames : ∀ y ∈ scope.names, y.2 = .local → scope.names.lookup y.1 = some .local)
    (hfree : ∀ y ∈ scope.names, y.2 = .free → X.env.kindOf y.1 = some .cell ∨ X.env.kindOf y.1 = some .free) (hloc : ∀ y ∈ X.N, y ∉ xs → (relabel scope X.env).names.lookup y ≠ some .local) (hq : ∀ y ∈ X.N, y ∈ xs → (relabel scope X.env).names.lookup (hid y) = none) (hi : PI X tg iter wi)
    (hg : ∀ C s₀ H₀ ex pn, PG (X.compG N' scope xs C s₀ H₀ ex pn) tg gt) (ht : ∀ C s₀ H₀ ex pn, PTs (X.compG N' scope xs C s₀ H₀ ex pn) ifs tc) (he : ∀ C s₀ H₀ ex pn, PE (X.compG N' scope xs C s₀ H₀ ex pn) elt te) (hs : ∀ z, foldedSetIterable iter X.env z = pure z := by intro _; rfl) :
    PE X (.ListComp elt [⟨tg, iter, ifs, 0⟩] scope pos) (tCompG wi xs.length gt tc te) := by
  intro pins s σ H Q I h
  rw [eval_ListComp]
  exact compG_core hc hsh hN hkind hcell hnames hfree hloc hq hi hg ht he hs I h fun C D Hc s6 m fl hn I6 fC q => ⟨m, hn, fun h' hs' => ⟨.ref D, Hc, I6.turned (it := C) (h' := h') (t' := s6.toks) (fun b o hb e => (hs'.2 b hb).trans e) fC.1 fC.2.1 fC.2.2.2.1 fC.2.2.2.2.1 fC.2.2.2.2.2, rfl, q⟩⟩
end
end L2
set_option Elab.async false
set_option linter.all false
set_option maxRecDepth 100000
set_option maxHeartbeats 4000000
namespace L2
open PySem PySem.Spec PyProof.Rows
section
variable {X : Cx} {k : Nat} {f C : Addr} {fd : FuncData} {ps : List Str} {sp : Sp} {dvs : List V} {ds : List Value} {x m : Str} {p pos apos : Pos} {e o : Expr} {es : List Expr} {ta : TE} {t : TA} {Ex : Value → Option Addr → L2.St → Hp → Prop}
def tMethX (C : Addr) (m : Str) (sp : Sp) (dvs : List V) (Ex : Value → Option Addr → L2.St → Hp → Prop) (ta : TE) (t : TA) : TE := fun σ H Q => ta σ H fun x H1 => ∃ a dx fs, x = .ref a ∧ H1 a = some (.ins C dx fs) ∧ fs.lookup m = none ∧ t σ H1 fun vs H2 => sp (x :: (vs ++ dvs)) H2 Q fun C d H' => Ex C d σ H'
def tMakeX (C : Addr) (sp : Sp) (dvs : List V) (Ex : Value → Option Addr → L2.St → Hp → Prop) (t : TA) : TE := fun σ H Q => t σ H fun vs H1 => ∀ x dx, H1 x = none → H1 dx = none → dx ≠ x → sp (.ref x :: (vs ++ dvs)) (upd (upd H1 dx (.own x)) x (.ins C dx [])) (fun v H2 => v = .non ∧ Q (.ref x) H2) fun C d H' => Ex C d σ H'
end
end L2
set_option Elab.async false
set_option linter.all false
set_option maxRecDepth 100000
set_option maxHeartbeats 4000000
namespace L2
open PySem PySem.Spec PyProof.Rows
structure ByCls (K : PySem.W.Frag) (B : Addr) (m : Str) (f : Addr) : Prop where
  ga : PySem.W.specialIn K (.ref B) "__getattribute__" = some (some (.builtin "type.__getattribute__"))
  rd : PySem.W.readsIn K B (.type "type") = true
  at_ : PySem.W.findCls K (.ref B) (.type "type") m = some (.val (.ref f))
  hd : PySem.W.handedIn (.ref f) = true
  kp : PySem.W.keepIn K (.ref f) = true
section
variable {X : Cx} {k : Nat} {f B : Addr} {fd : FuncData} {ps : List Str} {sp : Sp} {dvs : List V} {ds : List Value} {x m : Str} {p pos apos : Pos} {e : Expr} {es : List Expr} {t : TA} {Ex : Value → Option Addr → L2.St → Hp → Prop}
end
end L2
set_option Elab.async false
set_option linter.all false
set_option maxRecDepth 100000
set_option maxHeartbeats 4000000
namespace L2
open PySem PySem.Spec PyProof.Rows
section
variable {κ : Type} [DecidableEq κ]
def valV (kvs : List (κ × V)) (k : κ) : Option V := (kvs.find? fun kv => decide (kv.1 = k)).map (·.2)
def putK (kvs : List (κ × V)) (k : κ) (v : V) : List (κ × V) :=
  if (kvs.any fun kv => decide (kv.1 = k)) = true then kvs.map (fun kv => if kv.1 = k then (kv.1, v) else kv) else kvs ++ [(k, v)]
def dropK (kvs : List (κ × V)) (k : κ) : List (κ × V) := kvs.filter fun kv => decide (kv.1 ≠ k)
end
section
variable {P : Program} {w : World} {H : Hp} {h : Heap} {a : Addr}
end
def DGet (H : Hp) (a : Addr) (y : V) (r : Option V) : Prop :=
  (∃ kvs k, Rd H a (.dK kvs) ∧ y = kV k ∧ r = valV kvs k) ∨ False
def DPut (H : Hp) (a : Addr) (y v : V) (H' : Hp) : Prop :=
  (∃ kvs k, H a = some (.dK kvs) ∧ y = kV k ∧ kvs.length < sizeLine ∧ H' = upd H a (.dK (putK kvs k v))) ∨ False
section
variable {X : Cx} {pins : List (Addr × Obj)} {σ : St} {H : Hp} {s : Shared} {a : Addr} {y v : V} {u r : Value} {o : Option V} {A : Around} {E : Value → Shared → Prop}
end
section
variable {X : Cx} {pins : List (Addr × Obj)} {σ : St} {H : Hp} {s : Shared} {a : Addr} {kvs : List (Key × V)} {k : Key} {u : Value} {A : Around} {E : Value → Shared → Prop}
end
def NoSl (i : Expr) : Prop := ∀ ov iv, subscripted i false ov iv = operate [ov, iv] (getItem ov iv)
def tDGet (td ty : TE) : TE := fun σ H Q => td σ H fun x H1 => ty σ H1 fun y H2 => ∃ a v, x = .ref a ∧ DGet H2 a y (some v) ∧ Q v H2
def tDIn (ty td : TE) : TE := fun σ H Q => ty σ H fun y H1 => td σ H1 fun x H2 => ∃ a o, x = .ref a ∧ DGet H2 a y o ∧ Q (.bl o.isSome) H2
def tDNotIn (ty td : TE) : TE := fun σ H Q => ty σ H fun y H1 => td σ H1 fun x H2 => ∃ a o, x = .ref a ∧ DGet H2 a y o ∧ Q (.bl (!o.isSome)) H2
def sDPut (td ty tv : TE) : TS := fun D σ H => tv σ H fun v H1 => td σ H1 fun x H2 => ty σ H2 fun y H3 => ∃ a H4, x = .ref a ∧ DPut H3 a y v H4 ∧ D.nx σ H4
def sDAug (td ty tv : TE) (rd : V → V → Hp → VK → Prop) : TS := fun D σ H => td σ H fun x H1 => ty σ H1 fun y H2 => ∃ a v, x = .ref a ∧ DGet H2 a y (some v) ∧
  tv σ H2 fun y2 H3 => rd v y2 H3 fun z H4 => ∃ H5, DPut H4 a y z H5 ∧ D.nx σ H5
def sDDel (td ty : TE) : TS := fun D σ H => td σ H fun x H1 => ty σ H1 fun y H2 => ∃ a kvs k, x = .ref a ∧ H2 a = some (.dK kvs) ∧ y = kV k ∧ (valV kvs k).isSome = true ∧ D.nx σ (upd H2 a (.dK (dropK kvs k)))
section
variable {X : Cx} {o i e value : Expr} {pos pos' tpos : Pos} {td ty tv : TE}
end
def tDNewK : TE := fun _ H Q => ∀ p, H p = none → Q (.ref p) (upd H p (.dK []))
section
variable {X : Cx} {pos : Pos}
end
def tPairs : List (TE × TE) → St → Hp → (List (V × V) → Hp → Prop) → Prop
  | [], _, H, Q => Q [] H
  | (tk, tv) :: r, σ, H, Q => tk σ H fun x H1 => tv σ H1 fun y H2 => tPairs r σ H2 fun ps H3 => Q ((x, y) :: ps) H3
abbrev VV : List (V × V) → List (Value × Value) → Prop := Paired fun p q => RelV p.1 q.1 ∧ RelV p.2 q.2
def PPs (X : Cx) (pos : Pos) (keys : List (Option Expr)) (values : List Expr) (trs : List (TE × TE)) : Prop :=
  ∀ (pins : List (Addr × Obj)) (s : Shared) (σ : St) (H : Hp) (Q : List (V × V) → Hp → Prop), Inv X pins σ H s → tPairs trs σ H Q →
    wpAny (model X.prog X.w) X.A (evalPairs (pairTrees keys values X.env pos)) (fun vs s' => ∃ ps H', Inv X pins σ H' s' ∧ VV ps vs ∧ Q ps H') X.xe s
def mergeK (kvs more : List (Key × V)) : List (Key × V) := more.foldl (fun acc kv => putK acc kv.1 kv.2) kvs
def tDisp (trs : List (TE × TE)) : TE := fun σ H Q => ∀ p, H p = none → tPairs trs σ (upd H p (.dK [])) fun ps H2 => H2 p = some (.dK []) ∧ ∃ kvs : List (Key × V), ps = kvs.map (fun kv => (kV kv.1, kv.2)) ∧ kvs.length ≤ 15 ∧ Q (.ref p) (upd H2 p (.dK (mergeK [] kvs)))
structure M1 (X : Cx) (o : Expr) (m : Str) (apos : Pos) (e : Expr) (cpos : Pos) : Prop where
  base : attributeBase o m X.env (eval o X.env) = eval o X.env
  few : ((backTo cpos (starEach [e] X.env)).all (fun x => !x.1) && (backToKw cpos (keywordEach [] X.env)).all (fun x => x.1.isSome)
    && decide (([e] : List Expr).length + ([] : List Keyword).length + (if ([] : List Keyword).isEmpty then 0 else 1) < 30)) = true
  line : (apos.endLine == cpos.line) = true
  trees : backTo cpos (starEach [e] X.env) = [(false, eval e X.env)]
structure M2 (X : Cx) (o : Expr) (m : Str) (apos : Pos) (e f : Expr) (cpos : Pos) : Prop where
  base : attributeBase o m X.env (eval o X.env) = eval o X.env
  few : ((backTo cpos (starEach [e, f] X.env)).all (fun x => !x.1) && (backToKw cpos (keywordEach [] X.env)).all (fun x => x.1.isSome)
    && decide (([e, f] : List Expr).length + ([] : List Keyword).length + (if ([] : List Keyword).isEmpty then 0 else 1) < 30)) = true
  line : (apos.endLine == cpos.line) = true
  trees : backTo cpos (starEach [e, f] X.env) = [(false, eval e X.env), (false, eval f X.env)]
def IsD (H : Hp) (a : Addr) : Prop := (∃ kvs, Rd H a (.dK kvs)) ∨ False
section
variable {X : Cx} {pins : List (Addr × Obj)} {σ : St} {H : Hp} {s : Shared} {a : Addr} {y d : V} {u r : Value} {o : Option V} {A : Around} {E : Value → Shared → Prop}
end
def tDGet1 (td ty : TE) : TE := fun σ H Q => td σ H fun x H1 => ∃ a, x = .ref a ∧ IsD H1 a ∧ ty σ H1 fun y H2 => ∃ o, DGet H2 a y o ∧ Q (o.getD .non) H2
def tDGet2 (td ty tx : TE) : TE := fun σ H Q => td σ H fun x H1 => ∃ a, x = .ref a ∧ IsD H1 a ∧ ty σ H1 fun y H2 => tx σ H2 fun z H3 => ∃ o, DGet H3 a y o ∧ Q (o.getD z) H3
def tDPop1 (td ty : TE) : TE := fun σ H Q => td σ H fun x H1 => ∃ a, x = .ref a ∧ IsD H1 a ∧ ty σ H1 fun y H2 => ∃ kvs k v, H2 a = some (.dK kvs) ∧ y = kV k ∧ valV kvs k = some v ∧ Q v (upd H2 a (.dK (dropK kvs k)))
def tDPop2 (td ty tx : TE) : TE := fun σ H Q => td σ H fun x H1 => ∃ a, x = .ref a ∧ IsD H1 a ∧ ty σ H1 fun y H2 => tx σ H2 fun z H3 => ∃ kvs k, H3 a = some (.dK kvs) ∧ y = kV k ∧
  (∀ v, valV kvs k = some v → Q v (upd H3 a (.dK (dropK kvs k)))) ∧ (valV kvs k = none → Q z H3)
section
variable {X : Cx} {o e f : Expr} {apos cpos : Pos} {td ty tx : TE}
end
section
variable {X : Cx} {pins : List (Addr × Obj)} {σ : St} {H : Hp} {s : Shared} {a : Addr} {kvs : List (Key × V)} {A : Around} {E : Value → Shared → Prop}
end
section
variable {X : Cx} {pins : List (Addr × Obj)} {σ : St} {H : Hp} {s : Shared} {a : Addr} {y : V} {u : Value} {A : Around} {E : Value → Shared → Prop}
end
section
variable {κ : Type} [DecidableEq κ]
end
end L2
set_option Elab.async false
set_option linter.all false
set_option maxRecDepth 100000
set_option maxHeartbeats 4000000
namespace L2
open PySem PySem.Spec PyProof.Rows
def Itk (a : Addr) (o : Obj) (kvs : List (Key × V)) : It := ⟨fun i H => H a = some (.frz o (.dK kvs)) ∧ i < kvs.length, fun i H v H' => H' = H ∧ ∃ k y, kvs[i]? = some (k, y) ∧ v = kV k, fun i H => H a = some (.frz o (.dK kvs)) ∧ i = kvs.length⟩
section
variable {X : Cx} {tg : Expr}
def iDict (te : TE) : TI := fun σ H R => te σ H fun x H1 => ∃ a kvs, x = .ref a ∧ H1 a = some (.dK kvs) ∧ ∀ o, R (Itk a o kvs) (upd H1 a (.frz o (.dK kvs)))
def tMG (g : TG) : TG := fun v σ H Q => ∃ R : L2.St → Hp → Prop, g v σ H R ∧ ∀ σ' H', R σ' H' → Q σ' H'
def tMT (t : TT) : TT := fun σ H Q => ∃ R : Bool → Hp → Prop, t σ H R ∧ ∀ b H', R b H' → Q b H'
theorem PG.mono {e : Expr} {g : TG} (h : PG X e g) : PG X e (tMG g) := fun pins s σ H v u Q I r ⟨R, h1, h2⟩ => thn (h pins s σ H v u R I r h1) fun _ s' ⟨σ', H', I', q⟩ => ⟨σ', H', I', h2 σ' H' q⟩
theorem PTs.mono {ifs : List Expr} {t : TT} (h : PTs X ifs t) : PTs X ifs (tMT t) := fun pins s σ H Q I ⟨R, h1, h2⟩ => thn (h pins s σ H R I h1) fun b s' ⟨H', I', q⟩ => ⟨H', I', h2 b H' q⟩
theorem pe_compGF {elt iter tg : Expr} {pos : Pos} {scope : Scope} {wi : TI} {te : TE} {ifs : List Expr} {gt : TG} {tc : TT} (sc : Scope) (N N' xs : List Str) (hsc : X.env.scope = sc) (hNN : X.N = N) (hc : X.calm = true) (hsh : shadG xs N = N') (hN : (xs ++ N').Nodup) (hkind : scope.kind = .function) (hcell : ∀ y ∈ scope.names, y.2 ≠ .cell)
    (hnames : ∀ y ∈ scope.names, y.2 = .local → scope.names.lookup y.1 = some .local) (hfree : ∀ y ∈ scope.names, y.2 = .free → sc.names.lookup y.1 = some .cell ∨ sc.names.lookup y.1 = some .free)
    (hloc : ∀ y ∈ N, y ∉ xs → (scope.names.map fun (n, k) => if (k == NameKind.free && sc.kind == .function && sc.names.lookup n == some .cell) then (n, NameKind.cell) else (n, k)).lookup y ≠ some .local)
    (hq : ∀ y ∈ N, y ∈ xs → (scope.names.map fun (n, k) => if (k == NameKind.free && sc.kind == .function && sc.names.lookup n == some .cell) then (n, NameKind.cell) else (n, k)).lookup (hid y) = none) (hi : PI X tg iter wi)
    (hg : ∀ C s₀ H₀ ex pn, PG (X.compG N' scope xs C s₀ H₀ ex pn) tg gt) (ht : ∀ C s₀ H₀ ex pn, PTs (X.compG N' scope xs C s₀ H₀ ex pn) ifs tc) (he : ∀ C s₀ H₀ ex pn, PE (X.compG N' scope xs C s₀ H₀ ex pn) elt te) (hs : ∀ z, foldedSetIterable iter X.env z = pure z := by intro _; rfl) :
    PE X (.ListComp elt [⟨tg, iter, ifs, 0⟩] scope pos) (tCompG wi xs.length (tMG gt) (tMT tc) (tM te)) := by
  subst hsc hNN
  exact pe_compG hc hsh hN hkind hcell hnames hfree hloc hq hi (fun C s₀ H₀ ex pn => (hg C s₀ H₀ ex pn).mono) (fun C s₀ H₀ ex pn => (ht C s₀ H₀ ex pn).mono) (fun C s₀ H₀ ex pn => (he C s₀ H₀ ex pn).mono) hs
def tTurn (n : Nat) (gt : TG) (tc : TT) (te : TE) (x : V) (σ : L2.St) (H : Hp) (Y : VK) (No : Hp → Prop) : Prop := ∀ pre : L2.St, pre.length = n → gt x (pre ++ σ) H fun σ2 H2 => ∃ pre' : L2.St, pre'.length = n ∧ σ2 = pre' ++ σ ∧ tc σ2 H2 fun b H3 =>
  match b with
  | true => te σ2 H3 Y
  | false => No H3
theorem tTurn.weak {n : Nat} {gt : TG} {tc : TT} {te : TE} {x : V} {σ : L2.St} {H : Hp} {Y Y' : VK} {No No' : Hp → Prop} (h : tTurn n gt tc te x σ H Y No) (h1 : ∀ y H', Y y H' → Y' y H') (h2 : ∀ H', No H' → No' H') : tTurn n (tMG gt) (tMT tc) (tM te) x σ H Y' No' := fun pre hp =>
  ⟨_, h pre hp, fun σ2 H2 ⟨pre', e1, e2, q⟩ => ⟨pre', e1, e2, _, q, fun b H3 z => match b, z with
    | true, z => ⟨_, z, h1⟩
    | false, z => h2 H3 z⟩⟩
end
end L2
set_option Elab.async false
set_option linter.all false
set_option maxRecDepth 100000
set_option maxHeartbeats 4000000
namespace L2
open PySem PySem.Spec PyProof.Rows
theorem Same.tup {K : PySem.W.Frag} {H H' : Hp} {a : Addr} {xs : List V} (e : Same H H') (h : SqT K H a xs) : SqT K H' a xs := by
  rcases h with (h | ⟨o, h⟩) | h
  · exact .inl (.inl (e _ _ h))
  · exact .inl (.inr ⟨o, e _ _ h⟩)
  · exact .inr h
mutual
inductive ShowsK (K : PySem.W.Frag) (H : Hp) : V → PyData → Prop
  | non : ShowsK K H .non .none
  | bl (b : Bool) : ShowsK K H (.bl b) (.bool b)
  | int (i : Int) : ShowsK K H (.int i) (.int i)
  | str (x : Str) : ShowsK K H (.str x) (.str x)
  | lst {a : Addr} {xs : List V} {ds : List PyData} : H a = some (.lst xs) → ShowsAllK K H xs ds → ShowsK K H (.ref a) (.list ds)
  | tup {a : Addr} {xs : List V} {ds : List PyData} : SqT K H a xs → ShowsAllK K H xs ds → ShowsK K H (.ref a) (.tuple ds)
inductive ShowsAllK (K : PySem.W.Frag) (H : Hp) : List V → List PyData → Prop
  | nil : ShowsAllK K H [] []
  | cons {x : V} {xs : List V} {d : PyData} {ds : List PyData} : ShowsK K H x d → ShowsAllK K H xs ds → ShowsAllK K H (x :: xs) (d :: ds)
end
mutual
theorem ShowsK.same {K : PySem.W.Frag} {H H' : Hp} (S : Same H H') : ∀ {x : V} {d : PyData}, ShowsK K H x d → ShowsK K H' x d
  | _, _, .non => .non
  | _, _, .bl b => .bl b
  | _, _, .int i => .int i
  | _, _, .str x => .str x
  | _, _, .lst e h => .lst (S _ _ e) (ShowsAllK.same S h)
  | _, _, .tup e h => .tup (S.tup e) (ShowsAllK.same S h)
theorem ShowsAllK.same {K : PySem.W.Frag} {H H' : Hp} (S : Same H H') : ∀ {xs : List V} {ds : List PyData}, ShowsAllK K H xs ds → ShowsAllK K H' xs ds
  | _, _, .nil => .nil
  | _, _, .cons h t => .cons (ShowsK.same S h) (ShowsAllK.same S t)
end
section
variable {X : Cx} {pins : List (Addr × Obj)} {σ : L2.St} {H : Hp} {s : Shared}
mutual
theorem Inv.readsK (I : Inv X pins σ H s) : ∀ {x : V} {d : PyData} {v : Value}, ShowsK X.K H x d → RelV x v → ∃ as, Reads s.heap v d as
  | _, _, _, .non, r => by cases r; exact ⟨_, .none⟩
  | _, _, _, .bl b, r => by cases r; exact ⟨_, .bool b⟩
  | _, _, _, .int i, r => by obtain ⟨t, rfl⟩ := r; exact ⟨_, .int i t⟩
  | _, _, _, .str x, r => by obtain ⟨t, rfl⟩ := r; exact ⟨_, .str x t⟩
  | _, _, _, .lst e h, r => by
    cases r
    obtain ⟨its, rv, ⟨o, ho, hc, n, hd⟩⟩ := I.lstIs e
    obtain ⟨as, q⟩ := Inv.readsAllK I h rv
    exact ⟨_, .list ho hc hd q⟩
  | _, _, _, .tup e h, r => by
    cases r
    obtain ⟨its, rv, ⟨o, ho, hc, n, hd⟩, _⟩ := I.tuple e
    obtain ⟨as, q⟩ := Inv.readsAllK I h rv
    exact ⟨_, .tuple ho hc hd q⟩
theorem Inv.readsAllK (I : Inv X pins σ H s) : ∀ {xs : List V} {ds : List PyData} {vs : List Value}, ShowsAllK X.K H xs ds → Vals xs vs → ∃ as, ReadsAll s.heap vs ds as
  | _, _, _, .nil, r => by cases r; exact ⟨_, .nil⟩
  | _, _, _, .cons h t, r => by
    cases r with
    | cons r1 r2 =>
      obtain ⟨a, q1⟩ := Inv.readsK I h r1
      obtain ⟨b, q2⟩ := Inv.readsAllK I t r2
      exact ⟨_, .cons q1 q2⟩
end
def rEqK (K : PySem.W.Frag) (neg : Bool) : R2 := fun x y H Q => ∃ d e, ShowsK K H x d ∧ ShowsK K H y e ∧ SeqAt.shaped d = true ∧ SeqAt.shaped e = true ∧ Q (.bl (if neg then !PyData.eqv d e else PyData.eqv d e)) H
theorem op_neK (hu : X.A.units + 64 < cLine) : OpR X (compareOp .NotEq) (rEqK X.K true) := by
  intro pins s σ H x y v u Q I rx ry h
  obtain ⟨d, e, hd, he, sd, se, q⟩ := h
  obtain ⟨as, ra⟩ := I.readsK hd rx
  obtain ⟨bs, rb⟩ := I.readsK he ry
  exact SeqAt.compareNe_shaped ra rb sd se hu ⟨.bl _, H, I, rfl, q⟩
end
section
variable {X : Cx}
def rLenK (K : PySem.W.Frag) : List V → Hp → VK → Prop := fun xs H Q => ∃ p ys, xs = [.ref p] ∧ SqT K H p ys ∧ Q (.int ys.length) H
def rIsiTup (K : PySem.W.Frag) : List V → Hp → VK → Prop := fun xs H Q => ∃ p T ys, xs = [.ref p, .ty T] ∧ T ∈ ["bool", "int", "str", "list", "tuple", "dict"] ∧ SqT K H p ys ∧ Q (.bl (subS "tuple" T)) H
end
end L2
set_option Elab.async false
set_option linter.all false
set_option maxRecDepth 100000
set_option maxHeartbeats 4000000
namespace L2
open PySem PySem.Spec PyProof.Rows
def OkI (P : Program) (w : World) (K : PySem.W.Frag) (mg : Str → Option Value) (base : Heap) (CX : CXT) (k : Nat) (f : Addr) (ps : List Str) (sp : Sp) : Prop := ∃ fd, FnOk P w K mg base CX k f fd ps sp ∧ Binds K fd ps []
def HasI (K : PySem.W.Frag) (x qual : Str) (st : Stmt) (ps : List Str) (f : Addr) : Prop := ∃ fd, Fun K x qual st f fd ∧ ∀ us : List Value, us.length = ps.length → bindArgs fd ⟨us, []⟩ = pure (ps.zip us)
section
variable {X : Cx} {k : Nat} {f C B : Addr} {ps : List Str} {sp : Sp} {x m : Str} {p pos apos : Pos} {e o : Expr} {es : List Expr} {ta : TE} {t : TA} {Ex : Value → Option Addr → L2.St → Hp → Prop}
def tMakeI (C : Addr) (sp : Sp) (Ex : Value → Option Addr → L2.St → Hp → Prop) (t : TA) : TE := fun σ H Q => t σ H fun vs H1 => ∀ x dx, H1 x = none → H1 dx = none → dx ≠ x → sp (.ref x :: vs) (upd (upd H1 dx (.own x)) x (.ins C dx [])) (fun v H2 => v = .non ∧ Q (.ref x) H2) fun E d H' => Ex E d σ H'
def tMethI (C : Addr) (m : Str) (sp : Sp) (ta : TE) (t : TA) : TE := fun σ H Q => ta σ H fun x H1 => ∃ a dx fs, x = .ref a ∧ H1 a = some (.ins C dx fs) ∧ fs.lookup m = none ∧ t σ H1 fun vs H2 => sp (x :: vs) H2 Q E0
theorem pe_globT {D : Addr} {pos : Pos} (hg : Gl X x) (hm : X.mg x = some (.ref D)) (hd : (x == ("__debug__" : Str)) = false := by decide) : PE X (.Name x pos) (tC (.ref D)) := pe_glob hg hm rfl hd
end
theorem op_neKK {X : Cx} {K : PySem.W.Frag} (e : X.K = K) (hu : X.A.units + 64 < cLine) : OpR X (compareOp .NotEq) (rEqK K true) := e ▸ op_neK hu
end L2
set_option Elab.async false
set_option linter.all false
set_option maxRecDepth 100000
set_option maxHeartbeats 4000000
namespace L2
open PySem PySem.Spec PyProof.Rows
def Itp (a : Addr) (o : Obj) (kvs : List (Key × V)) : It := ⟨fun i H => H a = some (.frz o (.dK kvs)) ∧ i < kvs.length, fun i H v H' => ∃ k y t, kvs[i]? = some (k, y) ∧ H t = none ∧ v = .ref t ∧ H' = upd H t (.tup [kV k, y]), fun i H => H a = some (.frz o (.dK kvs)) ∧ i = kvs.length⟩
theorem push_back {h : Heap} {o ob : Obj} {b : Addr} (e : (h.push o).get? b = some ob) (hs : b ≠ h.objs.size) : h.get? b = some ob := by
  obtain ⟨e1, e2⟩ := Heap.get?_some_iff.mp e
  refine Heap.get?_some_iff.mpr ⟨?_, e2⟩
  cases h
  simpa [Heap.push, Array.getElem?_push, hs] using e1
section
variable {X : Cx}
def iItems (te : TE) : TI := fun σ H R => te σ H fun x H1 => ∃ a kvs, x = .ref a ∧ H1 a = some (.dK kvs) ∧ ∀ o, R (Itp a o kvs) (upd H1 a (.frz o (.dK kvs)))
end
section
variable {ta : TA} {te : TE} {σ : L2.St} {H : Hp} {Q : VK}
end
section
variable {X : Cx}
def rJoin : V → List V → Hp → VK → Prop := fun x vs H Q => ∃ a l ys, x = .str a ∧ vs = [.ref l] ∧ H l = some (.lst (ys.map V.str)) ∧ (ys.map (·.length)).sum + ys.length * a.length ≤ 16777216 ∧ Q (.str (Txt.join a ys)) H
structure InsK (K : PySem.W.Frag) (C : Addr) : Prop where
  ha : PySem.W.findIn K (.ref C) "__class__" = some (some (.builtin "object.__class__"))
  hn : PySem.W.specialIn K (.builtin "object.__class__") "__get__" = some (some (.builtin "getset_descriptor.__get__"))
  tk : PySem.W.takesIn K (.builtin "object.__class__") = some true
  hm : PySem.W.mroIn K C (.type "object") = some true
def rIsiC (K : PySem.W.Frag) : List V → Hp → VK → Prop := fun xs H Q => ∃ a D C dx fs b, xs = [.ref a, .ref D] ∧ H a = some (.ins C dx fs) ∧ Cls K C ∧ InsK K C ∧ PySem.W.kitOne K (.ref C) (.ref D) = some b ∧ Q (.bl b) H
def rMin2 : List V → Hp → VK → Prop := fun xs H Q => ∃ i j, xs = [.int i, .int j] ∧ Q (.int (if j < i then j else i)) H
def rMax2 : List V → Hp → VK → Prop := fun xs H Q => ∃ i j, xs = [.int i, .int j] ∧ Q (.int (if j > i then j else i)) H
end
end L2
set_option Elab.async false
set_option linter.all false
set_option maxRecDepth 100000
set_option maxHeartbeats 4000000
namespace L2
open PySem PySem.Spec PyProof.Rows
section
variable {X : Cx} {elt iter : Expr} {pos : Pos} {scope : Scope} {wi : TI} {te : TE}
theorem ps_compG {i0 : Nat} {y0 : Str} {py spos : Pos} {xs N' : List Str} {tg : Expr} {ifs : List Expr} {gt : TG} {tc : TT} (hc : X.calm = true) (hsh : shadG xs X.N = N') (hN : (xs ++ N').Nodup) (hkind : scope.kind = .function) (hcell : ∀ y ∈ scope.names, y.2 ≠ .cell) (hnames : ∀ y ∈ scope.names, y.2 = .local → scope.names.lookup y.1 = some .local)
    (hfree : ∀ y ∈ scope.names, y.2 = .free → X.env.kindOf y.1 = some .cell ∨ X.env.kindOf y.1 = some .free) (hloc : ∀ y ∈ X.N, y ∉ xs → (relabel scope X.env).names.lookup y ≠ some .local) (hq : ∀ y ∈ X.N, y ∈ xs → (relabel scope X.env).names.lookup (hid y) = none) (hi : PI X tg iter wi)
    (hg : ∀ C s₀ H₀ ex pn, PG (X.compG N' scope xs C s₀ H₀ ex pn) tg gt) (ht : ∀ C s₀ H₀ ex pn, PTs (X.compG N' scope xs C s₀ H₀ ex pn) ifs tc) (he : ∀ C s₀ H₀ ex pn, PE (X.compG N' scope xs C s₀ H₀ ex pn) elt te) (hgy : PG X (.Name y0 py) (gName i0)) (hsw : swapsWith (.ListComp elt [⟨tg, iter, ifs, 0⟩] scope pos) (some (.Name y0 py)) spos.line X.env = pure true) (hs : ∀ z, foldedSetIterable iter X.env z = pure z := by intro _; rfl) :
    PS X (.Assign [.Name y0 py] (.ListComp elt [⟨tg, iter, ifs, 0⟩] scope pos) spos) (tAsg (tCompG wi xs.length gt tc te) (gName i0)) := by
  intro pins s σ H D0 I h
  have h : tCompG wi xs.length gt tc te σ H (fun x H1 => gName i0 x σ H1 D0.nx) := h
  rw [exec_Assign_Name_used _ _ _ _ hsw]
  refine wpAny_bind (wpAny_standAt (wpAny_bind ?_))
  show wpAny _ X.A (comprehension (.ListComp elt [⟨tg, iter, ifs, 0⟩] scope pos) scope X.env _ (newList []) false (eval iter X.env) (some (assign (.Name y0 py) X.env)) >>= fun _ => _) _ _ s
  refine wpAny_bind (wpAny_mono (compG_core (use := some (assign (.Name y0 py) X.env)) (post := fun _ s' => SP X pins D0 .next s') hc hsh hN hkind hcell hnames hfree hloc hq hi hg ht he hs I h fun C D Hc s6 m fl hn6 I6 fC qn => ?_) (fun _ s' hq => wpAny_pure (wpAny_pure hq)) fun _ _ e => e)
  obtain ⟨oc, es, ep, ho, hdat, _⟩ := id hn6
  have I7 := I6.pinned (fp := [C]) (fun b hb => by rw [List.mem_singleton.mp hb]; exact fC) fun b hb => by
    rw [List.mem_singleton.mp hb]
    exact ⟨oc, ho, fun v z => by rw [hdat] at z; cases z⟩
  show wpAny _ X.A (assign (.Name y0 py) X.env _) _ _ s6
  refine thn (hgy _ s6 σ Hc (.ref D) _ D0.nx I7 rfl qn) fun _ s7 ⟨σ7, H7, Z7, q7⟩ => ?_
  have pn7 := Z7.pin (C, oc) (List.mem_append_right _ (List.mem_append_right _ (mem_pinsAt (by simp) ho)))
  refine ⟨m, hn6.at' fun o e => ?_, fun h' hs' => ⟨σ7, H7, Z7.unpinned.turned (it := C) (h' := h') (t' := s7.toks) (fun b o hb e => (hs'.2 b hb).trans e) pn7.2.1 fC.2.1 fC.2.2.2.1 fC.2.2.2.2.1 fC.2.2.2.2.2, q7⟩⟩
  rw [ho] at e
  cases e
  exact pn7.1
theorem ps_compGF {i0 : Nat} {y0 : Str} {py spos : Pos} {elt iter tg : Expr} {pos : Pos} {scope : Scope} {wi : TI} {te : TE} {ifs : List Expr} {gt : TG} {tc : TT} (sc : Scope) (N N' xs : List Str) (hsc : X.env.scope = sc) (hNN : X.N = N) (hc : X.calm = true) (hsh : shadG xs N = N') (hN : (xs ++ N').Nodup) (hkind : scope.kind = .function) (hcell : ∀ y ∈ scope.names, y.2 ≠ .cell)
    (hnames : ∀ y ∈ scope.names, y.2 = .local → scope.names.lookup y.1 = some .local) (hfree : ∀ y ∈ scope.names, y.2 = .free → sc.names.lookup y.1 = some .cell ∨ sc.names.lookup y.1 = some .free)
    (hloc : ∀ y ∈ N, y ∉ xs → (scope.names.map fun (n, k) => if (k == NameKind.free && sc.kind == .function && sc.names.lookup n == some .cell) then (n, NameKind.cell) else (n, k)).lookup y ≠ some .local)
    (hq : ∀ y ∈ N, y ∈ xs → (scope.names.map fun (n, k) => if (k == NameKind.free && sc.kind == .function && sc.names.lookup n == some .cell) then (n, NameKind.cell) else (n, k)).lookup (hid y) = none) (hi : PI X tg iter wi)
    (hg : ∀ C s₀ H₀ ex pn, PG (X.compG N' scope xs C s₀ H₀ ex pn) tg gt) (ht : ∀ C s₀ H₀ ex pn, PTs (X.compG N' scope xs C s₀ H₀ ex pn) ifs tc) (he : ∀ C s₀ H₀ ex pn, PE (X.compG N' scope xs C s₀ H₀ ex pn) elt te) (hgy : PG X (.Name y0 py) (gName i0)) (hsw : swapsWith (.ListComp elt [⟨tg, iter, ifs, 0⟩] scope pos) (some (.Name y0 py)) spos.line X.env = pure true := by rfl) (hs : ∀ z, foldedSetIterable iter X.env z = pure z := by intro _; rfl) :
    PS X (.Assign [.Name y0 py] (.ListComp elt [⟨tg, iter, ifs, 0⟩] scope pos) spos) (tAsg (tCompG wi xs.length (tMG gt) (tMT tc) (tM te)) (gName i0)) := by
  subst hsc hNN
  exact ps_compG hc hsh hN hkind hcell hnames hfree hloc hq hi (fun C s₀ H₀ ex pn => (hg C s₀ H₀ ex pn).mono) (fun C s₀ H₀ ex pn => (ht C s₀ H₀ ex pn).mono) (fun C s₀ H₀ ex pn => (he C s₀ H₀ ex pn).mono) hgy hsw hs
theorem turn1 {te : TE} {x : V} {σ : L2.St} {H : Hp} {Y : VK} {No : Hp → Prop} (h : te (some x :: σ) H Y) : tTurn 1 (gName 0) tYes te x σ H Y No := fun pre hp => by
  obtain ⟨u, rfl⟩ := List.length_eq_one_iff.mp hp
  exact ⟨[some x], rfl, rfl, h⟩
theorem tCompG1_list {K : PySem.W.Frag} {tl te : TE} {σ : L2.St} {H : Hp} {Q : VK} (h : tl σ H fun x H1 => ∃ a xs, x = .ref a ∧ H1 a = some (.lst xs) ∧ xs.length ≤ sizeLine ∧ ∀ D, H1 D = none → ∃ J : Nat → List V → Hp → Prop, J 0 [] (upd H1 D (.lst [])) ∧
      (∀ k x ys Hc, xs[k]? = some x → J k ys Hc → ys.length = k → Hc a = some (.lst xs) → te (some x :: σ) Hc fun y H2 => H2 D = some (.lst ys) ∧ H2 a = some (.lst xs) ∧ J (k + 1) (ys ++ [y]) (upd H2 D (.lst (ys ++ [y])))) ∧
      ∀ ys Hc, J xs.length ys Hc → ys.length = xs.length → Q (.ref D) Hc) : tCompG (iList K (tM tl)) 1 (tMG (gName 0)) (tMT tYes) (tM te) σ H Q := by
  refine ⟨_, h, ?_⟩
  rintro x H1 ⟨a, xs, rfl, hx, hz, rest⟩
  refine ⟨a, rfl, ⟨xs, .of hx⟩, fun D hD => ?_⟩
  obtain ⟨J, j0, step, fin⟩ := rest D hD
  have ne : a ≠ D := ne_of_none hx hD
  refine ⟨fun k m ys Hc => k ≤ xs.length ∧ m = xs.length - k ∧ ys.length = k ∧ Hc a = some (.lst xs) ∧ J k ys Hc, ⟨_, Nat.zero_le _, rfl, rfl, (upd_ne ne).trans hx, j0⟩, ?_⟩
  rintro k m ys Hc ⟨hk, rfl, hy, hx', j⟩
  by_cases e : k = xs.length
  · subst e
    exact .inl ⟨⟨xs, .of hx', Nat.le_refl _⟩, fin ys Hc j hy⟩
  · have hlt : k < xs.length := by omega
    refine .inr ⟨⟨xs, _, .of hx', List.getElem?_eq_getElem hlt⟩, ?_⟩
    rintro x H'' ⟨rfl, y⟩
    refine (turn1 (No := fun _ => False) (step k x ys H'' (y xs (.of hx')) j hy hx')).weak ?_ (fun _ z => z.elim)
    rintro yv H2 ⟨z1, z2, z3⟩
    refine ⟨by omega, z1, xs.length - (k + 1), by omega, by omega, rfl, ?_, ?_, z3⟩
    · rw [List.length_append, hy]; rfl
    · rw [upd_ne ne]; exact z2
end
end L2
set_option Elab.async false
set_option linter.all false
set_option maxRecDepth 100000
set_option maxHeartbeats 4000000
namespace L2
open PySem PySem.Spec PyProof.Rows
section
variable {X : Cx} {pins : List (Addr × Obj)} {σ : L2.St} {H : Hp} {s : Shared} {h' : Heap}
theorem Inv.turnedL {t' : Nat} {ch : List Addr} (I : Inv X pins σ H s) (k : ∀ b o, b ∉ ch → s.heap.get? b = some o → h'.get? b = some o) (hf : ∀ b ∈ ch, FpOk X pins H b) : Inv X pins σ H { s with heap := h', toks := t' } := by
  have nit : ∀ b u, H b = some u → b ∉ ch := fun b u e z => by rw [(hf b z).1] at e; cases e
  refine I.step (g' := s.gens) (d' := s.drawn) (ch := ch) (fun b hb => ⟨(hf b hb).2.2.2.1, (hf b hb).2.1, (hf b hb).2.2.2.2.1, (hf b hb).2.2.2.2.2⟩) (fun b o _ _ hc e _ => k b o hc e) (fun b o _ _ hc e _ => ⟨o.slots, k b o hc e⟩) (fun _ _ _ _ n => n) (fun b o hc e => ⟨o, k b o hc e⟩) (fun _ _ e => e) (fun _ _ _ e => e) (fun b ps e => ⟨#[], by rw [e]; simp⟩) (fun m hm => ?_) (fun b u e => ?_) I.bare
  · obtain ⟨o, es, ep, ho, r⟩ := hm
    exact ⟨o, es, ep, k _ o (fun z => (hf _ z).2.1 rfl) ho, r⟩
  · refine (I.hok b u e).stay (fun c v hc q => k c v ?_ q) (fun _ q => q) fun _ _ q => q
    rcases hc with z | z
    · rw [z]; exact nit b u e
    · exact nit c _ z
end
def Itz (a b : Addr) : It := ⟨fun i H => ∃ xs ys, H a = some (.lst xs) ∧ H b = some (.lst ys) ∧ i < xs.length ∧ i < ys.length, fun i H v H' => ∃ xs ys x y t, H a = some (.lst xs) ∧ H b = some (.lst ys) ∧ xs[i]? = some x ∧ ys[i]? = some y ∧ H t = none ∧ v = .ref t ∧ H' = upd H t (.tup [x, y]), fun i H => ∃ xs ys, H a = some (.lst xs) ∧ H b = some (.lst ys) ∧ (xs.length ≤ i ∨ ys.length ≤ i)⟩
theorem iter_move {h g : Heap} {a l : Addr} {i : Nat} (x : h.IsListIter a l i) (k : ∀ o, h.get? a = some o → g.get? a = some o) : g.IsListIter a l i := let ⟨o, e, r⟩ := x; ⟨o, k o e, r⟩
theorem vals_at {xs : List V} {vs : List Value} : Vals xs vs → ∀ {i : Nat} {x : V}, xs[i]? = some x → ∃ u, vs[i]? = some u ∧ RelV x u := by
  intro h
  induction h with
  | nil => intro i x e; cases e
  | cons a b ih =>
    intro i x e
    cases i with
    | zero => rw [List.getElem?_cons_zero] at e; cases e; exact ⟨_, rfl, a⟩
    | succ i => rw [List.getElem?_cons_succ] at e ⊢; exact ih e
theorem turn_zip {P : Program} {w : World} {K : PySem.W.Frag} {elts : List Expr} {x1} {pos : Pos} (z TI TO i1 i2 l1 l2 : Addr) (D : ZipApart z TI TO i1 i2 l1 l2) :
    Turn P w K (.Tuple elts x1 pos) (Itz l1 l2) [z, TI, TO, i1, i2] z (fun i h => IsZip h z TI TO .none ∧ IsPair h TI (.ref i1) (.ref i2) ∧ (∃ p q, IsPair h TO p q) ∧ h.IsListIter i1 l1 i ∧ h.IsListIter i2 l2 i) where
  mem := by simp
  obj := by
    rintro i h ⟨s1, s2, ⟨p, q, s3⟩, ⟨o4, s4, _, d4⟩, ⟨o5, s5, _, d5⟩⟩ b hb
    simp only [List.mem_cons, List.not_mem_nil, or_false] at hb
    rcases hb with rfl | rfl | rfl | rfl | rfl
    · exact ⟨_, s1, fun v e => by cases e⟩
    · exact ⟨_, s2, fun v e => by cases e⟩
    · exact ⟨_, s3, fun v e => by cases e⟩
    · exact ⟨_, s4, fun v e => by rw [d4] at e; cases e⟩
    · exact ⟨_, s5, fun v e => by rw [d5] at e; cases e⟩
  keep := fun i h h' ⟨s1, s2, ⟨p, q, s3⟩, s4, s5⟩ k => ⟨k z (by simp) _ s1, k TI (by simp) _ s2, ⟨p, q, k TO (by simp) _ s3⟩, iter_move s4 (k i1 (by simp)), iter_move s5 (k i2 (by simp))⟩
  item := by
    intro X hP hw hK hc i pins s σ H E I hf st hg
    subst hP hw hK
    obtain ⟨s1, s2, ⟨p, q, s3⟩, s4, s5⟩ := st
    obtain ⟨xs, ys, ha, hb, lt1, lt2⟩ := hg
    obtain ⟨_, it1, n1, rv1, le1, g1⟩ := I.lstM ha
    obtain ⟨_, it2, n2, rv2, le2, g2⟩ := I.lstM hb
    have ex : xs[i]? = some xs[i] := List.getElem?_eq_getElem lt1
    have ey : ys[i]? = some ys[i] := List.getElem?_eq_getElem lt2
    obtain ⟨u, hu, ru⟩ := vals_at rv1 ex
    obtain ⟨v, hv, rv⟩ := vals_at rv2 ey
    refine wpAny_pyNext_zip_item D s1 s2 s3 s4 s5 (xs := it1.toArray) (ys := it2.toArray) ⟨_, g1, rfl, n1, rfl⟩ ⟨_, g2, rfl, n2, rfl⟩ (x := u) (y := v) (by simpa using hu) (by simpa using hv) fun h' a1 a2 a3 a4 a5 a6 a7 => ⟨_, rfl, ?_⟩
    refine wpAny_letOwnedTupleGo_zip a1 fun h2 st2 sb => ?_
    have nt : H s.heap.objs.size = none := I.fresh
    have I1 := I.laid (a := s.heap.objs.size) (o := .tup [xs[i], ys[i]]) (h' := s.heap.push { cls := .type "tuple", data := .seq #[u, v] }) (t' := s.toks) (fun b q z => Heap.get?_push_of_some _ z) (Nat.le_refl _)
      ⟨(by show 2 ≤ sizeLine; decide), [u, v], .cons ru (.cons rv .nil), _, Heap.get?_push_size _ rfl, rfl, _, rfl⟩
    have nz : z ≠ s.heap.objs.size := Nat.ne_of_lt (Heap.lt_size s1)
    have nO : TO ≠ s.heap.objs.size := Nat.ne_of_lt (Heap.lt_size s3)
    have nI : TI ≠ s.heap.objs.size := Nat.ne_of_lt (Heap.lt_size s2)
    have n1' : i1 ≠ s.heap.objs.size := by obtain ⟨o, e, _⟩ := s4; exact Nat.ne_of_lt (Heap.lt_size e)
    have n2' : i2 ≠ s.heap.objs.size := by obtain ⟨o, e, _⟩ := s5; exact Nat.ne_of_lt (Heap.lt_size e)
    have fpn : ∀ b ∈ [z, TI, TO, i1, i2], upd H s.heap.objs.size (.tup [xs[i], ys[i]]) b = none := by
      intro b hb
      have f0 := (hf b hb).1
      simp only [List.mem_cons, List.not_mem_nil, or_false] at hb
      rcases hb with rfl | rfl | rfl | rfl | rfl
      · exact (upd_ne nz).trans f0
      · exact (upd_ne nI).trans f0
      · exact (upd_ne nO).trans f0
      · exact (upd_ne n1').trans f0
      · exact (upd_ne n2').trans f0
    have I2 := I1.turnedL (ch := [z, TO, i1, i2]) (h' := h2) (t' := s.toks) (fun b ob hb e => by
      simp only [List.mem_cons, List.not_mem_nil, or_false, not_or] at hb
      obtain ⟨b1, b2, b3, b4⟩ := hb
      refine (sb.2 b b1).trans ?_
      by_cases hs : b = s.heap.objs.size
      · subst hs
        have e2 := Heap.get?_push_size s.heap (o := { cls := .type "tuple", data := .seq #[u, v] }) rfl
        have e : (s.heap.push { cls := .type "tuple", data := .seq #[u, v] }).get? s.heap.objs.size = some ob := e
        rw [e2] at e
        cases e
        exact a5
      · exact a7 b _ b1 b2 b3 b4 (push_back e hs)) fun b hb => by
        have hb' : b ∈ [z, TI, TO, i1, i2] := by
          simp only [List.mem_cons, List.not_mem_nil, or_false] at hb ⊢
          rcases hb with h | h | h | h <;> simp [h]
        exact ⟨fpn b hb', (hf b hb').2⟩
    have mv : ∀ c o, c ≠ z → h'.get? c = some o → h2.get? c = some o := fun c o n e => (sb.2 c n).trans e
    exact ⟨.ref _, _, I2, rfl, ⟨xs, ys, _, _, _, ha, hb, ex, ey, nt, rfl, rfl⟩, ⟨st2, mv _ _ D.TIz (a7 _ _ D.TIz D.TITO D.TIi1 D.TIi2 s2), ⟨_, _, mv _ _ D.TOz a2⟩, iter_move a3 fun o e => mv _ _ D.i1z e, iter_move a4 fun o e => mv _ _ D.i2z e⟩, fpn⟩
  done := by
    intro X hP hw hK hc i pins s σ H E I hf st hg
    subst hP hw hK
    obtain ⟨s1, s2, ⟨p, q, s3⟩, s4, s5⟩ := st
    obtain ⟨xs, ys, ha, hb, lt⟩ := hg
    obtain ⟨_, it1, n1, rv1, le1, g1⟩ := I.lstM ha
    obtain ⟨_, it2, n2, rv2, le2, g2⟩ := I.lstM hb
    refine wpAny_pyNext_zip_end (I.ok.hd hc) D s1 s2 s3 s4 s5 (xs := it1.toArray) (ys := it2.toArray) ⟨_, g1, rfl, n1, rfl⟩ ⟨_, g2, rfl, n2, rfl⟩ (by simp; omega) fun h' k => ⟨rfl, I.turnedL (ch := [z, TO, i1, i2]) (t' := s.toks) (fun b ob hb e => ?_) fun b hb => ?_⟩
    · simp only [List.mem_cons, List.not_mem_nil, or_false, not_or] at hb
      exact k b ob hb.1 hb.2.1 hb.2.2.1 hb.2.2.2 e
    · exact hf b (by
        simp only [List.mem_cons, List.not_mem_nil, or_false] at hb ⊢
        rcases hb with h | h | h | h <;> simp [h])
  self := fun _ _ _ _ _ ⟨s1, _⟩ h => wpAny_pyIter_zip s1 h
section
variable {X : Cx}
theorem zip_apart (n l1 l2 : Nat) (h1 : l1 < n) (h2 : l2 < n) : ZipApart (n + 4) (n + 2) (n + 3) n (n + 1) l1 l2 := by
  constructor <;> first | exact Nat.ne_of_lt (by omega) | exact Nat.ne_of_gt (by omega)
theorem in_five (n b : Nat) (h : b = n + 4 ∨ b = n + 2 ∨ b = n + 3 ∨ b = n ∨ b = n + 1) : n ≤ b := by omega
theorem boot_zip : bootBuiltins "zip" = some (.type "zip") := by decide +kernel
def iZip (ta : TA) : TI := fun σ H R => ta σ H fun vs H1 => ∃ a b xs ys, vs = [.ref a, .ref b] ∧ H1 a = some (.lst xs) ∧ H1 b = some (.lst ys) ∧ R (Itz a b) H1
theorem pi_zip {a b : Expr} {ta : TA} {elts : List Expr} {x1} {p pos tpos : Pos} (hg : Gl X "zip") (hm : X.mg "zip" = none) (ha : PA X [a, b] ta) (hs : starEach [a, b] X.env = [(false, eval a X.env), (false, eval b X.env)] := by rfl) (hs2 : starEach [b] X.env = [(false, eval b X.env)] := by rfl) :
    PI X (.Tuple elts x1 tpos) (.Call (.Name "zip" p) [a, b] [] pos) (iZip ta) := by
  intro pins s σ H R I h
  refine Call_ (ld_blt I hg hm boot_zip (PyProof.Rows.callWith_type1 (thn (ha pos pins s σ H _ I h) fun us s1 ⟨vs, H1, I1, r1, q1⟩ => ?_) (by rw [hs, hs2]) (by rw [hs2]; rfl)))
  obtain ⟨l1, l2, xs, ys, e, h1, h2, q⟩ := q1
  subst e
  obtain ⟨u, v, rfl, ru, rv⟩ := r1.two
  cases ru
  cases rv
  obtain ⟨_, it1, n1, rv1, le1, g1⟩ := I1.lstM h1
  obtain ⟨_, it2, n2, rv2, le2, g2⟩ := I1.lstM h2
  have z1 := Heap.lt_size g1
  have z2 := Heap.lt_size g2
  refine call_zip_2 (xs := it1.toArray) (ys := it2.toArray) ⟨_, g1, rfl, n1, rfl⟩ ⟨_, g2, rfl, n2, rfl⟩ fun h' a1 a2 a3 a4 a5 a6 a7 => ?_
  refine wpAny_pyIter_zip a1 ?_
  refine ⟨_, [s1.heap.objs.size + 4, s1.heap.objs.size + 2, s1.heap.objs.size + 3, s1.heap.objs.size, s1.heap.objs.size + 1], _, Itz l1 l2, H1, rfl, I1.kept (t' := s1.toks) fun b ob e => a7 b ob e, turn_zip _ _ _ _ _ l1 l2 (zip_apart _ _ _ z1 z2), ⟨a1, a2, ⟨_, _, a3⟩, a4, a5⟩, fun b hb => ?_, q⟩
  have hb' : s1.heap.objs.size ≤ b := by
    simp only [List.mem_cons, List.not_mem_nil, or_false] at hb
    exact in_five _ _ hb
  exact I1.fpOk hb' (I1.hok.fresh hb')
end
theorem tCompG_zip {ta : TA} {te : TE} {gt : TG} {tc : TT} {n : Nat} {σ : L2.St} {H : Hp} {Q : VK} (h : ta σ H fun vs H1 => ∃ a b xs ys, vs = [.ref a, .ref b] ∧ H1 a = some (.lst xs) ∧ H1 b = some (.lst ys) ∧ xs.length = ys.length ∧ xs.length ≤ 64 ∧ ∀ D, H1 D = none → ∃ J : Nat → List V → Hp → Prop, J 0 [] (upd H1 D (.lst [])) ∧
      (∀ k x y zs Hc t, xs[k]? = some x → ys[k]? = some y → J k zs Hc → zs.length ≤ k → Hc t = none → Hc a = some (.lst xs) → Hc b = some (.lst ys) → tTurn n gt tc te (.ref t) σ (upd Hc t (.tup [x, y])) (fun v H2 => H2 D = some (.lst zs) ∧ H2 a = some (.lst xs) ∧ H2 b = some (.lst ys) ∧ J (k + 1) (zs ++ [v]) (upd H2 D (.lst (zs ++ [v])))) fun H2 => H2 a = some (.lst xs) ∧ H2 b = some (.lst ys) ∧ J (k + 1) zs H2) ∧
      ∀ zs Hc, J xs.length zs Hc → zs.length ≤ xs.length → Q (.ref D) Hc) : tCompG (iZip (tMA ta)) n (tMG gt) (tMT tc) (tM te) σ H Q := by
  refine ⟨_, h, ?_⟩
  rintro vs H1 ⟨a, b, xs, ys, rfl, hx, hy, hl, h64, rest⟩
  refine ⟨a, b, xs, ys, rfl, hx, hy, fun D hD => ?_⟩
  obtain ⟨J, j0, step, fin⟩ := rest D hD
  have na : a ≠ D := ne_of_none hx hD
  have nb : b ≠ D := ne_of_none hy hD
  have z64 : 64 ≤ sizeLine := by decide
  refine ⟨fun k m zs Hc => k ≤ xs.length ∧ m = xs.length - k ∧ zs.length ≤ k ∧ Hc a = some (.lst xs) ∧ Hc b = some (.lst ys) ∧ J k zs Hc, ⟨_, Nat.zero_le _, rfl, Nat.zero_le _, (upd_ne na).trans hx, (upd_ne nb).trans hy, j0⟩, ?_⟩
  rintro k m zs Hc ⟨hk, rfl, hz, ha', hb', j⟩
  by_cases e : k = xs.length
  · subst e
    exact .inl ⟨⟨xs, ys, ha', hb', .inl (Nat.le_refl _)⟩, fin zs Hc j hz⟩
  · have hlt : k < xs.length := by omega
    refine .inr ⟨⟨xs, ys, ha', hb', hlt, by omega⟩, ?_⟩
    rintro v H'' ⟨xs', ys', x, y, t, e1, e2, e3, e4, e5, rfl, rfl⟩
    rw [ha'] at e1
    rw [hb'] at e2
    cases e1
    cases e2
    refine (step k x y zs Hc t e3 e4 j hz e5 ha' hb').weak ?_ ?_
    · rintro yv H2 ⟨z1, z2, z3, z4⟩
      refine ⟨by omega, z1, xs.length - (k + 1), by omega, by omega, rfl, ?_, (upd_ne na).trans z2, (upd_ne nb).trans z3, z4⟩
      rw [List.length_append]; simp; omega
    · rintro H2 ⟨z2, z3, z4⟩
      exact ⟨xs.length - (k + 1), by omega, by omega, rfl, by omega, z2, z3, z4⟩
theorem tFor_zipM {ta : TA} {g : TG} {tb : TS} {D : Ends} {σ : L2.St} {H : Hp} (h : ta σ H fun vs H1 => ∃ a b xs ys, vs = [.ref a, .ref b] ∧ H1 a = some (.lst xs) ∧ H1 b = some (.lst ys) ∧ xs.length = ys.length ∧ ∃ J : Nat → L2.St → Hp → Prop, J 0 σ H1 ∧
      (∀ k x y σ' H' t, xs[k]? = some x → ys[k]? = some y → J k σ' H' → H' a = some (.lst xs) → H' b = some (.lst ys) → H' t = none → g (.ref t) σ' (upd H' t (.tup [x, y])) fun σ2 H2 => tb { D with nx := fun σ3 H3 => H3 a = some (.lst xs) ∧ H3 b = some (.lst ys) ∧ J (k + 1) σ3 H3, ct := fun σ3 H3 => H3 a = some (.lst xs) ∧ H3 b = some (.lst ys) ∧ J (k + 1) σ3 H3, bk := D.nx } σ2 H2) ∧
      ∀ σ' H', J xs.length σ' H' → H' a = some (.lst xs) → H' b = some (.lst ys) → D.nx σ' H') : tFor (iZip (tMA ta)) g tb D σ H := by
  refine ⟨_, h, ?_⟩
  rintro vs H1 ⟨a, b, xs, ys, rfl, hx, hy, hl, J, j0, step, fin⟩
  refine ⟨a, b, xs, ys, rfl, hx, hy, fun k m σ' H' => k ≤ xs.length ∧ m = xs.length - k ∧ H' a = some (.lst xs) ∧ H' b = some (.lst ys) ∧ J k σ' H', ⟨_, Nat.zero_le _, rfl, hx, hy, j0⟩, ?_⟩
  rintro k m σ' H' ⟨hk, rfl, ha', hb', j⟩
  by_cases e : k = xs.length
  · subst e
    exact .inl ⟨⟨xs, ys, ha', hb', .inl (Nat.le_refl _)⟩, fin σ' H' j ha' hb'⟩
  · have hlt : k < xs.length := by omega
    refine .inr ⟨⟨xs, ys, ha', hb', hlt, by omega⟩, fun σ3 H3 => H3 a = some (.lst xs) ∧ H3 b = some (.lst ys) ∧ J (k + 1) σ3 H3, fun σ3 H3 ⟨z1, z2, z3⟩ => ⟨xs.length - (k + 1), by omega, by omega, rfl, z1, z2, z3⟩, ?_⟩
    rintro v H'' ⟨xs', ys', x, y, t, e1, e2, e3, e4, e5, rfl, rfl⟩
    rw [ha'] at e1
    rw [hb'] at e2
    cases e1
    cases e2
    exact step k x y σ' H' t e3 e4 j ha' hb' e5
def rlb (sc scope : Scope) : Scope := { scope with names := scope.names.map fun (n, k) => if (k == NameKind.free && sc.kind == .function && sc.names.lookup n == some .cell) then (n, NameKind.cell) else (n, k) }
theorem pi_listK {X : Cx} {K : PySem.W.Frag} {tg l : Expr} {tl : TE} (e : X.K = K) (hl : PE X l tl) : PI X tg l (iList K tl) := e ▸ pi_list hl
end L2
set_option Elab.async false
set_option linter.all false
set_option maxRecDepth 100000
set_option maxHeartbeats 4000000
namespace L2
open PySem PySem.Spec PyProof.Rows
def Cx.compGC (X : Cx) (N' : List Str) (scope : Scope) (x0 : Str) (C : Addr) (s₀ : Shared) (H₀ : Hp) (ex : List Addr) (pn : List (Addr × Obj)) : Cx :=
  { X with env := compEnvC scope ((x0, C + 1) :: clOf X.env.cells scope.names []) C X.env, N := [x0] ++ N', s₀ := s₀, H₀ := H₀, outer := X.stack, ex := ex, fn := fun z => z == x0, pn := pn, xe := fun _ _ => False }
theorem relabel_free1 {env : Env} {x0 : Str} : ∀ {names : List (Str × NameKind)} {y : Str}, y ≠ x0 → ((names.map fun (n, k) => if (k == NameKind.free && env.scope.kind == .function && env.kindOf n == some .cell) then (n, NameKind.cell) else (n, k)).lookup y = some .cell ∨
    (names.map fun (n, k) => if (k == NameKind.free && env.scope.kind == .function && env.kindOf n == some .cell) then (n, NameKind.cell) else (n, k)).lookup y = some .free) → (∀ z ∈ names, z.2 = .cell → z.1 = x0) → (y, NameKind.free) ∈ names
  | [], y, _, h, _ => by rcases h with h | h <;> cases h
  | (n, k) :: r, y, ny, h, hc => by
    have ih := @relabel_free1 env x0 r y ny
    have hc' : ∀ z ∈ r, z.2 = .cell → z.1 = x0 := fun z hz => hc z (List.mem_cons_of_mem _ hz)
    simp only [List.map_cons] at h
    by_cases hcond : (k == NameKind.free && env.scope.kind == .function && env.kindOf n == some .cell) = true
    · rw [if_pos hcond] at h
      have hk : k = .free := by
        simp only [Bool.and_eq_true, beq_iff_eq] at hcond
        exact hcond.1.1
      subst hk
      simp only [List.lookup_cons] at h
      cases hb : y == n with
      | true => rw [show y = n by simpa using hb]; exact List.mem_cons_self
      | false => rw [hb] at h; exact List.mem_cons_of_mem _ (ih h hc')
    · rw [if_neg hcond] at h
      simp only [List.lookup_cons] at h
      cases hb : y == n with
      | true =>
        have e : y = n := by simpa using hb
        rw [hb] at h
        rcases h with h | h
        · cases h
          exact absurd (e.trans (hc (n, .cell) List.mem_cons_self rfl)) ny
        · cases h
          rw [e]; exact List.mem_cons_self
      | false => rw [hb] at h; exact List.mem_cons_of_mem _ (ih h hc')
theorem wpAny_newEnv1 {M : Model} {A : Around} {E : Value → Shared → Prop} {s : Shared} {scope : Scope} {globals : Addr} {closure : List (Str × Addr)} {qual : Str} {outer : Env} {x0 : Str} {Q : Env → Shared → Prop} (hcf : ∀ n acc, cellsFrom n scope.names acc = (x0, n) :: acc) (hpc : ∀ h, pushCells h scope.names = h.push { cls := .type "cell", data := .cell none })
    (hQ : ∀ g, g.Ns s.heap.objs.size (fun x => ([] : List (Str × Value)).reverse.lookup x) → g.IsCell (s.heap.objs.size + 1) none → (∀ b o, s.heap.get? b = some o → g.get? b = some o) → Q (newEnv scope s.heap.objs.size globals ((x0, s.heap.objs.size + 1) :: closure) qual none .none (some outer) builtinsNs) { s with heap := g, toks := s.toks + ([] : List (Str × Value)).length }) :
    wpAny M A (newFunctionEnv scope globals closure [] qual none .none (some outer)) Q E s := by
  simp only [newFunctionEnv, Option.isSome_some, if_true]
  refine wpAny_bind (wpAny_alloc ?_)
  refine wpAny_bind (wpAny_layCells _ (fun name kind cells => by cases hkc : kind == NameKind.cell <;> simp [hkc]) _ _ _ _ ?_)
  rw [hcf, hpc]
  have z1 : (s.heap.push { cls := .type "dict", data := .dict #[] }).objs.size = s.heap.objs.size + 1 := Heap.size_push ..
  show wpAny _ _ (forIn ([] : List (Str × Value)) _ _ >>= _) _ _ _
  rw [List.forIn_nil]
  refine wpAny_bind (wpAny_pure (wpAny_pure ?_))
  have c1 := Heap.get?_push_size (s.heap.push { cls := .type "dict", data := .dict #[] }) (o := { cls := .type "cell", data := .cell none }) rfl
  rw [z1] at c1
  show Q (newEnv scope s.heap.objs.size globals ((x0, (s.heap.push { cls := .type "dict", data := .dict #[] }).objs.size) :: closure) qual none .none (some outer) builtinsNs) _
  rw [z1]
  exact hQ _ ((Heap.Ns.new s.heap (.type "dict")).at' fun o e => Heap.get?_push_of_some _ e) ⟨_, c1, rfl⟩ fun b o e => Heap.get?_push_of_some _ (Heap.get?_push_of_some _ e)
section
variable {X : Cx} {elt iter : Expr} {pos : Pos} {scope : Scope} {wi : TI} {te : TE}
theorem compGC_core {use : Option (Value → Sem Unit)} {post : Value → Shared → Prop} {Qv : VK} {pins : List (Addr × Obj)} {s : Shared} {σ : L2.St} {H : Hp} {pp : Pos} {x0 : Str} {N' : List Str} {tg : Expr} {ifs : List Expr} {gt : TG} {tc : TT} (hc : X.calm = true) (hsh : shadG [x0] X.N = N') (hN : ([x0] ++ N').Nodup) (hkind : scope.kind = .function) (hcf : ∀ n acc, cellsFrom n scope.names acc = (x0, n) :: acc) (hpc : ∀ h, pushCells h scope.names = h.push { cls := .type "cell", data := .cell none }) (hcl1 : ∀ y ∈ scope.names, y.2 = .cell → y.1 = x0) (hnames : ∀ y ∈ scope.names, y.2 = .local → scope.names.lookup y.1 = some .local)
    (hfree : ∀ y ∈ scope.names, y.2 = .free → X.env.kindOf y.1 = some .cell ∨ X.env.kindOf y.1 = some .free) (hloc : ∀ y ∈ X.N, y ∉ [x0] → (relabel scope X.env).names.lookup y ≠ some .local) (hq : ∀ y ∈ X.N, y ∈ [x0] → (relabel scope X.env).names.lookup (hid y) = none) (hi : PI X tg iter wi)
    (hg : ∀ C s₀ H₀ ex pn, PG (X.compGC N' scope x0 C s₀ H₀ ex pn) tg gt) (ht : ∀ C s₀ H₀ ex pn, PTs (X.compGC N' scope x0 C s₀ H₀ ex pn) ifs tc) (he : ∀ C s₀ H₀ ex pn, PE (X.compGC N' scope x0 C s₀ H₀ ex pn) elt te) (hs : ∀ z, foldedSetIterable iter X.env z = pure z) (I : Inv X pins σ H s) (h : tCompG wi [x0].length gt tc te σ H Qv)
    (endC : ∀ (C D : Addr) (Hc : Hp) (s6 : Shared) (m : Str → Option Value) (fl : Flow), s6.heap.Ns C m → Inv X pins σ Hc s6 → FpOk X pins Hc C → Qv (.ref D) Hc → compPost (model X.prog X.w) X.A X.xe use post (.ref D) C (.ok fl) s6) :
    wpAny (model X.prog X.w) X.A (comprehension (.ListComp elt [⟨tg, iter, ifs, 0⟩] scope pos) scope X.env pp (newList []) false (eval iter X.env) use) post X.xe s := by
  have hfr : ∀ y ∈ scope.names, y.2 = .free → ∃ c, X.env.cells.lookup y.1 = some c := fun y hy e => I.ok.has y.1 (hfree y hy e)
  refine wpAny_comprehension_free (use := use) (Q := post) rfl hs (closure_eq hfr) hkind hnames (thn (hi pins s σ H _ I h) fun v s1 h1 => thn h1 fun itv s2 h2 => ?_)
  obtain ⟨it, fp, tn, J, H2, e, I2, T, st2, f2, R⟩ := h2
  subst e
  have nD : H2 s2.heap.objs.size = none := I2.hok.fresh (Nat.le_refl _)
  obtain ⟨W, ⟨m0, w0⟩, turn⟩ := R s2.heap.objs.size nD
  refine wpAny_newObj_type ?_ (by show 0 ≤ sizeLine; exact Nat.zero_le _)
  have I3 : Inv X pins σ (upd H2 s2.heap.objs.size (.lst [])) { s2 with heap := s2.heap.push { cls := .type "list", dict := none, data := .seq ([] : List Value).toArray } } := I2.lnew (t' := s2.toks) (ys := []) (its := []) .nil (Nat.zero_le _)
  have oldT : ∀ b o, s2.heap.get? b = some o → (s2.heap.push { cls := .type "list", dict := none, data := .seq ([] : List Value).toArray }).get? b = some o := fun b o e => Heap.get?_push_of_some _ e
  generalize hs3 : ({ s2 with heap := s2.heap.push { cls := .type "list", dict := none, data := .seq ([] : List Value).toArray } } : Shared) = s3 at I3 ⊢
  have st3 : tn 0 s3.heap := T.keep _ _ _ st2 fun b _ o e => by rw [← hs3]; exact oldT b o e
  generalize hH3 : upd H2 s2.heap.objs.size (.lst []) = H3 at I3 w0
  have f3 : ∀ b ∈ fp, FpOk X pins H3 b := fun b hb => by
    obtain ⟨a1, a2⟩ := f2 b hb
    refine ⟨?_, a2⟩
    obtain ⟨o, e, _⟩ := T.obj _ _ st2 b hb
    rw [← hH3, upd_ne (Nat.ne_of_lt (Heap.lt_size e))]
    exact a1
  refine wpAny_newEnv1 hcf hpc fun g hns hcl kg => ?_
  have clm : ∀ {y : Str} {c : Addr}, (clOf X.env.cells scope.names []).lookup y = some c → X.env.cells.lookup y = some c := fun {y c} e => by
    rcases clOf_mem hfr (PySem.mem_of_lookup e) with z | z
    · cases z
    · exact z
  have kinds : ∀ {y : Str}, y ≠ x0 → ((relabel scope X.env).names.lookup y = some .cell ∨ (relabel scope X.env).names.lookup y = some .free) → (X.env.kindOf y = some .cell ∨ X.env.kindOf y = some .free) ∧ ∃ c, (clOf X.env.cells scope.names []).lookup y = some c := fun {y} ny e => by
    have z := relabel_free1 ny e hcl1
    obtain ⟨c, hc'⟩ := clOf_has (cells := X.env.cells) (acc := []) (.inl z)
    exact ⟨hfree _ z rfl, lookup_some_of_mem hc'⟩
  have cle : ∀ {y : Str} {c : Addr}, ((x0, s3.heap.objs.size + 1) :: clOf X.env.cells scope.names []).lookup y = some c → (y = x0 ∧ c = s3.heap.objs.size + 1) ∨ (y ≠ x0 ∧ X.env.cells.lookup y = some c) := fun {y c} e => by
    rw [List.lookup_cons] at e
    cases hy : y == x0 with
    | true => rw [hy] at e; cases e; exact .inl ⟨by simpa using hy, rfl⟩
    | false => rw [hy] at e; exact .inr ⟨by simpa using hy, clm e⟩
  have cll : ∀ {y c}, X.env.cells.lookup y = some c → c < s3.heap.objs.size := fun {y c} e => by
    obtain ⟨v, o, h1, _⟩ := I3.cell y c e
    exact Heap.lt_size h1
  have lt3 : ∀ b ∈ fp, b < s3.heap.objs.size := fun b hb => by
    obtain ⟨o, e, _⟩ := T.obj _ _ st3 b hb
    exact Heap.lt_size e
  have nst : ∀ b ∈ fp, b ∉ frs X.stack := fun b hb => I3.nostk' (f3 b hb).2.1 (f3 b hb).2.2.1
  have cfp : ∀ b ∈ fp, ∀ y c, ((x0, s3.heap.objs.size + 1) :: clOf X.env.cells scope.names []).lookup y = some c → c ≠ b := fun b hb y c e => by
    rcases cle e with ⟨_, e2⟩ | ⟨_, e2⟩
    · rw [e2]; exact Nat.ne_of_gt (Nat.lt_succ_of_lt (lt3 b hb))
    · exact (f3 b hb).2.2.2.2.1 y c e2
  generalize hX : X.compGC N' scope x0 s3.heap.objs.size s3 H3 fp (X.pn ++ pins) = Y
  have ok' : Y.Ok := by
    subst hX
    exact ⟨I3.ok.mod, hkind, I3.ok.glob, I3.ok.blt, Nat.le_refl _, fun y z c h1 h2 => by
        rcases cle h1 with ⟨e1, e2⟩ | ⟨_, e1⟩
        · rcases cle h2 with ⟨e3, _⟩ | ⟨_, e3⟩
          · rw [e1, e3]
          · exact absurd (cll e3) (by rw [e2]; exact Nat.not_lt.mpr (Nat.le_succ _))
        · rcases cle h2 with ⟨_, e4⟩ | ⟨_, e3⟩
          · exact absurd (cll e1) (by rw [e4]; exact Nat.not_lt.mpr (Nat.le_succ _))
          · exact I3.ok.inj y z c e1 e3, fun y hy => by
        by_cases ny : y = x0
        · subst ny; exact ⟨_, List.lookup_cons_self⟩
        · obtain ⟨_, c, hc'⟩ := kinds ny hy
          refine ⟨c, ?_⟩
          show ((x0, s3.heap.objs.size + 1) :: clOf X.env.cells scope.names []).lookup y = some c
          rw [List.lookup_cons, beq_eq_false_iff_ne.mpr ny]; exact hc', fun y c hfn e => by
        rcases cle e with ⟨_, e2⟩ | ⟨ny, _⟩
        · rw [e2]; exact Nat.le_succ _
        · have : (y == x0) = true := hfn
          exact absurd (by simpa using this) ny, I3.ok.hd, I3.ok.frames, .inl rfl,
      fun b hb => ⟨Nat.ne_of_lt (lt3 b hb), fun y c e => cfp b hb y c e⟩, I3.bs, Nat.le_trans I3.ok.bsz I3.sz, fun b o e hb => by
        rcases (f3 b hb).2.2.2.1 with z | z
        · exact I3.ok.noex b o e z
        · exact absurd (Nat.lt_of_lt_of_le (Nat.lt_of_lt_of_le (Heap.lt_size e) I3.ok.bsz) z) (Nat.lt_irrefl _), nst, I3.stack, I3.stkFree⟩
  have J4 : ∀ tk, Inv Y [] (List.replicate [x0].length none ++ σ) H3 { s3 with heap := g, toks := tk } := fun tk => by
    subst hX
    refine ⟨ok', rfl, I3.bare, Un.kept kg, ⟨_, hns, fun i y v e1 e2 e3 => ?_⟩, fun y c e => ?_, I3.hok.fresh (Nat.le_refl _), fun y c e => by
      rcases cle e with ⟨_, e2⟩ | ⟨_, e2⟩
      · rw [e2]; exact I3.hok.fresh (Nat.le_succ _)
      · exact I3.freeC y c e2, fun p hp => ?_, I3.hok.kept kg, ?_⟩
    · by_cases hin : i < [x0].length
      · rw [List.getElem?_append_left (by rw [List.length_replicate]; exact hin), List.getElem?_replicate, if_pos hin] at e2
        cases e2
      · obtain ⟨j, rfl⟩ : ∃ j, i = [x0].length + j := ⟨i - [x0].length, by omega⟩
        have e0 : N'[j]? = some y := by
          have e1 : ([x0] ++ N')[[x0].length + j]? = some y := e1
          rw [List.getElem?_append_right (by omega)] at e1
          rw [show [x0].length + j - [x0].length = j by omega] at e1
          exact e1
        have e2' : σ[j]? = some (some v) := by
          rw [List.getElem?_append_right (by rw [List.length_replicate]; omega), List.length_replicate] at e2
          rw [show [x0].length + j - [x0].length = j by omega] at e2
          exact e2
        rw [← hsh] at e0
        obtain ⟨y0, e1', ey⟩ : ∃ y0, X.N[j]? = some y0 ∧ (if y0 ∈ [x0] then hid y0 else y0) = y := by
          unfold shadG at e0
          rw [List.getElem?_map] at e0
          cases hz : X.N[j]? with
          | none => rw [hz] at e0; cases e0
          | some y0 => rw [hz] at e0; exact ⟨y0, rfl, Option.some.inj e0⟩
        have e3 : (relabel scope X.env).names.lookup y = some .local ∨ (relabel scope X.env).names.lookup y = some .cell ∨ (relabel scope X.env).names.lookup y = some .free := e3
        have ne : ¬ y0 ∈ [x0] := fun z => by
          rw [if_pos z] at ey
          subst ey
          rw [hq y0 (List.mem_of_getElem? e1') z] at e3
          rcases e3 with z | z | z <;> cases z
        rw [if_neg ne] at ey
        subst ey
        have e3' : (relabel scope X.env).names.lookup y0 = some .cell ∨ (relabel scope X.env).names.lookup y0 = some .free := by
          rcases e3 with z | z
          · exact absurd z (hloc y0 (List.mem_of_getElem? e1') ne)
          · exact z
        have ny : y0 ≠ x0 := fun z => ne (by rw [z]; simp)
        obtain ⟨kd, c, hcl⟩ := kinds ny e3'
        have hcl' : ((x0, s3.heap.objs.size + 1) :: clOf X.env.cells scope.names []).lookup y0 = some c := by rw [List.lookup_cons, beq_eq_false_iff_ne.mpr ny]; exact hcl
        obtain ⟨m, _, hl⟩ := I3.loc
        obtain ⟨u, r, lk⟩ := hl j y0 v e1' e2' (.inr kd)
        refine ⟨u, r, .inr ⟨e3', c, hcl', ?_⟩⟩
        rcases lk with ⟨k1, _⟩ | ⟨_, c', q1, o, q2, q3⟩
        · exfalso
          have k1' : X.env.kindOf y0 = some .local := k1
          rcases kd with k2 | k2 <;> rw [k1'] at k2 <;> cases k2
        · rw [clm hcl] at q1
          cases q1
          exact ⟨o, kg _ _ q2, q3⟩
    · rcases cle e with ⟨_, e2⟩ | ⟨_, e2⟩
      · rw [e2]; exact ⟨none, hcl⟩
      · obtain ⟨v, o, q2, q3⟩ := I3.cell y c e2
        exact ⟨v, o, kg _ _ q2, q3⟩
    · have hp' : p ∈ X.pn ++ pins := by simpa [Cx.compGC] using hp
      obtain ⟨a1, a2, a3, a4, a5⟩ := I3.pin p hp'
      exact ⟨kg _ _ a1, a2, Nat.ne_of_lt (Heap.lt_size a1), I3.nostk' a3 a4, a5⟩
    · show (List.replicate [x0].length none ++ σ).length = ([x0] ++ N').length
      have hln : N'.length = X.N.length := by rw [← hsh]; unfold shadG; rw [List.length_map]
      rw [List.length_append, List.length_replicate, List.length_append, I3.len, hln]
  have fpY : ∀ {Hc : Hp}, (∀ b ∈ fp, Hc b = none) → ∀ b ∈ fp, FpOk Y [] Hc b := fun {Hc} hn b hb => by
    subst hX
    exact ⟨hn b hb, Nat.ne_of_lt (lt3 b hb), nst b hb, .inl hb, fun y c e => cfp b hb y c e, fun p hp => (f3 b hb).2.2.2.2.2 p (by simpa [Cx.compGC] using hp)⟩
  have loop : ∀ s4 : Shared, s4 = { s3 with heap := g, toks := s3.toks + ([] : List (Str × Value)).length } →
      codeAny (model X.prog X.w) X.A (.compLoop (.ListComp elt [⟨tg, iter, ifs, 0⟩] scope pos) 0 (.ref it) (.ref s2.heap.objs.size) Y.env) (compPost (model X.prog X.w) X.A X.xe use post (.ref s2.heap.objs.size) s3.heap.objs.size) s4 := by
    rintro s4 rfl
    have YP : Y.prog = X.prog ∧ Y.w = X.w ∧ Y.K = X.K ∧ Y.calm = X.calm ∧ Y.A = X.A ∧ Y.env.locals = s3.heap.objs.size := by subst hX; exact ⟨rfl, rfl, rfl, rfl, rfl, rfl⟩
    obtain ⟨y1, y2, y3, y4, y5, y6⟩ := YP
    have he' : PE Y elt te := by subst hX; exact he _ _ _ _ _
    have hg' : PG Y tg gt := by subst hX; exact hg _ _ _ _ _
    have ht' : PTs Y ifs tc := by subst hX; exact ht _ _ _ _ _
    have xeY : Y.xe = fun _ _ => False := by subst hX; rfl
    have yb : ∀ {Hc : Hp} {w' : L2.St} {pn : List (Addr × Obj)} {s' : Shared}, Inv Y pn w' Hc s' → Un (frs X.stack) fp H3 Hc s3.heap s'.heap := fun {Hc w' pn s'} Z => by
      have := Z.base
      subst hX
      exact this
    have yos : ∀ {Hc : Hp} {w' : L2.St} {pn : List (Addr × Obj)} {s' : Shared}, Inv Y pn w' Hc s' → s'.os = s3.os := fun {Hc w' pn s'} Z => by
      have := Z.os
      subst hX
      exact this
    refine codeAny_loop rfl (fun n s' => ∃ i ys Hc, ∃ w' : L2.St, w'.length = [x0].length ∧ Inv Y [] (w' ++ σ) Hc s' ∧ tn i s'.heap ∧ (∀ b ∈ fp, Hc b = none) ∧ W i n ys Hc) (fun n s5 hI => ?_) m0 ⟨0, [], H3, List.replicate [x0].length none, List.length_replicate, J4 _, T.keep _ _ _ st3 fun b _ o e => kg b o e, fun b hb => (f3 b hb).1, w0⟩
    obtain ⟨i, ys, Hc, w', hw', Z, stc, frc, wc⟩ := hI
    show wpAny _ _ ((compTurn (.ListComp elt [⟨tg, iter, ifs, 0⟩] scope pos) 0 (.ref it) (.ref s2.heap.objs.size) Y.env).onRaise (fun z => do noteFrame z Y.env; theTreesLotGoes z)) _ _ s5
    refine wpAny_noted (wpAny_noRaise ?_)
    rw [compTurn_list]
    show wpAny (model X.prog X.w) X.A _ _ _ _
    rcases turn i n ys Hc wc with ⟨stop, qn⟩ | ⟨go, step⟩
    · have hd := T.done Y y1 y2 y3 (y4.trans hc) i [] s5 (w' ++ σ) Hc (fun _ _ => False) Z (fpY frc) stc stop
      rw [y5] at hd
      refine wpAny_bind (wpAny_standAt (wpAny_bind (thn hd fun r s6 ⟨hr, Z6⟩ => ?_)))
      subst hr
      refine wpAny_pure ?_
      obtain ⟨m, hn6, _⟩ := Z6.loc
      rw [y6] at hn6
      have u6 := yb Z6
      have hok : HOk X.prog X.w Hc s6.heap := by
        have z := Z6.hok
        rw [y1, y2] at z
        exact z
      have cn : Hc s3.heap.objs.size = none := by
        have z := Z6.free
        rw [y6] at z
        exact z
      have I6 : Inv X pins σ Hc s6 := I3.call' (s' := s6) (ch := fp) (yos Z6) u6 hok Z6.bare fun b hb => ⟨(f3 b hb).2.2.2.1, (f3 b hb).2.1, (f3 b hb).2.2.2.2.1, (f3 b hb).2.2.2.2.2⟩
      have fC : FpOk X pins Hc s3.heap.objs.size := I3.fpOk (Nat.le_refl _) cn
      exact endC _ _ Hc s6 m _ hn6 I6 fC qn
    · have hd := T.item Y y1 y2 y3 (y4.trans hc) i [] s5 (w' ++ σ) Hc (fun _ _ => False) Z (fpY frc) stc go
      rw [y5] at hd
      refine wpAny_bind (wpAny_standAt (wpAny_bind (thn hd fun r s6 ⟨u, hr, h6⟩ => ?_)))
      subst hr
      refine wpAny_bind (thn h6 fun _ s7 ⟨xv, H7, Z7, r7, yl, st7, fr7⟩ => ?_)
      have Z7' := Z7.pinned (fpY fr7) (T.obj _ _ st7)
      have hst := hg' _ s7 _ H7 xv u _ Z7' r7 (step xv H7 yl w' hw')
      rw [y1, y2, y5, xeY] at hst
      refine wpAny_bind (thn hst fun _ s8 ⟨σ8, H8, Z8, pre, hpre, e8, q8⟩ => ?_)
      subst e8
      have hte := ht' _ s8 _ H8 _ Z8 q8
      rw [y1, y2, y5, xeY] at hte
      have fin : ∀ {m' : Nat} {ys' : List V} {H9 : Hp} {s9 : Shared}, Inv Y ([] ++ pinsAt fp s7.heap) (pre ++ σ) H9 s9 → m' < n → W (i + 1) m' ys' H9 → ∃ m, m < n ∧ ∃ i ys Hc, ∃ w' : L2.St, w'.length = [x0].length ∧ Inv Y [] (w' ++ σ) Hc s9 ∧ tn i s9.heap ∧ (∀ b ∈ fp, Hc b = none) ∧ W i m ys Hc := fun {m' ys' H9 s9} Z9 hm' w9 =>
        ⟨m', hm', i + 1, ys', H9, pre, hpre, Z9.unpinned, T.keep _ _ _ st7 fun b hb o e => (Z9.pin (b, o) (List.mem_append_right _ (List.mem_append_right _ (mem_pinsAt hb e)))).1, fun b hb => by
          obtain ⟨o, e, _⟩ := T.obj _ _ st7 b hb
          exact (Z9.pin (b, o) (List.mem_append_right _ (List.mem_append_right _ (mem_pinsAt hb e)))).2.1, w9⟩
      refine wpAny_bind (thn hte fun ok s9 ⟨H9, Z9, q9⟩ => ?_)
      cases ok with
      | false =>
        obtain ⟨m', hm', w9⟩ := q9
        exact wpAny_pure ⟨rfl, fin Z9 hm' w9⟩
      | true =>
        have hel := he' _ s9 _ H9 _ Z9 q9
        rw [y1, y2, y5, xeY] at hel
        refine wpAny_bind (wpAny_bind (thn hel fun ev s10 ⟨yv, H10, Z10, r10, hz, hD10, m', hm', w10⟩ => ?_))
        have hap := mt_append (X := Y) _ s10 _ H10 (.ref s2.heap.objs.size) [yv] (.ref s2.heap.objs.size) [ev] (fun _ Hf => Hf = upd H10 s2.heap.objs.size (.lst (ys ++ [yv]))) Z10 rfl (.cons r10 .nil) ⟨_, ys, yv, rfl, rfl, hD10, hz, rfl⟩
        rw [y1, y2, y5, xeY] at hap
        refine wpAny_bind (thn hap fun av s11 ⟨_, H11, Z11, _, e11⟩ => ?_)
        subst e11
        exact wpAny_pure (wpAny_pure ⟨rfl, fin Z11 hm' w10⟩)
  have henv : Y.env = compEnvC scope ((x0, s3.heap.objs.size + 1) :: clOf X.env.cells scope.names []) s3.heap.objs.size X.env := by subst hX; rfl
  rw [henv] at loop
  exact codeAny_compStart_list (loop _ rfl) (T.self _ 0 _ _ _ (T.keep _ _ _ st3 fun b _ o e => kg b o e) (loop _ rfl))
theorem pe_compGC {x0 : Str} {N' : List Str} {tg : Expr} {ifs : List Expr} {gt : TG} {tc : TT} (hc : X.calm = true) (hsh : shadG [x0] X.N = N') (hN : ([x0] ++ N').Nodup) (hkind : scope.kind = .function) (hcf : ∀ n acc, cellsFrom n scope.names acc = (x0, n) :: acc) (hpc : ∀ h, pushCells h scope.names = h.push { cls := .type "cell", data := .cell none }) (hcl1 : ∀ y ∈ scope.names, y.2 = .cell → y.1 = x0) (hnames : ∀ y ∈ scope.names, y.2 = .local → scope.names.lookup y.1 = some .local)
    (hfree : ∀ y ∈ scope.names, y.2 = .free → X.env.kindOf y.1 = some .cell ∨ X.env.kindOf y.1 = some .free) (hloc : ∀ y ∈ X.N, y ∉ [x0] → (relabel scope X.env).names.lookup y ≠ some .local) (hq : ∀ y ∈ X.N, y ∈ [x0] → (relabel scope X.env).names.lookup (hid y) = none) (hi : PI X tg iter wi)
    (hg : ∀ C s₀ H₀ ex pn, PG (X.compGC N' scope x0 C s₀ H₀ ex pn) tg gt) (ht : ∀ C s₀ H₀ ex pn, PTs (X.compGC N' scope x0 C s₀ H₀ ex pn) ifs tc) (he : ∀ C s₀ H₀ ex pn, PE (X.compGC N' scope x0 C s₀ H₀ ex pn) elt te) (hs : ∀ z, foldedSetIterable iter X.env z = pure z := by intro _; rfl) :
    PE X (.ListComp elt [⟨tg, iter, ifs, 0⟩] scope pos) (tCompG wi [x0].length gt tc te) := by
  intro pins s σ H Q I h
  rw [eval_ListComp]
  exact compGC_core hc hsh hN hkind hcf hpc hcl1 hnames hfree hloc hq hi hg ht he hs I h fun C D Hc s6 m fl hn I6 fC q => ⟨m, hn, fun h' hs' => ⟨.ref D, Hc, I6.turned (it := C) (h' := h') (t' := s6.toks) (fun b o hb e => (hs'.2 b hb).trans e) fC.1 fC.2.1 fC.2.2.2.1 fC.2.2.2.2.1 fC.2.2.2.2.2, rfl, q⟩⟩
theorem pe_compGCF {elt iter tg : Expr} {pos : Pos} {scope : Scope} {wi : TI} {te : TE} {ifs : List Expr} {gt : TG} {tc : TT} (sc : Scope) (N N' : List Str) (x0 : Str) (hsc : X.env.scope = sc) (hNN : X.N = N) (hc : X.calm = true) (hsh : shadG [x0] N = N') (hN : ([x0] ++ N').Nodup) (hkind : scope.kind = .function) (hcf : ∀ n acc, cellsFrom n scope.names acc = (x0, n) :: acc) (hpc : ∀ h, pushCells h scope.names = h.push { cls := .type "cell", data := .cell none }) (hcl1 : ∀ y ∈ scope.names, y.2 = .cell → y.1 = x0)
    (hnames : ∀ y ∈ scope.names, y.2 = .local → scope.names.lookup y.1 = some .local) (hfree : ∀ y ∈ scope.names, y.2 = .free → sc.names.lookup y.1 = some .cell ∨ sc.names.lookup y.1 = some .free)
    (hloc : ∀ y ∈ N, y ∉ [x0] → (scope.names.map fun (n, k) => if (k == NameKind.free && sc.kind == .function && sc.names.lookup n == some .cell) then (n, NameKind.cell) else (n, k)).lookup y ≠ some .local)
    (hq : ∀ y ∈ N, y ∈ [x0] → (scope.names.map fun (n, k) => if (k == NameKind.free && sc.kind == .function && sc.names.lookup n == some .cell) then (n, NameKind.cell) else (n, k)).lookup (hid y) = none) (hi : PI X tg iter wi)
    (hg : ∀ C s₀ H₀ ex pn, PG (X.compGC N' scope x0 C s₀ H₀ ex pn) tg gt) (ht : ∀ C s₀ H₀ ex pn, PTs (X.compGC N' scope x0 C s₀ H₀ ex pn) ifs tc) (he : ∀ C s₀ H₀ ex pn, PE (X.compGC N' scope x0 C s₀ H₀ ex pn) elt te) (hs : ∀ z, foldedSetIterable iter X.env z = pure z := by intro _; rfl) :
    PE X (.ListComp elt [⟨tg, iter, ifs, 0⟩] scope pos) (tCompG wi [x0].length (tMG gt) (tMT tc) (tM te)) := by
  subst hsc hNN
  exact pe_compGC hc hsh hN hkind hcf hpc hcl1 hnames hfree hloc hq hi (fun C s₀ H₀ ex pn => (hg C s₀ H₀ ex pn).mono) (fun C s₀ H₀ ex pn => (ht C s₀ H₀ ex pn).mono) (fun C s₀ H₀ ex pn => (he C s₀ H₀ ex pn).mono) hs
theorem pe_compGF2C {X : Cx} {N0 : List Str} {x00 : Str} {scopeO : Scope} {C0 : Addr} {s0 : Shared} {H0 : Hp} {ex0 : List Addr} {pn0 : List (Addr × Obj)} {elt iter tg : Expr} {pos : Pos} {scope : Scope} {wi : TI} {te : TE} {ifs : List Expr} {gt : TG} {tc : TT} (sc : Scope) (N N' xs : List Str) (hsc : X.env.scope = sc) (hNN : [x00] ++ N0 = N) (hc : X.calm = true) (hsh : shadG xs N = N') (hN : (xs ++ N').Nodup) (hkind : scope.kind = .function) (hcell : ∀ y ∈ scope.names, y.2 ≠ .cell)
    (hnames : ∀ y ∈ scope.names, y.2 = .local → scope.names.lookup y.1 = some .local) (hfree : ∀ y ∈ scope.names, y.2 = .free → (rlb sc scopeO).names.lookup y.1 = some .cell ∨ (rlb sc scopeO).names.lookup y.1 = some .free)
    (hloc : ∀ y ∈ N, y ∉ xs → (scope.names.map fun (n, k) => if (k == NameKind.free && (rlb sc scopeO).kind == .function && (rlb sc scopeO).names.lookup n == some .cell) then (n, NameKind.cell) else (n, k)).lookup y ≠ some .local)
    (hq : ∀ y ∈ N, y ∈ xs → (scope.names.map fun (n, k) => if (k == NameKind.free && (rlb sc scopeO).kind == .function && (rlb sc scopeO).names.lookup n == some .cell) then (n, NameKind.cell) else (n, k)).lookup (hid y) = none) (hi : PI (X.compGC N0 scopeO x00 C0 s0 H0 ex0 pn0) tg iter wi)
    (hg : ∀ C s₀ H₀ ex pn, PG ((X.compGC N0 scopeO x00 C0 s0 H0 ex0 pn0).compG N' scope xs C s₀ H₀ ex pn) tg gt) (ht : ∀ C s₀ H₀ ex pn, PTs ((X.compGC N0 scopeO x00 C0 s0 H0 ex0 pn0).compG N' scope xs C s₀ H₀ ex pn) ifs tc) (he : ∀ C s₀ H₀ ex pn, PE ((X.compGC N0 scopeO x00 C0 s0 H0 ex0 pn0).compG N' scope xs C s₀ H₀ ex pn) elt te) (hs : ∀ z, foldedSetIterable iter (X.compGC N0 scopeO x00 C0 s0 H0 ex0 pn0).env z = pure z := by intro _; rfl) :
    PE (X.compGC N0 scopeO x00 C0 s0 H0 ex0 pn0) (.ListComp elt [⟨tg, iter, ifs, 0⟩] scope pos) (tCompG wi xs.length (tMG gt) (tMT tc) (tM te)) := by
  subst hsc hNN
  exact pe_compGF (X := (X.compGC N0 scopeO x00 C0 s0 H0 ex0 pn0)) (rlb X.env.scope scopeO) ([x00] ++ N0) N' xs rfl rfl hc hsh hN hkind hcell hnames hfree hloc hq hi hg ht he hs
end
end L2
set_option Elab.async false
set_option linter.all false
set_option maxRecDepth 100000
set_option maxHeartbeats 4000000
namespace L2
open PySem PySem.Spec PyProof.Rows
theorem tFor_rng2M {ta : TA} {g : TG} {tb : TS} {D : Ends} {σ : L2.St} {H : Hp} (h : ta σ H fun vs H1 => ∃ (lo hi : Int) (n : Nat), vs = [.int lo, .int hi] ∧ (hi - lo).toNat = n ∧ lo.natAbs ≤ 1000000 ∧ hi.natAbs ≤ 1000000 ∧ ∃ J : Nat → L2.St → Hp → Prop, J 0 σ H1 ∧
      (∀ (k : Nat) σ' H', k < n → J k σ' H' → g (.int (lo + k)) σ' H' fun σ2 H2 => tb { D with nx := J (k + 1), ct := J (k + 1), bk := D.nx } σ2 H2) ∧ ∀ σ' H', J n σ' H' → D.nx σ' H') : tFor (iRng2 (tMA ta)) g tb D σ H := by
  refine ⟨_, h, ?_⟩
  rintro vs H1 ⟨lo, hi, n, rfl, rfl, hlo, hhi, J, j0, step, fin⟩
  refine ⟨lo, hi, rfl, by omega, fun k m σ' H' => k ≤ (hi - lo).toNat ∧ m = (hi - lo).toNat - k ∧ J k σ' H', ⟨_, Nat.zero_le _, rfl, j0⟩, ?_⟩
  rintro k m σ' H' ⟨hk, rfl, j⟩
  by_cases e : k = (hi - lo).toNat
  · subst e
    exact .inl ⟨Nat.le_refl _, fin σ' H' j⟩
  · have hlt : k < (hi - lo).toNat := by omega
    refine .inr ⟨hlt, J (k + 1), fun σ3 H3 z => ⟨(hi - lo).toNat - (k + 1), by omega, by omega, rfl, z⟩, ?_⟩
    rintro x H'' ⟨rfl, rfl⟩
    exact step k σ' H'' hlt j
end L2
set_option Elab.async false
set_option linter.all false
set_option maxRecDepth 100000
set_option maxHeartbeats 4000000
namespace L2
open PySem PySem.Spec PyProof.Rows
section
variable {X : Cx}
def rAnyH : List V → Hp → VK → Prop := fun xs H Q => ∃ (l : Addr) (bs : List Bool), xs = [.ref l] ∧ H l = some (.lst (bs.map V.bl)) ∧ Q (.bl (bs.any id)) H
theorem range_any_bools : ∀ bs : List Bool, ((List.range bs.length).any fun i => (bs[i]?).getD true) = bs.any id
  | [] => rfl
  | b :: bs => by
    rw [List.length_cons, List.range_succ_eq_map, List.any_cons, List.any_map, List.any_cons]
    have := range_any_bools bs
    simp only [Function.comp_def, List.getElem?_cons_succ, List.getElem?_cons_zero, Option.getD_some, id] at this ⊢
    rw [this]
theorem call_anyH (hc : X.calm = true) : CallR X (.builtin "any") rAnyH := by
  intro pins s σ H xs us Q I r h
  obtain ⟨l, bs, rfl, hl, q⟩ := h
  obtain ⟨u, rfl, ru⟩ := r.one
  cases ru
  obtain ⟨its, rv, p⟩ := I.lstIs hl
  have hlt : l < s.heap.objs.size := by obtain ⟨_, e, _⟩ := p; exact Heap.lt_size e
  refine call_any_walk (wpAny_pyIter_list p ?_)
  refine ⟨s.heap.objs.size, [s.heap.objs.size, l], [s.heap.objs.size], its.toArray.size, _, _, fun i => (bs[i]?).getD true, rfl, Walks.list (A := X.A.in1) (I.ok.hd hc) _ l (Nat.ne_of_lt hlt) its.toArray,
    ⟨⟨_, Heap.get?_push_size _ rfl, rfl, rfl⟩, p.push _⟩, fun i v s' Q' E' hP hQ => ?_, fun h' tk hk => ?_⟩
  · obtain ⟨b, e, rfl⟩ := bools_are rv i v (by simpa using hP)
    simp only [e, Option.getD_some] at hQ
    exact wpAny_truthy_bool hQ
  · have e : ((List.range its.toArray.size).any fun i => (bs[i]?).getD true) = bs.any id := by
      rw [List.size_toArray, ← rv.length, List.length_map]; exact range_any_bools bs
    refine ⟨.bl (bs.any id), H, I.kept (t' := tk) fun b o q => hk b o (fun hm => ?_) (Heap.get?_push_of_some _ q), ?_, q⟩
    · rw [List.mem_singleton.mp hm] at q
      exact Nat.lt_irrefl _ (Heap.lt_size q)
    · rw [e]; rfl
end
theorem tCompG1_rngC {ta : TA} {tc : TT} {te : TE} {σ : L2.St} {H : Hp} {Q : VK} (h : ta σ H fun vs H1 => ∃ n : Nat, vs = [.int n] ∧ n ≤ 64 ∧ ∀ D, H1 D = none → ∃ J : Nat → List V → Hp → Prop, J 0 [] (upd H1 D (.lst [])) ∧
      (∀ (k : Nat) ys Hc, k < n → J k ys Hc → ys.length ≤ k → tc (some (.int k) :: σ) Hc fun b H3 => match b with | true => te (some (.int k) :: σ) H3 fun y H2 => H2 D = some (.lst ys) ∧ J (k + 1) (ys ++ [y]) (upd H2 D (.lst (ys ++ [y]))) | false => J (k + 1) ys H3) ∧ ∀ ys Hc, J n ys Hc → ys.length ≤ n → Q (.ref D) Hc) :
    tCompG (iRng1 (tMA ta)) 1 (tMG (gName 0)) (tMT tc) (tM te) σ H Q := by
  refine ⟨_, h, ?_⟩
  rintro vs H1 ⟨n, rfl, hn, rest⟩
  refine ⟨n, rfl, by omega, by omega, ?_⟩
  rw [Int.toNat_natCast]
  intro D hD
  obtain ⟨J, j0, step, fin⟩ := rest D hD
  have hz : 64 ≤ sizeLine := by decide
  refine ⟨fun k m ys Hc => k ≤ n ∧ m = n - k ∧ ys.length ≤ k ∧ J k ys Hc, ⟨_, Nat.zero_le _, rfl, Nat.le_refl _, j0⟩, ?_⟩
  rintro k m ys Hc ⟨hk, rfl, hy, j⟩
  by_cases e : k = n
  · subst e
    exact .inl ⟨Nat.le_refl _, fin ys Hc j hy⟩
  · have hlt : k < n := by omega
    refine .inr ⟨hlt, ?_⟩
    rintro x H'' ⟨rfl, rfl⟩
    rw [Int.zero_add]
    have st := step k ys H'' hlt j hy
    have tn : tTurn 1 (gName 0) tc te (.int k) σ H'' (fun y H2 => H2 D = some (.lst ys) ∧ J (k + 1) (ys ++ [y]) (upd H2 D (.lst (ys ++ [y])))) fun H3 => J (k + 1) ys H3 := by
      intro pre hp
      obtain ⟨u, rfl⟩ : ∃ u, pre = [u] := by
        match pre, hp with
        | [u], _ => exact ⟨u, rfl⟩
      exact ⟨[some (.int k)], rfl, rfl, st⟩
    refine tn.weak ?_ ?_
    · rintro yv H2 ⟨z1, z2⟩
      exact ⟨by omega, z1, n - (k + 1), by omega, by omega, rfl, by rw [List.length_append]; exact Nat.succ_le_succ hy, z2⟩
    · intro H3 z
      exact ⟨n - (k + 1), by omega, by omega, rfl, Nat.le_succ_of_le hy, z⟩
end L2
set_option Elab.async false
set_option linter.all false
set_option maxRecDepth 100000
set_option maxHeartbeats 4000000
namespace L2
open PySem PySem.Spec PyProof.Rows
def Ite (l : Addr) : It := ⟨fun i H => ∃ xs, H l = some (.lst xs) ∧ i < xs.length, fun i H v H' => ∃ xs x t, H l = some (.lst xs) ∧ xs[i]? = some x ∧ H t = none ∧ v = .ref t ∧ H' = upd H t (.tup [.int i, x]), fun i H => ∃ xs, H l = some (.lst xs) ∧ xs.length ≤ i⟩
theorem turn_enum {P : Program} {w : World} {K : PySem.W.Frag} {elts : List Expr} {x1} {pos : Pos} (e it l : Addr) (hne : e ≠ it) :
    Turn P w K (.Tuple elts x1 pos) (Ite l) [e, it] e (fun i h => (∃ old, IsEnum h e it ((i : Nat) : Int) old) ∧ h.IsListIter it l i) where
  mem := by simp
  obj := by
    rintro i h ⟨⟨old, s1⟩, ⟨o4, s4, _, d4⟩⟩ b hb
    simp only [List.mem_cons, List.not_mem_nil, or_false] at hb
    rcases hb with rfl | rfl
    · exact ⟨_, s1, fun v e => by cases e⟩
    · exact ⟨_, s4, fun v e => by rw [d4] at e; cases e⟩
  keep := fun i h h' ⟨⟨old, s1⟩, s4⟩ k => ⟨⟨old, k e (by simp) _ s1⟩, iter_move s4 (k it (by simp))⟩
  item := by
    intro X hP hw hK hc i pins s σ H E I hf st hg
    subst hP hw hK
    obtain ⟨⟨old, s1⟩, s4⟩ := st
    obtain ⟨xs, ha, lt1⟩ := hg
    obtain ⟨_, it1, n1, rv1, le1, g1⟩ := I.lstM ha
    have ex : xs[i]? = some xs[i] := List.getElem?_eq_getElem lt1
    obtain ⟨u, hu, ru⟩ := vals_at rv1 ex
    refine wpAny_pyNext_enum_item s1 s4 (items := it1.toArray) ⟨_, g1, rfl, n1, rfl⟩ (x := u) (by simpa using hu) hne fun h' a1 a3 a5 a6 a7 => ⟨_, rfl, ?_⟩
    refine wpAny_letOwnedTupleGo_enum a1 fun h2 st2 sb => ?_
    have nt : H s.heap.objs.size = none := I.fresh
    have I1 := I.laid (a := s.heap.objs.size) (o := .tup [.int i, xs[i]]) (h' := s.heap.push { cls := .type "tuple", data := .seq #[.int i s.toks, u] }) (t' := s.toks + 1) (fun b q z => Heap.get?_push_of_some _ z) (Nat.le_refl _)
      ⟨(by show 2 ≤ sizeLine; decide), [.int i s.toks, u], .cons ⟨_, rfl⟩ (.cons ru .nil), _, Heap.get?_push_size _ rfl, rfl, _, rfl⟩
    have nz : e ≠ s.heap.objs.size := Nat.ne_of_lt (Heap.lt_size s1)
    have n1' : it ≠ s.heap.objs.size := by obtain ⟨o, e, _⟩ := s4; exact Nat.ne_of_lt (Heap.lt_size e)
    have fpn : ∀ b ∈ [e, it], upd H s.heap.objs.size (.tup [.int i, xs[i]]) b = none := by
      intro b hb
      have f0 := (hf b hb).1
      simp only [List.mem_cons, List.not_mem_nil, or_false] at hb
      rcases hb with rfl | rfl
      · exact (upd_ne nz).trans f0
      · exact (upd_ne n1').trans f0
    have I2 := I1.turnedL (ch := [e, it]) (h' := h2) (t' := s.toks + 1) (fun b ob hb z => by
      simp only [List.mem_cons, List.not_mem_nil, or_false, not_or] at hb
      obtain ⟨b1, b3⟩ := hb
      refine (sb.2 b b1).trans ?_
      by_cases hs : b = s.heap.objs.size
      · subst hs
        have e2 := Heap.get?_push_size s.heap (o := { cls := .type "tuple", data := .seq #[.int i s.toks, u] }) rfl
        have z : (s.heap.push { cls := .type "tuple", data := .seq #[.int i s.toks, u] }).get? s.heap.objs.size = some ob := z
        rw [e2] at z
        cases z
        exact a5
      · exact a7 b _ b1 b3 (push_back z hs)) fun b hb => ⟨fpn b hb, (hf b hb).2⟩
    have mv : ∀ c o, c ≠ e → h'.get? c = some o → h2.get? c = some o := fun c o n z => (sb.2 c n).trans z
    exact ⟨.ref _, _, I2, rfl, ⟨xs, _, _, ha, ex, nt, rfl, rfl⟩, ⟨⟨_, by rw [Int.natCast_add]; exact st2⟩, iter_move a3 fun o z => mv _ _ (fun y => hne y.symm) z⟩, fpn⟩
  done := by
    intro X hP hw hK hc i pins s σ H E I hf st hg
    subst hP hw hK
    obtain ⟨⟨old, s1⟩, s4⟩ := st
    obtain ⟨xs, ha, lt⟩ := hg
    obtain ⟨_, it1, n1, rv1, le1, g1⟩ := I.lstM ha
    have hl := rv1.length
    refine wpAny_pyNext_enum_end (I.ok.hd hc) s1 s4 (items := it1.toArray) ⟨_, g1, rfl, n1, rfl⟩ (by simp; omega) fun h' k => ⟨rfl, I.turnedL (ch := [e, it]) (t' := s.toks) (fun b ob hb z => ?_) hf⟩
    simp only [List.mem_cons, List.not_mem_nil, or_false, not_or] at hb
    exact k b ob hb.2 z
  self := fun _ _ _ _ _ ⟨⟨_, s1⟩, _⟩ h => wpAny_pyIter_enum s1 h
section
variable {X : Cx}
def iEnum (ta : TA) : TI := fun σ H R => ta σ H fun vs H1 => ∃ a xs, vs = [.ref a] ∧ H1 a = some (.lst xs) ∧ R (Ite a) H1
theorem pi_enum {a : Expr} {ta : TA} {elts : List Expr} {x1} {p pos tpos : Pos} (hg : Gl X "enumerate") (hm : X.mg "enumerate" = none) (ha : PA X [a] ta) (hs : starEach [a] X.env = [(false, eval a X.env)] := by rfl) :
    PI X (.Tuple elts x1 tpos) (.Call (.Name "enumerate" p) [a] [] pos) (iEnum ta) := by
  intro pins s σ H R I h
  refine Call_ (ld_blt I hg hm boot_enumerate (PyProof.Rows.callWith_type1 (thn (ha pos pins s σ H _ I h) fun us s1 ⟨vs, H1, I1, r1, q1⟩ => ?_) (by rw [hs]; rfl) (by rfl)))
  obtain ⟨l1, xs, e, h1, q⟩ := q1
  subst e
  obtain ⟨u, rfl, ru⟩ := r1.one
  cases ru
  obtain ⟨_, it1, n1, rv1, le1, g1⟩ := I1.lstM h1
  refine call_enumerate_list (items := it1.toArray) ⟨_, g1, rfl, n1, rfl⟩ fun h' a1 a2 a3 a7 => ?_
  refine wpAny_pyIter_enum a1 ?_
  refine ⟨_, [s1.heap.objs.size + 1, s1.heap.objs.size], _, Ite l1, H1, rfl, I1.kept (t' := s1.toks) fun b ob e => a7 b ob e, turn_enum _ _ l1 (Nat.succ_ne_self _), ⟨⟨_, a1⟩, a2⟩, fun b hb => ?_, q⟩
  have hb' : s1.heap.objs.size ≤ b := by
    simp only [List.mem_cons, List.not_mem_nil, or_false] at hb
    rcases hb with z | z
    · rw [z]; exact Nat.le_succ _
    · rw [z]; exact Nat.le_refl _
  exact I1.fpOk hb' (I1.hok.fresh hb')
end
theorem tFor_enumM {ta : TA} {g : TG} {tb : TS} {D : Ends} {σ : L2.St} {H : Hp} (h : ta σ H fun vs H1 => ∃ a xs, vs = [.ref a] ∧ H1 a = some (.lst xs) ∧ ∃ J : Nat → L2.St → Hp → Prop, J 0 σ H1 ∧
      (∀ (k : Nat) x σ' H' t, xs[k]? = some x → J k σ' H' → H' a = some (.lst xs) → H' t = none → g (.ref t) σ' (upd H' t (.tup [.int k, x])) fun σ2 H2 => tb { D with nx := fun σ3 H3 => H3 a = some (.lst xs) ∧ J (k + 1) σ3 H3, ct := fun σ3 H3 => H3 a = some (.lst xs) ∧ J (k + 1) σ3 H3, bk := D.nx } σ2 H2) ∧
      ∀ σ' H', J xs.length σ' H' → H' a = some (.lst xs) → D.nx σ' H') : tFor (iEnum (tMA ta)) g tb D σ H := by
  refine ⟨_, h, ?_⟩
  rintro vs H1 ⟨a, xs, rfl, hx, J, j0, step, fin⟩
  refine ⟨a, xs, rfl, hx, fun k m σ' H' => k ≤ xs.length ∧ m = xs.length - k ∧ H' a = some (.lst xs) ∧ J k σ' H', ⟨_, Nat.zero_le _, rfl, hx, j0⟩, ?_⟩
  rintro k m σ' H' ⟨hk, rfl, ha', j⟩
  by_cases e : k = xs.length
  · subst e
    exact .inl ⟨⟨xs, ha', Nat.le_refl _⟩, fin σ' H' j ha'⟩
  · have hlt : k < xs.length := by omega
    refine .inr ⟨⟨xs, ha', hlt⟩, fun σ3 H3 => H3 a = some (.lst xs) ∧ J (k + 1) σ3 H3, fun σ3 H3 ⟨z1, z3⟩ => ⟨xs.length - (k + 1), by omega, by omega, rfl, z1, z3⟩, ?_⟩
    rintro v H'' ⟨xs', x, t, e1, e3, e5, rfl, rfl⟩
    rw [ha'] at e1
    cases e1
    exact step k x σ' H' t e3 j ha' e5
end L2
namespace L2
open PySem PySem.Spec PyProof.Rows
def Bm (i : Int) : Prop := i.natAbs < 2 ^ 500000
theorem Bm.bits {i : Int} (h : Bm i) : Builtin.Int.intBits i ≤ 2 ^ 20 := by
  have e : (2 : Nat) ^ 20 = 1048576 := by decide
  have l : i.natAbs.log2 < 500000 := by
    by_cases h0 : i.natAbs = 0
    · rw [h0, Nat.log2_zero]; omega
    · exact (Nat.log2_lt h0).mpr h
  unfold Builtin.Int.intBits
  split
  · exact Nat.zero_le _
  · omega
theorem op_mulM {X : Cx} : OpR X (binaryOp .Mult) (rI (fun i j => Bm i ∧ Bm j) fun i j => .int (i * j)) := opI fun _ _ _ _ _ _ _ hc q => mul_int q (.of_bits hc.1.bits hc.2.bits)
end L2
namespace Lv
def lcmL (bs : List Nat) : Nat := bs.foldl Nat.lcm 1
theorem foldl_lcm_dvd : ∀ (bs : List Nat) (a m : Nat), bs.foldl Nat.lcm a ∣ m ↔ a ∣ m ∧ ∀ b ∈ bs, b ∣ m
  | [], a, m => by simp
  | b :: bs, a, m => by
    rw [List.foldl_cons, foldl_lcm_dvd bs, Nat.lcm_dvd_iff]
    simp only [List.mem_cons, forall_eq_or_imp, and_assoc]
theorem lcmL_dvd {bs : List Nat} {m : Nat} : lcmL bs ∣ m ↔ ∀ b ∈ bs, b ∣ m := by
  unfold lcmL
  rw [foldl_lcm_dvd]
  simp
theorem dvd_lcmL {bs : List Nat} {b : Nat} (h : b ∈ bs) : b ∣ lcmL bs := lcmL_dvd.mp (Nat.dvd_refl _) b h
theorem foldl_lcm_pos : ∀ (bs : List Nat) (a : Nat), 0 < a → (∀ b ∈ bs, 0 < b) → 0 < bs.foldl Nat.lcm a
  | [], a, h, _ => h
  | b :: bs, a, h, hb => foldl_lcm_pos bs _ (Nat.lcm_pos h (hb b List.mem_cons_self)) fun c hc => hb c (List.mem_cons_of_mem _ hc)
theorem lcmL_pos {bs : List Nat} (h : ∀ b ∈ bs, 0 < b) : 0 < lcmL bs := foldl_lcm_pos bs 1 (by decide) h
end Lv
set_option linter.all false
set_option maxRecDepth 100000
namespace Ac
def lw (t b : Int) : Int × Int := (t / (Int.gcd t b : Nat), b / (Int.gcd t b : Nat))
theorem gpos {t b : Int} (hb : 0 < b) : (0 : Int) < (Int.gcd t b : Nat) := by
  have := Int.gcd_pos_of_ne_zero_right t (show b ≠ 0 by omega)
  omega
theorem lw_pos {t b : Int} (hb : 0 < b) : 0 < (lw t b).2 := Int.ediv_pos_of_pos_of_dvd hb (Int.le_of_lt (gpos hb)) (Int.gcd_dvd_right t b)
theorem lw_gcd {t b : Int} (hb : 0 < b) : Int.gcd (lw t b).1 (lw t b).2 = 1 := Int.gcd_ediv_gcd_ediv_gcd (by have := gpos (t := t) hb; omega)
theorem lw_eq {t b : Int} (hb : 0 < b) : (lw t b).1 * b = t * (lw t b).2 := by
  have d1 := Int.gcd_dvd_left t b
  have d2 := Int.gcd_dvd_right t b
  have g0 := gpos (t := t) hb
  unfold lw
  generalize hg : ((Int.gcd t b : Nat) : Int) = g at *
  obtain ⟨x, rfl⟩ := d1
  obtain ⟨y, rfl⟩ := d2
  show g * x / g * (g * y) = g * x * (g * y / g)
  rw [Int.mul_ediv_cancel_left _ (by omega), Int.mul_ediv_cancel_left _ (by omega), Int.mul_left_comm, Int.mul_assoc]
theorem lw_b1 (t b : Int) : (lw t b).1.natAbs ≤ t.natAbs := Int.natAbs_ediv_le_natAbs _ _
theorem dvd_cop {a b c : Int} (h : a ∣ b * c) (g : Int.gcd a b = 1) : a ∣ c := by
  refine Int.natAbs_dvd_natAbs.mp ((show Nat.Coprime a.natAbs b.natAbs from g).dvd_of_dvd_mul_left ?_)
  rw [← Int.natAbs_mul]
  exact Int.natAbs_dvd_natAbs.mpr h
theorem uniq {x y u v : Int} (hy : 0 < y) (hv : 0 < v) (g1 : Int.gcd x y = 1) (g2 : Int.gcd u v = 1) (e : x * v = u * y) : x = u ∧ y = v := by
  have d1 : y ∣ v := by
    have h : y ∣ x * v := ⟨u, by rw [e, Int.mul_comm]⟩
    exact dvd_cop h (by rw [Int.gcd_comm]; exact g1)
  have d2 : v ∣ y := by
    have h : v ∣ u * y := ⟨x, by rw [← e, Int.mul_comm]⟩
    exact dvd_cop h (by rw [Int.gcd_comm]; exact g2)
  have e2 : y = v := Int.dvd_antisymm (by omega) (by omega) d1 d2
  subst e2
  exact ⟨Int.eq_of_mul_eq_mul_right (by omega) e, rfl⟩
theorem is_lw {t b x y : Int} (hb : 0 < b) (hy : 0 < y) (g : Int.gcd x y = 1) (e : x * b = t * y) : x = (lw t b).1 ∧ y = (lw t b).2 := by
  refine uniq hy (lw_pos hb) g (lw_gcd hb) ?_
  have h := lw_eq (t := t) hb
  have h1 : x * (lw t b).2 * b = (lw t b).1 * y * b := by
    rw [Int.mul_right_comm, e, Int.mul_right_comm _ y b, h, Int.mul_right_comm]
  exact Int.eq_of_mul_eq_mul_right (by omega) h1
section
variable {κ : Type} [DecidableEq κ]
def look (acc : List (κ × Int)) (r : κ) : Int := ((acc.find? fun g => decide (g.1 = r)).map (·.2)).getD 0
def put (acc : List (κ × Int)) (r : κ) (y : Int) : List (κ × Int) := if (acc.any fun g => decide (g.1 = r)) = true then acc.map (fun g => if g.1 = r then (g.1, y) else g) else acc ++ [(r, y)]
def accs (gs : List (κ × Int)) : List (κ × Int) := gs.foldl (fun a g => put a g.1 (look a g.1 + g.2)) []
def ways (gs : List (κ × Int)) (S : Int) : List (κ × Int × Int) := ((accs gs).filter fun g => decide (0 < g.2)).map fun g => (g.1, lw g.2 S)
end
end Ac
set_option linter.all false
set_option maxRecDepth 100000
namespace Rw
open Ac
def rep (r : List Int × Int) : List (Int × Int) := r.1.map fun t => lw t r.2
structure Bnd (L M : Int) (r : List Int × Int) : Prop where
  pos : 0 < r.2
  dvd : r.2 ∣ L
  top : ∀ t ∈ r.1, t ≤ M * r.2 ∧ -(M * r.2) ≤ t
def gcL (ts : List Int) (b : Int) : Int := ts.foldl (fun c t => ((Int.gcd t c : Nat) : Int)) b
theorem gcL_pos : ∀ {ts : List Int} {b : Int}, 0 < b → 0 < gcL ts b
  | [], _, h => h
  | t :: ts, b, h => gcL_pos (ts := ts) (gpos (t := t) h)
theorem gcL_dvd : ∀ {ts : List Int} {b : Int}, gcL ts b ∣ b ∧ ∀ t ∈ ts, gcL ts b ∣ t
  | [], b => ⟨Int.dvd_refl b, by simp⟩
  | t :: ts, b => by
    obtain ⟨h1, h2⟩ := gcL_dvd (ts := ts) (b := ((Int.gcd t b : Nat) : Int))
    refine ⟨Int.dvd_trans h1 (Int.gcd_dvd_right t b), fun x hx => ?_⟩
    rcases List.mem_cons.mp hx with rfl | hx
    · exact Int.dvd_trans h1 (Int.gcd_dvd_left x b)
    · exact h2 x hx
theorem gcL_le {ts : List Int} {b : Int} (h : 0 < b) : gcL ts b ≤ b := Int.le_of_dvd h gcL_dvd.1
def redR (r : List Int × Int) : List Int × Int := (r.1.map fun t => t / gcL r.1 r.2, r.2 / gcL r.1 r.2)
theorem red_len (r : List Int × Int) : (redR r).1.length = r.1.length := by unfold redR; rw [List.length_map]
def timesR (r : List Int × Int) (c : Int × Int) : List Int × Int := (r.1.map fun t => t * c.1, r.2 * c.2)
structure Sm (c : Int × Int) : Prop where
  pos : 0 < c.2
  d60 : c.2 ∣ 60
  lo : -9 ≤ c.1
  hi : c.1 ≤ 9
def plusR (r o : List Int × Int) (c : Int × Int) : List Int × Int :=
  (List.zipWith (fun a b => a * (o.2 * c.2 / ((Int.gcd r.2 (o.2 * c.2) : Nat) : Int)) + b * (r.2 / ((Int.gcd r.2 (o.2 * c.2) : Nat) : Int) * c.1)) r.1 o.1, r.2 * (o.2 * c.2 / ((Int.gcd r.2 (o.2 * c.2) : Nat) : Int)))
def sumF (c one more : Int × Int) : Int × Int := lw (one.1 * c.2 * more.2 + c.1 * more.1 * one.2) (one.2 * c.2 * more.2)
end Rw
set_option linter.all false
set_option maxRecDepth 100000
namespace Rw
open Ac
structure Big (N : Nat) (r : List Int × Int) : Prop where
  pos : 0 < r.2
  bot : r.2.natAbs ≤ N
  top : ∀ t ∈ r.1, t.natAbs ≤ N
theorem Big.le {N M : Nat} {r : List Int × Int} (h : Big N r) (hn : N ≤ M) : Big M r := ⟨h.pos, Nat.le_trans h.bot hn, fun t ht => Nat.le_trans (h.top t ht) hn⟩
theorem dvd_gcd_mul {d t g x : Int} (h1 : d ∣ t * x) (h2 : d ∣ g * x) : d ∣ ((Int.gcd t g : Nat) : Int) * x := by
  have h := Int.dvd_coe_gcd h1 h2
  rw [Int.gcd_mul_right] at h
  rw [Int.natCast_mul] at h
  rcases Int.natAbs_eq x with e | e
  · rw [e]; exact h
  · rw [e, Int.mul_neg]
    exact Int.dvd_neg.mpr h
theorem dvd_gcL_mul {d x : Int} : ∀ {ts : List Int} {b : Int}, d ∣ b * x → (∀ t ∈ ts, d ∣ t * x) → d ∣ gcL ts b * x
  | [], _, h, _ => h
  | t :: ts, b, h, k => dvd_gcL_mul (ts := ts) (dvd_gcd_mul (k t List.mem_cons_self) h) fun u hu => k u (List.mem_cons_of_mem _ hu)
def Alk (r s : List Int × Int) : Prop := r.1.length = s.1.length ∧ ∀ (k : Nat) (a b : Int), r.1[k]? = some a → s.1[k]? = some b → a * s.2 = b * r.2
theorem gcL_red {r : List Int × Int} (h : 0 < r.2) : gcL (redR r).1 (redR r).2 = 1 := by
  have g0 := gcL_pos (ts := r.1) h
  obtain ⟨d1, d2⟩ := gcL_dvd (ts := r.1) (b := r.2)
  have p : 0 < (redR r).2 := Int.ediv_pos_of_pos_of_dvd h (Int.le_of_lt g0) d1
  have q0 := gcL_pos (ts := (redR r).1) p
  obtain ⟨e1, e2⟩ := gcL_dvd (ts := (redR r).1) (b := (redR r).2)
  have key : gcL (redR r).1 (redR r).2 * gcL r.1 r.2 ∣ gcL r.1 r.2 * 1 := by
    refine dvd_gcL_mul ?_ fun t ht => ?_
    · obtain ⟨u, hu⟩ := e1
      have hu : r.2 / gcL r.1 r.2 = gcL (redR r).1 (redR r).2 * u := hu
      refine ⟨u, ?_⟩
      rw [Int.mul_one, Int.mul_right_comm, ← hu, Int.ediv_mul_cancel d1]
    · obtain ⟨u, hu⟩ := e2 (t / gcL r.1 r.2) (List.mem_map.mpr ⟨t, ht, rfl⟩)
      refine ⟨u, ?_⟩
      rw [Int.mul_one, Int.mul_right_comm, ← hu, Int.ediv_mul_cancel (d2 t ht)]
  rw [Int.mul_one] at key
  have := Int.le_of_dvd g0 key
  have : gcL (redR r).1 (redR r).2 ≤ 1 := by
    refine Int.le_of_mul_le_mul_right (a := gcL r.1 r.2) ?_ g0
    omega
  omega
theorem least {N : Nat} {r s : List Int × Int} (hr : 0 < r.2) (g : gcL r.1 r.2 = 1) (a : Alk r s) (h : Big N s) : Big N r := by
  have d : r.2 ∣ gcL r.1 r.2 * s.2 := dvd_gcL_mul ⟨s.2, rfl⟩ fun t ht => by
    obtain ⟨k, hk, rfl⟩ := List.mem_iff_getElem.mp ht
    have hs : k < s.1.length := by rw [← a.1]; exact hk
    rw [a.2 k _ _ (List.getElem?_eq_getElem hk) (List.getElem?_eq_getElem hs)]
    exact ⟨_, Int.mul_comm _ _⟩
  rw [g, Int.one_mul] at d
  obtain ⟨m, hm⟩ := d
  have m0 : 0 < m := Int.pos_of_mul_pos_right (by rw [← hm]; exact h.pos) hr
  refine ⟨hr, ?_, fun t ht => ?_⟩
  · have := Int.le_of_dvd h.pos ⟨m, hm⟩
    have := h.bot
    omega
  · obtain ⟨k, hk, rfl⟩ := List.mem_iff_getElem.mp ht
    have hs : k < s.1.length := by rw [← a.1]; exact hk
    have e := a.2 k _ _ (List.getElem?_eq_getElem hk) (List.getElem?_eq_getElem hs)
    rw [hm, Int.mul_comm r.2 m, ← Int.mul_assoc] at e
    have e := Int.eq_of_mul_eq_mul_right (Int.ne_of_gt hr) e
    have b := h.top _ (List.getElem_mem hs)
    rw [← e, Int.natAbs_mul] at b
    exact Nat.le_trans (Nat.le_mul_of_pos_right _ (by omega)) b
theorem alk_red {r s : List Int × Int} (hr : 0 < r.2) (a : Alk r s) : Alk (redR r) s := by
  have g0 := gcL_pos (ts := r.1) hr
  obtain ⟨d1, d2⟩ := gcL_dvd (ts := r.1) (b := r.2)
  refine ⟨by rw [red_len]; exact a.1, fun k x y hx hy => ?_⟩
  have hx : (r.1.map fun t => t / gcL r.1 r.2)[k]? = some x := hx
  rw [List.getElem?_map] at hx
  cases e : r.1[k]? with
  | none => rw [e] at hx; cases hx
  | some t =>
    rw [e] at hx
    cases hx
    have k1 := a.2 k t y e hy
    show t / gcL r.1 r.2 * s.2 = y * (r.2 / gcL r.1 r.2)
    obtain ⟨u, hu⟩ := d2 t (List.mem_of_getElem? e)
    obtain ⟨v, hv⟩ := d1
    generalize gcL r.1 r.2 = q at *
    rw [hu, hv] at k1 ⊢
    rw [Int.mul_ediv_cancel_left _ (Int.ne_of_gt g0), Int.mul_ediv_cancel_left _ (Int.ne_of_gt g0)]
    refine Int.eq_of_mul_eq_mul_left (Int.ne_of_gt g0) ?_
    rw [← Int.mul_assoc, k1, Int.mul_left_comm]
theorem red_big {N : Nat} {r s : List Int × Int} (hr : 0 < r.2) (a : Alk r s) (h : Big N s) : Big N (redR r) := by
  have g0 := gcL_pos (ts := r.1) hr
  exact least (Int.ediv_pos_of_pos_of_dvd hr (Int.le_of_lt g0) gcL_dvd.1) (gcL_red hr) (alk_red hr a) h
theorem begin_big {N : Nat} {r : List Int × Int} {c : Int × Int} {k : Nat} {t : Int} (h : Big N r) (ht : r.1[k]? = some t) (t0 : t ≠ 0) (hc : 0 < c.2) (e : c.1 * t = c.2 * r.2) :
    Big N (redR (timesR r c)) ∧ (redR (timesR r c)).1[k]? = some (redR (timesR r c)).2 := by
  have hp : 0 < (timesR r c).2 := Int.mul_pos h.pos hc
  have tb := h.top t (List.mem_of_getElem? ht)
  refine ⟨?_, ?_⟩
  · refine red_big hp (s := (r.1.map fun x => x * t.sign, t.natAbs)) ⟨?_, fun j a b ha hb => ?_⟩ ⟨?_, ?_, fun x hx => ?_⟩
    · unfold timesR; rw [List.length_map, List.length_map]
    · have ha : (r.1.map fun t => t * c.1)[j]? = some a := ha
      have hb : (r.1.map fun x => x * t.sign)[j]? = some b := hb
      rw [List.getElem?_map] at ha hb
      cases ej : r.1[j]? with
      | none => rw [ej] at ha; cases ha
      | some x =>
        rw [ej] at ha hb
        cases ha
        cases hb
        show x * c.1 * ((t.natAbs : Nat) : Int) = x * t.sign * (r.2 * c.2)
        have k1 : ((t.natAbs : Nat) : Int) = t * t.sign := (Int.mul_sign_self t).symm
        rw [k1, Int.mul_assoc, ← Int.mul_assoc c.1 t, e, Int.mul_assoc x, Int.mul_comm (c.2 * r.2), Int.mul_comm c.2]
    · show (0 : Int) < (t.natAbs : Nat)
      omega
    · show (((t.natAbs : Nat) : Int)).natAbs ≤ N
      rw [Int.natAbs_natCast]; exact tb
    · obtain ⟨y, hy, rfl⟩ := List.mem_map.mp hx
      rw [Int.natAbs_mul, Int.natAbs_sign_of_ne_zero t0, Nat.mul_one]
      exact h.top y hy
  · have e1 : (timesR r c).1[k]? = some (timesR r c).2 := by
      show (r.1.map fun t => t * c.1)[k]? = some (r.2 * c.2)
      rw [List.getElem?_map, ht]
      show some (t * c.1) = _
      rw [Int.mul_comm t, e, Int.mul_comm]
    show ((timesR r c).1.map fun t => t / gcL (timesR r c).1 (timesR r c).2)[k]? = _
    rw [List.getElem?_map, e1]; rfl
theorem clear_big {N : Nat} {r p : List Int × Int} {c : Int × Int} {k : Nat} {a : Int} (h : Big N r) (hp : Big N p) (hl : r.1.length = p.1.length) (ha : r.1[k]? = some a) (hk : p.1[k]? = some p.2) (hc : 0 < c.2) (e : c.1 * r.2 = -a * c.2) :
    Big (2 * (N * N)) (redR (plusR r p c)) ∧ (redR (plusR r p c)).1[k]? = some 0 := by
  have hB := Int.mul_pos hp.pos hc
  have g0 := gpos (t := r.2) hB
  obtain ⟨u, hu⟩ := Int.gcd_dvd_left r.2 (p.2 * c.2)
  obtain ⟨v, hv⟩ := Int.gcd_dvd_right r.2 (p.2 * c.2)
  have es : plusR r p c = (List.zipWith (fun x y => x * v + y * (u * c.1)) r.1 p.1, r.2 * v) := by
    unfold plusR
    generalize ((Int.gcd r.2 (p.2 * c.2) : Nat) : Int) = g at g0 hu hv ⊢
    have e1 : p.2 * c.2 / g = v := by rw [hv, Int.mul_ediv_cancel_left _ (Int.ne_of_gt g0)]
    have e2 : r.2 / g = u := by
      conv => lhs; rw [hu]
      exact Int.mul_ediv_cancel_left _ (Int.ne_of_gt g0)
    rw [e1, e2]
  generalize ((Int.gcd r.2 (p.2 * c.2) : Nat) : Int) = g at g0 hu hv
  have v0 : 0 < v := Int.pos_of_mul_pos_right (by rw [← hv]; exact hB) g0
  have key : u * c.1 * p.2 = -a * v := by
    refine Int.eq_of_mul_eq_mul_left (Int.ne_of_gt g0) ?_
    calc g * (u * c.1 * p.2) = (g * u) * c.1 * p.2 := by ac_rfl
      _ = r.2 * c.1 * p.2 := by rw [← hu]
      _ = (c.1 * r.2) * p.2 := by ac_rfl
      _ = -a * c.2 * p.2 := by rw [e]
      _ = -a * (p.2 * c.2) := by ac_rfl
      _ = -a * (g * v) := by rw [hv]
      _ = g * (-a * v) := by ac_rfl
  have pos : 0 < (plusR r p c).2 := by rw [es]; exact Int.mul_pos h.pos v0
  have na := h.top a (List.mem_of_getElem? ha)
  have rn := h.bot
  have pn := hp.bot
  have n2 : ∀ {x y : Int}, x.natAbs ≤ N → y.natAbs ≤ N → (x * y).natAbs ≤ N * N := fun h1 h2 => by rw [Int.natAbs_mul]; exact Nat.mul_le_mul h1 h2
  refine ⟨?_, ?_⟩
  · refine red_big pos (s := (List.zipWith (fun x y => x * p.2 - a * y) r.1 p.1, r.2 * p.2)) ⟨?_, fun j x y hx hy => ?_⟩ ⟨Int.mul_pos h.pos hp.pos, ?_, fun x hx => ?_⟩
    · rw [es, List.length_zipWith, List.length_zipWith]
    · rw [es] at hx ⊢
      have hx : (List.zipWith (fun x y => x * v + y * (u * c.1)) r.1 p.1)[j]? = some x := hx
      have hy : (List.zipWith (fun x y => x * p.2 - a * y) r.1 p.1)[j]? = some y := hy
      rw [List.getElem?_zipWith] at hx hy
      cases e1 : r.1[j]? with
      | none => rw [e1] at hx; cases hx
      | some x1 =>
        cases e2 : p.1[j]? with
        | none => rw [e1, e2] at hx; cases hx
        | some y1 =>
          rw [e1, e2] at hx hy
          cases hx
          cases hy
          show (x1 * v + y1 * (u * c.1)) * (r.2 * p.2) = (x1 * p.2 - a * y1) * (r.2 * v)
          rw [Int.add_mul, Int.sub_mul]
          have k1 : y1 * (u * c.1) * (r.2 * p.2) = -(a * y1 * (r.2 * v)) := by
            calc y1 * (u * c.1) * (r.2 * p.2) = y1 * r.2 * (u * c.1 * p.2) := by ac_rfl
              _ = y1 * r.2 * (-a * v) := by rw [key]
              _ = -(a * y1 * (r.2 * v)) := by rw [Int.neg_mul, Int.mul_neg]; congr 1; ac_rfl
          rw [k1, Int.sub_eq_add_neg]
          congr 1
          ac_rfl
    · exact Nat.le_trans (n2 rn pn) (by omega)
    · obtain ⟨j, hj, rfl⟩ := List.mem_iff_getElem.mp hx
      rw [List.getElem_zipWith]
      rw [List.length_zipWith] at hj
      have b1 := n2 (h.top _ (List.getElem_mem (show j < r.1.length by omega))) pn
      have b2 := n2 na (hp.top _ (List.getElem_mem (show j < p.1.length by omega)))
      omega
  · have e1 : (plusR r p c).1[k]? = some 0 := by
      rw [es]
      show (List.zipWith (fun x y => x * v + y * (u * c.1)) r.1 p.1)[k]? = some 0
      rw [List.getElem?_zipWith, ha, hk]
      show some (a * v + p.2 * (u * c.1)) = some 0
      have : p.2 * (u * c.1) = -(a * v) := by rw [Int.mul_comm, key, Int.neg_mul]
      rw [this]
      congr 1
      omega
    show ((plusR r p c).1.map fun t => t / gcL (plusR r p c).1 (plusR r p c).2)[k]? = _
    rw [List.getElem?_map, e1]
    show some (0 / _) = _
    rw [Int.zero_ediv]
end Rw
set_option linter.all false
set_option maxRecDepth 100000
namespace Rw
open Ac
theorem z_red {r : List Int × Int} {k : Nat} (h : r.1[k]? = some 0) : (redR r).1[k]? = some 0 := by
  show (r.1.map fun t => t / gcL r.1 r.2)[k]? = _
  rw [List.getElem?_map, h]
  show some (0 / _) = _
  rw [Int.zero_ediv]
theorem o_red {r : List Int × Int} {k : Nat} (h : r.1[k]? = some r.2) : (redR r).1[k]? = some (redR r).2 := by
  show (r.1.map fun t => t / gcL r.1 r.2)[k]? = _
  rw [List.getElem?_map, h]; rfl
theorem z_times {r : List Int × Int} {c : Int × Int} {k : Nat} (h : r.1[k]? = some 0) : (timesR r c).1[k]? = some 0 := by
  show (r.1.map fun t => t * c.1)[k]? = _
  rw [List.getElem?_map, h]
  show some (0 * _) = _
  rw [Int.zero_mul]
theorem z_plus {r p : List Int × Int} {c : Int × Int} {k : Nat} (h : r.1[k]? = some 0) (hp : p.1[k]? = some 0) : (plusR r p c).1[k]? = some 0 := by
  show (List.zipWith (fun a b => a * (p.2 * c.2 / ((Int.gcd r.2 (p.2 * c.2) : Nat) : Int)) + b * (r.2 / ((Int.gcd r.2 (p.2 * c.2) : Nat) : Int) * c.1)) r.1 p.1)[k]? = _
  rw [List.getElem?_zipWith, h, hp]
  show some (0 * _ + 0 * _) = _
  rw [Int.zero_mul, Int.zero_mul]; rfl
theorem o_plus {r p : List Int × Int} {c : Int × Int} {k : Nat} (h : r.1[k]? = some r.2) (hp : p.1[k]? = some 0) : (plusR r p c).1[k]? = some (plusR r p c).2 := by
  show (List.zipWith (fun a b => a * (p.2 * c.2 / ((Int.gcd r.2 (p.2 * c.2) : Nat) : Int)) + b * (r.2 / ((Int.gcd r.2 (p.2 * c.2) : Nat) : Int) * c.1)) r.1 p.1)[k]? = some (r.2 * (p.2 * c.2 / ((Int.gcd r.2 (p.2 * c.2) : Nat) : Int)))
  rw [List.getElem?_zipWith, h, hp]
  show some (_ + 0 * _) = _
  rw [Int.zero_mul, Int.add_zero]
def gr (N : Nat) : Nat → Nat
  | 0 => N
  | m + 1 => 2 * (gr N m * gr N m)
theorem gr_le {N m : Nat} (h : 1 ≤ N) : 1 ≤ gr N m ∧ gr N m ≤ gr N (m + 1) := by
  have k : ∀ m, 1 ≤ gr N m := fun m => by
    induction m with
    | zero => exact h
    | succ m ih =>
      show 1 ≤ 2 * (gr N m * gr N m)
      have := Nat.mul_le_mul ih ih
      omega
  refine ⟨k m, ?_⟩
  show gr N m ≤ 2 * (gr N m * gr N m)
  have := Nat.mul_le_mul (k m) (Nat.le_refl (gr N m))
  omega
theorem gr_mono {N m n : Nat} (h : 1 ≤ N) (hm : m ≤ n) : gr N m ≤ gr N n := by
  induction hm with
  | refl => exact Nat.le_refl _
  | step _ ih => exact Nat.le_trans ih (gr_le h).2
end Rw
set_option Elab.async false
set_option linter.all false
set_option maxRecDepth 100000
set_option maxHeartbeats 4000000
namespace K19
open PySem PyProof.Rows L2
local macro_rules | `(tactic| walk_at "rd") => `(tactic| simp only [tSeq, tIfS, tRet, tRetN, tOp, tUn, rU, rIxTH, rIxLH, rCat, tSl, tVar, tC, tPart, rI0, rI, rSlL, tLst, tTup, tCons, tNil, tCB, tCallF, tTest, tNot, tOr, tAnd, tNotV, tAndV, tOrV, tTru, tAsg, tPar, gName, gNil, gCons, gTupH, gLstH, rLenT, rLenL, rIsi, rSrtH, tyS_non, tyS_bl, tyS_int, tyS_str, subS, truB, rEq, rNe, scal, tNext, tDrop, tCallX, tDisp1, tRaise, tTryAs, rIsiN, rIsiT, rIsB, rEqH, Ends.unset, tApp, tClr, rListH, gSub, rSetL, rIxL, rEqR, rSumH, rMaxH, rMinH, tRev, tSM, tDispS, tMakeI, tMethI, tFld, sFld, tDGet, tDGet2, tDIn, tDNotIn, tDNewK, sDPut, rIsiC, rJoin, rMin2, rMax2, tB, rIxT, gTup, rEqK, rIsiTup, rLenK, rAddS, rLeS, rInS, rIntT, rAllH, rStarts, rFind, rSplit, rMulS, tChain, rSlS, rIxS, tNoPart, V.str.injEq,
  L2.start, List.replicate_succ, List.replicate_zero, Nat.reduceSub, Nat.reduceAdd, List.map_cons, List.map_nil, List.length_cons, List.length_nil, List.cons_append, List.nil_append, List.append_nil, List.getElem?_cons_zero, List.getElem?_cons_succ, List.set_cons_zero, List.set_cons_succ, List.set_nil, Option.some.injEq, exists_eq_left', exists_eq_left, exists_and_left, exists_and_right, exists_eq_right, exists_eq, exists_eq', and_assoc, V.int.injEq, V.ref.injEq, V.bl.injEq, V.ty.injEq, List.cons.injEq, HO.tup.injEq, HO.lst.injEq, and_true, true_and, reduceCtorEq, atI_0, atI_1, upd_same, decide_true, decide_false, Bool.not_true, Bool.not_false, if_true, if_false, ite_true, ite_false, Bool.false_eq_true, List.mem_cons, String.reduceEq, or_true, true_or, or_false, false_or, beq_self_eq_true, Bool.or_true, Bool.true_or, Bool.or_false, Bool.false_or, Bool.and_true, Bool.and_false, Bool.true_and, Bool.false_and, String.reduceBEq, Int.reduceToNat, Int.reducePow, Int.reduceMul, Int.reduceSub, Int.reduceAdd, Int.reduceNeg, Int.reduceLE, Int.reduceLT, Int.reduceEq, ne_eq, not_false_eq_true, not_true_eq_false, Int.cast_ofNat_Int])
def top (i : Nat) : Stmt := PySem.Challenge.pw_chancehall_k19_whole_heavy_rows.main.body.getD i (.Pass ⟨0, 0, 0, 0⟩)
abbrev s_is_whole : Stmt := top 4
abbrev ps_is_whole : List Str := ["thing"]
abbrev nm_is_whole : Str := "is_whole"
theorem sc_is_whole : FnScope ["thing"] ps_is_whole (defScope s_is_whole) := ⟨rfl, rfl, rfl, by decide +kernel, rfl, by decide +kernel, by decide +kernel⟩
abbrev s_divisor : Stmt := top 5
abbrev ps_divisor : List Str := ["one", "other"]
abbrev nm_divisor : Str := "divisor"
theorem sc_divisor : FnScope ["one", "other", "left", "right", "rest"] ps_divisor (defScope s_divisor) := ⟨rfl, rfl, rfl, by decide +kernel, rfl, by decide +kernel, by decide +kernel⟩
abbrev s_ratio : Stmt := top 9
abbrev ps_ratio : List Str := ["top", "bottom"]
abbrev nm_ratio : Str := "ratio"
theorem sc_ratio : FnScope ["top", "bottom", "common"] ps_ratio (defScope s_ratio) := ⟨rfl, rfl, rfl, by decide +kernel, rfl, by decide +kernel, by decide +kernel⟩
abbrev s_minus : Stmt := top 10
abbrev ps_minus : List Str := ["one", "other"]
abbrev nm_minus : Str := "minus"
theorem sc_minus : FnScope ["one", "other"] ps_minus (defScope s_minus) := ⟨rfl, rfl, rfl, by decide +kernel, rfl, by decide +kernel, by decide +kernel⟩
abbrev s_over : Stmt := top 11
abbrev ps_over : List Str := ["one", "other"]
abbrev nm_over : Str := "over"
theorem sc_over : FnScope ["one", "other"] ps_over (defScope s_over) := ⟨rfl, rfl, rfl, by decide +kernel, rfl, by decide +kernel, by decide +kernel⟩
abbrev s_level : Stmt := top 13
abbrev ps_level : List Str := ["fractions"]
abbrev nm_level : Str := "level"
theorem sc_level : FnScope ["fractions", "bottom", "one"] ps_level (defScope s_level) := ⟨rfl, rfl, rfl, by decide +kernel, rfl, by decide +kernel, by decide +kernel⟩
abbrev s_lowest : Stmt := top 15
abbrev ps_lowest : List Str := ["tops", "bottom"]
abbrev nm_lowest : Str := "lowest"
theorem sc_lowest : FnScope ["tops", "bottom", "common", "top"] ps_lowest (defScope s_lowest) := ⟨rfl, rfl, rfl, by decide +kernel, rfl, by decide +kernel, by decide +kernel⟩
abbrev s_row_times : Stmt := top 16
abbrev ps_row_times : List Str := ["row", "often"]
abbrev nm_row_times : Str := "row_times"
theorem sc_row_times : FnScope ["row", "often"] ps_row_times (defScope s_row_times) := ⟨rfl, rfl, rfl, by decide +kernel, rfl, by decide +kernel, by decide +kernel⟩
abbrev s_row_plus : Stmt := top 17
abbrev ps_row_plus : List Str := ["row", "other", "often"]
abbrev nm_row_plus : Str := "row_plus"
theorem sc_row_plus : FnScope ["row", "other", "often", "bottom", "common", "own", "added", "tops"] ps_row_plus (defScope s_row_plus) := ⟨rfl, rfl, rfl, by decide +kernel, rfl, by decide +kernel, by decide +kernel⟩
abbrev s_take_step : Stmt := top 18
abbrev ps_take_step : List Str := ["leveled", "step"]
abbrev nm_take_step : Str := "take_step"
theorem sc_take_step : FnScope ["leveled", "step", "row"] ps_take_step (defScope s_take_step) := ⟨rfl, rfl, rfl, by decide +kernel, rfl, by decide +kernel, by decide +kernel⟩
abbrev s_number_at : Stmt := top 19
abbrev ps_number_at : List Str := ["row", "column"]
abbrev nm_number_at : Str := "number_at"
theorem sc_number_at : FnScope ["row", "column"] ps_number_at (defScope s_number_at) := ⟨rfl, rfl, rfl, by decide +kernel, rfl, by decide +kernel, by decide +kernel⟩
abbrev s_fractions_of : Stmt := top 20
abbrev ps_fractions_of : List Str := ["leveled"]
abbrev nm_fractions_of : Str := "fractions_of"
theorem sc_fractions_of : FnScope ["leveled"] ps_fractions_of (defScope s_fractions_of) := ⟨rfl, rfl, rfl, by decide +kernel, rfl, by decide +kernel, by decide +kernel⟩
abbrev s_first_from : Stmt := top 21
abbrev ps_first_from : List Str := ["leveled", "place", "column"]
abbrev nm_first_from : Str := "first_from"
theorem sc_first_from : FnScope ["leveled", "place", "column", "row"] ps_first_from (defScope s_first_from) := ⟨rfl, rfl, rfl, by decide +kernel, rfl, by decide +kernel, by decide +kernel⟩
abbrev s_go_on : Stmt := top 22
abbrev ps_go_on : List Str := ["leveled", "steps", "step"]
abbrev nm_go_on : Str := "go_on"
theorem sc_go_on : FnScope ["leveled", "steps", "step"] ps_go_on (defScope s_go_on) := ⟨rfl, rfl, rfl, by decide +kernel, rfl, by decide +kernel, by decide +kernel⟩
abbrev s_begin_row : Stmt := top 23
abbrev ps_begin_row : List Str := ["leveled", "steps", "place", "found", "column"]
abbrev nm_begin_row : Str := "begin_row"
theorem sc_begin_row : FnScope ["leveled", "steps", "place", "found", "column", "first"] ps_begin_row (defScope s_begin_row) := ⟨rfl, rfl, rfl, by decide +kernel, rfl, by decide +kernel, by decide +kernel⟩
abbrev s_clear_column : Stmt := top 24
abbrev ps_clear_column : List Str := ["leveled", "steps", "place", "column"]
abbrev nm_clear_column : Str := "clear_column"
theorem sc_clear_column : FnScope ["leveled", "steps", "place", "column", "row", "often"] ps_clear_column (defScope s_clear_column) := ⟨rfl, rfl, rfl, by decide +kernel, rfl, by decide +kernel, by decide +kernel⟩
abbrev s_reduced : Stmt := top 25
abbrev ps_reduced : List Str := ["rows", "wide"]
abbrev nm_reduced : Str := "reduced"
theorem sc_reduced : FnScope ["rows", "wide", "leveled", "steps", "place", "column", "found"] ps_reduced (defScope s_reduced) := ⟨rfl, rfl, rfl, by decide +kernel, rfl, by decide +kernel, by decide +kernel⟩
abbrev s_width_of : Stmt := top 27
abbrev ps_width_of : List Str := ["rows"]
abbrev nm_width_of : Str := "width_of"
theorem sc_width_of : FnScope ["rows"] ps_width_of (defScope s_width_of) := ⟨rfl, rfl, rfl, by decide +kernel, rfl, by decide +kernel, by decide +kernel⟩
abbrev s_with_rights : Stmt := top 28
abbrev ps_with_rights : List Str := ["rows", "rights"]
abbrev nm_with_rights : Str := "with_rights"
theorem sc_with_rights : FnScope ["rows", "rights"] ps_with_rights (defScope s_with_rights) := ⟨rfl, rfl, rfl, by decide +kernel, rfl, by decide +kernel, by decide +kernel⟩
abbrev s_begins_of : Stmt := top 29
abbrev ps_begins_of : List Str := ["end", "wide"]
abbrev nm_begins_of : Str := "begins_of"
theorem sc_begins_of : FnScope ["end", "wide", "begins", "row", "columns"] ps_begins_of (defScope s_begins_of) := ⟨rfl, rfl, rfl, by decide +kernel, rfl, by decide +kernel, by decide +kernel⟩
abbrev s_odd_row : Stmt := top 30
abbrev ps_odd_row : List Str := ["end", "begins", "wide"]
abbrev nm_odd_row : Str := "odd_row"
theorem sc_odd_row : FnScope ["end", "begins", "wide", "row"] ps_odd_row (defScope s_odd_row) := ⟨rfl, rfl, rfl, by decide +kernel, rfl, by decide +kernel, by decide +kernel⟩
abbrev s_answer_of : Stmt := top 31
abbrev ps_answer_of : List Str := ["end", "begins", "wide"]
abbrev nm_answer_of : Str := "answer_of"
theorem sc_answer_of : FnScope ["end", "begins", "wide", "answer", "row", "column"] ps_answer_of (defScope s_answer_of) := ⟨rfl, rfl, rfl, by decide +kernel, rfl, by decide +kernel, by decide +kernel⟩
abbrev s_only_answer : Stmt := top 32
abbrev ps_only_answer : List Str := ["rows", "rights"]
abbrev nm_only_answer : Str := "only_answer"
theorem sc_only_answer : FnScope ["rows", "rights", "wide", "end", "begins"] ps_only_answer (defScope s_only_answer) := ⟨rfl, rfl, rfl, by decide +kernel, rfl, by decide +kernel, by decide +kernel⟩
abbrev s_cell : Stmt := top 34
abbrev ps_cell : List Str := ["_law_script", "_law_k"]
abbrev nm_cell : Str := "_law_cell"
theorem sc_cell : FnScope ["_law_script", "_law_k"] ps_cell (defScope s_cell) := ⟨rfl, rfl, rfl, by decide +kernel, rfl, by decide +kernel, by decide +kernel⟩
abbrev s_stream : Stmt := top 35
abbrev ps_stream : List Str := ["_law_script", "_law_start", "_law_many"]
abbrev nm_stream : Str := "_law_stream"
theorem sc_stream : FnScope ["_law_script", "_law_start", "_law_many", "_law_found", "_law_number", "_law_k"] ps_stream (defScope s_stream) := ⟨rfl, rfl, rfl, by decide +kernel, rfl, by decide +kernel, by decide +kernel⟩
abbrev s_gcd : Stmt := top 36
abbrev ps_gcd : List Str := ["_law_one", "_law_other"]
abbrev nm_gcd : Str := "_law_gcd"
theorem sc_gcd : FnScope ["_law_one", "_law_other", "_law_low", "_law_high"] ps_gcd (defScope s_gcd) := ⟨rfl, rfl, rfl, by decide +kernel, rfl, by decide +kernel, by decide +kernel⟩
abbrev s_lratio : Stmt := top 37
abbrev ps_lratio : List Str := ["_law_top", "_law_bottom"]
abbrev nm_lratio : Str := "_law_ratio"
theorem sc_lratio : FnScope ["_law_top", "_law_bottom", "_law_common"] ps_lratio (defScope s_lratio) := ⟨rfl, rfl, rfl, by decide +kernel, rfl, by decide +kernel, by decide +kernel⟩
abbrev s_whole : Stmt := top 38
abbrev ps_whole : List Str := ["_law_found"]
abbrev nm_whole : Str := "_law_whole"
theorem sc_whole : FnScope ["_law_found"] ps_whole (defScope s_whole) := ⟨rfl, rfl, rfl, by decide +kernel, rfl, by decide +kernel, by decide +kernel⟩
abbrev s_is_fraction : Stmt := top 39
abbrev ps_is_fraction : List Str := ["_law_found"]
abbrev nm_is_fraction : Str := "_law_is_fraction"
theorem sc_is_fraction : FnScope ["_law_found"] ps_is_fraction (defScope s_is_fraction) := ⟨rfl, rfl, rfl, by decide +kernel, rfl, by decide +kernel, by decide +kernel⟩
abbrev s_fractions : Stmt := top 40
abbrev ps_fractions : List Str := ["_law_found", "_law_many"]
abbrev nm_fractions : Str := "_law_fractions"
theorem sc_fractions : FnScope ["_law_found", "_law_many"] ps_fractions (defScope s_fractions) := ⟨rfl, rfl, rfl, by decide +kernel, rfl, by decide +kernel, by decide +kernel⟩
abbrev s_products : Stmt := top 41
abbrev ps_products : List Str := ["_law_some", "_law_others"]
abbrev nm_products : Str := "_law_products"
theorem sc_products : FnScope ["_law_some", "_law_others", "_law_top", "_law_bottom", "_law_one", "_law_other"] ps_products (defScope s_products) := ⟨rfl, rfl, rfl, by decide +kernel, rfl, by decide +kernel, by decide +kernel⟩
abbrev s_comes : Stmt := top 42
abbrev ps_comes : List Str := ["_law_some", "_law_others", "_law_due"]
abbrev nm_comes : Str := "_law_comes"
theorem sc_comes : FnScope ["_law_some", "_law_others", "_law_due", "_law_top", "_law_bottom"] ps_comes (defScope s_comes) := ⟨rfl, rfl, rfl, by decide +kernel, rfl, by decide +kernel, by decide +kernel⟩
abbrev s_fraction : Stmt := top 43
abbrev ps_fraction : List Str := ["_law_number"]
abbrev nm_fraction : Str := "_law_fraction"
theorem sc_fraction : FnScope ["_law_number"] ps_fraction (defScope s_fraction) := ⟨rfl, rfl, rfl, by decide +kernel, rfl, by decide +kernel, by decide +kernel⟩
abbrev s_heavy : Stmt := top 44
abbrev ps_heavy : List Str := ["_law_numbers", "_law_at", "_law_weight", "_law_below"]
abbrev nm_heavy : Str := "_law_heavy"
theorem sc_heavy : FnScope ["_law_numbers", "_law_at", "_law_weight", "_law_below", "_law_row", "_law_some", "_law_top", "_law_bottom"] ps_heavy (defScope s_heavy) := ⟨rfl, rfl, rfl, by decide +kernel, rfl, by decide +kernel, by decide +kernel⟩
abbrev s_law : Stmt := top 45
abbrev ps_law : List Str := ["_law_script"]
abbrev nm_law : Str := "law"
theorem sc_law : FnScope ["_law_script", "_law_many", "_law_numbers", "_law_rows", "_law_weights", "_law_rights", "_law_k", "_law_handed", "_law_told", "_law_found", "_law_one", "_law_number", "_law_some", "_law_bounds", "_law_weight", "_law_right", "_law_mine"] ps_law (defScope s_law) := ⟨rfl, rfl, rfl, by decide +kernel, rfl, by decide +kernel, by decide +kernel⟩
structure Adr where
  NoNumber : Addr
  NOUGHT : Addr
  ONE : Addr
structure Txt (K : PySem.W.Frag) (mg : Str → Option Value) (D : Adr) : Prop where
  c_NOUGHT : mg "NOUGHT" = some (.ref D.NOUGHT)
  c_NoNumber : mg "NoNumber" = some (.ref D.NoNumber)
  c_ONE : mg "ONE" = some (.ref D.ONE)
  x_NoNumber : ExcC K D.NoNumber
  kt_NOUGHT : ∀ H, SqT K H D.NOUGHT [.int 0, .int 1]
  kt_ONE : ∀ H, SqT K H D.ONE [.int 1, .int 1]
  b_abs : mg "abs" = none
  b_all : mg "all" = none
  b_any : mg "any" = none
  b_bool : mg "bool" = none
  b_enumerate : mg "enumerate" = none
  b_int : mg "int" = none
  b_isinstance : mg "isinstance" = none
  b_len : mg "len" = none
  b_list : mg "list" = none
  b_range : mg "range" = none
  b_sorted : mg "sorted" = none
  b_tuple : mg "tuple" = none
  b_zip : mg "zip" = none
  f_is_whole : HasF K mg nm_is_whole s_is_whole ps_is_whole
  f_divisor : HasF K mg nm_divisor s_divisor ps_divisor
  f_ratio : HasF K mg nm_ratio s_ratio ps_ratio
  f_minus : HasF K mg nm_minus s_minus ps_minus
  f_over : HasF K mg nm_over s_over ps_over
  f_level : HasF K mg nm_level s_level ps_level
  f_lowest : HasF K mg nm_lowest s_lowest ps_lowest
  f_row_times : HasF K mg nm_row_times s_row_times ps_row_times
  f_row_plus : HasF K mg nm_row_plus s_row_plus ps_row_plus
  f_take_step : HasF K mg nm_take_step s_take_step ps_take_step
  f_number_at : HasF K mg nm_number_at s_number_at ps_number_at
  f_fractions_of : HasF K mg nm_fractions_of s_fractions_of ps_fractions_of
  f_first_from : HasF K mg nm_first_from s_first_from ps_first_from
  f_go_on : HasF K mg nm_go_on s_go_on ps_go_on
  f_begin_row : HasF K mg nm_begin_row s_begin_row ps_begin_row
  f_clear_column : HasF K mg nm_clear_column s_clear_column ps_clear_column
  f_reduced : HasF K mg nm_reduced s_reduced ps_reduced
  f_width_of : HasF K mg nm_width_of s_width_of ps_width_of
  f_with_rights : HasF K mg nm_with_rights s_with_rights ps_with_rights
  f_begins_of : HasF K mg nm_begins_of s_begins_of ps_begins_of
  f_odd_row : HasF K mg nm_odd_row s_odd_row ps_odd_row
  f_answer_of : HasF K mg nm_answer_of s_answer_of ps_answer_of
  f_only_answer : HasF K mg nm_only_answer s_only_answer ps_only_answer
  f_cell : HasF K mg nm_cell s_cell ps_cell
  f_stream : HasF K mg nm_stream s_stream ps_stream
  f_gcd : HasF K mg nm_gcd s_gcd ps_gcd
  f_lratio : HasF K mg nm_lratio s_lratio ps_lratio
  f_whole : HasF K mg nm_whole s_whole ps_whole
  f_is_fraction : HasF K mg nm_is_fraction s_is_fraction ps_is_fraction
  f_fractions : HasF K mg nm_fractions s_fractions ps_fractions
  f_products : HasF K mg nm_products s_products ps_products
  f_comes : HasF K mg nm_comes s_comes ps_comes
  f_fraction : HasF K mg nm_fraction s_fraction ps_fraction
  f_heavy : HasF K mg nm_heavy s_heavy ps_heavy
section
variable {P : Program} {w : World} {K : PySem.W.Frag} {mg : Str → Option Value} {base : Heap} {D : Adr}
theorem boot_abs : bootBuiltins "abs" = some (.builtin "abs") := by decide +kernel
theorem line1 : 1 ≤ sizeLine := by decide
theorem line2 : 2 ≤ sizeLine := by decide
theorem line64 {n : Nat} (h : n ≤ 64) : n ≤ sizeLine := Nat.le_trans h (by decide)
theorem cut_one (ns : List Int) (k : Nat) : atI (cutV (ns.map V.int) (some (k : Int)) (some ((k : Int) + 1)) ++ [V.int 0]) 0 = some (V.int (ns.getD k 0)) := by
  unfold cutV
  rw [show ((k : Int) + 1) = ((k + 1 : Nat) : Int) by omega, HT.sIx_nat, HT.sIx_nat, List.length_map]
  refine atI_nat (j := 0) ?_
  by_cases h : k < ns.length
  · rw [Nat.min_eq_left (Nat.le_of_lt h), Nat.min_eq_left (Nat.succ_le_of_lt h)]
    rw [show k + 1 - k = 1 by omega]
    rw [List.drop_eq_getElem_cons (by rw [List.length_map]; exact h)]
    simp [List.getD, h]
  · have e1 : min k ns.length = ns.length := by omega
    have e2 : min (k + 1) ns.length = ns.length := by omega
    rw [e1, e2]
    simp [List.getD, List.getElem?_eq_none (Nat.le_of_not_lt h)]
def sp_whole : Sp := fun vs H Q _ => ∃ x t, vs = [x] ∧ tyS H x = some t ∧ Q (.bl (t == "int")) H
theorem ok_whole {f : Addr} {fd : FuncData} (F : Fun K nm_whole nm_whole s_whole f fd) (T : Txt K mg D) : FnOk P w K mg base CX0 1 f fd ps_whole sp_whole := by
  refine F.ok sc_whole (fun vs H Q E h => ?_) (fun cdv A outer s H vs Q E hr h => ?_)
  · obtain ⟨x, t, rfl, _⟩ := h
    rfl
  · obtain ⟨x, t, rfl, ht, q⟩ := h
    refine ⟨_, (pss_one (ps_ret (pe_and (pe_callB call_isi (by rfl) T.b_isinstance boot_isinstance (pa_cons (pv 0) (pa_cons (pe_bltn (v := .ty "int") (by rfl) T.b_int boot_int rfl) pa_nil))) (pe_one (pe_not (pe_callB call_isi (by rfl) T.b_isinstance boot_isinstance (pa_cons (pv 0) (pa_cons (pe_bltn (v := .ty "bool") (by rfl) T.b_bool boot_bool rfl) pa_nil)))))))), ?_⟩
    walk_at "rd"
    rw [ht]
    walk_at "rd"
    have hm := tyS_in ht
    simp only [List.mem_cons, List.not_mem_nil, or_false] at hm
    rcases hm with rfl | rfl | rfl | rfl | rfl | rfl | rfl <;> simpa using q
theorem ok_is_whole {f : Addr} {fd : FuncData} (F : Fun K nm_is_whole nm_is_whole s_is_whole f fd) (T : Txt K mg D) : FnOk P w K mg base CX0 1 f fd ps_is_whole sp_whole := by
  refine F.ok sc_is_whole (fun vs H Q E h => ?_) (fun cdv A outer s H vs Q E hr h => ?_)
  · obtain ⟨x, t, rfl, _⟩ := h
    rfl
  · obtain ⟨x, t, rfl, ht, q⟩ := h
    refine ⟨_, (pss_one (ps_ret (pe_and (pe_callB call_isi (by rfl) T.b_isinstance boot_isinstance (pa_cons (pv 0) (pa_cons (pe_bltn (v := .ty "int") (by rfl) T.b_int boot_int rfl) pa_nil))) (pe_one (pe_not (pe_callB call_isi (by rfl) T.b_isinstance boot_isinstance (pa_cons (pv 0) (pa_cons (pe_bltn (v := .ty "bool") (by rfl) T.b_bool boot_bool rfl) pa_nil)))))))), ?_⟩
    walk_at "rd"
    rw [ht]
    walk_at "rd"
    have hm := tyS_in ht
    simp only [List.mem_cons, List.not_mem_nil, or_false] at hm
    rcases hm with rfl | rfl | rfl | rfl | rfl | rfl | rfl <;> simpa using q
def sp_gcd : Sp := fun vs H Q _ => ∃ (a b : Int), vs = [.int a, .int b] ∧ Q (.int (Int.gcd a b : Nat)) H
theorem ok_gcd {f : Addr} {fd : FuncData} (F : Fun K nm_gcd nm_gcd s_gcd f fd) (T : Txt K mg D) : FnOk P w K mg base CX0 1 f fd ps_gcd sp_gcd := by
  refine FnOk.clean (sp := fun vs H Q _ => ∃ (a b : Int), vs = [.int a, .int b] ∧ ∀ H', Same H H' → Q (.int (Int.gcd a b : Nat)) H')
    (F.ok sc_gcd (fun vs H Q E h => ?_) (fun cdv A outer s H vs Q E hr h => ?_)) fun vs H Q E ⟨a, b, h1, h4⟩ => ⟨a, b, h1, fun H' S => ⟨S, h4⟩⟩
  · obtain ⟨a, b, rfl, _⟩ := h
    rfl
  · obtain ⟨a, b, rfl, q⟩ := h
    refine ⟨_, (pss_cons (ps_asg (pe_callB call_srtH (by rfl) T.b_sorted boot_sorted (pa_cons (pe_lst (pa_cons (pe_callB call_abs (by rfl) T.b_abs boot_abs (pa_cons (pv 0) pa_nil)) (pa_cons (pe_callB call_abs (by rfl) T.b_abs boot_abs (pa_cons (pv 1) pa_nil)) pa_nil))) pa_nil)) (pg_lstH (n := 2) rfl (pgs_cons (pg_name (i := 2) sc_gcd.nd rfl (Or.inl rfl)) (pgs_cons (pg_name (i := 3) sc_gcd.nd rfl (Or.inl rfl)) pgs_nil))))
      (pss_cons (ps_while PassesOwn.never (pt_cmpR op_gt (pv 2) pe_int (nomark _))
        (pss_one (ps_par (i := 2) (j := 3) rfl sc_gcd.nd rfl rfl (by decide) rfl rfl (pa_cons (pe_op op_modN (pv 3) (pv 2)) (pa_cons (pv 2) pa_nil)) rfl)))
      (pss_one (ps_ret (pv 3))))), ?_⟩
    walk_at "rd"
    refine ⟨line2, fun p hp => ⟨[(a.natAbs : Int), (b.natAbs : Int)], ?_, (by simp), fun ms p1 hp1 hm hs => ?_⟩⟩
    · rw [abs_if, abs_if]; rfl
    have S : Same H (upd (upd H p (HO.lst [V.int (if a < 0 then -a else a), V.int (if b < 0 then -b else b)])) p1 (HO.lst (ms.map V.int))) := (Same.upd hp).trans (Same.upd hp1)
    generalize upd (upd H p (HO.lst [V.int (if a < 0 then -a else a), V.int (if b < 0 then -b else b)])) p1 (HO.lst (ms.map V.int)) = H1 at S
    have hk : ∃ l k : Nat, ms = [(l : Int), (k : Int)] ∧ Nat.gcd l k = Int.gcd a b := by
      rcases perm_two hm with rfl | rfl
      · exact ⟨_, _, rfl, rfl⟩
      · exact ⟨_, _, rfl, Nat.gcd_comm _ _⟩
    obtain ⟨l, k, rfl, hg⟩ := hk
    walk_at "rd"
    refine while_by (fun σ H2 => ∃ l k : Nat, σ = [some (.int a), some (.int b), some (.int l), some (.int k)] ∧ H2 = H1 ∧ Nat.gcd l k = Int.gcd a b)
      (fun σ _ => match σ with | [_, _, some (.int l), _] => l.natAbs | _ => 0) ⟨l, k, rfl, rfl, hg⟩ ?_ ?_
    · rintro σ H2 ⟨l, k, rfl, rfl, hg⟩
      walk_at "rd"
      by_cases hl : l = 0
      · subst hl
        simp only [Int.natCast_zero, Int.lt_irrefl, decide_false, Bool.false_eq_true, if_false]
        rw [show k = Int.gcd a b by rw [← hg, Nat.gcd_zero_left]]
        exact q _ S
      · have hl' : (0 : Int) < l := by omega
        rw [if_pos (decide_eq_true hl')]
        refine ⟨by omega, ⟨k % l, fmod_nat _ _, l, rfl, ?_⟩, ?_⟩
        · rw [← Nat.gcd_rec]; exact hg
        · rw [fmod_nat]
          show (k % l) < l
          exact Nat.mod_lt _ (by omega)
    · intro σ H2 Q1 Q2 hq
      walk_at "rd"
      rintro ⟨v, h1, i, h2, h3⟩
      exact ⟨v, h1, i, h2, hq _ _ h3⟩
theorem gcd_pos {a b : Int} (h : b ≠ 0) : (0 : Int) < (Int.gcd a b : Nat) := by
  have := Int.gcd_pos_of_ne_zero_right a h
  omega
theorem gcd_bd {a b : Int} (h : b ≠ 0) (hb : Bd b) : Bd (Int.gcd a b : Nat) := by
  unfold Bd at *
  refine Nat.lt_of_le_of_lt ?_ hb
  rw [Int.natAbs_natCast]
  exact Nat.le_of_dvd (by omega) (Int.gcd_dvd_natAbs_right a b)
def sp_divisor : Sp := fun vs H Q _ => ∃ (a b : Int), vs = [.int a, .int b] ∧ Q (.int (Int.gcd a b : Nat)) H
def dInv (a b : Int) (H1 : Hp) (σ : L2.St) (H : Hp) : Prop := ∃ (l k : Nat) (z : Option V), σ = [some (.int a), some (.int b), some (.int l), some (.int k), z] ∧ H = H1 ∧ Nat.gcd l k = Int.gcd a b
theorem ok_divisor {f : Addr} {fd : FuncData} (F : Fun K nm_divisor nm_divisor s_divisor f fd) (T : Txt K mg D) : FnOk P w K mg base CX0 1 f fd ps_divisor sp_divisor := by
  refine F.ok sc_divisor (fun vs H Q E h => ?_) (fun cdv A outer s H vs Q E hr h => ?_)
  · obtain ⟨a, b, rfl, _⟩ := h
    rfl
  · obtain ⟨a, b, rfl, q⟩ := h
    refine ⟨_, (pss_cons (ps_set (i := 2) sc_divisor.nd rfl (Or.inl rfl) (pe_callB call_abs (by rfl) T.b_abs boot_abs (pa_cons (pv 0) pa_nil)))
      (pss_cons (ps_set (i := 3) sc_divisor.nd rfl (Or.inl rfl) (pe_callB call_abs (by rfl) T.b_abs boot_abs (pa_cons (pv 1) pa_nil)))
      (pss_cons (ps_while PassesOwn.never (pt_cmpR op_ne (pv 3) pe_int (nomark _))
        (pss_cons (ps_set (i := 4) sc_divisor.nd rfl (Or.inl rfl) (pe_op op_modN (pv 2) (pv 3)))
        (pss_cons (ps_set (i := 2) sc_divisor.nd rfl (Or.inl rfl) (pv 3))
        (pss_one (ps_set (i := 3) sc_divisor.nd rfl (Or.inl rfl) (pv 4))))))
      (pss_one (ps_ret (pv 2)))))), ?_⟩
    walk_at "rd"
    rw [abs_if, abs_if]
    refine while_by (dInv a b H) (fun σ _ => match σ with | [_, _, _, some (.int k), _] => k.natAbs | _ => 0) ⟨a.natAbs, b.natAbs, none, rfl, rfl, rfl⟩ ?_ ?_
    · rintro σ H2 ⟨l, k, z, rfl, rfl, hg⟩
      walk_at "rd"
      by_cases hl : k = 0
      · subst hl
        rw [if_neg (by simp)]
        rw [show l = Int.gcd a b by rw [← hg, Nat.gcd_zero_right]]
        exact q
      · have hl' : ¬ ((k : Int) = 0) := by omega
        rw [if_pos (by simpa using hl)]
        refine ⟨by omega, ⟨k, l % k, some (.int ((l % k : Nat) : Int)), ?_, rfl, ?_⟩, ?_⟩
        · rw [fmod_nat]
        · rw [Nat.gcd_comm, ← Nat.gcd_rec, Nat.gcd_comm]; exact hg
        · rw [fmod_nat]
          show (l % k) < k
          exact Nat.mod_lt _ (by omega)
    · intro σ H2 Q1 Q2 hq
      walk_at "rd"
      rintro ⟨v, h1, h2, h3⟩
      exact ⟨v, h1, h2, hq _ _ h3⟩
structure Low (t b x y : Int) : Prop where
  pos : 0 < y
  gcd : Int.gcd x y = 1
  eq : x * b = t * y
  lx : x.natAbs ≤ t.natAbs
  ly : y.natAbs ≤ b.natAbs
theorem fdiv_exact {c q : Int} (h : c ≠ 0) : Int.fdiv (c * q) c = q := by
  rw [Int.fdiv_eq_ediv_of_dvd (Int.dvd_mul_right c q), Int.mul_ediv_cancel_left _ h]
theorem abs_le_mul {c q : Int} (h : c ≠ 0) : q.natAbs ≤ (c * q).natAbs := by
  rw [Int.natAbs_mul]
  exact Nat.le_mul_of_pos_left _ (by omega)
theorem low_of {t b c : Int} (hb : b ≠ 0) (hc : c ≠ 0) (hg : c.natAbs = Int.gcd t b) (hs : 0 < c * b) : Low t b (Int.fdiv t c) (Int.fdiv b c) := by
  have d1 : c ∣ t := Int.natAbs_dvd.mp (by rw [hg]; exact Int.gcd_dvd_left t b)
  have d2 : c ∣ b := Int.natAbs_dvd.mp (by rw [hg]; exact Int.gcd_dvd_right t b)
  obtain ⟨x, rfl⟩ := d1
  obtain ⟨y, rfl⟩ := d2
  rw [fdiv_exact hc, fdiv_exact hc]
  refine ⟨?_, ?_, ?_, abs_le_mul hc, abs_le_mul hc⟩
  · rw [← Int.mul_assoc] at hs
    have hp : 0 < c * c := by
      rcases Int.lt_or_lt_of_ne hc with z | z
      · exact Int.mul_pos_of_neg_of_neg z z
      · exact Int.mul_pos z z
    exact Int.pos_of_mul_pos_right hs hp
  · rw [Int.gcd_mul_left] at hg
    have hp : 0 < c.natAbs := by omega
    exact Nat.eq_of_mul_eq_mul_left hp (by rw [Nat.mul_one]; exact hg.symm)
  · rw [Int.mul_left_comm, Int.mul_assoc]
def sp_ratio : Sp := fun vs H Q _ => ∃ (t b : Int), vs = [.int t, .int b] ∧ b ≠ 0 ∧ Bd b ∧ ∀ p x y, Low t b x y → H p = none → Q (.ref p) (upd H p (.tup [.int x, .int y]))
theorem bd_neg {i : Int} (h : Bd i) : Bd (-i) := by unfold Bd at *; rw [Int.natAbs_neg]; exact h
theorem ok_ratio {f : Addr} {fd : FuncData} (F : Fun K nm_ratio nm_ratio s_ratio f fd) (T : Txt K mg D) (G_is_whole : OkF P w K mg base 1 nm_is_whole ps_is_whole sp_whole) (G_divisor : OkF P w K mg base 1 nm_divisor ps_divisor sp_divisor) : FnOk P w K mg base CX0 2 f fd ps_ratio sp_ratio := by
  refine F.ok sc_ratio (fun vs H Q E h => ?_) (fun cdv A outer s H vs Q E hr h => ?_)
  · obtain ⟨t, b, rfl, _⟩ := h
    rfl
  · obtain ⟨t, b, rfl, hb, hbd, q⟩ := h
    refine ⟨_, (pss_cons (ps_if (pw_or (pt_not (pt_tru (pe_callF G_is_whole (hr.mono (by decide)) (by rfl) (pa_cons (pv 0) pa_nil)) (fun _ => rfl))) (pw_or1 (pt_not (pt_tru (pe_callF G_is_whole (hr.mono (by decide)) (by rfl) (pa_cons (pv 1) pa_nil)) (fun _ => rfl))))).pt
        (pss_one (ps_raise rfl (by rfl) T.c_NoNumber T.x_NoNumber xmade_no (pa_cons pe_str pa_nil)))
        pss_nil)
      (pss_cons (ps_if (pt_cmpR op_eq (pv 1) pe_int (nomark _))
        (pss_one (ps_raise rfl (by rfl) T.c_NoNumber T.x_NoNumber xmade_no (pa_cons pe_str pa_nil)))
        pss_nil)
      (pss_cons (ps_set (i := 2) sc_ratio.nd rfl (Or.inl rfl) (pe_callF G_divisor (hr.mono (by decide)) (by rfl) (pa_cons (pv 0) (pa_cons (pv 1) pa_nil))))
      (pss_cons (ps_if (pt_cmpR op_lt (pv 1) pe_int (nomark _))
        (pss_one (ps_set (i := 2) sc_ratio.nd rfl (Or.inl rfl) (pe_un un_neg (pv 2))))
        pss_nil)
      (pss_one (ps_ret (pe_tup (pa_cons (pe_op op_fdivB (pv 0) (pv 2)) (pa_cons (pe_op op_fdivB (pv 1) (pv 2)) pa_nil))))))))), ?_⟩
    unfold sp_whole sp_divisor
    walk_at "rd"
    have g0 := gcd_pos (a := t) hb
    have g1 := gcd_bd (a := t) hb hbd
    rw [if_neg (by simpa using hb)]
    refine ite2 (fun hn => ?_) fun hn => ?_
    · rw [decide_eq_true_eq] at hn
      refine ⟨by omega, bd_neg g1, by omega, bd_neg g1, line2, fun p hp => q p _ _ (low_of hb (by omega) (by omega) ?_) hp⟩
      exact Int.mul_pos_of_neg_of_neg (by omega) hn
    · rw [decide_eq_true_eq] at hn
      refine ⟨by omega, g1, by omega, g1, line2, fun p hp => q p _ _ (low_of hb (by omega) (by omega) ?_) hp⟩
      exact Int.mul_pos g0 (by omega)
def sp_ratioX (D : Adr) : Sp := fun vs H _ E => ∃ (x y : V) (tx ty : String), vs = [x, y] ∧ tyS H x = some tx ∧ tyS H y = some ty ∧ (tx ≠ "int" ∨ ty ≠ "int" ∨ y = .int 0) ∧ E (.ref D.NoNumber) none H
def cell (ns : List Int) (k : Int) : Int := ns.getD k.toNat 0
def sp_cell (K : PySem.W.Frag) (a : Addr) (ns : List Int) : Sp := fun vs H Q _ => ∃ (k : Int), vs = [.ref a, .int k] ∧ SqL K H a (ns.map V.int) ∧ ns.length ≤ 63 ∧ 0 ≤ k ∧ Q (.int (cell ns k)) H
theorem ok_cell {f : Addr} {fd : FuncData} (F : Fun K nm_cell nm_cell s_cell f fd) (a : Addr) (ns : List Int) : FnOk P w K mg base CX0 1 f fd ps_cell (sp_cell K a ns) := by
  refine FnOk.clean (sp := fun vs H Q _ => ∃ (k : Int), vs = [.ref a, .int k] ∧ SqL K H a (ns.map V.int) ∧ ns.length ≤ 63 ∧ 0 ≤ k ∧ ∀ H', Same H H' → Q (.int (cell ns k)) H')
    (F.ok sc_cell (fun vs H Q E h => ?_) (fun cdv A outer s H vs Q E hr h => ?_)) fun vs H Q E ⟨k, h1, h2, h3, h4, h5⟩ => ⟨k, h1, h2, h3, h4, fun H' S => ⟨S, h5⟩⟩
  · obtain ⟨k, rfl, _⟩ := h
    rfl
  · obtain ⟨k, rfl, hs, hl, hk, q⟩ := h
    refine ⟨_, (pss_one (ps_ret (pe_ix ix_listH (pe_op op_cat (pe_slice sl_list (pv 0) (po_some (pv 1)) (po_some (pe_op op_add (pv 1) pe_int))) (pe_lst (pa_cons pe_int pa_nil))) pe_int (fun _ _ => rfl)))), ?_⟩
    walk_at "rd"
    refine ⟨_, hs, fun p hp => ⟨line1, fun p1 hp1 => ?_⟩⟩
    have n1 : p ≠ p1 := ne_of_none upd_same hp1
    refine ⟨_, (upd_ne n1).trans upd_same, ?_, fun p2 hp2 => ⟨_, ?_, q _ ?_⟩⟩
    · refine line64 ?_
      have := cutV_length (ns.map V.int) (some k) (some (k + 1))
      rw [List.length_map] at this
      omega
    · have := cut_one ns k.toNat
      rw [Int.toNat_of_nonneg hk] at this
      exact this
    · exact ((Same.upd hp).trans (Same.upd hp1)).trans (Same.upd hp2)
structure Fq (f : Int × Int) : Prop where
  pos : 0 < f.2
  gcd : Int.gcd f.1 f.2 = 1
  sa : f.1.natAbs ≤ 10 ^ 40
  sb : f.2.natAbs ≤ 10 ^ 40
theorem Fq.ba {f : Int × Int} (h : Fq f) : Bd f.1 := Nat.lt_of_le_of_lt h.sa (by decide +kernel)
theorem Fq.bb {f : Int × Int} (h : Fq f) : Bd f.2 := Nat.lt_of_le_of_lt h.sb (by decide +kernel)
def botN (fs : List (Int × Int)) : List Nat := fs.map fun f => f.2.natAbs
def lvB (fs : List (Int × Int)) : Nat := Lv.lcmL (botN fs)
def lvT (fs : List (Int × Int)) : List Int := fs.map fun f => f.1 * ((lvB fs : Nat) / f.2)
theorem foldl_lcm_le {B : Nat} : ∀ (bs : List Nat) (a : Nat), 0 < a → (∀ b ∈ bs, 0 < b ∧ b ≤ B) → bs.foldl Nat.lcm a ≤ a * B ^ bs.length
  | [], a, _, _ => by simp
  | b :: bs, a, ha, hb => by
    have h1 := hb b List.mem_cons_self
    have h2 := foldl_lcm_le bs (Nat.lcm a b) (Nat.lcm_pos ha h1.1) fun c hc => hb c (List.mem_cons_of_mem _ hc)
    rw [List.foldl_cons, List.length_cons, Nat.pow_succ]
    refine Nat.le_trans h2 ?_
    have h3 : Nat.lcm a b ≤ a * B := Nat.le_trans (Nat.le_of_dvd (Nat.mul_pos ha h1.1) (Nat.lcm_dvd_mul a b)) (Nat.mul_le_mul_left a h1.2)
    calc Nat.lcm a b * B ^ bs.length ≤ a * B * B ^ bs.length := Nat.mul_le_mul_right _ h3
      _ = a * (B ^ bs.length * B) := by rw [Nat.mul_assoc, Nat.mul_comm B]
theorem botN_pos {fs : List (Int × Int)} (h : ∀ f ∈ fs, Fq f) : ∀ b ∈ botN fs, 0 < b := fun b hb => by
  obtain ⟨f, hf, rfl⟩ := List.mem_map.mp hb
  have := (h f hf).pos
  omega
theorem lvB_pos {fs : List (Int × Int)} (h : ∀ f ∈ fs, Fq f) : 0 < lvB fs := Lv.lcmL_pos (botN_pos h)
theorem lvB_le {fs : List (Int × Int)} (h : ∀ f ∈ fs, Fq f) (hz : fs.length ≤ 41) : lvB fs ≤ (10 ^ 40) ^ 41 := by
  have h1 := foldl_lcm_le (B := 10 ^ 40) (botN fs) 1 (by decide) fun b hb => by
    obtain ⟨f, hf, rfl⟩ := List.mem_map.mp hb
    have := (h f hf).pos
    exact ⟨by omega, (h f hf).sb⟩
  rw [Nat.one_mul] at h1
  refine Nat.le_trans h1 (Nat.pow_le_pow_right (by decide) ?_)
  unfold botN
  rw [List.length_map]
  exact hz
theorem lvB_bd {fs : List (Int × Int)} (h : ∀ f ∈ fs, Fq f) (hz : fs.length ≤ 41) : Bd (lvB fs : Nat) := by
  unfold Bd
  rw [Int.natAbs_natCast]
  exact Nat.lt_of_le_of_lt (lvB_le h hz) (by decide +kernel)
theorem all_take {fs : List (Int × Int)} (h : ∀ f ∈ fs, Fq f) (k : Nat) : ∀ f ∈ fs.take k, Fq f := fun f hf => h f (List.mem_of_mem_take hf)
theorem take_next {α : Type} {l : List α} {k : Nat} {x : α} (h : l[k]? = some x) : l.take (k + 1) = l.take k ++ [x] := by
  rw [List.take_succ, h]; rfl
theorem lvB_next {fs : List (Int × Int)} {k : Nat} {f : Int × Int} (h : fs[k]? = some f) : lvB (fs.take (k + 1)) = Nat.lcm (lvB (fs.take k)) f.2.natAbs := by
  unfold lvB Lv.lcmL botN
  rw [take_next h, List.map_append, List.foldl_append]; rfl
theorem lcm_int {n : Nat} {b : Int} (hb : 0 < b) (hn : 0 < n) : Int.fdiv (n : Int) (Int.gcd (n : Int) b : Nat) * b = (Nat.lcm n b.natAbs : Nat) := by
  obtain ⟨m, rfl⟩ : ∃ m : Nat, b = m := ⟨b.toNat, by omega⟩
  have hg : 0 < Nat.gcd n m := Nat.gcd_pos_of_pos_left m hn
  rw [show Int.gcd (n : Int) (m : Int) = Nat.gcd n m from rfl, Int.natAbs_natCast, fdiv_pos _ (by omega), ← Int.natCast_ediv, ← Int.natCast_mul]
  congr 1
  unfold Nat.lcm
  exact Nat.div_mul_right_comm (Nat.gcd_dvd_left n m) m
theorem dvd_lvB {fs : List (Int × Int)} {f : Int × Int} (hf : f ∈ fs) (hq : Fq f) : f.2 ∣ (lvB fs : Nat) := by
  have h1 : f.2.natAbs ∣ lvB fs := Lv.dvd_lcmL (List.mem_map.mpr ⟨f, hf, rfl⟩)
  have := Int.natCast_dvd_natCast.mpr h1
  rwa [Int.natAbs_of_nonneg (Int.le_of_lt hq.pos)] at this
def fle (g f : Int × Int) : Prop := g.1 * f.2 ≤ f.1 * g.2
def sp_level : Sp := fun vs H Q _ => ∃ (l : Addr) (xs : List V) (fs : List (Int × Int)), vs = [.ref l] ∧ H l = some (.lst xs) ∧ FL H xs fs ∧ (∀ f ∈ fs, Fq f) ∧ fs.length ≤ 41 ∧
  ∀ D p, H D = none → upd H D (.lst ((lvT fs).map V.int)) p = none → Q (.ref p) (upd (upd H D (.lst ((lvT fs).map V.int))) p (.tup [.ref D, .int (lvB fs : Nat)]))
def lJ (l : Addr) (fs : List (Int × Int)) (H1 : Hp) (k : Nat) (σ : L2.St) (H : Hp) : Prop := ∃ z, σ = [some (.ref l), some (.int (lvB (fs.take k) : Nat)), z] ∧ H = H1
def lK (fs : List (Int × Int)) (D : Addr) (H1 : Hp) (k : Nat) (ys : List V) (H : Hp) : Prop := ys = ((lvT fs).take k).map V.int ∧ H = upd H1 D (.lst ys)
theorem ok_level {f : Addr} {fd : FuncData} (F : Fun K nm_level nm_level s_level f fd) (G_divisor : OkF P w K mg base 1 nm_divisor ps_divisor sp_divisor) : FnOk P w K mg base CX0 2 f fd ps_level sp_level := by
  refine F.ok sc_level (fun vs H Q E h => ?_) (fun cdv A outer s H vs Q E hr h => ?_)
  · obtain ⟨l, xs, fs, rfl, _⟩ := h
    rfl
  · obtain ⟨l, xs, fs, rfl, hl, hf, hq, hz, q⟩ := h
    refine ⟨_, (pss_cons (ps_set (i := 1) sc_level.nd rfl (Or.inr rfl) pe_int)
      (pss_cons (ps_for PassesOwn.never rfl (pi_list ((pv 0)).mono) (pg_name (i := 2) sc_level.nd rfl (Or.inl rfl))
        (pss_one (ps_set (i := 1) sc_level.nd rfl (Or.inr rfl) (pe_op op_mulB (pe_op op_fdivB (pv 1) (pe_callF G_divisor (hr.mono (by decide)) (by rfl) (pa_cons (pv 1) (pa_cons (pe_ix ix_tupH (pv 2) pe_int (fun _ _ => rfl)) pa_nil)))) (pe_ix ix_tupH (pv 2) pe_int (fun _ _ => rfl))))))
      (pss_one (ps_ret (pe_tup (pa_cons (pe_compGF (defScope s_level) ["fractions", "bottom", "one"] ["fractions", "bottom", "?one"] ["one"] rfl rfl rfl (by decide +kernel) (by decide +kernel) rfl (by decide +kernel) (by decide +kernel) (by decide +kernel) (by decide +kernel) (by decide +kernel) (pi_list ((pv 0)).mono) (fun _ _ _ _ _ => (pg_name (i := 0) (show List.Nodup (["one", "fractions", "bottom", "?one"] : List Str) from by decide +kernel) rfl (Or.inl rfl) (Or.inr rfl))) (fun _ _ _ _ _ => pts_nil) (fun _ _ _ _ _ => (pe_op op_mulB (pe_ix ix_tupH (pv 0) pe_int (fun _ _ => rfl)) (pe_op op_fdivB (pv 2) (pe_ix ix_tupH (pv 0) pe_int (fun _ _ => rfl)))))) (pa_cons (pv 1) pa_nil))))))), ?_⟩
    unfold sp_divisor
    walk_at "rd"
    have hx : xs.length ≤ 41 := by rw [hf.length]; exact hz
    refine tFor_listM ⟨_, rfl, l, xs, rfl, hl, lJ l fs H, ⟨none, rfl, rfl⟩, ?_, ?_⟩
    · rintro k x σ' H' hk ⟨z, rfl, rfl⟩ _
      obtain ⟨p, g, rfl, hg, hp⟩ := hf.get hk
      have hm := List.mem_of_getElem? hg
      have b0 := lvB_pos (all_take hq k)
      have b1 := lvB_bd (all_take hq k) (by rw [List.length_take]; omega)
      have g0 := gcd_pos (a := ((lvB (fs.take k) : Nat) : Int)) (b := g.2) (Int.ne_of_gt (hq g hm).pos)
      have g1 := gcd_bd (a := ((lvB (fs.take k) : Nat) : Int)) (b := g.2) (Int.ne_of_gt (hq g hm).pos) (hq g hm).bb
      walk_at "rd"
      simp only [hp]
      walk_at "rd"
      refine ⟨by omega, g1, ?_, (hq g hm).bb, hl, some (.ref p), ?_, rfl⟩
      · rw [fdiv_pos _ g0]
        exact b1.div g0
      · rw [lcm_int (hq g hm).pos b0, ← lvB_next hg]
    · rintro σ' H' ⟨z, rfl, rfl⟩ _
      walk_at "rd"
      have e0 : fs.take xs.length = fs := by rw [hf.length]; exact List.take_length
      rw [e0]
      refine tCompG1_list ⟨_, rfl, l, xs, rfl, hl, Nat.le_trans hx (by decide), fun D hD => ⟨lK fs D H', ⟨rfl, rfl⟩, ?_, ?_⟩⟩
      · rintro k x ys Hc hk ⟨rfl, rfl⟩ _ ha
        obtain ⟨p, g, rfl, hg, hp⟩ := hf.get hk
        have hm := List.mem_of_getElem? hg
        have hpD : upd H' D (.lst (((lvT fs).take k).map V.int)) p = some (.tup [.int g.1, .int g.2]) := (upd_ne (ne_of_none hp hD)).trans hp
        walk_at "rd"
        simp only [hpD]
        walk_at "rd"
        refine ⟨Int.ne_of_gt (hq g hm).pos, (hq g hm).bb, (hq g hm).ba, ?_, ha, ?_, upd_upd⟩
        · rw [fdiv_pos _ (hq g hm).pos]
          exact (lvB_bd hq hz).div (hq g hm).pos
        · rw [fdiv_pos _ (hq g hm).pos]
          have e1 : (lvT fs)[k]? = some (g.1 * ((lvB fs : Nat) / g.2)) := by
            unfold lvT
            rw [List.getElem?_map, hg]; rfl
          rw [take_next e1, List.map_append]; rfl
      · rintro ys Hc ⟨rfl, rfl⟩ _
        have e2 : (lvT fs).take xs.length = lvT fs := by
          refine List.take_of_length_le ?_
          unfold lvT
          rw [List.length_map, hf.length]
          exact Nat.le_refl _
        rw [e2]
        exact ⟨line2, fun p hp => q D p hD hp⟩
open Rw
theorem Bd.sm {i : Int} (h : i.natAbs < 18446744073709551616) : Bd i := Nat.lt_of_lt_of_le h (Nat.le_trans (by decide : 18446744073709551616 ≤ 2 ^ 64) (Nat.pow_le_pow_right (by decide) (by decide)))
theorem gcL_next {ts : List Int} {b : Int} {k : Nat} {t : Int} (h : ts[k]? = some t) : gcL (ts.take (k + 1)) b = ((Int.gcd t (gcL (ts.take k) b) : Nat) : Int) := by
  unfold gcL
  rw [take_next h, List.foldl_append]; rfl
def iJ (f : Int → Int) (ts : List Int) (D : Addr) (H : Hp) (k : Nat) (ys : List V) (Hc : Hp) : Prop := ys = ((ts.take k).map f).map V.int ∧ Hc = upd H D (.lst ys)
theorem iJ.next {f : Int → Int} {ts : List Int} {D : Addr} {H : Hp} {k : Nat} {ys : List V} {Hc : Hp} {t : Int} (h : iJ f ts D H k ys Hc) (e : ts[k]? = some t) : iJ f ts D H (k + 1) (ys ++ [.int (f t)]) (upd Hc D (.lst (ys ++ [.int (f t)]))) := by
  obtain ⟨rfl, rfl⟩ := h
  refine ⟨?_, upd_upd⟩
  rw [take_next e, List.map_append, List.map_append]; rfl
theorem take_map (ts : List Int) : ts.take (ts.map V.int).length = ts := List.take_of_length_le (by rw [List.length_map]; exact Nat.le_refl _)
def RowAt (H : Hp) (v : V) (r : List Int × Int) : Prop := ∃ t l, v = .ref t ∧ H t = some (.tup [.ref l, .int r.2]) ∧ H l = some (.lst (r.1.map V.int))
theorem RowAt.same {H H' : Hp} {v : V} {r : List Int × Int} (h : RowAt H v r) (S : Same H H') : RowAt H' v r := let ⟨t, l, e, a, b⟩ := h; ⟨t, l, e, S _ _ a, S _ _ b⟩
def sp_plow : Sp := fun vs H Q _ => ∃ (l : Addr) (ts : List Int) (b : Int), vs = [.ref l, .int b] ∧ H l = some (.lst (ts.map V.int)) ∧ ts.length ≤ 64 ∧ 0 < b ∧ Bd b ∧
  ∀ v H', Same H H' → RowAt H' v (redR (ts, b)) → Q v H'
theorem ok_plow {f : Addr} {fd : FuncData} (F : Fun K nm_lowest nm_lowest s_lowest f fd) (T : Txt K mg D) (G_divisor : OkF P w K mg base 1 nm_divisor ps_divisor sp_divisor) : FnOk P w K mg base CX0 2 f fd ps_lowest sp_plow := by
  refine F.ok sc_lowest (fun vs H Q E h => ?_) (fun cdv A outer s H vs Q E hr h => ?_)
  · obtain ⟨l, ts, b, rfl, _⟩ := h
    rfl
  · obtain ⟨l, ts, b, rfl, hl, h64, b0, bb, q⟩ := h
    refine ⟨_, (pss_cons (ps_set (i := 2) sc_lowest.nd rfl (Or.inr rfl) (pv 1))
      (pss_cons (ps_for PassesOwn.never rfl (pi_list ((pv 0)).mono) (pg_name (i := 3) sc_lowest.nd rfl (Or.inl rfl))
        (pss_one (ps_set (i := 2) sc_lowest.nd rfl (Or.inr rfl) (pe_callF G_divisor (hr.mono (by decide)) (by rfl) (pa_cons (pv 3) (pa_cons (pv 2) pa_nil))))))
      (pss_one (ps_ret (pe_tup (pa_cons (pe_compGF (defScope s_lowest) ["tops", "bottom", "common", "top"] ["tops", "bottom", "common", "?top"] ["top"] rfl rfl rfl (by decide +kernel) (by decide +kernel) rfl (by decide +kernel) (by decide +kernel) (by decide +kernel) (by decide +kernel) (by decide +kernel) (pi_list ((pv 0)).mono) (fun _ _ _ _ _ => (pg_name (i := 0) (show List.Nodup (["top", "tops", "bottom", "common", "?top"] : List Str) from by decide +kernel) rfl (Or.inl rfl) (Or.inr rfl))) (fun _ _ _ _ _ => pts_nil) (fun _ _ _ _ _ => (pe_op op_fdivB (pv 0) (pv 3)))) (pa_cons (pe_op op_fdivB (pv 1) (pv 2)) pa_nil))))))), ?_⟩
    unfold sp_divisor
    walk_at "rd"
    refine tFor_listM ?_
    walk_at "rd"
    refine ⟨_, hl, fun k σ' H' => ∃ u, σ' = [some (.ref l), some (.int b), some (.int (gcL (ts.take k) b)), u] ∧ H' = H, ⟨none, rfl, rfl⟩, ?_, ?_⟩
    · rintro k x σ' H' hk ⟨u, rfl, rfl⟩ _
      rw [List.getElem?_map] at hk
      cases er : ts[k]? with
      | none => rw [er] at hk; cases hk
      | some t =>
        rw [er] at hk
        cases hk
        walk_at "rd"
        exact ⟨hl, (gcL_next er).symm⟩
    · rintro σ' H' ⟨u, rfl, rfl⟩ _
      rw [take_map]
      have g0 := gcL_pos (ts := ts) b0
      have gb : Bd (gcL ts b) := Nat.lt_of_le_of_lt (by have := gcL_le (ts := ts) b0; omega) bb
      walk_at "rd"
      refine tCompG1_list ?_
      walk_at "rd"
      refine ⟨_, hl, by rw [List.length_map]; exact Nat.le_trans h64 (by decide), fun D1 hD => ⟨iJ (fun t => t / gcL ts b) ts D1 H', ⟨rfl, rfl⟩, ?_, ?_⟩⟩
      · rintro k x ys Hc hk j _ hlc
        rw [List.getElem?_map] at hk
        cases er : ts[k]? with
        | none => rw [er] at hk; cases hk
        | some t =>
          rw [er] at hk
          cases hk
          refine ⟨t, rfl, by omega, gb, by rw [j.2]; exact upd_same, hlc, ?_⟩
          rw [fdiv_pos _ g0]
          exact j.next er
      · rintro ys Hc ⟨rfl, rfl⟩ _
        rw [take_map]
        refine ⟨by omega, gb, line2, fun p hp => ?_⟩
        rw [fdiv_pos _ g0]
        exact q _ _ ((Same.upd hD).trans (Same.upd hp)) ⟨p, D1, rfl, upd_same, Same.upd hp _ _ upd_same⟩
theorem two_of {α : Type} : ∀ {l : List α}, l.length = 2 → ∃ a b, l = [a, b]
  | [a, b], _ => ⟨a, b, rfl⟩
def zJ (f : Int → Int → Int) (ts us : List Int) (D : Addr) (H : Hp) (k : Nat) (zs : List V) (Hc : Hp) : Prop := zs = ((List.zipWith f ts us).take k).map V.int ∧ Same H Hc ∧ Hc D = some (.lst zs)
open Rw
abbrev NN : Nat := 10 ^ 180 * 10 ^ 180 * 10 ^ 180
theorem bdN3 {i : Int} (h : i.natAbs ≤ NN * NN * NN) : Bd i := Nat.lt_of_le_of_lt h (by decide +kernel)
theorem bdN {i : Int} (h : i.natAbs ≤ NN) : Bd i := bdN3 (Nat.le_trans h (by decide +kernel))
theorem bdN2 {i : Int} (h : i.natAbs ≤ NN * NN) : Bd i := bdN3 (Nat.le_trans h (by decide +kernel))
theorem mulN {a b : Int} {m n : Nat} (h1 : a.natAbs ≤ m) (h2 : b.natAbs ≤ n) : (a * b).natAbs ≤ m * n := by rw [Int.natAbs_mul]; exact Nat.mul_le_mul h1 h2
structure Fn (c : Int × Int) : Prop where
  pos : 0 < c.2
  sa : c.1.natAbs ≤ NN
  sb : c.2.natAbs ≤ NN
def sp_row_times15 : Sp := fun vs H Q _ => ∃ (v : V) (c : Addr) (r : List Int × Int) (cc : Int × Int), vs = [v, .ref c] ∧ RowAt H v r ∧ H c = some (.tup [.int cc.1, .int cc.2]) ∧ Fn cc ∧ Big NN r ∧ r.1.length ≤ 64 ∧ ∀ v' H', Same H H' → RowAt H' v' (redR (timesR r cc)) → Q v' H'
theorem ok_row_times15 {f : Addr} {fd : FuncData} (F : Fun K nm_row_times nm_row_times s_row_times f fd) (T : Txt K mg D) (G_lowest : OkF P w K mg base 2 nm_lowest ps_lowest sp_plow) : FnOk P w K mg base CX0 3 f fd ps_row_times sp_row_times15 := by
  refine F.ok sc_row_times (fun vs H Q E h => ?_) (fun cdv A outer s H vs Q E hr h => ?_)
  · obtain ⟨v, c, r, cc, rfl, _⟩ := h
    rfl
  · obtain ⟨v, c, r, cc, rfl, ⟨t, l, rfl, ht, hl⟩, hc, fc, bn, h64, q⟩ := h
    refine ⟨_, (pss_one (ps_ret (pe_callF G_lowest (hr.mono (by decide)) (by rfl) (pa_cons (pe_compGF (defScope s_row_times) ["row", "often"] ["row", "often"] ["top"] rfl rfl rfl (by decide +kernel) (by decide +kernel) rfl (by decide +kernel) (by decide +kernel) (by decide +kernel) (by decide +kernel) (by decide +kernel) (pi_list ((pe_ix ix_tupH (pv 0) pe_int (fun _ _ => rfl))).mono) (fun _ _ _ _ _ => (pg_name (i := 0) (show List.Nodup (["top", "row", "often"] : List Str) from by decide +kernel) rfl (Or.inl rfl) (Or.inr rfl))) (fun _ _ _ _ _ => pts_nil) (fun _ _ _ _ _ => (pe_op op_mulB (pv 0) (pe_ix ix_tupH (pv 2) pe_int (fun _ _ => rfl))))) (pa_cons (pe_op op_mulB (pe_ix ix_tupH (pv 0) pe_int (fun _ _ => rfl)) (pe_ix ix_tupH (pv 1) pe_int (fun _ _ => rfl))) pa_nil))))), ?_⟩
    unfold sp_plow
    walk_at "rd"
    refine tCompG1_list ?_
    walk_at "rd"
    refine ⟨_, ht, _, atI_0, l, rfl, _, hl, by rw [List.length_map]; exact Nat.le_trans h64 (by decide), fun D1 hD => ⟨iJ (fun t => t * cc.1) r.1 D1 H, ⟨rfl, rfl⟩, ?_, ?_⟩⟩
    · rintro k x ys Hc hk j _ hlc
      have S : Same H Hc := by rw [j.2]; exact Same.upd hD
      rw [List.getElem?_map] at hk
      cases er : r.1[k]? with
      | none => rw [er] at hk; cases hk
      | some t0 =>
        rw [er] at hk
        cases hk
        exact ⟨_, S _ _ hc, _, atI_0, t0, rfl, _, rfl, bdN (bn.top _ (List.mem_of_getElem? er)), bdN fc.sa, by rw [j.2]; exact upd_same, hlc, j.next er⟩
    · rintro ys Hc ⟨rfl, rfl⟩ _
      rw [take_map]
      exact ⟨_, Same.upd hD _ _ ht, _, atI_1, _, Same.upd hD _ _ hc, _, atI_1, _, rfl, _, rfl, bdN bn.bot, bdN fc.sb, r.1.map fun t => t * cc.1, upd_same, by rw [List.length_map]; exact h64, Int.mul_pos bn.pos fc.pos, bdN2 (mulN bn.bot fc.sb), fun v' H' S ro => q v' H' ((Same.upd hD).trans S) ro⟩
def sp_row_plus15 : Sp := fun vs H Q _ => ∃ (v o : V) (c : Addr) (r ro : List Int × Int) (cc : Int × Int), vs = [v, o, .ref c] ∧ RowAt H v r ∧ RowAt H o ro ∧ H c = some (.tup [.int cc.1, .int cc.2]) ∧ Fn cc ∧ Big NN r ∧ Big NN ro ∧ r.1.length ≤ 64 ∧ r.1.length = ro.1.length ∧ ∀ v' H', Same H H' → RowAt H' v' (redR (plusR r ro cc)) → Q v' H'
theorem ok_row_plus15 {f : Addr} {fd : FuncData} (F : Fun K nm_row_plus nm_row_plus s_row_plus f fd) (T : Txt K mg D) (G_divisor : OkF P w K mg base 1 nm_divisor ps_divisor sp_divisor) (G_lowest : OkF P w K mg base 2 nm_lowest ps_lowest sp_plow) : FnOk P w K mg base CX0 3 f fd ps_row_plus sp_row_plus15 := by
  refine F.ok sc_row_plus (fun vs H Q E h => ?_) (fun cdv A outer s H vs Q E hr h => ?_)
  · obtain ⟨v, o, c, r, ro, cc, rfl, _⟩ := h
    rfl
  · obtain ⟨v, o, c, r, ro, cc, rfl, ⟨t, l, rfl, ht, hl⟩, ⟨t2, l2, rfl, ht2, hl2⟩, hc, fc, bn, bn2, h64, hlen, q⟩ := h
    refine ⟨_, (pss_cons (ps_set (i := 3) sc_row_plus.nd rfl (Or.inl rfl) (pe_op op_mulB (pe_ix ix_tupH (pv 1) pe_int (fun _ _ => rfl)) (pe_ix ix_tupH (pv 2) pe_int (fun _ _ => rfl))))
      (pss_cons (ps_set (i := 4) sc_row_plus.nd rfl (Or.inl rfl) (pe_callF G_divisor (hr.mono (by decide)) (by rfl) (pa_cons (pe_ix ix_tupH (pv 0) pe_int (fun _ _ => rfl)) (pa_cons (pv 3) pa_nil))))
      (pss_cons (ps_set (i := 5) sc_row_plus.nd rfl (Or.inr rfl) (pe_op op_fdivB (pv 3) (pv 4)))
      (pss_cons (ps_set (i := 6) sc_row_plus.nd rfl (Or.inr rfl) (pe_op op_mulB (pe_op op_fdivB (pe_ix ix_tupH (pv 0) pe_int (fun _ _ => rfl)) (pv 4)) (pe_ix ix_tupH (pv 2) pe_int (fun _ _ => rfl))))
      (pss_cons (ps_compGF (defScope s_row_plus) ["row", "other", "often", "bottom", "common", "own", "added", "tops"] ["row", "other", "often", "bottom", "common", "own", "added", "tops"] ["one", "another"] rfl rfl rfl (by decide +kernel) (by decide +kernel) rfl (by decide +kernel) (by decide +kernel) (by decide +kernel) (by decide +kernel) (by decide +kernel) (pi_zip (by rfl) T.b_zip (pa_cons (pe_ix ix_tupH (pv 0) pe_int (fun _ _ => rfl)) (pa_cons (pe_ix ix_tupH (pv 1) pe_int (fun _ _ => rfl)) pa_nil)).mono) (fun _ _ _ _ _ => (pg_tupH (n := 2) rfl (pgs_cons (pg_name (i := 0) (show List.Nodup (["one", "another", "row", "other", "often", "bottom", "common", "own", "added", "tops"] : List Str) from by decide +kernel) rfl (Or.inl rfl) (Or.inr rfl)) (pgs_cons (pg_name (i := 1) (show List.Nodup (["one", "another", "row", "other", "often", "bottom", "common", "own", "added", "tops"] : List Str) from by decide +kernel) rfl (Or.inl rfl) (Or.inr rfl)) pgs_nil)))) (fun _ _ _ _ _ => pts_nil) (fun _ _ _ _ _ => (pe_op op_add (pe_op op_mulB (pv 0) (pv 7)) (pe_op op_mulB (pv 1) (pv 8)))) (pg_name (i := 7) sc_row_plus.nd rfl (Or.inl rfl)))
      (pss_one (ps_ret (pe_callF G_lowest (hr.mono (by decide)) (by rfl) (pa_cons (pv 7) (pa_cons (pe_op op_mulB (pe_ix ix_tupH (pv 0) pe_int (fun _ _ => rfl)) (pv 5)) pa_nil)))))))))), ?_⟩
    unfold sp_plow sp_divisor
    walk_at "rd"
    have hB := Int.mul_pos bn2.pos fc.pos
    have g0 := gcd_pos (a := r.2) (b := ro.2 * cc.2) (by omega)
    have bB : (ro.2 * cc.2).natAbs ≤ NN * NN := mulN bn2.bot fc.sb
    have gB := gcd_bd (a := r.2) (b := ro.2 * cc.2) (by omega) (bdN2 bB)
    refine ⟨_, ht2, _, atI_1, _, hc, _, atI_1, _, rfl, _, rfl, bdN bn2.bot, bdN fc.sb, _, ht, _, atI_1, _, rfl, by omega, gB, _, ht, _, atI_1, _, rfl, by omega, gB, _, hc, _, atI_0, _, rfl, ?_⟩
    rw [fdiv_pos _ g0, fdiv_pos _ g0]
    have ow : (ro.2 * cc.2 / ((Int.gcd r.2 (ro.2 * cc.2) : Nat) : Int)).natAbs ≤ NN * NN := Nat.le_trans (Int.natAbs_ediv_le_natAbs _ _) bB
    have ad : (r.2 / ((Int.gcd r.2 (ro.2 * cc.2) : Nat) : Int)).natAbs ≤ NN := Nat.le_trans (Int.natAbs_ediv_le_natAbs _ _) bn.bot
    have ow0 : 0 < ro.2 * cc.2 / ((Int.gcd r.2 (ro.2 * cc.2) : Nat) : Int) := Int.ediv_pos_of_pos_of_dvd hB (Int.le_of_lt g0) (Int.gcd_dvd_right _ _)
    have es : plusR r ro cc = (List.zipWith (fun a b => a * (ro.2 * cc.2 / ((Int.gcd r.2 (ro.2 * cc.2) : Nat) : Int)) + b * (r.2 / ((Int.gcd r.2 (ro.2 * cc.2) : Nat) : Int) * cc.1)) r.1 ro.1, r.2 * (ro.2 * cc.2 / ((Int.gcd r.2 (ro.2 * cc.2) : Nat) : Int))) := rfl
    rw [es] at q
    generalize ro.2 * cc.2 / ((Int.gcd r.2 (ro.2 * cc.2) : Nat) : Int) = own at *
    generalize r.2 / ((Int.gcd r.2 (ro.2 * cc.2) : Nat) : Int) = adb at *
    refine ⟨bdN ad, bdN fc.sa, tCompG_zip ?_⟩
    walk_at "rd"
    have adc : (adb * cc.1).natAbs ≤ NN * NN := mulN ad fc.sa
    refine ⟨_, ht, _, atI_0, _, ht2, _, atI_0, l, rfl, l2, rfl, _, hl, _, hl2, by rw [List.length_map, List.length_map]; exact hlen, by rw [List.length_map]; exact h64, fun D1 hD => ⟨zJ (fun a b => a * own + b * (adb * cc.1)) r.1 ro.1 D1 H, ⟨rfl, Same.upd hD, upd_same⟩, ?_, ?_⟩⟩
    · rintro k x5 y5 zs Hc t1 hx hy ⟨rfl, Sc, hD1⟩ _ ht1 ha hb pre hpre
      obtain ⟨u0, u1, rfl⟩ := two_of hpre
      rw [List.getElem?_map] at hx hy
      cases er : r.1[k]? with
      | none => rw [er] at hx; cases hx
      | some t0 =>
        cases er2 : ro.1[k]? with
        | none => rw [er2] at hy; cases hy
        | some t2' =>
          rw [er] at hx
          rw [er2] at hy
          cases hx
          cases hy
          have T1 : Same Hc (upd Hc t1 (.tup [.int t0, .int t2'])) := Same.upd ht1
          walk_at "rd"
          refine ⟨[some (.int t0), some (.int t2')], rfl, rfl, bdN (bn.top _ (List.mem_of_getElem? er)), bdN2 ow, bdN (bn2.top _ (List.mem_of_getElem? er2)), bdN2 adc, T1 _ _ hD1, T1 _ _ ha, T1 _ _ hb, ?_, ?_, upd_same⟩
          · have e : (List.zipWith (fun a b => a * own + b * (adb * cc.1)) r.1 ro.1)[k]? = some (t0 * own + t2' * (adb * cc.1)) := by rw [List.getElem?_zipWith, er, er2]
            rw [take_next e, List.map_append]; rfl
          · intro b' o' e'
            rw [upd_ne (ne_of_none e' hD)]
            exact T1 _ _ (Sc _ _ e')
    · rintro zs Hc ⟨rfl, Sc, hD1⟩ _
      have ek : (List.zipWith (fun a b => a * own + b * (adb * cc.1)) r.1 ro.1).take (r.1.map V.int).length = List.zipWith (fun a b => a * own + b * (adb * cc.1)) r.1 ro.1 := List.take_of_length_le (by rw [List.length_zipWith, List.length_map]; omega)
      rw [ek] at hD1
      have bm : (r.2 * own).natAbs ≤ NN * (NN * NN) := mulN bn.bot ow
      exact ⟨_, Sc _ _ ht, _, atI_1, _, rfl, bdN bn.bot, bdN2 ow, _, hD1, by rw [List.length_zipWith]; omega, Int.mul_pos bn.pos ow0, bdN3 (Nat.le_trans bm (by rw [Nat.mul_assoc]; exact Nat.le_refl _)), fun v' H' S ro => q v' H' (Sc.trans S) ro⟩
open Rw
inductive Stp
  | swap (i j : Nat)
  | times (i : Nat) (c : Int × Int)
  | add (i j : Nat) (c : Int × Int)
def StpAt (H : Hp) (v : V) : Stp → Prop
  | .swap i j => ∃ t, v = .ref t ∧ H t = some (.tup [.str (Str.ofString "swap"), .int i, .int j])
  | .times i c => ∃ t a, v = .ref t ∧ H t = some (.tup [.str (Str.ofString "times"), .int i, .ref a]) ∧ H a = some (.tup [.int c.1, .int c.2])
  | .add i j c => ∃ t a, v = .ref t ∧ H t = some (.tup [.str (Str.ofString "add"), .int i, .int j, .ref a]) ∧ H a = some (.tup [.int c.1, .int c.2])
def StpOk (n : Nat) : Stp → Prop
  | .swap i j => i < n ∧ j < n
  | .times i c => i < n ∧ Sm c
  | .add i j c => i < n ∧ j < n ∧ Sm c
theorem StpAt.imp {H H' : Hp} (h : ∀ t ys, H t = some (.tup ys) → H' t = some (.tup ys)) {v : V} : ∀ {s : Stp}, StpAt H v s → StpAt H' v s
  | .swap _ _, ⟨t, e, a⟩ => ⟨t, e, h _ _ a⟩
  | .times _ _, ⟨t, a, e, b, c⟩ => ⟨t, a, e, h _ _ b, h _ _ c⟩
  | .add _ _ _, ⟨t, a, e, b, c⟩ => ⟨t, a, e, h _ _ b, h _ _ c⟩
abbrev Row := List Int × Int
def rowAt (rs : List Row) (i : Nat) : Row := rs.getD i ([], 1)
def stepR (rs : List Row) : Stp → List Row
  | .swap i j => (rs.set i (rowAt rs j)).set j (rowAt rs i)
  | .times i c => rs.set i (redR (timesR (rowAt rs i) c))
  | .add i j c => rs.set i (redR (plusR (rowAt rs i) (rowAt rs j) c))
structure LR (H : Hp) (xs : List V) (rs : List Row) : Prop where
  len : xs.length = rs.length
  at_ : ∀ (k : Nat) (v : V), xs[k]? = some v → RowAt H v (rowAt rs k)
theorem LR.same {H H' : Hp} {xs : List V} {rs : List Row} (h : LR H xs rs) (S : Same H H') : LR H' xs rs := ⟨h.len, fun k v e => (h.at_ k v e).same S⟩
theorem LR.ne {H : Hp} {xs : List V} {rs : List Row} {l : Addr} (h : LR H xs rs) (hl : H l = some (.lst xs)) (h0 : 0 < rs.length) {lr : Addr} {ts : List Int} (e : H lr = some (.lst (ts.map V.int))) : lr ≠ l := by
  intro z
  subst z
  rw [hl] at e
  have e : xs = ts.map V.int := by injection (Option.some.inj e)
  have hx : 0 < xs.length := by rw [h.len]; exact h0
  obtain ⟨t, l, ev, _⟩ := h.at_ 0 _ (List.getElem?_eq_getElem hx)
  have : xs[0]? = some (.ref t) := by rw [List.getElem?_eq_getElem hx, ev]
  rw [e, List.getElem?_map] at this
  cases ht : ts[0]? with
  | none => rw [ht] at this; cases this
  | some i => rw [ht] at this; cases this
theorem RowAt.updL {H : Hp} {l : Addr} {xs zs : List V} (hl : H l = some (.lst xs)) {v : V} {r : Row} (h : RowAt H v r) (ne : ∀ lr ts, H lr = some (.lst (List.map V.int ts)) → lr ≠ l) : RowAt (upd H l (.lst zs)) v r := by
  obtain ⟨t, lr, e, a, b⟩ := h
  exact ⟨t, lr, e, (upd_ne (ne_of a hl (by intro z; cases z))).trans a, (upd_ne (ne _ _ b)).trans b⟩
theorem rowAt_set {rs : List Row} {i k : Nat} {r : Row} (hi : i < rs.length) : rowAt (rs.set i r) k = if k = i then r else rowAt rs k := by
  unfold rowAt
  rw [List.getD_eq_getElem?_getD, List.getD_eq_getElem?_getD, List.getElem?_set]
  by_cases e : k = i
  · subst e; rw [if_pos rfl, if_pos hi, if_pos rfl]; rfl
  · rw [if_neg (fun z => e z.symm), if_neg e]
theorem LR.set {H : Hp} {xs : List V} {rs : List Row} (h : LR H xs rs) {i : Nat} (hi : i < rs.length) {v : V} {r : Row} (hv : RowAt H v r) : LR H (xs.set i v) (rs.set i r) := by
  refine ⟨by rw [List.length_set, List.length_set, h.len], fun k u e => ?_⟩
  rw [rowAt_set hi]
  rw [List.getElem?_set] at e
  by_cases ek : k = i
  · subst ek
    rw [if_pos rfl, if_pos (by rw [h.len]; exact hi)] at e
    cases e
    rw [if_pos rfl]
    exact hv
  · rw [if_neg (fun z => ek z.symm)] at e
    rw [if_neg ek]
    exact h.at_ k u e
theorem LR.updL {H : Hp} {l : Addr} {xs zs : List V} (hl : H l = some (.lst xs)) (ne : ∀ lr ts, H lr = some (.lst (List.map V.int ts)) → lr ≠ l) {ys : List V} {rs : List Row} (h : LR H ys rs) : LR (upd H l (.lst zs)) ys rs := ⟨h.len, fun k v e => (h.at_ k v e).updL hl ne⟩
def KeepL (l : Addr) (H H' : Hp) : Prop := ∀ b o, b ≠ l → H b = some o → H' b = some o
def StpN (n : Nat) : Stp → Prop
  | .swap i j => i < n ∧ j < n
  | .times i c => i < n ∧ Fn c
  | .add i j c => i < n ∧ j < n ∧ Fn c
def sp_take_step15 : Sp := fun vs H Q _ => ∃ (l : Addr) (sv : V) (xs : List V) (rs : List Row) (st : Stp) (wd : Nat), vs = [.ref l, sv] ∧ H l = some (.lst xs) ∧ LR H xs rs ∧ StpAt H sv st ∧ StpN rs.length st ∧ (∀ r ∈ rs, Big NN r ∧ r.1.length = wd) ∧ wd ≤ 64 ∧
  ∀ H' xs', KeepL l H H' → H' l = some (.lst xs') → LR H' xs' (stepR rs st) → Q .non H'
theorem ok_take_step15 {f : Addr} {fd : FuncData} (F : Fun K nm_take_step nm_take_step s_take_step f fd) (T : Txt K mg D) (G_row_times : OkF P w K mg base 3 nm_row_times ps_row_times sp_row_times15) (G_row_plus : OkF P w K mg base 3 nm_row_plus ps_row_plus sp_row_plus15) : FnOk P w K mg base CX0 4 f fd ps_take_step sp_take_step15 := by
  refine F.ok sc_take_step (fun vs H Q E h => ?_) (fun cdv A outer s H vs Q E hr h => ?_)
  · obtain ⟨l, sv, xs, rs, st, wd, rfl, _⟩ := h
    rfl
  · obtain ⟨l, sv, xs, rs, st, wd, rfl, hl, lr, sa, so, bn, h64, q⟩ := h
    have tne : ∀ t ys zs, H t = some (.tup ys) → upd H l (.lst zs) t = some (.tup ys) := fun t ys zs e => (upd_ne (ne_of e hl (by intro z; cases z))).trans e
    have mem : ∀ i, i < rs.length → Big NN (rowAt rs i) ∧ (rowAt rs i).1.length = wd := fun i hi => by
      have : rowAt rs i ∈ rs := by unfold rowAt; rw [List.getD_eq_getElem?_getD, List.getElem?_eq_getElem hi]; exact List.getElem_mem hi
      exact bn _ this
    have get : ∀ i, i < rs.length → ∃ v, xs[i]? = some v ∧ RowAt H v (rowAt rs i) := fun i hi => by
      have : i < xs.length := by rw [lr.len]; exact hi
      exact ⟨_, List.getElem?_eq_getElem this, lr.at_ i _ (List.getElem?_eq_getElem this)⟩
    have ixn : ∀ (zs : List V) (i : Nat), zs.length = rs.length → i < rs.length → ixN zs.length (i : Int) = some i := fun zs i e hi => by
      unfold ixN
      rw [if_pos (by omega), if_pos (by omega), Int.toNat_natCast]
    refine ⟨_, (pss_cons (ps_set (i := 2) sc_take_step.nd rfl (Or.inl rfl) (pe_ix ix_listH (pv 0) (pe_ix ix_tupH (pv 1) pe_int (fun _ _ => rfl)) (fun _ _ => rfl)))
      (pss_one (ps_if (pt_cmpR op_eq (pe_ix ix_tupH (pv 1) pe_int (fun _ _ => rfl)) pe_str (nomark _))
        (pss_cons (ps_asg (pe_ix ix_listH (pv 0) (pe_ix ix_tupH (pv 1) pe_int (fun _ _ => rfl)) (fun _ _ => rfl)) (pg_sub (pv 0) (pe_ix ix_tupH (pv 1) pe_int (fun _ _ => rfl)) set_list))
        (pss_one (ps_asg (pv 2) (pg_sub (pv 0) (pe_ix ix_tupH (pv 1) pe_int (fun _ _ => rfl)) set_list))))
        (pss_one (ps_if (pt_cmpR op_eq (pe_ix ix_tupH (pv 1) pe_int (fun _ _ => rfl)) pe_str (nomark _))
          (pss_one (ps_asg (pe_callF G_row_times (hr.mono (by decide)) (by rfl) (pa_cons (pv 2) (pa_cons (pe_ix ix_tupH (pv 1) pe_int (fun _ _ => rfl)) pa_nil))) (pg_sub (pv 0) (pe_ix ix_tupH (pv 1) pe_int (fun _ _ => rfl)) set_list)))
          (pss_one (ps_asg (pe_callF G_row_plus (hr.mono (by decide)) (by rfl) (pa_cons (pv 2) (pa_cons (pe_ix ix_listH (pv 0) (pe_ix ix_tupH (pv 1) pe_int (fun _ _ => rfl)) (fun _ _ => rfl)) (pa_cons (pe_ix ix_tupH (pv 1) pe_int (fun _ _ => rfl)) pa_nil)))) (pg_sub (pv 0) (pe_ix ix_tupH (pv 1) pe_int (fun _ _ => rfl)) set_list)))))))), ?_⟩
    have s1 : ¬ Str.ofString "times" = Str.ofString "swap" := by decide +kernel
    have s2 : ¬ Str.ofString "add" = Str.ofString "swap" := by decide +kernel
    have s3 : ¬ Str.ofString "add" = Str.ofString "times" := by decide +kernel
    cases st with
    | swap i j =>
      obtain ⟨t, rfl, ht⟩ := sa
      obtain ⟨hi, hj⟩ := so
      obtain ⟨v, ev, rv⟩ := get i hi
      obtain ⟨u, eu, ru⟩ := get j hj
      refine ⟨_, rfl, _, rfl, t, _, 1, _, rfl, rfl, ht, atI_1, l, xs, i, v, rfl, rfl, hl, atI_nat ev, _, rfl, t, _, 0, _, rfl, rfl, ht, atI_0, rfl, _, rfl, ite2 (fun _ => ?_) fun h => absurd (decide_eq_true rfl) h⟩
      refine ⟨_, rfl, _, rfl, t, _, 2, _, rfl, rfl, ht, atI_nat (j := 2) rfl, l, xs, j, u, rfl, rfl, hl, atI_nat eu, _, rfl, _, rfl, t, _, 1, _, rfl, rfl, ht, atI_1, l, xs, i, i, rfl, rfl, hl, ixn xs i lr.len hi, _, rfl, _, rfl, _, rfl, t, _, 2, _, rfl, rfl, tne _ _ _ ht, atI_nat (j := 2) rfl, l, _, j, j, rfl, rfl, upd_same, ixn _ j (by rw [List.length_set]; exact lr.len) hj, ?_⟩
      rw [upd_upd]
      refine q _ _ (fun b o hb e => (upd_ne hb).trans e) upd_same (LR.updL hl (fun lr' ts e => lr.ne hl (by omega) e) ?_)
      exact (lr.set hi ru).set (by rw [List.length_set]; exact hj) rv
    | times i c =>
      obtain ⟨t, a, rfl, ht, ha⟩ := sa
      obtain ⟨hi, sc⟩ := so
      obtain ⟨v, ev, rv⟩ := get i hi
      refine ⟨_, rfl, _, rfl, t, _, 1, _, rfl, rfl, ht, atI_1, l, xs, i, v, rfl, rfl, hl, atI_nat ev, _, rfl, t, _, 0, _, rfl, rfl, ht, atI_0, rfl, _, rfl, ite2 (fun h => absurd (V.str.inj (of_decide_eq_true h)) s1) fun _ => ⟨_, rfl, t, _, 0, _, rfl, rfl, ht, atI_0, rfl, _, rfl, ite2 (fun _ => ?_) fun h => absurd (decide_eq_true rfl) h⟩⟩
      refine ⟨_, rfl, _, rfl, t, _, 2, _, rfl, rfl, ht, atI_nat (j := 2) rfl, v, a, _, c, rfl, rv, ha, sc, (mem i hi).1, by rw [(mem i hi).2]; exact h64, fun v' H' S ro => ⟨_, rfl, _, rfl, t, _, 1, _, rfl, rfl, S _ _ ht, atI_1, l, xs, i, i, rfl, rfl, S _ _ hl, ixn xs i lr.len hi, ?_⟩⟩
      refine q _ _ (fun b o hb e => (upd_ne hb).trans (S _ _ e)) upd_same (LR.updL (S _ _ hl) (fun lr' ts e => (lr.same S).ne (S _ _ hl) (by omega) e) ?_)
      exact (lr.same S).set hi ro
    | add i j c =>
      obtain ⟨t, a, rfl, ht, ha⟩ := sa
      obtain ⟨hi, hj, sc⟩ := so
      obtain ⟨v, ev, rv⟩ := get i hi
      obtain ⟨u, eu, ru⟩ := get j hj
      refine ⟨_, rfl, _, rfl, t, _, 1, _, rfl, rfl, ht, atI_1, l, xs, i, v, rfl, rfl, hl, atI_nat ev, _, rfl, t, _, 0, _, rfl, rfl, ht, atI_0, rfl, _, rfl, ite2 (fun h => absurd (V.str.inj (of_decide_eq_true h)) s2) fun _ => ⟨_, rfl, t, _, 0, _, rfl, rfl, ht, atI_0, rfl, _, rfl, ite2 (fun h => absurd (V.str.inj (of_decide_eq_true h)) s3) fun _ => ?_⟩⟩
      refine ⟨_, rfl, _, rfl, _, rfl, t, _, 2, _, rfl, rfl, ht, atI_nat (j := 2) rfl, l, xs, j, u, rfl, rfl, hl, atI_nat eu, _, rfl, t, _, 3, _, rfl, rfl, ht, atI_nat (j := 3) rfl, v, u, a, _, _, c, rfl, rv, ru, ha, sc, (mem i hi).1, (mem j hj).1, by rw [(mem i hi).2]; exact h64, by rw [(mem i hi).2, (mem j hj).2], fun v' H' S ro => ⟨_, rfl, _, rfl, t, _, 1, _, rfl, rfl, S _ _ ht, atI_1, l, xs, i, i, rfl, rfl, S _ _ hl, ixn xs i lr.len hi, ?_⟩⟩
      refine q _ _ (fun b o hb e => (upd_ne hb).trans (S _ _ e)) upd_same (LR.updL (S _ _ hl) (fun lr' ts e => (lr.same S).ne (S _ _ hl) (by omega) e) ?_)
      exact (lr.same S).set hi ro
open Rw
def sp_number_at : Sp := fun vs H Q _ => ∃ (v : V) (r : List Int × Int) (k : Nat) (t : Int), vs = [v, .int k] ∧ RowAt H v r ∧ r.1[k]? = some t ∧ Big NN r ∧ ∀ p, H p = none → Q (.ref p) (upd H p (.tup [.int (Ac.lw t r.2).1, .int (Ac.lw t r.2).2]))
theorem ok_number_at {f : Addr} {fd : FuncData} (F : Fun K nm_number_at nm_number_at s_number_at f fd) (T : Txt K mg D) (G_ratio : OkF P w K mg base 2 nm_ratio ps_ratio sp_ratio) : FnOk P w K mg base CX0 3 f fd ps_number_at sp_number_at := by
  refine F.ok sc_number_at (fun vs H Q E h => ?_) (fun cdv A outer s H vs Q E hr h => ?_)
  · obtain ⟨v, r, k, t, rfl, _⟩ := h
    rfl
  · obtain ⟨v, r, k, t, rfl, ⟨a, l, rfl, ha, hl⟩, hk, bn, q⟩ := h
    refine ⟨_, (pss_one (ps_ret (pe_callF G_ratio (hr.mono (by decide)) (by rfl) (pa_cons (pe_ix ix_listH (pe_ix ix_tupH (pv 0) pe_int (fun _ _ => rfl)) (pv 1) (fun _ _ => rfl)) (pa_cons (pe_ix ix_tupH (pv 0) pe_int (fun _ _ => rfl)) pa_nil))))), ?_⟩
    unfold sp_ratio
    walk_at "rd"
    refine ⟨_, ha, _, atI_0, l, rfl, _, hl, _, atI_nat (j := k) (by rw [List.getElem?_map, hk]; rfl), _, ha, _, atI_1, t, rfl, _, rfl, by have := bn.pos; omega, bdN bn.bot, fun p x y lo hp => ?_⟩
    obtain ⟨ex, ey⟩ := Ac.is_lw (t := t) (b := r.2) bn.pos lo.pos lo.gcd lo.eq
    rw [ex, ey]
    exact q p hp
theorem RowAt.upd1 {H : Hp} {l : Addr} {ys zs : List V} (hl : H l = some (.lst ys)) {v : V} {r : Row} (h : RowAt H v r) (ne : ys ≠ r.1.map V.int) : RowAt (upd H l (.lst zs)) v r := by
  obtain ⟨t, lr, e, a, b⟩ := h
  have n1 : lr ≠ l := fun z => by
    subst z
    rw [hl] at b
    exact ne (by injection (Option.some.inj b))
  exact ⟨t, lr, e, (upd_ne (ne_of a hl (by intro z; cases z))).trans a, (upd_ne n1).trans b⟩
theorem LR.upd1 {H : Hp} {l : Addr} {xs ys zs : List V} {rs : List Row} (h : LR H xs rs) (hl : H l = some (.lst ys)) (ne : ∀ r ∈ rs, ys ≠ r.1.map V.int) : LR (upd H l (.lst zs)) xs rs := ⟨h.len, fun k v e => (h.at_ k v e).upd1 hl (ne _ (by
  have hk : k < rs.length := by rw [← h.len]; exact (List.getElem?_eq_some_iff.mp e).1
  unfold rowAt
  rw [List.getD_eq_getElem?_getD, List.getElem?_eq_getElem hk]
  exact List.getElem_mem hk))⟩
theorem rowAt_in {rs : List Row} {i : Nat} (h : i < rs.length) : rowAt rs i ∈ rs := by
  unfold rowAt
  rw [List.getD_eq_getElem?_getD, List.getElem?_eq_getElem h]; exact List.getElem_mem h
theorem stepR_len {rs : List Row} {st : Stp} {wd : Nat} (h : ∀ r ∈ rs, r.1.length = wd) (ok : StpN rs.length st) : ∀ r ∈ stepR rs st, r.1.length = wd := by
  intro r hr
  cases st with
  | swap i j =>
    rcases List.mem_or_eq_of_mem_set hr with z | z
    · rcases List.mem_or_eq_of_mem_set z with z | z
      · exact h r z
      · rw [z]; exact h _ (rowAt_in ok.2)
    · rw [z]; exact h _ (rowAt_in ok.1)
  | times i c =>
    rcases List.mem_or_eq_of_mem_set hr with z | z
    · exact h r z
    · rw [z, red_len]; unfold timesR; rw [List.length_map]; exact h _ (rowAt_in ok.1)
  | add i j c =>
    rcases List.mem_or_eq_of_mem_set hr with z | z
    · exact h r z
    · rw [z, red_len]; unfold plusR; rw [List.length_zipWith, h _ (rowAt_in ok.1), h _ (rowAt_in ok.2.1), Nat.min_self]
def sp_go_on : Sp := fun vs H Q _ => ∃ (l ls : Addr) (sv : V) (xs ys : List V) (rs : List Row) (st : Stp) (wd : Nat), vs = [.ref l, .ref ls, sv] ∧ H l = some (.lst xs) ∧ LR H xs rs ∧ H ls = some (.lst ys) ∧ ys.length ≤ 1000 ∧ ls ≠ l ∧ (∀ ts : List Int, ts.length = wd → ys ≠ ts.map V.int) ∧ StpAt H sv st ∧ StpN rs.length st ∧ (∀ r ∈ rs, Big NN r ∧ r.1.length = wd) ∧ wd ≤ 64 ∧
  ∀ H' xs', (∀ b o, b ≠ l → b ≠ ls → H b = some o → H' b = some o) → H' l = some (.lst xs') → LR H' xs' (stepR rs st) → H' ls = some (.lst (ys ++ [sv])) → Q .non H'
theorem ok_go_on {f : Addr} {fd : FuncData} (F : Fun K nm_go_on nm_go_on s_go_on f fd) (T : Txt K mg D) (G_take_step : OkF P w K mg base 4 nm_take_step ps_take_step sp_take_step15) : FnOk P w K mg base CX0 5 f fd ps_go_on sp_go_on := by
  refine F.ok sc_go_on (fun vs H Q E h => ?_) (fun cdv A outer s H vs Q E hr h => ?_)
  · obtain ⟨l, ls, sv, xs, ys, rs, st, wd, rfl, _⟩ := h
    rfl
  · obtain ⟨l, ls, sv, xs, ys, rs, st, wd, rfl, hl, lr, hls, hy, ne, nv, sa, so, bn, h64, q⟩ := h
    refine ⟨_, (pss_cons (ps_expr (pe_callF G_take_step (hr.mono (by decide)) (by rfl) (pa_cons (pv 0) (pa_cons (pv 2) pa_nil))))
      (pss_one (ps_expr (pe_app (pv 1) (pa_cons (pv 2) pa_nil))))), ?_⟩
    unfold sp_take_step15
    walk_at "rd"
    refine ⟨xs, hl, rs, lr, st, sa, so, wd, bn, h64, fun H1 xs1 kp h1 lr1 => ?_⟩
    have e1 := kp _ _ ne hls
    refine ⟨⟨_, e1⟩, ys, e1, Nat.lt_of_le_of_lt hy (by decide), ?_⟩
    refine q _ xs1 (fun b o hb hb2 e => (upd_ne hb2).trans (kp _ _ hb e)) ((upd_ne ne.symm).trans h1) (lr1.upd1 e1 fun r hr => nv _ (stepR_len (fun r hr => (bn r hr).2) so r hr)) upd_same
open Rw
def topAt (rs : List Row) (i k : Nat) : Int := (rowAt rs i).1.getD k 0
def sp_first_from : Sp := fun vs H Q _ => ∃ (l : Addr) (xs : List V) (rs : List Row) (p k wd : Nat), vs = [.ref l, .int p, .int k] ∧ H l = some (.lst xs) ∧ LR H xs rs ∧ (∀ r ∈ rs, r.1.length = wd) ∧ k < wd ∧ p ≤ rs.length ∧ rs.length ≤ 64 ∧
  (∀ i : Nat, p ≤ i → i < rs.length → topAt rs i k ≠ 0 → (∀ j, p ≤ j → j < i → topAt rs j k = 0) → Q (.int i) H) ∧ ((∀ j, p ≤ j → j < rs.length → topAt rs j k = 0) → Q .non H)
def jF (l : Addr) (p k : Nat) (rs : List Row) (H : Hp) (n : Nat) (σ : L2.St) (H' : Hp) : Prop := ∃ u, σ = [some (.ref l), some (.int p), some (.int k), u] ∧ H' = H ∧ ∀ j, p ≤ j → j < p + n → topAt rs j k = 0
theorem ok_first_from {f : Addr} {fd : FuncData} (F : Fun K nm_first_from nm_first_from s_first_from f fd) (T : Txt K mg D) : FnOk P w K mg base CX0 1 f fd ps_first_from sp_first_from := by
  refine F.ok sc_first_from (fun vs H Q E h => ?_) (fun cdv A outer s H vs Q E hr h => ?_)
  · obtain ⟨l, xs, rs, p, k, wd, rfl, _⟩ := h
    rfl
  · obtain ⟨l, xs, rs, p, k, wd, rfl, hl, lr, hw, hk, hp, h64, q1, q2⟩ := h
    refine ⟨_, (pss_cons (ps_for PassesOwn.never rfl (pi_range2 (by rfl) T.b_range (pa_cons (pv 1) (pa_cons (pe_callB call_lenL (by rfl) T.b_len PySem.boot_len (pa_cons (pv 0) pa_nil)) pa_nil)).mono) (pg_name (i := 3) sc_first_from.nd rfl (Or.inl rfl))
        (pss_one (ps_if (pt_cmpR op_ne (pe_ix ix_listH (pe_ix ix_tupH (pe_ix ix_listH (pv 0) (pv 3) (fun _ _ => rfl)) pe_int (fun _ _ => rfl)) (pv 2) (fun _ _ => rfl)) pe_int (nomark _))
          (pss_one (ps_ret (pv 3)))
          pss_nil)))
      (pss_one (ps_ret pe_non))), ?_⟩
    walk_at "rd"
    refine tFor_rng2M ?_
    walk_at "rd"
    refine ⟨xs, hl, ?_⟩
    have hx := lr.len
    refine ⟨by omega, by omega, jF l p k rs H, ⟨none, rfl, rfl, fun j h1 h2 => absurd h2 (by omega)⟩, ?_, ?_⟩
    · rintro n σ' H' hn ⟨u, rfl, rfl, hz⟩
      have hi : p + n < rs.length := by omega
      have hix : p + n < xs.length := by omega
      obtain ⟨t, lr', ev, ht, hl'⟩ := lr.at_ (p + n) _ (List.getElem?_eq_getElem hix)
      have e1 := atI_nat (List.getElem?_eq_getElem hix)
      rw [ev, Int.natCast_add] at e1
      have hm : rowAt rs (p + n) ∈ rs := rowAt_in hi
      have hkl : k < (rowAt rs (p + n)).1.length := by rw [hw _ hm]; exact hk
      have et : (rowAt rs (p + n)).1[k]? = some (topAt rs (p + n) k) := by unfold topAt; rw [List.getD_eq_getElem?_getD, List.getElem?_eq_getElem hkl]; rfl
      have e2 := atI_nat (xs := (rowAt rs (p + n)).1.map V.int) (j := k) (v := V.int (topAt rs (p + n) k)) (by rw [List.getElem?_map, et]; rfl)
      refine ⟨_, rfl, _, rfl, l, rfl, xs, _, rfl, hl, _, e1, t, rfl, _, ht, _, atI_0, _, rfl, lr', rfl, _, _, rfl, hl', _, e2, ?_⟩
      refine ⟨rfl, ite2 (fun h => ⟨_, rfl, ?_⟩) fun h => ?_⟩
      · have h0 : topAt rs (p + n) k ≠ 0 := fun z => by rw [z] at h; simp at h
        have := q1 (p + n) (by omega) hi h0 hz
        rw [Int.natCast_add] at this
        exact this
      · have h0 : topAt rs (p + n) k = 0 := by simpa using h
        refine ⟨_, rfl, rfl, fun j h1 h2 => ?_⟩
        by_cases e : j = p + n
        · rw [e]; exact h0
        · exact hz j h1 (by omega)
    · rintro σ' H' ⟨u, rfl, rfl, hz⟩
      exact q2 fun j h1 h2 => hz j h1 (by omega)
def sp_minus15 (K : PySem.W.Frag) : Sp := fun vs H Q _ => ∃ (p q : Addr) (x y u v : Int), vs = [.ref p, .ref q] ∧ SqT K H p [.int x, .int y] ∧ SqT K H q [.int u, .int v] ∧ Bd x ∧ Bd y ∧ Bd u ∧ Bd v ∧ 0 < y ∧ 0 < v ∧ Bd (y * v) ∧
  ∀ r z o, Low (x * v - u * y) (y * v) z o → H r = none → Q (.ref r) (upd H r (.tup [.int z, .int o]))
theorem ok_minus15 {f : Addr} {fd : FuncData} (F : Fun K nm_minus nm_minus s_minus f fd) (G_ratio : OkF P w K mg base 2 nm_ratio ps_ratio sp_ratio) : FnOk P w K mg base CX0 3 f fd ps_minus (sp_minus15 K) := by
  refine F.ok sc_minus (fun vs H Q E h => ?_) (fun cdv A outer s H vs Q E hr h => ?_)
  · obtain ⟨p, q, x, y, u, v, rfl, _⟩ := h
    rfl
  · obtain ⟨p, q, x, y, u, v, rfl, hp, hq, bx, b_y, bu, bv, y0, v0, byv, k⟩ := h
    refine ⟨_, (pss_one (ps_ret (pe_callF G_ratio (hr.mono (by decide)) (by rfl) (pa_cons (pe_op op_sub (pe_op op_mulB (pe_ix ix_tup (pv 0) pe_int (fun _ _ => rfl)) (pe_ix ix_tup (pv 1) pe_int (fun _ _ => rfl))) (pe_op op_mulB (pe_ix ix_tup (pv 1) pe_int (fun _ _ => rfl)) (pe_ix ix_tup (pv 0) pe_int (fun _ _ => rfl)))) (pa_cons (pe_op op_mulB (pe_ix ix_tup (pv 0) pe_int (fun _ _ => rfl)) (pe_ix ix_tup (pv 1) pe_int (fun _ _ => rfl))) pa_nil))))), ?_⟩
    unfold sp_ratio
    walk_at "rd"
    exact ⟨_, hp, _, atI_0, _, hq, _, atI_1, _, rfl, _, rfl, bx, bv, _, hq, _, atI_0, _, hp, _, atI_1, _, rfl, _, rfl, bu, b_y, _, hp, _, atI_1, _, hq, _, atI_1, _, rfl, _, rfl, b_y, bv, Int.ne_of_gt (Int.mul_pos y0 v0), byv, fun r z o l hr => k r z o l hr⟩
def sp_over15 (K : PySem.W.Frag) : Sp := fun vs H Q _ => ∃ (p q : Addr) (x y u v : Int), vs = [.ref p, .ref q] ∧ SqT K H p [.int x, .int y] ∧ SqT K H q [.int u, .int v] ∧ Bd x ∧ Bd y ∧ Bd u ∧ Bd v ∧ y * u ≠ 0 ∧ Bd (y * u) ∧
  ∀ r z o, Low (x * v) (y * u) z o → H r = none → Q (.ref r) (upd H r (.tup [.int z, .int o]))
theorem ok_over15 {f : Addr} {fd : FuncData} (F : Fun K nm_over nm_over s_over f fd) (G_ratio : OkF P w K mg base 2 nm_ratio ps_ratio sp_ratio) : FnOk P w K mg base CX0 3 f fd ps_over (sp_over15 K) := by
  refine F.ok sc_over (fun vs H Q E h => ?_) (fun cdv A outer s H vs Q E hr h => ?_)
  · obtain ⟨p, q, x, y, u, v, rfl, _⟩ := h
    rfl
  · obtain ⟨p, q, x, y, u, v, rfl, hp, hq, bx, b_y, bu, bv, yu, byu, k⟩ := h
    refine ⟨_, (pss_one (ps_ret (pe_callF G_ratio (hr.mono (by decide)) (by rfl) (pa_cons (pe_op op_mulB (pe_ix ix_tup (pv 0) pe_int (fun _ _ => rfl)) (pe_ix ix_tup (pv 1) pe_int (fun _ _ => rfl))) (pa_cons (pe_op op_mulB (pe_ix ix_tup (pv 0) pe_int (fun _ _ => rfl)) (pe_ix ix_tup (pv 1) pe_int (fun _ _ => rfl))) pa_nil))))), ?_⟩
    unfold sp_ratio
    walk_at "rd"
    exact ⟨_, hp, _, atI_0, _, hq, _, atI_1, _, rfl, _, rfl, bx, bv, _, hp, _, atI_1, _, hq, _, atI_0, _, rfl, _, rfl, b_y, bu, yu, byu, fun r z o l hr => k r z o l hr⟩
open Rw
def StpG (n : Nat) : Stp → Prop
  | .swap i j => i < n ∧ j < n
  | .times i c => i < n ∧ Fn c ∧ Int.gcd c.1 c.2 = 1 ∧ c.1 ≠ 0
  | .add i j c => i < n ∧ j < n ∧ i ≠ j ∧ Fn c ∧ Int.gcd c.1 c.2 = 1
theorem StpG.n {n : Nat} : ∀ {s : Stp}, StpG n s → StpN n s
  | .swap _ _, h => h
  | .times _ _, h => ⟨h.1, h.2.1⟩
  | .add _ _ _, h => ⟨h.1, h.2.1, h.2.2.2.1⟩
def runR (rs : List Row) (ss : List Stp) : List Row := ss.foldl stepR rs
theorem runR_snoc {rs : List Row} {ss : List Stp} {s : Stp} : runR rs (ss ++ [s]) = stepR (runR rs ss) s := by
  unfold runR
  rw [List.foldl_append]; rfl
theorem runR_app {rs : List Row} {ss ts : List Stp} : runR rs (ss ++ ts) = runR (runR rs ss) ts := by
  unfold runR
  rw [List.foldl_append]
structure Begun (rs rs' : List Row) (p q k N wd : Nat) : Prop where
  len : rs'.length = rs.length
  big : ∀ r ∈ rs', Big N r ∧ r.1.length = wd
  one : (rowAt rs' p).1[k]? = some (rowAt rs' p).2
  nul : ∀ j : Nat, (rowAt rs q).1[j]? = some 0 → (rowAt rs' p).1[j]? = some 0
  old : ∀ i, i ≠ p → i < rs.length → rowAt rs' i = rowAt rs i ∨ (i = q ∧ rowAt rs' i = rowAt rs p)
structure Cleared (rs rs' : List Row) (p k : Nat) : Prop where
  len : rs'.length = rs.length
  own : rowAt rs' p = rowAt rs p
  nul : ∀ i, i ≠ p → i < rs.length → (rowAt rs' i).1[k]? = some 0
  zer : ∀ i j : Nat, i < rs.length → (rowAt rs p).1[j]? = some 0 → (rowAt rs i).1[j]? = some 0 → (rowAt rs' i).1[j]? = some 0
  one : ∀ i j : Nat, i < rs.length → (rowAt rs p).1[j]? = some 0 → (rowAt rs i).1[j]? = some (rowAt rs i).2 → (rowAt rs' i).1[j]? = some (rowAt rs' i).2
structure Form (rs : List Row) (p c : Nat) (pv : Nat → Nat) : Prop where
  head : ∀ i, i < p → pv i < c ∧ (∀ j : Nat, j < pv i → (rowAt rs i).1[j]? = some 0) ∧ (rowAt rs i).1[pv i]? = some (rowAt rs i).2 ∧ ∀ j, j < rs.length → j ≠ i → (rowAt rs j).1[pv i]? = some 0
  ord : ∀ i j, i < j → j < p → pv i < pv j
  rest : ∀ i, p ≤ i → i < rs.length → ∀ j : Nat, j < c → (rowAt rs i).1[j]? = some 0
theorem Form.next {rs rs1 rs2 : List Row} {p q c N wd : Nat} {pv : Nat → Nat} (h : Form rs p c pv) (hq : p ≤ q) (hn : q < rs.length) (b : Begun rs rs1 p q c N wd) (d : Cleared rs1 rs2 p c) : Form rs2 (p + 1) (c + 1) (fun i => if i = p then c else pv i) := by
  have l1 := b.len
  have l2 := d.len
  have hp : p < rs.length := by omega
  have zq : ∀ j : Nat, j < c → (rowAt rs1 p).1[j]? = some 0 := fun j hj => b.nul j (h.rest q hq hn j hj)
  refine ⟨fun i hi => ?_, fun i j hi hj => ?_, fun i hi hl j hj => ?_⟩
  · by_cases e : i = p
    · subst e
      rw [if_pos rfl, d.own]
      refine ⟨by omega, zq, b.one, fun j hj ne => d.nul j ne (by omega)⟩
    · rw [if_neg e]
      have hi' : i < p := by omega
      obtain ⟨a1, a2, a3, a4⟩ := h.head i hi'
      have e1 : rowAt rs1 i = rowAt rs i := by
        rcases b.old i e (by omega) with z | z
        · exact z
        · omega
      refine ⟨by omega, fun j hj => ?_, ?_, fun j hj ne => ?_⟩
      · exact d.zer i j (by omega) (zq j (by omega)) (by rw [e1]; exact a2 j hj)
      · exact d.one i _ (by omega) (zq _ a1) (by rw [e1]; exact a3)
      · by_cases ej : j = p
        · subst ej
          rw [d.own]
          exact zq _ a1
        · refine d.zer j _ (by omega) (zq _ a1) ?_
          rcases b.old j ej (by omega) with z | ⟨_, z⟩
          · rw [z]; exact a4 j (by omega) ne
          · rw [z]; exact a4 p hp (by omega)
  · show (if i = p then c else pv i) < if j = p then c else pv j
    rw [if_neg (show ¬ i = p by omega)]
    by_cases e : j = p
    · rw [if_pos e]; exact (h.head i (by omega)).1
    · rw [if_neg e]; exact h.ord i j hi (by omega)
  · by_cases ej : j = c
    · subst ej; exact d.nul i (by omega) (by omega)
    · refine d.zer i j (by omega) (zq j (by omega)) ?_
      rcases b.old i (by omega) (by omega) with z | ⟨_, z⟩
      · rw [z]; exact h.rest i (by omega) (by omega) j (by omega)
      · rw [z]; exact h.rest p (Nat.le_refl _) hp j (by omega)
theorem Form.skip {rs : List Row} {p c : Nat} {pv : Nat → Nat} (h : Form rs p c pv) (z : ∀ j, p ≤ j → j < rs.length → (rowAt rs j).1[c]? = some 0) : Form rs p (c + 1) pv :=
  ⟨fun i hi => let ⟨a, b⟩ := h.head i hi; ⟨by omega, b⟩, h.ord, fun i hi hl j hj => by
    by_cases e : j = c
    · subst e; exact z i hi hl
    · exact h.rest i hi hl j (by omega)⟩
theorem stepR_length {rs : List Row} : ∀ {st : Stp}, (stepR rs st).length = rs.length
  | .swap _ _ => by unfold stepR; rw [List.length_set, List.length_set]
  | .times _ _ => by unfold stepR; rw [List.length_set]
  | .add _ _ _ => by unfold stepR; rw [List.length_set]
theorem swap_at {rs : List Row} {p q i : Nat} (hp : p < rs.length) (hq : q < rs.length) : rowAt (stepR rs (.swap p q)) i = if i = q then rowAt rs p else if i = p then rowAt rs q else rowAt rs i := by
  unfold stepR
  rw [rowAt_set (by rw [List.length_set]; exact hq), rowAt_set hp]
theorem mem_rowAt {rs : List Row} {r : Row} (h : r ∈ rs) : ∃ i, i < rs.length ∧ r = rowAt rs i := by
  obtain ⟨i, hi, rfl⟩ := List.mem_iff_getElem.mp h
  refine ⟨i, hi, ?_⟩
  unfold rowAt
  rw [List.getD_eq_getElem?_getD, List.getElem?_eq_getElem hi]; rfl
theorem begun_times {rs rs1 : List Row} {p q k N wd : Nat} {c : Int × Int} {t : Int} (hp : p < rs1.length) (hl : rs1.length = rs.length) (hb : ∀ r ∈ rs1, Big N r ∧ r.1.length = wd) (e0 : rowAt rs1 p = rowAt rs q) (ho : ∀ i, i ≠ p → i < rs.length → rowAt rs1 i = rowAt rs i ∨ (i = q ∧ rowAt rs1 i = rowAt rs p))
    (ht : (rowAt rs1 p).1[k]? = some t) (t0 : t ≠ 0) (hc : 0 < c.2) (e : c.1 * t = c.2 * (rowAt rs1 p).2) : Begun rs (stepR rs1 (.times p c)) p q k N wd := by
  obtain ⟨g1, g2⟩ := begin_big (hb _ (rowAt_in hp)).1 ht t0 hc e
  have at_ : ∀ i, rowAt (stepR rs1 (.times p c)) i = if i = p then redR (timesR (rowAt rs1 p) c) else rowAt rs1 i := fun i => rowAt_set hp
  refine ⟨stepR_length.trans hl, fun r hr => ?_, ?_, fun j hj => ?_, fun i ne hi => ?_⟩
  · obtain ⟨i, hi, rfl⟩ := mem_rowAt hr
    rw [at_]
    by_cases z : i = p
    · rw [if_pos z]
      refine ⟨g1, ?_⟩
      rw [red_len]; unfold timesR; rw [List.length_map]; exact (hb _ (rowAt_in hp)).2
    · rw [if_neg z]
      rw [stepR_length] at hi
      exact hb _ (rowAt_in hi)
  · rw [at_, if_pos rfl]; exact g2
  · rw [at_, if_pos rfl]
    exact z_red (z_times (by rw [e0]; exact hj))
  · rw [at_, if_neg ne]; exact ho i ne hi
theorem begun_none {rs rs1 : List Row} {p q k N wd : Nat} (hl : rs1.length = rs.length) (hb : ∀ r ∈ rs1, Big N r ∧ r.1.length = wd) (e0 : rowAt rs1 p = rowAt rs q) (ho : ∀ i, i ≠ p → i < rs.length → rowAt rs1 i = rowAt rs i ∨ (i = q ∧ rowAt rs1 i = rowAt rs p))
    (ht : (rowAt rs1 p).1[k]? = some (rowAt rs1 p).2) : Begun rs rs1 p q k N wd :=
  ⟨hl, hb, ht, fun j hj => by rw [e0]; exact hj, ho⟩
structure Clr (rs rs' : List Row) (p k n N wd : Nat) : Prop where
  len : rs'.length = rs.length
  own : rowAt rs' p = rowAt rs p
  nul : ∀ i, i ≠ p → i < n → (rowAt rs' i).1[k]? = some 0
  old : ∀ i, n ≤ i → rowAt rs' i = rowAt rs i
  big : ∀ i, i < n → i < rs.length → Big (2 * (N * N)) (rowAt rs' i) ∧ (rowAt rs' i).1.length = wd
  zer : ∀ i j : Nat, i < rs.length → (rowAt rs p).1[j]? = some 0 → (rowAt rs i).1[j]? = some 0 → (rowAt rs' i).1[j]? = some 0
  one : ∀ i j : Nat, i < rs.length → (rowAt rs p).1[j]? = some 0 → (rowAt rs i).1[j]? = some (rowAt rs i).2 → (rowAt rs' i).1[j]? = some (rowAt rs' i).2
theorem Clr.zero {rs : List Row} {p k N wd : Nat} : Clr rs rs p k 0 N wd := ⟨rfl, rfl, fun _ _ h => absurd h (by omega), fun _ _ => rfl, fun _ h => absurd h (by omega), fun _ _ _ _ h => h, fun _ _ _ _ h => h⟩
theorem Clr.skip {rs rs' : List Row} {p k n N wd : Nat} (h : Clr rs rs' p k n N wd) (h1 : 1 ≤ N) (hb : ∀ r ∈ rs, Big N r ∧ r.1.length = wd) (z : n = p ∨ (rowAt rs' n).1[k]? = some 0) : Clr rs rs' p k (n + 1) N wd := by
  refine ⟨h.len, h.own, fun i ne hi => ?_, fun i hi => h.old i (by omega), fun i hi hl => ?_, h.zer, h.one⟩
  · by_cases e : i = n
    · subst e
      rcases z with z | z
      · exact absurd z ne
      · exact z
    · exact h.nul i ne (by omega)
  · by_cases e : i = n
    · subst e
      rw [h.old i (Nat.le_refl _)]
      have := hb _ (rowAt_in hl)
      refine ⟨this.1.le ?_, this.2⟩
      have := Nat.mul_le_mul h1 (Nat.le_refl N)
      omega
    · exact h.big i (by omega) hl
theorem Clr.next {rs rs' : List Row} {p k n N wd : Nat} {c : Int × Int} {a : Int} (h : Clr rs rs' p k n N wd) (hb : ∀ r ∈ rs, Big N r ∧ r.1.length = wd) (hn : n < rs.length) (hp : p < rs.length) (ne : n ≠ p) (ha : (rowAt rs n).1[k]? = some a) (ho : (rowAt rs p).1[k]? = some (rowAt rs p).2) (hc : 0 < c.2) (e : c.1 * (rowAt rs n).2 = -a * c.2) :
    Clr rs (stepR rs' (.add n p c)) p k (n + 1) N wd := by
  have bn := hb _ (rowAt_in hn)
  have bp := hb _ (rowAt_in hp)
  obtain ⟨g1, g2⟩ := clear_big bn.1 bp.1 (by rw [bn.2, bp.2]) ha ho hc e
  have hn' : n < rs'.length := by rw [h.len]; exact hn
  have at_ : ∀ i, rowAt (stepR rs' (.add n p c)) i = if i = n then redR (plusR (rowAt rs n) (rowAt rs p) c) else rowAt rs' i := fun i => by
    have : rowAt (stepR rs' (.add n p c)) i = if i = n then redR (plusR (rowAt rs' n) (rowAt rs' p) c) else rowAt rs' i := rowAt_set hn'
    rw [this, h.own, h.old n (Nat.le_refl _)]
  refine ⟨stepR_length.trans h.len, ?_, fun i hi hl => ?_, fun i hi => ?_, fun i hi hl => ?_, fun i j hi zp zi => ?_, fun i j hi zp zi => ?_⟩
  · rw [at_, if_neg (fun z => ne z.symm)]; exact h.own
  · rw [at_]
    by_cases z : i = n
    · rw [if_pos z]; exact g2
    · rw [if_neg z]; exact h.nul i hi (by omega)
  · rw [at_, if_neg (by omega)]; exact h.old i (by omega)
  · rw [at_]
    by_cases z : i = n
    · rw [if_pos z]
      refine ⟨g1, ?_⟩
      rw [red_len]; unfold plusR; rw [List.length_zipWith, bn.2, bp.2, Nat.min_self]
    · rw [if_neg z]; exact h.big i (by omega) hl
  · rw [at_]
    by_cases z : i = n
    · rw [if_pos z]; subst z; exact z_red (z_plus zi zp)
    · rw [if_neg z]; exact h.zer i j hi zp zi
  · rw [at_]
    by_cases z : i = n
    · rw [if_pos z]; subst z; exact o_red (o_plus zi zp)
    · rw [if_neg z]; exact h.one i j hi zp zi
theorem Clr.done {rs rs' : List Row} {p k N wd : Nat} (h : Clr rs rs' p k rs.length N wd) : Cleared rs rs' p k ∧ ∀ r ∈ rs', Big (2 * (N * N)) r ∧ r.1.length = wd := by
  refine ⟨⟨h.len, h.own, fun i ne hi => h.nul i ne hi, h.zer, h.one⟩, fun r hr => ?_⟩
  obtain ⟨i, hi, rfl⟩ := mem_rowAt hr
  rw [h.len] at hi
  exact h.big i hi hi
def AllB (N wd : Nat) (rs : List Row) (ss : List Stp) : Prop := ∀ k : Nat, ∀ r ∈ runR rs (ss.take k), Big N r ∧ r.1.length = wd
theorem AllB.nil {N wd : Nat} {rs : List Row} (h : ∀ r ∈ rs, Big N r ∧ r.1.length = wd) : AllB N wd rs [] := fun k => by rw [List.take_nil]; exact h
theorem AllB.le {N M wd : Nat} {rs : List Row} {ss : List Stp} (h : AllB N wd rs ss) (hn : N ≤ M) : AllB M wd rs ss := fun k r hr => ⟨(h k r hr).1.le hn, (h k r hr).2⟩
theorem AllB.app {N wd : Nat} {rs : List Row} {ss ts : List Stp} (h : AllB N wd rs ss) (h2 : AllB N wd (runR rs ss) ts) : AllB N wd rs (ss ++ ts) := fun k => by
  rw [List.take_append, runR_app]
  by_cases e : k ≤ ss.length
  · rw [show k - ss.length = 0 by omega, List.take_zero]
    exact h k
  · rw [List.take_of_length_le (show ss.length ≤ k by omega)]
    exact h2 _
theorem AllB.snoc {N wd : Nat} {rs : List Row} {ss : List Stp} {s : Stp} (h : AllB N wd rs ss) (h2 : ∀ r ∈ stepR (runR rs ss) s, Big N r ∧ r.1.length = wd) : AllB N wd rs (ss ++ [s]) := by
  refine h.app fun k => ?_
  cases k with
  | zero => rw [List.take_zero]; have := h ss.length; rw [List.take_length] at this; exact this
  | succ k => rw [show ([s] : List Stp).take (k + 1) = [s] by simp]; exact h2
open Rw
theorem line3 : 3 ≤ sizeLine := by decide
theorem line4 : 4 ≤ sizeLine := by decide
theorem eqv_two (a b c d : Int) : PyData.eqv (.tuple [.int a, .int b]) (.tuple [.int c, .int d]) = (a == c && b == d) := by
  simp [PyData.eqv, PyData.eqvAll]
structure Sts (H : Hp) (ys : List V) (ss : List Stp) : Prop where
  len : ys.length = ss.length
  at_ : ∀ (k : Nat) (s : Stp), ss[k]? = some s → ∃ v, ys[k]? = some v ∧ StpAt H v s
theorem StpAt.ref {H : Hp} {v : V} : ∀ {s : Stp}, StpAt H v s → ∃ a, v = .ref a
  | .swap _ _, ⟨t, e, _⟩ => ⟨t, e⟩
  | .times _ _, ⟨t, _, e, _⟩ => ⟨t, e⟩
  | .add _ _ _, ⟨t, _, e, _⟩ => ⟨t, e⟩
theorem Sts.refs {H : Hp} {ys : List V} {ss : List Stp} (h : Sts H ys ss) {wd : Nat} (hw : 0 < wd) : ∀ ts : List Int, ts.length = wd → ys ≠ ts.map V.int := by
  intro ts hl e
  have : 0 < ys.length := by rw [e, List.length_map]; omega
  have hs : 0 < ss.length := by rw [← h.len]; exact this
  obtain ⟨v, ev, sa⟩ := h.at_ 0 _ (List.getElem?_eq_getElem hs)
  obtain ⟨a, rfl⟩ := sa.ref
  rw [e, List.getElem?_map] at ev
  cases z : ts[0]? with
  | none => rw [z] at ev; cases ev
  | some i => rw [z] at ev; cases ev
theorem Sts.snoc {H : Hp} {ys : List V} {ss : List Stp} (h : Sts H ys ss) {v : V} {s : Stp} (hv : StpAt H v s) : Sts H (ys ++ [v]) (ss ++ [s]) := by
  refine ⟨by rw [List.length_append, List.length_append, h.len]; rfl, fun k u e => ?_⟩
  by_cases hk : k < ss.length
  · rw [List.getElem?_append_left hk] at e
    rw [List.getElem?_append_left (by rw [h.len]; exact hk)]
    exact h.at_ k u e
  · rw [List.getElem?_append_right (by omega)] at e
    have e0 : k - ss.length = 0 := by
      cases z : k - ss.length with
      | zero => rfl
      | succ m => rw [z] at e; simp at e
    rw [e0, List.getElem?_cons_zero] at e
    cases e
    rw [List.getElem?_append_right (by rw [h.len]; omega), h.len, e0]
    exact ⟨v, rfl, hv⟩
theorem Sts.imp {H H' : Hp} {ys : List V} {ss : List Stp} (h : Sts H ys ss) (k : ∀ t us, H t = some (.tup us) → H' t = some (.tup us)) : Sts H' ys ss := ⟨h.len, fun j s e => let ⟨v, a, b⟩ := h.at_ j s e; ⟨v, a, b.imp k⟩⟩
def Off2 (l ls : Addr) (H H' : Hp) : Prop := ∀ b o, b ≠ l → b ≠ ls → H b = some o → H' b = some o
theorem Off2.tup {l ls : Addr} {H H' : Hp} (h : Off2 l ls H H') {xs ys : List V} (hl : H l = some (.lst xs)) (hls : H ls = some (.lst ys)) : ∀ t us, H t = some (.tup us) → H' t = some (.tup us) := fun t us e => h t _ (ne_of e hl (by intro z; cases z)) (ne_of e hls (by intro z; cases z)) e
structure Red (l ls : Addr) (H : Hp) (xs ys : List V) (rs : List Row) (ss : List Stp) : Prop where
  hl : H l = some (.lst xs)
  lr : LR H xs rs
  hs : H ls = some (.lst ys)
  st : Sts H ys ss
  ne : ls ≠ l
def sp_begin_row : Sp := fun vs H Q _ => ∃ (l ls : Addr) (xs ys : List V) (rs : List Row) (ss : List Stp) (p q k N wd : Nat), vs = [.ref l, .ref ls, .int p, .int q, .int k] ∧ Red l ls H xs ys rs ss ∧ ss.length ≤ 900 ∧ (∀ r ∈ rs, Big N r ∧ r.1.length = wd) ∧ N ≤ NN ∧ wd ≤ 64 ∧ k < wd ∧ p < rs.length ∧ q < rs.length ∧ topAt rs q k ≠ 0 ∧
  ∀ H' xs' ys' new, Off2 l ls H H' → Red l ls H' xs' ys' (runR rs new) (ss ++ new) → new.length ≤ 2 → (∀ s ∈ new, StpG rs.length s) → Begun rs (runR rs new) p q k N wd → AllB N wd rs new → Q .non H'
theorem ok_begin_row {f : Addr} {fd : FuncData} (F : Fun K nm_begin_row nm_begin_row s_begin_row f fd) (T : Txt K mg D) (G_go_on : OkF P w K mg base 5 nm_go_on ps_go_on sp_go_on) (G_number_at : OkF P w K mg base 3 nm_number_at ps_number_at sp_number_at) (G_over : OkF P w K mg base 3 nm_over ps_over (sp_over15 K)) : FnOk P w K mg base CX0 6 f fd ps_begin_row sp_begin_row := by
  refine F.ok sc_begin_row (fun vs H Q E h => ?_) (fun cdv A outer s H vs Q E hr h => ?_)
  · obtain ⟨l, ls, xs, ys, rs, ss, p, q, k, N, wd, rfl, _⟩ := h
    rfl
  · obtain ⟨l, ls, xs, ys, rs, ss, p, q, k, N, wd, rfl, rd, h9, hb, hN, hw, hk, hp, hq, ht, qq⟩ := h
    refine ⟨_, (pss_cut (ps_if (pt_cmpR op_ne (pv 3) (pv 2) (nomark _))
        (pss_one (ps_expr (pe_callF G_go_on (hr.mono (by decide)) (by rfl) (pa_cons (pv 0) (pa_cons (pv 1) (pa_cons (pe_tup (pa_cons pe_str (pa_cons (pv 2) (pa_cons (pv 3) pa_nil)))) pa_nil))))))
        pss_nil)
      (pss_cons (ps_set (i := 5) sc_begin_row.nd rfl (Or.inl rfl) (pe_callF G_number_at (hr.mono (by decide)) (by rfl) (pa_cons (pe_ix ix_listH (pv 0) (pv 2) (fun _ _ => rfl)) (pa_cons (pv 4) pa_nil))))
      (pss_one (ps_if (pt_cmpR (op_neKK (K := K) rfl hr.units) (pv 5) (pe_globT (by rfl) T.c_ONE) (nomark _))
        (pss_one (ps_expr (pe_callF G_go_on (hr.mono (by decide)) (by rfl) (pa_cons (pv 0) (pa_cons (pv 1) (pa_cons (pe_tup (pa_cons pe_str (pa_cons (pv 2) (pa_cons (pe_callF G_over (hr.mono (by decide)) (by rfl) (pa_cons (pe_globT (by rfl) T.c_ONE) (pa_cons (pv 5) pa_nil))) pa_nil)))) pa_nil))))))
        pss_nil)))), ?_⟩
    refine ⟨fun σ' H1 => ∃ xs1 ys1 new, σ' = [some (.ref l), some (.ref ls), some (.int p), some (.int q), some (.int k), none] ∧ Off2 l ls H H1 ∧ Red l ls H1 xs1 ys1 (runR rs new) (ss ++ new) ∧ new.length ≤ 1 ∧ (∀ s ∈ new, StpG rs.length s) ∧ (runR rs new).length = rs.length ∧ (∀ r ∈ runR rs new, Big N r ∧ r.1.length = wd) ∧ rowAt (runR rs new) p = rowAt rs q ∧ (∀ i, i ≠ p → i < rs.length → rowAt (runR rs new) i = rowAt rs i ∨ (i = q ∧ rowAt (runR rs new) i = rowAt rs p)) ∧ AllB N wd rs new, ⟨_, rfl, _, rfl, rfl, _, rfl, ite2 (fun h => ?_) fun h => ?_⟩, ?_⟩
    · refine ⟨_, rfl, _, rfl, _, rfl, _, rfl, line3, fun t hf => ?_⟩
      have S1 : Same H (upd H t (.tup [.str (Str.ofString "swap"), .int p, .int q])) := Same.upd hf
      have nl : t ≠ l := (ne_of_none rd.hl hf).symm
      have nls : t ≠ ls := (ne_of_none rd.hs hf).symm
      refine ⟨l, ls, .ref t, xs, ys, rs, .swap p q, wd, rfl, S1 _ _ rd.hl, rd.lr.same S1, S1 _ _ rd.hs, by rw [rd.st.len]; omega, rd.ne, rd.st.refs (by omega), ⟨t, rfl, upd_same⟩, ⟨hp, hq⟩, fun r hr => ⟨(hb r hr).1.le hN, (hb r hr).2⟩, hw, fun H' xs' kp h1 lr1 h2 => ?_⟩
      have of : Off2 l ls H H' := fun b o e1 e2 e => kp b o e1 e2 (S1 _ _ e)
      have bs : ∀ r ∈ stepR rs (.swap p q), Big N r ∧ r.1.length = wd := fun r hr => by
        obtain ⟨i, hi, rfl⟩ := mem_rowAt hr
        have hi : i < rs.length := by rw [← stepR_length (rs := rs) (st := .swap p q)]; exact hi
        rw [swap_at hp hq]
        split
        · exact hb _ (rowAt_in hp)
        · split
          · exact hb _ (rowAt_in hq)
          · exact hb _ (rowAt_in hi)
      refine ⟨xs', _, [.swap p q], rfl, of, ⟨h1, lr1, h2, (rd.st.imp (of.tup rd.hl rd.hs)).snoc ⟨t, rfl, kp _ _ nl nls upd_same⟩, rd.ne⟩, Nat.le_refl _, fun s hs => ?_, (show (stepR rs (.swap p q)).length = rs.length from stepR_length), bs, ?_, fun i ne hi => ?_, (AllB.nil hb).snoc bs⟩
      · rw [List.mem_singleton.mp hs]; exact ⟨hp, hq⟩
      · show rowAt (stepR rs (.swap p q)) p = _
        rw [swap_at hp hq, if_pos rfl]
        split
        · rename_i z; rw [z]
        · rfl
      · show rowAt (stepR rs (.swap p q)) i = _ ∨ _ ∧ rowAt (stepR rs (.swap p q)) i = _
        rw [swap_at hp hq, if_neg ne]
        split
        · rename_i z; exact .inr ⟨z, rfl⟩
        · exact .inl rfl
    · have e : (q : Int) = p := by simpa using h
      have e : q = p := by omega
      exact ⟨xs, ys, [], rfl, fun b o _ _ e => e, by rw [List.append_nil]; exact rd, by decide, fun s hs => absurd hs List.not_mem_nil, rfl, hb, by rw [e]; rfl, fun i _ _ => .inl rfl, AllB.nil hb⟩
    · rintro σ' H1 ⟨xs1, ys1, new, rfl, of1, rd1, n1, g1, len1, big1, e1, old1, ab⟩
      have hp1 : p < (runR rs new).length := by rw [len1]; exact hp
      have hx : p < xs1.length := by rw [rd1.lr.len]; exact hp1
      have ra := rd1.lr.at_ p _ (List.getElem?_eq_getElem hx)
      have bp := big1 _ (rowAt_in hp1)
      have et : (rowAt (runR rs new) p).1[k]? = some (topAt rs q k) := by
        rw [e1]
        unfold topAt
        rw [List.getD_eq_getElem?_getD, List.getElem?_eq_getElem (by rw [← e1, bp.2]; exact hk)]; rfl
      have bN := bp.1.le hN
      have b0 := bp.1.pos
      have tb := bN.top _ (List.mem_of_getElem? et)
      generalize hr1 : runR rs new = rs1 at *
      generalize hrw : rowAt rs1 p = r at *
      generalize topAt rs q k = t at *
      refine ⟨_, rfl, _, rfl, l, xs1, p, _, rfl, rfl, rd1.hl, atI_nat (List.getElem?_eq_getElem hx), _, rfl, _, r, k, t, rfl, ra, et, bN, fun f hf => ?_⟩
      have S2 : Same H1 (upd H1 f (.tup [.int (Ac.lw t r.2).1, .int (Ac.lw t r.2).2])) := Same.upd hf
      have lp := Ac.lw_pos (t := t) b0
      have lg := Ac.lw_gcd (t := t) b0
      have le := Ac.lw_eq (t := t) b0
      refine ⟨_, rfl, _, _, .tup (.inl (.of upd_same)) (.cons (.int _) (.cons (.int _) .nil)), .tup (T.kt_ONE _) (.cons (.int _) (.cons (.int _) .nil)), rfl, rfl, _, rfl, ite2 (fun h => ?_) fun h => ?_⟩
      · have l1 : (Ac.lw t r.2).1.natAbs ≤ NN := Nat.le_trans (Int.natAbs_ediv_le_natAbs _ _) tb
        have l2 : (Ac.lw t r.2).2.natAbs ≤ NN := Nat.le_trans (Int.natAbs_ediv_le_natAbs _ _) bN.bot
        have u0 : (Ac.lw t r.2).1 ≠ 0 := fun z => by
          rw [z, Int.zero_mul] at le
          rcases Int.mul_eq_zero.mp le.symm with z | z
          · exact ht z
          · omega
        generalize (Ac.lw t r.2).1 = u at *
        generalize (Ac.lw t r.2).2 = v at *
        refine ⟨_, rfl, _, rfl, _, rfl, _, rfl, _, _, 1, 1, u, v, rfl, T.kt_ONE _, .inl (.of upd_same), bdN (by decide +kernel), bdN (by decide +kernel), bdN l1, bdN l2, by rw [Int.one_mul]; exact u0, by rw [Int.one_mul]; exact bdN l1, fun a z o lo ha => ⟨line3, fun t2 ht2 => ?_⟩⟩
        have S3 := Same.upd (o := .tup [.int z, .int o]) ha
        have S4 := Same.upd (o := .tup [.str (Str.ofString "times"), .int p, .ref a]) ht2
        have ea := S4 a _ upd_same
        have S := (S2.trans S3).trans S4
        have e2 : upd (upd (upd H1 f (.tup [.int u, .int v])) a (.tup [.int z, .int o])) t2 (.tup [.str (Str.ofString "times"), .int p, .ref a]) t2 = some (.tup [.str (Str.ofString "times"), .int p, .ref a]) := upd_same
        generalize upd (upd (upd H1 f (.tup [.int u, .int v])) a (.tup [.int z, .int o])) t2 (.tup [.str (Str.ofString "times"), .int p, .ref a]) = H2 at *
        have zz := lo.eq
        rw [Int.one_mul, Int.one_mul] at zz
        have o0 := lo.pos
        have z0 : z ≠ 0 := fun q => by
          rw [q, Int.zero_mul] at zz
          rcases Int.mul_eq_zero.mp zz.symm with y | y <;> omega
        have fn : Fn (z, o) := ⟨o0, Nat.le_trans lo.lx (by rw [Int.one_mul]; exact l2), Nat.le_trans lo.ly (by rw [Int.one_mul]; exact l1)⟩
        have key : z * t = o * r.2 := by
          refine Int.eq_of_mul_eq_mul_right (Int.ne_of_gt lp) ?_
          calc z * t * v = z * (t * v) := by ac_rfl
            _ = z * (u * r.2) := by rw [← le]
            _ = (z * u) * r.2 := by ac_rfl
            _ = v * o * r.2 := by rw [zz]
            _ = o * r.2 * v := by ac_rfl
        have sg : StpG rs.length (.times p (z, o)) := ⟨hp, fn, lo.gcd, z0⟩
        refine ⟨l, ls, .ref t2, xs1, ys1, rs1, .times p (z, o), wd, rfl, S _ _ rd1.hl, rd1.lr.same S, S _ _ rd1.hs, by rw [rd1.st.len, List.length_append]; omega, rd1.ne, rd1.st.refs (by omega), ⟨t2, a, rfl, e2, ea⟩, by rw [len1]; exact sg.n, fun r hr => ⟨(big1 r hr).1.le hN, (big1 r hr).2⟩, hw, fun H' xs' kp h1 lr1 h2 => ?_⟩
        have of : Off2 l ls H1 H' := fun b o e1 e2 e => kp b o e1 e2 (S _ _ e)
        have tk : ∀ t us, H2 t = some (.tup us) → H' t = some (.tup us) := fun t us e => kp _ _ (ne_of e (S _ _ rd1.hl) (by intro z; cases z)) (ne_of e (S _ _ rd1.hs) (by intro z; cases z)) e
        have es : runR rs (new ++ [.times p (z, o)]) = stepR rs1 (.times p (z, o)) := by rw [runR_snoc, hr1]
        refine qq H' xs' _ (new ++ [.times p (z, o)]) (fun b o e1 e2 e => of b o e1 e2 (of1 b o e1 e2 e)) ⟨h1, by rw [es]; exact lr1, h2, ?_, rd.ne⟩ (by rw [List.length_append]; exact Nat.succ_le_succ n1) (fun s hs => ?_) ?_ ?_
        · rw [← List.append_assoc]
          exact (rd1.st.imp (of.tup rd1.hl rd1.hs)).snoc ⟨t2, a, rfl, tk _ _ e2, tk _ _ ea⟩
        · rcases List.mem_append.mp hs with y | y
          · exact g1 s y
          · rw [List.mem_singleton.mp y]; exact sg
        · rw [es]
          exact begun_times hp1 len1 big1 (by rw [hrw, e1]) old1 (by rw [hrw]; exact et) ht o0 (by rw [hrw]; exact key)
        · refine ab.snoc ?_
          rw [hr1]
          exact (begun_times (q := q) hp1 len1 big1 (by rw [hrw, e1]) old1 (by rw [hrw]; exact et) ht o0 (by rw [hrw]; exact key)).big
      · have e2 : (Ac.lw t r.2).1 = 1 ∧ (Ac.lw t r.2).2 = 1 := by
          rw [if_pos rfl, eqv_two] at h
          simpa using h
        rw [e2.1, e2.2, Int.one_mul, Int.mul_one] at le
        refine qq _ xs1 ys1 new (fun b o e1 e2 e => S2 _ _ (of1 b o e1 e2 e)) ⟨S2 _ _ rd1.hl, by rw [hr1]; exact rd1.lr.same S2, S2 _ _ rd1.hs, rd1.st.imp fun t us e => S2 _ _ e, rd.ne⟩ (by omega) g1 ?_ ab
        rw [hr1]
        exact begun_none len1 big1 (by rw [hrw, e1]) old1 (by rw [hrw, et, le])
open Rw
def sp_clear_column : Sp := fun vs H Q _ => ∃ (l ls : Addr) (xs ys : List V) (rs : List Row) (ss : List Stp) (p k N wd : Nat), vs = [.ref l, .ref ls, .int p, .int k] ∧ Red l ls H xs ys rs ss ∧ ss.length ≤ 800 ∧ (∀ r ∈ rs, Big N r ∧ r.1.length = wd) ∧ 1 ≤ N ∧ 2 * (N * N) ≤ NN ∧ wd ≤ 64 ∧ k < wd ∧ p < rs.length ∧ rs.length ≤ 64 ∧ (rowAt rs p).1[k]? = some (rowAt rs p).2 ∧
  ∀ H' xs' ys' new, Off2 l ls H H' → Red l ls H' xs' ys' (runR rs new) (ss ++ new) → new.length ≤ rs.length → (∀ s ∈ new, StpG rs.length s) → Cleared rs (runR rs new) p k → (∀ r ∈ runR rs new, Big (2 * (N * N)) r ∧ r.1.length = wd) → AllB (2 * (N * N)) wd rs new → Q .non H'
def jC (l ls : Addr) (p k N wd : Nat) (rs : List Row) (ss : List Stp) (H : Hp) (n : Nat) (σ : L2.St) (H' : Hp) : Prop := ∃ xs' ys' new u v, σ = [some (.ref l), some (.ref ls), some (.int p), some (.int k), u, v] ∧ Off2 l ls H H' ∧ Red l ls H' xs' ys' (runR rs new) (ss ++ new) ∧ new.length ≤ n ∧ (∀ s ∈ new, StpG rs.length s) ∧ Clr rs (runR rs new) p k n N wd ∧ AllB (2 * (N * N)) wd rs new
theorem ok_clear_column {f : Addr} {fd : FuncData} (F : Fun K nm_clear_column nm_clear_column s_clear_column f fd) (T : Txt K mg D) (G_go_on : OkF P w K mg base 5 nm_go_on ps_go_on sp_go_on) (G_number_at : OkF P w K mg base 3 nm_number_at ps_number_at sp_number_at) (G_minus : OkF P w K mg base 3 nm_minus ps_minus (sp_minus15 K)) : FnOk P w K mg base CX0 6 f fd ps_clear_column sp_clear_column := by
  refine F.ok sc_clear_column (fun vs H Q E h => ?_) (fun cdv A outer s H vs Q E hr h => ?_)
  · obtain ⟨l, ls, xs, ys, rs, ss, p, k, N, wd, rfl, _⟩ := h
    rfl
  · obtain ⟨l, ls, xs, ys, rs, ss, p, k, N, wd, rfl, rd, h9, hb, h1, hN, hw, hk, hp, hn, ho, qq⟩ := h
    refine ⟨_, (pss_one (ps_for PassesOwn.never rfl (pi_range1 (by rfl) T.b_range (pa_cons (pe_callB call_lenL (by rfl) T.b_len PySem.boot_len (pa_cons (pv 0) pa_nil)) pa_nil).mono) (pg_name (i := 4) sc_clear_column.nd rfl (Or.inl rfl))
        (pss_one (ps_if (pw_and (pt_cmpR op_ne (pv 4) (pv 2) (nomark _)) (pw_and1 (pt_cmpR op_ne (pe_ix ix_listH (pe_ix ix_tupH (pe_ix ix_listH (pv 0) (pv 4) (fun _ _ => rfl)) pe_int (fun _ _ => rfl)) (pv 3) (fun _ _ => rfl)) pe_int (nomark _)))).pt
          (pss_cons (ps_set (i := 5) sc_clear_column.nd rfl (Or.inl rfl) (pe_callF G_minus (hr.mono (by decide)) (by rfl) (pa_cons (pe_globT (by rfl) T.c_NOUGHT) (pa_cons (pe_callF G_number_at (hr.mono (by decide)) (by rfl) (pa_cons (pe_ix ix_listH (pv 0) (pv 4) (fun _ _ => rfl)) (pa_cons (pv 3) pa_nil))) pa_nil))))
          (pss_one (ps_expr (pe_callF G_go_on (hr.mono (by decide)) (by rfl) (pa_cons (pv 0) (pa_cons (pv 1) (pa_cons (pe_tup (pa_cons pe_str (pa_cons (pv 4) (pa_cons (pv 2) (pa_cons (pv 5) pa_nil))))) pa_nil)))))))
          pss_nil)))), ?_⟩
    have hNN : N ≤ NN := Nat.le_trans (Nat.le_trans (by have := Nat.mul_le_mul h1 (Nat.le_refl N); omega) (Nat.le_refl (2 * (N * N)))) hN
    have hN2 : N ≤ 2 * (N * N) := by have := Nat.mul_le_mul h1 (Nat.le_refl N); omega
    have hx := rd.lr.len
    refine tFor_rngM ⟨_, rfl, l, xs, rfl, rd.hl, xs.length, rfl, by omega, jC l ls p k N wd rs ss H, ⟨xs, ys, [], none, none, rfl, fun b o _ _ e => e, by rw [List.append_nil]; exact rd, Nat.le_refl _, fun s hs => absurd hs List.not_mem_nil, Clr.zero, (AllB.nil hb).le hN2⟩, ?_, ?_⟩
    · rintro n σ' H1 hn' ⟨xs1, ys1, new, u, v, rfl, of1, rd1, n1, g1, cl, ab⟩
      have hnr : n < rs.length := by omega
      refine ⟨_, rfl, _, rfl, rfl, _, rfl, ite2 (fun h => ?_) fun h => ite2 (fun z => by cases z) fun _ => ?_⟩
      · have ne : n ≠ p := fun z => by rw [z] at h; simp at h
        have hn1 : n < (runR rs new).length := by rw [cl.len]; exact hnr
        have hx1 : n < xs1.length := by rw [rd1.lr.len]; exact hn1
        have ra := rd1.lr.at_ n _ (List.getElem?_eq_getElem hx1)
        rw [cl.old n (Nat.le_refl _)] at ra
        have bn := hb _ (rowAt_in hnr)
        obtain ⟨a, et⟩ : ∃ a, (rowAt rs n).1[k]? = some a := ⟨_, List.getElem?_eq_getElem (by rw [bn.2]; exact hk)⟩
        have bN := bn.1.le hNN
        have b0 := bn.1.pos
        have tb := bN.top _ (List.mem_of_getElem? et)
        have ev := atI_nat (List.getElem?_eq_getElem hx1)
        obtain ⟨t, lr, e0, ht, hlr⟩ := id ra
        refine ⟨_, rfl, _, rfl, l, xs1, n, _, rfl, rfl, rd1.hl, ev, t, _, 0, _, e0, rfl, ht, atI_0, _, rfl, lr, _, k, _, rfl, rfl, hlr, atI_nat (j := k) (by rw [List.getElem?_map, et]; rfl), rfl, _, rfl, ite2 (fun h => ?_) fun h => ?_⟩
        · generalize hrw : rowAt rs n = r at *
          refine ⟨_, rfl, _, rfl, l, xs1, n, _, rfl, rfl, rd1.hl, ev, _, rfl, _, r, k, a, rfl, ra, et, bN, fun f hf => ?_⟩
          have l1 : (Ac.lw a r.2).1.natAbs ≤ NN := Nat.le_trans (Int.natAbs_ediv_le_natAbs _ _) tb
          have l2 : (Ac.lw a r.2).2.natAbs ≤ NN := Nat.le_trans (Int.natAbs_ediv_le_natAbs _ _) bN.bot
          have lp := Ac.lw_pos (t := a) b0
          have le := Ac.lw_eq (t := a) b0
          generalize (Ac.lw a r.2).1 = u at *
          generalize (Ac.lw a r.2).2 = v at *
          refine ⟨_, _, 0, 1, u, v, rfl, T.kt_NOUGHT _, .inl (.of upd_same), bdN (by decide +kernel), bdN (by decide +kernel), bdN l1, bdN l2, by decide, lp, by rw [Int.one_mul]; exact bdN l2, fun q z o lo hq => ?_⟩
          refine ⟨_, rfl, _, rfl, _, rfl, _, rfl, _, rfl, line4, fun t2 ht2 => ?_⟩
          have S2 := Same.upd (o := .tup [.int u, .int v]) hf
          have S3 := Same.upd (o := .tup [.int z, .int o]) hq
          have S4 := Same.upd (o := .tup [.str (Str.ofString "add"), .int n, .int p, .ref q]) ht2
          have ea := S4 q _ upd_same
          have S := (S2.trans S3).trans S4
          have e2 : upd (upd (upd H1 f (.tup [.int u, .int v])) q (.tup [.int z, .int o])) t2 (.tup [.str (Str.ofString "add"), .int n, .int p, .ref q]) t2 = some (.tup [.str (Str.ofString "add"), .int n, .int p, .ref q]) := upd_same
          generalize upd (upd (upd H1 f (.tup [.int u, .int v])) q (.tup [.int z, .int o])) t2 (.tup [.str (Str.ofString "add"), .int n, .int p, .ref q]) = H2 at *
          have zz := lo.eq
          have lx := lo.lx
          have ly := lo.ly
          rw [Int.one_mul, Int.zero_mul, Int.mul_one, Int.zero_sub] at zz
          rw [Int.zero_mul, Int.mul_one, Int.zero_sub, Int.natAbs_neg] at lx
          rw [Int.one_mul] at ly
          have fn : Fn (z, o) := ⟨lo.pos, Nat.le_trans lx l1, Nat.le_trans ly l2⟩
          have key : z * r.2 = -a * o := by
            refine Int.eq_of_mul_eq_mul_right (Int.ne_of_gt lp) ?_
            calc z * r.2 * v = (z * v) * r.2 := by ac_rfl
              _ = -u * o * r.2 := by rw [zz]
              _ = -(u * r.2) * o := by rw [Int.neg_mul, Int.neg_mul, Int.neg_mul]; congr 1; ac_rfl
              _ = -(a * v) * o := by rw [le]
              _ = -a * o * v := by rw [Int.neg_mul, Int.neg_mul, Int.neg_mul]; congr 1; ac_rfl
          have sg : StpG rs.length (.add n p (z, o)) := ⟨hnr, hp, ne, fn, lo.gcd⟩
          have big1 : ∀ r ∈ runR rs new, Big NN r ∧ r.1.length = wd := fun r hr => by
            obtain ⟨i, hi, rfl⟩ := mem_rowAt hr
            rw [cl.len] at hi
            by_cases z : i < n
            · exact ⟨(cl.big i z hi).1.le hN, (cl.big i z hi).2⟩
            · rw [cl.old i (by omega)]
              exact ⟨(hb _ (rowAt_in hi)).1.le hNN, (hb _ (rowAt_in hi)).2⟩
          refine ⟨l, ls, .ref t2, xs1, ys1, runR rs new, .add n p (z, o), wd, rfl, S _ _ rd1.hl, rd1.lr.same S, S _ _ rd1.hs, by rw [rd1.st.len, List.length_append]; omega, rd1.ne, rd1.st.refs (by omega), ⟨t2, q, rfl, e2, ea⟩, by rw [cl.len]; exact sg.n, big1, hw, fun H' xs' kp h1' lr1 h2' => ?_⟩
          have of : Off2 l ls H1 H' := fun b o e1 e2 e => kp b o e1 e2 (S _ _ e)
          have tk : ∀ t us, H2 t = some (.tup us) → H' t = some (.tup us) := fun t us e => kp _ _ (ne_of e (S _ _ rd1.hl) (by intro z; cases z)) (ne_of e (S _ _ rd1.hs) (by intro z; cases z)) e
          refine ⟨xs', _, new ++ [.add n p (z, o)], _, _, rfl, fun b o e1 e2 e => of b o e1 e2 (of1 b o e1 e2 e), ⟨h1', by rw [runR_snoc]; exact lr1, h2', ?_, rd.ne⟩, by rw [List.length_append]; exact Nat.succ_le_succ n1, fun s hs => ?_, ?_, ?_⟩
          · rw [← List.append_assoc]
            exact (rd1.st.imp (of.tup rd1.hl rd1.hs)).snoc ⟨t2, q, rfl, tk _ _ e2, tk _ _ ea⟩
          · rcases List.mem_append.mp hs with y | y
            · exact g1 s y
            · rw [List.mem_singleton.mp y]; exact sg
          · rw [runR_snoc]
            exact cl.next hb hnr hp ne (by rw [hrw]; exact et) ho lo.pos (by rw [hrw]; exact key)
          · have nx := cl.next (N := N) (wd := wd) (c := (z, o)) hb hnr hp ne (by rw [hrw]; exact et) ho lo.pos (by rw [hrw]; exact key)
            refine ab.snoc fun r hr => ?_
            obtain ⟨i, hi, rfl⟩ := mem_rowAt hr
            rw [nx.len] at hi
            by_cases z : i < n + 1
            · exact nx.big i z hi
            · rw [nx.old i (by omega)]
              exact ⟨(hb _ (rowAt_in hi)).1.le hN2, (hb _ (rowAt_in hi)).2⟩
        · have z : a = 0 := by simpa using h
          refine ⟨xs1, ys1, new, _, v, rfl, of1, rd1, Nat.le_succ_of_le n1, g1, cl.skip h1 hb (.inr ?_), ab⟩
          rw [cl.old n (Nat.le_refl _), et, z]
      · have z : (n : Int) = p := by simpa using h
        exact ⟨xs1, ys1, new, _, v, rfl, of1, rd1, Nat.le_succ_of_le n1, g1, cl.skip h1 hb (.inl (by omega)), ab⟩
    · rintro σ' H1 ⟨xs1, ys1, new, u, v, rfl, of1, rd1, n1, g1, cl, ab⟩
      rw [hx] at n1 cl
      exact qq H1 xs1 ys1 new of1 rd1 n1 g1 cl.done.1 cl.done.2 ab
open Rw
structure FRs (H : Hp) (xs : List V) (fss : List (List (Int × Int))) : Prop where
  len : xs.length = fss.length
  at_ : ∀ (k : Nat) (v : V), xs[k]? = some v → ∃ l ys, v = .ref l ∧ H l = some (.lst ys) ∧ FL H ys (fss.getD k [])
theorem FRs.same {H H' : Hp} {xs : List V} {fss : List (List (Int × Int))} (h : FRs H xs fss) (S : Same H H') : FRs H' xs fss := ⟨h.len, fun k v e => let ⟨l, ys, a, b, c⟩ := h.at_ k v e; ⟨l, ys, a, S _ _ b, c.same S⟩⟩
theorem FRs.snoc {H : Hp} {xs : List V} {fss : List (List (Int × Int))} (h : FRs H xs fss) {l : Addr} {ys : List V} {fs : List (Int × Int)} (hl : H l = some (.lst ys)) (hf : FL H ys fs) : FRs H (xs ++ [.ref l]) (fss ++ [fs]) := by
  refine ⟨by rw [List.length_append, List.length_append, h.len]; rfl, fun k v e => ?_⟩
  by_cases hk : k < xs.length
  · rw [List.getElem?_append_left hk] at e
    rw [List.getD_eq_getElem?_getD, List.getElem?_append_left (by rw [← h.len]; exact hk), ← List.getD_eq_getElem?_getD]
    exact h.at_ k v e
  · rw [List.getElem?_append_right (by omega)] at e
    have e0 : k - xs.length = 0 := by
      cases e1 : k - xs.length with
      | zero => rfl
      | succ m => rw [e1] at e; simp at e
    rw [e0, List.getElem?_cons_zero] at e
    cases e
    rw [List.getD_eq_getElem?_getD, List.getElem?_append_right (by rw [← h.len]; omega), ← h.len, e0]
    exact ⟨l, ys, rfl, hl, hf⟩
theorem FRs.updL {H : Hp} {D : Addr} {zs zs' : List V} (hD : H D = some (.lst zs)) {xs : List V} {fss : List (List (Int × Int))} (h : FRs H xs fss) (ne : ∀ (k : Nat) (l : Addr), xs[k]? = some (V.ref l) → l ≠ D) : FRs (upd H D (.lst zs')) xs fss := by
  refine ⟨h.len, fun k v e => ?_⟩
  obtain ⟨l, ys, rfl, b, c⟩ := h.at_ k v e
  exact ⟨l, ys, rfl, (upd_ne (ne k l e)).trans b, c.updL hD⟩
def sp_fractions_of : Sp := fun vs H Q _ => ∃ (l : Addr) (xs : List V) (rs : List Row) (wd : Nat), vs = [.ref l] ∧ H l = some (.lst xs) ∧ LR H xs rs ∧ (∀ r ∈ rs, Big NN r ∧ r.1.length = wd) ∧ wd ≤ 64 ∧ rs.length ≤ 64 ∧
  ∀ p zs H', Same H H' → H p = none → H' p = some (.lst zs) → FRs H' zs (rs.map rep) → (∀ (k : Nat) (a : Addr), zs[k]? = some (V.ref a) → H a = none ∧ a ≠ p) → Q (.ref p) H'
def jO (D1 : Addr) (rs : List Row) (H : Hp) (k : Nat) (zs : List V) (Hc : Hp) : Prop := Same H Hc ∧ Hc D1 = some (.lst zs) ∧ FRs Hc zs ((rs.take k).map rep) ∧ ∀ (j : Nat) (a : Addr), zs[j]? = some (V.ref a) → H a = none ∧ a ≠ D1
def jI (D2 : Addr) (r : Row) (H : Hp) (k : Nat) (ys : List V) (Hc : Hp) : Prop := Same H Hc ∧ Hc D2 = some (.lst ys) ∧ FL Hc ys ((rep r).take k)
theorem ok_fractions_of {f : Addr} {fd : FuncData} (F : Fun K nm_fractions_of nm_fractions_of s_fractions_of f fd) (T : Txt K mg D) (G_ratio : OkF P w K mg base 2 nm_ratio ps_ratio sp_ratio) : FnOk P w K mg base CX0 3 f fd ps_fractions_of sp_fractions_of := by
  refine F.ok sc_fractions_of (fun vs H Q E h => ?_) (fun cdv A outer s H vs Q E hr h => ?_)
  · obtain ⟨l, xs, rs, wd, rfl, _⟩ := h
    rfl
  · obtain ⟨l, xs, rs, wd, rfl, hl, lr, bn, h64, hn, q⟩ := h
    refine ⟨_, (pss_one (ps_ret (pe_compGCF (defScope s_fractions_of) ["leveled"] ["leveled"] "row" rfl rfl rfl (by decide +kernel) (by decide +kernel) rfl (fun _ _ => rfl) (fun _ => rfl) (by decide +kernel) (by decide +kernel) (by decide +kernel) (by decide +kernel) (by decide +kernel) (pi_list ((pv 0)).mono) (fun _ _ _ _ _ => (pg_name (i := 0) (show List.Nodup (["row", "leveled"] : List Str) from by decide +kernel) rfl (Or.inr rfl) (Or.inl (beq_self_eq_true _)))) (fun _ _ _ _ _ => pts_nil) (fun _ _ _ _ _ => (pe_compGF2C (defScope s_fractions_of) ["row", "leveled"] ["row", "leveled"] ["top"] rfl rfl rfl (by decide +kernel) (by decide +kernel) rfl (by decide +kernel) (by decide +kernel) (by decide +kernel) (by decide +kernel) (by decide +kernel) (pi_listK (K := K) rfl ((pe_ix ix_tupH (pv 0) pe_int (fun _ _ => rfl))).mono) (fun _ _ _ _ _ => (pg_name (i := 0) (show List.Nodup (["top", "row", "leveled"] : List Str) from by decide +kernel) rfl (Or.inl rfl) (Or.inr rfl))) (fun _ _ _ _ _ => pts_nil) (fun _ _ _ _ _ => (pe_callF G_ratio (hr.mono (by decide)) (by rfl) (pa_cons (pv 0) (pa_cons (pe_ix ix_tupH (pv 1) pe_int (fun _ _ => rfl)) pa_nil))))))))), ?_⟩
    unfold sp_ratio
    walk_at "rd"
    refine tCompG1_list ?_
    walk_at "rd"
    refine ⟨_, hl, by rw [lr.len]; exact Nat.le_trans hn (by decide), fun D1 hD => ⟨jO D1 rs H, ⟨Same.upd hD, upd_same, ⟨rfl, fun k v e => by simp at e⟩, by simp⟩, ?_, ?_⟩⟩
    · rintro k v zs Hc hk ⟨S1, hD1, fr, nw⟩ hzl hlc
      have hkr : k < rs.length := by rw [← lr.len]; exact (List.getElem?_eq_some_iff.mp hk).1
      have er : rs[k]? = some rs[k] := List.getElem?_eq_getElem hkr
      have era : rowAt rs k = rs[k] := by unfold rowAt; rw [List.getD_eq_getElem?_getD, er]; rfl
      obtain ⟨t, l1, rfl, ht, hl1⟩ := lr.at_ k v hk
      rw [era] at ht hl1
      have bk := bn _ (List.getElem_mem hkr)
      generalize rs[k] = r at *
      refine tCompG1_list ?_
      walk_at "rd"
      have p0 := bk.1.pos
      refine ⟨_, S1 _ _ ht, _, atI_0, l1, rfl, _, S1 _ _ hl1, by rw [List.length_map, bk.2]; exact Nat.le_trans h64 (by decide), fun D2 hD2 => ⟨jI D2 r Hc, ⟨Same.upd hD2, upd_same, .nil⟩, ?_, ?_⟩⟩
      · rintro j x ys H2 hj ⟨S2, hd2, fl⟩ hyl hl2
        rw [List.getElem?_map] at hj
        cases et : r.1[j]? with
        | none => rw [et] at hj; cases hj
        | some t0 =>
          rw [et] at hj
          cases hj
          refine ⟨_, S2 _ _ (S1 _ _ ht), _, atI_1, t0, rfl, _, rfl, by omega, bdN bk.1.bot, fun p x y lo hp => ?_⟩
          have T1 : Same H2 (upd H2 p (.tup [.int x, .int y])) := Same.upd hp
          have e1 : upd H2 p (.tup [.int x, .int y]) p = some (.tup [.int x, .int y]) := upd_same
          generalize upd H2 p (.tup [.int x, .int y]) = H3 at T1 e1 ⊢
          obtain ⟨ex, ey⟩ := Ac.is_lw (t := t0) (b := r.2) p0 lo.pos lo.gcd lo.eq
          have en : (rep r)[j]? = some (x, y) := by
            unfold rep
            rw [List.getElem?_map, et]
            show some (Ac.lw t0 r.2) = _
            rw [ex, ey]
          refine ⟨T1 _ _ hd2, T1 _ _ hl2, ?_, upd_same, ?_⟩
          · intro b' o' e'
            rw [upd_ne (ne_of_none e' hD2)]
            exact T1 _ _ (S2 _ _ e')
          · rw [take_next en]
            exact ((fl.same T1).updL (T1 _ _ hd2)).append (.one ((upd_ne (ne_of e1 (T1 _ _ hd2) (by intro z; cases z))).trans e1))
      · rintro ys H2 ⟨S2, hd2, fl⟩ hyl
        have ek : (rep r).take (r.1.map V.int).length = rep r := List.take_of_length_le (by unfold rep; rw [List.length_map, List.length_map]; exact Nat.le_refl _)
        rw [ek] at fl
        have nD : D1 ≠ D2 := ne_of_none hD1 hD2
        have hDn : H D2 = none := S1.free hD2
        refine ⟨S2 _ _ hD1, S2 _ _ hlc, ?_, upd_same, ?_, ?_⟩
        · intro b' o' e'
          rw [upd_ne (ne_of_none e' hD)]
          exact S2 _ _ (S1 _ _ e')
        · rw [take_next er, List.map_append]
          refine FRs.snoc (FRs.updL (S2 _ _ hD1) (fr.same S2) fun j' l' e' => (nw j' l' e').2) ((upd_ne nD.symm).trans hd2) (fl.updL (S2 _ _ hD1))
        · intro j' a' e'
          by_cases hj' : j' < zs.length
          · rw [List.getElem?_append_left hj'] at e'
            exact nw j' a' e'
          · rw [List.getElem?_append_right (by omega)] at e'
            have e0 : j' - zs.length = 0 := by
              cases e1 : j' - zs.length with
              | zero => rfl
              | succ m => rw [e1] at e'; simp at e'
            rw [e0, List.getElem?_cons_zero] at e'
            cases e'
            exact ⟨hDn, nD.symm⟩
    · rintro zs Hc ⟨S1, hD1, fr, nw⟩ hzl
      rw [lr.len, List.take_length] at fr
      exact q D1 zs Hc S1 hD hD1 fr nw
open Rw
def lvR (fs : List (Int × Int)) : Row := (lvT fs, (lvB fs : Nat))
theorem lvR_len (fs : List (Int × Int)) : (lvR fs).1.length = fs.length := by unfold lvR lvT; rw [List.length_map]
def fAt (fss : List (List (Int × Int))) (i : Nat) : List (Int × Int) := fss.getD i []
def stepF (fss : List (List (Int × Int))) : Stp → List (List (Int × Int))
  | .swap i j => (fss.set i (fAt fss j)).set j (fAt fss i)
  | .times i c => fss.set i ((fAt fss i).map fun f => Ac.lw (c.1 * f.1) (c.2 * f.2))
  | .add i j c => fss.set i (List.zipWith (sumF c) (fAt fss i) (fAt fss j))
theorem fAt_map {rs : List Row} {i : Nat} (h : i < rs.length) : fAt (rs.map rep) i = rep (rowAt rs i) := by
  unfold fAt rowAt
  rw [List.getD_eq_getElem?_getD, List.getD_eq_getElem?_getD, List.getElem?_map, List.getElem?_eq_getElem h]; rfl
def runF (fss : List (List (Int × Int))) (ss : List Stp) : List (List (Int × Int)) := ss.foldl stepF fss
def jW (D1 : Addr) (fss : List (List (Int × Int))) (H : Hp) (k : Nat) (zs : List V) (Hc : Hp) : Prop := Same H Hc ∧ Hc D1 = some (.lst zs) ∧ zs.length = ((fss.take k).map lvR).length ∧ ∀ (j : Nat) (v : V), zs[j]? = some v → ∃ t lr, v = .ref t ∧ Hc t = some (.tup [.ref lr, .int (rowAt ((fss.take k).map lvR) j).2]) ∧ Hc lr = some (.lst ((rowAt ((fss.take k).map lvR) j).1.map V.int)) ∧ lr ≠ D1
theorem rowAt_left {rs : List Row} {r : Row} {j : Nat} (h : j < rs.length) : rowAt (rs ++ [r]) j = rowAt rs j := by
  unfold rowAt
  rw [List.getD_eq_getElem?_getD, List.getD_eq_getElem?_getD, List.getElem?_append_left h]
theorem rowAt_last {rs : List Row} {r : Row} : rowAt (rs ++ [r]) rs.length = r := by
  unfold rowAt
  rw [List.getD_eq_getElem?_getD, List.getElem?_append_right (Nat.le_refl _), Nat.sub_self]; rfl
open Rw
theorem seq_asg {te : TE} {g : TG} {u : TS} {D : Ends} {σ : L2.St} {H : Hp} (h : te σ H fun x H1 => g x σ H1 (u D)) : tSeq (tAsg te g) u D σ H := h
theorem seq_of {t u : TS} {D : Ends} {σ : L2.St} {H : Hp} (h : t { D with nx := u D } σ H) : tSeq t u D σ H := h
structure Told15 (H H' : Hp) (t : Addr) (fss : List (List (Int × Int))) (wide wd : Nat) (ls p : Addr) (ys zs : List V) (new : List Stp) (pl : Nat) (pv : Nat → Nat) : Prop where
  same : Same H H'
  tup : H' t = some (.tup [.ref ls, .ref p])
  hls : H' ls = some (.lst ys)
  st : Sts H' ys new
  hp : H' p = some (.lst zs)
  fr : FRs H' zs ((runR (fss.map lvR) new).map rep)
  good : ∀ s ∈ new, StpG fss.length s
  many : new.length ≤ 3 * fss.length * fss.length
  form : Form (runR (fss.map lvR) new) pl wide pv
  len : (runR (fss.map lvR) new).length = fss.length
  pln : pl ≤ fss.length
  all : AllB NN wd (fss.map lvR) new
  frl : H ls = none
  frp : H p = none
  nw : ∀ (k : Nat) (a : Addr), zs[k]? = some (V.ref a) → H a = none ∧ a ≠ p
def sp_reduced : Sp := fun vs H Q _ => ∃ (l : Addr) (xs : List V) (fss : List (List (Int × Int))) (wide wd N : Nat), vs = [.ref l, .int wide] ∧ H l = some (.lst xs) ∧ FRs H xs fss ∧ (∀ fs ∈ fss, fs.length = wd ∧ (∀ f ∈ fs, Fq f) ∧ Big N (lvR fs)) ∧ 1 ≤ N ∧ gr N fss.length ≤ NN ∧ wide ≤ wd ∧ wd ≤ 41 ∧ fss.length ≤ 20 ∧
  ∀ t ls p ys zs H' new pl pv, Told15 H H' t fss wide wd ls p ys zs new pl pv → Q (.ref t) H'
structure Mid15 (l D1 D2 : Addr) (wide wd N : Nat) (fss : List (List (Int × Int))) (H : Hp) (c : Nat) (H' : Hp) (pl : Nat) (pv : Nat → Nat) (xs' ys' : List V) (new : List Stp) : Prop where
  same : Same H H'
  red : Red D1 D2 H' xs' ys' (runR (fss.map lvR) new) new
  good : ∀ s ∈ new, StpG fss.length s
  many : new.length ≤ pl * (fss.length + 2)
  form : Form (runR (fss.map lvR) new) pl c pv
  len : (runR (fss.map lvR) new).length = fss.length
  pln : pl ≤ fss.length
  big : ∀ r ∈ runR (fss.map lvR) new, Big (gr N pl) r ∧ r.1.length = wd
  all : AllB NN wd (fss.map lvR) new
def jR (l D1 D2 : Addr) (wide wd N : Nat) (fss : List (List (Int × Int))) (H : Hp) (c : Nat) (σ : L2.St) (H' : Hp) : Prop := ∃ (pl : Nat) (pv : Nat → Nat) (xs' ys' : List V) (new : List Stp) (u v : Option V), σ = [some (.ref l), some (.int wide), some (.ref D1), some (.ref D2), some (.int pl), u, v] ∧ Mid15 l D1 D2 wide wd N fss H c H' pl pv xs' ys' new
theorem ok_reduced {f : Addr} {fd : FuncData} (F : Fun K nm_reduced nm_reduced s_reduced f fd) (T : Txt K mg D) (G_level : OkF P w K mg base 2 nm_level ps_level sp_level) (G_first_from : OkF P w K mg base 1 nm_first_from ps_first_from sp_first_from) (G_begin_row : OkF P w K mg base 6 nm_begin_row ps_begin_row sp_begin_row) (G_clear_column : OkF P w K mg base 6 nm_clear_column ps_clear_column sp_clear_column) (G_fractions_of : OkF P w K mg base 3 nm_fractions_of ps_fractions_of sp_fractions_of) : FnOk P w K mg base CX0 7 f fd ps_reduced sp_reduced := by
  refine F.ok sc_reduced (fun vs H Q E h => ?_) (fun cdv A outer s H vs Q E hr h => ?_)
  · obtain ⟨l, xs, fss, wide, wd, N, rfl, _⟩ := h
    rfl
  · obtain ⟨l, xs, fss, wide, wd, N, rfl, hl, fr, hf, h1, hN, hwi, hwd, hn, q⟩ := h
    refine ⟨_, (pss_cons (ps_compGF (defScope s_reduced) ["rows", "wide", "leveled", "steps", "place", "column", "found"] ["rows", "wide", "leveled", "steps", "place", "column", "found"] ["row"] rfl rfl rfl (by decide +kernel) (by decide +kernel) rfl (by decide +kernel) (by decide +kernel) (by decide +kernel) (by decide +kernel) (by decide +kernel) (pi_list ((pv 0)).mono) (fun _ _ _ _ _ => (pg_name (i := 0) (show List.Nodup (["row", "rows", "wide", "leveled", "steps", "place", "column", "found"] : List Str) from by decide +kernel) rfl (Or.inl rfl) (Or.inr rfl))) (fun _ _ _ _ _ => pts_nil) (fun _ _ _ _ _ => (pe_callF G_level (hr.mono (by decide)) (by rfl) (pa_cons (pv 0) pa_nil))) (pg_name (i := 2) sc_reduced.nd rfl (Or.inl rfl)))
      (pss_cons (ps_set (i := 3) sc_reduced.nd rfl (Or.inl rfl) (pe_lst pa_nil))
      (pss_cons (ps_set (i := 4) sc_reduced.nd rfl (Or.inl rfl) pe_int)
      (pss_cons (ps_for PassesOwn.never rfl (pi_range1 (by rfl) T.b_range (pa_cons (pv 1) pa_nil).mono) (pg_name (i := 5) sc_reduced.nd rfl (Or.inl rfl))
        (pss_cons (ps_set (i := 6) sc_reduced.nd rfl (Or.inl rfl) (pe_callF G_first_from (hr.mono (by decide)) (by rfl) (pa_cons (pv 2) (pa_cons (pv 4) (pa_cons (pv 5) pa_nil)))))
        (pss_one (ps_if (pt_cmpR op_notN (pv 6) pe_non (nomark _))
          (pss_cons (ps_expr (pe_callF G_begin_row (hr.mono (by decide)) (by rfl) (pa_cons (pv 2) (pa_cons (pv 3) (pa_cons (pv 4) (pa_cons (pv 6) (pa_cons (pv 5) pa_nil)))))))
          (pss_cons (ps_expr (pe_callF G_clear_column (hr.mono (by decide)) (by rfl) (pa_cons (pv 2) (pa_cons (pv 3) (pa_cons (pv 4) (pa_cons (pv 5) pa_nil))))))
          (pss_one (ps_aug (i := 4) sc_reduced.nd rfl (Or.inl rfl) pe_int ip_add))))
          pss_nil))))
      (pss_one (ps_ret (pe_tup (pa_cons (pv 3) (pa_cons (pe_callF G_fractions_of (hr.mono (by decide)) (by rfl) (pa_cons (pv 2) pa_nil)) pa_nil))))))))), ?_⟩
    have hq : ∀ fs ∈ fss, ∀ f ∈ fs, Fq f := fun fs h => (hf fs h).2.1
    refine seq_asg (tCompG1_list ?_)
    refine ⟨_, rfl, l, xs, rfl, hl, by rw [fr.len]; exact Nat.le_trans hn (by decide), fun D1 hD => ⟨jW D1 fss H, ⟨Same.upd hD, upd_same, rfl, fun k v e => by simp at e⟩, ?_, ?_⟩⟩
    · rintro k v zs Hc hk ⟨S1, hD1, ln, lrn⟩ hzl hlc
      have hkf : k < fss.length := by rw [← fr.len]; exact (List.getElem?_eq_some_iff.mp hk).1
      have ef : fss[k]? = some fss[k] := List.getElem?_eq_getElem hkf
      obtain ⟨l1, vs, rfl, h1', fl⟩ := fr.at_ k v hk
      rw [List.getD_eq_getElem?_getD, ef] at fl
      have fl : FL H vs fss[k] := fl
      have hm := List.getElem_mem hkf
      have w1 := (hf _ hm).1
      have q1 := hq _ hm
      generalize fss[k] = fs at *
      refine ⟨_, rfl, l1, vs, fs, rfl, S1 _ _ h1', fl.same S1, q1, by omega, fun D2 p hD2 hp => ?_⟩
      have T1 : Same Hc (upd Hc D2 (.lst ((lvT fs).map V.int))) := Same.upd hD2
      have T2 : Same (upd Hc D2 (.lst ((lvT fs).map V.int))) (upd (upd Hc D2 (.lst ((lvT fs).map V.int))) p (.tup [.ref D2, .int (lvB fs : Nat)])) := Same.upd hp
      have e1 := T2 D2 _ upd_same
      have e2 : upd (upd Hc D2 (.lst ((lvT fs).map V.int))) p (.tup [.ref D2, .int (lvB fs : Nat)]) p = some (.tup [.ref D2, .int (lvB fs : Nat)]) := upd_same
      have nD : D2 ≠ D1 := (ne_of_none hD1 hD2).symm
      generalize upd (upd Hc D2 (.lst ((lvT fs).map V.int))) p (.tup [.ref D2, .int (lvB fs : Nat)]) = Hn at T2 e1 e2 ⊢
      have T3 := T1.trans T2
      have hDn := T3 _ _ hD1
      refine ⟨hDn, T3 _ _ hlc, ?_, upd_same, ?_, ?_⟩
      · intro b' o' e'
        rw [upd_ne (ne_of_none e' hD)]
        exact T3 _ _ (S1 _ _ e')
      · rw [List.length_append, ln, take_next ef, List.map_append, List.length_append]; rfl
      · intro j u e
        rw [take_next ef, List.map_append, show List.map lvR [fs] = [lvR fs] from rfl]
        by_cases hj : j < zs.length
        · rw [List.getElem?_append_left hj] at e
          obtain ⟨t, lr, a1, a2, a3, a4⟩ := lrn j u e
          rw [rowAt_left (by rw [← ln]; exact hj)]
          exact ⟨t, lr, a1, (upd_ne (ne_of (T3 _ _ a2) hDn (by intro z; cases z))).trans (T3 _ _ a2), (upd_ne a4).trans (T3 _ _ a3), a4⟩
        · rw [List.getElem?_append_right (by omega)] at e
          have e0 : j - zs.length = 0 := by
            cases e3 : j - zs.length with
            | zero => rfl
            | succ m => rw [e3] at e; simp at e
          rw [e0, List.getElem?_cons_zero] at e
          cases e
          have ej : j = ((fss.take k).map lvR).length := by rw [← ln]; omega
          rw [ej, rowAt_last]
          exact ⟨p, D2, rfl, (upd_ne (ne_of e2 hDn (by intro z; cases z))).trans e2, (upd_ne nD).trans e1, nD⟩
    · rintro zs Hc ⟨S1, hD1, ln, lrn⟩ hzl
      rw [fr.len, List.take_length] at ln lrn
      have lr0 : LR Hc zs (fss.map lvR) := ⟨ln, fun k v e => let ⟨t, lr, a1, a2, a3, _⟩ := lrn k v e; ⟨t, lr, a1, a2, a3⟩⟩
      have b0 : ∀ r ∈ fss.map lvR, Big N r ∧ r.1.length = wd := fun r hr => by
        obtain ⟨fs, h, rfl⟩ := List.mem_map.mp hr
        exact ⟨(hf fs h).2.2, by rw [lvR_len]; exact (hf fs h).1⟩
      refine ⟨Nat.zero_le _, fun D2 hD2 => seq_of (tFor_rngM ?_)⟩
      refine ⟨_, rfl, wide, rfl, by omega, jR l D1 D2 wide wd N fss H, ⟨0, fun _ => 0, zs, [], [], none, none, rfl, ?_⟩, ?_, ?_⟩
      · have S2 : Same Hc (upd Hc D2 (.lst [])) := Same.upd hD2
        exact ⟨S1.trans S2, ⟨S2 _ _ hD1, lr0.same S2, upd_same, ⟨rfl, fun k s e => by simp at e⟩, (ne_of_none hD1 hD2).symm⟩, fun s hs => absurd hs List.not_mem_nil, Nat.zero_le _, ⟨fun i hi => absurd hi (by omega), fun i j _ hj => absurd hj (by omega), fun i _ _ j hj => absurd hj (by omega)⟩, List.length_map _, Nat.zero_le _, b0, (AllB.nil b0).le (Nat.le_trans (gr_mono h1 (Nat.zero_le _)) hN)⟩
      · rintro c σ' H1 hc ⟨pl, pv, xs1, ys1, new, u, v, rfl, M⟩
        have hD2' : H D2 = none := S1.free hD2
        have nm : new.length ≤ 500 := Nat.le_trans M.many (Nat.le_trans (Nat.mul_le_mul M.pln (Nat.le_refl _)) (Nat.le_trans (Nat.mul_le_mul hn (Nat.add_le_add_right hn 2)) (by decide)))
        have fn := M.form
        have ln1 := M.len
        have hc' : c < wd := by omega
        generalize hr1 : runR (fss.map lvR) new = rs1 at *
        refine ⟨_, rfl, _, rfl, _, rfl, D1, xs1, rs1, pl, c, wd, rfl, M.red.hl, by rw [← hr1]; exact M.red.lr, fun r hr => (M.big r (by rw [hr1]; exact hr)).2, hc', by have := M.pln; omega, by omega, fun i hi hil ht _ => ?_, fun z => ?_⟩
        · refine ⟨_, rfl, rfl, _, rfl, ite2 (fun _ => ?_) fun h => absurd rfl h⟩
          have g1 : 1 ≤ gr N pl ∧ gr N pl ≤ gr N (pl + 1) := gr_le h1
          have pn : pl < fss.length := by omega
          have g2 : gr N (pl + 1) ≤ NN := Nat.le_trans (gr_mono h1 pn) hN
          refine ⟨_, rfl, _, rfl, _, rfl, _, rfl, _, rfl, D1, D2, xs1, ys1, rs1, new, pl, i, c, gr N pl, wd, rfl, by rw [← hr1]; exact M.red, by omega, by rw [← hr1]; exact M.big, Nat.le_trans g1.2 g2, by omega, hc', by omega, hil, ht, fun H2 xs2 ys2 new2 of2 rd2 n2 gd2 bg ab2 => ?_⟩
          have l2 := bg.len
          generalize hr2 : runR rs1 new2 = rs2 at *
          refine ⟨_, rfl, _, rfl, _, rfl, _, rfl, D1, D2, xs2, ys2, rs2, new ++ new2, pl, c, gr N pl, wd, rfl, rd2, by rw [List.length_append]; omega, bg.big, g1.1, g2, by omega, hc', by omega, by omega, bg.one, fun H3 xs3 ys3 new3 of3 rd3 n3 gd3 cd bg3 ab3 => ?_⟩
          refine ⟨_, rfl, _, _, rfl, rfl, pl + 1, (fun i => if i = pl then c else pv i), xs3, ys3, new ++ new2 ++ new3, _, _, rfl, ?_⟩
          have er : runR (fss.map lvR) (new ++ new2 ++ new3) = runR rs2 new3 := by rw [runR_app, runR_app, hr1, hr2]
          refine ⟨fun b o e => of3 b o (ne_of_none e hD) (ne_of_none e hD2') (of2 b o (ne_of_none e hD) (ne_of_none e hD2') (M.same b o e)), by rw [er]; exact rd3, fun s hs => ?_, ?_, by rw [er]; exact fn.next hi hil bg cd, by rw [er, cd.len, l2]; exact ln1, by omega, by rw [er]; exact bg3, (M.all.app (by rw [hr1]; exact ab2.le (Nat.le_trans g1.2 g2))).app (by rw [runR_app, hr1, hr2]; exact ab3.le g2)⟩
          · rcases List.mem_append.mp hs with y | y
            · rcases List.mem_append.mp y with y | y
              · exact M.good s y
              · rw [← ln1]; exact gd2 s y
            · rw [← ln1, ← l2]; exact gd3 s y
          · rw [List.length_append, List.length_append, Nat.succ_mul]
            have := M.many
            generalize pl * (fss.length + 2) = m at *
            omega
        · refine ⟨_, rfl, rfl, _, rfl, ite2 (fun h => absurd h (by decide)) fun _ => ?_⟩
          refine ⟨pl, pv, xs1, ys1, new, _, _, rfl, M.same, M.red, M.good, M.many, ?_, M.len, M.pln, M.big, M.all⟩
          rw [hr1]
          refine fn.skip fun j hj hl => ?_
          have hb := (M.big (rowAt rs1 j) (by rw [hr1]; exact rowAt_in hl)).2
          have := z j hj hl
          unfold topAt at this
          rw [List.getD_eq_getElem?_getD, List.getElem?_eq_getElem (by rw [hb]; exact hc')] at this
          rw [List.getElem?_eq_getElem (by rw [hb]; exact hc')]
          exact congrArg some this
      · rintro σ' H1 ⟨pl, pv, xs1, ys1, new, u, v, rfl, M⟩
        have hD2' : H D2 = none := S1.free hD2
        have bN : ∀ r ∈ runR (fss.map lvR) new, Big NN r ∧ r.1.length = wd := fun r hr => ⟨(M.big r hr).1.le (Nat.le_trans (gr_mono h1 M.pln) hN), (M.big r hr).2⟩
        refine ⟨_, rfl, _, rfl, D1, xs1, _, wd, rfl, M.red.hl, M.red.lr, bN, by omega, by rw [M.len]; omega, fun p zs2 H2 S2 hp hz fr2 nw => ⟨line2, fun t ht => ?_⟩⟩
        have S3 : Same H2 (upd H2 t (.tup [.ref D2, .ref p])) := Same.upd ht
        refine q t D2 p ys1 zs2 _ new pl pv ⟨(M.same.trans S2).trans S3, upd_same, S3 _ _ (S2 _ _ M.red.hs), M.red.st.imp fun t us e => S3 _ _ (S2 _ _ e), S3 _ _ hz, fr2.same S3, M.good, ?_, M.form, M.len, M.pln, M.all, hD2', M.same.free hp, fun k a e => ⟨M.same.free (nw k a e).1, (nw k a e).2⟩⟩
        refine Nat.le_trans M.many (Nat.le_trans (Nat.mul_le_mul M.pln (Nat.le_refl _)) ?_)
        rw [Nat.mul_comm 3, Nat.mul_assoc]
        by_cases e : fss.length = 0
        · rw [e]; decide
        · exact Nat.mul_le_mul (Nat.le_refl _) (by omega)
open Rw
theorem same_upd {H H' : Hp} {p : Addr} {o : HO} (hp : H p = none) (S : Same H H') : Same H (upd H' p o) := fun b u hb => by
  rw [upd_ne (ne_of_none hb hp)]; exact S b u hb
def sp_stream14 (K : PySem.W.Frag) (a : Addr) (ns : List Int) : Sp := fun vs H Q _ => ∃ (st : Int) (n : Nat), vs = [.ref a, .int st, .int n] ∧ SqL K H a (ns.map V.int) ∧ ns.length ≤ 63 ∧ 0 ≤ st ∧ n ≤ 64 ∧ ∀ (l : Addr) (xs : List Int) H', Same H H' → H l = none → H' l = some (.lst (xs.map V.int)) → xs.length = n → (∀ x ∈ xs, 0 ≤ x ∧ x < 2147483647) → Q (.ref l) H'
def jS (a : Addr) (st : Int) (n : Nat) (p : Addr) (H : Hp) (k : Nat) (σ : L2.St) (H' : Hp) : Prop := ∃ (xs : List Int) (m : Int) (v : Option V), σ = [some (.ref a), some (.int st), some (.int n), some (.ref p), some (.int m), v] ∧ (0 ≤ m ∧ m < 2147483647) ∧ xs.length = k ∧ (∀ x ∈ xs, 0 ≤ x ∧ x < 2147483647) ∧ Same H H' ∧ H' p = some (.lst (xs.map V.int))
theorem Same.sql {K : PySem.W.Frag} {H H' : Hp} {a : Addr} {xs : List V} (S : Same H H') (h : SqL K H a xs) : SqL K H' a xs := by
  rcases h with (h | ⟨o, h⟩) | h
  · exact .inl (.inl (S _ _ h))
  · exact .inl (.inr ⟨o, S _ _ h⟩)
  · exact .inr h
theorem ok_stream {f : Addr} {fd : FuncData} (F : Fun K nm_stream nm_stream s_stream f fd) (T : Txt K mg D) (a : Addr) (ns : List Int) (G_cell : OkF P w K mg base 1 nm_cell ps_cell (sp_cell K a ns)) : FnOk P w K mg base CX0 2 f fd ps_stream (sp_stream14 K a ns) := by
  refine F.ok sc_stream (fun vs H Q E h => ?_) (fun cdv A outer s H vs Q E hr h => ?_)
  · obtain ⟨st, n, rfl, _⟩ := h
    rfl
  · obtain ⟨st, n, rfl, hs, hl, st0, hn, q⟩ := h
    refine ⟨_, (pss_cons (ps_set (i := 3) sc_stream.nd rfl (Or.inl rfl) (pe_lst pa_nil))
      (pss_cons (ps_set (i := 4) sc_stream.nd rfl (Or.inl rfl) pe_int)
      (pss_cons (ps_for PassesOwn.never rfl (pi_range1 (by rfl) T.b_range (pa_cons (pv 2) pa_nil).mono) (pg_name (i := 5) sc_stream.nd rfl (Or.inl rfl))
        (pss_cons (ps_set (i := 4) sc_stream.nd rfl (Or.inl rfl) (pe_op op_mod (pe_op op_add (pe_op op_add (pe_op op_add (pe_op op_mul (pv 4) pe_int) (pe_op op_mod (pe_callF G_cell (hr.mono (by decide)) (by rfl) (pa_cons (pv 0) (pa_cons (pe_op op_add (pv 1) (pv 5)) pa_nil))) pe_int)) (pe_op op_mulB (pv 5) (pv 5))) pe_int) pe_int))
        (pss_one (ps_expr (pe_app (pv 3) (pa_cons (pv 4) pa_nil))))))
      (pss_one (ps_ret (pv 3)))))), ?_⟩
    unfold sp_cell
    walk_at "rd"
    refine ⟨Nat.zero_le _, fun p hp => tFor_rngM ?_⟩
    walk_at "rd"
    refine ⟨n, rfl, Nat.lt_of_le_of_lt hn (by decide), jS a st n p H, ⟨[], 7, none, rfl, by decide, rfl, by simp, Same.upd hp, upd_same⟩, ?_, ?_⟩
    · rintro k σ' H' hk ⟨xs, m, v, rfl, hm, h1, h2, h3, h4⟩
      walk_at "rd"
      have nx : 0 ≤ (m * 48271 + cell ns (st + k) % 2147483647 + k * k + 1) % 2147483647 ∧ (m * 48271 + cell ns (st + k) % 2147483647 + k * k + 1) % 2147483647 < 2147483647 := ⟨Int.emod_nonneg _ (by decide), Int.emod_lt_of_pos _ (by decide)⟩
      generalize (m * 48271 + cell ns (st + k) % 2147483647 + k * k + 1) % 2147483647 = z at nx ⊢
      refine ⟨.inr (by constructor <;> decide), Same.sql h3 hs, hl, by omega, Bd.sm (by omega), Bd.sm (by omega), ⟨_, h4⟩, _, h4, by rw [List.length_map, h1]; exact Nat.lt_of_lt_of_le hk (Nat.le_trans hn (by decide)), xs ++ [z], z, _, rfl, nx, by simp [h1], ?_, same_upd hp h3, ?_⟩
      · intro y hy
        rcases List.mem_append.mp hy with hy | hy
        · exact h2 y hy
        · rw [List.mem_singleton.mp hy]; exact nx
      · rw [List.map_append]; exact upd_same
    · rintro σ' H' ⟨xs, m, v, rfl, hm, h1, h2, h3, h4⟩
      exact ⟨_, rfl, q p xs H' h3 hp h4 h1 h2⟩
def sp_lratio : Sp := fun vs H Q _ => ∃ (a b : Int), vs = [.int a, .int b] ∧ 0 < b ∧ Bd b ∧ ∀ p, H p = none → Q (.ref p) (upd H p (.tup [.int (Ac.lw a b).1, .int (Ac.lw a b).2]))
theorem ok_lratio {f : Addr} {fd : FuncData} (F : Fun K nm_lratio nm_lratio s_lratio f fd) (G_gcd : OkF P w K mg base 1 nm_gcd ps_gcd sp_gcd) : FnOk P w K mg base CX0 2 f fd ps_lratio sp_lratio := by
  refine F.ok sc_lratio (fun vs H Q E h => ?_) (fun cdv A outer s H vs Q E hr h => ?_)
  · obtain ⟨a, b, rfl, _⟩ := h
    rfl
  · obtain ⟨a, b, rfl, hb, hbd, q⟩ := h
    refine ⟨_, (pss_cons (ps_set (i := 2) sc_lratio.nd rfl (Or.inl rfl) (pe_callF G_gcd (hr.mono (by decide)) (by rfl) (pa_cons (pv 0) (pa_cons (pv 1) pa_nil))))
      (pss_one (ps_ret (pe_tup (pa_cons (pe_op op_fdivB (pv 0) (pv 2)) (pa_cons (pe_op op_fdivB (pv 1) (pv 2)) pa_nil)))))), ?_⟩
    have g0 := gcd_pos (a := a) (b := b) (by omega)
    have g1 := gcd_bd (a := a) (b := b) (by omega) hbd
    unfold sp_gcd
    walk_at "rd"
    rw [fdiv_pos _ g0, fdiv_pos _ g0]
    exact ⟨by omega, g1, by omega, g1, line2, q⟩
structure Sf (f : Int × Int) : Prop where
  pos : 0 < f.2
  gcd : Int.gcd f.1 f.2 = 1
  d60 : f.2 ∣ 60
  lo : -9 ≤ f.1
  hi : f.1 ≤ 9
theorem d60_of {b : Int} (h1 : 1 ≤ b) (h2 : b ≤ 6) : b ∣ 60 := by
  obtain rfl | rfl | rfl | rfl | rfl | rfl : b = 1 ∨ b = 2 ∨ b = 3 ∨ b = 4 ∨ b = 5 ∨ b = 6 := by omega
  · exact ⟨60, rfl⟩
  · exact ⟨30, rfl⟩
  · exact ⟨20, rfl⟩
  · exact ⟨15, rfl⟩
  · exact ⟨12, rfl⟩
  · exact ⟨10, rfl⟩
theorem sf_lw {a b : Int} (a1 : -9 ≤ a) (a2 : a ≤ 9) (b1 : 1 ≤ b) (b2 : b ≤ 6) : Sf (Ac.lw a b) := by
  have p := Ac.lw_pos (t := a) (b := b) (by omega)
  have e := Ac.lw_b1 a b
  refine ⟨p, Ac.lw_gcd (by omega), Int.dvd_trans ?_ (d60_of b1 b2), by omega, by omega⟩
  have d := Int.gcd_dvd_right a b
  obtain ⟨u, hu⟩ := d
  refine ⟨((Int.gcd a b : Nat) : Int), ?_⟩
  show b = b / ((Int.gcd a b : Nat) : Int) * _
  rw [Int.ediv_mul_cancel ⟨u, hu⟩]
def sp_fraction14 : Sp := fun vs H Q _ => ∃ x : Int, vs = [.int x] ∧ 0 ≤ x ∧ ∀ p f, H p = none → Sf f → Q (.ref p) (upd H p (.tup [.int f.1, .int f.2]))
theorem ok_fraction14 {f : Addr} {fd : FuncData} (F : Fun K nm_fraction nm_fraction s_fraction f fd) (G_lratio : OkF P w K mg base 2 nm_lratio ps_lratio sp_lratio) : FnOk P w K mg base CX0 3 f fd ps_fraction sp_fraction14 := by
  refine F.ok sc_fraction (fun vs H Q E h => ?_) (fun cdv A outer s H vs Q E hr h => ?_)
  · obtain ⟨x, rfl, _⟩ := h
    rfl
  · obtain ⟨x, rfl, hx, q⟩ := h
    refine ⟨_, (pss_cons (ps_if (pt_cmpR op_eq (pe_op op_mod (pv 0) pe_int) pe_int (nomark _))
        (pss_one (ps_ret (pe_tup (pa_cons pe_int (pa_cons pe_int pa_nil)))))
        pss_nil)
      (pss_one (ps_ret (pe_callF G_lratio (hr.mono (by decide)) (by rfl) (pa_cons (pe_op op_sub (pe_op op_mod (pe_op op_fdivB (pv 0) pe_int) pe_int) pe_int) (pa_cons (pe_op op_add pe_int (pe_op op_mod (pe_op op_fdivB (pv 0) pe_int) pe_int)) pa_nil)))))), ?_⟩
    unfold sp_lratio
    walk_at "rd"
    refine ite2 (fun _ => ⟨line2, fun p hp => q p (0, 1) hp ⟨by decide, by decide, ⟨60, rfl⟩, by decide, by decide⟩⟩) fun _ => ?_
    have e1 : 1 + x.fdiv 57 % 6 ≤ 6 ∧ 1 ≤ 1 + x.fdiv 57 % 6 := by omega
    have e2 : x.fdiv 3 % 19 - 9 ≤ 9 ∧ -9 ≤ x.fdiv 3 % 19 - 9 := by omega
    exact ⟨Bd.sm (by decide), Bd.sm (by decide), by omega, Bd.sm (by omega), fun p hp => q p _ hp (sf_lw e2.2 e2.1 e1.2 e1.1)⟩
open Rw
def sp_is_fraction : Sp := fun vs H Q _ => ∃ (p : Addr) (a b : Int), vs = [.ref p] ∧ H p = some (.tup [.int a, .int b]) ∧ Q (.bl (decide (0 < b) && decide (Int.gcd a b = 1))) H
theorem ok_is_fraction {f : Addr} {fd : FuncData} (F : Fun K nm_is_fraction nm_is_fraction s_is_fraction f fd) (T : Txt K mg D) (G_whole : OkF P w K mg base 1 nm_whole ps_whole sp_whole) (G_gcd : OkF P w K mg base 1 nm_gcd ps_gcd sp_gcd) : FnOk P w K mg base CX0 2 f fd ps_is_fraction sp_is_fraction := by
  refine F.ok sc_is_fraction (fun vs H Q E h => ?_) (fun cdv A outer s H vs Q E hr h => ?_)
  · obtain ⟨p, a, b, rfl, _⟩ := h
    rfl
  · obtain ⟨p, a, b, rfl, hp, q⟩ := h
    refine ⟨_, (pss_cons (ps_if (pw_or (pt_not (pt_tru (pe_callB call_isi (by rfl) T.b_isinstance boot_isinstance (pa_cons (pv 0) (pa_cons (pe_bltn (v := .ty "tuple") (by rfl) T.b_tuple boot_tuple rfl) pa_nil))) (fun _ => rfl))) (pw_or1 (pt_cmpR op_ne (pe_callB call_lenT (by rfl) T.b_len PySem.boot_len (pa_cons (pv 0) pa_nil)) pe_int (nomark _)))).pt
        (pss_one (ps_ret pe_bl))
        pss_nil)
      (pss_cons (ps_if (pw_or (pt_not (pt_tru (pe_callF G_whole (hr.mono (by decide)) (by rfl) (pa_cons (pe_ix ix_tupH (pv 0) pe_int (fun _ _ => rfl)) pa_nil)) (fun _ => rfl))) (pw_or1 (pt_not (pt_tru (pe_callF G_whole (hr.mono (by decide)) (by rfl) (pa_cons (pe_ix ix_tupH (pv 0) pe_int (fun _ _ => rfl)) pa_nil)) (fun _ => rfl))))).pt
        (pss_one (ps_ret pe_bl))
        pss_nil)
      (pss_one (ps_ret (pe_and (pe_cmpR op_gt (pe_ix ix_tupH (pv 0) pe_int (fun _ _ => rfl)) pe_int (nomark _)) (pe_one (pe_cmpR op_eq (pe_callF G_gcd (hr.mono (by decide)) (by rfl) (pa_cons (pe_ix ix_tupH (pv 0) pe_int (fun _ _ => rfl)) (pa_cons (pe_ix ix_tupH (pv 0) pe_int (fun _ _ => rfl)) pa_nil))) pe_int (nomark _)))))))), ?_⟩
    have mT : "tuple" ∈ ["bool", "int", "str", "list", "tuple", "dict"] := by decide
    have nT : ¬ (!subS "tuple" "tuple") = true := by decide
    have nI : ¬ (!("int" == "int")) = true := by decide
    have n2 : ¬ (!decide (V.int 2 = V.int 2)) = true := by decide
    refine ⟨_, rfl, _, "tuple", _, rfl, mT, tyS_tup hp, _, rfl, ite2 (fun z => absurd z nT) fun _ => ⟨_, rfl, p, _, rfl, hp, rfl, _, rfl, ite2 (fun z => absurd z n2) fun _ => ?_⟩⟩
    refine ⟨_, rfl, p, _, 0, _, rfl, rfl, hp, atI_0, _, "int", rfl, rfl, _, rfl, ite2 (fun z => absurd z nI) fun _ => ⟨_, rfl, p, _, 1, _, rfl, rfl, hp, atI_1, _, "int", rfl, rfl, _, rfl, ite2 (fun z => absurd z nI) fun _ => ?_⟩⟩
    refine ⟨_, rfl, p, _, 1, _, rfl, rfl, hp, atI_1, _, _, rfl, rfl, _, rfl, ite2 (fun h => ⟨_, rfl, p, _, 0, _, rfl, rfl, hp, atI_0, _, rfl, p, _, 1, _, rfl, rfl, hp, atI_1, a, b, rfl, rfl, ?_⟩) fun h => ?_⟩
    · have e : decide (V.int ((Int.gcd a b : Nat) : Int) = V.int 1) = decide (Int.gcd a b = 1) := by
        by_cases z : Int.gcd a b = 1
        · rw [z]; rfl
        · rw [decide_eq_false z, decide_eq_false (fun y => z (by have := V.int.inj y; omega))]
      have h : decide (0 < b) = true := h
      rw [h, Bool.true_and] at q
      rw [e]
      exact q
    · have h : decide (0 < b) = false := by simpa using h
      rw [h, Bool.false_and] at q
      exact q
structure Lo (f : Int × Int) : Prop where
  pos : 0 < f.2
  gcd : Int.gcd f.1 f.2 = 1
  sa : f.1.natAbs ≤ NN
  sb : f.2.natAbs ≤ NN
def sp_fractions14 : Sp := fun vs H Q _ => ∃ (l : Addr) (ys : List V) (fs : List (Int × Int)) (n : Nat), vs = [.ref l, .int n] ∧ H l = some (.lst ys) ∧ FL H ys fs ∧ fs.length = n ∧ n ≤ 64 ∧ (∀ f ∈ fs, Lo f) ∧ ∀ H', Same H H' → Q (.bl true) H'
theorem ok_fractions {f : Addr} {fd : FuncData} (F : Fun K nm_fractions nm_fractions s_fractions f fd) (T : Txt K mg D) (G_is_fraction : OkF P w K mg base 2 nm_is_fraction ps_is_fraction sp_is_fraction) : FnOk P w K mg base CX0 3 f fd ps_fractions sp_fractions14 := by
  refine F.ok sc_fractions (fun vs H Q E h => ?_) (fun cdv A outer s H vs Q E hr h => ?_)
  · obtain ⟨l, ys, fs, n, rfl, _⟩ := h
    rfl
  · obtain ⟨l, ys, fs, n, rfl, hl, fl, hn, h64, lo, q⟩ := h
    refine ⟨_, (pss_cons (ps_if (pw_or (pt_not (pt_tru (pe_callB call_isi (by rfl) T.b_isinstance boot_isinstance (pa_cons (pv 0) (pa_cons (pe_bltn (v := .ty "list") (by rfl) T.b_list boot_list rfl) pa_nil))) (fun _ => rfl))) (pw_or1 (pt_cmpR op_ne (pe_callB call_lenL (by rfl) T.b_len PySem.boot_len (pa_cons (pv 0) pa_nil)) (pv 1) (nomark _)))).pt
        (pss_one (ps_ret pe_bl))
        pss_nil)
      (pss_one (ps_ret (pe_callB (call_allH rfl) (by rfl) T.b_all boot_all (pa_cons (pe_compGF (defScope s_fractions) ["_law_found", "_law_many"] ["_law_found", "_law_many"] ["_law_one"] rfl rfl rfl (by decide +kernel) (by decide +kernel) rfl (by decide +kernel) (by decide +kernel) (by decide +kernel) (by decide +kernel) (by decide +kernel) (pi_list ((pv 0)).mono) (fun _ _ _ _ _ => (pg_name (i := 0) (show List.Nodup (["_law_one", "_law_found", "_law_many"] : List Str) from by decide +kernel) rfl (Or.inl rfl) (Or.inr rfl))) (fun _ _ _ _ _ => pts_nil) (fun _ _ _ _ _ => (pe_callF G_is_fraction (hr.mono (by decide)) (by rfl) (pa_cons (pv 0) pa_nil)))) pa_nil))))), ?_⟩
    unfold sp_is_fraction
    walk_at "rd"
    have hyl : ys.length = n := by rw [fl.length, hn]
    refine ⟨_, tyS_lst hl, ys, hl, ?_⟩
    rw [hyl]
    simp only [decide_true, Bool.not_true, Bool.false_eq_true, if_false]
    refine tCompG1_list ?_
    walk_at "rd"
    refine ⟨_, hl, by rw [hyl]; exact Nat.le_trans h64 (by decide), fun D1 hD1 => ⟨fun k zs Hc => Same H Hc ∧ Hc D1 = some (.lst zs) ∧ zs = (List.replicate k true).map V.bl, ⟨Same.upd hD1, upd_same, rfl⟩, ?_, ?_⟩⟩
    · rintro k v zs Hc hk ⟨T1, c1, rfl⟩ hzl hlc
      obtain ⟨p, f0, rfl, hf, hp⟩ := fl.get hk
      have l0 := lo f0 (List.mem_of_getElem? hf)
      refine ⟨p, rfl, _, _, T1 _ _ hp, c1, hlc, ?_, upd_same, ?_⟩
      · exact same_upd hD1 T1
      · rw [decide_eq_true l0.pos, decide_eq_true l0.gcd, List.replicate_succ', List.map_append]; rfl
    · rintro zs Hc ⟨T1, c1, rfl⟩ hzl
      refine ⟨_, c1, ?_⟩
      rw [show (List.replicate ys.length true).all id = true by simp]
      exact q Hc T1
theorem mul_le {a b : Int} {m n : Nat} (h1 : a.natAbs ≤ m) (h2 : b.natAbs ≤ n) : (a * b).natAbs ≤ m * n := by rw [Int.natAbs_mul]; exact Nat.mul_le_mul h1 h2
open Rw
def dotF : List Int → (Nat → Int) → Int
  | [], _ => 0
  | t :: ts, y => t * y 0 + dotF ts fun i => y (i + 1)
theorem dot_mul {c : Int} : ∀ {ts : List Int} {y : Nat → Int}, dotF (ts.map fun t => t * c) y = dotF ts y * c
  | [], _ => by show (0 : Int) = 0 * c; rw [Int.zero_mul]
  | t :: ts, y => by
    show t * c * y 0 + dotF (ts.map fun t => t * c) (fun i => y (i + 1)) = (t * y 0 + dotF ts fun i => y (i + 1)) * c
    rw [dot_mul, Int.add_mul]
    congr 1
    ac_rfl
theorem dot_div {g : Int} : ∀ {ts : List Int} {y : Nat → Int}, (∀ t ∈ ts, g ∣ t) → dotF (ts.map fun t => t / g) y * g = dotF ts y
  | [], _, _ => Int.zero_mul g
  | t :: ts, y, h => by
    show (t / g * y 0 + dotF (ts.map fun t => t / g) fun i => y (i + 1)) * g = t * y 0 + dotF ts fun i => y (i + 1)
    rw [Int.add_mul, dot_div fun u hu => h u (List.mem_cons_of_mem _ hu), Int.mul_right_comm, Int.ediv_mul_cancel (h t List.mem_cons_self)]
theorem dot_zip {u v : Int} : ∀ {ts ss : List Int} {y : Nat → Int}, ts.length = ss.length → dotF (List.zipWith (fun a b => a * u + b * v) ts ss) y = dotF ts y * u + dotF ss y * v
  | [], [], _, _ => by show (0 : Int) = 0 * u + 0 * v; rw [Int.zero_mul, Int.zero_mul]; rfl
  | t :: ts, s :: ss, y, h => by
    show (t * u + s * v) * y 0 + dotF (List.zipWith (fun a b => a * u + b * v) ts ss) (fun i => y (i + 1)) = (t * y 0 + dotF ts fun i => y (i + 1)) * u + (s * y 0 + dotF ss fun i => y (i + 1)) * v
    rw [dot_zip (by simpa using h), Int.add_mul, Int.add_mul, Int.add_mul, Int.mul_right_comm t, Int.mul_right_comm s]
    omega
theorem dot_zero : ∀ {ts : List Int} {y : Nat → Int}, (∀ (j : Nat) t, ts[j]? = some t → t * y j = 0) → dotF ts y = 0
  | [], _, _ => rfl
  | t :: ts, y, h => by
    show t * y 0 + dotF ts (fun i => y (i + 1)) = 0
    rw [h 0 t rfl, dot_zero fun j u hu => h (j + 1) u (by simpa using hu)]; rfl
theorem dot_one : ∀ {ts : List Int} {y : Nat → Int} {k : Nat} {t : Int}, ts[k]? = some t → (∀ (j : Nat) u, j ≠ k → ts[j]? = some u → u * y j = 0) → dotF ts y = t * y k
  | [], _, k, _, h, _ => by simp at h
  | t :: ts, y, 0, u, h, z => by
    simp at h
    show t * y 0 + dotF ts (fun i => y (i + 1)) = u * y 0
    rw [dot_zero fun j v hv => z (j + 1) v (by omega) (by simpa using hv), h, Int.add_zero]
  | t :: ts, y, k + 1, u, h, z => by
    show t * y 0 + dotF ts (fun i => y (i + 1)) = u * y (k + 1)
    rw [z 0 t (by omega) rfl, dot_one (k := k) (by simpa using h) fun j v hj hv => z (j + 1) v (by omega) (by simpa using hv), Int.zero_add]
theorem dot_two : ∀ {ts : List Int} {y : Nat → Int} {k c : Nat} {t s : Int}, k ≠ c → ts[k]? = some t → ts[c]? = some s → (∀ (j : Nat) u, j ≠ k → j ≠ c → ts[j]? = some u → u * y j = 0) → dotF ts y = t * y k + s * y c
  | [], _, k, _, _, _, _, h, _, _ => by simp at h
  | t :: ts, y, 0, 0, _, _, e, _, _, _ => absurd rfl e
  | t :: ts, y, 0, c + 1, u, v, e, h, h2, z => by
    simp at h
    show t * y 0 + dotF ts (fun i => y (i + 1)) = u * y 0 + v * y (c + 1)
    rw [dot_one (k := c) (by simpa using h2) fun j w hj hw => z (j + 1) w (by omega) (by omega) (by simpa using hw), h]
  | t :: ts, y, k + 1, 0, u, v, e, h, h2, z => by
    simp at h2
    show t * y 0 + dotF ts (fun i => y (i + 1)) = u * y (k + 1) + v * y 0
    rw [dot_one (k := k) (by simpa using h) fun j w hj hw => z (j + 1) w (by omega) (by omega) (by simpa using hw), h2, Int.add_comm]
  | t :: ts, y, k + 1, c + 1, u, v, e, h, h2, z => by
    show t * y 0 + dotF ts (fun i => y (i + 1)) = u * y (k + 1) + v * y (c + 1)
    rw [z 0 t (by omega) (by omega) rfl, dot_two (k := k) (c := c) (by omega) (by simpa using h) (by simpa using h2) fun j w hj hj2 hw => z (j + 1) w (by omega) (by omega) (by simpa using hw), Int.zero_add]
theorem dot_red {r : Row} (h : 0 < r.2) {y : Nat → Int} (z : dotF (redR r).1 y = 0) : dotF r.1 y = 0 := by
  have e := dot_div (g := gcL r.1 r.2) (ts := r.1) (y := y) gcL_dvd.2
  have z : dotF (r.1.map fun t => t / gcL r.1 r.2) y = 0 := z
  rw [z, Int.zero_mul] at e
  exact e.symm
theorem dot_times {r : Row} {c : Int × Int} (h : c.1 ≠ 0) {y : Nat → Int} (z : dotF (timesR r c).1 y = 0) : dotF r.1 y = 0 := by
  have z : dotF (r.1.map fun t => t * c.1) y = 0 := z
  rw [dot_mul] at z
  exact (Int.mul_eq_zero.mp z).resolve_right h
theorem dot_plus {r p : Row} {c : Int × Int} (h : 0 < r.2) (hp : 0 < p.2) (hc : 0 < c.2) (hl : r.1.length = p.1.length) {y : Nat → Int} (zp : dotF p.1 y = 0) (z : dotF (plusR r p c).1 y = 0) : dotF r.1 y = 0 := by
  have z : dotF (List.zipWith (fun a b => a * (p.2 * c.2 / ((Int.gcd r.2 (p.2 * c.2) : Nat) : Int)) + b * (r.2 / ((Int.gcd r.2 (p.2 * c.2) : Nat) : Int) * c.1)) r.1 p.1) y = 0 := z
  have hB := Int.mul_pos hp hc
  have own : 0 < p.2 * c.2 / ((Int.gcd r.2 (p.2 * c.2) : Nat) : Int) := Int.ediv_pos_of_pos_of_dvd hB (Int.le_of_lt (Ac.gpos hB)) (Int.gcd_dvd_right _ _)
  rw [dot_zip hl, zp, Int.zero_mul, Int.add_zero] at z
  exact (Int.mul_eq_zero.mp z).resolve_right (Int.ne_of_gt own)
def KerR (rs : List Row) (y : Nat → Int) : Prop := ∀ i, i < rs.length → dotF (rowAt rs i).1 y = 0
theorem step_ker {rs : List Row} {st : Stp} {wd : Nat} {y : Nat → Int} (hb : ∀ r ∈ rs, Big NN r ∧ r.1.length = wd) (sg : StpG rs.length st) (h : KerR (stepR rs st) y) : KerR rs y := by
  cases st with
  | swap i j =>
    obtain ⟨hi, hj⟩ := sg
    intro k hk
    by_cases e : k = i
    · have := h j (by rw [stepR_length]; exact hj)
      rw [swap_at hi hj, if_pos rfl] at this
      rw [e]; exact this
    · by_cases e2 : k = j
      · have := h i (by rw [stepR_length]; exact hi)
        rw [swap_at hi hj] at this
        by_cases e3 : i = j
        · rw [if_pos e3] at this
          rw [e2, ← e3]; exact this
        · rw [if_neg e3, if_pos rfl] at this
          rw [e2]; exact this
      · have := h k (by rw [stepR_length]; exact hk)
        rw [swap_at hi hj, if_neg e2, if_neg e] at this
        exact this
  | times i c =>
    obtain ⟨hi, fn, _, c0⟩ := sg
    intro k hk
    have := h k (by rw [stepR_length]; exact hk)
    have at_ : rowAt (stepR rs (.times i c)) k = if k = i then redR (timesR (rowAt rs i) c) else rowAt rs k := rowAt_set hi
    rw [at_] at this
    by_cases e : k = i
    · rw [if_pos e] at this
      rw [e]
      exact dot_times c0 (dot_red (r := timesR (rowAt rs i) c) (Int.mul_pos (hb _ (rowAt_in hi)).1.pos fn.pos) this)
    · rw [if_neg e] at this; exact this
  | add i j c =>
    obtain ⟨hi, hj, ne, fn, _⟩ := sg
    have at_ : ∀ k, rowAt (stepR rs (.add i j c)) k = if k = i then redR (plusR (rowAt rs i) (rowAt rs j) c) else rowAt rs k := fun k => rowAt_set hi
    have zj := h j (by rw [stepR_length]; exact hj)
    rw [at_, if_neg (fun z => ne z.symm)] at zj
    intro k hk
    have := h k (by rw [stepR_length]; exact hk)
    rw [at_] at this
    by_cases e : k = i
    · rw [if_pos e] at this
      rw [e]
      have bi := hb _ (rowAt_in hi)
      have bj := hb _ (rowAt_in hj)
      have hB := Int.mul_pos bj.1.pos fn.pos
      have pp : 0 < (plusR (rowAt rs i) (rowAt rs j) c).2 := Int.mul_pos bi.1.pos (Int.ediv_pos_of_pos_of_dvd hB (Int.le_of_lt (Ac.gpos hB)) (Int.gcd_dvd_right _ _))
      exact dot_plus bi.1.pos bj.1.pos fn.pos (by rw [bi.2, bj.2]) zj (dot_red pp this)
    · rw [if_neg e] at this; exact this
theorem run_ker {wd : Nat} {y : Nat → Int} : ∀ {ss : List Stp} {rs : List Row}, AllB NN wd rs ss → (∀ s ∈ ss, StpG rs.length s) → KerR (runR rs ss) y → KerR rs y
  | [], _, _, _, h => h
  | s :: ss, rs, ab, ok, h => by
    have h0 : ∀ r ∈ rs, Big NN r ∧ r.1.length = wd := fun r hr => ab 0 r hr
    exact step_ker h0 (ok s List.mem_cons_self) (run_ker (ss := ss) (rs := stepR rs s) (fun k => ab (k + 1)) (fun z hz => by rw [stepR_length]; exact ok z (List.mem_cons_of_mem _ hz)) h)
open Rw
def sumAbs : List Int → Nat
  | [] => 0
  | t :: ts => t.natAbs + sumAbs ts
theorem abs_dot {Y : Nat} : ∀ {ts : List Int} {y : Nat → Int}, (∀ j, j < ts.length → (y j).natAbs ≤ Y) → (dotF ts y).natAbs ≤ Y * sumAbs ts
  | [], _, _ => Nat.zero_le _
  | t :: ts, y, h => by
    show (t * y 0 + dotF ts fun i => y (i + 1)).natAbs ≤ Y * (t.natAbs + sumAbs ts)
    have a := abs_dot (ts := ts) (y := fun i => y (i + 1)) (Y := Y) fun j hj => h (j + 1) (by rw [List.length_cons]; omega)
    have b : (t * y 0).natAbs ≤ Y * t.natAbs := by
      rw [Int.natAbs_mul, Nat.mul_comm]
      exact Nat.mul_le_mul (h 0 (by rw [List.length_cons]; omega)) (Nat.le_refl _)
    rw [Nat.mul_add]
    have := Int.natAbs_add_le (t * y 0) (dotF ts fun i => y (i + 1))
    omega
theorem abs_but {Y : Nat} : ∀ {ts : List Int} {y : Nat → Int} {m : Nat} {t : Int}, ts[m]? = some t → (∀ j, j < ts.length → (y j).natAbs ≤ Y) → (dotF ts y - t * y m).natAbs + Y * t.natAbs ≤ Y * sumAbs ts
  | [], _, _, _, h, _ => by simp at h
  | t :: ts, y, 0, u, h, k => by
    simp at h
    subst h
    show (t * y 0 + dotF ts (fun i => y (i + 1)) - t * y 0).natAbs + Y * t.natAbs ≤ Y * (t.natAbs + sumAbs ts)
    have a := abs_dot (ts := ts) (y := fun i => y (i + 1)) (Y := Y) fun j hj => k (j + 1) (by rw [List.length_cons]; omega)
    rw [Nat.mul_add]
    generalize t * y 0 = z at *
    omega
  | t :: ts, y, m + 1, u, h, k => by
    show (t * y 0 + dotF ts (fun i => y (i + 1)) - u * y (m + 1)).natAbs + Y * u.natAbs ≤ Y * (t.natAbs + sumAbs ts)
    have a := abs_but (ts := ts) (y := fun i => y (i + 1)) (m := m) (t := u) (Y := Y) (by simpa using h) fun j hj => k (j + 1) (by rw [List.length_cons]; omega)
    have b : (t * y 0).natAbs ≤ Y * t.natAbs := by
      rw [Int.natAbs_mul, Nat.mul_comm]
      exact Nat.mul_le_mul (k 0 (by rw [List.length_cons]; omega)) (Nat.le_refl _)
    have a : (dotF ts (fun i => y (i + 1)) - u * y (m + 1)).natAbs + Y * u.natAbs ≤ Y * sumAbs ts := a
    rw [Nat.mul_add]
    generalize u * y (m + 1) = z at *
    generalize t * y 0 = z' at *
    generalize dotF ts (fun i => y (i + 1)) = z'' at *
    omega
theorem max_ix (y : Nat → Int) : ∀ {n : Nat}, 0 < n → ∃ m, m < n ∧ ∀ j, j < n → (y j).natAbs ≤ (y m).natAbs
  | 0, h => absurd h (by omega)
  | 1, _ => ⟨0, by omega, fun j hj => by rw [show j = 0 by omega]; exact Nat.le_refl _⟩
  | n + 2, _ => by
    obtain ⟨m, hm, h⟩ := max_ix y (n := n + 1) (by omega)
    by_cases e : (y (n + 1)).natAbs ≤ (y m).natAbs
    · refine ⟨m, by omega, fun j hj => ?_⟩
      by_cases z : j = n + 1
      · rw [z]; exact e
      · exact h j (by omega)
    · refine ⟨n + 1, by omega, fun j hj => ?_⟩
      by_cases z : j = n + 1
      · rw [z]; exact Nat.le_refl _
      · have := h j (by omega)
        omega
theorem dot_last : ∀ {us : List Int} {t : Int} {y : Nat → Int}, dotF (us ++ [t]) y = dotF us y + t * y us.length
  | [], t, y => by show t * y 0 + 0 = 0 + t * y 0; omega
  | u :: us, t, y => by
    show u * y 0 + dotF (us ++ [t]) (fun i => y (i + 1)) = u * y 0 + dotF us (fun i => y (i + 1)) + t * y (us.length + 1)
    rw [dot_last, Int.add_assoc]
theorem heavy_zero {n : Nat} {U : Nat → List Int} {y : Nat → Int} (hl : ∀ k, k < n → (U k).length = n) (hd : ∀ k, k < n → ∃ t, (U k)[k]? = some t ∧ sumAbs (U k) < 2 * t.natAbs) (z : ∀ k, k < n → dotF (U k) y = 0) : ∀ j, j < n → y j = 0 := by
  intro j hj
  obtain ⟨m, hm, mx⟩ := max_ix y (n := n) (by omega)
  obtain ⟨t, ht, hs⟩ := hd m hm
  have a := abs_but ht (Y := (y m).natAbs) (y := y) fun i hi => mx i (by rw [← hl m hm]; exact hi)
  rw [z m hm, Int.zero_sub, Int.natAbs_neg, Int.natAbs_mul] at a
  have k : (y m).natAbs = 0 := by
    by_cases e : (y m).natAbs = 0
    · exact e
    · have b := Nat.mul_lt_mul_of_pos_left hs (show 0 < (y m).natAbs by omega)
      rw [Nat.mul_comm t.natAbs] at a
      rw [Nat.mul_left_comm] at b
      omega
  have := mx j hj
  omega
theorem heavy_bound {n : Nat} {U : Nat → List Int} {R : Nat → Int} {y : Nat → Int} (h0 : 0 < n) (hl : ∀ k, k < n → (U k).length = n) (z : ∀ k, k < n → dotF (U k) y = R k) (T : Nat → Int) (hT : ∀ k, k < n → (U k)[k]? = some (T k)) :
    ∃ m, m < n ∧ (∀ j, j < n → (y j).natAbs ≤ (y m).natAbs) ∧ (y m).natAbs * (2 * (T m).natAbs) ≤ (R m).natAbs + (y m).natAbs * sumAbs (U m) := by
  obtain ⟨m, hm, mx⟩ := max_ix y (n := n) h0
  refine ⟨m, hm, mx, ?_⟩
  have a := abs_but (hT m hm) (Y := (y m).natAbs) (y := y) fun i hi => mx i (by rw [← hl m hm]; exact hi)
  rw [z m hm] at a
  have b : (T m * y m).natAbs ≤ (R m).natAbs + (R m - T m * y m).natAbs := by
    generalize T m * y m = q
    omega
  rw [Int.natAbs_mul, Nat.mul_comm] at b
  rw [Nat.mul_left_comm]
  omega
def pvi (piv : Nat → Nat) : Nat → Nat → Option Nat
  | 0, _ => none
  | k + 1, j => if piv k = j then some k else pvi piv k j
theorem pvi_some {piv : Nat → Nat} : ∀ {p j i : Nat}, pvi piv p j = some i → i < p ∧ piv i = j
  | 0, _, _, h => by cases h
  | p + 1, j, i, h => by
    unfold pvi at h
    split at h
    · rename_i e
      cases h
      exact ⟨by omega, e⟩
    · have := pvi_some h
      exact ⟨by omega, this.2⟩
theorem pvi_at {piv : Nat → Nat} {i : Nat} : ∀ {p : Nat}, i < p → (∀ a b, a < b → b < p → piv a < piv b) → pvi piv p (piv i) = some i
  | 0, h, _ => absurd h (by omega)
  | p + 1, h, o => by
    unfold pvi
    by_cases e : i = p
    · rw [e, if_pos rfl]
    · have := o i p (by omega) (by omega)
      rw [if_neg (by omega)]
      exact pvi_at (by omega) fun a b ha hb => o a b ha (by omega)
theorem free_col {piv : Nat → Nat} {p n : Nat} (hp : p < n) (o : ∀ a b, a < b → b < p → piv a < piv b) : ∃ c, c < n ∧ ∀ i, i < p → piv i ≠ c := by
  have key : ∀ m, m ≤ p → (∀ i, i < m → piv i = i) ∨ ∃ c, c < n ∧ ∀ i, i < p → piv i ≠ c := by
    intro m
    induction m with
    | zero => exact fun _ => .inl fun i hi => absurd hi (by omega)
    | succ m ih =>
      intro hm
      rcases ih (by omega) with h | h
      · by_cases e : piv m = m
        · refine .inl fun i hi => ?_
          by_cases z : i = m
          · rw [z]; exact e
          · exact h i (by omega)
        · refine .inr ⟨m, by omega, fun i hi z => ?_⟩
          have gt : m < piv m := by
            cases m with
            | zero => omega
            | succ m =>
              have := o m (m + 1) (by omega) (by omega)
              have := h m (by omega)
              omega
          rcases Nat.lt_trichotomy i m with c | c | c
          · have := h i c; omega
          · rw [c] at z; exact e z
          · have := o m i c hi; omega
      · exact .inr h
  rcases key p (Nat.le_refl _) with h | h
  · exact ⟨p, hp, fun i hi z => by have := h i hi; omega⟩
  · exact h
def prodB (b : Nat → Int) : Nat → Int
  | 0 => 1
  | k + 1 => prodB b k * b k
theorem prodB_pos {b : Nat → Int} : ∀ {p : Nat}, (∀ i, i < p → 0 < b i) → 0 < prodB b p
  | 0, _ => (by decide : (0 : Int) < 1)
  | p + 1, h => Int.mul_pos (prodB_pos fun i hi => h i (by omega)) (h p (by omega))
theorem prodB_dvd {b : Nat → Int} {i : Nat} : ∀ {p : Nat}, i < p → b i ∣ prodB b p
  | 0, h => absurd h (by omega)
  | p + 1, h => by
    by_cases e : i = p
    · rw [e]; exact ⟨prodB b p, Int.mul_comm _ _⟩
    · exact Int.dvd_trans (prodB_dvd (p := p) (by omega)) ⟨b p, rfl⟩
def fyc (rs : List Row) (piv : Nat → Nat) (p c : Nat) (B : Int) (j : Nat) : Int := if j = c then B else match pvi piv p j with | some i => -((rowAt rs i).1.getD c 0 * (B / (rowAt rs i).2)) | none => 0
theorem fyc_none {rs : List Row} {piv : Nat → Nat} {p c j : Nat} {B : Int} (h : j ≠ c) (e : pvi piv p j = none) : fyc rs piv p c B j = 0 := by
  unfold fyc
  rw [if_neg h, e]
theorem fyc_some {rs : List Row} {piv : Nat → Nat} {p c j i : Nat} {B : Int} (h : j ≠ c) (e : pvi piv p j = some i) : fyc rs piv p c B j = -((rowAt rs i).1.getD c 0 * (B / (rowAt rs i).2)) := by
  unfold fyc
  rw [if_neg h, e]
theorem free_ker {rs : List Row} {p n : Nat} {piv : Nat → Nat} (fm : Form rs p n piv) (hp : p < n) (hpn : p ≤ rs.length) (hl : ∀ r ∈ rs, 0 < r.2 ∧ r.1.length = n + 1) : ∃ (y : Nat → Int) (c : Nat), c < n ∧ y c ≠ 0 ∧ y n = 0 ∧ KerR rs y := by
  obtain ⟨c, hc, nc⟩ := free_col hp fm.ord
  have bp : ∀ i, i < p → 0 < (rowAt rs i).2 := fun i hi => (hl _ (rowAt_in (by omega))).1
  have B0 := prodB_pos (b := fun i => (rowAt rs i).2) bp
  have Bd' : ∀ i, i < p → (rowAt rs i).2 ∣ prodB (fun i => (rowAt rs i).2) p := fun i hi => prodB_dvd (b := fun i => (rowAt rs i).2) hi
  generalize prodB (fun i => (rowAt rs i).2) p = B at B0 Bd'
  have yc : fyc rs piv p c B c = B := if_pos rfl
  have yn : fyc rs piv p c B n = 0 := by
    cases e : pvi piv p n with
    | none => exact fyc_none (by omega) e
    | some i =>
      obtain ⟨a, b⟩ := pvi_some e
      have := (fm.head i a).1
      omega
  refine ⟨fyc rs piv p c B, c, hc, by rw [yc]; omega, yn, fun i hi => ?_⟩
  have li := (hl _ (rowAt_in hi)).2
  by_cases ip : i < p
  · obtain ⟨a1, a2, a3, a4⟩ := fm.head i ip
    have tc : (rowAt rs i).1[c]? = some ((rowAt rs i).1.getD c 0) := by rw [List.getD_eq_getElem?_getD, List.getElem?_eq_getElem (by omega)]; rfl
    rw [dot_two (nc i ip) a3 tc fun j u hj hjc hu => ?_]
    · rw [yc, fyc_some (nc i ip) (pvi_at ip fm.ord), Int.mul_neg, Int.mul_left_comm, Int.mul_ediv_cancel' (Bd' i ip)]
      omega
    · cases e : pvi piv p j with
      | none => rw [fyc_none hjc e, Int.mul_zero]
      | some k =>
        obtain ⟨x1, x2⟩ := pvi_some e
        have ki : k ≠ i := fun z => hj (by rw [← x2, z])
        have := (fm.head k x1).2.2.2 i hi (fun z => ki z.symm)
        rw [x2] at this
        rw [this] at hu
        cases hu
        exact Int.zero_mul _
  · refine dot_zero fun j t ht => ?_
    by_cases e : j < n
    · rw [fm.rest i (by omega) hi j e] at ht
      cases ht
      exact Int.zero_mul _
    · have jl : j < (rowAt rs i).1.length := (List.getElem?_eq_some_iff.mp ht).1
      have : j = n := by omega
      rw [this, yn, Int.mul_zero]
open Rw
theorem piv_id {piv : Nat → Nat} {p : Nat} (o : ∀ a b, a < b → b < p → piv a < piv b) (hb : ∀ i, i < p → piv i < p) : ∀ i, i < p → piv i = i := by
  have lo : ∀ i, i < p → i ≤ piv i := fun i => by
    induction i with
    | zero => exact fun _ => Nat.zero_le _
    | succ i ih =>
      intro hi
      have := ih (by omega)
      have := o i (i + 1) (by omega) hi
      omega
  have hi : ∀ k, k < p → piv (p - 1 - k) + k ≤ p - 1 := fun k => by
    induction k with
    | zero =>
      intro h
      have := hb (p - 1 - 0) (by omega)
      omega
    | succ k ih =>
      intro h
      have a := ih (by omega)
      have b := o (p - 1 - (k + 1)) (p - 1 - k) (by omega) (by omega)
      omega
  intro i h
  have a := lo i h
  have b := hi (p - 1 - i) (by omega)
  rw [show p - 1 - (p - 1 - i) = i by omega] at b
  omega
def bots (rs : List Row) (n : Nat) : Int := prodB (fun i => (rowAt rs i).2) n
def solY (rs : List Row) (n j : Nat) : Int := if j = n then -bots rs n else (rowAt rs j).1.getD n 0 * (bots rs n / (rowAt rs j).2)
theorem solY_n {rs : List Row} {n : Nat} : solY rs n n = -bots rs n := if_pos rfl
theorem solY_lt {rs : List Row} {n j : Nat} (h : j < n) : solY rs n j = (rowAt rs j).1.getD n 0 * (bots rs n / (rowAt rs j).2) := if_neg (by omega)
theorem bots_pos {rs : List Row} {n : Nat} (hn : rs.length = n) (hl : ∀ r ∈ rs, 0 < r.2 ∧ r.1.length = n + 1) : 0 < bots rs n := prodB_pos fun i hi => (hl _ (rowAt_in (by omega))).1
theorem sol_ker {rs : List Row} {n : Nat} {piv : Nat → Nat} (fm : Form rs n n piv) (hn : rs.length = n) (hl : ∀ r ∈ rs, 0 < r.2 ∧ r.1.length = n + 1) : KerR rs (solY rs n) := by
  have id' := piv_id fm.ord fun i hi => (fm.head i hi).1
  intro i hi
  have hi : i < n := by omega
  have li := (hl _ (rowAt_in (show i < rs.length by omega))).2
  have a3 := (fm.head i hi).2.2.1
  rw [id' i hi] at a3
  have tc : (rowAt rs i).1[n]? = some ((rowAt rs i).1.getD n 0) := by rw [List.getD_eq_getElem?_getD, List.getElem?_eq_getElem (by omega)]; rfl
  rw [dot_two (show i ≠ n by omega) a3 tc fun j u hj hjn hu => ?_]
  · have d : (rowAt rs i).2 * (bots rs n / (rowAt rs i).2) = bots rs n := Int.mul_ediv_cancel' (prodB_dvd (b := fun i => (rowAt rs i).2) hi)
    rw [solY_n, solY_lt hi, Int.mul_left_comm, d, Int.mul_neg]
    omega
  · have jl : j < (rowAt rs i).1.length := (List.getElem?_eq_some_iff.mp hu).1
    have jn : j < n := by omega
    have := (fm.head j jn).2.2.2 i (by omega) (fun z => hj z.symm)
    rw [id' j jn] at this
    rw [this] at hu
    cases hu
    exact Int.zero_mul _
theorem sol_lw {rs : List Row} {n j : Nat} (h : j < n) (hn : rs.length = n) (hl : ∀ r ∈ rs, 0 < r.2 ∧ r.1.length = n + 1) : solY rs n j * (Ac.lw ((rowAt rs j).1.getD n 0) (rowAt rs j).2).2 = (Ac.lw ((rowAt rs j).1.getD n 0) (rowAt rs j).2).1 * bots rs n := by
  have b0 := (hl _ (rowAt_in (show j < rs.length by omega))).1
  have e := Ac.lw_eq (t := (rowAt rs j).1.getD n 0) b0
  have d := Int.mul_ediv_cancel' (prodB_dvd (b := fun i => (rowAt rs i).2) h)
  rw [solY_lt h]
  show (rowAt rs j).1.getD n 0 * (prodB (fun i => (rowAt rs i).2) n / (rowAt rs j).2) * _ = _ * prodB (fun i => (rowAt rs i).2) n
  generalize prodB (fun i => (rowAt rs i).2) n = B at *
  generalize Ac.lw ((rowAt rs j).1.getD n 0) (rowAt rs j).2 = x at *
  generalize (rowAt rs j).1.getD n 0 = t at *
  have d : (rowAt rs j).2 * (B / (rowAt rs j).2) = B := d
  calc t * (B / (rowAt rs j).2) * x.2 = (t * x.2) * (B / (rowAt rs j).2) := by ac_rfl
    _ = x.1 * (rowAt rs j).2 * (B / (rowAt rs j).2) := by rw [e]
    _ = x.1 * ((rowAt rs j).2 * (B / (rowAt rs j).2)) := by ac_rfl
    _ = x.1 * B := by rw [d]
def prF : List (Int × Int) → List (Int × Int) → Int × Int → Int × Int
  | a :: as, b :: bs, z => prF as bs (z.1 * a.2 * b.2 + a.1 * b.1 * z.2, z.2 * a.2 * b.2)
  | _, _, z => z
theorem prF_pos : ∀ {as bs : List (Int × Int)} {z : Int × Int}, (∀ a ∈ as, 0 < a.2) → (∀ b ∈ bs, 0 < b.2) → 0 < z.2 → 0 < (prF as bs z).2
  | [], _, _, _, _, h => h
  | _ :: _, [], _, _, _, h => h
  | a :: as, b :: bs, z, ha, hb, h => prF_pos (as := as) (bs := bs) (fun x hx => ha x (List.mem_cons_of_mem _ hx)) (fun x hx => hb x (List.mem_cons_of_mem _ hx)) (Int.mul_pos (Int.mul_pos h (ha a List.mem_cons_self)) (hb b List.mem_cons_self))
theorem prF_val {S : Int} : ∀ {as bs : List (Int × Int)} {us : List Int} {y : Nat → Int} {z : Int × Int}, as.length = bs.length → as.length = us.length → (∀ (j : Nat) a b u, as[j]? = some a → bs[j]? = some b → us[j]? = some u → u * y j * (a.2 * b.2) = S * (a.1 * b.1)) → (∀ a ∈ as, 0 < a.2) → (∀ b ∈ bs, 0 < b.2) →
    (prF as bs z).1 * z.2 * S = (prF as bs z).2 * (z.1 * S + z.2 * dotF us y)
  | [], [], [], y, z, _, _, _, _, _ => by
    show z.1 * z.2 * S = z.2 * (z.1 * S + z.2 * 0)
    rw [Int.mul_zero, Int.add_zero]; ac_rfl
  | a :: as, b :: bs, u :: us, y, z, h1, h2, h, ha, hb => by
    have m0 := Int.mul_pos (ha a List.mem_cons_self) (hb b List.mem_cons_self)
    have e0 := h 0 a b u rfl rfl rfl
    have ih := prF_val (as := as) (bs := bs) (us := us) (y := fun i => y (i + 1)) (z := (z.1 * a.2 * b.2 + a.1 * b.1 * z.2, z.2 * a.2 * b.2)) (S := S) (by simpa using h1) (by simpa using h2) (fun j a' b' u' x1 x2 x3 => h (j + 1) a' b' u' (by simpa using x1) (by simpa using x2) (by simpa using x3)) (fun x hx => ha x (List.mem_cons_of_mem _ hx)) fun x hx => hb x (List.mem_cons_of_mem _ hx)
    show (prF as bs (z.1 * a.2 * b.2 + a.1 * b.1 * z.2, z.2 * a.2 * b.2)).1 * z.2 * S = (prF as bs (z.1 * a.2 * b.2 + a.1 * b.1 * z.2, z.2 * a.2 * b.2)).2 * (z.1 * S + z.2 * (u * y 0 + dotF us fun i => y (i + 1)))
    generalize prF as bs (z.1 * a.2 * b.2 + a.1 * b.1 * z.2, z.2 * a.2 * b.2) = r at *
    generalize (dotF us fun i => y (i + 1)) = dd at *
    have ih : r.1 * (z.2 * a.2 * b.2) * S = r.2 * ((z.1 * a.2 * b.2 + a.1 * b.1 * z.2) * S + z.2 * a.2 * b.2 * dd) := ih
    refine Int.eq_of_mul_eq_mul_right (Int.ne_of_gt m0) ?_
    calc r.1 * z.2 * S * (a.2 * b.2) = r.1 * (z.2 * a.2 * b.2) * S := by ac_rfl
      _ = r.2 * ((z.1 * a.2 * b.2 + a.1 * b.1 * z.2) * S + z.2 * a.2 * b.2 * dd) := ih
      _ = r.2 * (z.1 * S * (a.2 * b.2) + z.2 * (S * (a.1 * b.1)) + z.2 * dd * (a.2 * b.2)) := by
        congr 1
        rw [Int.add_mul]
        congr 1
        · congr 1 <;> ac_rfl
        · ac_rfl
      _ = r.2 * (z.1 * S * (a.2 * b.2) + z.2 * (u * y 0 * (a.2 * b.2)) + z.2 * dd * (a.2 * b.2)) := by rw [← e0]
      _ = r.2 * (z.1 * S + z.2 * (u * y 0 + dd)) * (a.2 * b.2) := by
        rw [Int.mul_assoc r.2, Int.add_mul, Int.mul_add z.2, Int.add_mul, ← Int.add_assoc]
        congr 1
        congr 1
        congr 1
        ac_rfl
theorem prF_size {M : Nat} : ∀ {as bs : List (Int × Int)} {z : Int × Int} {B : Nat}, (∀ a ∈ as, a.1.natAbs ≤ M ∧ a.2.natAbs ≤ M) → (∀ b ∈ bs, b.1.natAbs ≤ M ∧ b.2.natAbs ≤ M) → z.1.natAbs ≤ B → z.2.natAbs ≤ B → 1 ≤ M → (prF as bs z).1.natAbs ≤ B * (2 * (M * M)) ^ as.length ∧ (prF as bs z).2.natAbs ≤ B * (2 * (M * M)) ^ as.length
  | [], _, z, B, _, _, h1, h2, _ => by rw [List.length_nil, Nat.pow_zero, Nat.mul_one]; exact ⟨h1, h2⟩
  | a :: as, [], z, B, _, _, h1, h2, hM => by
    have : 1 ≤ (2 * (M * M)) ^ (a :: as).length := Nat.one_le_pow _ _ (by have := Nat.mul_le_mul hM hM; omega)
    have := Nat.mul_le_mul (Nat.le_refl B) this
    rw [Nat.mul_one] at this
    exact ⟨Nat.le_trans h1 this, Nat.le_trans h2 this⟩
  | a :: as, b :: bs, z, B, ha, hb, h1, h2, hM => by
    obtain ⟨a1, a2⟩ := ha a List.mem_cons_self
    obtain ⟨b1, b2⟩ := hb b List.mem_cons_self
    have k : ∀ {x y w : Int}, x.natAbs ≤ B → y.natAbs ≤ M → w.natAbs ≤ M → (x * y * w).natAbs ≤ B * (M * M) := fun hx hy hw => by
      rw [Int.natAbs_mul, Int.natAbs_mul, Nat.mul_assoc]
      exact Nat.mul_le_mul hx (Nat.mul_le_mul hy hw)
    have m1 := k h1 a2 b2
    have m2 := k h2 a1 b1
    have m3 := k h2 a2 b2
    have e2 : B * (2 * (M * M)) = B * (M * M) + B * (M * M) := by rw [Nat.mul_left_comm]; omega
    rw [Int.mul_right_comm z.2, Int.mul_comm (z.2 * b.1), ← Int.mul_assoc, Int.mul_right_comm a.1] at m2
    obtain ⟨r1, r2⟩ := prF_size (as := as) (bs := bs) (z := (z.1 * a.2 * b.2 + a.1 * b.1 * z.2, z.2 * a.2 * b.2)) (B := B * (2 * (M * M))) (fun x hx => ha x (List.mem_cons_of_mem _ hx)) (fun x hx => hb x (List.mem_cons_of_mem _ hx)) (by
      show (z.1 * a.2 * b.2 + a.1 * b.1 * z.2).natAbs ≤ _
      have := Int.natAbs_add_le (z.1 * a.2 * b.2) (a.1 * b.1 * z.2)
      omega) (by
      show (z.2 * a.2 * b.2).natAbs ≤ _
      omega) hM
    rw [List.length_cons, Nat.pow_succ, Nat.mul_comm ((2 * (M * M)) ^ as.length), ← Nat.mul_assoc]
    exact ⟨r1, r2⟩
open Rw
def Lows (fss : List (List (Int × Int))) : Prop := ∀ fs ∈ fss, fs.length ≤ 8 ∧ ∀ f ∈ fs, Lo f
theorem FRs.get {H : Hp} {xs : List V} {fss : List (List (Int × Int))} (h : FRs H xs fss) {i : Nat} (hi : i < fss.length) : ∃ l ys, xs[i]? = some (.ref l) ∧ H l = some (.lst ys) ∧ FL H ys (fAt fss i) ∧ fAt fss i ∈ fss := by
  have hx : i < xs.length := by rw [h.len]; exact hi
  obtain ⟨l, ys, e, a, b⟩ := h.at_ i _ (List.getElem?_eq_getElem hx)
  refine ⟨l, ys, by rw [List.getElem?_eq_getElem hx, e], a, b, ?_⟩
  unfold fAt
  rw [List.getD_eq_getElem?_getD, List.getElem?_eq_getElem hi]
  exact List.getElem_mem hi
def jDn (D2 : Addr) (H : Hp) (gs : List (Int × Int)) (k : Nat) (ys : List V) (Hc : Hp) : Prop := Same H Hc ∧ Hc D2 = some (.lst ys) ∧ FL Hc ys (gs.take k)
theorem jDn.next {D2 : Addr} {H : Hp} {gs : List (Int × Int)} {k : Nat} {ys : List V} {Hc : Hp} (hD : H D2 = none) (h : jDn D2 H gs k ys Hc) {g : Int × Int} (e : gs[k]? = some g) {r : Addr} (hr : Hc r = none) : jDn D2 H gs (k + 1) (ys ++ [.ref r]) (upd (upd Hc r (.tup [.int g.1, .int g.2])) D2 (.lst (ys ++ [.ref r]))) := by
  obtain ⟨T2, c2, fl⟩ := h
  have T3 : Same Hc (upd Hc r (.tup [.int g.1, .int g.2])) := Same.upd hr
  have e1 : upd Hc r (.tup [.int g.1, .int g.2]) r = some (.tup [.int g.1, .int g.2]) := upd_same
  generalize upd Hc r (.tup [.int g.1, .int g.2]) = H3 at T3 e1 ⊢
  refine ⟨same_upd hD (T2.trans T3), upd_same, ?_⟩
  rw [take_next e]
  exact ((fl.same T3).updL (T3 _ _ c2)).append (.cons ((upd_ne (ne_of e1 (T3 _ _ c2) (by intro z; cases z))).trans e1) .nil)
open Rw
theorem ret_of {te : TE} {D : Ends} {σ : L2.St} {H : Hp} (h : te σ H D.rt) : tRet te D σ H := h
def sp_width_of : Sp := fun vs H Q _ => ∃ (l : Addr) (xs : List V) (fss : List (List (Int × Int))) (wd : Nat), vs = [.ref l] ∧ H l = some (.lst xs) ∧ FRs H xs fss ∧ (∀ fs ∈ fss, fs.length = wd) ∧ 0 < fss.length ∧ Q (.int wd) H
theorem ok_width_of {f : Addr} {fd : FuncData} (F : Fun K nm_width_of nm_width_of s_width_of f fd) (T : Txt K mg D) : FnOk P w K mg base CX0 1 f fd ps_width_of sp_width_of := by
  refine F.ok sc_width_of (fun vs H Q E h => ?_) (fun cdv A outer s H vs Q E hr h => ?_)
  · obtain ⟨l, xs, fss, wd, rfl, _⟩ := h
    rfl
  · obtain ⟨l, xs, fss, wd, rfl, hl, fr, hw, h0, q⟩ := h
    refine ⟨_, (pss_cons (ps_if (pt_cmpR op_eq (pe_callB call_lenL (by rfl) T.b_len PySem.boot_len (pa_cons (pv 0) pa_nil)) pe_int (nomark _))
        (pss_one (ps_ret pe_int))
        pss_nil)
      (pss_one (ps_ret (pe_callB call_lenL (by rfl) T.b_len PySem.boot_len (pa_cons (pe_ix ix_listH (pv 0) pe_int (fun _ _ => rfl)) pa_nil))))), ?_⟩
    have hx := fr.len
    obtain ⟨v, hv⟩ : ∃ v, xs[0]? = some v := ⟨_, List.getElem?_eq_getElem (by omega)⟩
    obtain ⟨l1, y1, rfl, h1, fl1⟩ := fr.at_ 0 v hv
    have ly : y1.length = wd := by
      rw [fl1.length]
      refine hw _ ?_
      rw [List.getD_eq_getElem?_getD, List.getElem?_eq_getElem h0]; exact List.getElem_mem h0
    refine ⟨_, rfl, l, xs, rfl, hl, rfl, _, rfl, ite2 (fun z => absurd (V.int.inj (of_decide_eq_true z)) (by omega)) fun _ => ⟨_, rfl, l, xs, 0, _, rfl, rfl, hl, atI_nat (j := 0) hv, l1, y1, rfl, h1, ?_⟩⟩
    rw [ly]
    exact q
def sp_with_rights : Sp := fun vs H Q _ => ∃ (l r : Addr) (xs ys : List V) (fss : List (List (Int × Int))) (rs : List (Int × Int)), vs = [.ref l, .ref r] ∧ H l = some (.lst xs) ∧ FRs H xs fss ∧ H r = some (.lst ys) ∧ FL H ys rs ∧ fss.length = rs.length ∧ fss.length ≤ 20 ∧ (∀ fs ∈ fss, fs.length ≤ 40) ∧
  ∀ p zs H', Same H H' → H' p = some (.lst zs) → FRs H' zs (List.zipWith (fun fs r => fs ++ [r]) fss rs) → Q (.ref p) H'
theorem ok_with_rights {f : Addr} {fd : FuncData} (F : Fun K nm_with_rights nm_with_rights s_with_rights f fd) (T : Txt K mg D) : FnOk P w K mg base CX0 1 f fd ps_with_rights sp_with_rights := by
  refine F.ok sc_with_rights (fun vs H Q E h => ?_) (fun cdv A outer s H vs Q E hr h => ?_)
  · obtain ⟨l, r, xs, ys, fss, rs, rfl, _⟩ := h
    rfl
  · obtain ⟨l, r, xs, ys, fss, rs, rfl, hl, fr, hr', fl, hlen, hn, hw, q⟩ := h
    refine ⟨_, (pss_one (ps_ret (pe_compGF (defScope s_with_rights) ["rows", "rights"] ["rows", "rights"] ["row", "right"] rfl rfl rfl (by decide +kernel) (by decide +kernel) rfl (by decide +kernel) (by decide +kernel) (by decide +kernel) (by decide +kernel) (by decide +kernel) (pi_zip (by rfl) T.b_zip (pa_cons (pv 0) (pa_cons (pv 1) pa_nil)).mono) (fun _ _ _ _ _ => (pg_tupH (n := 2) rfl (pgs_cons (pg_name (i := 0) (show List.Nodup (["row", "right", "rows", "rights"] : List Str) from by decide +kernel) rfl (Or.inl rfl) (Or.inr rfl)) (pgs_cons (pg_name (i := 1) (show List.Nodup (["row", "right", "rows", "rights"] : List Str) from by decide +kernel) rfl (Or.inl rfl) (Or.inr rfl)) pgs_nil)))) (fun _ _ _ _ _ => pts_nil) (fun _ _ _ _ _ => (pe_op op_cat (pv 0) (pe_lst (pa_cons (pv 1) pa_nil))))))), ?_⟩
    have hx := fr.len
    have hy := fl.length
    refine ret_of (tCompG_zip ?_)
    refine ⟨_, rfl, _, rfl, l, r, xs, ys, rfl, hl, hr', by omega, by omega, fun D1 hD => ⟨fun k zs Hc => Same H Hc ∧ Hc D1 = some (.lst zs) ∧ FRs Hc zs ((List.zipWith (fun fs r => fs ++ [r]) fss rs).take k) ∧ ∀ (j : Nat) a, zs[j]? = some (V.ref a) → a ≠ D1, ⟨Same.upd hD, upd_same, ⟨rfl, fun k v e => by simp at e⟩, by simp⟩, ?_, ?_⟩⟩
    · rintro k x y zs Hc tt hk hk2 ⟨S1, c1, fz, nz⟩ hzl htt hlc hlc2 pre hpre
      obtain ⟨u0, u1, rfl⟩ := two_of hpre
      have kf : k < fss.length := by
        have := (List.getElem?_eq_some_iff.mp hk).1
        omega
      obtain ⟨la, ya, ea, ha, fa, ma⟩ := fr.get kf
      rw [hk] at ea
      cases ea
      obtain ⟨p', g0, rfl, hg, hp'⟩ := fl.get hk2
      have T4 : Same Hc (upd Hc tt (.tup [.ref la, .ref p'])) := Same.upd htt
      have e4 : upd Hc tt (.tup [.ref la, .ref p']) tt = some (.tup [.ref la, .ref p']) := upd_same
      generalize upd Hc tt (.tup [.ref la, .ref p']) = H4 at T4 e4 ⊢
      refine ⟨tt, _, rfl, e4, rfl, _, _, rfl, _, _, rfl, rfl, [some (.ref la), some (.ref p')], rfl, rfl, ?_⟩
      refine ⟨_, rfl, _, rfl, line1, fun t5 ht5 => ?_⟩
      have T5 : Same H4 (upd H4 t5 (.lst [.ref p'])) := Same.upd ht5
      have e5 : upd H4 t5 (.lst [.ref p']) t5 = some (.lst [.ref p']) := upd_same
      generalize upd H4 t5 (.lst [.ref p']) = H5 at T5 e5 ⊢
      have S5 := (S1.trans T4).trans T5
      have ly := hw _ ma
      refine ⟨la, t5, ya, _, rfl, rfl, S5 _ _ ha, e5, ?_, fun r6 hr6 => ?_⟩
      · rw [fa.length]
        exact Nat.le_trans (Nat.add_le_add_right ly 1) (by decide)
      have T6 : Same H5 (upd H5 r6 (.lst (ya ++ [.ref p']))) := Same.upd hr6
      have e6 : upd H5 r6 (.lst (ya ++ [.ref p'])) r6 = some (.lst (ya ++ [.ref p'])) := upd_same
      generalize upd H5 r6 (.lst (ya ++ [.ref p'])) = H6 at T6 e6 ⊢
      have T46 := (T4.trans T5).trans T6
      have S6 := S1.trans T46
      have n1 := T46 _ _ c1
      have nr : r6 ≠ D1 := fun z => by
        have := (T4.trans T5) _ _ c1
        rw [← z, hr6] at this
        cases this
      have en : (List.zipWith (fun fs r => fs ++ [r]) fss rs)[k]? = some (fAt fss k ++ [g0]) := by
        rw [List.getElem?_zipWith, hg]
        unfold fAt
        rw [List.getD_eq_getElem?_getD, List.getElem?_eq_getElem kf]; rfl
      refine ⟨n1, T46 _ _ hlc, T46 _ _ hlc2, same_upd hD S6, upd_same, ?_, fun j a e => ?_⟩
      · rw [take_next en]
        exact FRs.snoc (FRs.updL n1 (fz.same T46) nz) ((upd_ne nr).trans e6) (((fa.same S6).append (.cons (S6 _ _ hp') .nil)).updL n1)
      · by_cases hj : j < zs.length
        · rw [List.getElem?_append_left hj] at e
          exact nz j a e
        · rw [List.getElem?_append_right (by omega)] at e
          have e0 : j - zs.length = 0 := by
            cases z : j - zs.length with
            | zero => rfl
            | succ m => rw [z] at e; simp at e
          rw [e0, List.getElem?_cons_zero] at e
          cases e
          exact nr
    · rintro zs Hc ⟨S1, c1, fz, nz⟩ _
      rw [List.take_of_length_le (by rw [List.length_zipWith]; omega)] at fz
      exact q D1 zs Hc S1 c1 fz
def sp_odd_row : Sp := fun vs H Q _ => ∃ (l b : Addr) (xs ys : List V) (wide : Nat), vs = [.ref l, .ref b, .int wide] ∧ H l = some (.lst xs) ∧ H b = some (.lst ys) ∧ ys.length = xs.length ∧ xs.length ≤ 64 ∧ Q .non H
theorem ok_odd_row {f : Addr} {fd : FuncData} (F : Fun K nm_odd_row nm_odd_row s_odd_row f fd) (T : Txt K mg D) : FnOk P w K mg base CX0 1 f fd ps_odd_row sp_odd_row := by
  refine F.ok sc_odd_row (fun vs H Q E h => ?_) (fun cdv A outer s H vs Q E hr h => ?_)
  · obtain ⟨l, b, xs, ys, wide, rfl, _⟩ := h
    rfl
  · obtain ⟨l, b, xs, ys, wide, rfl, hl, hb, hlen, h64, q⟩ := h
    refine ⟨_, (pss_cons (ps_for PassesOwn.never rfl (pi_range2 (by rfl) T.b_range (pa_cons (pe_callB call_lenL (by rfl) T.b_len PySem.boot_len (pa_cons (pv 1) pa_nil)) (pa_cons (pe_callB call_lenL (by rfl) T.b_len PySem.boot_len (pa_cons (pv 0) pa_nil)) pa_nil)).mono) (pg_name (i := 3) sc_odd_row.nd rfl (Or.inl rfl))
        (pss_one (ps_if (pt_cmpR (op_neKK (K := K) rfl hr.units) (pe_ix ix_listH (pe_ix ix_listH (pv 0) (pv 3) (fun _ _ => rfl)) (pv 2) (fun _ _ => rfl)) (pe_globT (by rfl) T.c_NOUGHT) (nomark _))
          (pss_one (ps_ret (pv 3)))
          pss_nil)))
      (pss_one (ps_ret pe_non))), ?_⟩
    refine seq_of (tFor_rng2M ?_)
    refine ⟨_, rfl, b, ys, rfl, hb, _, rfl, l, xs, rfl, hl, _, _, 0, rfl, by omega, by omega, by omega, fun k σ' H' => H' = H, rfl, fun k σ' H' hk => absurd hk (by omega), fun σ' H' e => ?_⟩
    rw [e]
    exact q
open Rw
theorem filt_first {P : Nat → Bool} {c : Nat} : ∀ {w : Nat}, c < w → (∀ j, j < c → P j = false) → P c = true → ∃ rest, (List.range w).filter P = c :: rest
  | 0, h, _, _ => absurd h (by omega)
  | w + 1, h, z, o => by
    rw [List.range_succ, List.filter_append]
    by_cases e : c < w
    · obtain ⟨rest, er⟩ := filt_first (P := P) e z o
      rw [er]
      exact ⟨_, rfl⟩
    · have : c = w := by omega
      subst this
      rw [List.filter_eq_nil_iff.mpr (fun j hj => by rw [z j (List.mem_range.mp hj)]; decide), List.filter_cons_of_pos o]
      exact ⟨_, rfl⟩
theorem FL_of {H : Hp} : ∀ {zs : List V} {fs : List (Int × Int)}, zs.length = fs.length → (∀ (j : Nat) f, fs[j]? = some f → ∃ p, zs[j]? = some (V.ref p) ∧ H p = some (.tup [.int f.1, .int f.2])) → FL H zs fs
  | [], [], _, _ => .nil
  | z :: zs, f :: fs, e, h => by
    obtain ⟨p, e1, e2⟩ := h 0 f rfl
    cases e1
    exact .cons e2 (FL_of (by simpa using e) fun j g hg => by simpa using h (j + 1) g (by simpa using hg))
def sp_begins_of (K : PySem.W.Frag) : Sp := fun vs H Q _ => ∃ (l : Addr) (xs : List V) (rs : List Row) (wide wd p : Nat) (piv : Nat → Nat), vs = [.ref l, .int wide] ∧ H l = some (.lst xs) ∧ FRs H xs (rs.map rep) ∧ (∀ r ∈ rs, 0 < r.2 ∧ r.1.length = wd) ∧ wide ≤ wd ∧ wd ≤ 64 ∧ rs.length ≤ 20 ∧ Form rs p wide piv ∧ p ≤ rs.length ∧
  ∀ b H', Same H H' → H' b = some (.lst ((List.range p).map fun i => V.int (piv i))) → Q (.ref b) H'
theorem ok_begins_of {f : Addr} {fd : FuncData} (F : Fun K nm_begins_of nm_begins_of s_begins_of f fd) (T : Txt K mg D) : FnOk P w K mg base CX0 1 f fd ps_begins_of (sp_begins_of K) := by
  refine F.ok sc_begins_of (fun vs H Q E h => ?_) (fun cdv A outer s H vs Q E hr h => ?_)
  · obtain ⟨l, xs, rs, wide, wd, p, piv, rfl, _⟩ := h
    rfl
  · obtain ⟨l, xs, rs, wide, wd, p, piv, rfl, hl, fr, hb, hw, h64, hn, fm, hp, q⟩ := h
    refine ⟨_, (pss_cons (ps_set (i := 2) sc_begins_of.nd rfl (Or.inl rfl) (pe_lst pa_nil))
      (pss_cons (ps_for PassesOwn.never rfl (pi_list ((pv 0)).mono) (pg_name (i := 3) sc_begins_of.nd rfl (Or.inr rfl))
        (pss_cons (ps_compGF (defScope s_begins_of) ["end", "wide", "begins", "row", "columns"] ["end", "wide", "begins", "row", "columns"] ["column"] rfl rfl rfl (by decide +kernel) (by decide +kernel) rfl (by decide +kernel) (by decide +kernel) (by decide +kernel) (by decide +kernel) (by decide +kernel) (pi_range1 (by rfl) T.b_range (pa_cons (pv 1) pa_nil).mono) (fun _ _ _ _ _ => (pg_name (i := 0) (show List.Nodup (["column", "end", "wide", "begins", "row", "columns"] : List Str) from by decide +kernel) rfl (Or.inl rfl) (Or.inr rfl))) (fun _ _ _ _ _ => (pts_one (pt_cmpR (op_neKK (K := K) rfl hr.units) (pe_ix ix_listH (pv 4) (pv 0) (fun _ _ => rfl)) (pe_globT (by rfl) T.c_NOUGHT) (nomark _)))) (fun _ _ _ _ _ => (pv 0)) (pg_name (i := 4) sc_begins_of.nd rfl (Or.inl rfl)))
        (pss_one (ps_if (pt_cmpR op_gt (pe_callB call_lenL (by rfl) T.b_len PySem.boot_len (pa_cons (pv 4) pa_nil)) pe_int (nomark _))
          (pss_one (ps_expr (pe_app (pv 2) (pa_cons (pe_ix ix_listH (pv 4) pe_int (fun _ _ => rfl)) pa_nil))))
          pss_nil))))
      (pss_one (ps_ret (pv 2))))), ?_⟩
    have hx : xs.length = rs.length := by rw [fr.len, List.length_map]
    refine ⟨Nat.zero_le _, fun B hB => seq_of (tFor_listM ?_)⟩
    have S0 : Same H (upd H B (.lst [])) := Same.upd hB
    refine ⟨_, rfl, l, xs, rfl, S0 _ _ hl, fun k σ H' => ∃ u v, σ = [some (.ref l), some (.int wide), some (.ref B), u, v] ∧ Same H H' ∧ H' B = some (.lst ((List.range (min k p)).map fun i => V.int (piv i))), ⟨none, none, rfl, S0, by rw [Nat.zero_min]; exact upd_same⟩, ?_, ?_⟩
    · rintro k x σ' H2 hk ⟨u, v, rfl, S2, hB2⟩ hl2
      have kr : k < rs.length := by
        have := (List.getElem?_eq_some_iff.mp hk).1
        omega
      obtain ⟨la, ya, ea, ha, fa, _⟩ := fr.get (i := k) (by rw [List.length_map]; exact kr)
      rw [fAt_map kr] at fa
      rw [hk] at ea
      cases ea
      have br := hb _ (rowAt_in kr)
      refine seq_asg (tCompG1_rngC ?_)
      refine ⟨_, rfl, wide, rfl, by omega, fun C hC => ⟨fun m ys Hc => Same H2 Hc ∧ Hc C = some (.lst ys) ∧ ys = ((List.range m).filter fun c => decide ((rowAt rs k).1.getD c 0 ≠ 0)).map fun c : Nat => V.int c, ⟨Same.upd hC, upd_same, rfl⟩, ?_, ?_⟩⟩
      · rintro m ys Hc hm ⟨S3, hC3, rfl⟩ _
        have S23 := S2.trans S3
        obtain ⟨vm, hv⟩ : ∃ v, ya[m]? = some v := ⟨_, List.getElem?_eq_getElem (by rw [fa.length]; unfold rep; rw [List.length_map, br.2]; omega)⟩
        obtain ⟨pg, g, rfl, hg, hpg⟩ := fa.get hv
        have et : (rowAt rs k).1[m]? = some ((rowAt rs k).1.getD m 0) := by rw [List.getD_eq_getElem?_getD, List.getElem?_eq_getElem (by rw [br.2]; omega)]; rfl
        have eg : (rep (rowAt rs k))[m]? = some (Ac.lw ((rowAt rs k).1.getD m 0) (rowAt rs k).2) := by
          unfold rep
          rw [List.getElem?_map, et]; rfl
        rw [eg] at hg
        cases hg
        refine ⟨_, rfl, _, rfl, la, ya, m, _, rfl, rfl, S23 _ _ ha, atI_nat hv, _, _, .tup (.inl (.of (S23 _ _ hpg))) (.cons (.int _) (.cons (.int _) .nil)), .tup (T.kt_NOUGHT _) (.cons (.int _) (.cons (.int _) .nil)), rfl, rfl, _, rfl, ?_⟩
        have le := Ac.lw_eq (t := (rowAt rs k).1.getD m 0) br.1
        have lp := Ac.lw_pos (t := (rowAt rs k).1.getD m 0) br.1
        have lg := Ac.lw_gcd (t := (rowAt rs k).1.getD m 0) br.1
        by_cases z : (rowAt rs k).1.getD m 0 = 0
        · have e1 : (Ac.lw ((rowAt rs k).1.getD m 0) (rowAt rs k).2).1 = 0 := by rw [z]; exact Int.zero_ediv _
          have e2 : (Ac.lw ((rowAt rs k).1.getD m 0) (rowAt rs k).2).2 = 1 := by
            rw [e1, Int.gcd_zero_left] at lg
            omega
          rw [show (if true = true then !PyData.eqv (.tuple [.int (Ac.lw ((rowAt rs k).1.getD m 0) (rowAt rs k).2).1, .int (Ac.lw ((rowAt rs k).1.getD m 0) (rowAt rs k).2).2]) (.tuple [.int 0, .int 1]) else PyData.eqv (.tuple [.int (Ac.lw ((rowAt rs k).1.getD m 0) (rowAt rs k).2).1, .int (Ac.lw ((rowAt rs k).1.getD m 0) (rowAt rs k).2).2]) (.tuple [.int 0, .int 1])) = false by rw [if_pos rfl, eqv_two, e1, e2]; rfl]
          refine ⟨S3, hC3, ?_⟩
          rw [List.range_succ, List.filter_append, List.map_append, List.filter_cons_of_neg (by rw [z]; decide), List.filter_nil, List.map_nil, List.append_nil]
        · have e1 : (Ac.lw ((rowAt rs k).1.getD m 0) (rowAt rs k).2).1 ≠ 0 := fun y => by
            rw [y, Int.zero_mul] at le
            rcases Int.mul_eq_zero.mp le.symm with x | x
            · exact z x
            · omega
          rw [show (if true = true then !PyData.eqv (.tuple [.int (Ac.lw ((rowAt rs k).1.getD m 0) (rowAt rs k).2).1, .int (Ac.lw ((rowAt rs k).1.getD m 0) (rowAt rs k).2).2]) (.tuple [.int 0, .int 1]) else PyData.eqv (.tuple [.int (Ac.lw ((rowAt rs k).1.getD m 0) (rowAt rs k).2).1, .int (Ac.lw ((rowAt rs k).1.getD m 0) (rowAt rs k).2).2]) (.tuple [.int 0, .int 1])) = true by rw [if_pos rfl, eqv_two, beq_eq_false_iff_ne.mpr e1]; rfl]
          refine ⟨_, rfl, hC3, same_upd hC S3, upd_same, ?_⟩
          rw [List.range_succ, List.filter_append, List.map_append, List.filter_cons_of_pos (p := fun c => decide ((rowAt rs k).1.getD c 0 ≠ 0)) (a := m) (l := []) (decide_eq_true z), List.filter_nil]; rfl
      · rintro ys Hc ⟨S3, hC3, rfl⟩ _
        have S23 := S2.trans S3
        have hB3 := S3 _ _ hB2
        have hl3 := S3 _ _ hl2
        have nl : l ≠ B := ne_of_none hl hB
        by_cases kp : k < p
        · obtain ⟨a1, a2, a3, _⟩ := fm.head k kp
          obtain ⟨rest, er⟩ := filt_first (P := fun c => decide ((rowAt rs k).1.getD c 0 ≠ 0)) a1 (fun j hj => by
            have := a2 j hj
            simp [List.getD_eq_getElem?_getD, this]) (by
            have b0 := br.1
            simp [List.getD_eq_getElem?_getD, a3]
            omega)
          rw [er] at hC3
          refine ⟨_, rfl, C, _, rfl, hC3, _, _, rfl, rfl, _, rfl, ite2 (fun _ => ?_) fun h => absurd (decide_eq_true (by simp)) h⟩
          refine ⟨_, rfl, B, _, rfl, hB3, _, rfl, C, _, 0, _, rfl, rfl, hC3, atI_0, _, _, rfl, hB3, ?_, (upd_ne nl).trans hl3, _, _, rfl, same_upd hB S23, ?_⟩
          · rw [List.length_map, List.length_range]
            exact Nat.lt_of_le_of_lt (Nat.min_le_left _ _) (Nat.lt_of_lt_of_le (show k < 64 by omega) (by decide))
          · rw [Nat.min_eq_left (show k ≤ p by omega), Nat.min_eq_left (show k + 1 ≤ p by omega), List.range_succ, List.map_append]
            exact upd_same
        · have er : ((List.range wide).filter fun c => decide ((rowAt rs k).1.getD c 0 ≠ 0)) = [] := by
            refine List.filter_eq_nil_iff.mpr fun c hc => ?_
            have := fm.rest k (by omega) kr c (List.mem_range.mp hc)
            simp [List.getD_eq_getElem?_getD, this]
          rw [er] at hC3
          refine ⟨_, rfl, C, _, rfl, hC3, _, _, rfl, rfl, _, rfl, ite2 (fun h => absurd h (by decide)) fun _ => ⟨hl3, _, _, rfl, S23, ?_⟩⟩
          rw [Nat.min_eq_right (show p ≤ k + 1 by omega)]
          rw [Nat.min_eq_right (show p ≤ k by omega)] at hB3
          exact hB3
    · rintro σ' H2 ⟨u, v, rfl, S2, hB2⟩ _
      rw [Nat.min_eq_right (by omega)] at hB2
      exact ⟨_, rfl, q B H2 S2 hB2⟩
def sp_answer_of (K : PySem.W.Frag) : Sp := fun vs H Q _ => ∃ (l b : Addr) (xs : List V) (rs : List Row) (n : Nat), vs = [.ref l, .ref b, .int n] ∧ H l = some (.lst xs) ∧ FRs H xs (rs.map rep) ∧ (∀ r ∈ rs, 0 < r.2 ∧ r.1.length = n + 1) ∧ rs.length = n ∧ n ≤ 20 ∧ H b = some (.lst ((List.range n).map fun i : Nat => V.int i)) ∧
  ∀ a zs H', Same H H' → H a = none → H' a = some (.lst zs) → FL H' zs ((List.range n).map fun i => Ac.lw ((rowAt rs i).1.getD n 0) (rowAt rs i).2) → Q (.ref a) H'
theorem ok_answer_of {f : Addr} {fd : FuncData} (F : Fun K nm_answer_of nm_answer_of s_answer_of f fd) (T : Txt K mg D) : FnOk P w K mg base CX0 1 f fd ps_answer_of (sp_answer_of K) := by
  refine F.ok sc_answer_of (fun vs H Q E h => ?_) (fun cdv A outer s H vs Q E hr h => ?_)
  · obtain ⟨l, b, xs, rs, n, rfl, _⟩ := h
    rfl
  · obtain ⟨l, b, xs, rs, n, rfl, hl, fr, hb, hn, h20, hbl, q⟩ := h
    refine ⟨_, (pss_cons (ps_set (i := 3) sc_answer_of.nd rfl (Or.inl rfl) (pe_op op_rep (pe_lst (pa_cons (pe_globT (by rfl) T.c_NOUGHT) pa_nil)) (pv 2)))
      (pss_cons (ps_for PassesOwn.never rfl (pi_enum (by rfl) T.b_enumerate (pa_cons (pv 1) pa_nil).mono) (pg_tupH (n := 2) rfl (pgs_cons (pg_name (i := 4) sc_answer_of.nd rfl (Or.inl rfl)) (pgs_cons (pg_name (i := 5) sc_answer_of.nd rfl (Or.inl rfl)) pgs_nil)))
        (pss_one (ps_asg (pe_ix ix_listH (pe_ix ix_listH (pv 0) (pv 4) (fun _ _ => rfl)) (pv 2) (fun _ _ => rfl)) (pg_sub (pv 3) (pv 5) set_list))))
      (pss_one (ps_ret (pv 3))))), ?_⟩
    have hx : xs.length = rs.length := by rw [fr.len, List.length_map]
    refine ⟨line1, fun p1 hp1 => ⟨_, rfl, p1, n, _, rfl, rfl, upd_same, by omega, by omega, ?_, fun a ha => seq_of (tFor_enumM ?_)⟩⟩
    · rw [Int.toNat_natCast]
      exact Nat.le_trans (show 1 * n ≤ 64 by omega) (by decide)
    have S0 : Same H (upd H p1 (.lst [.ref D.NOUGHT])) := Same.upd hp1
    have haH : H a = none := S0.free ha
    rw [Int.toNat_natCast]
    have S1 := S0.trans (Same.upd (o := .lst (List.replicate n [V.ref D.NOUGHT]).flatten) ha)
    have c1 : upd (upd H p1 (.lst [.ref D.NOUGHT])) a (.lst (List.replicate n [V.ref D.NOUGHT]).flatten) a = some (.lst (List.replicate n [V.ref D.NOUGHT]).flatten) := upd_same
    generalize upd (upd H p1 (.lst [.ref D.NOUGHT])) a (.lst (List.replicate n [V.ref D.NOUGHT]).flatten) = H1 at S1 c1 ⊢
    refine ⟨_, rfl, b, _, rfl, S1 _ _ hbl, fun k σ H' => ∃ zs u v, σ = [some (.ref l), some (.ref b), some (.int n), some (.ref a), u, v] ∧ Same H H' ∧ H' a = some (.lst zs) ∧ zs.length = n ∧ ∀ j, j < k → ∃ p, zs[j]? = some (V.ref p) ∧ H' p = some (.tup [.int (Ac.lw ((rowAt rs j).1.getD n 0) (rowAt rs j).2).1, .int (Ac.lw ((rowAt rs j).1.getD n 0) (rowAt rs j).2).2]), ⟨_, none, none, rfl, S1, c1, by rw [len_rep]; simp, fun j hj => absurd hj (by omega)⟩, ?_, ?_⟩
    · rintro k x σ' H2 t hk ⟨zs, u, v, rfl, S2, c2, zl, dn⟩ hb2 ht
      have kn : k < n := by
        have := (List.getElem?_eq_some_iff.mp hk).1
        rwa [List.length_map, List.length_range] at this
      rw [List.getElem?_map, List.getElem?_range kn] at hk
      cases hk
      have T3 : Same H2 (upd H2 t (.tup [.int k, .int k])) := Same.upd ht
      have e3 : upd H2 t (.tup [.int k, .int k]) t = some (.tup [.int k, .int k]) := upd_same
      generalize upd H2 t (.tup [.int k, .int k]) = H3 at T3 e3 ⊢
      have S3 := S2.trans T3
      have kr : k < rs.length := by omega
      obtain ⟨la, ya, ea, hla, fa, _⟩ := fr.get (i := k) (by rw [List.length_map]; exact kr)
      rw [fAt_map kr] at fa
      have br := hb _ (rowAt_in kr)
      obtain ⟨vn, hv⟩ : ∃ v, ya[n]? = some v := ⟨_, List.getElem?_eq_getElem (by rw [fa.length]; unfold rep; rw [List.length_map, br.2]; omega)⟩
      obtain ⟨pg, g, rfl, hg, hpg⟩ := fa.get hv
      have et : (rowAt rs k).1[n]? = some ((rowAt rs k).1.getD n 0) := by rw [List.getD_eq_getElem?_getD, List.getElem?_eq_getElem (by rw [br.2]; omega)]; rfl
      have eg : (rep (rowAt rs k))[n]? = some (Ac.lw ((rowAt rs k).1.getD n 0) (rowAt rs k).2) := by
        unfold rep
        rw [List.getElem?_map, et]; rfl
      rw [eg] at hg
      cases hg
      have c3 := T3 _ _ c2
      have na : ∀ c o, H c = some o → c ≠ a := fun c o e => ne_of_none e haH
      have ix : ixN zs.length (k : Int) = some k := by
        unfold ixN
        rw [if_pos (by omega), if_pos (by omega), Int.toNat_natCast]
      refine ⟨t, _, rfl, e3, rfl, _, _, rfl, _, _, rfl, rfl, _, rfl, _, rfl, l, xs, k, _, rfl, rfl, S3 _ _ hl, atI_nat ea, _, rfl, la, ya, n, _, rfl, rfl, S3 _ _ hla, atI_nat hv, _, rfl, _, rfl, a, zs, k, k, rfl, rfl, c3, ix, (upd_ne (na _ _ hbl)).trans (T3 _ _ hb2), _, _, _, rfl, same_upd haH S3, upd_same, by rw [List.length_set]; exact zl, fun j hj => ?_⟩
      by_cases e : j = k
      · subst e
        exact ⟨pg, by rw [List.getElem?_set_self (by omega)], (upd_ne (na _ _ hpg)).trans (S3 _ _ hpg)⟩
      · obtain ⟨pj, x1, x2⟩ := dn j (by omega)
        exact ⟨pj, by rw [List.getElem?_set_ne (fun z => e z.symm)]; exact x1, (upd_ne (ne_of (T3 _ _ x2) c3 (by intro z; cases z))).trans (T3 _ _ x2)⟩
    · rintro σ' H2 ⟨zs, u, v, rfl, S2, c2, zl, dn⟩ _
      rw [List.length_map, List.length_range] at dn
      refine ⟨_, rfl, q a zs H2 S2 haH c2 (FL_of (by rw [zl, List.length_map, List.length_range]) fun j f hf => ?_)⟩
      have jn : j < n := by
        have := (List.getElem?_eq_some_iff.mp hf).1
        rwa [List.length_map, List.length_range] at this
      rw [List.getElem?_map, List.getElem?_range jn] at hf
      cases hf
      exact dn j jn
open Rw
def withR (fss : List (List (Int × Int))) (rts : List (Int × Int)) : List (List (Int × Int)) := List.zipWith (fun fs r => fs ++ [r]) fss rts
def sp_only_answer : Sp := fun vs H Q _ => ∃ (l r : Addr) (xs ys : List V) (fss : List (List (Int × Int))) (rts : List (Int × Int)) (n N : Nat), vs = [.ref l, .ref r] ∧ H l = some (.lst xs) ∧ FRs H xs fss ∧ H r = some (.lst ys) ∧ FL H ys rts ∧ fss.length = n ∧ rts.length = n ∧ 0 < n ∧ n ≤ 20 ∧ (∀ fs ∈ fss, fs.length = n) ∧ (∀ gs ∈ withR fss rts, (∀ f ∈ gs, Fq f) ∧ Big N (lvR gs)) ∧ 1 ≤ N ∧ gr N n ≤ NN ∧
  (∀ y : Nat → Int, KerR ((withR fss rts).map lvR) y → y n = 0 → ∀ j, j < n → y j = 0) ∧
  ∀ a zs H' rsE, Same H H' → H a = none → H' a = some (.lst zs) → rsE.length = n → (∀ r ∈ rsE, Big NN r ∧ r.1.length = n + 1) → KerR ((withR fss rts).map lvR) (solY rsE n) → FL H' zs ((List.range n).map fun i => Ac.lw ((rowAt rsE i).1.getD n 0) (rowAt rsE i).2) → Q (.ref a) H'
theorem ok_only_answer {f : Addr} {fd : FuncData} (F : Fun K nm_only_answer nm_only_answer s_only_answer f fd) (T : Txt K mg D) (G_width_of : OkF P w K mg base 1 nm_width_of ps_width_of sp_width_of) (G_with_rights : OkF P w K mg base 1 nm_with_rights ps_with_rights sp_with_rights) (G_reduced : OkF P w K mg base 7 nm_reduced ps_reduced sp_reduced) (G_begins_of : OkF P w K mg base 1 nm_begins_of ps_begins_of (sp_begins_of K)) (G_odd_row : OkF P w K mg base 1 nm_odd_row ps_odd_row sp_odd_row) (G_answer_of : OkF P w K mg base 1 nm_answer_of ps_answer_of (sp_answer_of K)) : FnOk P w K mg base CX0 8 f fd ps_only_answer sp_only_answer := by
  refine F.ok sc_only_answer (fun vs H Q E h => ?_) (fun cdv A outer s H vs Q E hr h => ?_)
  · obtain ⟨l, r, xs, ys, fss, rts, n, N, rfl, _⟩ := h
    rfl
  · obtain ⟨l, r, xs, ys, fss, rts, n, N, rfl, hl, fr, hr', fl, fn, rn, n0, n20, hw, hg, h1, hN, inj, q⟩ := h
    refine ⟨_, (pss_cons (ps_set (i := 2) sc_only_answer.nd rfl (Or.inl rfl) (pe_callF G_width_of (hr.mono (by decide)) (by rfl) (pa_cons (pv 0) pa_nil)))
      (pss_cons (ps_set (i := 3) sc_only_answer.nd rfl (Or.inl rfl) (pe_ix ix_tupH (pe_callF G_reduced (hr.mono (by decide)) (by rfl) (pa_cons (pe_callF G_with_rights (hr.mono (by decide)) (by rfl) (pa_cons (pv 0) (pa_cons (pv 1) pa_nil))) (pa_cons (pv 2) pa_nil))) pe_int (fun _ _ => rfl)))
      (pss_cons (ps_set (i := 4) sc_only_answer.nd rfl (Or.inl rfl) (pe_callF G_begins_of (hr.mono (by decide)) (by rfl) (pa_cons (pv 3) (pa_cons (pv 2) pa_nil))))
      (pss_cons (ps_if (pw_or (pt_cmpR op_lt (pe_callB call_lenL (by rfl) T.b_len PySem.boot_len (pa_cons (pv 4) pa_nil)) (pv 2) (nomark _)) (pw_or1 (pt_cmpR op_notN (pe_callF G_odd_row (hr.mono (by decide)) (by rfl) (pa_cons (pv 3) (pa_cons (pv 4) (pa_cons (pv 2) pa_nil)))) pe_non (nomark _)))).pt
        (pss_one (ps_ret pe_non))
        pss_nil)
      (pss_one (ps_ret (pe_callF G_answer_of (hr.mono (by decide)) (by rfl) (pa_cons (pv 3) (pa_cons (pv 4) (pa_cons (pv 2) pa_nil)))))))))), ?_⟩
    have gl : (withR fss rts).length = n := by unfold withR; rw [List.length_zipWith]; omega
    have gw : ∀ gs ∈ withR fss rts, gs.length = n + 1 := fun gs h => by
      unfold withR at h
      obtain ⟨k, hk, rfl⟩ := List.mem_iff_getElem.mp h
      rw [List.getElem_zipWith, List.length_append, hw _ (List.getElem_mem _)]; rfl
    refine ⟨_, rfl, l, xs, fss, n, rfl, hl, fr, hw, by omega, _, rfl, _, rfl, l, r, xs, ys, fss, rts, rfl, hl, fr, hr', fl, by omega, by omega, fun fs h => by rw [hw fs h]; omega, fun p1 z1 H1 S1 c1 f1 => ⟨_, rfl, p1, z1, withR fss rts, n, n + 1, N, rfl, c1, f1, fun gs h => ⟨gw gs h, hg gs h⟩, h1, by rw [gl]; exact hN, by omega, by omega, by omega, fun t ls p ys' zs' H2 new pl piv td => ⟨t, _, 1, _, rfl, rfl, td.tup, atI_1, ?_⟩⟩⟩
    have tall := td.all new.length
    rw [List.take_length] at tall
    have el := td.len
    have fm := td.form
    have pln := td.pln
    rw [gl] at el pln
    have ker : ∀ y, KerR (runR ((withR fss rts).map lvR) new) y → KerR ((withR fss rts).map lvR) y := fun y k => run_ker td.all (fun s hs => by rw [List.length_map]; exact td.good s hs) k
    have tfr := td.fr
    generalize runR ((withR fss rts).map lvR) new = rsE at *
    have bnd : ∀ r ∈ rsE, 0 < r.2 ∧ r.1.length = n + 1 := fun r hr => ⟨(tall r hr).1.pos, (tall r hr).2⟩
    have ep : pl = n := by
      by_cases e : pl = n
      · exact e
      · obtain ⟨y, c, hc, yc, yn, ky⟩ := free_ker fm (by omega) (by omega) bnd
        exact absurd (inj y (ker y ky) yn c hc) yc
    subst ep
    have S2 := S1.trans td.same
    refine ⟨_, rfl, _, rfl, p, zs', rsE, pl, pl + 1, pl, piv, rfl, td.hp, tfr, bnd, by omega, by omega, by omega, fm, by omega, fun b H3 S3 hb => ?_⟩
    have idp := piv_id fm.ord fun i hi => (fm.head i hi).1
    have eb : ((List.range pl).map fun i => V.int (piv i)) = (List.range pl).map fun i : Nat => V.int i := List.map_congr_left fun i hi => by rw [idp i (List.mem_range.mp hi)]
    rw [eb] at hb
    have bl : ((List.range pl).map fun i : Nat => V.int i).length = pl := by rw [List.length_map, List.length_range]
    have zl : zs'.length = pl := by rw [tfr.len, List.length_map]; exact el
    refine ⟨_, rfl, b, _, rfl, hb, _, rfl, _, _, rfl, rfl, _, rfl, ite2 (fun h => absurd (of_decide_eq_true h) (by rw [bl]; omega)) fun _ => ⟨_, rfl, _, rfl, _, rfl, p, b, zs', _, pl, rfl, S3 _ _ td.hp, hb, by rw [bl, zl], by omega, rfl, _, rfl, ite2 (fun h => absurd h (by decide)) fun _ => ?_⟩⟩
    exact ⟨_, rfl, _, rfl, _, rfl, p, b, zs', rsE, pl, rfl, S3 _ _ td.hp, tfr.same S3, bnd, el, n20, hb, fun a zz H4 S4 ha c4 f4 => q a zz H4 rsE (S2.trans (S3.trans S4)) (S2.free (S3.free ha)) c4 el tall (ker _ (sol_ker fm el bnd)) f4⟩
open Rw
theorem prF_snoc : ∀ {as bs : List (Int × Int)} {a b z : Int × Int}, as.length = bs.length → prF (as ++ [a]) (bs ++ [b]) z = ((prF as bs z).1 * a.2 * b.2 + a.1 * b.1 * (prF as bs z).2, (prF as bs z).2 * a.2 * b.2)
  | [], [], _, _, _, _ => rfl
  | x :: as, y :: bs, a, b, z, h => by
    show prF (as ++ [a]) (bs ++ [b]) _ = _
    rw [prF_snoc (by simpa using h)]; rfl
def ZB : Nat := (2 * (NN * NN)) ^ 8
theorem bmZ {i : Int} (h : i.natAbs ≤ ZB * (NN * NN)) : Bm i := Nat.lt_of_le_of_lt h (by decide +kernel)
theorem zb1 : ZB ≤ ZB * (NN * NN) := by decide +kernel
theorem zb2 : NN * NN ≤ ZB * (NN * NN) := by decide +kernel
theorem zb3 : NN ≤ ZB * (NN * NN) := by decide +kernel
theorem zb4 : ZB * NN ≤ ZB * (NN * NN) := by decide +kernel
def Sz (fs : List (Int × Int)) : Prop := ∀ f ∈ fs, 0 < f.2 ∧ f.1.natAbs ≤ NN ∧ f.2.natAbs ≤ NN
theorem prF_zb {as bs : List (Int × Int)} (ha : Sz as) (hb : Sz bs) (h8 : as.length ≤ 8) : (prF as bs (0, 1)).1.natAbs ≤ ZB ∧ (prF as bs (0, 1)).2.natAbs ≤ ZB := by
  obtain ⟨h1, h2⟩ := prF_size (as := as) (bs := bs) (z := (0, 1)) (B := 1) (M := NN) (fun a h => (ha a h).2) (fun b h => (hb b h).2) (by decide) (by decide) (by decide +kernel)
  have : (2 * (NN * NN)) ^ as.length ≤ ZB := Nat.pow_le_pow_right (by decide +kernel) h8
  rw [Nat.one_mul] at h1 h2
  exact ⟨Nat.le_trans h1 this, Nat.le_trans h2 this⟩
def sp_products : Sp := fun vs H Q _ => ∃ (l1 l2 : Addr) (xs ys : List V) (as bs : List (Int × Int)), vs = [.ref l1, .ref l2] ∧ H l1 = some (.lst xs) ∧ FL H xs as ∧ H l2 = some (.lst ys) ∧ FL H ys bs ∧ as.length = bs.length ∧ as.length ≤ 8 ∧ Sz as ∧ Sz bs ∧
  ∀ p H', Same H H' → H p = none → H' p = some (.tup [.int (prF as bs (0, 1)).1, .int (prF as bs (0, 1)).2]) → Q (.ref p) H'
theorem ok_products {f : Addr} {fd : FuncData} (F : Fun K nm_products nm_products s_products f fd) (T : Txt K mg D) : FnOk P w K mg base CX0 1 f fd ps_products sp_products := by
  refine F.ok sc_products (fun vs H Q E h => ?_) (fun cdv A outer s H vs Q E hr h => ?_)
  · obtain ⟨l1, l2, xs, ys, as, bs, rfl, _⟩ := h
    rfl
  · obtain ⟨l1, l2, xs, ys, as, bs, rfl, h1, f1, h2, f2, hlen, h8, sa, sb, q⟩ := h
    refine ⟨_, (pss_cons (ps_set (i := 2) sc_products.nd rfl (Or.inl rfl) pe_int)
      (pss_cons (ps_set (i := 3) sc_products.nd rfl (Or.inl rfl) pe_int)
      (pss_cons (ps_for PassesOwn.never rfl (pi_zip (by rfl) T.b_zip (pa_cons (pv 0) (pa_cons (pv 1) pa_nil)).mono) (pg_tupH (n := 2) rfl (pgs_cons (pg_name (i := 4) sc_products.nd rfl (Or.inl rfl)) (pgs_cons (pg_name (i := 5) sc_products.nd rfl (Or.inl rfl)) pgs_nil)))
        (pss_cons (ps_set (i := 2) sc_products.nd rfl (Or.inl rfl) (pe_op op_add (pe_op op_mulM (pe_op op_mulM (pv 2) (pe_ix ix_tupH (pv 4) pe_int (fun _ _ => rfl))) (pe_ix ix_tupH (pv 5) pe_int (fun _ _ => rfl))) (pe_op op_mulM (pe_op op_mulM (pe_ix ix_tupH (pv 4) pe_int (fun _ _ => rfl)) (pe_ix ix_tupH (pv 5) pe_int (fun _ _ => rfl))) (pv 3))))
        (pss_one (ps_set (i := 3) sc_products.nd rfl (Or.inl rfl) (pe_op op_mulM (pe_op op_mulM (pv 3) (pe_ix ix_tupH (pv 4) pe_int (fun _ _ => rfl))) (pe_ix ix_tupH (pv 5) pe_int (fun _ _ => rfl)))))))
      (pss_one (ps_ret (pe_tup (pa_cons (pv 2) (pa_cons (pv 3) pa_nil)))))))), ?_⟩
    have x1 := f1.length
    have x2 := f2.length
    refine seq_of (tFor_zipM ?_)
    refine ⟨_, rfl, _, rfl, l1, l2, xs, ys, rfl, h1, h2, by omega, fun k σ H' => ∃ u v, σ = [some (.ref l1), some (.ref l2), some (.int (prF (as.take k) (bs.take k) (0, 1)).1), some (.int (prF (as.take k) (bs.take k) (0, 1)).2), u, v] ∧ Same H H', ⟨none, none, rfl, Same.refl _⟩, ?_, ?_⟩
    · rintro k x y σ' H2 t hx hy ⟨u, v, rfl, S2⟩ c1 c2 ht
      obtain ⟨pa, a, rfl, ea, ha⟩ := f1.get hx
      obtain ⟨pb, b, rfl, eb, hb⟩ := f2.get hy
      have T3 : Same H2 (upd H2 t (.tup [.ref pa, .ref pb])) := Same.upd ht
      have e3 : upd H2 t (.tup [.ref pa, .ref pb]) t = some (.tup [.ref pa, .ref pb]) := upd_same
      generalize upd H2 t (.tup [.ref pa, .ref pb]) = H3 at T3 e3 ⊢
      have S3 := S2.trans T3
      have pa3 := S3 _ _ ha
      have pb3 := S3 _ _ hb
      have ka : k < as.length := (List.getElem?_eq_some_iff.mp ea).1
      have kb : k < bs.length := (List.getElem?_eq_some_iff.mp eb).1
      obtain ⟨z1, z2⟩ := prF_zb (as := as.take k) (bs := bs.take k) (fun f h => sa f (List.mem_of_mem_take h)) (fun f h => sb f (List.mem_of_mem_take h)) (by rw [List.length_take]; omega)
      have en : prF (as.take (k + 1)) (bs.take (k + 1)) (0, 1) = ((prF (as.take k) (bs.take k) (0, 1)).1 * a.2 * b.2 + a.1 * b.1 * (prF (as.take k) (bs.take k) (0, 1)).2, (prF (as.take k) (bs.take k) (0, 1)).2 * a.2 * b.2) := by
        rw [take_next ea, take_next eb]
        exact prF_snoc (by rw [List.length_take, List.length_take]; omega)
      obtain ⟨_, a1, a2⟩ := sa a (List.mem_of_getElem? ea)
      obtain ⟨_, b1, b2⟩ := sb b (List.mem_of_getElem? eb)
      generalize prF (as.take k) (bs.take k) (0, 1) = z at *
      have m1 : Bm (z.1 * a.2) := bmZ (Nat.le_trans (mul_le z1 a2) zb4)
      have m2 : Bm (z.2 * a.2) := bmZ (Nat.le_trans (mul_le z2 a2) zb4)
      have m3 : Bm (a.1 * b.1) := bmZ (Nat.le_trans (mul_le a1 b1) zb2)
      have n : ∀ {i : Int}, i.natAbs ≤ NN → Bm i := fun h => bmZ (Nat.le_trans h zb3)
      have nz : ∀ {i : Int}, i.natAbs ≤ ZB → Bm i := fun h => bmZ (Nat.le_trans h zb1)
      refine ⟨t, _, rfl, e3, rfl, _, _, rfl, _, _, rfl, rfl, _, rfl, _, rfl, pa, _, 1, _, rfl, rfl, pa3, atI_1, _, _, rfl, rfl, ⟨nz z1, n a2⟩, _, rfl, pb, _, 1, _, rfl, rfl, pb3, atI_1, _, _, rfl, rfl, ⟨m1, n b2⟩, _, rfl, pa, _, 0, _, rfl, rfl, pa3, atI_0, _, rfl, pb, _, 0, _, rfl, rfl, pb3, atI_0, _, _, rfl, rfl, ⟨n a1, n b1⟩, _, rfl, _, _, rfl, rfl, ⟨m3, nz z2⟩, _, _, rfl, rfl, ?_⟩
      refine ⟨_, rfl, _, rfl, pa, _, 1, _, rfl, rfl, pa3, atI_1, _, _, rfl, rfl, ⟨nz z2, n a2⟩, _, rfl, pb, _, 1, _, rfl, rfl, pb3, atI_1, _, _, rfl, rfl, ⟨m2, n b2⟩, T3 _ _ c1, T3 _ _ c2, some (.ref pa), some (.ref pb), ?_, S3⟩
      rw [en]; rfl
    · rintro σ' H2 ⟨u, v, rfl, S2⟩ _ _
      rw [x1, List.take_length, hlen, List.take_length]
      exact ⟨_, rfl, _, rfl, line2, fun p hp => q p _ (S2.trans (Same.upd hp)) (S2.free hp) upd_same⟩
def sp_comes : Sp := fun vs H Q _ => ∃ (l1 l2 d : Addr) (xs ys : List V) (as bs : List (Int × Int)) (df : Int × Int), vs = [.ref l1, .ref l2, .ref d] ∧ H l1 = some (.lst xs) ∧ FL H xs as ∧ H l2 = some (.lst ys) ∧ FL H ys bs ∧ as.length = bs.length ∧ as.length ≤ 8 ∧ Sz as ∧ Sz bs ∧ H d = some (.tup [.int df.1, .int df.2]) ∧ df.1.natAbs ≤ NN ∧ df.2.natAbs ≤ NN ∧
  ∀ H', Same H H' → Q (.bl (decide ((prF as bs (0, 1)).1 * df.2 = df.1 * (prF as bs (0, 1)).2))) H'
theorem ok_comes {f : Addr} {fd : FuncData} (F : Fun K nm_comes nm_comes s_comes f fd) (T : Txt K mg D) (G_products : OkF P w K mg base 1 nm_products ps_products sp_products) : FnOk P w K mg base CX0 2 f fd ps_comes sp_comes := by
  refine F.ok sc_comes (fun vs H Q E h => ?_) (fun cdv A outer s H vs Q E hr h => ?_)
  · obtain ⟨l1, l2, d, xs, ys, as, bs, df, rfl, _⟩ := h
    rfl
  · obtain ⟨l1, l2, d, xs, ys, as, bs, df, rfl, h1, f1, h2, f2, hlen, h8, sa, sb, hd, d1, d2, q⟩ := h
    refine ⟨_, (pss_cons (ps_asg (pe_callF G_products (hr.mono (by decide)) (by rfl) (pa_cons (pv 0) (pa_cons (pv 1) pa_nil))) (pg_tupH (n := 2) rfl (pgs_cons (pg_name (i := 3) sc_comes.nd rfl (Or.inl rfl)) (pgs_cons (pg_name (i := 4) sc_comes.nd rfl (Or.inl rfl)) pgs_nil))))
      (pss_one (ps_ret (pe_cmpR op_eq (pe_op op_mulM (pv 3) (pe_ix ix_tupH (pv 2) pe_int (fun _ _ => rfl))) (pe_op op_mulM (pe_ix ix_tupH (pv 2) pe_int (fun _ _ => rfl)) (pv 4)) (nomark _))))), ?_⟩
    obtain ⟨z1, z2⟩ := prF_zb sa sb h8
    have n : ∀ {i : Int}, i.natAbs ≤ NN → Bm i := fun h => bmZ (Nat.le_trans h zb3)
    have nz : ∀ {i : Int}, i.natAbs ≤ ZB → Bm i := fun h => bmZ (Nat.le_trans h zb1)
    refine ⟨_, rfl, _, rfl, l1, l2, xs, ys, as, bs, rfl, h1, f1, h2, f2, hlen, h8, sa, sb, fun p H1 S1 hp c1 => ⟨p, _, rfl, c1, rfl, _, _, rfl, _, _, rfl, rfl, _, rfl, _, rfl, d, _, 1, _, rfl, rfl, S1 _ _ hd, atI_1, _, _, rfl, rfl, ⟨nz z1, n d2⟩, _, rfl, d, _, 0, _, rfl, rfl, S1 _ _ hd, atI_0, _, rfl, _, _, rfl, rfl, ⟨n d1, nz z2⟩, rfl, ?_⟩⟩
    have := q H1 S1
    have e : decide (V.int ((prF as bs (0, 1)).1 * df.2) = V.int (df.1 * (prF as bs (0, 1)).2)) = decide ((prF as bs (0, 1)).1 * df.2 = df.1 * (prF as bs (0, 1)).2) := by
      by_cases z : (prF as bs (0, 1)).1 * df.2 = df.1 * (prF as bs (0, 1)).2
      · rw [z, decide_eq_true rfl, decide_eq_true rfl]
      · rw [decide_eq_false z, decide_eq_false fun y => z (V.int.inj y)]
    rw [← e] at this
    exact this
open Rw
def t60 (f : Int × Int) : Int := f.1 * (60 / f.2)
structure Md (f : Int × Int) : Prop where
  pos : 0 < f.2
  gcd : Int.gcd f.1 f.2 = 1
  d60 : f.2 ∣ 60
  sz : (t60 f).natAbs ≤ 3780
theorem t60_eq {f : Int × Int} (h : 0 < f.2) (d : f.2 ∣ 60) : t60 f * f.2 = 60 * f.1 := by
  unfold t60
  rw [Int.mul_assoc, Int.ediv_mul_cancel d, Int.mul_comm]
theorem sf_t60 {f : Int × Int} (h : Sf f) : (t60 f).natAbs ≤ 540 := by
  have h1 := h.lo
  have h2 := h.hi
  unfold t60
  rw [Int.natAbs_mul]
  exact Nat.le_trans (Nat.mul_le_mul (show f.1.natAbs ≤ 9 by omega) (Int.natAbs_ediv_le_natAbs 60 f.2)) (by decide)
theorem sf_md {f : Int × Int} (h : Sf f) : Md f := ⟨h.pos, h.gcd, h.d60, Nat.le_trans (sf_t60 h) (by decide)⟩
theorem sumAbs_set : ∀ {us : List Int} {k : Nat} {t : Int}, us[k]? = some 0 → sumAbs (us.set k t) = t.natAbs + sumAbs us
  | [], _, _, h => by simp at h
  | u :: us, 0, t, h => by
    simp at h
    subst h
    show t.natAbs + sumAbs us = t.natAbs + (0 + sumAbs us)
    omega
  | u :: us, k + 1, t, h => by
    show u.natAbs + sumAbs (us.set k t) = t.natAbs + (u.natAbs + sumAbs us)
    rw [sumAbs_set (by simpa using h)]
    omega
theorem sumAbs_le {B : Nat} : ∀ {us : List Int}, (∀ u ∈ us, u.natAbs ≤ B) → sumAbs us ≤ us.length * B
  | [], _ => Nat.zero_le _
  | u :: us, h => by
    show u.natAbs + sumAbs us ≤ (us.length + 1) * B
    have := sumAbs_le (us := us) fun x hx => h x (List.mem_cons_of_mem _ hx)
    have := h u List.mem_cons_self
    rw [Nat.succ_mul]
    omega
def absF (f : Int × Int) : Int × Int := (f.1.natAbs, f.2)
theorem dot_ones {y : Nat → Int} (hy : ∀ j, y j = 1) : ∀ {fs : List (Int × Int)}, (∀ f ∈ fs, 0 < f.2) → dotF (fs.map fun f => t60 (absF f)) y = (sumAbs (fs.map t60) : Nat)
  | [], _ => rfl
  | f :: fs, h => by
    show t60 (absF f) * y 0 + dotF (fs.map fun f => t60 (absF f)) (fun i => y (i + 1)) = (((t60 f).natAbs + sumAbs (fs.map t60) : Nat) : Int)
    rw [hy 0, dot_ones (y := fun i => y (i + 1)) (fun j => hy (j + 1)) fun g hg => h g (List.mem_cons_of_mem _ hg), Int.mul_one, Int.natCast_add]
    congr 1
    have p : 0 ≤ 60 / f.2 := Int.ediv_nonneg (by decide) (Int.le_of_lt (h f List.mem_cons_self))
    show ((f.1.natAbs : Nat) : Int) * (60 / f.2) = ((f.1 * (60 / f.2)).natAbs : Nat)
    rw [Int.natAbs_mul, Int.natCast_mul, Int.natAbs_of_nonneg p]
theorem heavy_sum {fs : List (Int × Int)} {w : Int × Int} (hf : ∀ f ∈ fs, Sf f) (w0 : 0 < w.2) (wd : w.2 ∣ 60) :
    (prF (fs.map absF ++ [w]) (List.replicate (fs.length + 1) (1, 1)) (0, 1)).1 * 60 = (prF (fs.map absF ++ [w]) (List.replicate (fs.length + 1) (1, 1)) (0, 1)).2 * ((sumAbs (fs.map t60) : Nat) + t60 w) ∧ 0 < (prF (fs.map absF ++ [w]) (List.replicate (fs.length + 1) (1, 1)) (0, 1)).2 := by
  have pa : ∀ a ∈ fs.map absF ++ [w], 0 < a.2 ∧ a.2 ∣ 60 := fun a ha => by
    rcases List.mem_append.mp ha with h | h
    · obtain ⟨f, hff, rfl⟩ := List.mem_map.mp h
      exact ⟨(hf f hff).pos, (hf f hff).d60⟩
    · rw [List.mem_singleton.mp h]; exact ⟨w0, wd⟩
  have pb : ∀ b ∈ List.replicate (fs.length + 1) ((1, 1) : Int × Int), 0 < b.2 := fun b hb => by rw [List.eq_of_mem_replicate hb]; decide
  have ll : (fs.map absF ++ [w]).length = fs.length + 1 := by rw [List.length_append, List.length_map]; rfl
  have v := prF_val (S := 60) (as := fs.map absF ++ [w]) (bs := List.replicate (fs.length + 1) (1, 1)) (us := (fs.map absF ++ [w]).map t60) (y := fun _ => 1) (z := (0, 1)) (by rw [ll, List.length_replicate]) (by rw [List.length_map]) (fun j a b u ea eb eu => by
    have eb' := List.eq_of_mem_replicate (List.mem_of_getElem? eb)
    rw [eb']
    rw [List.getElem?_map, ea] at eu
    cases eu
    obtain ⟨x, y⟩ := pa a (List.mem_of_getElem? ea)
    show t60 a * 1 * (a.2 * 1) = 60 * (a.1 * 1)
    rw [Int.mul_one, Int.mul_one, Int.mul_one]
    exact t60_eq x y) (fun a ha => (pa a ha).1) pb
  refine ⟨?_, prF_pos (fun a ha => (pa a ha).1) pb (by decide)⟩
  have e : dotF ((fs.map absF ++ [w]).map t60) (fun _ => 1) = (sumAbs (fs.map t60) : Nat) + t60 w := by
    rw [List.map_append]
    show dotF ((fs.map absF).map t60 ++ [t60 w]) _ = _
    rw [dot_last, List.map_map, Int.mul_one]
    congr 1
    exact dot_ones (fun _ => rfl) fun f h => (hf f h).pos
  rw [e] at v
  have v : (prF (fs.map absF ++ [w]) (List.replicate (fs.length + 1) (1, 1)) (0, 1)).1 * 1 * 60 = (prF (fs.map absF ++ [w]) (List.replicate (fs.length + 1) (1, 1)) (0, 1)).2 * (0 * 60 + 1 * ((sumAbs (fs.map t60) : Nat) + t60 w)) := v
  rw [Int.mul_one, Int.zero_mul, Int.zero_add, Int.one_mul] at v
  exact v
theorem heavy_lw19 {top bot W : Int} (hb : 0 < bot) (e : top * 60 = bot * W) {s : Int} (hs : s = 1 ∨ s = -1) : 0 < (Ac.lw (s * top) bot).2 ∧ Int.gcd (Ac.lw (s * top) bot).1 (Ac.lw (s * top) bot).2 = 1 ∧ (Ac.lw (s * top) bot).2 ∣ 60 ∧ t60 (Ac.lw (s * top) bot) = s * W := by
  have lp := Ac.lw_pos (t := s * top) hb
  have lg := Ac.lw_gcd (t := s * top) hb
  have le := Ac.lw_eq (t := s * top) hb
  generalize Ac.lw (s * top) bot = h at *
  have k : 60 * h.1 = s * W * h.2 := by
    refine Int.eq_of_mul_eq_mul_right (Int.ne_of_gt hb) ?_
    calc 60 * h.1 * bot = 60 * (h.1 * bot) := by ac_rfl
      _ = 60 * (s * top * h.2) := by rw [le]
      _ = s * (top * 60) * h.2 := by ac_rfl
      _ = s * (bot * W) * h.2 := by rw [e]
      _ = s * W * h.2 * bot := by ac_rfl
  have d : h.2 ∣ 60 := by
    have k := Int.natAbs_dvd_natAbs.mpr (show h.2 ∣ 60 * h.1 from ⟨s * W, by rw [k, Int.mul_comm]⟩)
    rw [Int.natAbs_mul] at k
    have c : Nat.Coprime h.2.natAbs h.1.natAbs := by
      show Nat.gcd h.2.natAbs h.1.natAbs = 1
      rw [Nat.gcd_comm]; exact lg
    exact Int.natAbs_dvd_natAbs.mp (c.dvd_of_dvd_mul_right k)
  refine ⟨lp, lg, d, ?_⟩
  refine Int.eq_of_mul_eq_mul_right (Int.ne_of_gt lp) ?_
  rw [t60_eq lp d, k]
structure HvR (fs : List (Int × Int)) (k : Nat) (w : Int × Int) : Prop where
  md : ∀ f ∈ fs, Md f
  hv : ∃ h, fs[k]? = some h ∧ 2 * ((t60 h).natAbs : Int) = (sumAbs (fs.map t60) : Nat) + t60 w
open Rw
theorem op_of {r : R2} {ta tb : TE} {σ : L2.St} {H : Hp} {Q : VK} (h : ta σ H fun x H1 => tb σ H1 fun y H2 => r x y H2 Q) : tOp r ta tb σ H Q := h
theorem cons1_of {te : TE} {σ : L2.St} {H : Hp} {Q : List V → Hp → Prop} (h : te σ H fun x H1 => Q [x] H1) : tCons te tNil σ H Q := h
def jHv (D2 : Addr) (H : Hp) (k : Nat) (ys : List V) (Hc : Hp) : Prop := Same H Hc ∧ Hc D2 = some (.lst ys) ∧ ∃ fs : List (Int × Int), FL Hc ys fs ∧ fs.length = k ∧ ∀ f ∈ fs, Sf f
def sp_heavy : Sp := fun vs H Q _ => ∃ (l wp : Addr) (ns : List Int) (k : Nat) (wt : Int × Int) (b : Bool), vs = [.ref l, .int k, .ref wp, .bl b] ∧ H l = some (.lst (ns.map V.int)) ∧ (∀ x ∈ ns, 0 ≤ x) ∧ k < ns.length ∧ ns.length ≤ 6 ∧ H wp = some (.tup [.int wt.1, .int wt.2]) ∧ 0 < wt.1 ∧ wt.1 ≤ 9 ∧ 0 < wt.2 ∧ wt.2 ∣ 60 ∧
  ∀ p zs H' fs, Same H H' → H p = none → H' p = some (.lst zs) → FL H' zs fs → fs.length = ns.length → HvR fs k wt → Q (.ref p) H'
theorem ok_heavy {f : Addr} {fd : FuncData} (F : Fun K nm_heavy nm_heavy s_heavy f fd) (T : Txt K mg D) (G_fraction : OkF P w K mg base 3 nm_fraction ps_fraction sp_fraction14) (G_products : OkF P w K mg base 1 nm_products ps_products sp_products) (G_lratio : OkF P w K mg base 2 nm_lratio ps_lratio sp_lratio) : FnOk P w K mg base CX0 4 f fd ps_heavy sp_heavy := by
  refine F.ok sc_heavy (fun vs H Q E h => ?_) (fun cdv A outer s H vs Q E hr h => ?_)
  · obtain ⟨l, wp, ns, k, wt, b, rfl, _⟩ := h
    rfl
  · obtain ⟨l, wp, ns, k, wt, b, rfl, hl, hns, kn, n6, hw, w1, w9, w2, wd, q⟩ := h
    refine ⟨_, (pss_cons (ps_compGF (defScope s_heavy) ["_law_numbers", "_law_at", "_law_weight", "_law_below", "_law_row", "_law_some", "_law_top", "_law_bottom"] ["_law_numbers", "_law_at", "_law_weight", "_law_below", "_law_row", "_law_some", "_law_top", "_law_bottom"] ["_law_number"] rfl rfl rfl (by decide +kernel) (by decide +kernel) rfl (by decide +kernel) (by decide +kernel) (by decide +kernel) (by decide +kernel) (by decide +kernel) (pi_list ((pv 0)).mono) (fun _ _ _ _ _ => (pg_name (i := 0) (show List.Nodup (["_law_number", "_law_numbers", "_law_at", "_law_weight", "_law_below", "_law_row", "_law_some", "_law_top", "_law_bottom"] : List Str) from by decide +kernel) rfl (Or.inl rfl) (Or.inr rfl))) (fun _ _ _ _ _ => pts_nil) (fun _ _ _ _ _ => (pe_callF G_fraction (hr.mono (by decide)) (by rfl) (pa_cons (pv 0) pa_nil))) (pg_name (i := 4) sc_heavy.nd rfl (Or.inl rfl)))
      (pss_cons (ps_asg (pe_tup (pa_cons pe_int (pa_cons pe_int pa_nil))) (pg_sub (pv 4) (pv 1) set_list))
      (pss_cons (ps_set (i := 5) sc_heavy.nd rfl (Or.inl rfl) (pe_op op_cat (pe_compGF (defScope s_heavy) ["_law_numbers", "_law_at", "_law_weight", "_law_below", "_law_row", "_law_some", "_law_top", "_law_bottom"] ["_law_numbers", "_law_at", "_law_weight", "_law_below", "_law_row", "_law_some", "_law_top", "_law_bottom"] ["_law_one"] rfl rfl rfl (by decide +kernel) (by decide +kernel) rfl (by decide +kernel) (by decide +kernel) (by decide +kernel) (by decide +kernel) (by decide +kernel) (pi_list ((pv 4)).mono) (fun _ _ _ _ _ => (pg_name (i := 0) (show List.Nodup (["_law_one", "_law_numbers", "_law_at", "_law_weight", "_law_below", "_law_row", "_law_some", "_law_top", "_law_bottom"] : List Str) from by decide +kernel) rfl (Or.inl rfl) (Or.inr rfl))) (fun _ _ _ _ _ => pts_nil) (fun _ _ _ _ _ => (pe_tup (pa_cons (pe_callB call_abs (by rfl) T.b_abs boot_abs (pa_cons (pe_ix ix_tupH (pv 0) pe_int (fun _ _ => rfl)) pa_nil)) (pa_cons (pe_ix ix_tupH (pv 0) pe_int (fun _ _ => rfl)) pa_nil))))) (pe_lst (pa_cons (pv 2) pa_nil))))
      (pss_cons (ps_asg (pe_callF G_products (hr.mono (by decide)) (by rfl) (pa_cons (pv 5) (pa_cons (pe_compGF (defScope s_heavy) ["_law_numbers", "_law_at", "_law_weight", "_law_below", "_law_row", "_law_some", "_law_top", "_law_bottom"] ["_law_numbers", "_law_at", "_law_weight", "_law_below", "_law_row", "_law_some", "_law_top", "_law_bottom"] ["_law_one"] rfl rfl rfl (by decide +kernel) (by decide +kernel) rfl (by decide +kernel) (by decide +kernel) (by decide +kernel) (by decide +kernel) (by decide +kernel) (pi_list ((pv 5)).mono) (fun _ _ _ _ _ => (pg_name (i := 0) (show List.Nodup (["_law_one", "_law_numbers", "_law_at", "_law_weight", "_law_below", "_law_row", "_law_some", "_law_top", "_law_bottom"] : List Str) from by decide +kernel) rfl (Or.inl rfl) (Or.inr rfl))) (fun _ _ _ _ _ => pts_nil) (fun _ _ _ _ _ => (pe_tup (pa_cons pe_int (pa_cons pe_int pa_nil))))) pa_nil))) (pg_tupH (n := 2) rfl (pgs_cons (pg_name (i := 6) sc_heavy.nd rfl (Or.inl rfl)) (pgs_cons (pg_name (i := 7) sc_heavy.nd rfl (Or.inl rfl)) pgs_nil))))
      (pss_cons (ps_if (pt_tru (pv 3) (fun _ => rfl))
        (pss_one (ps_set (i := 6) sc_heavy.nd rfl (Or.inl rfl) (pe_op op_sub pe_int (pv 6))))
        pss_nil)
      (pss_cons (ps_asg (pe_callF G_lratio (hr.mono (by decide)) (by rfl) (pa_cons (pv 6) (pa_cons (pv 7) pa_nil))) (pg_sub (pv 4) (pv 1) set_list))
      (pss_one (ps_ret (pv 4))))))))), ?_⟩
    refine seq_asg (tCompG1_list ?_)
    refine ⟨_, rfl, l, _, rfl, hl, by rw [List.length_map]; exact Nat.le_trans n6 (by decide), fun D1 hD => ⟨jHv D1 H, ⟨Same.upd hD, upd_same, [], .nil, rfl, by simp⟩, ?_, ?_⟩⟩
    · rintro m x ys Hc hm ⟨T2, c2, fs, fl, ln, sf⟩ _ hlc
      rw [List.getElem?_map] at hm
      cases em : ns[m]? with
      | none => rw [em] at hm; cases hm
      | some t =>
        rw [em] at hm
        cases hm
        refine ⟨_, rfl, t, rfl, hns t (List.mem_of_getElem? em), fun p f0 hp sf0 => ?_⟩
        have T3 : Same Hc (upd Hc p (.tup [.int f0.1, .int f0.2])) := Same.upd hp
        have e1 : upd Hc p (.tup [.int f0.1, .int f0.2]) p = some (.tup [.int f0.1, .int f0.2]) := upd_same
        generalize upd Hc p (.tup [.int f0.1, .int f0.2]) = H3 at T3 e1 ⊢
        refine ⟨T3 _ _ c2, T3 _ _ hlc, same_upd hD (T2.trans T3), upd_same, fs ++ [f0], ((fl.same T3).updL (T3 _ _ c2)).append (.cons ((upd_ne (ne_of e1 (T3 _ _ c2) (by intro z; cases z))).trans e1) .nil), by rw [List.length_append, ln]; rfl, fun f hf => ?_⟩
        rcases List.mem_append.mp hf with y | y
        · exact sf f y
        · rw [List.mem_singleton.mp y]; exact sf0
    rintro ys H1 ⟨S1, c1, fs, fl, ln, sf⟩ _
    rw [List.length_map] at ln
    have yl := fl.length
    have ixk : ∀ zs : List V, zs.length = ns.length → ixN zs.length (k : Int) = some k := fun zs e => by
      unfold ixN
      rw [if_pos (by omega), if_pos (by omega), Int.toNat_natCast]
    refine ⟨line2, fun p2 hp2 => ⟨_, rfl, _, rfl, D1, ys, k, k, rfl, rfl, (upd_ne (ne_of_none c1 hp2)).trans c1, ixk ys (by omega), ?_⟩⟩
    have T2 : Same H1 (upd H1 p2 (.tup [.int 0, .int 1])) := Same.upd hp2
    have e2 : upd H1 p2 (.tup [.int 0, .int 1]) p2 = some (.tup [.int 0, .int 1]) := upd_same
    generalize upd H1 p2 (.tup [.int 0, .int 1]) = H2' at T2 e2 ⊢
    have fl2 : FL (upd H2' D1 (.lst (ys.set k (.ref p2)))) (ys.set k (.ref p2)) (fs.set k (0, 1)) := (FL.set (f := (0, 1)) e2 k (fl.same T2)).updL (T2 _ _ c1)
    have S2 : Same H (upd H2' D1 (.lst (ys.set k (.ref p2)))) := same_upd hD (S1.trans T2)
    have c2 : upd H2' D1 (.lst (ys.set k (.ref p2))) D1 = some (.lst (ys.set k (.ref p2))) := upd_same
    have y2l : (ys.set k (.ref p2)).length = ns.length := by rw [List.length_set]; omega
    have f2l : (fs.set k (0, 1)).length = ns.length := by rw [List.length_set]; omega
    have f2k : (fs.set k ((0, 1) : Int × Int))[k]? = some (0, 1) := List.getElem?_set_self (by omega)
    have sf2 : ∀ f ∈ fs.set k (0, 1), Sf f := fun f hf => by
      rcases List.mem_or_eq_of_mem_set hf with y | y
      · exact sf f y
      · rw [y]; exact ⟨by decide, by decide, ⟨60, rfl⟩, by decide, by decide⟩
    generalize fs.set k (0, 1) = fs2 at *
    generalize ys.set k (.ref p2) = ys2 at *
    generalize upd H2' D1 (.lst ys2) = H2 at *
    clear T2 e2 hp2 fl c1 S1 yl ln sf
    refine seq_asg (op_of (tCompG1_list ?_))
    refine ⟨_, rfl, D1, ys2, rfl, c2, by rw [y2l]; exact Nat.le_trans n6 (by decide), fun D3 hD3 => ⟨jDn D3 H2 (fs2.map absF), ⟨Same.upd hD3, upd_same, .nil⟩, ?_, ?_⟩⟩
    · rintro m x ys' Hc hm ⟨T, c, fl'⟩ _ hlc
      obtain ⟨p, f0, rfl, hf, hp⟩ := fl2.get hm
      refine ⟨_, rfl, p, _, 0, _, rfl, rfl, T _ _ hp, atI_0, f0.1, rfl, _, rfl, p, _, 1, _, rfl, rfl, T _ _ hp, atI_1, line2, fun r hr => ?_⟩
      have ea : (if f0.1 < 0 then -f0.1 else f0.1) = (absF f0).1 := by
        show _ = ((f0.1.natAbs : Nat) : Int)
        split <;> omega
      have en : (fs2.map absF)[m]? = some (absF f0) := by rw [List.getElem?_map, hf]; rfl
      rw [ea]
      exact ⟨(upd_ne (ne_of_none c hr)).trans c, (upd_ne (ne_of_none hlc hr)).trans hlc, jDn.next hD3 ⟨T, c, fl'⟩ en hr⟩
    rintro ys3 H3 ⟨T3, c3, fl3⟩ _
    rw [y2l, List.take_of_length_le (by rw [List.length_map]; omega)] at fl3
    have l3 := fl3.length
    rw [List.length_map, f2l] at l3
    refine ⟨_, rfl, line1, fun p4 hp4 => ⟨D3, p4, ys3, _, rfl, rfl, (upd_ne (ne_of_none c3 hp4)).trans c3, upd_same, ?_, fun D5 hD5 => ?_⟩⟩
    · rw [l3]
      exact Nat.le_trans (show ns.length + 1 ≤ 64 by omega) (by decide)
    have T4 : Same H3 (upd H3 p4 (.lst [.ref wp])) := Same.upd hp4
    have T5 := T4.trans (Same.upd (o := .lst (ys3 ++ [.ref wp])) hD5)
    have c5 : upd (upd H3 p4 (.lst [.ref wp])) D5 (.lst (ys3 ++ [.ref wp])) D5 = some (.lst (ys3 ++ [.ref wp])) := upd_same
    generalize upd (upd H3 p4 (.lst [.ref wp])) D5 (.lst (ys3 ++ [.ref wp])) = H5 at T5 c5 ⊢
    have T25 := T3.trans T5
    have S5 := S2.trans T25
    have fl5 : FL H5 (ys3 ++ [.ref wp]) (fs2.map absF ++ [wt]) := (fl3.same T5).append (.cons (S5 _ _ hw) .nil)
    have a5l : (fs2.map absF ++ [wt]).length = ns.length + 1 := by rw [List.length_append, List.length_map, f2l]; rfl
    have y5l : (ys3 ++ [V.ref wp]).length = ns.length + 1 := by rw [List.length_append, l3]; rfl
    refine seq_asg ⟨_, rfl, cons1_of (tCompG1_list ?_)⟩
    refine ⟨_, rfl, D5, _, rfl, c5, by rw [y5l]; exact Nat.le_trans (show ns.length + 1 ≤ 64 by omega) (by decide), fun D6 hD6 => ⟨jDn D6 H5 (List.replicate (ns.length + 1) (1, 1)), ⟨Same.upd hD6, upd_same, .nil⟩, ?_, ?_⟩⟩
    · rintro m x ys' Hc hm ⟨T, c, fl'⟩ _ hlc
      have mn : m < ns.length + 1 := by
        have := (List.getElem?_eq_some_iff.mp hm).1
        omega
      have en : (List.replicate (ns.length + 1) ((1, 1) : Int × Int))[m]? = some (1, 1) := by rw [List.getElem?_replicate, if_pos mn]
      exact ⟨line2, fun r hr => ⟨(upd_ne (ne_of_none c hr)).trans c, (upd_ne (ne_of_none hlc hr)).trans hlc, jDn.next hD6 ⟨T, c, fl'⟩ en hr⟩⟩
    rintro ys6 H6 ⟨T6, c6, fl6⟩ _
    rw [y5l, List.take_of_length_le (by rw [List.length_replicate]; exact Nat.le_refl _)] at fl6
    have w60 : wt.2 ≤ 60 := Int.le_of_dvd (by decide) wd
    have sz60 : ∀ a ∈ fs2.map absF ++ [wt], 0 < a.2 ∧ a.1.natAbs ≤ 60 ∧ a.2.natAbs ≤ 60 := fun a ha => by
      rcases List.mem_append.mp ha with y | y
      · obtain ⟨g, hg, rfl⟩ := List.mem_map.mp y
        have s := sf2 g hg
        have := s.lo; have := s.hi; have := s.pos
        have : g.2 ≤ 60 := Int.le_of_dvd (by decide) s.d60
        refine ⟨s.pos, ?_, ?_⟩
        · show ((g.1.natAbs : Nat) : Int).natAbs ≤ 60
          omega
        · show g.2.natAbs ≤ 60
          omega
      · rw [List.mem_singleton.mp y]
        exact ⟨w2, by omega, by omega⟩
    have one : ∀ b ∈ List.replicate (ns.length + 1) ((1, 1) : Int × Int), b = (1, 1) := fun b hb => List.eq_of_mem_replicate hb
    have nn60 : 60 ≤ NN := by decide +kernel
    refine ⟨D5, D6, _, ys6, fs2.map absF ++ [wt], _, rfl, T6 _ _ c5, fl5.same T6, c6, fl6, by rw [a5l, List.length_replicate], by rw [a5l]; omega, fun a ha => ⟨(sz60 a ha).1, Nat.le_trans (sz60 a ha).2.1 nn60, Nat.le_trans (sz60 a ha).2.2 nn60⟩, fun b hb => by rw [one b hb]; exact ⟨by decide, Nat.le_trans (by decide) nn60, Nat.le_trans (by decide) nn60⟩, fun p7 H7 S7 hp7 c7 => ?_⟩
    obtain ⟨hs1, hs2⟩ := heavy_sum sf2 w2 wd
    rw [f2l] at hs1 hs2
    have bz := (prF_size (as := fs2.map absF ++ [wt]) (bs := List.replicate (ns.length + 1) (1, 1)) (z := (0, 1)) (B := 1) (M := 60) (fun a ha => (sz60 a ha).2) (fun b hb => by rw [one b hb]; decide) (by decide) (by decide) (by decide)).2
    rw [a5l] at bz
    have bbd : Bd (prF (fs2.map absF ++ [wt]) (List.replicate (ns.length + 1) (1, 1)) (0, 1)).2 := Nat.lt_of_le_of_lt (Nat.le_trans bz (Nat.mul_le_mul (Nat.le_refl 1) (Nat.pow_le_pow_right (by decide) (show ns.length + 1 ≤ 7 by omega)))) (by decide +kernel)
    generalize prF (fs2.map absF ++ [wt]) (List.replicate (ns.length + 1) (1, 1)) (0, 1) = z at *
    have T27 := T25.trans (T6.trans S7)
    have S27 := S2.trans T27
    have c27 := T27 _ _ c2
    have fl27 := fl2.same T27
    have done : ∀ s : Int, (s = 1 ∨ s = -1) → ∀ r, H7 r = none → Q (.ref D1) (upd (upd H7 r (.tup [.int (Ac.lw (s * z.1) z.2).1, .int (Ac.lw (s * z.1) z.2).2])) D1 (.lst (ys2.set k (.ref r)))) := by
      intro s hs r hr'
      obtain ⟨h1, h2, h3, h4⟩ := heavy_lw19 (s := s) hs2 hs1 hs
      have T8 : Same H7 (upd H7 r (.tup [.int (Ac.lw (s * z.1) z.2).1, .int (Ac.lw (s * z.1) z.2).2])) := Same.upd hr'
      have e8 : upd H7 r (.tup [.int (Ac.lw (s * z.1) z.2).1, .int (Ac.lw (s * z.1) z.2).2]) r = some (.tup [.int (Ac.lw (s * z.1) z.2).1, .int (Ac.lw (s * z.1) z.2).2]) := upd_same
      generalize upd H7 r (.tup [.int (Ac.lw (s * z.1) z.2).1, .int (Ac.lw (s * z.1) z.2).2]) = H8 at T8 e8 ⊢
      generalize Ac.lw (s * z.1) z.2 = h at *
      have wz : 0 ≤ t60 wt := Int.mul_nonneg (Int.le_of_lt w1) (Int.ediv_nonneg (by decide) (Int.le_of_lt w2))
      have wb : (t60 wt).natAbs ≤ 540 := by
        unfold t60
        rw [Int.natAbs_mul]
        exact Nat.le_trans (Nat.mul_le_mul (show wt.1.natAbs ≤ 9 by omega) (Int.natAbs_ediv_le_natAbs 60 wt.2)) (by decide)
      have sl := sumAbs_le (us := fs2.map t60) (B := 540) fun u hu => by
        obtain ⟨g, hg, rfl⟩ := List.mem_map.mp hu
        exact sf_t60 (sf2 g hg)
      rw [List.length_map, f2l] at sl
      have ab : ((t60 h).natAbs : Int) = (sumAbs (fs2.map t60) : Nat) + t60 wt := by
        rw [h4]
        rcases hs with y | y
        · rw [y, Int.one_mul]; omega
        · rw [y, Int.neg_mul, Int.one_mul]; omega
      have k0 : (fs2.map t60)[k]? = some 0 := by rw [List.getElem?_map, f2k]; rfl
      refine q D1 _ _ (fs2.set k h) (same_upd hD (S27.trans T8)) hD upd_same ((FL.set e8 k (fl27.same T8)).updL (T8 _ _ c27)) (by rw [List.length_set]; exact f2l) ⟨fun g hg => ?_, h, List.getElem?_set_self (by omega), ?_⟩
      · rcases List.mem_or_eq_of_mem_set hg with y | y
        · exact sf_md (sf2 g y)
        · rw [y]
          refine ⟨h1, h2, h3, ?_⟩
          have : sumAbs (fs2.map t60) ≤ 6 * 540 := Nat.le_trans sl (Nat.mul_le_mul n6 (Nat.le_refl _))
          omega
      · rw [List.map_set, sumAbs_set k0]
        omega
    refine ⟨p7, _, rfl, c7, rfl, _, _, rfl, _, _, rfl, rfl, _, rfl, b, rfl, ite2 (fun hb => ⟨_, rfl, _, _, rfl, rfl, ?_⟩) fun hb => ?_⟩
    · refine ⟨_, rfl, _, rfl, _, _, rfl, hs2, bbd, fun r hr' => ⟨_, rfl, _, rfl, D1, ys2, k, k, rfl, rfl, (upd_ne (ne_of_none c27 hr')).trans c27, ixk ys2 y2l, _, rfl, ?_⟩⟩
      have := done (-1) (.inr rfl) r hr'
      rw [show (-1 : Int) * z.1 = 0 - z.1 by omega] at this
      exact this
    · refine ⟨_, rfl, _, rfl, _, _, rfl, hs2, bbd, fun r hr' => ⟨_, rfl, _, rfl, D1, ys2, k, k, rfl, rfl, (upd_ne (ne_of_none c27 hr')).trans c27, ixk ys2 y2l, _, rfl, ?_⟩⟩
      have := done 1 (.inl rfl) r hr'
      rw [Int.one_mul] at this
      exact this
open Rw
def rwD (fs : List (Int × Int)) : PyData := .list (fs.map frD)
theorem showsAll_at {H : Hp} : ∀ {xs : List V} {ds : List PyData}, xs.length = ds.length → (∀ (k : Nat) x d, xs[k]? = some x → ds[k]? = some d → Shows H x d) → ShowsAll H xs ds
  | [], [], _, _ => .nil
  | _ :: _, _ :: _, e, h => .cons (h 0 _ _ rfl rfl) (showsAll_at (by simpa using e) fun k x d a b => h (k + 1) x d (by simpa using a) (by simpa using b))
theorem FRs.shows {H : Hp} {xs : List V} {fss : List (List (Int × Int))} (h : FRs H xs fss) : ShowsAll H xs (fss.map rwD) := by
  refine showsAll_at (by rw [h.len, List.length_map]) fun k x d a b => ?_
  obtain ⟨l, ys, rfl, e, fl⟩ := h.at_ k x a
  rw [List.getElem?_map] at b
  rw [List.getD_eq_getElem?_getD] at fl
  cases ef : fss[k]? with
  | none => rw [ef] at b; cases b
  | some fs =>
    rw [ef] at b fl
    cases b
    exact .lst e (FL.shows fl)
theorem canLay_each {α : Type} {g : α → PyData} (h : ∀ x, PyData.canLay0 (g x) = true) : ∀ xs : List α, PyData.canLayAll0 (xs.map g) = true
  | [] => rfl
  | x :: xs => by rw [List.map_cons]; unfold PyData.canLayAll0; rw [canLay_each h xs, h x]; rfl
theorem depth_each {α : Type} {g : α → PyData} {n : Nat} (h : ∀ x, PyData.depth (g x) ≤ n) : ∀ xs : List α, PyData.depthAll (xs.map g) ≤ n
  | [] => Nat.zero_le _
  | x :: xs => by
    rw [List.map_cons]; unfold PyData.depthAll
    have := depth_each h xs
    have := h x
    omega
theorem two_each {α : Type} {g : α → PyData} (h : ∀ x, PyData.canLay0 (g x) = true) (d : ∀ x, PyData.depth (g x) ≤ 2) (xs : List α) : SeqAt.shaped (.list (xs.map g)) = true ∧ PyData.eqv (.list (xs.map g)) (.list (xs.map g)) = true := by
  have h1 : PyData.canLay0 (.list (xs.map g)) = true := by unfold PyData.canLay0; exact canLay_each h xs
  have h2 : PyData.depth (.list (xs.map g)) ≤ 64 := by unfold PyData.depth; have := depth_each d xs; omega
  refine ⟨?_, PySem.SeqAt.eqv_refl _ h1⟩
  unfold SeqAt.shaped
  rw [h1, decide_eq_true h2]; rfl
theorem two_rows (fss : List (List (Int × Int))) : SeqAt.shaped (.list (fss.map rwD)) = true ∧ PyData.eqv (.list (fss.map rwD)) (.list (fss.map rwD)) = true :=
  two_each (fun fs => by unfold rwD PyData.canLay0; exact canLay_fr fs) (fun fs => by unfold rwD PyData.depth; have := depth_fr fs; omega) fss
def Off (as : List Addr) (H H' : Hp) : Prop := ∀ c o, c ∉ as → H c = some o → H' c = some o
theorem cp_rows15 {K : PySem.W.Frag} {j : Nat} {σ : L2.St} {H : Hp} {Q : VK} {lR : Addr} {xs : List V} {fss : List (List (Int × Int))} (hv : σ[j]? = some (some (.ref lR))) (hR : H lR = some (.lst xs)) (fr : FRs H xs fss) (h4 : fss.length ≤ 20)
    (q : ∀ D (as : List Addr) Hc, Same H Hc → H D = none → Hc D = some (.lst (as.map V.ref)) → FRs Hc (as.map V.ref) fss → (∀ a ∈ as, H a = none ∧ a ≠ D) → as.Nodup → Q (.ref D) Hc) : tCompG (iList K (tM (tVar j))) 1 (tMG (gName 0)) (tMT tYes) (tM (tCB rListH (tCons (tVar 0) tNil))) σ H Q := by
  refine tCompG1_list ⟨_, hv, lR, xs, rfl, hR, by rw [fr.len]; exact Nat.le_trans h4 (by decide), fun D hD => ⟨fun k zs Hc => Same H Hc ∧ Hc D = some (.lst zs) ∧ ∃ as : List Addr, zs = as.map V.ref ∧ FRs Hc zs (fss.take k) ∧ (∀ a ∈ as, H a = none ∧ a ≠ D ∧ Hc a ≠ none) ∧ as.Nodup, ⟨Same.upd hD, upd_same, [], rfl, ⟨rfl, fun k v e => by simp at e⟩, by simp, .nil⟩, ?_, ?_⟩⟩
  · rintro k x zs Hc hk ⟨S, c1, as, rfl, fr', hn, nd⟩ _ hc
    have hkf : k < fss.length := by rw [← fr.len]; exact (List.getElem?_eq_some_iff.mp hk).1
    obtain ⟨l, ys, e, hl, fl, _⟩ := fr.get hkf
    rw [hk] at e
    cases e
    refine ⟨_, rfl, l, ys, rfl, S _ _ hl, fun D2 hD2 => ?_⟩
    have T : Same Hc (upd Hc D2 (.lst ys)) := Same.upd hD2
    have e2 : upd Hc D2 (.lst ys) D2 = some (.lst ys) := upd_same
    have nD : D ≠ D2 := ne_of_none c1 hD2
    generalize upd Hc D2 (.lst ys) = H2 at T e2 ⊢
    refine ⟨T _ _ c1, T _ _ hc, same_upd hD (S.trans T), upd_same, as ++ [D2], by rw [List.map_append]; rfl, ?_, ?_, ?_⟩
    · have ek : fss[k]? = some (fAt fss k) := by unfold fAt; rw [List.getD_eq_getElem?_getD, List.getElem?_eq_getElem hkf]; rfl
      rw [take_next ek]
      refine FRs.snoc (FRs.updL (T _ _ c1) (fr'.same T) fun j' l' e' => ?_) ((upd_ne nD.symm).trans e2) ((fl.same (S.trans T)).updL (T _ _ c1))
      rw [List.getElem?_map] at e'
      cases ek : as[j']? with
      | none => rw [ek] at e'; cases e'
      | some z => rw [ek] at e'; cases e'; exact (hn _ (List.mem_of_getElem? ek)).2.1
    · intro x hx
      rcases List.mem_append.mp hx with hx | hx
      · obtain ⟨a1, a2, a3⟩ := hn x hx
        refine ⟨a1, a2, ?_⟩
        rw [upd_ne a2]
        cases eo : Hc x with
        | none => exact absurd eo a3
        | some o => rw [T _ _ eo]; exact Option.some_ne_none _
      · rw [List.mem_singleton.mp hx]
        refine ⟨S.free hD2, nD.symm, ?_⟩
        rw [upd_ne nD.symm, e2]; exact Option.some_ne_none _
    · refine List.nodup_append.mpr ⟨nd, by simp, fun x hx y hy => ?_⟩
      rw [List.mem_singleton.mp hy]
      intro z
      exact (hn x hx).2.2 (z ▸ hD2)
  · rintro zs Hc ⟨S, c1, as, rfl, fr', hn, nd⟩ _
    rw [fr.len, List.take_length] at fr'
    exact q D as Hc S hD c1 fr' (fun a ha => ⟨(hn a ha).1, (hn a ha).2.1⟩) nd
open Rw
def RN (N : Nat) (fs : List (Int × Int)) : Prop := ∃ L : Int, 0 < L ∧ L.natAbs ≤ N ∧ ∀ f ∈ fs, Fq f ∧ f.2 ∣ L ∧ (f.1 * (L / f.2)).natAbs ≤ N
theorem RN.big {N : Nat} {fs : List (Int × Int)} (h : RN N fs) : Big N (lvR fs) := by
  obtain ⟨L, hL, bL, hf⟩ := h
  have hq : ∀ f ∈ fs, Fq f := fun f h => (hf f h).1
  have p := lvB_pos hq
  have d : ((lvB fs : Nat) : Int) ∣ L := by
    obtain ⟨n, rfl⟩ : ∃ n : Nat, L = n := ⟨L.toNat, by omega⟩
    refine Int.natCast_dvd_natCast.mpr (Lv.lcmL_dvd.mpr fun b hb => ?_)
    obtain ⟨f, h, rfl⟩ := List.mem_map.mp hb
    have := Int.natAbs_dvd_natAbs.mpr (hf f h).2.1
    simpa using this
  have le := Int.le_of_dvd hL d
  refine ⟨by show (0 : Int) < (lvB fs : Nat); omega, ?_, fun t ht => ?_⟩
  · show (((lvB fs : Nat) : Int)).natAbs ≤ N
    omega
  · obtain ⟨f, h, rfl⟩ := List.mem_map.mp ht
    obtain ⟨q, dL, bd⟩ := hf f h
    obtain ⟨u, hu⟩ := dvd_lvB h q
    obtain ⟨v, hv⟩ := d
    have e1 : ((lvB fs : Nat) : Int) / f.2 = u := by rw [hu, Int.mul_ediv_cancel_left _ (Int.ne_of_gt q.pos)]
    have e2 : L / f.2 = u * v := by rw [hv, hu, Int.mul_assoc, Int.mul_ediv_cancel_left _ (Int.ne_of_gt q.pos)]
    have v0 : 0 < v := Int.pos_of_mul_pos_right (by rw [← hv]; exact hL) (show (0 : Int) < (lvB fs : Nat) by omega)
    show (f.1 * (((lvB fs : Nat) : Int) / f.2)).natAbs ≤ N
    rw [e2, ← Int.mul_assoc, Int.natAbs_mul] at bd
    rw [e1]
    exact Nat.le_trans (Nat.le_mul_of_pos_right _ (by omega)) bd
open Rw
structure Rt (f : Int × Int) : Prop where
  pos : 0 < f.2
  gcd : Int.gcd f.1 f.2 = 1
  d : f.2 ∣ 27720
  s : f.1.natAbs ≤ 999
structure Wt (f : Int × Int) : Prop where
  p1 : 0 < f.1
  l1 : f.1 ≤ 9
  p2 : 0 < f.2
  d : f.2 ∣ 60
structure Drn (n : Nat) (fss : List (List (Int × Int))) (rts ws : List (Int × Int)) : Prop where
  fl : fss.length = n
  rl : rts.length = n
  wl : ws.length = n
  n0 : 0 < n
  n6 : n ≤ 6
  row : ∀ (k : Nat) fs w, fss[k]? = some fs → ws[k]? = some w → fs.length = n ∧ HvR fs k w
  rt : ∀ r ∈ rts, Rt r
  wt : ∀ w ∈ ws, Wt w
def N19 : Nat := 27692280
theorem md_num {f : Int × Int} (h : Md f) : Fq f ∧ f.2 ∣ 27720 ∧ (f.1 * (27720 / f.2)).natAbs ≤ N19 := by
  have hb : f.2 ≤ 60 := Int.le_of_dvd (by decide) h.d60
  have hp := h.pos
  obtain ⟨u, hu⟩ := h.d60
  have e60 : (60 : Int) / f.2 = u := by rw [hu, Int.mul_ediv_cancel_left _ (Int.ne_of_gt hp)]
  have e2 : (27720 : Int) / f.2 = u * 462 := by
    rw [show (27720 : Int) = f.2 * (u * 462) by rw [← Int.mul_assoc, ← hu]; rfl, Int.mul_ediv_cancel_left _ (Int.ne_of_gt hp)]
  have u0 : 0 < u := Int.pos_of_mul_pos_right (by rw [← hu]; decide) hp
  have s := h.sz
  unfold t60 at s
  rw [e60, Int.natAbs_mul] at s
  have s1 : f.1.natAbs ≤ 3780 := Nat.le_trans (Nat.le_mul_of_pos_right _ (by omega)) s
  refine ⟨⟨hp, h.gcd, Nat.le_trans s1 (by decide), Nat.le_trans (show f.2.natAbs ≤ 60 by omega) (by decide)⟩, Int.dvd_trans h.d60 ⟨462, rfl⟩, ?_⟩
  rw [e2, ← Int.mul_assoc, Int.natAbs_mul, Int.natAbs_mul]
  exact Nat.le_trans (Nat.mul_le_mul s (Nat.le_refl _)) (by decide)
theorem rt_num {f : Int × Int} (h : Rt f) : Fq f ∧ f.2 ∣ 27720 ∧ (f.1 * (27720 / f.2)).natAbs ≤ N19 := by
  have hb : f.2 ≤ 27720 := Int.le_of_dvd (by decide) h.d
  have hp := h.pos
  refine ⟨⟨hp, h.gcd, Nat.le_trans h.s (by decide), Nat.le_trans (show f.2.natAbs ≤ 27720 by omega) (by decide)⟩, h.d, ?_⟩
  rw [Int.natAbs_mul]
  exact Nat.le_trans (Nat.mul_le_mul h.s (Int.natAbs_ediv_le_natAbs 27720 f.2)) (by decide)
section
variable {n : Nat} {fss : List (List (Int × Int))} {rts ws : List (Int × Int)}
theorem Drn.get (d : Drn n fss rts ws) {k : Nat} (h : k < n) : ∃ fs r w, fss[k]? = some fs ∧ rts[k]? = some r ∧ ws[k]? = some w ∧ fs.length = n ∧ HvR fs k w ∧ Rt r ∧ Wt w ∧ rowAt ((withR fss rts).map lvR) k = lvR (fs ++ [r]) ∧ (fs ++ [r]) ∈ withR fss rts := by
  have k1 : k < fss.length := by rw [d.fl]; exact h
  have k2 : k < rts.length := by rw [d.rl]; exact h
  have k3 : k < ws.length := by rw [d.wl]; exact h
  have e1 : fss[k]? = some fss[k] := List.getElem?_eq_getElem k1
  have e2 : rts[k]? = some rts[k] := List.getElem?_eq_getElem k2
  have e3 : ws[k]? = some ws[k] := List.getElem?_eq_getElem k3
  have e4 : (withR fss rts)[k]? = some (fss[k] ++ [rts[k]]) := by
    unfold withR
    rw [List.getElem?_zipWith, e1, e2]
  refine ⟨_, _, _, e1, e2, e3, (d.row k _ _ e1 e3).1, (d.row k _ _ e1 e3).2, d.rt _ (List.mem_of_getElem? e2), d.wt _ (List.mem_of_getElem? e3), ?_, List.mem_of_getElem? e4⟩
  unfold rowAt
  rw [List.getD_eq_getElem?_getD, List.getElem?_map, e4]; rfl
theorem Drn.glen (d : Drn n fss rts ws) : (withR fss rts).length = n := by
  unfold withR
  rw [List.length_zipWith, d.fl, d.rl, Nat.min_self]
theorem Drn.rn (d : Drn n fss rts ws) : ∀ gs ∈ withR fss rts, RN N19 gs := fun gs hg => by
  obtain ⟨k, hk, rfl⟩ := List.mem_iff_getElem.mp hg
  have kn : k < n := by rw [← d.glen]; exact hk
  obtain ⟨fs, r, w, e1, e2, e3, fl, hv, rt, wt, _, _⟩ := d.get kn
  have e4 : (withR fss rts)[k]? = some (fs ++ [r]) := by
    unfold withR
    rw [List.getElem?_zipWith, e1, e2]
  have : (withR fss rts)[k] = fs ++ [r] := by
    rw [List.getElem?_eq_getElem hk] at e4
    exact Option.some.inj e4
  rw [this]
  refine ⟨27720, by decide, by decide, fun f hf => ?_⟩
  rcases List.mem_append.mp hf with y | y
  · exact md_num (hv.md f y)
  · rw [List.mem_singleton.mp y]; exact rt_num rt
theorem sumAbs_scale {L : Int} (hL : 0 < L) : ∀ {fs : List (Int × Int)}, (∀ f ∈ fs, 0 < f.2 ∧ f.2 ∣ 60 ∧ f.2 ∣ L) → (sumAbs (fs.map fun f => f.1 * (L / f.2)) : Int) * 60 = (sumAbs (fs.map t60) : Nat) * L
  | [], _ => by show (0 : Int) * 60 = 0 * L; rw [Int.zero_mul, Int.zero_mul]
  | f :: fs, h => by
    obtain ⟨p, d1, d2⟩ := h f List.mem_cons_self
    have ih := sumAbs_scale hL (fs := fs) fun g hg => h g (List.mem_cons_of_mem _ hg)
    show (((f.1 * (L / f.2)).natAbs + sumAbs (fs.map fun f => f.1 * (L / f.2)) : Nat) : Int) * 60 = (((t60 f).natAbs + sumAbs (fs.map t60) : Nat) : Int) * L
    rw [Int.natCast_add, Int.natCast_add, Int.add_mul, Int.add_mul, ih]
    congr 1
    have k : f.1 * (L / f.2) * 60 = t60 f * L := by
      unfold t60
      obtain ⟨u, hu⟩ := d1
      obtain ⟨v, hv⟩ := d2
      have e1 : (60 : Int) / f.2 = u := by rw [hu, Int.mul_ediv_cancel_left _ (Int.ne_of_gt p)]
      have e2 : L / f.2 = v := by rw [hv, Int.mul_ediv_cancel_left _ (Int.ne_of_gt p)]
      rw [e1, e2]
      calc f.1 * v * 60 = f.1 * v * (f.2 * u) := by rw [← hu]
        _ = f.1 * u * (f.2 * v) := by ac_rfl
        _ = f.1 * u * L := by rw [← hv]
    have k2 : ((f.1 * (L / f.2) * 60).natAbs : Int) = ((t60 f * L).natAbs : Nat) := by rw [k]
    rw [Int.natAbs_mul, Int.natAbs_mul (t60 f), Int.natCast_mul, Int.natCast_mul, Int.natAbs_of_nonneg (Int.le_of_lt hL)] at k2
    exact k2
theorem Drn.lev (d : Drn n fss rts ws) {k : Nat} (h : k < n) : ∃ fs r w L U t tn, fss[k]? = some fs ∧ rts[k]? = some r ∧ ws[k]? = some w ∧ Rt r ∧ Wt w ∧ 0 < L ∧ U = fs.map (fun f => f.1 * (L / f.2)) ∧ (rowAt ((withR fss rts).map lvR) k).1 = U ++ [tn] ∧ U.length = n ∧ U[k]? = some t ∧ 2 * (t.natAbs : Int) * 60 = (sumAbs U : Nat) * 60 + L * t60 w ∧ tn * r.2 = r.1 * L ∧ fs.length = n ∧ (∀ f ∈ fs, Md f ∧ f.2 ∣ L) := by
  obtain ⟨fs, r, w, e1, e2, e3, fl, hv, rt, wt, ra, gm⟩ := d.get h
  obtain ⟨Lr, _, _, rn⟩ := d.rn _ gm
  have hq : ∀ f ∈ fs ++ [r], Fq f := fun f hf => (rn f hf).1
  have p := lvB_pos hq
  have L0 : (0 : Int) < (lvB (fs ++ [r]) : Nat) := by omega
  have dv : ∀ f ∈ fs ++ [r], f.2 ∣ ((lvB (fs ++ [r]) : Nat) : Int) := fun f hf => dvd_lvB hf (hq f hf)
  obtain ⟨hh, eh, hv2⟩ := hv.hv
  refine ⟨fs, r, w, (lvB (fs ++ [r]) : Nat), _, hh.1 * ((lvB (fs ++ [r]) : Nat) / hh.2), r.1 * ((lvB (fs ++ [r]) : Nat) / r.2), e1, e2, e3, rt, wt, L0, rfl, ?_, by rw [List.length_map]; exact fl, by rw [List.getElem?_map, eh]; rfl, ?_, ?_, fl, fun f hf => ⟨hv.md f hf, dv f (List.mem_append_left _ hf)⟩⟩
  · rw [ra]
    show lvT (fs ++ [r]) = _
    unfold lvT
    rw [List.map_append]; rfl
  · have sc := sumAbs_scale L0 (fs := fs) fun f hf => ⟨(hv.md f hf).pos, (hv.md f hf).d60, dv f (List.mem_append_left _ hf)⟩
    have hm := List.mem_of_getElem? eh
    have so := sumAbs_scale L0 (fs := [hh]) fun f hf => by rw [List.mem_singleton.mp hf]; exact ⟨(hv.md hh hm).pos, (hv.md hh hm).d60, dv hh (List.mem_append_left _ hm)⟩
    generalize ((lvB (fs ++ [r]) : Nat) : Int) = L at *
    have so : ((((hh.1 * (L / hh.2)).natAbs + 0 : Nat)) : Int) * 60 = (((t60 hh).natAbs + 0 : Nat) : Int) * L := so
    rw [Nat.add_zero, Nat.add_zero] at so
    calc 2 * ((hh.1 * (L / hh.2)).natAbs : Int) * 60 = 2 * (((hh.1 * (L / hh.2)).natAbs : Int) * 60) := by ac_rfl
      _ = 2 * (((t60 hh).natAbs : Int) * L) := by rw [so]
      _ = (2 * ((t60 hh).natAbs : Int)) * L := by ac_rfl
      _ = ((sumAbs (fs.map t60) : Nat) + t60 w) * L := by rw [hv2]
      _ = (sumAbs (fs.map t60) : Nat) * L + t60 w * L := Int.add_mul _ _ _
      _ = _ := by rw [← sc, Int.mul_comm L]
  · rw [Int.mul_assoc, Int.ediv_mul_cancel (dv r (List.mem_append_right _ (List.mem_singleton.mpr rfl)))]
theorem wt_t60 {w : Int × Int} (h : Wt w) : 0 < t60 w := by
  obtain ⟨u, hu⟩ := h.d
  have : (60 : Int) / w.2 = u := by rw [hu, Int.mul_ediv_cancel_left _ (Int.ne_of_gt h.p2)]
  unfold t60
  rw [this]
  exact Int.mul_pos h.p1 (Int.pos_of_mul_pos_right (by rw [← hu]; decide) h.p2)
theorem Drn.inj (d : Drn n fss rts ws) : ∀ y : Nat → Int, KerR ((withR fss rts).map lvR) y → y n = 0 → ∀ j, j < n → y j = 0 := by
  intro y ky yn
  have len : ((withR fss rts).map lvR).length = n := by rw [List.length_map]; exact d.glen
  refine heavy_zero (U := fun k => (rowAt ((withR fss rts).map lvR) k).1.take n) (fun k hk => ?_) (fun k hk => ?_) fun k hk => ?_
  · obtain ⟨fs, r, w, L, U, t, tn, e1, e2, e3, rt, wt, L0, eU, er, ul, ut, hv, hr, _, _⟩ := d.lev hk
    rw [er, List.take_append_of_le_length (by omega), List.take_of_length_le (by omega)]
    exact ul
  · obtain ⟨fs, r, w, L, U, t, tn, e1, e2, e3, rt, wt, L0, eU, er, ul, ut, hv, hr, _, _⟩ := d.lev hk
    rw [er, List.take_append_of_le_length (by omega), List.take_of_length_le (by omega)]
    refine ⟨t, ut, ?_⟩
    have := Int.mul_pos L0 (wt_t60 wt)
    omega
  · obtain ⟨fs, r, w, L, U, t, tn, e1, e2, e3, rt, wt, L0, eU, er, ul, ut, hv, hr, _, _⟩ := d.lev hk
    have z := ky k (by rw [len]; exact hk)
    rw [er, dot_last, ul, yn, Int.mul_zero, Int.add_zero] at z
    rw [er, List.take_append_of_le_length (by omega), List.take_of_length_le (by omega)]
    exact z
end
open Rw
def ansX (rs : List Row) (n : Nat) : List (Int × Int) := (List.range n).map fun i => Ac.lw ((rowAt rs i).1.getD n 0) (rowAt rs i).2
theorem ansX_at {rs : List Row} {n i : Nat} (h : i < n) : (ansX rs n)[i]? = some (Ac.lw ((rowAt rs i).1.getD n 0) (rowAt rs i).2) := by
  unfold ansX
  rw [List.getElem?_map, List.getElem?_range h]; rfl
theorem ansX_len {rs : List Row} {n : Nat} : (ansX rs n).length = n := by
  unfold ansX
  rw [List.length_map, List.length_range]
theorem ansX_lo {rs : List Row} {n : Nat} (el : rs.length = n) (bnd : ∀ r ∈ rs, Big NN r ∧ r.1.length = n + 1) : ∀ f ∈ ansX rs n, Lo f := fun f hf => by
  obtain ⟨i, hi, rfl⟩ := List.mem_map.mp hf
  have hi := List.mem_range.mp hi
  have b := bnd _ (rowAt_in (show i < rs.length by omega))
  have tm : (rowAt rs i).1.getD n 0 ∈ (rowAt rs i).1 := by
    rw [List.getD_eq_getElem?_getD, List.getElem?_eq_getElem (by omega)]; exact List.getElem_mem _
  exact ⟨Ac.lw_pos b.1.pos, Ac.lw_gcd b.1.pos, Nat.le_trans (Int.natAbs_ediv_le_natAbs _ _) (b.1.top _ tm), Nat.le_trans (Int.natAbs_ediv_le_natAbs _ _) b.1.bot⟩
section
variable {n : Nat} {fss : List (List (Int × Int))} {rts ws : List (Int × Int)} {rs : List Row}
theorem Drn.comes (d : Drn n fss rts ws) (el : rs.length = n) (bnd : ∀ r ∈ rs, Big NN r ∧ r.1.length = n + 1) (ker : KerR ((withR fss rts).map lvR) (solY rs n)) {k : Nat} {fs : List (Int × Int)} {r : Int × Int} (e1 : fss[k]? = some fs) (e2 : rts[k]? = some r) :
    (prF fs (ansX rs n) (0, 1)).1 * r.2 = r.1 * (prF fs (ansX rs n) (0, 1)).2 := by
  have kn : k < n := by rw [← d.fl]; exact (List.getElem?_eq_some_iff.mp e1).1
  obtain ⟨fs', r', w, L, U, t, tn, e1', e2', e3, rt, wt, L0, eU, er, ul, ut, hv, hr, fl, md⟩ := d.lev kn
  rw [e1] at e1'
  cases e1'
  rw [e2] at e2'
  cases e2'
  have bnd' : ∀ r ∈ rs, 0 < r.2 ∧ r.1.length = n + 1 := fun r h => ⟨(bnd r h).1.pos, (bnd r h).2⟩
  have B0 := bots_pos el bnd'
  have z := ker k (by rw [List.length_map, d.glen]; exact kn)
  rw [er, dot_last, ul, solY_n, Int.mul_neg] at z
  have v := prF_val (S := L * bots rs n) (as := fs) (bs := ansX rs n) (us := U) (y := solY rs n) (z := (0, 1)) (by rw [fl, ansX_len]) (by rw [fl, ul]) (fun j a b u ea eb eu => by
    have jn : j < n := by rw [← fl]; exact (List.getElem?_eq_some_iff.mp ea).1
    rw [ansX_at jn] at eb
    cases eb
    rw [eU, List.getElem?_map, ea] at eu
    cases eu
    have s := sol_lw jn el bnd'
    have m := md a (List.mem_of_getElem? ea)
    have e : a.1 * (L / a.2) * a.2 = a.1 * L := by rw [Int.mul_assoc, Int.ediv_mul_cancel m.2]
    calc a.1 * (L / a.2) * solY rs n j * (a.2 * (Ac.lw ((rowAt rs j).1.getD n 0) (rowAt rs j).2).2) = (a.1 * (L / a.2) * a.2) * (solY rs n j * (Ac.lw ((rowAt rs j).1.getD n 0) (rowAt rs j).2).2) := by ac_rfl
      _ = a.1 * L * ((Ac.lw ((rowAt rs j).1.getD n 0) (rowAt rs j).2).1 * bots rs n) := by rw [e, s]
      _ = _ := by ac_rfl) (fun a ha => (md a ha).1.pos) fun b hb => (ansX_lo el bnd b hb).pos
  have v : (prF fs (ansX rs n) (0, 1)).1 * 1 * (L * bots rs n) = (prF fs (ansX rs n) (0, 1)).2 * (0 * (L * bots rs n) + 1 * dotF U (solY rs n)) := v
  rw [Int.mul_one, Int.zero_mul, Int.zero_add, Int.one_mul, show dotF U (solY rs n) = tn * bots rs n by omega] at v
  generalize prF fs (ansX rs n) (0, 1) = pp at *
  have v2 : pp.1 * L = pp.2 * tn := by
    refine Int.eq_of_mul_eq_mul_right (Int.ne_of_gt B0) ?_
    rw [Int.mul_assoc, v, Int.mul_assoc]
  refine Int.eq_of_mul_eq_mul_right (Int.ne_of_gt L0) ?_
  calc pp.1 * r.2 * L = pp.1 * L * r.2 := by ac_rfl
    _ = pp.2 * (tn * r.2) := by rw [v2]; ac_rfl
    _ = pp.2 * (r.1 * L) := by rw [hr]
    _ = r.1 * pp.2 * L := by ac_rfl
theorem Drn.bound (d : Drn n fss rts ws) (el : rs.length = n) (bnd : ∀ r ∈ rs, Big NN r ∧ r.1.length = n + 1) (ker : KerR ((withR fss rts).map lvR) (solY rs n)) {i : Nat} (hi : i < n) {x : Int × Int} (ex : (ansX rs n)[i]? = some x) :
    ∃ m w r, m < n ∧ ws[m]? = some w ∧ rts[m]? = some r ∧ (x.1.natAbs : Int) * w.1 * r.2 ≤ (r.1.natAbs : Int) * w.2 * x.2 := by
  have bnd' : ∀ r ∈ rs, 0 < r.2 ∧ r.1.length = n + 1 := fun r h => ⟨(bnd r h).1.pos, (bnd r h).2⟩
  have B0 := bots_pos el bnd'
  have tk : ∀ k, k < n → ∃ U tn, (rowAt ((withR fss rts).map lvR) k).1 = U ++ [tn] ∧ U.length = n ∧ (rowAt ((withR fss rts).map lvR) k).1.take n = U ∧ (rowAt ((withR fss rts).map lvR) k).1.getD n 0 = tn := fun k hk => by
    obtain ⟨fs, r, w, L, U, t, tn, _, _, _, _, _, _, _, er, ul, _⟩ := d.lev hk
    refine ⟨U, tn, er, ul, by rw [er, List.take_append_of_le_length (by omega), List.take_of_length_le (by omega)], ?_⟩
    rw [er, List.getD_eq_getElem?_getD, List.getElem?_append_right (by omega), ul, Nat.sub_self]; rfl
  obtain ⟨m, hm, mx, hb⟩ := heavy_bound (U := fun k => (rowAt ((withR fss rts).map lvR) k).1.take n) (R := fun k => (rowAt ((withR fss rts).map lvR) k).1.getD n 0 * bots rs n) (y := solY rs n) d.n0 (fun k hk => by
    obtain ⟨U, tn, _, ul, e, _⟩ := tk k hk
    rw [e]; exact ul) (fun k hk => by
    obtain ⟨U, tn, er, ul, e, e'⟩ := tk k hk
    have z := ker k (by rw [List.length_map, d.glen]; exact hk)
    rw [er, dot_last, ul, solY_n, Int.mul_neg] at z
    rw [e, e']
    omega) (fun k => ((rowAt ((withR fss rts).map lvR) k).1.take n).getD k 0) fun k hk => by
    obtain ⟨U, tn, _, ul, e, _⟩ := tk k hk
    rw [e, List.getD_eq_getElem?_getD, List.getElem?_eq_getElem (by omega)]; rfl
  obtain ⟨fs, r, w, L, U, t, tn, e1, e2, e3, rt, wt, L0, eU, er, ul, ut, hv, hr, fl, md⟩ := d.lev hm
  refine ⟨m, w, r, hm, e3, e2, ?_⟩
  have tU : (rowAt ((withR fss rts).map lvR) m).1.take n = U := by rw [er, List.take_append_of_le_length (by omega), List.take_of_length_le (by omega)]
  have tN : (rowAt ((withR fss rts).map lvR) m).1.getD n 0 = tn := by rw [er, List.getD_eq_getElem?_getD, List.getElem?_append_right (by omega), ul, Nat.sub_self]; rfl
  have hb : (solY rs n m).natAbs * (2 * (((rowAt ((withR fss rts).map lvR) m).1.take n).getD m 0).natAbs) ≤ ((rowAt ((withR fss rts).map lvR) m).1.getD n 0 * bots rs n).natAbs + (solY rs n m).natAbs * sumAbs ((rowAt ((withR fss rts).map lvR) m).1.take n) := hb
  rw [tU, tN, List.getD_eq_getElem?_getD, ut] at hb
  have hb : (solY rs n m).natAbs * (2 * t.natAbs) ≤ (tn * bots rs n).natAbs + (solY rs n m).natAbs * sumAbs U := hb
  have mi := mx i hi
  rw [ansX_at hi] at ex
  cases ex
  have s := sol_lw hi el bnd'
  have xp := Ac.lw_pos (t := (rowAt rs i).1.getD n 0) (bnd' _ (rowAt_in (show i < rs.length by omega))).1
  generalize Ac.lw ((rowAt rs i).1.getD n 0) (rowAt rs i).2 = x at *
  generalize bots rs n = B at *
  -- all as whole numbers from nought on
  have hb' := Int.ofNat_le.mpr hb
  rw [Int.natCast_add, Int.natCast_mul, Int.natCast_mul, Int.natCast_mul, Int.natAbs_mul, Int.natCast_mul, Int.natAbs_of_nonneg (Int.le_of_lt B0)] at hb'
  have sa : ((solY rs n i).natAbs : Int) * x.2 = (x.1.natAbs : Int) * B := by
    have := congrArg Int.natAbs s
    rw [Int.natAbs_mul, Int.natAbs_mul] at this
    have := congrArg (fun z : Nat => (z : Int)) this
    rw [Int.natCast_mul, Int.natCast_mul, Int.natAbs_of_nonneg (Int.le_of_lt xp), Int.natAbs_of_nonneg (Int.le_of_lt B0)] at this
    exact this
  have ra : (tn.natAbs : Int) * r.2 = (r.1.natAbs : Int) * L := by
    have := congrArg Int.natAbs hr
    rw [Int.natAbs_mul, Int.natAbs_mul] at this
    have := congrArg (fun z : Nat => (z : Int)) this
    rw [Int.natCast_mul, Int.natCast_mul, Int.natAbs_of_nonneg (Int.le_of_lt rt.pos), Int.natAbs_of_nonneg (Int.le_of_lt L0)] at this
    exact this
  have yi : ((solY rs n i).natAbs : Int) ≤ ((solY rs n m).natAbs : Int) := Int.ofNat_le.mpr mi
  have y0 : (0 : Int) ≤ ((solY rs n m).natAbs : Int) := Int.natCast_nonneg _
  have tw := t60_eq wt.p2 wt.d
  have rp := rt.pos
  generalize ((solY rs n m).natAbs : Int) = ym at *
  generalize ((solY rs n i).natAbs : Int) = yi' at *
  generalize (tn.natAbs : Int) = TN at *
  generalize (t.natAbs : Int) = TT at *
  generalize (x.1.natAbs : Int) = X1 at *
  generalize (r.1.natAbs : Int) = R1 at *
  generalize ((sumAbs U : Nat) : Int) = SU at *
  -- ym * (L * t60 w) ≤ TN * B * 60
  have k1 : ym * (L * t60 w) ≤ TN * B * 60 := by
    have a : ym * ((2 : Nat) * TT) * 60 ≤ (TN * B + ym * SU) * 60 := Int.mul_le_mul_of_nonneg_right hb' (by decide)
    have b : ym * ((2 : Nat) * TT) * 60 = ym * (SU * 60 + L * t60 w) := by
      rw [← hv]
      show ym * (2 * TT) * 60 = ym * (2 * TT * 60)
      ac_rfl
    rw [b, Int.mul_add, Int.add_mul] at a
    have c : ym * (SU * 60) = ym * SU * 60 := by ac_rfl
    omega
  -- times w.2 * r.2
  have wr := Int.mul_pos wt.p2 rp
  have k2 : ym * (w.1 * r.2) * (60 * L) ≤ R1 * w.2 * B * (60 * L) := by
    have a := Int.mul_le_mul_of_nonneg_right k1 (Int.le_of_lt wr)
    have b : ym * (L * t60 w) * (w.2 * r.2) = ym * (w.1 * r.2) * (60 * L) := by
      calc ym * (L * t60 w) * (w.2 * r.2) = ym * L * r.2 * (t60 w * w.2) := by ac_rfl
        _ = ym * L * r.2 * (60 * w.1) := by rw [tw]
        _ = _ := by ac_rfl
    have c : TN * B * 60 * (w.2 * r.2) = R1 * w.2 * B * (60 * L) := by
      calc TN * B * 60 * (w.2 * r.2) = TN * r.2 * (B * 60 * w.2) := by ac_rfl
        _ = R1 * L * (B * 60 * w.2) := by rw [ra]
        _ = _ := by ac_rfl
    rw [b, c] at a
    exact a
  have k3 : ym * (w.1 * r.2) ≤ R1 * w.2 * B := Int.le_of_mul_le_mul_right k2 (by omega)
  have k4 : yi' * (w.1 * r.2) ≤ R1 * w.2 * B := Int.le_trans (Int.mul_le_mul_of_nonneg_right yi (Int.le_of_lt (Int.mul_pos wt.p1 rp))) k3
  have k5 := Int.mul_le_mul_of_nonneg_right k4 (Int.le_of_lt xp)
  have k6 : X1 * w.1 * r.2 * B ≤ R1 * w.2 * x.2 * B := by
    have b : yi' * (w.1 * r.2) * x.2 = X1 * w.1 * r.2 * B := by
      calc yi' * (w.1 * r.2) * x.2 = yi' * x.2 * (w.1 * r.2) := by ac_rfl
        _ = X1 * B * (w.1 * r.2) := by rw [sa]
        _ = _ := by ac_rfl
    have c : R1 * w.2 * B * x.2 = R1 * w.2 * x.2 * B := by ac_rfl
    rw [b, c] at k5
    exact k5
  exact Int.le_of_mul_le_mul_right k6 B0
end
open Rw
theorem cb1_of {r : List V → Hp → VK → Prop} {te : TE} {σ : L2.St} {H : Hp} {Q : VK} (h : te σ H fun x H1 => r [x] H1 Q) : tCB r (tCons te tNil) σ H Q := h
structure Ls19 (H1 H : Hp) (lR lW lT : Addr) (n k : Nat) (rv wv tv : List V) (fss : List (List (Int × Int))) (ws rts : List (Int × Int)) : Prop where
  same : Same H1 H
  hR : H lR = some (.lst rv)
  fr : FRs H rv fss
  hW : H lW = some (.lst wv)
  fw : FL H wv ws
  hT : H lT = some (.lst tv)
  ft : FL H tv rts
  lr : fss.length = k
  lw : ws.length = k
  lt : rts.length = k
  row : ∀ (j : Nat) fs w, fss[j]? = some fs → ws[j]? = some w → fs.length = n ∧ HvR fs j w
  rt : ∀ r ∈ rts, Rt r
  wt : ∀ w ∈ ws, Wt w
  nr : ∀ (j : Nat) b, rv[j]? = some (V.ref b) → b ≠ lR ∧ b ≠ lW ∧ b ≠ lT
theorem snoc_at {α : Type} {xs : List α} {y z : α} {j : Nat} (h : (xs ++ [y])[j]? = some z) : (j < xs.length ∧ xs[j]? = some z) ∨ (j = xs.length ∧ z = y) := by
  by_cases hj : j < xs.length
  · rw [List.getElem?_append_left hj] at h
    exact .inl ⟨hj, h⟩
  · rw [List.getElem?_append_right (by omega)] at h
    have e0 : j - xs.length = 0 := by
      cases e : j - xs.length with
      | zero => rfl
      | succ m => rw [e] at h; simp at h
    rw [e0, List.getElem?_cons_zero] at h
    exact .inr ⟨by omega, (Option.some.inj h).symm⟩
theorem wt_lw {t b : Int} (t1 : 1 ≤ t) (t9 : t ≤ 9) (b1 : 1 ≤ b) (b6 : b ≤ 6) : Wt (Ac.lw t b) := by
  have p := Ac.lw_pos (t := t) (b := b) (by omega)
  have e := Ac.lw_eq (t := t) (b := b) (by omega)
  have s := Ac.lw_b1 t b
  have d : (Ac.lw t b).2 ∣ b := ⟨((Int.gcd t b : Nat) : Int), (Int.ediv_mul_cancel (Int.gcd_dvd_right t b)).symm⟩
  have p1 : 0 < (Ac.lw t b).1 := by
    have : 0 < (Ac.lw t b).1 * b := by rw [e]; exact Int.mul_pos (by omega) p
    exact Int.pos_of_mul_pos_left this (by omega)
  exact ⟨p1, by omega, p, Int.dvd_trans d (d60_of b1 b6)⟩
theorem d27720 {b : Int} (h1 : 1 ≤ b) (h2 : b ≤ 12) : b ∣ 27720 := by
  obtain rfl | rfl | rfl | rfl | rfl | rfl | rfl | rfl | rfl | rfl | rfl | rfl : b = 1 ∨ b = 2 ∨ b = 3 ∨ b = 4 ∨ b = 5 ∨ b = 6 ∨ b = 7 ∨ b = 8 ∨ b = 9 ∨ b = 10 ∨ b = 11 ∨ b = 12 := by omega
  all_goals decide
theorem rt_lw {t b : Int} (t1 : -999 ≤ t) (t9 : t ≤ 999) (b1 : 1 ≤ b) (b12 : b ≤ 12) : Rt (Ac.lw t b) := by
  have p := Ac.lw_pos (t := t) (b := b) (by omega)
  have s := Ac.lw_b1 t b
  have d : (Ac.lw t b).2 ∣ b := ⟨((Int.gcd t b : Nat) : Int), (Int.ediv_mul_cancel (Int.gcd_dvd_right t b)).symm⟩
  exact ⟨p, Ac.lw_gcd (by omega), Int.dvd_trans d (d27720 b1 b12), by omega⟩
def jL19 (a lN lR lW lT : Addr) (n : Nat) (H1 : Hp) (k : Nat) (σ : L2.St) (H : Hp) : Prop := ∃ (u6 u11 u12 : Option V) (rv wv tv : List V) (fss : List (List (Int × Int))) (ws rts : List (Int × Int)), σ = [some (.ref a), some (.int n), some (.ref lN), some (.ref lR), some (.ref lW), some (.ref lT), u6, none, none, none, none, u11, u12, none, none, none, none] ∧ Ls19 H1 H lR lW lT n k rv wv tv fss ws rts
theorem ok_law {f : Addr} {fd : FuncData} (F : Fun K nm_law nm_law s_law f fd) (T : Txt K mg D) (G_cell : ∀ a ns, OkF P w K mg base 1 nm_cell ps_cell (sp_cell K a ns)) (G_stream : ∀ a ns, OkF P w K mg base 2 nm_stream ps_stream (sp_stream14 K a ns)) (G_lratio : OkF P w K mg base 2 nm_lratio ps_lratio sp_lratio) (G_heavy : OkF P w K mg base 4 nm_heavy ps_heavy sp_heavy) (G_only_answer : OkF P w K mg base 8 nm_only_answer ps_only_answer sp_only_answer) (G_fractions : OkF P w K mg base 3 nm_fractions ps_fractions sp_fractions14) (G_comes : OkF P w K mg base 2 nm_comes ps_comes sp_comes) : FnOk P w K mg base CX0 9 f fd ps_law (spLaw K) := by
  refine F.ok sc_law (fun vs H Q E h => ?_) (fun cdv A outer s H vs Q E hr h => ?_)
  · obtain ⟨a, ns, rfl, _⟩ := h
    rfl
  · obtain ⟨a, ns, rfl, hs, hl, q⟩ := h
    have G_cell := G_cell a ns
    have G_stream := G_stream a ns
    refine ⟨_, (pss_cons (ps_set (i := 1) sc_law.nd rfl (Or.inl rfl) (pe_op op_add pe_int (pe_op op_mod (pe_callF G_cell (hr.mono (by decide)) (by rfl) (pa_cons (pv 0) (pa_cons pe_int pa_nil))) pe_int)))
      (pss_cut (ps_if (pt_cmpR op_eq (pe_op op_mod (pe_op op_fdivB (pe_op op_mod (pe_callF G_cell (hr.mono (by decide)) (by rfl) (pa_cons (pv 0) (pa_cons pe_int pa_nil))) pe_int) pe_int) pe_int) pe_int (nomark _))
        (pss_one (ps_set (i := 1) sc_law.nd rfl (Or.inl rfl) pe_int))
        pss_nil)
      (pss_cons (ps_set (i := 2) sc_law.nd rfl (Or.inl rfl) (pe_callF G_stream (hr.mono (by decide)) (by rfl) (pa_cons (pv 0) (pa_cons pe_int (pa_cons (pe_op op_add (pe_op op_mulB (pv 1) (pv 1)) (pe_op op_mulB pe_int (pv 1))) pa_nil)))))
      (pss_cons (ps_set (i := 3) sc_law.nd rfl (Or.inl rfl) (pe_lst pa_nil))
      (pss_cons (ps_set (i := 4) sc_law.nd rfl (Or.inl rfl) (pe_lst pa_nil))
      (pss_cons (ps_set (i := 5) sc_law.nd rfl (Or.inl rfl) (pe_lst pa_nil))
      (pss_cut (ps_for PassesOwn.never rfl (pi_range1 (by rfl) T.b_range (pa_cons (pv 1) pa_nil).mono) (pg_name (i := 6) sc_law.nd rfl (Or.inl rfl))
        (pss_cons (ps_set (i := 11) sc_law.nd rfl (Or.inl rfl) (pe_ix ix_listH (pv 2) (pe_op op_add (pe_op op_add (pe_op op_mulB (pv 1) (pv 6)) (pv 1)) (pv 6)) (fun _ _ => rfl)))
        (pss_cons (ps_expr (pe_app (pv 4) (pa_cons (pe_callF G_lratio (hr.mono (by decide)) (by rfl) (pa_cons (pe_op op_add pe_int (pe_op op_mod (pv 11) pe_int)) (pa_cons (pe_op op_add pe_int (pe_op op_mod (pe_op op_fdivB (pv 11) pe_int) pe_int)) pa_nil))) pa_nil)))
        (pss_cons (ps_set (i := 12) sc_law.nd rfl (Or.inl rfl) (pe_slice sl_list (pv 2) (po_some (pe_op op_add (pe_op op_mulB (pv 1) (pv 6)) (pv 6))) (po_some (pe_op op_add (pe_op op_add (pe_op op_mulB (pv 1) (pv 6)) (pv 1)) (pv 6)))))
        (pss_cons (ps_expr (pe_app (pv 3) (pa_cons (pe_callF G_heavy (hr.mono (by decide)) (by rfl) (pa_cons (pv 12) (pa_cons (pv 6) (pa_cons (pe_ix ix_listH (pv 4) (pv 6) (fun _ _ => rfl)) (pa_cons (pe_cmpR op_eq (pe_op op_mod (pe_op op_fdivB (pv 11) pe_int) pe_int) pe_int (nomark _)) pa_nil))))) pa_nil)))
        (pss_cons (ps_set (i := 11) sc_law.nd rfl (Or.inl rfl) (pe_ix ix_listH (pv 2) (pe_op op_add (pe_op op_add (pe_op op_mulB (pv 1) (pv 1)) (pv 1)) (pv 6)) (fun _ _ => rfl)))
        (pss_one (ps_expr (pe_app (pv 5) (pa_cons (pe_callF G_lratio (hr.mono (by decide)) (by rfl) (pa_cons (pe_op op_sub (pe_op op_mod (pv 11) pe_int) pe_int) (pa_cons (pe_op op_add pe_int (pe_op op_mod (pe_op op_fdivB (pv 11) pe_int) pe_int)) pa_nil))) pa_nil))))))))))
      (pss_cons (ps_compGF (defScope s_law) ["_law_script", "_law_many", "_law_numbers", "_law_rows", "_law_weights", "_law_rights", "_law_k", "_law_handed", "_law_told", "_law_found", "_law_one", "_law_number", "_law_some", "_law_bounds", "_law_weight", "_law_right", "_law_mine"] ["_law_script", "_law_many", "_law_numbers", "_law_rows", "_law_weights", "_law_rights", "_law_k", "_law_handed", "_law_told", "_law_found", "_law_one", "_law_number", "_law_some", "_law_bounds", "_law_weight", "_law_right", "_law_mine"] ["_law_row"] rfl rfl rfl (by decide +kernel) (by decide +kernel) rfl (by decide +kernel) (by decide +kernel) (by decide +kernel) (by decide +kernel) (by decide +kernel) (pi_list ((pv 3)).mono) (fun _ _ _ _ _ => (pg_name (i := 0) (show List.Nodup (["_law_row", "_law_script", "_law_many", "_law_numbers", "_law_rows", "_law_weights", "_law_rights", "_law_k", "_law_handed", "_law_told", "_law_found", "_law_one", "_law_number", "_law_some", "_law_bounds", "_law_weight", "_law_right", "_law_mine"] : List Str) from by decide +kernel) rfl (Or.inl rfl) (Or.inr rfl))) (fun _ _ _ _ _ => pts_nil) (fun _ _ _ _ _ => (pe_callTy call_listH (by rfl) T.b_list boot_list (pa_cons (pv 0) pa_nil))) (pg_name (i := 7) sc_law.nd rfl (Or.inl rfl)))
      (pss_cons (ps_set (i := 8) sc_law.nd rfl (Or.inl rfl) (pe_callTy call_listH (by rfl) T.b_list boot_list (pa_cons (pv 5) pa_nil)))
      (pss_cons (ps_set (i := 9) sc_law.nd rfl (Or.inr rfl) (pe_callF G_only_answer (hr.mono (by decide)) (by rfl) (pa_cons (pv 7) (pa_cons (pv 8) pa_nil))))
      (pss_cons (ps_if (pw_or (pt_not (pt_tru (pe_callF G_fractions (hr.mono (by decide)) (by rfl) (pa_cons (pv 9) (pa_cons (pv 1) pa_nil))) (fun _ => rfl))) (pw_or (pt_cmpR (op_neR hr.units) (pv 7) (pv 3) (nomark _)) (pw_or1 (pt_cmpR (op_neR hr.units) (pv 8) (pv 5) (nomark _))))).pt
        (pss_one (ps_ret pe_bl))
        pss_nil)
      (pss_cut (ps_for PassesOwn.never rfl (pi_list ((pv 9)).mono) (pg_name (i := 10) sc_law.nd rfl (Or.inl rfl))
        (pss_cons (ps_set (i := 13) sc_law.nd rfl (Or.inl rfl) (pe_lst pa_nil))
        (pss_cons (ps_for PassesOwn.never rfl (pi_zip (by rfl) T.b_zip (pa_cons (pv 4) (pa_cons (pv 5) pa_nil)).mono) (pg_tupH (n := 2) rfl (pgs_cons (pg_name (i := 14) sc_law.nd rfl (Or.inl rfl)) (pgs_cons (pg_name (i := 15) sc_law.nd rfl (Or.inl rfl)) pgs_nil)))
          (pss_cons (ps_set (i := 16) sc_law.nd rfl (Or.inl rfl) (pe_op op_mulB (pe_op op_mulB (pe_callB call_abs (by rfl) T.b_abs boot_abs (pa_cons (pe_ix ix_tupH (pv 10) pe_int (fun _ _ => rfl)) pa_nil)) (pe_ix ix_tupH (pv 14) pe_int (fun _ _ => rfl))) (pe_ix ix_tupH (pv 15) pe_int (fun _ _ => rfl))))
          (pss_one (ps_expr (pe_app (pv 13) (pa_cons (pe_cmpR op_le (pv 16) (pe_op op_mulB (pe_op op_mulB (pe_callB call_abs (by rfl) T.b_abs boot_abs (pa_cons (pe_ix ix_tupH (pv 15) pe_int (fun _ _ => rfl)) pa_nil)) (pe_ix ix_tupH (pv 14) pe_int (fun _ _ => rfl))) (pe_ix ix_tupH (pv 10) pe_int (fun _ _ => rfl))) (nomark _)) pa_nil))))))
        (pss_one (ps_if (pt_not (pt_tru (pe_callB (call_anyH rfl) (by rfl) T.b_any boot_any (pa_cons (pv 13) pa_nil)) (fun _ => rfl)))
          (pss_one (ps_ret pe_bl))
          pss_nil)))))
      (pss_one (ps_ret (pe_callB (call_allH rfl) (by rfl) T.b_all boot_all (pa_cons (pe_compGF (defScope s_law) ["_law_script", "_law_many", "_law_numbers", "_law_rows", "_law_weights", "_law_rights", "_law_k", "_law_handed", "_law_told", "_law_found", "_law_one", "_law_number", "_law_some", "_law_bounds", "_law_weight", "_law_right", "_law_mine"] ["_law_script", "_law_many", "_law_numbers", "_law_rows", "_law_weights", "_law_rights", "_law_k", "_law_handed", "_law_told", "_law_found", "_law_one", "_law_number", "_law_some", "_law_bounds", "_law_weight", "?_law_right", "_law_mine"] ["_law_row", "_law_right"] rfl rfl rfl (by decide +kernel) (by decide +kernel) rfl (by decide +kernel) (by decide +kernel) (by decide +kernel) (by decide +kernel) (by decide +kernel) (pi_zip (by rfl) T.b_zip (pa_cons (pv 3) (pa_cons (pv 5) pa_nil)).mono) (fun _ _ _ _ _ => (pg_tupH (n := 2) rfl (pgs_cons (pg_name (i := 0) (show List.Nodup (["_law_row", "_law_right", "_law_script", "_law_many", "_law_numbers", "_law_rows", "_law_weights", "_law_rights", "_law_k", "_law_handed", "_law_told", "_law_found", "_law_one", "_law_number", "_law_some", "_law_bounds", "_law_weight", "?_law_right", "_law_mine"] : List Str) from by decide +kernel) rfl (Or.inl rfl) (Or.inr rfl)) (pgs_cons (pg_name (i := 1) (show List.Nodup (["_law_row", "_law_right", "_law_script", "_law_many", "_law_numbers", "_law_rows", "_law_weights", "_law_rights", "_law_k", "_law_handed", "_law_told", "_law_found", "_law_one", "_law_number", "_law_some", "_law_bounds", "_law_weight", "?_law_right", "_law_mine"] : List Str) from by decide +kernel) rfl (Or.inl rfl) (Or.inr rfl)) pgs_nil)))) (fun _ _ _ _ _ => pts_nil) (fun _ _ _ _ _ => (pe_callF G_comes (hr.mono (by decide)) (by rfl) (pa_cons (pv 0) (pa_cons (pv 11) (pa_cons (pv 1) pa_nil)))))) pa_nil)))))))))))))))), ?_⟩
    have p2 : (0 : Int) < 2 := by decide
    have p5 : (0 : Int) < 5 := by decide
    have p6 : (0 : Int) < 6 := by decide
    have p9 : (0 : Int) < 9 := by decide
    have p12 : (0 : Int) < 12 := by decide
    have p16 : (0 : Int) < 16 := by decide
    have pr : (0 : Int) < 1999 := by decide
    have pn : (0 : Int) < 1000003 := by decide
    have d5 : (5 : Int) ≠ 0 ∧ Bd 5 := ⟨by decide, Bd.sm (by decide)⟩
    have d9 : (9 : Int) ≠ 0 ∧ Bd 9 := ⟨by decide, Bd.sm (by decide)⟩
    have d54 : (54 : Int) ≠ 0 ∧ Bd 54 := ⟨by decide, Bd.sm (by decide)⟩
    have dr : (1999 : Int) ≠ 0 ∧ Bd 1999 := ⟨by decide, Bd.sm (by decide)⟩
    refine ⟨_, rfl, 0, rfl, hs, hl, by decide, _, 5, rfl, rfl, p5, _, _, rfl, rfl, fun σ' H' => H' = H ∧ ∃ n : Nat, 1 ≤ n ∧ n ≤ 6 ∧ σ' = [some (.ref a), some (.int n), none, none, none, none, none, none, none, none, none, none, none, none, none, none, none], ?_, ?_⟩
    · refine ⟨_, rfl, 0, rfl, hs, hl, by decide, _, 1000003, rfl, rfl, pn, _, 5, rfl, rfl, d5, _, 16, rfl, rfl, p16, rfl, _, rfl, ite2 (fun _ => ⟨rfl, 6, by decide, by decide, rfl⟩) fun _ => ?_⟩
      obtain ⟨n, hn⟩ : ∃ n : Nat, 1 + cell ns 0 % 5 = n := ⟨(1 + cell ns 0 % 5).toNat, by omega⟩
      refine ⟨rfl, n, by omega, by omega, ?_⟩
      show [some (V.ref a), some (V.int (1 + cell ns 0 % 5)), none, none, none, none, none, none, none, none, none, none, none, none, none, none, none] = _
      rw [hn]
    rintro σ' H' ⟨rfl, n, n1, n6, rfl⟩
    have bn : Bd (n : Int) := Bd.sm (by omega)
    have b2 : Bd 2 := Bd.sm (by decide)
    have nn : n * n ≤ 36 := Nat.le_trans (Nat.mul_le_mul n6 n6) (by decide)
    refine ⟨_, rfl, _, rfl, _, rfl, _, _, rfl, rfl, ⟨bn, bn⟩, _, rfl, 2, _, rfl, rfl, ⟨b2, bn⟩, _, _, rfl, rfl, 1, n * n + 2 * n, by rw [Int.natCast_add, Int.natCast_mul, Int.natCast_mul]; rfl, hs, hl, by decide, by omega, fun lN xs H1 S1 hN c1 xl xr => ?_⟩
    refine ⟨Nat.zero_le _, fun lR hlR => ⟨Nat.zero_le _, fun lW hlW => ⟨Nat.zero_le _, fun lT hlT => ⟨jL19 a lN lR lW lT n H1 n, ?_, ?_⟩⟩⟩⟩
    · have SR : Same H1 (upd H1 lR (.lst [])) := Same.upd hlR
      have SW := SR.trans (Same.upd (o := .lst []) hlW)
      have ST := SW.trans (Same.upd (o := .lst []) hlT)
      have eR : upd H1 lR (.lst []) lR = some (.lst []) := upd_same
      have nRW : lR ≠ lW := ne_of_none eR hlW
      have eR2 : upd (upd H1 lR (.lst [])) lW (.lst []) lR = some (.lst []) := (upd_ne nRW).trans eR
      have eW2 : upd (upd H1 lR (.lst [])) lW (.lst []) lW = some (.lst []) := upd_same
      have nRT : lR ≠ lT := ne_of_none eR2 hlT
      have nWT : lW ≠ lT := ne_of_none eW2 hlT
      have fR : H1 lR = none := hlR
      have fW : H1 lW = none := SR.free hlW
      have fT : H1 lT = none := SW.free hlT
      refine tFor_rngM ?_
      refine ⟨_, rfl, n, rfl, by omega, jL19 a lN lR lW lT n H1, ⟨none, none, none, [], [], [], [], [], [], rfl, ST, (upd_ne nRT).trans eR2, ⟨rfl, fun k v e => by simp at e⟩, (upd_ne nWT).trans eW2, .nil, upd_same, .nil, rfl, rfl, rfl, fun j fs w e => by simp at e, by simp, by simp, by simp⟩, ?_, ?_⟩
      · rintro k σ' H2 hk ⟨u6, u11, u12, rv, wv, tv, fss, ws, rts, rfl, L⟩
        have bk : Bd (k : Int) := Bd.sm (by omega)
        have nk : n * k + n ≤ n * n := by
          have := Nat.mul_le_mul (Nat.le_refl n) (show k + 1 ≤ n by omega)
          rwa [Nat.mul_add, Nat.mul_one] at this
        have ix : ∀ m : Nat, m < xs.length → ∃ x, atI (xs.map V.int) (m : Int) = some (V.int x) ∧ 0 ≤ x := fun m hm => ⟨xs[m], atI_nat (by rw [List.getElem?_map, List.getElem?_eq_getElem hm]; rfl), (xr _ (List.getElem_mem hm)).1⟩
        obtain ⟨x1, ex1, x10⟩ := ix (n * k + n + k) (by omega)
        rw [Int.natCast_add, Int.natCast_add, Int.natCast_mul] at ex1
        obtain ⟨x2, ex2, x20⟩ := ix (n * n + n + k) (by omega)
        rw [Int.natCast_add, Int.natCast_add, Int.natCast_mul] at ex2
        have hN2 := L.same _ _ c1
        have wl := L.fw.length
        rw [L.lw] at wl
        have tl := L.ft.length
        rw [L.lt] at tl
        have rl := L.fr.len
        rw [L.lr] at rl
        refine ⟨_, rfl, _, rfl, _, rfl, _, _, rfl, rfl, ⟨bn, bk⟩, _, rfl, _, _, rfl, rfl, _, rfl, _, _, rfl, rfl, lN, _, _, _, rfl, rfl, hN2, ex1, ?_⟩
        refine ⟨_, rfl, lW, wv, rfl, L.hW, _, rfl, _, 9, rfl, rfl, p9, _, _, rfl, rfl, _, rfl, _, 9, rfl, rfl, d9, _, 6, rfl, rfl, p6, _, _, rfl, rfl, _, _, rfl, by omega, Bd.sm (by omega), fun r hr' => ?_⟩
        have wt1 : Wt (Ac.lw (1 + x1 % 9) (1 + x1.fdiv 9 % 6)) := wt_lw (by omega) (by omega) (by omega) (by omega)
        generalize Ac.lw (1 + x1 % 9) (1 + x1.fdiv 9 % 6) = w1 at wt1 ⊢
        have T3 : Same H2 (upd H2 r (.tup [.int w1.1, .int w1.2])) := Same.upd hr'
        have e3 : upd H2 r (.tup [.int w1.1, .int w1.2]) r = some (.tup [.int w1.1, .int w1.2]) := upd_same
        generalize upd H2 r (.tup [.int w1.1, .int w1.2]) = H3 at T3 e3 ⊢
        refine ⟨_, wv, rfl, T3 _ _ L.hW, by rw [wl]; exact Nat.lt_of_lt_of_le (show k < 64 by omega) (by decide), ?_⟩
        -- the weights, one more
        have W4 : upd H3 lW (.lst (wv ++ [.ref r])) lW = some (.lst (wv ++ [.ref r])) := upd_same
        have R4 : upd H3 lW (.lst (wv ++ [.ref r])) lR = some (.lst rv) := (upd_ne nRW).trans (T3 _ _ L.hR)
        have T4 : upd H3 lW (.lst (wv ++ [.ref r])) lT = some (.lst tv) := (upd_ne nWT.symm).trans (T3 _ _ L.hT)
        have fw4 : FL (upd H3 lW (.lst (wv ++ [.ref r]))) (wv ++ [.ref r]) (ws ++ [w1]) := ((L.fw.same T3).append (.cons e3 .nil)).updL (T3 _ _ L.hW)
        have ft4 : FL (upd H3 lW (.lst (wv ++ [.ref r]))) tv rts := (L.ft.same T3).updL (T3 _ _ L.hW)
        have fr4 : FRs (upd H3 lW (.lst (wv ++ [.ref r]))) rv fss := FRs.updL (T3 _ _ L.hW) (L.fr.same T3) fun j b e => (L.nr j b e).2.1
        have S4 : Same H1 (upd H3 lW (.lst (wv ++ [.ref r]))) := same_upd fW (L.same.trans T3)
        have er4 : upd H3 lW (.lst (wv ++ [.ref r])) r = some (.tup [.int w1.1, .int w1.2]) := (upd_ne (ne_of e3 (T3 _ _ L.hW) (by intro z; cases z))).trans e3
        generalize upd H3 lW (.lst (wv ++ [.ref r])) = H4 at *
        refine ⟨_, rfl, _, rfl, _, rfl, _, _, rfl, rfl, ⟨bn, bk⟩, _, rfl, _, _, rfl, rfl, _, rfl, _, rfl, _, rfl, _, _, rfl, rfl, ⟨bn, bk⟩, _, rfl, _, _, rfl, rfl, _, rfl, _, _, rfl, rfl, _, rfl, lN, xs.map V.int, rfl, .inl (.of (S4 _ _ c1)), fun lS hlS => ?_⟩
        have ecut : cutV (xs.map V.int) (some ((n : Int) * k + k)) (some ((n : Int) * k + n + k)) = ((xs.drop (n * k + k)).take n).map V.int := by
          unfold cutV
          rw [show (n : Int) * k + k = ((n * k + k : Nat) : Int) by rw [Int.natCast_add, Int.natCast_mul], show (n : Int) * k + n + k = ((n * k + n + k : Nat) : Int) by rw [Int.natCast_add, Int.natCast_add, Int.natCast_mul], HT.sIx_nat, HT.sIx_nat, List.length_map, Nat.min_eq_left (by omega), Nat.min_eq_left (by omega), show n * k + n + k - (n * k + k) = n by omega, List.map_take, List.map_drop]
        have ml : ((xs.drop (n * k + k)).take n).length = n := by rw [List.length_take, List.length_drop]; omega
        have mr : ∀ x ∈ (xs.drop (n * k + k)).take n, 0 ≤ x := fun x h => (xr x (List.mem_of_mem_drop (List.mem_of_mem_take h))).1
        have T5 := Same.upd (o := .lst (cutV (xs.map V.int) (some ((n : Int) * k + k)) (some ((n : Int) * k + n + k)))) hlS
        have e5 : upd H4 lS (.lst (cutV (xs.map V.int) (some ((n : Int) * k + k)) (some ((n : Int) * k + n + k)))) lS = some (.lst (((xs.drop (n * k + k)).take n).map V.int)) := by rw [ecut]; exact upd_same
        generalize (xs.drop (n * k + k)).take n = ms at ml mr e5
        dsimp only
        generalize upd H4 lS (.lst (cutV (xs.map V.int) (some ((n : Int) * k + k)) (some ((n : Int) * k + n + k)))) = H5 at T5 e5 ⊢
        have eW : atI (wv ++ [V.ref r]) (k : Int) = some (.ref r) := atI_nat (by rw [List.getElem?_append_right (by omega), wl, Nat.sub_self]; rfl)
        refine ⟨_, rfl, lR, rv, rfl, T5 _ _ R4, _, rfl, _, rfl, _, rfl, _, rfl, lW, _, k, _, rfl, rfl, T5 _ _ W4, eW, _, rfl, _, 54, rfl, rfl, d54, _, 2, rfl, rfl, p2, rfl, lS, r, ms, k, w1, _, rfl, e5, mr, by omega, by omega, T5 _ _ er4, wt1.p1, wt1.l1, wt1.p2, wt1.d, fun p zs H6 fs S6 hp c6 f6 l6 hv6 => ?_⟩
        have T56 := T5.trans S6
        have R6 := T56 _ _ R4
        refine ⟨_, rv, rfl, R6, by rw [rl]; exact Nat.lt_of_lt_of_le (show k < 64 by omega) (by decide), ?_⟩
        have np : p ≠ lR ∧ p ≠ lW ∧ p ≠ lT := ⟨(ne_of_none (T5 _ _ R4) hp).symm, (ne_of_none (T5 _ _ W4) hp).symm, (ne_of_none (T5 _ _ T4) hp).symm⟩
        have R7 : upd H6 lR (.lst (rv ++ [.ref p])) lR = some (.lst (rv ++ [.ref p])) := upd_same
        have W7 : upd H6 lR (.lst (rv ++ [.ref p])) lW = some (.lst (wv ++ [.ref r])) := (upd_ne nRW.symm).trans (T56 _ _ W4)
        have T7 : upd H6 lR (.lst (rv ++ [.ref p])) lT = some (.lst tv) := (upd_ne nRT.symm).trans (T56 _ _ T4)
        have fr7 : FRs (upd H6 lR (.lst (rv ++ [.ref p]))) (rv ++ [.ref p]) (fss ++ [fs]) := FRs.snoc (FRs.updL R6 (fr4.same T56) fun j b e => (L.nr j b e).1) ((upd_ne np.1).trans c6) (f6.updL R6)
        have fw7 : FL (upd H6 lR (.lst (rv ++ [.ref p]))) (wv ++ [.ref r]) (ws ++ [w1]) := (fw4.same T56).updL R6
        have ft7 : FL (upd H6 lR (.lst (rv ++ [.ref p]))) tv rts := (ft4.same T56).updL R6
        have S7 : Same H1 (upd H6 lR (.lst (rv ++ [.ref p]))) := same_upd fR (S4.trans T56)
        generalize upd H6 lR (.lst (rv ++ [.ref p])) = H7 at *
        refine ⟨_, rfl, _, rfl, _, rfl, _, _, rfl, rfl, ⟨bn, bn⟩, _, rfl, _, _, rfl, rfl, _, rfl, _, _, rfl, rfl, lN, _, _, _, rfl, rfl, S7 _ _ c1, ex2, ?_⟩
        refine ⟨_, rfl, lT, tv, rfl, T7, _, rfl, _, 1999, rfl, rfl, pr, _, 999, rfl, rfl, _, rfl, _, 1999, rfl, rfl, dr, _, 12, rfl, rfl, p12, _, _, rfl, rfl, _, _, rfl, by omega, Bd.sm (by omega), fun t8 ht8 => ?_⟩
        have rt1 : Rt (Ac.lw (x2 % 1999 - 999) (1 + x2.fdiv 1999 % 12)) := rt_lw (by omega) (by omega) (by omega) (by omega)
        generalize Ac.lw (x2 % 1999 - 999) (1 + x2.fdiv 1999 % 12) = r1 at rt1 ⊢
        have T8 : Same H7 (upd H7 t8 (.tup [.int r1.1, .int r1.2])) := Same.upd ht8
        have e8 : upd H7 t8 (.tup [.int r1.1, .int r1.2]) t8 = some (.tup [.int r1.1, .int r1.2]) := upd_same
        generalize upd H7 t8 (.tup [.int r1.1, .int r1.2]) = H8 at T8 e8 ⊢
        have T8T := T8 _ _ T7
        refine ⟨_, tv, rfl, T8T, by rw [tl]; exact Nat.lt_of_lt_of_le (show k < 64 by omega) (by decide), ?_⟩
        have nr7 : ∀ (j : Nat) b, (rv ++ [V.ref p])[j]? = some (V.ref b) → b ≠ lR ∧ b ≠ lW ∧ b ≠ lT := fun j b e => by
          rcases snoc_at e with ⟨_, y⟩ | ⟨_, y⟩
          · exact L.nr j b y
          · cases y; exact np
        refine ⟨_, _, _, rv ++ [.ref p], wv ++ [.ref r], tv ++ [.ref t8], fss ++ [fs], ws ++ [w1], rts ++ [r1], rfl, same_upd fT (S7.trans T8), (upd_ne nRT).trans (T8 _ _ R7), FRs.updL T8T (fr7.same T8) fun j b e => (nr7 j b e).2.2, (upd_ne nWT).trans (T8 _ _ W7), (fw7.same T8).updL T8T, upd_same, ((ft7.same T8).append (.cons e8 .nil)).updL T8T, by rw [List.length_append, L.lr]; rfl, by rw [List.length_append, L.lw]; rfl, by rw [List.length_append, L.lt]; rfl, fun j gs w' eg ew => ?_, fun x hx => ?_, fun x hx => ?_, nr7⟩
        · rcases snoc_at eg with ⟨y1, y2⟩ | ⟨y1, y2⟩
          · rcases snoc_at ew with ⟨z1, z2⟩ | ⟨z1, z2⟩
            · exact L.row j gs w' y2 z2
            · rw [L.lw] at z1
              rw [L.lr] at y1
              omega
          · rcases snoc_at ew with ⟨z1, z2⟩ | ⟨z1, z2⟩
            · rw [L.lw] at z1
              rw [L.lr] at y1
              omega
            · rw [y2, z2, y1, L.lr]
              exact ⟨by rw [l6, ml], hv6⟩
        · rcases List.mem_append.mp hx with y | y
          · exact L.rt x y
          · rw [List.mem_singleton.mp y]; exact rt1
        · rcases List.mem_append.mp hx with y | y
          · exact L.wt x y
          · rw [List.mem_singleton.mp y]; exact wt1
      · rintro σ' H2 j
        exact j
    rintro σ' H2 ⟨u6, u11, u12, rv, wv, tv, fss, ws, rts, rfl, L⟩
    have dd : Drn n fss rts ws := ⟨L.lr, L.lt, L.lw, n1, n6, L.row, L.rt, L.wt⟩
    have wl := L.fw.length
    rw [L.lw] at wl
    have tl := L.ft.length
    rw [L.lt] at tl
    have rl := L.fr.len
    rw [L.lr] at rl
    have fw_ : ∀ fs ∈ fss, fs.length = n ∧ ∀ f ∈ fs, Md f := fun fs hf => by
      obtain ⟨k, hk, rfl⟩ := List.mem_iff_getElem.mp hf
      obtain ⟨gs, r, w', e1, _, _, l1, hv1, _⟩ := dd.get (k := k) (by rw [← L.lr]; exact hk)
      rw [List.getElem?_eq_getElem hk] at e1
      cases e1
      exact ⟨l1, hv1.md⟩
    refine seq_asg (cp_rows15 rfl L.hR L.fr (by rw [L.lr]; omega) fun h ah H3 S3 hh c3 f3 _ _ => ?_)
    refine ⟨_, rfl, lT, tv, rfl, S3 _ _ L.hT, fun t4 ht4 => ?_⟩
    have T4 : Same H3 (upd H3 t4 (.lst tv)) := Same.upd ht4
    have e4 : upd H3 t4 (.lst tv) t4 = some (.lst tv) := upd_same
    generalize upd H3 t4 (.lst tv) = H4 at T4 e4 ⊢
    have S4 := S3.trans T4
    refine ⟨_, rfl, _, rfl, h, t4, _, tv, fss, rts, n, N19, rfl, T4 _ _ c3, f3.same T4, e4, L.ft.same S4, L.lr, L.lt, n1, by omega, fun fs hf => (fw_ fs hf).1, fun gs hg => ⟨fun g hgg => let ⟨_, _, _, kk⟩ := dd.rn gs hg; (kk g hgg).1, (dd.rn gs hg).big⟩, by decide, Nat.le_trans (gr_mono (by decide) n6) (by decide +kernel), dd.inj, fun x zs H5 rsE S5 hx c5 el bnd ker fx => ?_⟩
    have lo := ansX_lo el bnd
    have fx : FL H5 zs (ansX rsE n) := fx
    have zl : zs.length = n := by rw [fx.length]; exact ansX_len
    have S45 := S4.trans S5
    have nt : ¬ (!true) = true := by decide
    have ne : ¬ (if true = true then !PyData.eqv (.list (fss.map rwD)) (.list (fss.map rwD)) else PyData.eqv (.list (fss.map rwD)) (.list (fss.map rwD))) = true := by
      rw [if_pos rfl, (two_rows fss).2]; decide
    refine ⟨_, rfl, _, rfl, x, zs, ansX rsE n, n, rfl, c5, fx, ansX_len, by omega, lo, fun H6 S6 => ⟨_, rfl, ite2 (fun z => absurd z nt) fun _ => ?_⟩⟩
    have S56 := S5.trans S6
    have S26 := S4.trans S56
    refine ⟨_, rfl, _, rfl, _, _, .lst (S56 _ _ (T4 _ _ c3)) (f3.same (T4.trans S56)).shows, .lst (S26 _ _ L.hR) (L.fr.same S26).shows, (two_rows fss).1, (two_rows fss).1, _, rfl, ite2 (fun z => absurd z ne) fun _ => ?_⟩
    refine ⟨_, rfl, _, rfl, _, _, .lst (S56 _ _ e4) (L.ft.same S26).shows, .lst (S26 _ _ L.hT) (L.ft.same S26).shows, shaped_frs _, shaped_frs _, _, rfl, ite2 (fun z => absurd z (by rw [if_pos rfl, eqv_frs]; decide)) fun _ => ?_⟩
    have c6 := S6 _ _ c5
    have fx6 := fx.same S6
    have hR6 := S26 _ _ L.hR
    have hW6 := S26 _ _ L.hW
    have hT6 := S26 _ _ L.hT
    have fr6 := L.fr.same S26
    have fw6 := L.fw.same S26
    have ft6 := L.ft.same S26
    clear S56 S26 S6 S45 S5 e4 T4 c3 f3
    refine ⟨fun σ' H' => ∃ u10 u13 u14 u15 u16, σ' = [some (.ref a), some (.int n), some (.ref lN), some (.ref lR), some (.ref lW), some (.ref lT), u6, some (.ref h), some (.ref t4), some (.ref x), u10, u11, u12, u13, u14, u15, u16] ∧ Same H6 H', ?_, ?_⟩
    · refine tFor_listM ?_
      refine ⟨_, rfl, x, zs, rfl, c6, fun i σ' H' => ∃ u10 u13 u14 u15 u16, σ' = [some (.ref a), some (.int n), some (.ref lN), some (.ref lR), some (.ref lW), some (.ref lT), u6, some (.ref h), some (.ref t4), some (.ref x), u10, u11, u12, u13, u14, u15, u16] ∧ Same H6 H', ⟨none, none, none, none, none, rfl, Same.refl _⟩, ?_, fun σ' H' j _ => j⟩
      rintro i v σ' H7 hi ⟨u10, u13, u14, u15, u16, rfl, S7⟩ hx7
      obtain ⟨pi, xi, rfl, exi, hpi⟩ := fx6.get hi
      have inn : i < n := by rw [← zl]; exact (List.getElem?_eq_some_iff.mp hi).1
      have lxi := lo xi (List.mem_of_getElem? exi)
      obtain ⟨m, wm, rm, hm, ewm, erm, hbm⟩ := dd.bound el bnd ker inn exi
      refine ⟨Nat.zero_le _, fun lB hlB => seq_of (tFor_zipM ?_)⟩
      have S8 : Same H7 (upd H7 lB (.lst [])) := Same.upd hlB
      have S68 := S7.trans S8
      refine ⟨_, rfl, _, rfl, lW, lT, wv, tv, rfl, S68 _ _ hW6, S68 _ _ hT6, by omega, fun m' σ' H' => ∃ u14 u15 u16, σ' = [some (.ref a), some (.int n), some (.ref lN), some (.ref lR), some (.ref lW), some (.ref lT), u6, some (.ref h), some (.ref t4), some (.ref x), some (.ref pi), u11, u12, some (.ref lB), u14, u15, u16] ∧ Same H7 H' ∧ H' lB = some (.lst (((List.zipWith (fun w r : Int × Int => decide ((xi.1.natAbs : Int) * w.1 * r.2 ≤ (r.1.natAbs : Int) * w.2 * xi.2)) ws rts).take m').map V.bl)), ⟨_, _, _, rfl, S8, upd_same⟩, ?_, ?_⟩
      · rintro m' y1 y2 σ' H9 tt hy1 hy2 ⟨v14, v15, v16, rfl, S9, hB9⟩ hW9 hT9 htt
        obtain ⟨pw, w', rfl, ew, hpw⟩ := fw6.get hy1
        obtain ⟨pq, r', rfl, er, hpq⟩ := ft6.get hy2
        have wt' := L.wt w' (List.mem_of_getElem? ew)
        have rt' := L.rt r' (List.mem_of_getElem? er)
        have T10 : Same H9 (upd H9 tt (.tup [.ref pw, .ref pq])) := Same.upd htt
        have e10 : upd H9 tt (.tup [.ref pw, .ref pq]) tt = some (.tup [.ref pw, .ref pq]) := upd_same
        generalize upd H9 tt (.tup [.ref pw, .ref pq]) = H10 at T10 e10 ⊢
        have S710 := S9.trans T10
        have S610 := S7.trans S710
        have pi3 := S610 _ _ hpi
        have pw3 := S610 _ _ hpw
        have pq3 := S610 _ _ hpq
        have sm : ∀ {z : Int}, z.natAbs ≤ 30000 → z.natAbs ≤ NN := fun h => Nat.le_trans h (by decide +kernel)
        have w1b : w'.1.natAbs ≤ NN := sm (by have := wt'.p1; have := wt'.l1; omega)
        have w2b : w'.2.natAbs ≤ NN := sm (by have := Int.le_of_dvd (by decide) wt'.d; have := wt'.p2; omega)
        have r1b : ((r'.1.natAbs : Nat) : Int).natAbs ≤ NN := sm (by have := rt'.s; omega)
        have r2b : r'.2.natAbs ≤ NN := sm (by have := Int.le_of_dvd (by decide) rt'.d; have := rt'.pos; omega)
        have x1b : ((xi.1.natAbs : Nat) : Int).natAbs ≤ NN := by rw [Int.natAbs_natCast]; exact lxi.sa
        have ab : ∀ z : Int, (if z < 0 then -z else z) = ((z.natAbs : Nat) : Int) := fun z => by split <;> omega
        refine ⟨tt, _, rfl, e10, rfl, _, _, rfl, _, _, rfl, rfl, _, rfl, pi, _, 0, _, rfl, rfl, pi3, atI_0, xi.1, rfl, ?_⟩
        rw [ab]
        refine ⟨_, rfl, pw, _, 0, _, rfl, rfl, pw3, atI_0, _, _, rfl, rfl, ⟨bdN x1b, bdN w1b⟩, _, rfl, pq, _, 1, _, rfl, rfl, pq3, atI_1, _, _, rfl, rfl, ⟨bdN2 (mulN x1b w1b), bdN r2b⟩, ?_⟩
        refine ⟨_, rfl, lB, _, rfl, T10 _ _ hB9, _, rfl, _, rfl, pq, _, 0, _, rfl, rfl, pq3, atI_0, r'.1, rfl, ?_⟩
        rw [ab]
        have nl : ∀ c o, H6 c = some o → c ≠ lB := fun c o e => ne_of_none (S7 _ _ e) hlB
        refine ⟨_, rfl, pw, _, 1, _, rfl, rfl, pw3, atI_1, _, _, rfl, rfl, ⟨bdN r1b, bdN w2b⟩, _, rfl, pi, _, 1, _, rfl, rfl, pi3, atI_1, _, _, rfl, rfl, ⟨bdN2 (mulN r1b w2b), bdN lxi.sb⟩, _, _, rfl, rfl, _, _, rfl, T10 _ _ hB9, ?_, (upd_ne (nl _ _ hW6)).trans (T10 _ _ hW9), (upd_ne (nl _ _ hT6)).trans (T10 _ _ hT9), _, _, _, rfl, same_upd hlB S710, ?_⟩
        · rw [List.length_map, List.length_take, List.length_zipWith]
          exact Nat.lt_of_le_of_lt (Nat.min_le_right _ _) (Nat.lt_of_le_of_lt (Nat.min_le_left _ _) (Nat.lt_of_lt_of_le (show ws.length < 64 by rw [L.lw]; omega) (by decide)))
        · have en : (List.zipWith (fun w r : Int × Int => decide ((xi.1.natAbs : Int) * w.1 * r.2 ≤ (r.1.natAbs : Int) * w.2 * xi.2)) ws rts)[m']? = some (decide ((xi.1.natAbs : Int) * w'.1 * r'.2 ≤ (r'.1.natAbs : Int) * w'.2 * xi.2)) := by rw [List.getElem?_zipWith, ew, er]
          rw [take_next en, List.map_append]
          exact upd_same
      · rintro σ' H9 ⟨v14, v15, v16, rfl, S9, hB9⟩ hW9 hT9
        rw [wl, List.take_of_length_le (by rw [List.length_zipWith, L.lw, L.lt, Nat.min_self]; exact Nat.le_refl _)] at hB9
        have an : (List.zipWith (fun w r : Int × Int => decide ((xi.1.natAbs : Int) * w.1 * r.2 ≤ (r.1.natAbs : Int) * w.2 * xi.2)) ws rts).any id = true := by
          refine List.any_eq_true.mpr ⟨true, ?_, rfl⟩
          have en : (List.zipWith (fun w r : Int × Int => decide ((xi.1.natAbs : Int) * w.1 * r.2 ≤ (r.1.natAbs : Int) * w.2 * xi.2)) ws rts)[m]? = some (decide ((xi.1.natAbs : Int) * wm.1 * rm.2 ≤ (rm.1.natAbs : Int) * wm.2 * xi.2)) := by rw [List.getElem?_zipWith, ewm, erm]
          rw [decide_eq_true hbm] at en
          exact List.mem_of_getElem? en
        refine ⟨_, rfl, lB, _, rfl, hB9, _, rfl, ?_⟩
        rw [an]
        exact ite2 (fun z => absurd z nt) fun _ => ⟨S9 _ _ hx7, _, _, _, _, _, rfl, S7.trans S9⟩
    rintro σ' H7 ⟨u10, u13, u14, u15, u16, rfl, S7⟩
    refine ret_of (cb1_of (tCompG_zip ?_))
    refine ⟨_, rfl, _, rfl, lR, lT, rv, tv, rfl, S7 _ _ hR6, S7 _ _ hT6, by omega, by omega, fun D1 hD => ⟨fun k zs' Hc => Same H7 Hc ∧ Hc D1 = some (.lst zs') ∧ zs' = (List.replicate k true).map V.bl, ⟨Same.upd hD, upd_same, rfl⟩, ?_, ?_⟩⟩
    · rintro k y1 y2 zs' Hc tt hy1 hy2 ⟨S8, c8, rfl⟩ _ htt hlc hlc2 pre hpre
      obtain ⟨v0, v1, rfl⟩ := two_of hpre
      have kn : k < fss.length := by
        have := (List.getElem?_eq_some_iff.mp hy1).1
        rw [rl] at this
        rw [L.lr]; exact this
      obtain ⟨la, ya, ea, hla, fa, ma⟩ := fr6.get kn
      rw [hy1] at ea
      cases ea
      obtain ⟨pq, r', rfl, er, hpq⟩ := ft6.get hy2
      have rt' := L.rt r' (List.mem_of_getElem? er)
      have ek : fss[k]? = some (fAt fss k) := by
        unfold fAt
        rw [List.getD_eq_getElem?_getD, List.getElem?_eq_getElem kn]; rfl
      have cm := dd.comes el bnd ker ek er
      have fl' := fw_ _ ma
      have T10 : Same Hc (upd Hc tt (.tup [.ref la, .ref pq])) := Same.upd htt
      have e10 : upd Hc tt (.tup [.ref la, .ref pq]) tt = some (.tup [.ref la, .ref pq]) := upd_same
      generalize upd Hc tt (.tup [.ref la, .ref pq]) = H10 at T10 e10 ⊢
      have S610 := S7.trans (S8.trans T10)
      have sm : ∀ {z : Int}, z.natAbs ≤ 30000 → z.natAbs ≤ NN := fun h => Nat.le_trans h (by decide +kernel)
      refine ⟨tt, _, rfl, e10, rfl, _, _, rfl, _, _, rfl, rfl, [some (.ref la), some (.ref pq)], rfl, rfl, ?_⟩
      refine ⟨_, rfl, _, rfl, _, rfl, la, x, pq, ya, zs, fAt fss k, ansX rsE n, r', rfl, S610 _ _ hla, fa.same S610, S610 _ _ c6, fx6.same S610, by rw [fl'.1, ansX_len], by rw [fl'.1]; omega, fun g hg => ?_, fun g hg => ⟨(lo g hg).pos, (lo g hg).sa, (lo g hg).sb⟩, S610 _ _ hpq, sm (by have := rt'.s; omega), sm (by have := Int.le_of_dvd (by decide) rt'.d; have := rt'.pos; omega), fun H11 S11 => ?_⟩
      · have fq := (md_num (fl'.2 g hg)).1
        exact ⟨fq.pos, Nat.le_trans fq.sa (by decide +kernel), Nat.le_trans fq.sb (by decide +kernel)⟩
      · have S1011 := T10.trans S11
        refine ⟨S1011 _ _ c8, S1011 _ _ hlc, S1011 _ _ hlc2, same_upd hD (S8.trans S1011), upd_same, ?_⟩
        rw [decide_eq_true cm, List.replicate_succ', List.map_append]; rfl
    · rintro zs' Hc ⟨S8, c8, rfl⟩ _
      refine ⟨D1, _, rfl, c8, ?_⟩
      rw [show (List.replicate rv.length true).all id = true by simp]
      exact q.2 Hc
end
theorem law_fn {l : PySem.W.OpenLaw} {w : World} {K : PySem.W.Frag} {mg : Str → Option Value} (T0 : ∃ D, Txt K mg D) (base : Heap) (f : Addr) (fd : FuncData) (F : Fun K nm_law nm_law s_law f fd) :
    FnOk l.prog w K mg base CX0 9 f fd ps_law (spLaw K) := by
  obtain ⟨D, T⟩ := T0
  have G_cell : ∀ a ns, OkF l.prog w K mg base 1 nm_cell ps_cell (sp_cell K a ns) := fun a ns => T.f_cell.ok fun _ _ F => ok_cell F a ns
  have G_whole : OkF l.prog w K mg base 1 nm_whole ps_whole sp_whole := T.f_whole.ok fun _ _ F => ok_whole F T
  have G_is_whole : OkF l.prog w K mg base 1 nm_is_whole ps_is_whole sp_whole := T.f_is_whole.ok fun _ _ F => ok_is_whole F T
  have G_gcd : OkF l.prog w K mg base 1 nm_gcd ps_gcd sp_gcd := T.f_gcd.ok fun _ _ F => ok_gcd F T
  have G_divisor : OkF l.prog w K mg base 1 nm_divisor ps_divisor sp_divisor := T.f_divisor.ok fun _ _ F => ok_divisor F T
  have G_ratio : OkF l.prog w K mg base 2 nm_ratio ps_ratio sp_ratio := T.f_ratio.ok fun _ _ F => ok_ratio F T G_is_whole G_divisor
  have G_over : OkF l.prog w K mg base 3 nm_over ps_over (sp_over15 K) := T.f_over.ok fun _ _ F => ok_over15 F G_ratio
  have G_minus : OkF l.prog w K mg base 3 nm_minus ps_minus (sp_minus15 K) := T.f_minus.ok fun _ _ F => ok_minus15 F G_ratio
  have G_level : OkF l.prog w K mg base 2 nm_level ps_level sp_level := T.f_level.ok fun _ _ F => ok_level F G_divisor
  have G_lowest : OkF l.prog w K mg base 2 nm_lowest ps_lowest sp_plow := T.f_lowest.ok fun _ _ F => ok_plow F T G_divisor
  have G_row_times : OkF l.prog w K mg base 3 nm_row_times ps_row_times sp_row_times15 := T.f_row_times.ok fun _ _ F => ok_row_times15 F T G_lowest
  have G_row_plus : OkF l.prog w K mg base 3 nm_row_plus ps_row_plus sp_row_plus15 := T.f_row_plus.ok fun _ _ F => ok_row_plus15 F T G_divisor G_lowest
  have G_take_step : OkF l.prog w K mg base 4 nm_take_step ps_take_step sp_take_step15 := T.f_take_step.ok fun _ _ F => ok_take_step15 F T G_row_times G_row_plus
  have G_number_at : OkF l.prog w K mg base 3 nm_number_at ps_number_at sp_number_at := T.f_number_at.ok fun _ _ F => ok_number_at F T G_ratio
  have G_fractions_of : OkF l.prog w K mg base 3 nm_fractions_of ps_fractions_of sp_fractions_of := T.f_fractions_of.ok fun _ _ F => ok_fractions_of F T G_ratio
  have G_first_from : OkF l.prog w K mg base 1 nm_first_from ps_first_from sp_first_from := T.f_first_from.ok fun _ _ F => ok_first_from F T
  have G_go_on : OkF l.prog w K mg base 5 nm_go_on ps_go_on sp_go_on := T.f_go_on.ok fun _ _ F => ok_go_on F T G_take_step
  have G_begin_row : OkF l.prog w K mg base 6 nm_begin_row ps_begin_row sp_begin_row := T.f_begin_row.ok fun _ _ F => ok_begin_row F T G_go_on G_number_at G_over
  have G_clear_column : OkF l.prog w K mg base 6 nm_clear_column ps_clear_column sp_clear_column := T.f_clear_column.ok fun _ _ F => ok_clear_column F T G_go_on G_number_at G_minus
  have G_reduced : OkF l.prog w K mg base 7 nm_reduced ps_reduced sp_reduced := T.f_reduced.ok fun _ _ F => ok_reduced F T G_level G_first_from G_begin_row G_clear_column G_fractions_of
  have G_stream : ∀ a ns, OkF l.prog w K mg base 2 nm_stream ps_stream (sp_stream14 K a ns) := fun a ns => T.f_stream.ok fun _ _ F => ok_stream F T a ns (G_cell a ns)
  have G_lratio : OkF l.prog w K mg base 2 nm_lratio ps_lratio sp_lratio := T.f_lratio.ok fun _ _ F => ok_lratio F G_gcd
  have G_fraction : OkF l.prog w K mg base 3 nm_fraction ps_fraction sp_fraction14 := T.f_fraction.ok fun _ _ F => ok_fraction14 F G_lratio
  have G_is_fraction : OkF l.prog w K mg base 2 nm_is_fraction ps_is_fraction sp_is_fraction := T.f_is_fraction.ok fun _ _ F => ok_is_fraction F T G_whole G_gcd
  have G_fractions : OkF l.prog w K mg base 3 nm_fractions ps_fractions sp_fractions14 := T.f_fractions.ok fun _ _ F => ok_fractions F T G_is_fraction
  have G_width_of : OkF l.prog w K mg base 1 nm_width_of ps_width_of sp_width_of := T.f_width_of.ok fun _ _ F => ok_width_of F T
  have G_with_rights : OkF l.prog w K mg base 1 nm_with_rights ps_with_rights sp_with_rights := T.f_with_rights.ok fun _ _ F => ok_with_rights F T
  have G_begins_of : OkF l.prog w K mg base 1 nm_begins_of ps_begins_of (sp_begins_of K) := T.f_begins_of.ok fun _ _ F => ok_begins_of F T
  have G_odd_row : OkF l.prog w K mg base 1 nm_odd_row ps_odd_row sp_odd_row := T.f_odd_row.ok fun _ _ F => ok_odd_row F T
  have G_answer_of : OkF l.prog w K mg base 1 nm_answer_of ps_answer_of (sp_answer_of K) := T.f_answer_of.ok fun _ _ F => ok_answer_of F T
  have G_only_answer : OkF l.prog w K mg base 8 nm_only_answer ps_only_answer sp_only_answer := T.f_only_answer.ok fun _ _ F => ok_only_answer F T G_width_of G_with_rights G_reduced G_begins_of G_odd_row G_answer_of
  have G_products : OkF l.prog w K mg base 1 nm_products ps_products sp_products := T.f_products.ok fun _ _ F => ok_products F T
  have G_comes : OkF l.prog w K mg base 2 nm_comes ps_comes sp_comes := T.f_comes.ok fun _ _ F => ok_comes F T G_products
  have G_heavy : OkF l.prog w K mg base 4 nm_heavy ps_heavy sp_heavy := T.f_heavy.ok fun _ _ F => ok_heavy F T G_fraction G_products G_lratio
  exact ok_law F T G_cell G_stream G_lratio G_heavy G_only_answer G_fractions G_comes
theorem txt_mk {K : PySem.W.Frag} {h : Heap} {mg : Str → Option Value} {a_NoNumber a_NOUGHT a_ONE : Addr} (X : K.In h) (G : h.Ns mainGlobals mg) (c_NOUGHT : PySem.W.nsIn K mainGlobals "NOUGHT" = some (some (.ref a_NOUGHT))) (c_NoNumber : PySem.W.nsIn K mainGlobals "NoNumber" = some (some (.ref a_NoNumber))) (c_ONE : PySem.W.nsIn K mainGlobals "ONE" = some (some (.ref a_ONE))) (x_NoNumber : PySem.W.excIn K a_NoNumber [.type "ValueError", .type "Exception", .type "BaseException", .type "object"] "ValueError.__new__" = true) (kt_NOUGHT : ∃ d n sl, ∃ t0 t1, K.lookup a_NOUGHT = some ⟨.type "tuple", d, .seq #[.int 0 t0, .int 1 t1] n, sl⟩) (kt_ONE : ∃ d n sl, ∃ t0 t1, K.lookup a_ONE = some ⟨.type "tuple", d, .seq #[.int 1 t0, .int 1 t1] n, sl⟩) (z0 : PySem.W.nsIn K mainGlobals "abs" = some none) (z1 : PySem.W.nsIn K mainGlobals "all" = some none) (z2 : PySem.W.nsIn K mainGlobals "any" = some none) (z3 : PySem.W.nsIn K mainGlobals "bool" = some none) (z4 : PySem.W.nsIn K mainGlobals "enumerate" = some none) (z5 : PySem.W.nsIn K mainGlobals "int" = some none) (z6 : PySem.W.nsIn K mainGlobals "isinstance" = some none) (z7 : PySem.W.nsIn K mainGlobals "len" = some none) (z8 : PySem.W.nsIn K mainGlobals "list" = some none) (z9 : PySem.W.nsIn K mainGlobals "range" = some none) (z10 : PySem.W.nsIn K mainGlobals "sorted" = some none) (z11 : PySem.W.nsIn K mainGlobals "tuple" = some none) (z12 : PySem.W.nsIn K mainGlobals "zip" = some none) (f0 : HasF K mg nm_is_whole s_is_whole ps_is_whole) (f1 : HasF K mg nm_divisor s_divisor ps_divisor) (f2 : HasF K mg nm_ratio s_ratio ps_ratio) (f3 : HasF K mg nm_minus s_minus ps_minus) (f4 : HasF K mg nm_over s_over ps_over) (f5 : HasF K mg nm_level s_level ps_level) (f6 : HasF K mg nm_lowest s_lowest ps_lowest) (f7 : HasF K mg nm_row_times s_row_times ps_row_times) (f8 : HasF K mg nm_row_plus s_row_plus ps_row_plus) (f9 : HasF K mg nm_take_step s_take_step ps_take_step) (f10 : HasF K mg nm_number_at s_number_at ps_number_at) (f11 : HasF K mg nm_fractions_of s_fractions_of ps_fractions_of) (f12 : HasF K mg nm_first_from s_first_from ps_first_from) (f13 : HasF K mg nm_go_on s_go_on ps_go_on) (f14 : HasF K mg nm_begin_row s_begin_row ps_begin_row) (f15 : HasF K mg nm_clear_column s_clear_column ps_clear_column) (f16 : HasF K mg nm_reduced s_reduced ps_reduced) (f17 : HasF K mg nm_width_of s_width_of ps_width_of) (f18 : HasF K mg nm_with_rights s_with_rights ps_with_rights) (f19 : HasF K mg nm_begins_of s_begins_of ps_begins_of) (f20 : HasF K mg nm_odd_row s_odd_row ps_odd_row) (f21 : HasF K mg nm_answer_of s_answer_of ps_answer_of) (f22 : HasF K mg nm_only_answer s_only_answer ps_only_answer) (f23 : HasF K mg nm_cell s_cell ps_cell) (f24 : HasF K mg nm_stream s_stream ps_stream) (f25 : HasF K mg nm_gcd s_gcd ps_gcd) (f26 : HasF K mg nm_lratio s_lratio ps_lratio) (f27 : HasF K mg nm_whole s_whole ps_whole) (f28 : HasF K mg nm_is_fraction s_is_fraction ps_is_fraction) (f29 : HasF K mg nm_fractions s_fractions ps_fractions) (f30 : HasF K mg nm_products s_products ps_products) (f31 : HasF K mg nm_comes s_comes ps_comes) (f32 : HasF K mg nm_fraction s_fraction ps_fraction) (f33 : HasF K mg nm_heavy s_heavy ps_heavy) : Txt K mg ⟨a_NoNumber, a_NOUGHT, a_ONE⟩ :=
  ⟨PySem.W.mg_of X G c_NOUGHT, PySem.W.mg_of X G c_NoNumber, PySem.W.mg_of X G c_ONE, x_NoNumber, fun H => let ⟨d, n, sl, t0, t1, l⟩ := kt_NOUGHT; .inr ⟨_, _, _, l, rfl, rfl, (by show 2 ≤ sizeLine; decide), .cons ⟨_, rfl⟩ (.cons ⟨_, rfl⟩ (.nil))⟩, fun H => let ⟨d, n, sl, t0, t1, l⟩ := kt_ONE; .inr ⟨_, _, _, l, rfl, rfl, (by show 2 ≤ sizeLine; decide), .cons ⟨_, rfl⟩ (.cons ⟨_, rfl⟩ (.nil))⟩, PySem.W.mg_none_of X G z0, PySem.W.mg_none_of X G z1, PySem.W.mg_none_of X G z2, PySem.W.mg_none_of X G z3, PySem.W.mg_none_of X G z4, PySem.W.mg_none_of X G z5, PySem.W.mg_none_of X G z6, PySem.W.mg_none_of X G z7, PySem.W.mg_none_of X G z8, PySem.W.mg_none_of X G z9, PySem.W.mg_none_of X G z10, PySem.W.mg_none_of X G z11, PySem.W.mg_none_of X G z12, f0, f1, f2, f3, f4, f5, f6, f7, f8, f9, f10, f11, f12, f13, f14, f15, f16, f17, f18, f19, f20, f21, f22, f23, f24, f25, f26, f27, f28, f29, f30, f31, f32, f33⟩
end K19
open PySem PySem.W PyProof.Rows
set_option maxRecDepth 100000 in
set_option maxHeartbeats 0 in
theorem PySem.Challenge.cw_chancehall_k19_whole_heavy_rows_holds : PySem.Challenge.rw_chancehall_k19_whole_heavy_rows.Holds := by
  w_on; o_law; k_head; (case hw => w_witness2)
  k_fill
  refine L2.walkF (l := PySem.Challenge.rw_chancehall_k19_whole_heavy_rows) (k := 9) (x := "_law_script") rfl rfl ⟨rfl, by decide, by decide⟩ (fun w h Y => PySem.W.kIn_of Y) ?F
  case F =>
    intro w mg fa h KX G hmg
    refine ⟨K19.s_law, ?_, fun base f fd F => K19.law_fn ?T base f fd F⟩
    · (refine' L2.hasF_mk KX G ?a ?l ?c ?k (fun _ _ _ _ _ _ us hl => match us, hl with | [_], _ => rfl); (case a => k_is); (case l => k_is); (case c => k_is); (case k => k_is))
    case T =>
      refine' ⟨_, K19.txt_mk KX G ?c_NOUGHT ?c_NoNumber ?c_ONE ?x_NoNumber ?kt_NOUGHT ?kt_ONE ?z0 ?z1 ?z2 ?z3 ?z4 ?z5 ?z6 ?z7 ?z8 ?z9 ?z10 ?z11 ?z12 ?f0 ?f1 ?f2 ?f3 ?f4 ?f5 ?f6 ?f7 ?f8 ?f9 ?f10 ?f11 ?f12 ?f13 ?f14 ?f15 ?f16 ?f17 ?f18 ?f19 ?f20 ?f21 ?f22 ?f23 ?f24 ?f25 ?f26 ?f27 ?f28 ?f29 ?f30 ?f31 ?f32 ?f33⟩
      case c_NOUGHT => k_is
      case c_NoNumber => k_is
      case c_ONE => k_is
      case x_NoNumber => k_exc
      case kt_NOUGHT => exact ⟨_, _, _, _, _, (by k_is)⟩
      case kt_ONE => exact ⟨_, _, _, _, _, (by k_is)⟩
      case z0 => k_is
      case z1 => k_is
      case z2 => k_is
      case z3 => k_is
      case z4 => k_is
      case z5 => k_is
      case z6 => k_is
      case z7 => k_is
      case z8 => k_is
      case z9 => k_is
      case z10 => k_is
      case z11 => k_is
      case z12 => k_is
      case f0 => (refine' L2.hasF_mk KX G ?a ?l ?c ?k (fun _ _ _ _ _ _ us hl => match us, hl with | [_], _ => rfl); (case a => k_is); (case l => k_is); (case c => k_is); (case k => k_is))
      case f1 => (refine' L2.hasF_mk KX G ?a ?l ?c ?k (fun _ _ _ _ _ _ us hl => match us, hl with | [_, _], _ => rfl); (case a => k_is); (case l => k_is); (case c => k_is); (case k => k_is))
      case f2 => (refine' L2.hasF_mk KX G ?a ?l ?c ?k (fun _ _ _ _ _ _ us hl => match us, hl with | [_, _], _ => rfl); (case a => k_is); (case l => k_is); (case c => k_is); (case k => k_is))
      case f3 => (refine' L2.hasF_mk KX G ?a ?l ?c ?k (fun _ _ _ _ _ _ us hl => match us, hl with | [_, _], _ => rfl); (case a => k_is); (case l => k_is); (case c => k_is); (case k => k_is))
      case f4 => (refine' L2.hasF_mk KX G ?a ?l ?c ?k (fun _ _ _ _ _ _ us hl => match us, hl with | [_, _], _ => rfl); (case a => k_is); (case l => k_is); (case c => k_is); (case k => k_is))
      case f5 => (refine' L2.hasF_mk KX G ?a ?l ?c ?k (fun _ _ _ _ _ _ us hl => match us, hl with | [_], _ => rfl); (case a => k_is); (case l => k_is); (case c => k_is); (case k => k_is))
      case f6 => (refine' L2.hasF_mk KX G ?a ?l ?c ?k (fun _ _ _ _ _ _ us hl => match us, hl with | [_, _], _ => rfl); (case a => k_is); (case l => k_is); (case c => k_is); (case k => k_is))
      case f7 => (refine' L2.hasF_mk KX G ?a ?l ?c ?k (fun _ _ _ _ _ _ us hl => match us, hl with | [_, _], _ => rfl); (case a => k_is); (case l => k_is); (case c => k_is); (case k => k_is))
      case f8 => (refine' L2.hasF_mk KX G ?a ?l ?c ?k (fun _ _ _ _ _ _ us hl => match us, hl with | [_, _, _], _ => rfl); (case a => k_is); (case l => k_is); (case c => k_is); (case k => k_is))
      case f9 => (refine' L2.hasF_mk KX G ?a ?l ?c ?k (fun _ _ _ _ _ _ us hl => match us, hl with | [_, _], _ => rfl); (case a => k_is); (case l => k_is); (case c => k_is); (case k => k_is))
      case f10 => (refine' L2.hasF_mk KX G ?a ?l ?c ?k (fun _ _ _ _ _ _ us hl => match us, hl with | [_, _], _ => rfl); (case a => k_is); (case l => k_is); (case c => k_is); (case k => k_is))
      case f11 => (refine' L2.hasF_mk KX G ?a ?l ?c ?k (fun _ _ _ _ _ _ us hl => match us, hl with | [_], _ => rfl); (case a => k_is); (case l => k_is); (case c => k_is); (case k => k_is))
      case f12 => (refine' L2.hasF_mk KX G ?a ?l ?c ?k (fun _ _ _ _ _ _ us hl => match us, hl with | [_, _, _], _ => rfl); (case a => k_is); (case l => k_is); (case c => k_is); (case k => k_is))
      case f13 => (refine' L2.hasF_mk KX G ?a ?l ?c ?k (fun _ _ _ _ _ _ us hl => match us, hl with | [_, _, _], _ => rfl); (case a => k_is); (case l => k_is); (case c => k_is); (case k => k_is))
      case f14 => (refine' L2.hasF_mk KX G ?a ?l ?c ?k (fun _ _ _ _ _ _ us hl => match us, hl with | [_, _, _, _, _], _ => rfl); (case a => k_is); (case l => k_is); (case c => k_is); (case k => k_is))
      case f15 => (refine' L2.hasF_mk KX G ?a ?l ?c ?k (fun _ _ _ _ _ _ us hl => match us, hl with | [_, _, _, _], _ => rfl); (case a => k_is); (case l => k_is); (case c => k_is); (case k => k_is))
      case f16 => (refine' L2.hasF_mk KX G ?a ?l ?c ?k (fun _ _ _ _ _ _ us hl => match us, hl with | [_, _], _ => rfl); (case a => k_is); (case l => k_is); (case c => k_is); (case k => k_is))
      case f17 => (refine' L2.hasF_mk KX G ?a ?l ?c ?k (fun _ _ _ _ _ _ us hl => match us, hl with | [_], _ => rfl); (case a => k_is); (case l => k_is); (case c => k_is); (case k => k_is))
      case f18 => (refine' L2.hasF_mk KX G ?a ?l ?c ?k (fun _ _ _ _ _ _ us hl => match us, hl with | [_, _], _ => rfl); (case a => k_is); (case l => k_is); (case c => k_is); (case k => k_is))
      case f19 => (refine' L2.hasF_mk KX G ?a ?l ?c ?k (fun _ _ _ _ _ _ us hl => match us, hl with | [_, _], _ => rfl); (case a => k_is); (case l => k_is); (case c => k_is); (case k => k_is))
      case f20 => (refine' L2.hasF_mk KX G ?a ?l ?c ?k (fun _ _ _ _ _ _ us hl => match us, hl with | [_, _, _], _ => rfl); (case a => k_is); (case l => k_is); (case c => k_is); (case k => k_is))
      case f21 => (refine' L2.hasF_mk KX G ?a ?l ?c ?k (fun _ _ _ _ _ _ us hl => match us, hl with | [_, _, _], _ => rfl); (case a => k_is); (case l => k_is); (case c => k_is); (case k => k_is))
      case f22 => (refine' L2.hasF_mk KX G ?a ?l ?c ?k (fun _ _ _ _ _ _ us hl => match us, hl with | [_, _], _ => rfl); (case a => k_is); (case l => k_is); (case c => k_is); (case k => k_is))
      case f23 => (refine' L2.hasF_mk KX G ?a ?l ?c ?k (fun _ _ _ _ _ _ us hl => match us, hl with | [_, _], _ => rfl); (case a => k_is); (case l => k_is); (case c => k_is); (case k => k_is))
      case f24 => (refine' L2.hasF_mk KX G ?a ?l ?c ?k (fun _ _ _ _ _ _ us hl => match us, hl with | [_, _, _], _ => rfl); (case a => k_is); (case l => k_is); (case c => k_is); (case k => k_is))
      case f25 => (refine' L2.hasF_mk KX G ?a ?l ?c ?k (fun _ _ _ _ _ _ us hl => match us, hl with | [_, _], _ => rfl); (case a => k_is); (case l => k_is); (case c => k_is); (case k => k_is))
      case f26 => (refine' L2.hasF_mk KX G ?a ?l ?c ?k (fun _ _ _ _ _ _ us hl => match us, hl with | [_, _], _ => rfl); (case a => k_is); (case l => k_is); (case c => k_is); (case k => k_is))
      case f27 => (refine' L2.hasF_mk KX G ?a ?l ?c ?k (fun _ _ _ _ _ _ us hl => match us, hl with | [_], _ => rfl); (case a => k_is); (case l => k_is); (case c => k_is); (case k => k_is))
      case f28 => (refine' L2.hasF_mk KX G ?a ?l ?c ?k (fun _ _ _ _ _ _ us hl => match us, hl with | [_], _ => rfl); (case a => k_is); (case l => k_is); (case c => k_is); (case k => k_is))
      case f29 => (refine' L2.hasF_mk KX G ?a ?l ?c ?k (fun _ _ _ _ _ _ us hl => match us, hl with | [_, _], _ => rfl); (case a => k_is); (case l => k_is); (case c => k_is); (case k => k_is))
      case f30 => (refine' L2.hasF_mk KX G ?a ?l ?c ?k (fun _ _ _ _ _ _ us hl => match us, hl with | [_, _], _ => rfl); (case a => k_is); (case l => k_is); (case c => k_is); (case k => k_is))
      case f31 => (refine' L2.hasF_mk KX G ?a ?l ?c ?k (fun _ _ _ _ _ _ us hl => match us, hl with | [_, _, _], _ => rfl); (case a => k_is); (case l => k_is); (case c => k_is); (case k => k_is))
      case f32 => (refine' L2.hasF_mk KX G ?a ?l ?c ?k (fun _ _ _ _ _ _ us hl => match us, hl with | [_], _ => rfl); (case a => k_is); (case l => k_is); (case c => k_is); (case k => k_is))
      case f33 => (refine' L2.hasF_mk KX G ?a ?l ?c ?k (fun _ _ _ _ _ _ us hl => match us, hl with | [_, _, _, _], _ => rfl); (case a => k_is); (case l => k_is); (case c => k_is); (case k => k_is))
#print axioms PySem.Challenge.cw_chancehall_k19_whole_heavy_rows_holds
