import PyProof.Rows.All
import Wide.All
import OpenK.AllK
import Wide.FinOn
import Lean
import PyProof.EqAt
import PyProof.EqKinds
import PyProof.TupleCall
import PyProof.EqLayable
import KE.KIntText
import PyProof.EnumMake
import PyProof.EnumStmt
import PyProof.EnumFor
import PyProof.Rows.EnumRows
import PySem.Challenge.RW_chancehall_k17_only_answers
set_option Elab.async false
set_option linter.all false
set_option maxRecDepth 100000
namespace L2
open PySem PySem.Spec PyProof.Rows
abbrev Key:=Sum Int Str
def keyIs:Key→Value→Bool
 | .inl k,v=>Value.isInt k v
 | .inr x,v=>Value.isStrOf x v
def keyH (w:World):Key→Int
 | .inl k=>hashInt k
 | .inr x=>hashStr w x
theorem keyIs_shape:∀ {k:Key} {v:Value},keyIs k v = true→(∃ i t,k = Sum.inl i∧v = Value.int i t)∨(∃ x t,k = Sum.inr x∧v = Value.str x t)
 | .inl i,v,h=>by
  obtain ⟨t,e⟩:=Value.isInt_shape (k:=i) (v:=v) h
  exact .inl ⟨i,t,rfl,e⟩
 | .inr x,v,h=>by
  obtain ⟨t,e⟩:=Value.isStrOf_shape (x:=x) (v:=v) h
  exact .inr ⟨x,t,rfl,e⟩
theorem key_ll (a b:Int):decide ((Sum.inl a:Key) = Sum.inl b) = (a == b):=by
 by_cases e:a = b
 ·subst e; simp
 ·have h:¬ (Sum.inl a:Key) = Sum.inl b:=fun q=>e (Sum.inl.inj q)
  rw [decide_eq_false h]
  exact (beq_eq_false_iff_ne.mpr e).symm
theorem key_rr (a b:Str):decide ((Sum.inr a:Key) = Sum.inr b) = decide (a = b):=by
 by_cases e:a = b
 ·subst e; simp
 ·have h:¬ (Sum.inr a:Key) = Sum.inr b:=fun q=>e (Sum.inr.inj q)
  rw [decide_eq_false h,decide_eq_false e]
theorem key_lr (a:Int) (b:Str):decide ((Sum.inl a:Key) = Sum.inr b) = false:=decide_eq_false (fun q=>nomatch q)
theorem key_rl (a:Str) (b:Int):decide ((Sum.inr a:Key) = Sum.inl b) = false:=decide_eq_false (fun q=>nomatch q)
def mixKind (prog:Program) (w:World):PySem.KeyKind prog w Key where
 is:=keyIs
 hash:=keyH w
 inj:=fun v a b ha hb=>by
  rcases keyIs_shape ha with ⟨i,t,rfl,rfl⟩ | ⟨x,t,rfl,rfl⟩
  ·rcases keyIs_shape hb with ⟨j,u,rfl,e⟩ | ⟨y,u,rfl,e⟩
   ·injection e with e1 _; rw [e1]
   ·exact nomatch e
  ·rcases keyIs_shape hb with ⟨j,u,rfl,e⟩ | ⟨y,u,rfl,e⟩
   ·exact nomatch e
   ·injection e with e1 _; rw [e1]
 byValue:=fun k v h=>by
  rcases keyIs_shape h with ⟨i,t,rfl,rfl⟩ | ⟨x,t,rfl,rfl⟩ <;> rfl
 pyHash:=fun hv h=>by
  rcases keyIs_shape hv with ⟨i,t,rfl,rfl⟩ | ⟨x,t,rfl,rfl⟩
  ·exact wpAny_pyHash_int h
  ·exact wpAny_pyHash_str h
 eqBool:=fun hu hv h=>by
  rcases keyIs_shape hu with ⟨i,t,rfl,rfl⟩ | ⟨x,t,rfl,rfl⟩
  ·rcases keyIs_shape hv with ⟨j,u,rfl,rfl⟩ | ⟨y,u,rfl,rfl⟩
   ·rw [key_ll] at h; exact wpAny_eqBool_int h
   ·rw [key_lr] at h; exact SeqAt.EqAt.int_str i t y u _ _ _ _ h
  ·rcases keyIs_shape hv with ⟨j,u,rfl,rfl⟩ | ⟨y,u,rfl,rfl⟩
   ·rw [key_rl] at h; exact SeqAt.EqAt.str_int x t j u _ _ _ _ h
   ·rw [key_rr] at h; exact wpAny_eqBool_str h
 «strs»:=fun k x t v h=>by
  rcases keyIs_shape h with ⟨i,u,rfl,e⟩ | ⟨y,u,rfl,e⟩
  ·exact nomatch e
  ·injection e with e1 _
   subst e1
   cases v <;> rfl
end L2
namespace L2
open PySem PySem.Spec PyProof.Rows
inductive V where
 | non | bl (b:Bool) | int (i:Int) | str (x:Str) | byt (b:Array UInt8) | flt (b:UInt64) | ref (a:Addr) | ty (n:String)
 deriving DecidableEq
def RelV:V→Value→Prop
 | .non,u=>u = Value.none
 | .bl b,u=>u = Value.bool b
 | .int i,u=>∃ t,u = Value.int i t
 | .str x,u=>∃ t,u = Value.str x t
 | .byt b,u=>∃ t,u = Value.bytes b t
 | .flt b,u=>∃ t,u = Value.float b t
 | .ref a,u=>u = Value.ref a
 | .ty n,u=>u = Value.type n
abbrev Vals:List V→List Value→Prop:=Paired RelV
theorem Vals.length {xs:List V} {us:List Value} (r:Vals xs us):xs.length = us.length:=Paired.length r
theorem Vals.get:∀ {xs:List V} {us:List Value} {i:Nat} {x:V},Vals xs us→xs[i]? = some x→∃ u,us[i]? = some u∧RelV x u
 | _,_,_,_,.nil,e=>by simp at e
 | _,_,0,_,.cons r _,e=>by simp at e; subst e; exact ⟨_,rfl,r⟩
 | _,_,i + 1,x,.cons _ t,e=>by
  obtain ⟨u,h1,h2⟩:=Vals.get (i:=i) (x:=x) t (by simpa using e)
  exact ⟨u,by simpa using h1,h2⟩
theorem Vals.set {x:V} {u:Value} (r:RelV x u):∀ {xs:List V} {us:List Value} (i:Nat),Vals xs us→Vals (xs.set i x) (us.set i u)
 | _,_,_,.nil=>.nil
 | _,_,0,.cons _ t=>.cons r t
 | _,_,i + 1,.cons q t=>.cons q (Vals.set r i t)
theorem Vals.append:∀ {xs ys:List V} {us ws:List Value},Vals xs us→Vals ys ws→Vals (xs ++ ys) (us ++ ws)
 | _,_,_,_,.nil,s=>s
 | _,_,_,_,.cons r t,s=>.cons r (Vals.append t s)
theorem Vals.take:∀ {xs:List V} {us:List Value} (n:Nat),Vals xs us→Vals (xs.take n) (us.take n)
 | _,_,0,_=>.nil
 | _,_,_ + 1,.nil=>.nil
 | _,_,n + 1,.cons r t=>.cons r (Vals.take n t)
theorem Vals.drop:∀ {xs:List V} {us:List Value} (n:Nat),Vals xs us→Vals (xs.drop n) (us.drop n)
 | _,_,0,r=>r
 | _,_,_ + 1,.nil=>.nil
 | _,_,n + 1,.cons _ t=>Vals.drop n t
def RelO:Option V→Option Value→Prop
 | some v,some u=>RelV v u
 | none,none=>True
 | _,_=>False
def KV {κ:Type} : List (κ × V)→List (κ × Value)→Prop:=Paired fun (p:κ × V) (q:κ × Value)=>p.1 = q.1∧RelV p.2 q.2
def kV:Key→V
 | .inl i=>.int i
 | .inr x=>.str x
inductive HO where
  | lst (xs:List V)
  | tup (xs:List V)
  | dK (kvs:List (Key × V))
  | set (S:Int→Bool) (n:Nat)
  | ins (C dx:Addr) (fs:List (Str × V))
  | own (x:Addr)
  | xd (fs:List (Str × V))
  | met (f x:Addr)
  | rng (lo hi:Int)
  | frz (o:Obj) (u:HO)
  | tbl (ps:Array Value)
  | ext (φ:Heap→Prop)
abbrev Hp:=Addr→Option HO
def upd (H:Hp) (a:Addr) (o:HO):Hp:=fun b=>if b = a then some o else H b
theorem upd_same {H:Hp} {a:Addr} {o:HO} : upd H a o a = some o:=by unfold upd; rw [if_pos rfl]
theorem upd_ne {H:Hp} {a b:Addr} {o:HO} (h:b ≠ a):upd H a o b = H b:=by unfold upd; rw [if_neg h]
theorem upd_upd {H:Hp} {a:Addr} {o u:HO} : upd (upd H a o) a u = upd H a u:=by
 funext b; unfold upd; split <;> rfl
theorem ne_of {H:Hp} {a b:Addr} {o u:HO} (h:H a = some o) (h':H b = some u) (d:o ≠ u):a ≠ b:=by
 intro e; subst e; rw [h] at h'; exact d (Option.some.inj h')
theorem ne_of_none {H:Hp} {a b:Addr} {o:HO} (h:H a = some o) (h':H b = none):a ≠ b:=by
 intro e; subst e; rw [h] at h'; cases h'
section
variable (P:Program) (w:World)
def ObjOk (H:Hp) (h:Heap) (a:Addr):HO→Prop
 | .lst xs=>xs.length ≤ sizeLine∧∃ (its:List Value) (n:Nat),Vals xs its∧h.get? a = some { cls:=.type "list",data:=.seq its.toArray n }
 | .tup xs=>xs.length ≤ sizeLine∧∃ its:List Value,Vals xs its∧IsTup h a its.toArray
 | .dK kvs=>kvs.length ≤ sizeLine∧(a == sysModules) = false∧∃ vs,KV kvs vs∧h.DictOf (mixKind P w) a vs
 | .set S n=>h.SetOf (intKind P w) a S n
 | .ins C dx fs=>H dx = some (.own a)∧fs.length ≤ 1000∧dx ≠ a∧h.get? a = some (PySem.W.instObj C dx) ∧
   ∃ mA,h.Ns1 dx mA∧(∀ f,RelO (fs.lookup f) (mA f))∧PySem.Within mA (fs.map (·.1))
 | .own _=>∃ o,h.get? a = some o
 | .xd fs=>∃ mA,h.Ns1 a mA∧∀ f,RelO (fs.lookup f) (mA f)
 | .rng lo hi=>∃ t u v,h.get? a = some { cls:=.type "range",data:=.fields #[.int lo t,.int hi u,.int 1 v] }
 | .frz o u=>h.get? a = some o∧ObjOk H h a u
 | .tbl ps=>h.get? a = some { cls:=.none,data:=.fields ps }
 | .met f x=>h.get? a = some (PySem.W.methodObj (.ref f) (.ref x))
 | .ext φ=>φ h∧(∃ o,h.get? a = some o)∧∀ h1 h2:Heap,φ h1→(∀ o,h1.get? a = some o→h2.get? a = some o)→φ h2
def HOk (H:Hp) (h:Heap):Prop:=∀ a o,H a = some o→ObjOk P w H h a o
end
section
variable {P:Program} {w:World} {H H':Hp} {h h':Heap} {a:Addr} {o:HO}
theorem ObjOk.lt (x:ObjOk P w H h a o):a < h.objs.size:=by
 cases o with
 | lst xs=>obtain ⟨_,_,_,_,e⟩:=x; exact Heap.lt_size e
 | tup xs=>obtain ⟨_,_,_,p⟩:=x; exact p.lt
 | dK kvs=>obtain ⟨_,_,_,_,o,_,_,e,_⟩:=x; exact Heap.lt_size e
 | set S n=>obtain ⟨o,_,_,_,e,_⟩:=x; exact Heap.lt_size e
 | ins C dx fs=>obtain ⟨_,_,_,e,_⟩:=x; exact Heap.lt_size e
 | own y=>obtain ⟨_,e⟩:=x; exact Heap.lt_size e
 | xd fs=>obtain ⟨_,⟨_,_,_,e,_⟩,_⟩:=x; exact Heap.lt_size e
 | rng lo hi=>obtain ⟨_,_,_,e⟩:=x; exact Heap.lt_size e
 | frz ob u=>obtain ⟨e,_⟩:=x; exact Heap.lt_size e
 | tbl ps=>exact Heap.lt_size (show h.get? a = some _ from x)
 | met f y=>exact Heap.lt_size (show h.get? a = some _ from x)
 | ext φ=>obtain ⟨_,⟨_,e⟩,_⟩:=x; exact Heap.lt_size e
theorem ObjOk.stay (x:ObjOk P w H h a o) (k:∀ b u,(b = a∨H b = some (.own a))→h.get? b = some u→h'.get? b = some u)
  (ho:∀ b,H b = some (.own a)→H' b = some (.own a)) (ht:∀ b xs,H b = some (.tup xs)→H' b = some (.tup xs)):ObjOk P w H' h' a o:=by
 induction o with
 | lst xs=>obtain ⟨z,its,n,r,e⟩:=x; exact ⟨z,its,n,r,k _ _ (.inl rfl) e⟩
 | tup xs=>obtain ⟨z,its,r,ob,e,c⟩:=x; exact ⟨z,its,r,ob,k _ _ (.inl rfl) e,c⟩
 | dK kvs=>obtain ⟨z,y,vs,r,ob,es,ep,e,c⟩:=x; exact ⟨z,y,vs,r,ob,es,ep,k _ _ (.inl rfl) e,c⟩
 | set S n=>obtain ⟨ob,es,ep,t,e,c⟩:=x; exact ⟨ob,es,ep,t,k _ _ (.inl rfl) e,c⟩
 | ins C dx fs =>
  obtain ⟨d,z,ne,e,mA,⟨od,es,ep,e2,c⟩,r⟩:=x
  exact ⟨ho _ d,z,ne,k _ _ (.inl rfl) e,mA,⟨od,es,ep,k _ _ (.inr d) e2,c⟩,r⟩
 | own y=>obtain ⟨ob,e⟩:=x; exact ⟨ob,k _ _ (.inl rfl) e⟩
 | xd fs=>obtain ⟨mA,⟨od,es,ep,e,c⟩,r⟩:=x; exact ⟨mA,⟨od,es,ep,k _ _ (.inl rfl) e,c⟩,r⟩
 | rng lo hi=>obtain ⟨t,u,v,e⟩:=x; exact ⟨t,u,v,k _ _ (.inl rfl) e⟩
 | frz ob u ih=>obtain ⟨e,q⟩:=x; exact ⟨k _ _ (.inl rfl) e,ih q⟩
 | tbl ps =>
  have e:h.get? a = some { cls:=.none,data:=.fields ps }:=x
  show h'.get? a = some { cls:=.none,data:=.fields ps }
  exact k a _ (.inl rfl) e
 | met f y =>
  have e:h.get? a = some (PySem.W.methodObj (.ref f) (.ref y)):=x
  show h'.get? a = some (PySem.W.methodObj (.ref f) (.ref y))
  exact k a _ (.inl rfl) e
 | ext φ=>obtain ⟨p,⟨o,e⟩,st⟩:=x; exact ⟨st _ _ p fun o q=>k _ _ (.inl rfl) q,⟨o,k _ _ (.inl rfl) e⟩,st⟩
theorem HOk.lt (x:HOk P w H h) (e:H a = some o):a < h.objs.size:=(x a o e).lt
theorem HOk.fresh (x:HOk P w H h) (e:h.objs.size ≤ a):H a = none:=by
 cases q:H a with
 | none=>rfl
 | some u=>exact absurd (Nat.lt_of_lt_of_le (x.lt q) e) (Nat.lt_irrefl _)
theorem HOk.kept (x:HOk P w H h) (k:∀ b u,h.get? b = some u→h'.get? b = some u):HOk P w H h':=fun a o e =>
 (x a o e).stay (fun b u _ q=>k b u q) (fun _ q=>q) fun _ _ q=>q
theorem HOk.laid (x:HOk P w H h) (k:∀ b u,h.get? b = some u→h'.get? b = some u) (hp:h.objs.size ≤ a) (new:ObjOk P w (upd H a o) h' a o):HOk P w (upd H a o) h':=fun b u e=>by
 have hn:=x.fresh hp
 by_cases hb:b = a
 ·subst hb; rw [upd_same] at e; cases e; exact new
 ·rw [upd_ne hb] at e
  exact (x b u e).stay (fun c v _ q=>k c v q) (fun c q=>by rw [upd_ne (ne_of_none q hn)]; exact q) fun c xs q=>by rw [upd_ne (ne_of_none q hn)]; exact q
end
def Rd (H:Hp) (a:Addr) (u:HO):Prop:=H a = some u∨∃ o,H a = some (.frz o u)
theorem Rd.of {H:Hp} {a:Addr} {u:HO} (h:H a = some u):Rd H a u:=.inl h
theorem Rd.ok {P:Program} {w:World} {H:Hp} {h:Heap} {a:Addr} {u:HO} (r:Rd H a u) (x:HOk P w H h):ObjOk P w H h a u:=by
 rcases r with r | ⟨o,r⟩
 ·exact x a u r
 ·obtain ⟨_,q⟩:=x a _ r
  exact q
def Mut:Option HO→Prop
 | some (.lst _)=>True
 | some (.dK _)=>True
 | some (.set _ _)=>True
 | some (.ins _ _ _)=>True
 | some (.ext _)=>True
 | _=>False
section
variable {P:Program} {w:World} {H:Hp} {h h':Heap} {x e:Addr} {o':HO}
theorem HOk.write (ok:HOk P w H h) (mu:Mut (H x)) (he:e = x∨H e = some (.own x)) (k:∀ b u,b ≠ e→h.get? b = some u→h'.get? b = some u) (heo:∃ u,h'.get? e = some u)
  (new:ObjOk P w (upd H x o') h' x o'):HOk P w (upd H x o') h':=fun b u q=>by
 have nown:∀ c y,H c = some (.own y)→c ≠ x:=fun c y r z=>by subst z; rw [r] at mu; exact mu
 have ntup:∀ c xs,H c = some (.tup xs)→c ≠ x:=fun c xs r z=>by subst z; rw [r] at mu; exact mu
 by_cases hb:b = x
 ·subst hb; rw [upd_same] at q; cases q; exact new
 ·rw [upd_ne hb] at q
  by_cases hbe:b = e
  ·have q':H b = some (.own x):=by
    rcases he with z | z
    ·exact absurd (hbe.trans z) hb
    ·rw [hbe]; exact z
   rw [q] at q'; cases q'
   obtain ⟨v,hv⟩:=heo
   exact ⟨v,by rw [hbe]; exact hv⟩
  ·refine (ok b u q).stay (fun c v hc r=>k c v ?_ r) (fun c r=>by rw [upd_ne (nown c b r)]; exact r) fun c xs r=>by rw [upd_ne (ntup c xs r)]; exact r
   rcases hc with rfl | hc
   ·exact hbe
   ·rintro rfl
    rcases he with z | z
    ·exact nown c b hc z
    ·rw [hc] at z; cases z; exact hb rfl
end
structure Un (fs ex:List Addr) (H H':Hp) (h h':Heap):Prop where
 keep:∀ b o,h.get? b = some o→H b = none→b ∉ fs→b ∉ ex→h'.get? b = some o
 slot:∀ b o,h.get? b = some o→H b = none→b ∈ fs→b ∉ ex→∃ sl,h'.get? b = some { o with slots:=sl }
 free:∀ b o,h.get? b = some o→H b = none→b ∉ ex→H' b = none
 there:∀ b o,h.get? b = some o→b ∉ ex→∃ o',h'.get? b = some o'
 tups:∀ b xs,H b = some (.tup xs)→H' b = some (.tup xs)
 frzs:∀ b o u,H b = some (.frz o u)→H' b = some (.frz o u)
 tbls:∀ b ps,H b = some (.tbl ps)→∃ more,H' b = some (.tbl (ps ++ more))
section
variable {fs fs' ex ex':List Addr} {H H1 H2:Hp} {h h1 h2 h':Heap} {a x e:Addr} {o:HO}
theorem Un.any (u:Un fs ex H H1 h h1) {b:Addr} {ob:Obj} (q:h.get? b = some ob) (n:H b = none) (hx:b ∉ ex):∃ sl,h1.get? b = some { ob with slots:=sl }:=by
 by_cases hb:b ∈ fs
 ·exact u.slot b ob q n hb hx
 ·exact ⟨ob.slots,u.keep b ob q n hb hx⟩
theorem Un.kept (k:∀ b u,h.get? b = some u→h'.get? b = some u):Un fs ex H H h h' :=
 ⟨fun b ob q _ _ _=>k b ob q,fun b ob q _ _ _=>⟨ob.slots,k b ob q⟩,fun _ _ _ n _=>n,fun b ob q _=>⟨ob,k b ob q⟩,fun _ _ q=>q,fun _ _ _ q=>q,fun _ ps q=>⟨#[],by rw [q]; simp⟩⟩
theorem Un.refl:Un fs ex H H h h:=Un.kept fun _ _ q=>q
theorem Un.laid (k:∀ b u,h.get? b = some u→h'.get? b = some u) (hp:h.objs.size ≤ a) (hn:H a = none):Un fs ex H (upd H a o) h h' where
 keep:=fun b u q _ _ _=>k b u q
 slot:=fun b u q _ _ _=>⟨u.slots,k b u q⟩
 free:=fun b u q n _=>by rw [upd_ne (Nat.ne_of_lt (Nat.lt_of_lt_of_le (Heap.lt_size q) hp))]; exact n
 there:=fun b u q _=>⟨u,k b u q⟩
 tups:=fun b xs q=>by rw [upd_ne (ne_of_none q hn)]; exact q
 frzs:=fun b u xs q=>by rw [upd_ne (ne_of_none q hn)]; exact q
 tbls:=fun b ps q=>⟨#[],by rw [upd_ne (ne_of_none q hn),q]; simp⟩
theorem Un.write (mu:Mut (H x)) (he:e = x∨H e = some (.own x)) (k:∀ b u,b ≠ e→h.get? b = some u→h'.get? b = some u) (heo:∃ u,h'.get? e = some u):Un fs ex H (upd H x o) h h':=by
 have hx:∀ b,H b = none→b ≠ x:=fun b n z=>by subst z; rw [n] at mu; exact mu
 have hb:∀ b,H b = none→b ≠ e:=fun b n z=>by
  subst z
  rcases he with r | r
  ·exact hx b n r
  ·rw [n] at r; cases r
 have hm:∀ b u,H b = some u→¬ Mut (some u)→b ≠ x:=fun b u q nm z=>by subst z; rw [q] at mu; exact nm mu
 refine ⟨fun b u q n _ _=>k b u (hb b n) q,fun b u q n _ _=>⟨u.slots,k b u (hb b n) q⟩,fun b u q n _=>by rw [upd_ne (hx b n)]; exact n,fun b u q _=>?_,
  fun b xs q=>by rw [upd_ne (hm b _ q fun z=>z)]; exact q,fun b u xs q=>by rw [upd_ne (hm b _ q fun z=>z)]; exact q,fun b ps q=>⟨#[],by rw [upd_ne (hm b _ q fun z=>z),q]; simp⟩⟩
 by_cases hbe:b = e
 ·subst hbe; exact heo
 ·exact ⟨u,k b u hbe q⟩
end
def trk (h:Heap) (H:Hp):List Addr:=(List.range h.objs.size).filter fun a=>(H a).isSome
def hidT (h:Heap) (H:Hp):Heap:=PySem.W.hideAll h (trk h H)
theorem hidT_size (h:Heap) (H:Hp):(hidT h H).objs.size = h.objs.size:=PySem.W.hideAll_size _ _
theorem hidT_get {h:Heap} {H:Hp} {b:Addr} {o:Obj} (e:h.get? b = some o) (n:H b = none):(hidT h H).get? b = some o :=
 PySem.W.hideAll_get _ e fun hm=>by
  have q:(H b).isSome = true:=(List.mem_filter.mp hm).2
  rw [n] at q; simp at q
theorem of_hidT {h:Heap} {H:Hp} {b:Addr} {o:Obj} (e:(hidT h H).get? b = some o):h.get? b = some o∧H b = none:=by
 have e':h.get? b = some o:=PySem.W.of_hideAll (trk h H) e
 refine ⟨e',?_⟩
 cases q:H b with
 | none=>rfl
 | some x =>
  have hm:b ∈ trk h H:=List.mem_filter.mpr ⟨List.mem_range.mpr (Heap.lt_size e'),by simp [q]⟩
  have z:(hidT h H).get? b = none:=PySem.W.hideAll_none (trk h H) hm
  rw [z] at e; cases e
def allNews (g h:Heap) (L:Addr):List (Addr × Obj):=(List.range h.objs.size).filterMap fun a=>if a = L∨(g.get? a).isSome = true then none else (h.get? a).map fun o=>(a,o)
def rest (g h:Heap) (L d:Addr):List (Addr × Obj):=(allNews g h L).filter fun p=>decide (p.1 ≠ d)
end L2
namespace L2
open PySem PySem.Spec PyProof.Rows
structure Mod (K:PySem.W.Frag) (mg:Str→Option Value) (base:Heap):Prop where
 kin:K.In base
 glob:base.Ns mainGlobals mg
 blt:∃ mb,base.Ns builtinsNs mb∧∀ x:Str,x ≠ "__name__" → mb x = bootBuiltins x
 nolimit:base.NoLimit
structure Cx where
 prog:Program
 w:World
 K:PySem.W.Frag
 mg:Str→Option Value
 base:Heap
 A:Around
 N:List Str
 s₀:Shared
 H₀:Hp
 env:Env
 outer:List Env
 stack:List Env
 ex:List Addr
 fn:Str→Bool
 calm:Bool
 pn:List (Addr × Obj)
 xe:Value→Shared→Prop
def frs (l:List Env):List Addr:=l.filterMap (·.frame)
abbrev Cx.fs (X:Cx):List Addr:=frs X.outer
def Vis (sc:Scope) (x:Str):Prop:=sc.names.lookup x = some .local∨sc.names.lookup x = some .cell∨sc.names.lookup x = some .free
def Loc (sc:Scope) (x:Str):Prop:=sc.names.lookup x = some .local∨sc.names.lookup x = some .cell
def Look (env:Env) (h:Heap) (m:Str→Option Value) (x:Str) (u:Value):Prop :=
 (env.kindOf x = some .local∧m x = some u)∨((env.kindOf x = some .cell∨env.kindOf x = some .free)∧∃ c,env.cells.lookup x = some c∧h.IsCell c (some u))
structure Cx.Ok (X:Cx):Prop where
 mod:Mod X.K X.mg X.base
 kind:X.env.scope.kind = .function
 glob:X.env.globals = mainGlobals
 blt:X.env.builtins = builtinsNs
 above:X.s₀.heap.objs.size ≤ X.env.locals
 inj:∀ x y c,X.env.cells.lookup x = some c→X.env.cells.lookup y = some c→x = y
 has:∀ x,(X.env.kindOf x = some .cell∨X.env.kindOf x = some .free)→∃ c,X.env.cells.lookup x = some c
 cab:∀ x c,X.fn x = true→X.env.cells.lookup x = some c→X.s₀.heap.objs.size ≤ c
 hd:X.calm = true→X.A.handled = none
 frames:X.A.frames = some X.stack
 stk:X.stack = X.outer∨(X.stack = X.env :: X.outer∧X.env.frame = some X.env.locals)
 exf:∀ b ∈ X.ex,b ≠ X.env.locals∧∀ x c,X.env.cells.lookup x = some c→c ≠ b
 bs:∀ b o,X.base.get? b = some o→X.s₀.heap.get? b = some o∧X.H₀ b = none
 bsz:X.base.objs.size ≤ X.s₀.heap.objs.size
 noex:∀ b o,X.base.get? b = some o→b ∉ X.ex
 exfs:∀ b ∈ X.ex,b ∉ X.fs
 funs:X.s₀.heap.FunFrames X.base X.outer
 frf:∀ b ∈ X.fs,X.H₀ b = none
structure Inv (X:Cx) (pins:List (Addr × Obj)) (σ:List (Option V)) (H:Hp) (s:Shared):Prop where
 ok:X.Ok
 os:s.os = X.s₀.os
 bare:AllBare s.gens
 base:Un X.fs X.ex X.H₀ H X.s₀.heap s.heap
 loc:∃ m,s.heap.Ns X.env.locals m∧∀ (i:Nat) (x:Str) (v:V),X.N[i]? = some x→σ[i]? = some (some v)→Vis X.env.scope x→∃ u,RelV v u∧Look X.env s.heap m x u
 cell:∀ x c,X.env.cells.lookup x = some c→∃ v,s.heap.IsCell c v
 free:H X.env.locals = none
 freeC:∀ x c,X.env.cells.lookup x = some c→H c = none
 pin:∀ p ∈ X.pn ++ pins,s.heap.get? p.1 = some p.2∧H p.1 = none∧p.1 ≠ X.env.locals∧p.1 ∉ X.fs∧∀ v,p.2.data ≠ .cell v
 hok:HOk X.prog X.w H s.heap
 len:σ.length = X.N.length
section
variable {X:Cx} {pins:List (Addr × Obj)} {σ:List (Option V)} {H H':Hp} {s:Shared} {h':Heap}
theorem Cx.Ok.nofr (ok:X.Ok) {b:Addr} {o:Obj} (e:X.base.get? b = some o):b ∉ X.fs:=fun hb=>by
 have:=(ok.funs.mem hb).1
 rw [e] at this; cases this
theorem Inv.bs (I:Inv X pins σ H s):∀ b o,X.base.get? b = some o→s.heap.get? b = some o∧H b = none:=fun b o e =>
 ⟨I.base.keep b o (I.ok.bs b o e).1 (I.ok.bs b o e).2 (I.ok.nofr e) (I.ok.noex b o e),I.base.free b o (I.ok.bs b o e).1 (I.ok.bs b o e).2 (I.ok.noex b o e)⟩
theorem Inv.bk (I:Inv X pins σ H s):∀ b o,X.base.get? b = some o→s.heap.get? b = some o:=fun b o e=>(I.bs b o e).1
theorem Inv.mod (I:Inv X pins σ H s):Mod X.K X.mg X.base:=I.ok.mod
theorem Inv.kIn (I:Inv X pins σ H s):X.K.In s.heap:=I.ok.mod.kin.keeps I.bk
theorem Inv.fr (I:Inv X pins σ H s):∃ m,Fr X.base X.env.locals s.heap m :=
 let ⟨m,hn,_⟩:=I.loc
 ⟨m,hn,I.bk,Nat.le_trans I.ok.bsz I.ok.above⟩
theorem Inv.lt (I:Inv X pins σ H s):X.env.locals < s.heap.objs.size:=let ⟨_,hn,_⟩:=I.loc; hn.lt
theorem Inv.sz (I:Inv X pins σ H s):X.s₀.heap.objs.size ≤ s.heap.objs.size:=Nat.le_trans I.ok.above (Nat.le_of_lt I.lt)
theorem Inv.nofs (I:Inv X pins σ H s) {a:Addr} (h:s.heap.objs.size ≤ a):a ∉ X.fs:=fun hb=>by
 obtain ⟨_,o,ho,_⟩:=I.ok.funs.mem hb
 exact absurd (Nat.lt_of_lt_of_le (Heap.lt_size ho) (Nat.le_trans I.sz h)) (Nat.lt_irrefl _)
theorem Inv.cne (I:Inv X pins σ H s):∀ x c,X.env.cells.lookup x = some c→c ≠ X.env.locals:=fun x c e z=>by
 obtain ⟨v,o,ho,hd⟩:=I.cell x c e
 obtain ⟨m,⟨o',es,ep,ho',hd',_⟩,_⟩:=I.loc
 rw [z,ho'] at ho; cases ho; rw [hd'] at hd; cases hd
theorem Inv.funs (I:Inv X pins σ H s):s.heap.FunFrames X.base X.outer:=by
 have all:∀ (l:List Env),(∀ b ∈ frs l,b ∈ X.fs)→X.s₀.heap.FunFrames X.base l→s.heap.FunFrames X.base l:=by
  intro l
  induction l with
  | nil=>intro _ _; trivial
  | cons env r ih =>
   intro hs hl
   obtain ⟨hk,⟨L,o,hf,hn,ho,hd⟩,hr⟩:=hl
   have hL:L ∈ X.fs:=hs L (by unfold frs; rw [List.filterMap_cons,hf]; exact List.mem_cons_self)
   obtain ⟨sl,e⟩:=I.base.slot L o ho (I.ok.frf L hL) hL fun z=>I.ok.exfs L z hL
   exact ⟨hk,⟨L,_,hf,hn,e,hd⟩,ih (fun b hb=>hs b (by unfold frs; rw [List.filterMap_cons,hf]; exact List.mem_cons_of_mem _ hb)) hr⟩
 exact all X.outer (fun _ hb=>hb) I.ok.funs
theorem Inv.stack (I:Inv X pins σ H s):s.heap.FunFrames X.base X.stack:=by
 rcases I.ok.stk with e | ⟨e,hf⟩
 ·rw [e]; exact I.funs
 ·rw [e]
  obtain ⟨m,hn,_⟩:=I.loc
  refine .cons (by rw [I.ok.kind]; decide) hf hn ?_ I.funs
  exact Heap.get?_none_of_le (Nat.le_trans I.ok.bsz I.ok.above)
theorem Inv.stkSub (I:Inv X pins σ H s):∀ b ∈ frs X.stack,b ∈ X.env.locals :: X.fs:=fun b hb=>by
 rcases I.ok.stk with e | ⟨e,hf⟩
 ·rw [e] at hb; exact List.mem_cons_of_mem _ hb
 ·rw [e] at hb
  unfold frs at hb
  rw [List.filterMap_cons,hf] at hb
  exact hb
theorem Inv.stkFree (I:Inv X pins σ H s):∀ b ∈ frs X.stack,H b = none:=fun b hb=>by
 rcases List.mem_cons.mp (I.stkSub b hb) with e | hb
 ·rw [e]; exact I.free
 ·obtain ⟨_,o,ho,_⟩:=I.ok.funs.mem hb
  exact I.base.free b o ho (I.ok.frf b hb) fun z=>I.ok.exfs b z hb
theorem Inv.step {g':Array GenState} {t':Nat} {d':Drawn} {ch:List Addr} (I:Inv X pins σ H s)
  (hch:∀ b ∈ ch,(b ∈ X.ex∨X.s₀.heap.objs.size ≤ b)∧b ≠ X.env.locals∧(∀ x c,X.env.cells.lookup x = some c→c ≠ b)∧∀ p ∈ X.pn ++ pins,p.1 ≠ b)
  (keep:∀ b o,b ≠ X.env.locals→b ∉ X.fs→b ∉ ch→s.heap.get? b = some o→H b = none→h'.get? b = some o)
  (slot:∀ b o,b ≠ X.env.locals→b ∈ X.fs→b ∉ ch→s.heap.get? b = some o→H b = none→∃ sl,h'.get? b = some { o with slots:=sl }) (free:∀ b o,b ∉ ch→s.heap.get? b = some o→H b = none→H' b = none)
  (there:∀ b o,b ∉ ch→s.heap.get? b = some o→∃ o',h'.get? b = some o')
  (tups:∀ b xs,H b = some (.tup xs)→H' b = some (.tup xs)) (frzs:∀ b o u,H b = some (.frz o u)→H' b = some (.frz o u)) (tbls:∀ b ps,H b = some (.tbl ps)→∃ more,H' b = some (.tbl (ps ++ more)))
  (ns:∀ m,s.heap.Ns X.env.locals m→h'.Ns X.env.locals m) (hok:HOk X.prog X.w H' h') (hg:AllBare g') :
  Inv X pins σ H' { s with heap:=h',gens:=g',drawn:=d',toks:=t' }:=by
 have neL:∀ b o,X.s₀.heap.get? b = some o→b ≠ X.env.locals:=fun b o e=>Nat.ne_of_lt (Nat.lt_of_lt_of_le (Heap.lt_size e) I.ok.above)
 have neC:∀ b o,X.s₀.heap.get? b = some o→b ∉ X.ex→b ∉ ch:=fun b o e hx hb=>by
  rcases (hch b hb).1 with z | z
  ·exact hx z
  ·exact absurd (Nat.lt_of_lt_of_le (Heap.lt_size e) z) (Nat.lt_irrefl _)
 have cellK:∀ x c,X.env.cells.lookup x = some c→∀ v,s.heap.IsCell c v→h'.IsCell c v:=fun x c e v ⟨o,ho,hd⟩=>by
  have nch:c ∉ ch:=fun z=>(hch c z).2.2.1 x c e rfl
  by_cases hc:c ∈ X.fs
  ·obtain ⟨sl,q⟩:=slot c o (I.cne x c e) hc nch ho (I.freeC x c e)
   exact ⟨_,q,hd⟩
  ·exact ⟨o,keep c o (I.cne x c e) hc nch ho (I.freeC x c e),hd⟩
 refine ⟨I.ok,I.os,hg,⟨fun b o e n hb hx=>?_,fun b o e n hb hx=>?_,fun b o e n hx=>?_,fun b o e hx=>?_,fun b xs e=>tups b xs (I.base.tups b xs e),fun b o xs e=>frzs b o xs (I.base.frzs b o xs e),fun b ps e=>?_⟩,?_,fun x c e=>?_,?_,fun x c e=>?_,fun p hp=>?_,hok,I.len⟩
 ·exact keep b o (neL b o e) hb (neC b o e hx) (I.base.keep b o e n hb hx) (I.base.free b o e n hx)
 ·obtain ⟨sl,e1⟩:=I.base.slot b o e n hb hx
  obtain ⟨sl',e2⟩:=slot b _ (neL b o e) hb (neC b o e hx) e1 (I.base.free b o e n hx)
  exact ⟨sl',e2⟩
 ·obtain ⟨o',e1⟩:=I.base.there b o e hx
  exact free b o' (neC b o e hx) e1 (I.base.free b o e n hx)
 ·obtain ⟨o',e1⟩:=I.base.there b o e hx
  exact there b o' (neC b o e hx) e1
 ·obtain ⟨m1,e1⟩:=I.base.tbls b ps e
  obtain ⟨m2,e2⟩:=tbls b _ e1
  exact ⟨m1 ++ m2,by rw [e2,Array.append_assoc]⟩
 ·obtain ⟨m,hn,hl⟩:=I.loc
  refine ⟨m,ns m hn,fun i x v e1 e2 e3=>?_⟩
  obtain ⟨u,r,l⟩:=hl i x v e1 e2 e3
  refine ⟨u,r,?_⟩
  rcases l with l | ⟨k,c,e,z⟩
  ·exact .inl l
  ·exact .inr ⟨k,c,e,cellK x c e _ z⟩
 ·obtain ⟨v,z⟩:=I.cell x c e
  exact ⟨v,cellK x c e v z⟩
 ·obtain ⟨m,⟨o,_,_,ho,_⟩,_⟩:=I.loc
  exact free _ o (fun z=>(hch _ z).2.1 rfl) ho I.free
 ·obtain ⟨v,o,ho,hd⟩:=I.cell x c e
  exact free c o (fun z=>(hch c z).2.2.1 x c e rfl) ho (I.freeC x c e)
 ·obtain ⟨e,n,ne,nf,d⟩:=I.pin p hp
  have nch:p.1 ∉ ch:=fun z=>(hch p.1 z).2.2.2 p hp rfl
  exact ⟨keep p.1 p.2 ne nf nch e n,free p.1 p.2 nch e n,ne,nf,d⟩
theorem Inv.un {t':Nat} (I:Inv X pins σ H s) (u:Un X.fs [] H H' s.heap h') (hok:HOk X.prog X.w H' h'):Inv X pins σ H' { s with heap:=h',toks:=t' }:=by
 obtain ⟨m,⟨o,es,ep,ho,r⟩,_⟩:=id I.loc
 obtain ⟨sl,hL⟩:=u.any ho I.free (by simp)
 exact I.step (g':=s.gens) (d':=s.drawn) (ch:=[]) (fun _ z=>nomatch z) (fun b o _ hb _ e n=>u.keep b o e n hb (by simp)) (fun b o _ hb _ e n=>u.slot b o e n hb (by simp)) (fun b o _ e n=>u.free b o e n (by simp)) (fun b o _ e=>u.there b o e (by simp)) u.tups u.frzs u.tbls (fun m' hm=>by
  obtain ⟨o',es',ep',ho',r'⟩:=hm
  rw [ho] at ho'; cases ho'
  exact ⟨_,es',ep',hL,r'⟩) hok I.bare
theorem Inv.call {g':Array GenState} {t':Nat} {d':Drawn} {ch:List Addr} (I:Inv X pins σ H s) (u:Un (frs X.stack) ch H H' s.heap h') (hok:HOk X.prog X.w H' h') (hg:AllBare g')
  (hch:∀ b ∈ ch,(b ∈ X.ex∨X.s₀.heap.objs.size ≤ b)∧b ≠ X.env.locals∧(∀ x c,X.env.cells.lookup x = some c→c ≠ b)∧∀ p ∈ X.pn ++ pins,p.1 ≠ b) :
  Inv X pins σ H' { s with heap:=h',gens:=g',drawn:=d',toks:=t' }:=by
 obtain ⟨m,⟨o,es,ep,ho,r⟩,_⟩:=id I.loc
 obtain ⟨sl,hL⟩:=u.any ho I.free fun z=>(hch _ z).2.1 rfl
 exact I.step (ch:=ch) hch (fun b o hL hb hc e n=>u.keep b o e n (fun z=>(List.mem_cons.mp (I.stkSub b z)).elim hL hb) hc) (fun b o _ _ hc e n=>u.any e n hc) (fun b o hc e n=>u.free b o e n hc) (fun b o hc e=>u.there b o e hc) u.tups u.frzs u.tbls (fun m' hm=>by
  obtain ⟨o',es',ep',ho',r'⟩:=hm
  rw [ho] at ho'; cases ho'
  exact ⟨_,es',ep',hL,r'⟩) hok hg
theorem Inv.turned {t':Nat} {it:Addr} (I:Inv X pins σ H s) (k:∀ b o,b ≠ it→s.heap.get? b = some o→h'.get? b = some o) (hn:H it = none) (hL:it ≠ X.env.locals)
  (h1:it ∈ X.ex∨X.s₀.heap.objs.size ≤ it) (h2:∀ x c,X.env.cells.lookup x = some c→c ≠ it) (h3:∀ p ∈ X.pn ++ pins,p.1 ≠ it):Inv X pins σ H { s with heap:=h',toks:=t' }:=by
 have nit:∀ b u,H b = some u→b ≠ it:=fun b u e z=>by rw [z,hn] at e; cases e
 refine I.step (g':=s.gens) (d':=s.drawn) (ch:=[it]) (fun b hb=>?_) (fun b o _ _ hc e _=>k b o (fun z=>hc (by simp [z])) e) (fun b o _ _ hc e _=>⟨o.slots,k b o (fun z=>hc (by simp [z])) e⟩) (fun _ _ _ _ n=>n)
  (fun b o hc e=>⟨o,k b o (fun z=>hc (by simp [z])) e⟩) (fun _ _ e=>e) (fun _ _ _ e=>e) (fun b ps e=>⟨#[],by rw [e]; simp⟩) (fun m hm=>?_) (fun b u e=>?_) I.bare
 ·have e:b = it:=by simpa using hb
  subst e
  exact ⟨h1,hL,h2,h3⟩
 ·obtain ⟨o,es,ep,ho,r⟩:=hm
  exact ⟨o,es,ep,k _ o (Ne.symm hL) ho,r⟩
 ·refine (I.hok b u e).stay (fun c v hc q=>k c v ?_ q) (fun _ q=>q) fun _ _ q=>q
  rcases hc with z | z
  ·rw [z]; exact nit b u e
  ·exact nit c _ z
theorem Inv.tok (I:Inv X pins σ H s) (t:Nat):Inv X pins σ H { s with toks:=t }:=I.un (h':=s.heap) (t':=t) Un.refl I.hok
theorem Inv.kept {t':Nat} (I:Inv X pins σ H s) (k:∀ b u,s.heap.get? b = some u→h'.get? b = some u):Inv X pins σ H { s with heap:=h',toks:=t' }:=I.un (Un.kept k) (I.hok.kept k)
theorem Inv.laid {a:Addr} {o:HO} {t':Nat} (I:Inv X pins σ H s) (k:∀ b u,s.heap.get? b = some u→h'.get? b = some u) (hp:s.heap.objs.size ≤ a) (new:ObjOk X.prog X.w (upd H a o) h' a o) :
  Inv X pins σ (upd H a o) { s with heap:=h',toks:=t' }:=I.un (Un.laid k hp (I.hok.fresh hp)) (I.hok.laid k hp new)
theorem Inv.write {x e:Addr} {o:HO} {t':Nat} (I:Inv X pins σ H s) (mu:Mut (H x)) (he:e = x∨H e = some (.own x)) (k:∀ b u,b ≠ e→s.heap.get? b = some u→h'.get? b = some u) (heo:∃ u,h'.get? e = some u)
  (new:ObjOk X.prog X.w (upd H x o) h' x o):Inv X pins σ (upd H x o) { s with heap:=h',toks:=t' }:=I.un (Un.write mu he k heo) (I.hok.write mu he k heo new)
theorem Inv.pins_of {pins':List (Addr × Obj)} (I:Inv X pins σ H s) (h:∀ p ∈ pins',s.heap.get? p.1 = some p.2∧H p.1 = none∧p.1 ≠ X.env.locals∧p.1 ∉ X.fs∧∀ v,p.2.data ≠ .cell v):Inv X pins' σ H s :=
 ⟨I.ok,I.os,I.bare,I.base,I.loc,I.cell,I.free,I.freeC,fun p hp=>(List.mem_append.mp hp).elim (fun z=>I.pin p (List.mem_append_left _ z)) (h p),I.hok,I.len⟩
theorem nodup_ix {N:List Str} (hN:N.Nodup) {i j:Nat} {x:Str} (a:N[i]? = some x) (b:N[j]? = some x):i = j:=by
 obtain ⟨h1,e1⟩:=List.getElem?_eq_some_iff.mp a
 obtain ⟨h2,e2⟩:=List.getElem?_eq_some_iff.mp b
 exact (List.getElem_inj hN).mp (e1.trans e2.symm)
theorem store_ok2 {M:Model} {A:Around} {E:Value→Shared→Prop} {i:Nat} {x:Str} {v:V} {u:Value} {Q:Unit→Shared→Prop} (I:Inv X pins σ H s) (hN:X.N.Nodup) (hi:X.N[i]? = some x) (hx:Loc X.env.scope x) (r:RelV v u)
  (h:∀ s',Inv X pins (σ.set i (some v)) H s'→(∃ a,Heap.SameBut a s.heap s'.heap∧(a = X.env.locals∨X.env.cells.lookup x = some a))→Q () s') (hf:X.fn x = true∨X.env.scope.names.lookup x = some .local:=by first | exact .inl rfl | exact .inr rfl | assumption):wpAny M A (storeName X.env x u) Q E s:=by
 obtain ⟨m,hn,hl⟩:=id I.loc
 have hcls:(X.env.scope.kind == .class || (X.env.scope.kind == .module && X.env.locals != X.env.globals)) = false:=by rw [I.ok.kind]; rfl
 have hiσ:i < σ.length:=by rw [I.len]; exact (List.getElem?_eq_some_iff.mp hi).1
 have cne:=I.cne
 have tracked:∀ {a:Addr} {h':Heap},(∃ o,s.heap.get? a = some o∧H a = none)→Heap.SameBut a s.heap h'→HOk X.prog X.w H h':=fun {a h'} ha hs b ob e=>by
  obtain ⟨_,_,hfree⟩:=ha
  refine (I.hok b ob e).stay (fun c w' hc q=>(hs.2 c ?_).trans q) (fun _ q=>q) fun _ _ q=>q
  rintro rfl
  rcases hc with rfl | hc
  ·rw [hfree] at e; cases e
  ·rw [hfree] at hc; cases hc
 rcases hx with hk | hk
 ·refine wpAny_storeName_local hk hn (fun h' hn' hs=>?_) hcls
  obtain ⟨oL,_,_,hoL,_⟩:=id hn
  refine h _ ⟨I.ok,I.os,I.bare,⟨fun b o e n hb hx=>?_,fun b o e n hb hx=>?_,I.base.free,fun b o e hx=>?_,I.base.tups,I.base.frzs,I.base.tbls⟩,⟨_,hn',fun j y v' e1 e2 e3=>?_⟩,fun y c e=>?_,I.free,I.freeC,fun p hp=>?_,tracked ⟨oL,hoL,I.free⟩ hs,by simpa using I.len⟩ ⟨_,hs,.inl rfl⟩
  ·exact (hs.2 b (Nat.ne_of_lt (Nat.lt_of_lt_of_le (Heap.lt_size e) I.ok.above))).trans (I.base.keep b o e n hb hx)
  ·obtain ⟨sl,e1⟩:=I.base.slot b o e n hb hx
   exact ⟨sl,(hs.2 b (Nat.ne_of_lt (Nat.lt_of_lt_of_le (Heap.lt_size e) I.ok.above))).trans e1⟩
  ·obtain ⟨o',e1⟩:=I.base.there b o e hx
   exact ⟨o',(hs.2 b (Nat.ne_of_lt (Nat.lt_of_lt_of_le (Heap.lt_size e) I.ok.above))).trans e1⟩
  ·by_cases hj:j = i
   ·subst hj
    rw [hi] at e1; cases e1
    rw [List.getElem?_set_self hiσ] at e2
    cases e2
    exact ⟨u,r,.inl ⟨hk,by simp⟩⟩
   ·rw [List.getElem?_set_ne (Ne.symm hj)] at e2
    obtain ⟨u',r',q⟩:=hl j y v' e1 e2 e3
    refine ⟨u',r',?_⟩
    rcases q with ⟨k,e⟩ | ⟨k,c,e,z⟩
    ·refine .inl ⟨k,?_⟩
     have:y ≠ x:=fun e=>hj (nodup_ix hN e1 (e ▸ hi))
     simp [this,e]
    ·exact .inr ⟨k,c,e,z.sameBut hs (cne y c e)⟩
  ·obtain ⟨w',z⟩:=I.cell y c e
   exact ⟨w',z.sameBut hs (cne y c e)⟩
  ·obtain ⟨e,n,ne,nf,d⟩:=I.pin p hp
   exact ⟨(hs.2 p.1 ne).trans e,n,ne,nf,d⟩
 ·have hfn:X.fn x = true:=by
   rcases hf with z | z
   ·exact z
   ·rw [z] at hk; cases hk
  obtain ⟨c,hc⟩:=I.ok.has x (.inl hk)
  obtain ⟨w',z⟩:=I.cell x c hc
  refine wpAny_storeName_cell I.ok.kind hk hc z (fun h' hc' hs=>?_)
  obtain ⟨oc,hoc,hocd⟩:=id z
  refine h { s with heap:=h' } ⟨I.ok,I.os,I.bare,⟨fun b o e n hb hx=>?_,fun b o e n hb hx=>?_,I.base.free,fun b o e hx=>?_,I.base.tups,I.base.frzs,I.base.tbls⟩,⟨m,hn.sameBut hs (Ne.symm (cne x c hc)),fun j y v' e1 e2 e3=>?_⟩,fun y c' e=>?_,I.free,I.freeC,fun p hp=>?_,tracked ⟨oc,hoc,I.freeC x c hc⟩ hs,by simpa using I.len⟩ ⟨c,hs,.inr hc⟩
  ·exact (hs.2 b (Nat.ne_of_lt (Nat.lt_of_lt_of_le (Heap.lt_size e) (I.ok.cab x c hfn hc)))).trans (I.base.keep b o e n hb hx)
  ·obtain ⟨sl,e1⟩:=I.base.slot b o e n hb hx
   exact ⟨sl,(hs.2 b (Nat.ne_of_lt (Nat.lt_of_lt_of_le (Heap.lt_size e) (I.ok.cab x c hfn hc)))).trans e1⟩
  ·obtain ⟨o',e1⟩:=I.base.there b o e hx
   exact ⟨o',(hs.2 b (Nat.ne_of_lt (Nat.lt_of_lt_of_le (Heap.lt_size e) (I.ok.cab x c hfn hc)))).trans e1⟩
  ·by_cases hj:j = i
   ·subst hj
    rw [hi] at e1; cases e1
    rw [List.getElem?_set_self hiσ] at e2
    cases e2
    exact ⟨u,r,.inr ⟨.inl hk,c,hc,hc'⟩⟩
   ·rw [List.getElem?_set_ne (Ne.symm hj)] at e2
    obtain ⟨u',r',q⟩:=hl j y v' e1 e2 e3
    refine ⟨u',r',?_⟩
    rcases q with q | ⟨k,c',e,z'⟩
    ·exact .inl q
    ·refine .inr ⟨k,c',e,z'.sameBut hs ?_⟩
     rintro rfl
     exact hj (nodup_ix hN e1 (I.ok.inj _ _ _ e hc ▸ hi))
  ·by_cases hcc:c' = c
   ·subst hcc; exact ⟨_,hc'⟩
   ·obtain ⟨w2,z2⟩:=I.cell y c' e
    exact ⟨w2,z2.sameBut hs hcc⟩
  ·obtain ⟨e,n,ne,nf,d⟩:=I.pin p hp
   refine ⟨(hs.2 p.1 ?_).trans e,n,ne,nf,d⟩
   intro q
   rw [q,hoc] at e
   have q':oc = p.2:=Option.some.inj e
   exact d w' (by rw [← q']; exact hocd)
theorem store_ok {M:Model} {A:Around} {E:Value→Shared→Prop} {i:Nat} {x:Str} {v:V} {u:Value} {Q:Unit→Shared→Prop} (I:Inv X pins σ H s) (hN:X.N.Nodup) (hi:X.N[i]? = some x) (hx:Loc X.env.scope x) (r:RelV v u)
  (h:∀ s',Inv X pins (σ.set i (some v)) H s'→Q () s') (hf:X.fn x = true∨X.env.scope.names.lookup x = some .local:=by first | exact .inl rfl | exact .inr rfl | assumption):wpAny M A (storeName X.env x u) Q E s :=
 store_ok2 I hN hi hx r (fun s' I' _=>h s' I') hf
theorem Inv.call' {s':Shared} {ch:List Addr} (I:Inv X pins σ H s) (ho:s'.os = s.os) (u:Un (frs X.stack) ch H H' s.heap s'.heap) (hok:HOk X.prog X.w H' s'.heap) (hg:AllBare s'.gens)
  (hch:∀ b ∈ ch,(b ∈ X.ex∨X.s₀.heap.objs.size ≤ b)∧b ≠ X.env.locals∧(∀ x c,X.env.cells.lookup x = some c→c ≠ b)∧∀ p ∈ X.pn ++ pins,p.1 ≠ b):Inv X pins σ H' s':=by
 obtain ⟨h',g',d',t',o'⟩:=s'
 have e:o' = s.os:=ho
 subst e
 exact I.call (g':=g') (t':=t') (d':=d') u hok hg hch
end
abbrev XK:=Value→Option Addr→Hp→Prop
abbrev St:=List (Option V)
abbrev VK:=V→Hp→Prop
abbrev TE:=St→Hp→VK→Prop
abbrev TT:=St→Hp→(Bool→Hp→Prop)→Prop
abbrev TA:=St→Hp→(List V→Hp→Prop)→Prop
structure Ends where
 nx:St→Hp→Prop
 rt:VK
 bk:St→Hp→Prop:=fun _ _=>False
 ct:St→Hp→Prop:=fun _ _=>False
abbrev TS:=Ends→St→Hp→Prop
def EP (X:Cx) (pins:List (Addr × Obj)) (σ:St) (Q:VK) (u:Value) (s':Shared):Prop:=∃ v H',Inv X pins σ H' s'∧RelV v u∧Q v H'
def TP (X:Cx) (pins:List (Addr × Obj)) (σ:St) (Q:Bool→Hp→Prop) (b:Bool) (s':Shared):Prop:=∃ H',Inv X pins σ H' s'∧Q b H'
def AP (X:Cx) (pins:List (Addr × Obj)) (σ:St) (Q:List V→Hp→Prop) (us:List Value) (s':Shared):Prop:=∃ vs H',Inv X pins σ H' s'∧Vals vs us∧Q vs H'
def SP (X:Cx) (pins:List (Addr × Obj)) (D:Ends) (f:Flow) (s':Shared):Prop :=
 match f with
 | .next=>∃ σ' H',Inv X pins σ' H' s'∧D.nx σ' H'
 | .brk=>∃ σ' H',Inv X pins σ' H' s'∧D.bk σ' H'
 | .cont=>∃ σ' H',Inv X pins σ' H' s'∧D.ct σ' H'
 | .ret u=>∃ v σ' H',Inv X pins σ' H' s'∧RelV v u∧D.rt v H'
def PE (X:Cx) (e:Expr) (t:TE):Prop :=
 ∀ (pins:List (Addr × Obj)) (s:Shared) (σ:St) (H:Hp) (Q:VK),Inv X pins σ H s→t σ H Q→wpAny (model X.prog X.w) X.A (eval e X.env) (EP X pins σ Q) X.xe s
def PT (X:Cx) (e:Expr) (t:TT):Prop :=
 ∀ (pins:List (Addr × Obj)) (s:Shared) (σ:St) (H:Hp) (Q:Bool→Hp→Prop),Inv X pins σ H s→t σ H Q→wpAny (model X.prog X.w) X.A (isTrue e X.env (eval e X.env)) (TP X pins σ Q) X.xe s
def PW (X:Cx) (e:Expr) (t:TT):Prop :=
 ∀ (whole:Sem Value) (pins:List (Addr × Obj)) (s:Shared) (σ:St) (H:Hp) (Q:Bool→Hp→Prop),Inv X pins σ H s→t σ H Q→wpAny (model X.prog X.w) X.A (isTrue e X.env whole) (TP X pins σ Q) X.xe s
theorem PW.pt {X:Cx} {e:Expr} {t:TT} (h:PW X e t):PT X e t:=h _
def PA (X:Cx) (es:List Expr) (t:TA):Prop :=
 ∀ (pos:Pos) (pins:List (Addr × Obj)) (s:Shared) (σ:St) (H:Hp) (Q:List V→Hp→Prop),Inv X pins σ H s→t σ H Q→wpAny (model X.prog X.w) X.A (spliced (backTo pos (starEach es X.env))) (AP X pins σ Q) X.xe s
def PS (X:Cx) (st:Stmt) (t:TS):Prop :=
 ∀ (pins:List (Addr × Obj)) (s:Shared) (σ:St) (H:Hp) (D:Ends),Inv X pins σ H s→t D σ H→wpAny (model X.prog X.w) X.A (exec st X.env) (SP X pins D) X.xe s
def PSs (X:Cx) (st:List Stmt) (t:TS):Prop :=
 ∀ (pins:List (Addr × Obj)) (s:Shared) (σ:St) (H:Hp) (D:Ends),Inv X pins σ H s→t D σ H→wpAny (model X.prog X.w) X.A (execs st X.env) (SP X pins D) X.xe s
theorem thn {α:Type} {t:Sem α} {Q Q':α→Shared→Prop} {M:Model} {A:Around} {E:Value→Shared→Prop} {s:Shared} (h:wpAny M A t Q E s) (hQ:∀ a s,Q a s→Q' a s):wpAny M A t Q' E s:=wpAny_mono h hQ fun _ _ x=>x
end L2
namespace L2
open PySem PySem.Spec PyProof.Rows
section
variable {X:Cx}
def tVar (i:Nat):TE:=fun σ H Q=>∃ v,σ[i]? = some (some v)∧Q v H
def tC (v:V):TE:=fun _ H Q=>Q v H
theorem pe_var {i:Nat} {x:Str} {pos:Pos} (hN:X.N[i]? = some x) (hv:Vis X.env.scope x) (hd:(x == ("__debug__" : Str)) = false:=by decide) (hcd:(x == ("__classdict__" : Str)) = false:=by decide):PE X (.Name x pos) (tVar i):=by
 intro pins s σ H Q I h
 obtain ⟨v,e,h⟩:=h
 obtain ⟨m,hn,hl⟩:=I.loc
 obtain ⟨u,r,l⟩:=hl i x v hN e hv
 have fin:EP X pins σ Q u s:=⟨v,H,I,r,h⟩
 rcases l with ⟨hk,hm⟩ | ⟨hk,c,hc,hcell⟩
 ·exact wpAny_Name (wpAny_loadName_local I.ok.kind hk hn hm fin) hd
 ·rcases hk with hk | hk
  ·exact wpAny_Name (wpAny_loadName_cell I.ok.kind hk hc hcell fin) hd
  ·exact wpAny_Name (wpAny_loadName_free I.ok.kind hk hc hcell fin hcd) hd
theorem pe_int {i j pos} : PE X (.Constant (.int i) j pos) (tC (.int i)):=fun _ _ _ H _ I h=>wpAny_Constant_int ⟨.int i,H,I.tok _,⟨_,rfl⟩,h⟩
theorem pe_bl {b j pos} : PE X (.Constant (.bool b) j pos) (tC (.bl b)):=fun _ _ _ H _ I h=>Constant_bool ⟨.bl b,H,I,rfl,h⟩
theorem pe_non {j pos} : PE X (.Constant .none j pos) (tC .non):=fun _ _ _ H _ I h=>Constant_none ⟨.non,H,I,rfl,h⟩
theorem pe_str {x j pos} : PE X (.Constant (.str x) j pos) (tC (.str x)):=fun _ _ _ H _ I h=>Calls.Constant_str ⟨.str x,H,I.tok _,⟨_,rfl⟩,h⟩
def Gl (X:Cx) (x:Str):Prop:=X.env.kindOf x = some .globalImplicit
theorem ld_glob {E:Value→Shared→Prop} {pins:List (Addr × Obj)} {s:Shared} {σ:St} {H:Hp} {x:Str} {u:Value} {pos:Pos} {Q:Value→Shared→Prop} (I:Inv X pins σ H s) (hg:Gl X x) (hm:X.mg x = some u) (h:Q u s)
  (hd:(x == ("__debug__" : Str)) = false:=by decide):wpAny (model X.prog X.w) X.A (eval (.Name x pos) X.env) Q E s :=
 Calls.Name_function_global I.ok.kind hg (Calls.loadGlobal_global (by rw [I.ok.glob]; exact I.mod.glob.keeps I.bk) hm h) hd
theorem ld_blt {E:Value→Shared→Prop} {pins:List (Addr × Obj)} {s:Shared} {σ:St} {H:Hp} {x:Str} {u:Value} {pos:Pos} {Q:Value→Shared→Prop} (I:Inv X pins σ H s) (hg:Gl X x) (hm:X.mg x = none) (hv:bootBuiltins x = some u) (h:Q u s)
  (hn:x ≠ "__name__" := by decide) (hd:(x == ("__debug__" : Str)) = false:=by decide):wpAny (model X.prog X.w) X.A (eval (.Name x pos) X.env) Q E s:=by
 obtain ⟨mb,h1,h2⟩:=I.mod.blt
 exact Calls.Name_function_global I.ok.kind hg (Calls.loadGlobal_builtin (by rw [I.ok.glob]; exact I.mod.glob.keeps I.bk) hm (by rw [I.ok.blt]; exact h1.keeps I.bk) ((h2 x hn).trans hv) h) hd
theorem pe_glob {x:Str} {v:V} {u:Value} {pos:Pos} (hg:Gl X x) (hm:X.mg x = some u) (r:RelV v u) (hd:(x == ("__debug__" : Str)) = false:=by decide):PE X (.Name x pos) (tC v) :=
 fun _ _ _ H _ I h=>ld_glob I hg hm ⟨v,H,I,r,h⟩ hd
theorem pe_bltn {x:Str} {v:V} {u:Value} {pos:Pos} (hg:Gl X x) (hm:X.mg x = none) (hv:bootBuiltins x = some u) (r:RelV v u) (hn:x ≠ "__name__" := by decide) (hd:(x == ("__debug__" : Str)) = false:=by decide):PE X (.Name x pos) (tC v) :=
 fun _ _ _ H _ I h=>ld_blt I hg hm hv ⟨v,H,I,r,h⟩ hn hd
variable {a b:Expr} {ta tb:TE} {pos:Pos}
def tB (t:TE):TT:=fun σ H Q=>t σ H fun x H1=>∃ c,x = .bl c∧Q c H1
variable {tA tB':TT} {rest:List Expr}
def tAnd (t u:TT):TT:=fun σ H Q=>t σ H fun c H1=>if c = true then u σ H1 Q else Q false H1
def tOr (t u:TT):TT:=fun σ H Q=>t σ H fun c H1=>if c = true then Q true H1 else u σ H1 Q
def tNot (t:TT):TT:=fun σ H Q=>t σ H fun c H1=>Q (!c) H1
theorem pw_and1 (ha:PT X a tA):PW X (.BoolOp .And [a] pos) tA:=by
 intro wh pins s σ H Q I h
 refine isTrue_and (thn (ha pins s σ H Q I h) fun c s1 e=>?_)
 cases c with
 | true=>exact isTrue_and_nil e
 | false=>exact e
theorem pw_or1 (ha:PT X a tA):PW X (.BoolOp .Or [a] pos) tA:=by
 intro wh pins s σ H Q I h
 refine isTrue_or (thn (ha pins s σ H Q I h) fun c s1 e=>?_)
 cases c with
 | false=>exact isTrue_or_nil e
 | true=>exact e
theorem pw_and (ha:PT X a tA) (hb:PW X (.BoolOp .And (b :: rest) pos) tB'):PW X (.BoolOp .And (a :: b :: rest) pos) (tAnd tA tB'):=by
 intro wh pins s σ H Q I h
 refine isTrue_and (thn (ha pins s σ H _ I h) fun c s1 ⟨H1,I1,q1⟩=>?_)
 cases c with
 | true=>exact hb wh pins s1 σ H1 Q I1 q1
 | false=>exact ⟨H1,I1,q1⟩
theorem pw_or (ha:PT X a tA) (hb:PW X (.BoolOp .Or (b :: rest) pos) tB'):PW X (.BoolOp .Or (a :: b :: rest) pos) (tOr tA tB'):=by
 intro wh pins s σ H Q I h
 refine isTrue_or (thn (ha pins s σ H _ I h) fun c s1 ⟨H1,I1,q1⟩=>?_)
 cases c with
 | true=>exact ⟨H1,I1,q1⟩
 | false=>exact hb wh pins s1 σ H1 Q I1 q1
theorem pt_not (ha:PT X a tA):PT X (.UnaryOp .Not a pos) (tNot tA):=by
 intro pins s σ H Q I h
 exact isTrue_not (ha pins s σ H (fun c H1=>Q (!c) H1) I h)
def tAndV (ta tb:TE):TE:=fun σ H Q=>ta σ H fun x H1=>∃ c,x = .bl c∧if c = true then tb σ H1 Q else Q (.bl false) H1
def tOrV (ta tb:TE):TE:=fun σ H Q=>ta σ H fun x H1=>∃ c,x = .bl c∧if c = true then Q (.bl true) H1 else tb σ H1 Q
def tNotV (ta:TE):TE:=fun σ H Q=>ta σ H fun x H1=>∃ c,x = .bl c∧Q (.bl (!c)) H1
theorem pe_one {op} {t:TE} (h:PE X a t):PE X (.BoolOp op [a] pos) t:=fun pins s σ H Q I hw=>BoolOp_one (h pins s σ H Q I hw)
theorem pe_and (ha:PE X a ta) (hb:PE X (.BoolOp .And (b :: rest) pos) tb):PE X (.BoolOp .And (a :: b :: rest) pos) (tAndV ta tb):=by
 intro pins s σ H Q I h
 refine BoolOp_and (thn (ha pins s σ H _ I h) fun v s1 ⟨x,H1,I1,r1,q1⟩=>?_)
 obtain ⟨c,rfl,q1⟩:=q1
 cases r1
 refine wpAny_truthy_bool ?_
 cases c with
 | true=>exact hb pins s1 σ H1 Q I1 q1
 | false=>exact ⟨.bl false,H1,I1,rfl,q1⟩
theorem pe_not (ha:PE X a ta):PE X (.UnaryOp .Not a pos) (tNotV ta):=by
 intro pins s σ H Q I h
 refine UnaryOp_ (thn (ha pins s σ H _ I h) fun v s1 ⟨x,H1,I1,r1,q1⟩=>?_)
 obtain ⟨c,rfl,q1⟩:=q1
 cases r1
 exact not_of (wpAny_truthy_bool ⟨.bl (!c),H1,I1,rfl,q1⟩)
def tIf (t:TT) (ta tb:TE):TE:=fun σ H Q=>t σ H fun c H1=>if c = true then ta σ H1 Q else tb σ H1 Q
theorem pe_ifExp {c:Expr} (hc:PT X c tA) (ha:PE X a ta) (hb:PE X b tb):PE X (.IfExp c a b pos) (tIf tA ta tb):=by
 intro pins s σ H Q I h
 refine wpAny_IfExp (thn (hc pins s σ H _ I h) fun d s1 ⟨H1,I1,q1⟩=>?_)
 cases d with
 | true=>exact ha pins s1 σ H1 Q I1 q1
 | false=>exact hb pins s1 σ H1 Q I1 q1
end
end L2
namespace L2
open PySem PySem.Spec PyProof.Rows
def SqL (K:PySem.W.Frag) (H:Hp) (a:Addr) (xs:List V):Prop :=
 Rd H a (.lst xs) ∨
  ∃ (o:Obj) (its:Array Value) (n:Nat),K.lookup a = some o∧o.cls = .type "list" ∧ o.dict = none∧o.data = .seq its n∧its.size ≤ sizeLine∧Vals xs its.toList
def SqT (K:PySem.W.Frag) (H:Hp) (a:Addr) (xs:List V):Prop :=
 Rd H a (.tup xs) ∨
  ∃ (o:Obj) (its:Array Value) (n:Nat),K.lookup a = some o∧o.cls = .type "tuple" ∧ o.data = .seq its n∧its.size ≤ sizeLine∧Vals xs its.toList
def absV:Value→Option V
 | .none=>some .non
 | .bool b=>some (.bl b)
 | .int i _=>some (.int i)
 | .str x _=>some (.str x)
 | .bytes b _=>some (.byt b)
 | .float b _=>some (.flt b)
 | .ref a=>some (.ref a)
 | .type n=>some (.ty n)
 | _=>none
theorem RelV.abs {x:V} {u:Value} (r:RelV x u):absV u = some x:=by
 cases x with
 | non=>cases r; rfl
 | bl _=>cases r; rfl
 | int _=>obtain ⟨t,rfl⟩:=r; rfl
 | str _=>obtain ⟨t,rfl⟩:=r; rfl
 | byt _=>obtain ⟨t,rfl⟩:=r; rfl
 | flt _=>obtain ⟨t,rfl⟩:=r; rfl
 | ref _=>cases r; rfl
 | ty _=>cases r; rfl
theorem RelV.inj {x y:V} {u:Value} (r:RelV x u) (q:RelV y u):x = y:=Option.some.inj (r.abs.symm.trans q.abs)
theorem Vals.inj:∀ {xs ys:List V} {us:List Value},Vals xs us→Vals ys us→xs = ys
 | _,_,_,.nil,.nil=>rfl
 | _,_,_,.cons r t,.cons r' t'=>by rw [r.inj r',Vals.inj t t']
section
variable {X:Cx} {pins:List (Addr × Obj)} {σ:St} {H:Hp} {s:Shared} {a:Addr} {xs ys:List V}
theorem SqL.of {K:PySem.W.Frag} (h:H a = some (.lst xs)):SqL K H a xs:=.inl (.inl h)
theorem SqT.of {K:PySem.W.Frag} (h:H a = some (.tup xs)):SqT K H a xs:=.inl (.inl h)
theorem Inv.list (I:Inv X pins σ H s) (h:SqL X.K H a xs):∃ its:List Value,Vals xs its∧PlainL s.heap a its.toArray∧xs.length ≤ sizeLine:=by
 rcases h with h | ⟨o,its,n,hk,hc,hd,hs,hz,r⟩
 ·obtain ⟨z,its,n,r,e⟩:=h.ok I.hok
  exact ⟨its,r,⟨_,n,e,rfl,rfl,rfl⟩,z⟩
 ·refine ⟨its.toList,r,⟨o,n,I.kIn a o hk,hc,hd,by simpa using hs⟩,?_⟩
  have e:=r.length
  simp only [Array.length_toList] at e
  omega
theorem Inv.tuple (I:Inv X pins σ H s) (h:SqT X.K H a xs):∃ its:List Value,Vals xs its∧IsTup s.heap a its.toArray∧xs.length ≤ sizeLine:=by
 rcases h with h | ⟨o,its,n,hk,hc,hs,hz,r⟩
 ·obtain ⟨z,its,r,p⟩:=h.ok I.hok
  exact ⟨its,r,p,z⟩
 ·refine ⟨its.toList,r,⟨o,I.kIn a o hk,hc,n,by simpa using hs⟩,?_⟩
  have e:=r.length
  simp only [Array.length_toList] at e
  omega
theorem Inv.list_inj (I:Inv X pins σ H s) (h:SqL X.K H a xs) (h':SqL X.K H a ys):xs = ys:=by
 obtain ⟨its,r,⟨o,n,e,_,_,d⟩,_⟩:=I.list h
 obtain ⟨its',r',⟨o',n',e',_,_,d'⟩,_⟩:=I.list h'
 rw [e] at e'; cases e'
 rw [d] at d'
 injection d' with d1 _
 have:its = its':=by simpa using congrArg Array.toList d1
 subst this
 exact r.inj r'
end
abbrev Cx.wish (X:Cx) (E:Value→Shared→Prop):Cx:={ X with xe:=E }
abbrev Cx.nox (X:Cx):Cx:=X.wish fun _ _=>False
theorem Cx.Ok.wish {X:Cx} (ok:X.Ok) (E:Value→Shared→Prop):(X.wish E).Ok :=
 ⟨ok.mod,ok.kind,ok.glob,ok.blt,ok.above,ok.inj,ok.has,ok.cab,ok.hd,ok.frames,ok.stk,ok.exf,ok.bs,ok.bsz,ok.noex,ok.exfs,ok.funs,ok.frf⟩
theorem Cx.Ok.unwish {X:Cx} {E:Value→Shared→Prop} (ok:(X.wish E).Ok):X.Ok :=
 ⟨ok.mod,ok.kind,ok.glob,ok.blt,ok.above,ok.inj,ok.has,ok.cab,ok.hd,ok.frames,ok.stk,ok.exf,ok.bs,ok.bsz,ok.noex,ok.exfs,ok.funs,ok.frf⟩
section
variable {X:Cx} {pins:List (Addr × Obj)} {σ:St} {H:Hp} {s:Shared} {E:Value→Shared→Prop}
theorem Inv.wish (I:Inv X pins σ H s) (E:Value→Shared→Prop):Inv (X.wish E) pins σ H s:=⟨I.ok.wish E,I.os,I.bare,I.base,I.loc,I.cell,I.free,I.freeC,I.pin,I.hok,I.len⟩
theorem Inv.unwish (I:Inv (X.wish E) pins σ H s):Inv X pins σ H s:=⟨I.ok.unwish,I.os,I.bare,I.base,I.loc,I.cell,I.free,I.freeC,I.pin,I.hok,I.len⟩
theorem SP.unwish {D:Ends} {f:Flow} {s':Shared} (h:SP (X.wish E) pins D f s'):SP X pins D f s':=by
 cases f with
 | next=>obtain ⟨σ',H',I,q⟩:=h; exact ⟨σ',H',I.unwish,q⟩
 | brk=>obtain ⟨σ',H',I,q⟩:=h; exact ⟨σ',H',I.unwish,q⟩
 | cont=>obtain ⟨σ',H',I,q⟩:=h; exact ⟨σ',H',I.unwish,q⟩
 | ret u=>obtain ⟨v,σ',H',I,r,q⟩:=h; exact ⟨v,σ',H',I.unwish,r,q⟩
theorem PSs.nox {st:List Stmt} {t:TS} (h:PSs X.nox st t):PSs X st t:=fun pins s σ H D I hw =>
 wpAny_mono (h pins s σ H D (I.wish _) hw) (fun _ _ q=>q.unwish) fun _ _ z=>False.elim z
end
section
variable {X:Cx} {st:Stmt} {rest:List Stmt} {t u:TS} {e:Expr} {te:TE} {pos:Pos}
def tNext:TS:=fun D σ H=>D.nx σ H
def tSeq (t u:TS):TS:=fun D σ H=>t { D with nx:=u D } σ H
theorem pss_nil:PSs X [] tNext:=fun _ _ σ H _ I h=>wpAny_execs_nil ⟨σ,H,I,h⟩
theorem pss_cons (h1:PS X st t) (h2:PSs X rest u):PSs X (st :: rest) (tSeq t u):=by
 intro pins s σ H D I h
 refine wpAny_execs_cons (thn (h1 pins s σ H { D with nx:=u D } I h) fun f s1 q=>?_)
 cases f with
 | next =>
  obtain ⟨σ',H',I',q⟩:=q
  exact h2 pins s1 σ' H' D I' q
 | ret v=>exact q
 | brk=>exact q
 | cont=>exact q
theorem pss_one (h1:PS X st t):PSs X [st] t:=by
 intro pins s σ H D I h
 refine wpAny_execs_cons (thn (h1 pins s σ H D I h) fun f s1 q=>?_)
 cases f with
 | next=>exact wpAny_execs_nil q
 | ret v=>exact q
 | brk=>exact q
 | cont=>exact q
theorem Inv.quiet {pins:List (Addr × Obj)} {σ:St} {H:Hp} {s:Shared} (I:Inv X pins σ H s):interactive X.env = false:=by simp [interactive,I.ok.kind]
def tDrop (te:TE):TS:=fun D σ H=>te σ H fun _ H1=>D.nx σ H1
theorem ps_expr (he:PE X e te) (hs:swapsWith e none pos.line X.env = pure false:=by rfl):PS X (.Expr e pos) (tDrop te):=by
 intro pins s σ H D I h
 exact wpAny_Expr_any (thn (he pins s σ H _ I h) fun v s1 ⟨x,H1,I1,r1,q1⟩=>⟨σ,H1,I1,q1⟩) I.quiet hs
def tRet (te:TE):TS:=fun D σ H=>te σ H D.rt
theorem ps_ret (he:PE X e te):PS X (.Return (some e) pos) (tRet te):=by
 intro pins s σ H D I h
 exact wpAny_Return_some (thn (he pins s σ H _ I h) fun v s1 ⟨x,H1,I1,r1,q1⟩=>⟨x,σ,H1,I1,r1,q1⟩)
def tRetN:TS:=fun D _ H=>D.rt .non H
def tIfS (c:TT) (t u:TS):TS:=fun D σ H=>c σ H fun b H1=>if b = true then t D σ H1 else u D σ H1
theorem ps_if {c:Expr} {a b:List Stmt} {tc:TT} (hc:PT X c tc) (ha:PSs X a t) (hb:PSs X b u):PS X (.If c a b pos) (tIfS tc t u):=by
 intro pins s σ H D I h
 refine wpAny_If (thn (hc pins s σ H _ I h) fun d s1 ⟨H1,I1,q1⟩=>?_)
 cases d with
 | true=>exact ha pins s1 σ H1 D I1 q1
 | false=>exact hb pins s1 σ H1 D I1 q1
end
abbrev TG:=V→St→Hp→(St→Hp→Prop)→Prop
abbrev TGs:=List V→St→Hp→(St→Hp→Prop)→Prop
def PG (X:Cx) (target:Expr) (t:TG):Prop :=
 ∀ (pins:List (Addr × Obj)) (s:Shared) (σ:St) (H:Hp) (v:V) (u:Value) (Q:St→Hp→Prop),Inv X pins σ H s→RelV v u→t v σ H Q →
  wpAny (model X.prog X.w) X.A (assign target X.env u) (fun _ s'=>∃ σ' H',Inv X pins σ' H' s'∧Q σ' H') X.xe s
def PGs (X:Cx) (ts:List Expr) (t:TGs):Prop :=
 ∀ (pins:List (Addr × Obj)) (s:Shared) (σ:St) (H:Hp) (vs:List V) (us:List Value) (Q:St→Hp→Prop),Inv X pins σ H s→Vals vs us→t vs σ H Q →
  wpAny (model X.prog X.w) X.A (assignInOrder ((assignEach ts X.env).map (·.2)) us) (fun _ s'=>∃ σ' H',Inv X pins σ' H' s'∧Q σ' H') X.xe s
abbrev TSet:=V→V→V→Hp→(Hp→Prop)→Prop
def PSet (X:Cx) (t:TSet):Prop :=
 ∀ (pins:List (Addr × Obj)) (s:Shared) (σ:St) (H:Hp) (o i v:V) (ov iv u:Value) (Q:Hp→Prop),Inv X pins σ H s→RelV o ov→RelV i iv→RelV v u→t o i v H Q →
  wpAny (model X.prog X.w) X.A (setItem ov iv u) (fun _ s'=>∃ H',Inv X pins σ H' s'∧Q H') X.xe s
abbrev TIp:=V→V→Hp→VK→Prop
def PIp (X:Cx) (op:Operator) (t:TIp):Prop :=
 ∀ (pins:List (Addr × Obj)) (s:Shared) (σ:St) (H:Hp) (x y:V) (v u:Value) (Q:VK),Inv X pins σ H s→RelV x v→RelV y u→t x y H Q →
  wpAny (model X.prog X.w) X.A (inplaceOp op v u) (EP X pins σ Q) X.xe s
section
variable {X:Cx} {pos:Pos}
def gName (i:Nat):TG:=fun v σ H Q=>Q (σ.set i (some v)) H
theorem pg_name {i:Nat} {x:Str} (hN:X.N.Nodup) (hi:X.N[i]? = some x) (hx:Loc X.env.scope x) (hf:X.fn x = true∨X.env.scope.names.lookup x = some .local:=by first | exact .inl rfl | exact .inr rfl | assumption):PG X (.Name x pos) (gName i):=by
 intro pins s σ H v u Q I r h
 exact wpAny_assign_Name (store_ok I hN hi hx r (fun s' I'=>⟨_,H,I',h⟩) hf)
def gNil:TGs:=fun vs σ H Q=>vs = []∧Q σ H
def gCons (t:TG) (u:TGs):TGs:=fun vs σ H Q=>∃ v r,vs = v :: r∧t v σ H fun σ' H'=>u r σ' H' Q
theorem pgs_nil:PGs X [] gNil:=by
 intro pins s σ H vs us Q I r h
 obtain ⟨e,h⟩:=h
 subst e
 cases r
 exact assignInOrder_nil ⟨σ,H,I,h⟩
theorem pgs_cons {e:Expr} {es:List Expr} {t:TG} {u:TGs} (h1:PG X e t) (h2:PGs X es u)
  (hs:(assignEach (e :: es) X.env).map (·.2) = assign e X.env :: (assignEach es X.env).map (·.2):=by rfl):PGs X (e :: es) (gCons t u):=by
 intro pins s σ H vs us Q I r h
 obtain ⟨v,vr,e1,h⟩:=h
 subst e1
 cases r with
 | cons r rr =>
  rw [hs]
  refine assignInOrder_cons (thn (h1 pins s σ H _ _ _ I r h) fun _ s1 ⟨σ1,H1,I1,q1⟩=>?_)
  exact h2 pins s1 σ1 H1 _ _ Q I1 rr q1
def gTup (K:PySem.W.Frag) (n:Nat) (t:TGs):TG:=fun v σ H Q=>∃ a xs,v = .ref a∧SqT K H a xs∧xs.length = n∧t xs σ H Q
theorem pg_tup {es:List Expr} {k:Nat} {t:TGs} {n:Nat} (hc:X.calm = true) (h:PGs X es t)
  (hn:(assignEach es X.env).length = n:=by rfl) (hst:(assignEach es X.env).findIdx? (·.1) = none:=by rfl):PG X (.Tuple es k pos) (gTup X.K n t):=by
 intro pins s σ H v u Q I r hw
 obtain ⟨a,xs,e1,hq,hl,hw⟩:=hw
 subst e1
 cases r
 obtain ⟨its,rv,ht,hz⟩:=I.tuple hq
 refine assign_Tuple_tuple (I.ok.hd hc) ht (by simp [hn,← hl,rv.length]) hst fun h' hx=>?_
 have I1:Inv X pins σ H { s with heap:=h' }:=I.kept (t':=s.toks) fun b o e=>hx b o (Nat.ne_of_lt (Heap.lt_size e)) e
 exact h pins _ σ H xs _ Q I1 (by simpa using rv) hw
def gSub (to ti:TE) (t:TSet):TG:=fun v σ H Q=>to σ H fun o H1=>ti σ H1 fun i H2=>t o i v H2 fun H3=>Q σ H3
theorem pg_sub {o i:Expr} {to ti:TE} {t:TSet} (ho:PE X o to) (hi:PE X i ti) (hs:PSet X t)
  (ha:∀ v,assign (.Subscript o i pos) X.env v = (do
   let ov ← holding [v] (eval o X.env)
   let iv ← holding [v,ov] (eval i X.env)
   standAt pos
   holding [v,ov,iv] (setItem ov iv v)
   release [v,ov,iv] []):=by intro _; rfl):PG X (.Subscript o i pos) (gSub to ti t):=by
 intro pins s σ H v u Q I r h
 rw [ha]
 refine wpAny_bind (wpAny_holding (thn (ho pins s σ H _ I h) fun ov s1 ⟨x,H1,I1,r1,q1⟩=>?_))
 refine wpAny_bind (wpAny_holding (thn (hi pins s1 σ H1 _ I1 q1) fun iv s2 ⟨y,H2,I2,r2,q2⟩=>?_))
 refine wpAny_bind (wpAny_standAt (wpAny_bind (wpAny_holding (thn (hs pins s2 σ H2 x y v ov iv u _ I2 r1 r2 r q2) fun _ s3 ⟨H3,I3,q3⟩=>?_))))
 exact wpAny_release ⟨σ,H3,I3,q3⟩
def tAsg (te:TE) (g:TG):TS:=fun D σ H=>te σ H fun x H1=>g x σ H1 D.nx
theorem ps_asg {tg e:Expr} {te:TE} {g:TG} (he:PE X e te) (hg:PG X tg g) (hs:swapsWithSole [tg] e pos.line X.env = pure false:=by rfl) (hw:swappedStores [tg] e X.env = pure none:=by rfl)
  (h1:(assignEach [tg] X.env).map (·.2) = [assign tg X.env]:=by rfl):PS X (.Assign [tg] e pos) (tAsg te g):=by
 intro pins s σ H D I h
 refine wpAny_Assign_stores (thn (he pins s σ H _ I h) fun v s1 ⟨x,H1,I1,r1,q1⟩=>?_) hs hw
 rw [h1]
 exact thn (hg pins s1 σ H1 x v _ I1 r1 q1) fun _ s2 q=>q
theorem ps_set {i:Nat} {x:Str} {e:Expr} {te:TE} {pos':Pos} (hN:X.N.Nodup) (hi:X.N[i]? = some x) (hx:Loc X.env.scope x) (he:PE X e te) (hs:swapsWith e (some (.Name x pos')) pos.line X.env = pure false:=by rfl) (hf:X.fn x = true∨X.env.scope.names.lookup x = some .local:=by first | exact .inl rfl | exact .inr rfl | assumption) :
  PS X (.Assign [.Name x pos'] e pos) (tAsg te (gName i)):=by
 intro pins s σ H D I h
 refine wpAny_Assign_Name (thn (he pins s σ H _ I h) fun v s1 ⟨y,H1,I1,r1,q1⟩=>?_) hs
 exact store_ok I1 hN hi hx r1 (fun s2 I2=>⟨_,H1,I2,q1⟩) hf
def tPar (i j:Nat) (ta:TA):TS:=fun D σ H=>ta σ H fun vs H1=>∃ v w,vs = [v,w]∧D.nx ((σ.set i (some v)).set j (some w)) H1
theorem ps_par {i j:Nat} {x y:Str} {a b:Expr} {ta:TA} {px py pt:Pos} {kt k2 pt2} (hc:X.calm = true) (hN:X.N.Nodup) (hi:X.N[i]? = some x) (hj:X.N[j]? = some y) (hij:i ≠ j)
  (hx:X.env.scope.names.lookup x = some .local) (hy:X.env.scope.names.lookup y = some .local) (ha:PA X [a,b] ta)
  (hw:swappedStores [.Tuple [.Name x px,.Name y py] kt pt] (.Tuple [a,b] k2 pt2) X.env = pure (some [x,y]))
  (hs:swapsWithSole [.Tuple [.Name x px,.Name y py] kt pt] (.Tuple [a,b] k2 pt2) pos.line X.env = pure false:=by rfl) :
  PS X (.Assign [.Tuple [.Name x px,.Name y py] kt pt] (.Tuple [a,b] k2 pt2) pos) (tPar i j ta):=by
 intro pins s σ H D I h
 rw [exec_Assign_arm]
 refine wpAny_bind (wpAny_standAt ?_)
 rw [hs]
 refine wpAny_bind (wpAny_pure ?_)
 rw [if_neg (by decide)]
 refine wpAny_bind (Tuple_ (thn (ha _ pins s σ H _ I h) fun us s1 ⟨vs,H1,I1,r1,q1⟩=>?_))
 obtain ⟨v,w,e1,q1⟩:=q1
 subst e1
 obtain ⟨u1,u2,rfl,rv,rw'⟩ : ∃ u1 u2,us = [u1,u2]∧RelV v u1∧RelV w u2:=by
  cases r1 with
  | cons p q =>
   cases q with
   | cons p' q' =>
    cases q'
    exact ⟨_,_,rfl,p,p'⟩
 refine wpAny_newObj_type ?_ (by show 2 ≤ sizeLine; decide)
 have I2:Inv X pins σ H1 { s1 with heap:=s1.heap.push { cls:=.type "tuple",data:=.seq [u1,u2].toArray } }:=I1.kept (t':=s1.toks) fun b o e=>Heap.get?_push_of_some _ e
 rw [hw]
 refine wpAny_bind (wpAny_pure ?_)
 show wpAny (model X.prog X.w) X.A (do rule "assign.swapped-stores"; let items ← unpackItems (.ref s1.heap.objs.size) 2 none; assignInOrder [fun v=>bindName X.env y v,fun v=>bindName X.env x v] items.reverse; pure Flow.next) _ _ _
 refine wpAny_bind (wpAny_rule (wpAny_bind (unpackItems_tuple (items:=#[u1,u2]) (I.ok.hd hc) (IsTup.new s1.heap _) fun h' hx'=>?_)))
 have I3:=I2.kept (h':=h') (t':=s1.toks) fun b o e=>hx' b o (Nat.ne_of_lt (Heap.lt_size e)) e
 show wpAny _ _ (assignInOrder [fun v=>bindName X.env y v,fun v=>bindName X.env x v] [u2,u1] >>= fun _=>pure Flow.next) _ _ _
 refine wpAny_bind (assignInOrder_cons (wpAny_bindName (store_ok I3 hN hj (.inl hy) rw' (fun s2 I4=>?_) (.inr hy))))
 refine assignInOrder_cons (wpAny_bindName (store_ok I4 hN hi (.inl hx) rv (fun s3 I5=>assignInOrder_nil (wpAny_pure ?_)) (.inr hx)))
 rw [List.set_comm _ _ (Ne.symm hij)] at I5
 exact ⟨_,H1,I5,q1⟩
def tAug (i:Nat) (te:TE) (ti:TIp):TS:=fun D σ H=>∃ x,σ[i]? = some (some x)∧te σ H fun y H1=>ti x y H1 fun z H2=>D.nx (σ.set i (some z)) H2
theorem ps_aug {i:Nat} {x:Str} {e:Expr} {te:TE} {op:Operator} {ti:TIp} {pos':Pos} (hN:X.N.Nodup) (hi:X.N[i]? = some x) (hx:Loc X.env.scope x) (he:PE X e te) (ho:PIp X op ti) (hf:X.fn x = true∨X.env.scope.names.lookup x = some .local:=by first | exact .inl rfl | exact .inr rfl | assumption) :
  PS X (.AugAssign (.Name x pos') op e pos) (tAug i te ti):=by
 intro pins s σ H D I h
 obtain ⟨v,e1,h⟩:=h
 obtain ⟨m,hn,hl⟩:=I.loc
 have vis:Vis X.env.scope x:=by rcases hx with k | k; exact .inl k; exact .inr (.inl k)
 obtain ⟨u,r,l⟩:=hl i x v hi e1 vis
 refine wpAny_AugAssign_Name ?_
 have go:wpAny (model X.prog X.w) X.A (eval e X.env) (fun w s₂=>wpAny (model X.prog X.w) X.A (inplaceOp op u w) (fun r s₃=>wpAny (model X.prog X.w) X.A (storeName X.env x r) (fun _=>SP X pins D .next) X.xe s₃) X.xe s₂) X.xe s:=by
  refine thn (he pins s σ H _ I h) fun w s1 ⟨y,H1,I1,r1,q1⟩=>?_
  refine thn (ho pins s1 σ H1 v y u w _ I1 r r1 q1) fun z s2 ⟨zv,H2,I2,r2,q2⟩=>?_
  exact store_ok I2 hN hi hx r2 (fun s3 I3=>⟨_,H2,I3,q2⟩) hf
 rcases l with ⟨hk,hm⟩ | ⟨hk,c,hc,hcell⟩
 ·exact wpAny_loadName_local I.ok.kind hk hn hm go
 ·rcases hk with hk | hk
  ·exact wpAny_loadName_cell I.ok.kind hk hc hcell go
  ·rcases hx with k | k
   ·have:X.env.scope.names.lookup x = some .free:=hk
    rw [k] at this; cases this
   ·have:X.env.scope.names.lookup x = some .free:=hk
    rw [k] at this; cases this
def ipI (f:Int→Int→Int):TIp:=fun x y H Q=>∃ i j,x = .int i∧y = .int j∧Q (.int (f i j)) H
theorem ip_add:PIp X .Add (ipI fun i j=>i + j):=by
 intro pins s σ H x y v u Q I r1 r2 h
 obtain ⟨i,j,e1,e2,q⟩:=h
 subst e1; subst e2
 obtain ⟨t,rfl⟩:=r1
 obtain ⟨t',rfl⟩:=r2
 exact iadd_int ⟨.int _,H,I.tok _,⟨_,rfl⟩,q⟩
end
section
variable {X:Cx} {pos:Pos}
def tWhile (c:TT) (tb:TS):TS:=fun D σ H=>∃ W:Nat→St→Hp→Prop,(∃ m,W m σ H)∧∀ m σ H,W m σ H →
 c σ H fun b H1=>if b = true then ∃ N:St→Hp→Prop,(∀ σ' H',N σ' H'→∃ m',m' < m∧W m' σ' H')∧tb { D with nx:=N,ct:=N,bk:=D.nx } σ H1 else D.nx σ H1
theorem ps_while {c:Expr} {body:List Stmt} {tc:TT} {tb:TS} (hp:PassesOwn (model X.prog X.w) X.A X.env X.xe) (hc:PT X c tc) (hb:PSs X body tb):PS X (.While c body [] pos) (tWhile tc tb):=by
 intro pins s σ H D I h
 obtain ⟨W,⟨m0,w0⟩,turn⟩:=h
 refine wpAny_While (codeAny_whileLoop (fun n s'=>∃ σ' H',Inv X pins σ' H' s'∧W n σ' H') ?_ m0 ⟨σ,H,I,w0⟩)
 rintro n s1 ⟨σ1,H1,I1,w1⟩
 refine wpAny_passesOwn hp (thn (hc pins s1 σ1 H1 _ I1 (turn n σ1 H1 w1)) fun b s2 ⟨H2,I2,q2⟩=>?_)
 cases b with
 | true =>
  obtain ⟨N,hN,q2⟩:=q2
  rw [if_pos rfl]
  refine wpAny_passesOwn hp (thn (hb pins s2 σ1 H2 _ I2 q2) fun f s3 q3=>?_)
  cases f with
  | next =>
   obtain ⟨σ3,H3,I3,n3⟩:=q3
   obtain ⟨m',hm,w3⟩:=hN σ3 H3 n3
   exact ⟨m',hm,σ3,H3,I3,w3⟩
  | cont =>
   obtain ⟨σ3,H3,I3,n3⟩:=q3
   obtain ⟨m',hm,w3⟩:=hN σ3 H3 n3
   exact ⟨m',hm,σ3,H3,I3,w3⟩
  | brk=>exact q3
  | ret v=>exact q3
 | false =>
  rw [if_neg Bool.false_ne_true]
  exact wpAny_execs_nil ⟨σ1,H2,I2,q2⟩
end
structure It where
 go:Nat→Hp→Prop
 yld:Nat→Hp→V→Hp→Prop
 stop:Nat→Hp→Prop
def FpOk (X:Cx) (pins:List (Addr × Obj)) (H:Hp) (b:Addr):Prop :=
 H b = none∧b ≠ X.env.locals∧b ∉ X.fs∧(b ∈ X.ex∨X.s₀.heap.objs.size ≤ b)∧(∀ x c,X.env.cells.lookup x = some c→c ≠ b)∧∀ p ∈ X.pn ++ pins,p.1 ≠ b
theorem Inv.fpOk {X:Cx} {pins:List (Addr × Obj)} {σ:St} {H H':Hp} {s:Shared} {b:Addr} (I:Inv X pins σ H s) (hb:s.heap.objs.size ≤ b) (hn:H' b = none):FpOk X pins H' b:=by
 refine ⟨hn,Nat.ne_of_gt (Nat.lt_of_lt_of_le I.lt hb),I.nofs hb,.inr (Nat.le_trans I.sz hb),fun x c e z=>?_,fun p hp z=>?_⟩
 ·obtain ⟨v,q⟩:=I.cell x c e
  exact absurd (Nat.lt_of_lt_of_le q.lt (by rw [z]; exact hb)) (Nat.lt_irrefl _)
 ·exact absurd (Nat.lt_of_lt_of_le (Heap.lt_size (I.pin p hp).1) (by rw [z]; exact hb)) (Nat.lt_irrefl _)
structure Turn (P:Program) (w:World) (K:PySem.W.Frag) (tg:Expr) (J:It) (fp:List Addr) (it:Addr) (tn:Nat→Heap→Prop):Prop where
 mem:it ∈ fp
 obj:∀ i h,tn i h→∀ b ∈ fp,∃ o,h.get? b = some o∧∀ v,o.data ≠ .cell v
 keep:∀ i h h',tn i h→(∀ b ∈ fp,∀ o,h.get? b = some o→h'.get? b = some o)→tn i h'
 item:∀ (X:Cx),X.prog = P→X.w = w→X.K = K→X.calm = true→∀ (i:Nat) (pins:List (Addr × Obj)) (s:Shared) (σ:St) (H:Hp) (E:Value→Shared→Prop),Inv X pins σ H s→(∀ b ∈ fp,FpOk X pins H b)→tn i s.heap→J.go i H →
  wpAny (model P w) X.A (pyNext (.ref it)) (fun r s1=>∃ u,r = some u ∧
   wpAny (model P w) X.A (letOwnedTupleGo tg (.ref it) u) (fun _ s2=>∃ x H',Inv X pins σ H' s2∧RelV x u∧J.yld i H x H'∧tn (i + 1) s2.heap∧∀ b ∈ fp,H' b = none) E s1) E s
 done:∀ (X:Cx),X.prog = P→X.w = w→X.K = K→X.calm = true→∀ (i:Nat) (pins:List (Addr × Obj)) (s:Shared) (σ:St) (H:Hp) (E:Value→Shared→Prop),Inv X pins σ H s→(∀ b ∈ fp,FpOk X pins H b)→tn i s.heap→J.stop i H →
  wpAny (model P w) X.A (pyNext (.ref it)) (fun r s1=>r = none∧Inv X pins σ H s1) E s
 self:∀ (A:Around) (i:Nat) (s:Shared) (Q:Value→Shared→Prop) (E:Value→Shared→Prop),tn i s.heap→Q (.ref it) s→wpAny (model P w) A (pyIter (.ref it)) Q E s
abbrev TI:=St→Hp→(It→Hp→Prop)→Prop
def PIE (X:Cx) (pins:List (Addr × Obj)) (σ:St) (tg:Expr) (R:It→Hp→Prop) (itv:Value) (s2:Shared):Prop :=
 ∃ (it:Addr) (fp:List Addr) (tn:Nat→Heap→Prop) (J:It) (H':Hp),itv = .ref it∧Inv X pins σ H' s2∧Turn X.prog X.w X.K tg J fp it tn∧tn 0 s2.heap∧(∀ b ∈ fp,FpOk X pins H' b)∧R J H'
def PI (X:Cx) (tg iter:Expr) (wi:TI):Prop :=
 ∀ (pins:List (Addr × Obj)) (s:Shared) (σ:St) (H:Hp) (R:It→Hp→Prop),Inv X pins σ H s→wi σ H R →
  wpAny (model X.prog X.w) X.A (eval iter X.env) (fun v s1=>wpAny (model X.prog X.w) X.A (pyIter v) (PIE X pins σ tg R) X.xe s1) X.xe s
theorem go_of {M:Model} {A:Around} {E:Value→Shared→Prop} {s:Shared} {tg:Expr} {it:Addr} {u:Value} {o:Obj} {n:String} {vs:Array Value} {Q:Unit→Shared→Prop} (ho:s.heap.get? it = some o) (hc:o.cls = .type n) (hd:o.data = .fields vs)
    (hn : ["enumerate", "zip", "dict_itemiterator", "dict_reverseitemiterator", "odict_iterator", "itertools.zip_longest", "itertools.pairwise"].contains n = false) (hQ:Q () s):wpAny M A (letOwnedTupleGo tg (.ref it) u) Q E s:=by
  unfold letOwnedTupleGo
  cases tg <;> first
    | exact wpAny_pure hQ
    | (cases u <;> first
        | exact wpAny_pure hQ
        | (refine wpAny_bind (wpAny_load ho ?_)
           rw [hc,hd]
           show wpAny M A (if (["enumerate", "zip", "dict_itemiterator", "dict_reverseitemiterator", "odict_iterator", "itertools.zip_longest", "itertools.pairwise"].contains n && vs[0]? == some (rawInt _)) = true then _ else _) Q E s
           rw [if_neg (by intro h; rw [hn,Bool.false_and] at h; cases h)]
           exact wpAny_pure hQ))
def Itl (K:PySem.W.Frag) (a:Addr):It :=
 ⟨fun i H=>∃ xs x,SqL K H a xs∧xs[i]? = some x,fun i H x H'=>H' = H∧∀ xs,SqL K H a xs→xs[i]? = some x,fun i H=>∃ xs,SqL K H a xs∧xs.length ≤ i⟩
def Itr (lo:Int) (n:Nat):It:=⟨fun i _=>i < n,fun i H x H'=>H' = H∧x = .int (lo + i),fun i _=>n ≤ i⟩
theorem turn_list {P:Program} {w:World} {K:PySem.W.Frag} {tg:Expr} (a it:Addr):Turn P w K tg (Itl K a) [it] it (fun i h=>h.IsListIter it a i) where
 mem:=by simp
 obj:=fun i h st b hb=>by
  have e:b = it:=by simpa using hb
  subst e
  obtain ⟨o,e,c,d⟩:=st
  exact ⟨o,e,fun v z=>by rw [d] at z; cases z⟩
 keep:=fun i h h' st k=>st.at fun o e=>k it (by simp) o e
 item:=by
  intro X hP hw hK hc i pins s σ H E I hf st hg
  subst hP hw hK
  obtain ⟨xs,x,hq,hx⟩:=hg
  obtain ⟨its,rv,p,hz⟩:=I.list hq
  obtain ⟨u,hu,ru⟩:=rv.get hx
  obtain ⟨f0,f1,f2,f3,f4,f5⟩:=hf it (by simp)
  refine wpAny_pyNext_list_item st p.isList (x:=u) (by simpa using hu) fun h' st' sb=>?_
  have I1:Inv X pins σ H { s with heap:=h' }:=I.turned (t':=s.toks) (fun b o hb e=>(sb.2 b hb).trans e) f0 f1 f3 f4 f5
  obtain ⟨o,e,c,d⟩:=id st'
  exact ⟨u,rfl,go_of (s:={ s with heap:=h' }) e c d (by decide) ⟨x,H,I1,ru,⟨rfl,fun ys hy=>by rw [I.list_inj hy hq]; exact hx⟩,st',fun b hb=>(hf b hb).1⟩⟩
 done:=by
  intro X hP hw hK hc i pins s σ H E I hf st hg
  subst hP hw hK
  obtain ⟨xs,hq,hx⟩:=hg
  obtain ⟨its,rv,p,hz⟩:=I.list hq
  obtain ⟨f0,f1,f2,f3,f4,f5⟩:=hf it (by simp)
  have hl:=rv.length
  exact wpAny_pyNext_list_end (I.ok.hd hc) st p.isList (by simp; omega) fun h' eb=>⟨rfl,I.turned (t':=s.toks) (fun b o hb e=>eb b o hb e) f0 f1 f3 f4 f5⟩
 self:=fun _ _ _ _ _ st h=>wpAny_pyIter_listiter st h
theorem turn_range {P:Program} {w:World} {K:PySem.W.Frag} {tg:Expr} (it:Addr) (lo:Int) (n:Nat):Turn P w K tg (Itr lo n) [it] it (fun i h=>IsRangeIter h it (lo + (i:Nat) * 1) ((n:Int) - (i:Nat)) 1) where
 mem:=by simp
 obj:=fun i h st b hb=>by
  have e:b = it:=by simpa using hb
  subst e
  exact ⟨_,st,fun v z=>by
   have z':Data.fields _ = Data.cell v:=z
   cases z'⟩
 keep:=fun i h h' st k=>k it (by simp) _ st
 item:=by
  intro X hP hw hK hc i pins s σ H E I hf st hg
  subst hP hw hK
  obtain ⟨f0,f1,f2,f3,f4,f5⟩:=hf it (by simp)
  have W:=Walks.range (prog:=X.prog) (w:=X.w) (I.ok.hd hc) it lo 1 n
  refine W.item i s _ _ hg st fun v h' tk hv st' kk=>?_
  obtain ⟨t,rfl⟩:=hv
  have I1:Inv X pins σ H { s with heap:=h',toks:=tk }:=I.turned (fun b o hb e=>kk b o (by simpa using hb) e) f0 f1 f3 f4 f5
  refine ⟨_,rfl,go_of (s:={ s with heap:=h',toks:=tk }) (n := "range_iterator") st' rfl rfl (by decide) ⟨.int (lo + i),H,I1,⟨t,?_⟩,⟨rfl,rfl⟩,st',fun b hb=>(hf b hb).1⟩⟩
  rw [Int.mul_one]
 done:=by
  intro X hP hw hK hc i pins s σ H E I hf st hg
  subst hP hw hK
  obtain ⟨f0,f1,f2,f3,f4,f5⟩:=hf it (by simp)
  exact wpAny_pyNext_range_end (I.ok.hd hc) st (by have:n ≤ i:=hg; omega) fun h' eb=>⟨rfl,I.turned (t':=s.toks) (fun b o hb e=>eb b o hb e) f0 f1 f3 f4 f5⟩
 self:=fun _ _ _ _ _ st h=>wpAny_pyIter_rangeiter st h
end L2
namespace L2
open PySem PySem.Spec PyProof.Rows
section
variable {X:Cx} {tg:Expr}
def iList (K:PySem.W.Frag) (tl:TE):TI:=fun σ H R=>tl σ H fun x H1=>∃ a,x = .ref a∧(∃ xs,SqL K H1 a xs)∧R (Itl K a) H1
theorem pi_list {l:Expr} {tl:TE} (hl:PE X l tl):PI X tg l (iList X.K tl):=by
 intro pins s σ H R I h
 refine thn (hl pins s σ H _ I h) fun v s1 ⟨x,H1,I1,r1,q1⟩=>?_
 obtain ⟨a,e,⟨xs,hq⟩,q⟩:=q1
 subst e
 cases r1
 obtain ⟨its,rv,p,hz⟩:=I1.list hq
 refine wpAny_pyIter_list p.isList ?_
 refine ⟨s1.heap.objs.size,[s1.heap.objs.size],_,_,H1,rfl,I1.kept (t':=s1.toks) fun b o e=>Heap.get?_push_of_some _ e,turn_list a _,⟨_,Heap.get?_push_size _ rfl,rfl,rfl⟩,fun b hb=>?_,q⟩
 have e:b = s1.heap.objs.size:=by simpa using hb
 subst e
 exact I1.fpOk (Nat.le_refl _) (I1.hok.fresh (Nat.le_refl _))
theorem range_it {pins:List (Addr × Obj)} {σ:St} {H:Hp} {s:Shared} {R:It→Hp→Prop} {E:Value→Shared→Prop} {lo hi:Int} {t u v:Tok} {tk:Nat} (I:Inv X pins σ H s) (h1 : -(2 ^ 62) ≤ lo) (h2:lo < 2 ^ 62) (h3 : -(2 ^ 62) ≤ hi) (h4:hi < 2 ^ 62)
  (q:R (Itr lo (hi - lo).toNat) H):wpAny (model X.prog X.w) X.A (pyIter (.ref s.heap.objs.size)) (PIE X pins σ tg R) E { s with heap:=s.heap.push { cls:=.type "range",data:=.fields #[.int lo t,.int hi u,.int 1 v] },toks:=tk }:=by
 refine wpAny_pyIter_range (IsRange.new ..) (small_one h1 h2 h3 h4) ?_
 have I1:Inv X pins σ H { s with heap:=s.heap.push { cls:=.type "range",data:=.fields #[.int lo t,.int hi u,.int 1 v] },toks:=tk }:=I.kept fun b o e=>Heap.get?_push_of_some _ e
 refine ⟨(s.heap.push { cls:=.type "range",data:=.fields #[.int lo t,.int hi u,.int 1 v] }).objs.size,[(s.heap.push { cls:=.type "range",data:=.fields #[.int lo t,.int hi u,.int 1 v] }).objs.size],_,_,H,rfl,
  I1.kept (t':=tk) fun b o e=>Heap.get?_push_of_some _ e,turn_range _ lo (hi - lo).toNat,?_,fun b hb=>?_,q⟩
 ·have e1:lo + ((0:Nat):Int) * 1 = lo:=by simp
  have e2:(((hi - lo).toNat:Nat):Int) - ((0:Nat):Int) = Builtin.Range.rangeSize lo hi 1:=by rw [rangeSize_one]; split <;> omega
  show IsRangeIter _ _ (lo + ((0:Nat):Int) * 1) ((((hi - lo).toNat:Nat):Int) - ((0:Nat):Int)) 1
  rw [e1,e2]
  exact Heap.get?_push_size _ rfl
 ·have e:b = (s.heap.push { cls:=.type "range",data:=.fields #[.int lo t,.int hi u,.int 1 v] }).objs.size:=by simpa using hb
  subst e
  exact I1.fpOk (Nat.le_refl _) (I1.hok.fresh (Nat.le_refl _))
def iRng1 (ta:TA):TI:=fun σ H R=>ta σ H fun vs H1=>∃ j:Int,vs = [.int j]∧-(2 ^ 62) ≤ j∧j < 2 ^ 62∧R (Itr 0 j.toNat) H1
def iRng2 (ta:TA):TI:=fun σ H R=>ta σ H fun vs H1=>∃ i j:Int,vs = [.int i,.int j]∧(-(2 ^ 62) ≤ i∧i < 2 ^ 62∧-(2 ^ 62) ≤ j∧j < 2 ^ 62)∧R (Itr i (j - i).toNat) H1
theorem pi_range1 {a:Expr} {ta:TA} {p pos:Pos} (hg:Gl X "range") (hm:X.mg "range" = none) (ha:PA X [a] ta) (hs:starEach [a] X.env = [(false,eval a X.env)]:=by rfl):PI X tg (.Call (.Name "range" p) [a] [] pos) (iRng1 ta):=by
 intro pins s σ H R I h
 refine Call_ (ld_blt I hg hm boot_range (PyProof.Rows.callWith_type1 (thn (ha pos pins s σ H _ I h) fun us s1 ⟨vs,H1,I1,r1,q1⟩=>?_) hs rfl))
 obtain ⟨j,e,q1,q2,q⟩:=q1
 subst e
 cases r1 with
 | cons r rr =>
  cases rr
  obtain ⟨t,rfl⟩:=r
  exact call_range_1 (range_it I1 (by omega) (by omega) q1 q2 (by simpa using q))
theorem pi_range2 {a b:Expr} {ta:TA} {p pos:Pos} (hg:Gl X "range") (hm:X.mg "range" = none) (ha:PA X [a,b] ta) (hs:starEach [a,b] X.env = [(false,eval a X.env),(false,eval b X.env)]:=by rfl) (hs2:starEach [b] X.env = [(false,eval b X.env)]:=by rfl) :
  PI X tg (.Call (.Name "range" p) [a,b] [] pos) (iRng2 ta):=by
 intro pins s σ H R I h
 refine Call_ (ld_blt I hg hm boot_range (PyProof.Rows.callWith_type1 (thn (ha pos pins s σ H _ I h) fun us s1 ⟨vs,H1,I1,r1,q1⟩=>?_) (by rw [hs,hs2]) (by rw [hs2]; rfl)))
 obtain ⟨i,j,e,⟨q1,q2,q3,q4⟩,q⟩:=q1
 subst e
 cases r1 with
 | cons r rr =>
  cases rr with
  | cons r' rr =>
   cases rr
   obtain ⟨t,rfl⟩:=r
   obtain ⟨t',rfl⟩:=r'
   exact call_range_2 (range_it I1 q1 q2 q3 q4 q)
def tFor (wi:TI) (g:TG) (tb:TS):TS:=fun D σ H=>wi σ H fun J H1=>∃ W:Nat→Nat→St→Hp→Prop,(∃ m,W 0 m σ H1)∧∀ i m σ H,W i m σ H →
 (J.stop i H∧D.nx σ H)∨(J.go i H∧∃ N:St→Hp→Prop,(∀ σ' H',N σ' H'→∃ m',m' < m∧W (i + 1) m' σ' H')∧∀ x H',J.yld i H x H'→g x σ H' fun σ2 H2=>tb { D with nx:=N,ct:=N,bk:=D.nx } σ2 H2)
def pinsAt (fp:List Addr) (h:Heap):List (Addr × Obj):=fp.filterMap fun b=>(h.get? b).map fun o=>(b,o)
theorem mem_pinsAt {fp:List Addr} {h:Heap} {b:Addr} {o:Obj} (hb:b ∈ fp) (e:h.get? b = some o):(b,o) ∈ pinsAt fp h:=List.mem_filterMap.mpr ⟨b,hb,by rw [e]; rfl⟩
theorem of_pinsAt {fp:List Addr} {h:Heap} {p:Addr × Obj} (hp:p ∈ pinsAt fp h):p.1 ∈ fp∧h.get? p.1 = some p.2:=by
 obtain ⟨b,hb,e⟩:=List.mem_filterMap.mp hp
 cases q:h.get? b with
 | none=>rw [q] at e; cases e
 | some o =>
  rw [q] at e
  have e':(b,o) = p:=Option.some.inj e
  subst e'
  exact ⟨hb,q⟩
theorem Inv.pinned {pins:List (Addr × Obj)} {σ:St} {H:Hp} {s:Shared} {fp:List Addr} (I:Inv X pins σ H s) (hf:∀ b ∈ fp,FpOk X pins H b) (ho:∀ b ∈ fp,∃ o,s.heap.get? b = some o∧∀ v,o.data ≠ .cell v):Inv X (pins ++ pinsAt fp s.heap) σ H s :=
 I.pins_of fun p hp=>(List.mem_append.mp hp).elim (fun z=>I.pin p (List.mem_append_right _ z)) fun z=>by
  obtain ⟨hb,e⟩:=of_pinsAt z
  obtain ⟨f0,f1,f2,_⟩:=hf p.1 hb
  obtain ⟨o,e',d⟩:=ho p.1 hb
  rw [e] at e'; cases e'
  exact ⟨e,f0,f1,f2,d⟩
theorem Inv.unpinned {pins pl:List (Addr × Obj)} {σ:St} {H:Hp} {s:Shared} (I:Inv X (pins ++ pl) σ H s):Inv X pins σ H s:=I.pins_of fun p hp=>I.pin p (List.mem_append_right _ (List.mem_append_left _ hp))
theorem ps_for {iter:Expr} {body:List Stmt} {wi:TI} {g:TG} {tb:TS} {pos:Pos} (hp:PassesOwn (model X.prog X.w) X.A X.env X.xe) (hc:X.calm = true) (hi:PI X tg iter wi) (hg:PG X tg g) (hb:PSs X body tb)
  (hs:∀ x,foldedSetIterable iter X.env x = pure x:=by intro _; rfl):PS X (.For tg iter body [] pos) (tFor wi g tb):=by
 intro pins s σ H D I h
 refine wpAny_For (thn (hi pins s σ H _ I h) fun v s1 h1=>thn h1 fun itv s2 h2=>?_) hs
 obtain ⟨it,fp,tn,J,H2,e,I2,T,st2,f2,W,⟨m0,w0⟩,turn⟩:=h2
 subst e
 -- what stays true of the iterator's objects through the loop
 have stat:∀ {H':Hp},(∀ b ∈ fp,H' b = none)→∀ b ∈ fp,FpOk X pins H' b:=fun hn b hb=>⟨hn b hb,(f2 b hb).2⟩
 refine codeAny_forLoop_any (fun n s'=>∃ i σ' H',Inv X pins σ' H' s'∧tn i s'.heap∧(∀ b ∈ fp,H' b = none)∧W i n σ' H') ?_ m0 ⟨0,σ,H2,I2,st2,fun b hb=>(f2 b hb).1,w0⟩
 rintro n s3 ⟨i,σ3,H3,I3,st3,fr3,w3⟩
 rcases turn i n σ3 H3 w3 with ⟨stop,qn⟩ | ⟨go,N,hN,step⟩
 ·refine wpAny_passesOwn hp (thn (T.done X rfl rfl rfl hc i pins s3 σ3 H3 X.xe I3 (stat fr3) st3 stop) fun r s4 ⟨hr,I4⟩=>?_)
  subst hr
  exact wpAny_execs_nil ⟨σ3,H3,I4,qn⟩
 ·refine wpAny_passesOwn hp (thn (T.item X rfl rfl rfl hc i pins s3 σ3 H3 X.xe I3 (stat fr3) st3 go) fun r s4 ⟨u,hr,h4⟩=>?_)
  subst hr
  refine wpAny_passesOwn hp (thn h4 fun _ s5 ⟨x,H5,I5,r5,y5,st5,fr5⟩=>?_)
  have I5':=I5.pinned (stat fr5) (T.obj _ _ st5)
  refine wpAny_passesOwn hp (thn (hg _ s5 σ3 H5 x u _ I5' r5 (step x H5 y5)) fun _ s6 ⟨σ6,H6,I6,q6⟩=>?_)
  refine wpAny_passesOwn hp (thn (hb _ s6 σ6 H6 _ I6 q6) fun f s7 q7=>?_)
  have again:∀ {σ7:St} {H7:Hp},Inv X (pins ++ pinsAt fp s5.heap) σ7 H7 s7→N σ7 H7→∃ m,m < n∧∃ i σ' H',Inv X pins σ' H' s7∧tn i s7.heap∧(∀ b ∈ fp,H' b = none)∧W i m σ' H':=fun {σ7 H7} I7 n7=>by
   obtain ⟨m',hm,w7⟩:=hN σ7 H7 n7
   refine ⟨m',hm,i + 1,σ7,H7,I7.unpinned,T.keep _ _ _ st5 fun b hb o e=>(I7.pin (b,o) (List.mem_append_right _ (List.mem_append_right _ (mem_pinsAt hb e)))).1,fun b hb=>?_,w7⟩
   obtain ⟨o,e,d⟩:=T.obj _ _ st5 b hb
   exact (I7.pin (b,o) (List.mem_append_right _ (List.mem_append_right _ (mem_pinsAt hb e)))).2.1
  cases f with
  | next=>obtain ⟨σ7,H7,I7,n7⟩:=q7; exact again I7 n7
  | cont=>obtain ⟨σ7,H7,I7,n7⟩:=q7; exact again I7 n7
  | brk=>obtain ⟨σ7,H7,I7,q7⟩:=q7; exact ⟨σ7,H7,I7.unpinned,q7⟩
  | ret v=>obtain ⟨x7,σ7,H7,I7,r7,q7⟩:=q7; exact ⟨x7,σ7,H7,I7.unpinned,r7,q7⟩
end
theorem while_by {c:TT} {tb:TS} {D:Ends} {σ:St} {H:Hp} (Pv:St→Hp→Prop) (μ:St→Hp→Nat) (h0:Pv σ H)
  (hs:∀ σ H,Pv σ H→c σ H fun b H1=>if b = true then tb { D with nx:=fun σ' H'=>Pv σ' H'∧μ σ' H' < μ σ H,ct:=fun σ' H'=>Pv σ' H'∧μ σ' H' < μ σ H,bk:=D.nx } σ H1 else D.nx σ H1)
  (mono:∀ σ H Q Q',(∀ b H1,Q b H1→Q' b H1)→c σ H Q→c σ H Q'):tWhile c tb D σ H:=by
 refine ⟨fun m σ H=>m = μ σ H∧Pv σ H,⟨_,rfl,h0⟩,?_⟩
 rintro m σ H ⟨rfl,p⟩
 refine mono σ H _ _ (fun b H1 q=>?_) (hs σ H p)
 cases b with
 | true=>exact ⟨_,fun σ' H' ⟨p',l⟩=>⟨_,l,rfl,p'⟩,q⟩
 | false=>exact q
end L2
namespace L2
open PySem PySem.Spec PyProof.Rows
abbrev R2:=V→V→Hp→VK→Prop
def OpR (X:Cx) (f:Value→Value→Sem Value) (r:R2):Prop :=
 ∀ (pins:List (Addr × Obj)) (s:Shared) (σ:St) (H:Hp) (x y:V) (v u:Value) (Q:VK),Inv X pins σ H s→RelV x v→RelV y u→r x y H Q →
  wpAny (model X.prog X.w) X.A (f v u) (EP X pins σ Q) X.xe s
def UnR (X:Cx) (f:Value→Sem Value) (r:V→Hp→VK→Prop):Prop :=
 ∀ (pins:List (Addr × Obj)) (s:Shared) (σ:St) (H:Hp) (x:V) (v:Value) (Q:VK),Inv X pins σ H s→RelV x v→r x H Q →
  wpAny (model X.prog X.w) X.A (f v) (EP X pins σ Q) X.xe s
def CallR (X:Cx) (f:Value) (r:List V→Hp→VK→Prop):Prop :=
 ∀ (pins:List (Addr × Obj)) (s:Shared) (σ:St) (H:Hp) (xs:List V) (us:List Value) (Q:VK),Inv X pins σ H s→Vals xs us→r xs H Q →
  wpAny (model X.prog X.w) X.A (call f us) (EP X pins σ Q) X.xe s
def TruR (X:Cx) (r:V→Hp→(Bool→Hp→Prop)→Prop):Prop :=
 ∀ (pins:List (Addr × Obj)) (s:Shared) (σ:St) (H:Hp) (x:V) (v:Value) (Q:Bool→Hp→Prop),Inv X pins σ H s→RelV x v→r x H Q →
  wpAny (model X.prog X.w) X.A (truthy v) (TP X pins σ Q) X.xe s
def tOp (r:R2) (ta tb:TE):TE:=fun σ H Q=>ta σ H fun x H1=>tb σ H1 fun y H2=>r x y H2 Q
def tUn (r:V→Hp→VK→Prop) (ta:TE):TE:=fun σ H Q=>ta σ H fun x H1=>r x H1 Q
def rI (C:Int→Int→Prop) (g:Int→Int→V):R2:=fun x y H Q=>∃ i j,x = .int i∧y = .int j∧C i j∧Q (g i j) H
def rI0 (g:Int→Int→V):R2:=fun x y H Q=>∃ i j,x = .int i∧y = .int j∧Q (g i j) H
def rU (g:Int→V):V→Hp→VK→Prop:=fun x H Q=>∃ i,x = .int i∧Q (g i) H
section
variable {X:Cx} {a b c:Expr} {ta tb tc:TE} {pos:Pos}
theorem binT (ha:PE X a ta) (hb:PE X b tb) {pins:List (Addr × Obj)} {s:Shared} {σ:St} {H:Hp} {R:V→V→Hp→Prop} (I:Inv X pins σ H s)
  (h:ta σ H fun x H1=>tb σ H1 fun y H2=>R x y H2) {Q:Value→Shared→Prop} {f:Value→Value→Sem Value}
  (hf:∀ v u s2 x y H2,Inv X pins σ H2 s2→RelV x v→RelV y u→R x y H2→wpAny (model X.prog X.w) X.A (f v u) Q X.xe s2) :
  wpAny (model X.prog X.w) X.A (eval a X.env) (fun v s₁=>wpAny (model X.prog X.w) X.A (eval b X.env) (fun u s₂=>wpAny (model X.prog X.w) X.A (f v u) Q X.xe s₂) X.xe s₁) X.xe s:=by
 refine thn (ha pins s σ H _ I h) fun v s1 ⟨x,H1,I1,r1,q1⟩=>?_
 refine thn (hb pins s1 σ H1 _ I1 q1) fun u s2 ⟨y,H2,I2,r2,q2⟩=>?_
 exact hf v u s2 x y H2 I2 r1 r2 q2
theorem pe_op {op:Operator} {r:R2} (ho:OpR X (binaryOp op) r) (ha:PE X a ta) (hb:PE X b tb):PE X (.BinOp a op b pos) (tOp r ta tb):=by
 intro pins s σ H Q I h
 exact wpAny_BinOp (binT ha hb I h fun v u s2 x y H2 I2 rx ry q=>ho pins s2 σ H2 x y v u Q I2 rx ry q)
theorem pe_un {op:UnaryOp} {r:V→Hp→VK→Prop} (ho:UnR X (unaryOp op) r) (ha:PE X a ta):PE X (.UnaryOp op a pos) (tUn r ta):=by
 intro pins s σ H Q I h
 exact UnaryOp_ (thn (ha pins s σ H _ I h) fun v s1 ⟨x,H1,I1,r1,q1⟩=>ho pins s1 σ H1 x v Q I1 r1 q1)
theorem opI {f:Value→Value→Sem Value} {C:Int→Int→Prop} {g:Int→Int→Int}
  (rule:∀ (i j:Int) (t u:Tok) (s:Shared) (Q:Value→Shared→Prop) (E:Value→Shared→Prop),C i j→Q (.int (g i j) s.toks) { s with toks:=s.toks + 1 }→wpAny (model X.prog X.w) X.A (f (.int i t) (.int j u)) Q E s) :
  OpR X f (rI C fun i j=>.int (g i j)):=by
 intro pins s σ H x y v u Q I rx ry h
 obtain ⟨i,j,rfl,rfl,hc,q⟩:=h
 obtain ⟨t,rfl⟩:=rx
 obtain ⟨t',rfl⟩:=ry
 exact rule i j t t' s _ _ hc ⟨.int (g i j),H,I.tok _,⟨_,rfl⟩,q⟩
theorem opI0 {f:Value→Value→Sem Value} {g:Int→Int→Int}
  (rule:∀ (i j:Int) (t u:Tok) (s:Shared) (Q:Value→Shared→Prop) (E:Value→Shared→Prop),Q (.int (g i j) s.toks) { s with toks:=s.toks + 1 }→wpAny (model X.prog X.w) X.A (f (.int i t) (.int j u)) Q E s) :
  OpR X f (rI0 fun i j=>.int (g i j)):=by
 intro pins s σ H x y v u Q I rx ry h
 obtain ⟨i,j,rfl,rfl,q⟩:=h
 obtain ⟨t,rfl⟩:=rx
 obtain ⟨t',rfl⟩:=ry
 exact rule i j t t' s _ _ ⟨.int (g i j),H,I.tok _,⟨_,rfl⟩,q⟩
theorem opB0 {f:Value→Value→Sem Value} {g:Int→Int→Bool}
  (rule:∀ (i j:Int) (t u:Tok) (s:Shared) (Q:Value→Shared→Prop) (E:Value→Shared→Prop),Q (.bool (g i j)) s→wpAny (model X.prog X.w) X.A (f (.int i t) (.int j u)) Q E s) :
  OpR X f (rI0 fun i j=>.bl (g i j)):=by
 intro pins s σ H x y v u Q I rx ry h
 obtain ⟨i,j,rfl,rfl,q⟩:=h
 obtain ⟨t,rfl⟩:=rx
 obtain ⟨t',rfl⟩:=ry
 exact rule i j t t' s _ _ ⟨.bl (g i j),H,I,rfl,q⟩
def CPow (i j:Int):Prop:=0 ≤ j∧j ≤ 1000000∧i.natAbs < 2 ^ 64
def CMul (i j:Int):Prop:=(-(2 ^ 64) < i∧i < 2 ^ 64)∨(-(2 ^ 64) < j∧j < 2 ^ 64)
theorem CMul.ok {i j:Int} (h:CMul i j):IntMulOk i j:=by
 rcases h with ⟨h1,h2⟩ | ⟨h1,h2⟩
 ·exact .of_left (intBits_le_64 h1 h2)
 ·exact .of_right (intBits_le_64 h1 h2)
theorem op_add:OpR X (binaryOp .Add) (rI0 fun i j=>.int (i + j)):=opI0 fun _ _ _ _ _ _ _ q=>add_int q
theorem op_sub:OpR X (binaryOp .Sub) (rI0 fun i j=>.int (i - j)):=opI0 fun _ _ _ _ _ _ _ q=>sub_int q
theorem op_mul:OpR X (binaryOp .Mult) (rI CMul fun i j=>.int (i * j)):=opI fun _ _ _ _ _ _ _ hc q=>mul_int q hc.ok
theorem op_mod:OpR X (binaryOp .Mod) (rI (fun _ j=>0 < j) fun i j=>.int (i % j)):=opI fun i j _ _ _ _ _ hc q=>by
 have h1:(0:Int) < j:=hc
 exact mod_int' (by omega) (by rw [Int.fmod_eq_emod_of_nonneg i (by omega)]; exact q)
theorem op_modN:OpR X (binaryOp .Mod) (rI (fun _ j=>j ≠ 0) fun i j=>.int (i.fmod j)):=opI fun _ _ _ _ _ _ _ hc q=>mod_int' hc q
theorem op_pow:OpR X (binaryOp .Pow) (rI CPow fun i j=>.int (i ^ j.toNat)):=opI fun _ _ _ _ _ _ _ hc q=>pow_int_small hc.1 hc.2.1 hc.2.2 q
theorem unI {f:Value→Sem Value} {g:Int→Int}
  (rule:∀ (i:Int) (t:Tok) (s:Shared) (Q:Value→Shared→Prop) (E:Value→Shared→Prop),Q (.int (g i) s.toks) { s with toks:=s.toks + 1 }→wpAny (model X.prog X.w) X.A (f (.int i t)) Q E s) :
  UnR X f (rU fun i=>.int (g i)):=by
 intro pins s σ H x v Q I rx h
 obtain ⟨i,rfl,q⟩:=h
 obtain ⟨t,rfl⟩:=rx
 exact rule i t s _ _ ⟨.int (g i),H,I.tok _,⟨_,rfl⟩,q⟩
theorem un_neg:UnR X (unaryOp .USub) (rU fun i=>.int (-i)):=unI fun _ _ _ _ _ q=>neg_int q
end
def scal:V→V→Bool
 | .non,.non=>true | .non,.int _=>true | .int _,.non=>true | .non,.bl _=>true | .bl _,.non=>true | .non,.str _=>true | .str _,.non=>true
 | .int _,.int _=>true | .bl _,.bl _=>true | .str _,.str _=>true | .byt _,.byt _=>true
 | .int _,.str _=>true | .str _,.int _=>true | .bl _,.str _=>true | .str _,.bl _=>true
 | _,_=>false
def rEq:R2:=fun x y H Q=>scal x y = true∧Q (.bl (decide (x = y))) H
def rNe:R2:=fun x y H Q=>scal x y = true∧Q (.bl (!decide (x = y))) H
theorem dec_int {i j:Int} : decide (V.int i = V.int j) = (i == j):=by
 rw [Bool.eq_iff_iff]
 simp
theorem dec_bl {i j:Bool} : decide (V.bl i = V.bl j) = (i == j):=by
 rw [Bool.eq_iff_iff]
 simp
theorem dec_str {i j:Str} : decide (V.str i = V.str j) = (i == j):=by
 rw [Bool.eq_iff_iff]
 simp
theorem dec_byt {i j:Array UInt8} : decide (V.byt i = V.byt j) = (i.toList == j.toList):=by
 rw [Bool.eq_iff_iff]
 cases i
 cases j
 simp
section
variable {X:Cx} {a b c:Expr} {ta tb tc:TE} {pos:Pos}
theorem fin_bl {pins:List (Addr × Obj)} {σ:St} {H:Hp} {s:Shared} {Q:VK} {k k':Bool} (I:Inv X pins σ H s) (q:Q (.bl k) H) (e:k = k'):EP X pins σ Q (.bool k') s:=by
 subst e
 exact ⟨.bl k,H,I,rfl,q⟩
theorem op_eq:OpR X (compareOp .Eq) rEq:=by
 intro pins s σ H x y v u Q I rx ry h
 obtain ⟨hs,q⟩:=h
 cases x with
 | non =>
  cases rx
  cases y with
  | non=>cases ry; exact PySem.EqNone.eq_none_none (fin_bl I q (by simp))
  | bl j=>cases ry; exact PySem.EqNone.eq_none_bool (fin_bl I q (by simp))
  | int j=>obtain ⟨t',rfl⟩:=ry; exact PySem.EqNone.eq_none_int (fin_bl I q (by simp))
  | str j=>obtain ⟨t',rfl⟩:=ry; exact PySem.EqNone.eq_none_str (fin_bl I q (by simp))
  | _=>exact absurd (show false = true from hs) Bool.false_ne_true
 | bl i =>
  cases rx
  cases y with
  | non=>cases ry; exact PySem.EqNone.eq_bool_none (fin_bl I q (by simp))
  | bl j=>cases ry; exact eq_bool (fin_bl I q dec_bl)
  | str j=>obtain ⟨t',rfl⟩:=ry; exact PySem.EqMixed.eq_bool_str (fin_bl I q (by simp))
  | _=>exact absurd (show false = true from hs) Bool.false_ne_true
 | int i =>
  obtain ⟨t,rfl⟩:=rx
  cases y with
  | non=>cases ry; exact PySem.EqNone.eq_int_none (fin_bl I q (by simp))
  | int j=>obtain ⟨t',rfl⟩:=ry; exact eq_int (fin_bl I q dec_int)
  | str j=>obtain ⟨t',rfl⟩:=ry; exact PySem.EqMixed.eq_int_str (fin_bl I q (by simp))
  | _=>exact absurd (show false = true from hs) Bool.false_ne_true
 | str i =>
  obtain ⟨t,rfl⟩:=rx
  cases y with
  | non=>cases ry; exact PySem.EqNone.eq_str_none (fin_bl I q (by simp))
  | bl j=>cases ry; exact PySem.EqMixed.eq_str_bool (fin_bl I q (by simp))
  | int j=>obtain ⟨t',rfl⟩:=ry; exact PySem.EqMixed.eq_str_int (fin_bl I q (by simp))
  | str j=>obtain ⟨t',rfl⟩:=ry; exact eq_str (fin_bl I q dec_str)
  | _=>exact absurd (show false = true from hs) Bool.false_ne_true
 | byt i =>
  obtain ⟨t,rfl⟩:=rx
  cases y with
  | byt j=>obtain ⟨t',rfl⟩:=ry; exact PySem.W.eq_bytes (fin_bl I q dec_byt)
  | _=>exact absurd (show false = true from hs) Bool.false_ne_true
 | _=>cases y <;> exact absurd (show false = true from hs) Bool.false_ne_true
theorem op_ne:OpR X (compareOp .NotEq) rNe:=by
 intro pins s σ H x y v u Q I rx ry h
 obtain ⟨hs,q⟩:=h
 cases x with
 | non =>
  cases rx
  cases y with
  | non=>cases ry; exact PySem.EqNone.ne_none_none (fin_bl I q (by simp))
  | bl j=>cases ry; exact PySem.EqNone.ne_none_bool (fin_bl I q (by simp))
  | int j=>obtain ⟨t',rfl⟩:=ry; exact PySem.EqNone.ne_none_int (fin_bl I q (by simp))
  | str j=>obtain ⟨t',rfl⟩:=ry; exact PySem.EqNone.ne_none_str (fin_bl I q (by simp))
  | _=>exact absurd (show false = true from hs) Bool.false_ne_true
 | bl i =>
  cases rx
  cases y with
  | non=>cases ry; exact PySem.EqNone.ne_bool_none (fin_bl I q (by simp))
  | bl j=>cases ry; exact ne_bool (fin_bl I q (congrArg not dec_bl))
  | str j=>obtain ⟨t',rfl⟩:=ry; exact PySem.EqMixed.ne_bool_str (fin_bl I q (by simp))
  | _=>exact absurd (show false = true from hs) Bool.false_ne_true
 | int i =>
  obtain ⟨t,rfl⟩:=rx
  cases y with
  | non=>cases ry; exact PySem.EqNone.ne_int_none (fin_bl I q (by simp))
  | int j=>obtain ⟨t',rfl⟩:=ry; exact ne_int (fin_bl I q (congrArg not dec_int))
  | str j=>obtain ⟨t',rfl⟩:=ry; exact PySem.EqMixed.ne_int_str (fin_bl I q (by simp))
  | _=>exact absurd (show false = true from hs) Bool.false_ne_true
 | str i =>
  obtain ⟨t,rfl⟩:=rx
  cases y with
  | non=>cases ry; exact PySem.EqNone.ne_str_none (fin_bl I q (by simp))
  | bl j=>cases ry; exact PySem.EqMixed.ne_str_bool (fin_bl I q (by simp))
  | int j=>obtain ⟨t',rfl⟩:=ry; exact PySem.EqMixed.ne_str_int (fin_bl I q (by simp))
  | str j=>obtain ⟨t',rfl⟩:=ry; exact ne_str (fin_bl I q (congrArg not dec_str))
  | _=>exact absurd (show false = true from hs) Bool.false_ne_true
 | byt i =>
  obtain ⟨t,rfl⟩:=rx
  cases y with
  | byt j=>obtain ⟨t',rfl⟩:=ry; exact PySem.W.ne_bytes (fin_bl I q (congrArg not dec_byt))
  | _=>exact absurd (show false = true from hs) Bool.false_ne_true
 | _=>cases y <;> exact absurd (show false = true from hs) Bool.false_ne_true
theorem op_lt:OpR X (compareOp .Lt) (rI0 fun i j=>.bl (decide (i < j))):=opB0 fun _ _ _ _ _ _ _ q=>lt_int q
theorem op_gt:OpR X (compareOp .Gt) (rI0 fun i j=>.bl (decide (j < i))):=opB0 fun _ _ _ _ _ _ _ q=>gt_int q
theorem op_notN:OpR X (compareOp .IsNot) (fun x y H Q=>y = .non∧Q (.bl (!decide (x = .non))) H):=by
 intro pins s σ H x y v u Q I rx ry h
 obtain ⟨rfl,q⟩:=h
 cases ry
 refine isnot_none_gen (fin_bl I q ?_)
 cases x <;> first
  | (cases rx; rfl)
  | (obtain ⟨t,rfl⟩:=rx; rfl)
theorem nomark (b:Expr) {op:CmpOp} (h:op ≠ .In:=by decide) (h2:op ≠ .NotIn:=by decide):behindInMarks op b = false:=by
 have e1:(op == CmpOp.In) = false:=by cases op <;> first | rfl | exact absurd rfl h
 have e2:(op == CmpOp.NotIn) = false:=by cases op <;> first | rfl | exact absurd rfl h2
 cases b <;> simp [behindInMarks,e1,e2]
theorem pe_cmpR {op:CmpOp} {r:R2} (ho:OpR X (compareOp op) r) (ha:PE X a ta) (hb:PE X b tb) (hm:behindInMarks op b = false):PE X (.Compare a [op] [b] pos) (tOp r ta tb):=by
 intro pins s σ H Q I h
 exact wpAny_Compare1 (binT ha hb I h fun v u s2 x y H2 I2 rx ry q=>ho pins s2 σ H2 x y v u Q I2 rx ry q) hm
def tTest (t:TE):TT:=fun σ H Q=>t σ H fun x H'=>∃ k,x = .bl k∧Q k H'
theorem pt_cmpR {op:CmpOp} {r:R2} (ho:OpR X (compareOp op) r) (ha:PE X a ta) (hb:PE X b tb) (hm:behindInMarks op b = false):PT X (.Compare a [op] [b] pos) (tTest (tOp r ta tb)):=by
 intro pins s σ H Q I h
 refine wpAny_isTrue_Compare1 (thn (ha pins s σ H _ I h) fun v s1 ⟨x,H1,I1,r1,q1⟩=>thn (hb pins s1 σ H1 _ I1 q1) fun u s2 ⟨y,H2,I2,r2,q2⟩ =>
  thn (ho pins s2 σ H2 x y v u _ I2 r1 r2 q2) fun c s3 ⟨z,H3,I3,r3,k,e,q3⟩=>?_) hm
 subst e
 cases r3
 exact wpAny_truthy_bool ⟨H3,I3,q3⟩
def tChain (r r':R2) (ta tb tc:TE):TE:=fun σ H Q=>ta σ H fun x H1=>tb σ H1 fun y H2=>r x y H2 fun z H3=>∃ k,z = .bl k ∧
 (if k = true then tc σ H3 fun w' H4=>r' y w' H4 Q else Q (.bl false) H3)
def TruV (K:PySem.W.Frag) (x:V) (H:Hp) (k:Bool):Prop :=
 match x with
 | .non=>k = false
 | .bl b=>k = b
 | .int i=>k = (i != 0)
 | .str y=>y.length ≤ sizeLine∧k = ((y.length:Int) != 0)
 | .byt y=>y.size ≤ sizeLine∧k = ((y.size:Int) != 0)
 | .ref p=>(∃ xs,SqL K H p xs∧k = !xs.isEmpty)∨(∃ xs,SqT K H p xs∧k = !xs.isEmpty)∨∃ kvs,H p = some (.dK kvs)∧k = !kvs.isEmpty
 | _=>False
theorem isEmpty_kv {κ:Type} {kvs:List (κ × V)} {vs:List (κ × Value)} (r:KV kvs vs):(!vs.isEmpty) = !kvs.isEmpty:=by
 cases r <;> rfl
theorem isEmpty_of {xs:List V} {its:List Value} (r:Vals xs its):(!its.toArray.isEmpty) = !xs.isEmpty:=by
 cases r <;> simp
theorem line63:(sizeLine:Nat) < 2 ^ 63:=by rw [sizeLine_eq]; decide
theorem tru_ok:TruR X (fun x H Q=>∃ k,TruV X.K x H k∧Q k H):=by
 intro pins s σ H x v Q I rx h
 obtain ⟨k,e,q⟩:=h
 have hl:=line63
 have hs:sizeLine = 16777216:=sizeLine_eq
 cases x with
 | non =>
  cases rx
  have e':k = false:=e
  subst e'
  exact truthy_none ⟨H,I,q⟩
 | bl b =>
  cases rx
  have e':k = b:=e
  subst e'
  exact wpAny_truthy_bool ⟨H,I,q⟩
 | int i =>
  obtain ⟨t,rfl⟩:=rx
  have e':k = (i != 0):=e
  subst e'
  exact PySem.P.truthy_int ⟨H,I,q⟩
 | str y =>
  obtain ⟨t,rfl⟩:=rx
  obtain ⟨hy,e'⟩ : y.length ≤ sizeLine∧k = ((y.length:Int) != 0):=e
  subst e'
  exact PySem.P.truthy_str (by omega) ⟨H,I.tok _,q⟩
 | byt y =>
  obtain ⟨t,rfl⟩:=rx
  obtain ⟨hy,e'⟩ : y.size ≤ sizeLine∧k = ((y.size:Int) != 0):=e
  subst e'
  exact PySem.W.truthy_bytes (by omega) ⟨H,I.tok _,q⟩
 | ref p =>
  cases rx
  have e':(∃ xs,SqL X.K H p xs∧k = !xs.isEmpty)∨(∃ xs,SqT X.K H p xs∧k = !xs.isEmpty)∨∃ kvs,H p = some (.dK kvs)∧k = !kvs.isEmpty:=e
  rcases e' with ⟨xs,hx,e'⟩ | ⟨xs,hx,e'⟩ | ⟨kvs,hx,e'⟩
  ·subst e'
   obtain ⟨its,r,pl,hz⟩:=I.list hx
   have hlen:=r.length
   exact wpAny_truthy_list pl.isList (by simp only [List.size_toArray]; omega) ⟨H,I.tok _,by rw [isEmpty_of r]; exact q⟩
  ·subst e'
   obtain ⟨its,r,pl,hz⟩:=I.tuple hx
   have hlen:=r.length
   exact truthy_tuple pl (by simp only [List.size_toArray]; omega) ⟨H,I.tok _,by rw [isEmpty_of r]; exact q⟩
  ·subst e'
   obtain ⟨hz,hS,vs,r,m⟩ : kvs.length ≤ sizeLine∧(p == sysModules) = false∧∃ vs,KV kvs vs∧s.heap.DictOf (mixKind X.prog X.w) p vs:=I.hok p _ hx
   have hlen:kvs.length = vs.length:=Paired.length r
   exact wpAny_truthy_dict hS m (by omega) ⟨H,I.tok _,by rw [isEmpty_kv r]; exact q⟩
 | _=>exact (show False from e).elim
theorem vals1 {x:V} {us:List Value} (r:Vals [x] us):∃ u,us = [u]∧RelV x u:=by
 cases r with
 | cons r1 r2=>cases r2; exact ⟨_,rfl,r1⟩
theorem vals2 {x y:V} {us:List Value} (r:Vals [x,y] us):∃ u w',us = [u,w']∧RelV x u∧RelV y w':=by
 cases r with
 | cons r1 r2 =>
  cases r2 with
  | cons r3 r4=>cases r4; exact ⟨_,_,rfl,r1,r3⟩
theorem call_abs:CallR X (.builtin "abs") (fun xs H Q=>∃ i,xs = [.int i]∧Q (.int (if i < 0 then -i else i)) H):=by
 intro pins s σ H xs us Q I r h
 obtain ⟨i,rfl,q⟩:=h
 obtain ⟨u,rfl,t,rfl⟩:=vals1 r
 exact call_abs_int fun u tk=>⟨.int (if i < 0 then -i else i),H,I.tok _,⟨_,rfl⟩,q⟩
theorem call_max2 (hc:X.calm = true):CallR X (.builtin "max") (fun xs H Q=>∃ i j,xs = [.int i,.int j]∧Q (.int (if j > i then j else i)) H):=by
 intro pins s σ H xs us Q I r h
 obtain ⟨i,j,rfl,q⟩:=h
 obtain ⟨u,w',rfl,⟨t,rfl⟩,⟨t',rfl⟩⟩:=vals2 r
 refine max_two_ints (I.ok.hd hc) fun h' tk k=>⟨_,H,I.kept k,?_,q⟩
 by_cases hj:j > i
 ·rw [if_pos hj,if_pos hj]; exact ⟨_,rfl⟩
 ·rw [if_neg hj,if_neg hj]; exact ⟨_,rfl⟩
theorem call_int1:CallR X (.type "int") (fun xs H Q=>(∃ i,xs = [.int i]∧Q (.int i) H)∨∃ k,xs = [.bl k]∧Q (.int (if k then 1 else 0)) H):=by
 intro pins s σ H xs us Q I r h
 rcases h with ⟨i,rfl,q⟩ | ⟨k,rfl,q⟩
 ·obtain ⟨u,rfl,t,rfl⟩:=vals1 r
  exact call_int_int ⟨.int i,H,I,⟨_,rfl⟩,q⟩
 ·obtain ⟨u,rfl,r1⟩:=vals1 r
  cases r1
  exact call_int_bool ⟨.int (if k then 1 else 0),H,I.tok _,⟨_,rfl⟩,q⟩
end
end L2
namespace L2
open PySem PySem.Spec PyProof.Rows
structure ObjM (h:Heap) (x dx C:Addr) (mA:Str→Option Value):Prop where
 obj:h.get? x = some (PySem.W.instObj C dx)
 ns:h.Ns1 dx mA
 ne:dx ≠ x
theorem lookIn_ns {h:Heap} {dx:Addr} {mA:Str→Option Value} (n:h.Ns1 dx mA):∃ od,h.get? dx = some od∧∀ name,PySem.W.lookIn name od = some (mA name):=by
 obtain ⟨o,es,ep,ho,hd,hk,_,hm⟩:=n
 refine ⟨o,ho,fun name=>?_⟩
 have e:=hm name
 unfold nsFind findBy at e
 rw [← Array.find?_toList] at e
 unfold PySem.W.lookIn
 rw [hd]
 dsimp only
 split
 ·rename_i y q
  rw [q] at e
  exact congrArg some e
 ·rename_i q
  rw [q] at e
  have a:es.toList.any (·.refKey) = false:=by
   rw [List.any_eq_false]
   intro y hy
   obtain ⟨z,t,hkey⟩:=hk y (Array.mem_toList_iff.mp hy)
   simp [DictEntry.refKey,hkey]
  have a':¬ es.toList.any (·.refKey) = true:=by rw [a]; exact Bool.false_ne_true
  rw [if_neg a']
  exact congrArg some e
theorem ObjM.look {h:Heap} {x dx C:Addr} {mA:Str→Option Value} (I:ObjM h x dx C mA):∃ od,PySem.W.InstAt h x (PySem.W.instObj C dx) C (some od)∧∀ name,PySem.W.lookIn name od = some (mA name) :=
 let ⟨od,ho,hl⟩:=lookIn_ns I.ns
 ⟨od,⟨I.obj,rfl,rfl,ho⟩,hl⟩
section
variable {prog:Program} {w:World} {A:Around} {E:Value→Shared→Prop} {s:Shared} {K:PySem.W.Frag} {x dx C f:Addr} {mA:Str→Option Value} {name:Str} {v:Value}
end
def putF (f:Str) (v:V):List (Str × V)→List (Str × V)
 | []=>[(f,v)]
 | (g,x) :: r=>if g = f then (g,v) :: r else (g,x) :: putF f v r
section
variable {P:Program} {w:World} {H H':Hp} {h h':Heap} {a C dx:Addr} {fs fs':List (Str × V)}
theorem ins_get (hok:HOk P w H h) (e:H a = some (.ins C dx fs)):∃ mA,ObjM h a dx C mA∧(∀ f,RelO (fs.lookup f) (mA f))∧PySem.Within mA (fs.map (·.1))∧fs.length ≤ 1000∧H dx = some (.own a):=by
 obtain ⟨d,z,ne,ob,mA,n,r,q⟩:=(show ObjOk P w H h a (.ins C dx fs) from hok a _ e)
 exact ⟨mA,⟨ob,n,ne⟩,r,q,z,d⟩
end
structure Cls (K:PySem.W.Frag) (C:Addr):Prop where
 pg:PySem.W.plainGet K C Str.empty = true
 hd:PySem.W.hasDictIn K C = true
 po:PySem.W.plainOver K C = true
 sa:PySem.W.findIn K (.ref C) "__setattr__" = some (some (.builtin "object.__setattr__"))
theorem Cls.get {K:PySem.W.Frag} {C:Addr} (c:Cls K C) (f:Str):PySem.W.plainGet K C f = true:=c.pg
def NoAttr (K:PySem.W.Frag) (C:Addr) (f:Str):Prop:=PySem.W.findIn K (.ref C) f = some none
section
variable {X:Cx} {pins:List (Addr × Obj)} {σ:St} {H:Hp} {s:Shared} {a C dx:Addr} {fs:List (Str × V)} {f:Str} {v:V} {A:Around} {E:Value→Shared→Prop}
end
def tFld (K:PySem.W.Frag) (ta:TE) (f:Str):TE:=fun σ H Q=>ta σ H fun x H1=>∃ a C dx fs v,x = .ref a∧H1 a = some (.ins C dx fs)∧Cls K C∧NoAttr K C f∧fs.lookup f = some v∧Q v H1
def sFld (K:PySem.W.Frag) (ta tv:TE) (f:Str):TS:=fun D σ H=>tv σ H fun y H1=>ta σ H1 fun x H2=>∃ a C dx fs,x = .ref a∧H2 a = some (.ins C dx fs)∧Cls K C∧NoAttr K C f∧fs.length < 1000 ∧
 D.nx σ (upd H2 a (.ins C dx (putF f y fs)))
section
variable {X:Cx} {o e value:Expr} {f:Str} {pos pos' tpos:Pos} {ta tv:TE}
end
section
variable {X:Cx} {pins:List (Addr × Obj)} {σ:St} {H:Hp} {s:Shared} {A:Around} {E:Value→Shared→Prop} {Q:Value→Shared→Prop} {c:Value} {b:Bool}
inductive TyOf (K:PySem.W.Frag) (H:Hp):V→Value→Prop where
 | non:TyOf K H .non (.type "NoneType")
 | bl (x:Bool):TyOf K H (.bl x) (.type "bool")
 | int (i:Int):TyOf K H (.int i) (.type "int")
 | str (x:Str):TyOf K H (.str x) (.type "str")
 | flt (x:UInt64):TyOf K H (.flt x) (.type "float")
 | lst {a:Addr} {xs:List V} (e:H a = some (.lst xs)):TyOf K H (.ref a) (.type "list")
 | frz {a:Addr} {o:Obj} {xs:List V} (e:H a = some (.frz o (.lst xs))):TyOf K H (.ref a) (.type "list")
 | tup {a:Addr} {xs:List V} (e:H a = some (.tup xs)):TyOf K H (.ref a) (.type "tuple")
 | dK {a:Addr} {kvs:List (Key × V)} (e:H a = some (.dK kvs)):TyOf K H (.ref a) (.type "dict")
 | ins {a C dx:Addr} {fs:List (Str × V)} (e:H a = some (.ins C dx fs)) (cl:Cls K C) (ha:PySem.W.findIn K (.ref C) "__class__" = some (some (.builtin "object.__class__")))
   (hn:PySem.W.specialIn K (.builtin "object.__class__") "__get__" = some (some (.builtin "getset_descriptor.__get__"))) (htk:PySem.W.takesIn K (.builtin "object.__class__") = some true)
   (hm:PySem.W.mroIn K C (.type "object") = some true):TyOf K H (.ref a) (.ref C)
theorem isinst_ok {x:V} {u t:Value} (I:Inv X pins σ H s) (rx:RelV x u) (ty:TyOf X.K H x t) (e:PySem.W.kitOne X.K t c = some b) (h:∀ tk,Q (.bool b) { s with toks:=tk }) :
  wpAny (model X.prog X.w) A (call (.builtin "isinstance") [u,c]) Q E s:=by
 cases ty with
 | non=>cases (show u = Value.none from rx); exact PySem.W.kia_one PySem.W.kitx_none I.kIn True.intro e (fun z=>nomatch z) h
 | bl y=>cases (show u = Value.bool y from rx); exact PySem.W.kia_one PySem.W.kitx_bool I.kIn True.intro e (fun z=>nomatch z) h
 | int i=>obtain ⟨t,q⟩:=(show ∃ t,u = Value.int i t from rx); cases q; exact PySem.W.kia_one PySem.W.kitx_int I.kIn True.intro e (fun z=>nomatch z) h
 | str y=>obtain ⟨t,q⟩:=(show ∃ t,u = Value.str y t from rx); cases q; exact PySem.W.kia_one PySem.W.kitx_str I.kIn True.intro e (fun z=>nomatch z) h
 | flt y=>obtain ⟨t,q⟩:=(show ∃ t,u = Value.float y t from rx); cases q; exact PySem.W.kia_one PySem.W.kitx_float I.kIn True.intro e (fun z=>nomatch z) h
 | @lst a xs ea =>
  cases (show u = Value.ref a from rx)
  obtain ⟨_,_,n,_,h1⟩:=(show ObjOk X.prog X.w H s.heap a (.lst xs) from I.hok a _ ea)
  exact PySem.W.kia_one PySem.W.kitx_list I.kIn ⟨_,h1,rfl⟩ e (fun z=>nomatch z) h
 | @frz a ob xs ea =>
  cases (show u = Value.ref a from rx)
  obtain ⟨_,_,_,n,_,h1⟩:=(show ObjOk X.prog X.w H s.heap a (.frz ob (.lst xs)) from I.hok a _ ea)
  exact PySem.W.kia_one PySem.W.kitx_list I.kIn ⟨_,h1,rfl⟩ e (fun z=>nomatch z) h
 | @tup a xs ea =>
  cases (show u = Value.ref a from rx)
  obtain ⟨_,_,_,p⟩:=(show ObjOk X.prog X.w H s.heap a (.tup xs) from I.hok a _ ea)
  obtain ⟨o,h1,h2,_⟩:=p
  exact PySem.W.kia_one PySem.W.kitx_tuple I.kIn ⟨o,h1,h2⟩ e (fun z=>nomatch z) h
 | @dK a kvs ea =>
  cases (show u = Value.ref a from rx)
  obtain ⟨_,_,vs,_,p⟩:=(show ObjOk X.prog X.w H s.heap a (.dK kvs) from I.hok a _ ea)
  obtain ⟨o,es,ep,h1,h2,_⟩:=p
  exact PySem.W.kia_one PySem.W.kitx_dict I.kIn ⟨o,h1,h2.1⟩ e (fun z=>nomatch z) h
 | @ins a C dx fs ea cl ha hn htk hm =>
  cases (show u = Value.ref a from rx)
  obtain ⟨mA,O,_⟩:=ins_get I.hok ea
  obtain ⟨od,J,_⟩:=O.look
  exact PySem.W.kia_one (PySem.W.kitx_own (cl.get _) cl.hd ha hn htk hm) I.kIn J e (fun z=>nomatch z) h
end
end L2
namespace L2
open PySem PySem.Spec PyProof.Rows
structure Room (k:Nat) (A:Around):Prop where
 hd:A.handled = none
 dp:A.depth + 3 * k + 5 < recursionLimit
 un:A.units + 16 * k + 200 < cLine
theorem Room.mono {j k:Nat} {A:Around} (r:Room k A) (h:j ≤ k):Room j A:=⟨r.hd,by have:=r.dp; omega,by have:=r.un; omega⟩
theorem Room.deeper {k:Nat} {A:Around} (r:Room (k + 1) A) (env:Env):Room k (A.deeper env) :=
 ⟨r.hd,by have:=r.dp; show A.depth + 1 + 3 * k + 5 < _; omega,by have:=r.un; show A.units + 3 + 16 * k + 200 < _; omega⟩
theorem Room.depth {k:Nat} {A:Around} (r:Room k A):A.depth < recursionLimit:=by have:=r.dp; omega
theorem Room.units {k:Nat} {A:Around} (r:Room k A):A.units + 64 < cLine:=by have:=r.un; omega
def tNil:TA:=fun _ H Q=>Q [] H
def tCons (ta:TE) (tr:TA):TA:=fun σ H Q=>ta σ H fun x H1=>tr σ H1 fun xs H2=>Q (x :: xs) H2
section
variable {X:Cx} {e:Expr} {es:List Expr} {te:TE} {t:TA} {pos:Pos}
theorem pa_nil:PA X [] tNil:=fun _ _ _ _ H Q I h=>Calls.spliced_nil ⟨[],H,I,.nil,h⟩
theorem pa_cons (ha:PE X e te) (hr:PA X es t) (hs:starEach (e :: es) X.env = (false,eval e X.env) :: starEach es X.env:=by rfl):PA X (e :: es) (tCons te t):=by
 intro pos pins s σ H Q I h
 rw [hs]
 show wpAny _ _ (spliced ((false,eval e X.env) :: backTo pos (starEach es X.env))) _ _ s
 refine Calls.spliced_cons (thn (ha pins s σ H _ I h) fun u s1 ⟨x,H1,I1,r1,q1⟩=>?_)
 exact thn (hr pos pins s1 σ H1 _ I1 q1) fun us s2 ⟨xs,H2,I2,r2,q2⟩=>⟨x :: xs,H2,I2,.cons r1 r2,q2⟩
def tTup (t:TA):TE:=fun σ H Q=>t σ H fun xs H1=>xs.length ≤ sizeLine∧∀ p,H1 p = none→Q (.ref p) (upd H1 p (.tup xs))
def tLst (t:TA):TE:=fun σ H Q=>t σ H fun xs H1=>xs.length ≤ sizeLine∧∀ p,H1 p = none→Q (.ref p) (upd H1 p (.lst xs))
theorem pe_tup {x1} (h:PA X es t):PE X (.Tuple es x1 pos) (tTup t):=by
 intro pins s σ H Q I hq
 refine wpAny_Tuple_spliced (thn (h pos pins s σ H _ I hq) fun us s1 ⟨xs,H1,I1,r,z,q⟩=>⟨by rw [← r.length]; exact z,?_⟩)
 have hf:H1 s1.heap.objs.size = none:=I1.hok.fresh (Nat.le_refl _)
 refine ⟨.ref s1.heap.objs.size,upd H1 s1.heap.objs.size (.tup xs),I1.laid (t':=s1.toks) (fun b u e=>Heap.get?_push_of_some _ e) (Nat.le_refl _) ?_,rfl,q _ hf⟩
 exact ⟨z,us,r,⟨_,Heap.get?_push_size _ rfl,rfl,_,rfl⟩⟩
theorem pe_lst (h:PA X es t):PE X (.List es pos) (tLst t):=by
 intro pins s σ H Q I hq
 refine wpAny_List_spliced (thn (h pos pins s σ H _ I hq) fun us s1 ⟨xs,H1,I1,r,z,q⟩=>⟨by rw [← r.length]; exact z,?_⟩)
 have hf:H1 s1.heap.objs.size = none:=I1.hok.fresh (Nat.le_refl _)
 refine ⟨.ref s1.heap.objs.size,upd H1 s1.heap.objs.size (.lst xs),I1.laid (t':=s1.toks) (fun b u e=>Heap.get?_push_of_some _ e) (Nat.le_refl _) ?_,rfl,q _ hf⟩
 exact ⟨z,us,0,r,Heap.get?_push_size _ rfl⟩
end
abbrev Sp:=List V→Hp→VK→XK→Prop
abbrev CXT:=List Env→Hp→Shared→XK→Value→Shared→Prop
structure Env0 (P:Program) (w:World) (K:PySem.W.Frag) (mg:Str→Option Value) (base:Heap) (A:Around) (outer:List Env) (s:Shared) (H:Hp):Prop where
 frames:A.frames = some outer
 mod:Mod K mg base
 bs:∀ b o,base.get? b = some o→s.heap.get? b = some o∧H b = none
 bsz:base.objs.size ≤ s.heap.objs.size
 funs:s.heap.FunFrames base outer
 frf:∀ b ∈ frs outer,H b = none
 hok:HOk P w H s.heap
 bare:AllBare s.gens
def CE (outer:List Env) (P:Program) (w:World) (H:Hp) (s:Shared) (Q:VK) (u:Value) (s':Shared):Prop :=
 ∃ v H',s'.os = s.os∧AllBare s'.gens∧Un (frs outer) [] H H' s.heap s'.heap∧HOk P w H' s'.heap∧RelV v u∧Q v H'
def CR (CX:CXT) (outer:List Env) (P:Program) (w:World) (H:Hp) (s:Shared) (Q:VK) (E:XK) (r:Result) (s':Shared):Prop :=
 match r with
 | .ok (.ret u)=>CE outer P w H s Q u s'
 | .ok _=>False
 | .error e=>CX outer H s E e s'
structure FnOk (P:Program) (w:World) (K:PySem.W.Frag) (mg:Str→Option Value) (base:Heap) (CX:CXT) (k:Nat) (f:Addr) (fd:FuncData) (ps:List Str) (sp:Sp):Prop where
 len:∀ vs H Q E,sp vs H Q E→vs.length = ps.length
 run:∀ (A:Around) (outer:List Env) (s:Shared) (H:Hp) (args:Args) (us:List Value) (vs:List V) (Q:VK) (E:XK),Room k A→Env0 P w K mg base A outer s H→BindsTo s fd args (ps.zip us)→Vals vs us→sp vs H Q E →
  codeAny (model P w) A (.call (.ref f) args) (CR CX outer P w H s Q E) s
theorem FnOk.imp {P:Program} {w:World} {K:PySem.W.Frag} {mg:Str→Option Value} {base:Heap} {CX:CXT} {k:Nat} {f:Addr} {fd:FuncData} {ps:List Str} {sp sp':Sp} (F:FnOk P w K mg base CX k f fd ps sp)
  (h:∀ vs H Q E,sp' vs H Q E→sp vs H Q E):FnOk P w K mg base CX k f fd ps sp' :=
 ⟨fun vs H Q E q=>F.len vs H Q E (h _ _ _ _ q),fun A outer s H args us vs Q E hr he hb hv hs=>F.run A outer s H args us vs Q E hr he hb hv (h _ _ _ _ hs)⟩
section
variable {X:Cx} {pins:List (Addr × Obj)} {σ:St} {H:Hp} {s s':Shared}
theorem Inv.env0 (I:Inv X pins σ H s):Env0 X.prog X.w X.K X.mg X.base X.A X.stack s H :=
 ⟨I.ok.frames,I.ok.mod,I.bs,Nat.le_trans I.ok.bsz I.sz,I.stack,I.stkFree,I.hok,I.bare⟩
theorem Inv.after {Q:VK} {u:Value} (I:Inv X pins σ H s) (h:CE X.stack X.prog X.w H s Q u s'):EP X pins σ Q u s':=by
 obtain ⟨v,H',os,bare,un,hok,r,q⟩:=h
 obtain ⟨hh,g,d,t,os'⟩:=s'
 obtain rfl:os' = s.os:=os
 exact ⟨v,H',I.call (h':=hh) (g':=g) (d':=d) (t':=t) (ch:=[]) un hok bare (fun b z=>absurd z (by simp)),r,q⟩
end
def tCall (sp:Sp) (dvs:List V) (E:XK) (t:TA):TE:=fun σ H Q=>t σ H fun vs H1=>sp (vs ++ dvs) H1 Q E
def Binds (K:PySem.W.Frag) (fd:FuncData) (ps:List Str) (ds:List Value):Prop :=
 ∀ (s:Shared) (us:List Value),K.In s.heap→(us ++ ds).length = ps.length→BindsTo s fd ⟨us,[]⟩ (ps.zip (us ++ ds))
theorem Binds.all {K:PySem.W.Frag} {fd:FuncData} {ps:List Str} (h:∀ us:List Value,us.length = ps.length→bindArgs fd ⟨us,[]⟩ = pure (ps.zip us)):Binds K fd ps []:=fun s us _ hl=>by
 rw [List.append_nil] at hl ⊢
 exact .of_eq (h us hl)
def Passes (CX:CXT) (X:Cx) (E:XK):Prop:=∀ (pins:List (Addr × Obj)) (σ:St) (H:Hp) (s:Shared) (e:Value) (s':Shared),Inv X pins σ H s→CX X.stack H s E e s'→X.xe e s'
section
variable {X:Cx} {CX:CXT} {k:Nat} {f C:Addr} {fd:FuncData} {ps:List Str} {sp:Sp} {dvs:List V} {ds:List Value} {E:XK} {x m:Str} {p pos apos:Pos} {e o:Expr} {es:List Expr} {ta:TE} {t:TA}
theorem run_fn {pins:List (Addr × Obj)} {σ:St} {H:Hp} {s:Shared} {Q:VK} {us:List Value} {vs:List V} (F:FnOk X.prog X.w X.K X.mg X.base CX k f fd ps sp) (hr:Room k X.A) (hb:Binds X.K fd ps ds) (hd:Vals dvs ds) (hx:Passes CX X E)
  (I:Inv X pins σ H s) (r:Vals vs us) (h:sp (vs ++ dvs) H Q E):wpAny (model X.prog X.w) X.A (call (.ref f) us) (EP X pins σ Q) X.xe s:=by
 have r2:Vals (vs ++ dvs) (us ++ ds):=r.append hd
 have hl:(us ++ ds).length = ps.length:=by rw [← r2.length]; exact F.len _ _ _ _ h
 refine wpAny_call (codeAny_mono (F.run X.A X.stack s H ⟨us,[]⟩ (us ++ ds) (vs ++ dvs) Q E hr I.env0 (hb s us I.kIn hl) r2 h) fun r s' hq=>?_)
 cases r with
 | error e=>exact hx pins σ H s e s' I hq
 | ok fl =>
  cases fl with
  | ret u=>exact I.after hq
  | next=>exact False.elim hq
  | brk=>exact False.elim hq
  | cont=>exact False.elim hq
theorem pe_call (F:FnOk X.prog X.w X.K X.mg X.base CX k f fd ps sp) (hr:Room k X.A) (hg:Gl X x) (hm:X.mg x = some (.ref f)) (hk:PySem.W.keepIn X.K (.ref f) = true) (hb:Binds X.K fd ps ds) (hd:Vals dvs ds) (hx:Passes CX X E)
  (ha:PA X (e :: es) t) (hdb:(x == ("__debug__" : Str)) = false:=by decide) (he:starEach (e :: es) X.env = (false,eval e X.env) :: starEach es X.env:=by rfl) (hpl:(backTo pos (starEach es X.env)).any (·.1) = false:=by rfl) :
  PE X (.Call (.Name x p) (e :: es) [] pos) (tCall sp dvs E t):=by
 intro pins s σ H Q I h
 refine wpAny_Call_Name_kw (ld_glob I hg hm ?_ hdb)
 refine PySem.W.callWith_K (h₀:=X.base) I.ok.mod.kin hk (thn (ha pos pins s σ H _ I h) fun us s1 ⟨vs,H1,I1,r,q⟩=>⟨I1.kIn,?_⟩) he hpl
 exact run_fn F hr hb hd hx I1 r q
end
section
variable {X:Cx} {CX:CXT} {k:Nat} {f C:Addr} {fd:FuncData} {ps ks:List Str} {sp:Sp} {E:XK} {x m:Str} {p pos apos kpos:Pos} {e o:Expr} {es:List Expr} {kws:List Keyword} {te ta:TE} {t tk:TA} {nm:Option Str}
variable {g:List Value→List Value→List Value} {gV:List V→List V→List V}
end
structure FnScope (N P:List Str) (sc:Scope):Prop where
 kind:sc.kind = .function
 co:sc.isCoroutine = false
 gen:sc.isGenerator = false
 nd:N.Nodup
 pre:N.take P.length = P
 par:∀ x ∈ P,sc.names.lookup x = some .local∨sc.names.lookup x = some .cell
 nofree:∀ y ∈ sc.names,y.2 ≠ .free
theorem bindL_out {kindOf:Str→Option NameKind} {x:Str} : ∀ {binds:List (Str × Value)} {m:Str→Option Value},(∀ v,(x,v) ∉ binds)→bindL kindOf binds m x = m x
 | [],_,_=>rfl
 | (n,v) :: r,m,h=>by
  unfold bindL
  rw [bindL_out fun w hw=>h w (List.mem_cons_of_mem _ hw)]
  split
  ·have:x ≠ n:=by rintro rfl; exact h v List.mem_cons_self
   simp [this]
  ·rfl
theorem bindC_out {kindOf:Str→Option NameKind} {x:Str} : ∀ {binds:List (Str × Value)} {m:Str→Option Value},(∀ v,(x,v) ∉ binds)→bindC kindOf binds m x = m x
 | [],_,_=>rfl
 | (n,v) :: r,m,h=>by
  unfold bindC
  rw [bindC_out fun w hw=>h w (List.mem_cons_of_mem _ hw)]
  split
  ·rfl
  ·have:x ≠ n:=by rintro rfl; exact h v List.mem_cons_self
   simp [this]
theorem bindL_get {kindOf:Str→Option NameKind} {x:Str} {v:Value} : ∀ {P:List Str} {vs:List Value} {i:Nat} {m:Str→Option Value},P.Nodup→P[i]? = some x→vs[i]? = some v→kindOf x = some .local →
  bindL kindOf (P.zip vs) m x = some v
 | [],_,_,_,_,h,_,_=>by simp at h
 | _ :: _,[],_,_,_,_,h,_=>by simp at h
 | p :: P,w :: vs,0,m,nd,h1,h2,hk=>by
  simp at h1 h2; subst h1; subst h2
  show bindL kindOf ((p,w) :: P.zip vs) m p = _
  unfold bindL
  rw [bindL_out fun v hv=>(List.nodup_cons.mp nd).1 (List.of_mem_zip hv).1,if_pos hk]
  simp
 | p :: P,w :: vs,i + 1,m,nd,h1,h2,hk=>by
  show bindL kindOf ((p,w) :: P.zip vs) m x = _
  unfold bindL
  exact bindL_get (i:=i) (List.nodup_cons.mp nd).2 (by simpa using h1) (by simpa using h2) hk
theorem bindC_get {kindOf:Str→Option NameKind} {x:Str} {v:Value} : ∀ {P:List Str} {vs:List Value} {i:Nat} {m:Str→Option Value},P.Nodup→P[i]? = some x→vs[i]? = some v→kindOf x ≠ some .local →
  bindC kindOf (P.zip vs) m x = some v
 | [],_,_,_,_,h,_,_=>by simp at h
 | _ :: _,[],_,_,_,_,h,_=>by simp at h
 | p :: P,w :: vs,0,m,nd,h1,h2,hk=>by
  simp at h1 h2; subst h1; subst h2
  show bindC kindOf ((p,w) :: P.zip vs) m p = _
  unfold bindC
  rw [bindC_out fun v hv=>(List.nodup_cons.mp nd).1 (List.of_mem_zip hv).1,if_neg hk]
  simp
 | p :: P,w :: vs,i + 1,m,nd,h1,h2,hk=>by
  show bindC kindOf ((p,w) :: P.zip vs) m x = _
  unfold bindC
  exact bindC_get (i:=i) (List.nodup_cons.mp nd).2 (by simpa using h1) (by simpa using h2) hk
def start (N:List Str) (vs:List V):St:=vs.map some ++ List.replicate (N.length - vs.length) none
def cxOf (CX:CXT) (P:Program) (w:World) (K:PySem.W.Frag) (mg:Str→Option Value) (base:Heap) (N:List Str) (qual:Str) (scope:Scope) (f:Addr) (cd:Value) (A:Around) (outer:List Env) (s:Shared) (H:Hp) (E:XK):Cx where
 prog:=P
 w:=w
 K:=K
 mg:=mg
 base:=base
 A:=A.deeper (envOfC qual scope s.heap.objs.size f cd)
 N:=N
 s₀:=s
 H₀:=H
 env:=envOfC qual scope s.heap.objs.size f cd
 outer:=outer
 stack:=envOfC qual scope s.heap.objs.size f cd :: outer
 ex:=[]
 calm:=true
 fn:=fun _=>true
 pn:=[]
 xe:=fun e s'=>wpAny (model P w) (A.deeper (envOfC qual scope s.heap.objs.size f cd)) (leaving (envOfC qual scope s.heap.objs.size f cd) e) (fun _ s''=>CX outer H s E e s'') (fun e' s''=>CX outer H s E e' s'') s'
theorem cell_has {sc:Scope} {n:Nat} {x:Str} (h:sc.names.lookup x = some .cell):∃ c,(cellsFrom n sc.names []).lookup x = some c:=by
 have q:=PySem.W.cellsFrom_some sc.names n [] (.inl h)
 exact Option.isSome_iff_exists.mp q
theorem inv_start {CX:CXT} {P:Program} {w:World} {K:PySem.W.Frag} {mg:Str→Option Value} {base:Heap} {N ps:List Str} {qual:Str} {scope:Scope} {f:Addr} {cd:Value} {A:Around} {outer:List Env} {s s1:Shared} {H:Hp} {E:XK} {us:List Value} {vs:List V}
  (S:FnScope N ps scope) (hd:A.handled = none) (e0:Env0 P w K mg base A outer s H) (hl:vs.length = ps.length) (r:Vals vs us)
  (x:InCallC s s.heap.objs.size (bindL (envOfC qual scope s.heap.objs.size f cd).kindOf (ps.zip us) fun _=>none) (cellsFrom (s.heap.objs.size + 1) scope.names []) (bindC (envOfC qual scope s.heap.objs.size f cd).kindOf (ps.zip us) fun _=>none) s1) :
  Inv (cxOf CX P w K mg base N qual scope f cd A outer s H E) [] (start N vs) H s1:=by
 have hpl:ps.length ≤ N.length:=by have:=congrArg List.length S.pre; rw [List.length_take] at this; omega
 obtain ⟨h1,tk,rfl,hk⟩:=x.done
 have noA:∀ b:Addr,b ∉ (cxOf CX P w K mg base N qual scope f cd A outer s H E).ex:=fun b z=>absurd (show b ∈ ([] : List Addr) from z) (by simp)
 refine ⟨⟨e0.mod,S.kind,rfl,rfl,Nat.le_refl _,fun y z c h1 h2=>?_,fun y hy=>?_,fun y c _ h=>?_,fun _=>hd,Around.frames_deeper e0.frames,.inr ⟨rfl,rfl⟩,fun b z=>absurd z (noA b),e0.bs,e0.bsz,fun b _ _=>noA b,fun b z=>absurd z (noA b),e0.funs,e0.frf⟩,
  rfl,e0.bare,Un.kept hk,⟨_,x.toInCall.ns,fun i y v h1 h2 h3=>?_⟩,fun y c h=>⟨_,x.cell y c h⟩,e0.hok.fresh (Nat.le_refl _),fun y c h=>?_,fun p hp=>absurd (show p ∈ ([] : List (Addr × Obj)) from hp) (by simp),e0.hok.kept hk,?_⟩
 ·exact name_of_addr x.apart (PySem.mem_of_lookup h1) (PySem.mem_of_lookup h2)
 ·have hy:scope.names.lookup y = some .cell∨scope.names.lookup y = some .free:=hy
  rcases hy with hy | hy
  ·exact cell_has hy
  ·exact absurd rfl (S.nofree _ (PySem.mem_of_lookup hy))
 ·exact Nat.le_of_lt (x.above y c (PySem.mem_of_lookup h))
 ·have hi:i < vs.length:=by
   unfold start at h2
   by_cases hi:i < vs.length
   ·exact hi
   ·rw [List.getElem?_append_right (by simpa using hi)] at h2
    rw [List.getElem?_replicate] at h2
    split at h2 <;> cases h2
  have ha:vs[i]? = some v:=by
   unfold start at h2
   rw [List.getElem?_append_left (by simpa using hi),List.getElem?_map] at h2
   cases e:vs[i]? with
   | none=>rw [e] at h2; cases h2
   | some a=>rw [e] at h2; cases h2; rfl
  obtain ⟨u,hu,rv⟩:=r.get ha
  have hp:ps[i]? = some y:=by
   rw [← S.pre,List.getElem?_take_of_lt (by omega)]; exact h1
  have ndP:ps.Nodup:=by rw [← S.pre]; exact S.nd.sublist (List.take_sublist _ _)
  refine ⟨u,rv,?_⟩
  rcases S.par y (List.mem_of_getElem? hp) with k | k
  ·exact .inl ⟨k,bindL_get ndP hp hu k⟩
  ·obtain ⟨c,e⟩:=cell_has (n:=s.heap.objs.size + 1) k
   refine .inr ⟨.inl k,c,e,?_⟩
   have q:=x.cell y c e
   rw [bindC_get ndP hp hu (by show scope.names.lookup y ≠ _; rw [k]; decide)] at q
   exact q
 ·exact e0.hok.fresh (Nat.le_of_lt (x.above y c (PySem.mem_of_lookup h)))
 ·unfold start
  show _ = N.length
  rw [List.length_append,List.length_map,List.length_replicate]
  omega
theorem fn_of {CX:CXT} {P:Program} {w:World} {K:PySem.W.Frag} {mg:Str→Option Value} {base:Heap} {k:Nat} {f:Addr} {name qual:Str} {params:Arguments} {body:List Stmt} {scope:Scope} {dV kV doc pm cdv ct oc:Value} {an od:Option Addr}
  {osl:Array (Option Value)} {N ps:List Str} {sp:Sp} (lk:K.lookup f = some ⟨oc,od,.func (PySem.W.fnOf name qual params body scope dV kV doc pm an cdv ct),osl⟩) (hcd:PySem.W.codeIn K cdv qual = true) (S:FnScope N ps scope)
  (len:∀ vs H Q E,sp vs H Q E→vs.length = ps.length)
  (hbody:∀ (A:Around) (outer:List Env) (s:Shared) (H:Hp) (vs:List V) (Q:VK) (E:XK),Room k (A.deeper (envOfC qual scope s.heap.objs.size f cdv))→sp vs H Q E →
   ∃ t,PSs (cxOf CX P w K mg base N qual scope f cdv A outer s H E) body t∧t { nx:=fun _ H'=>Q .non H',rt:=Q } (start N vs) H) :
  FnOk P w K mg base CX (k + 1) f (PySem.W.fnOf name qual params body scope dV kV doc pm an cdv ct) ps sp:=by
 refine ⟨len,fun A outer s H args us vs Q E hr e0 hb r hsp=>?_⟩
 have hl:=len _ _ _ _ hsp
 have KX:K.In s.heap:=e0.mod.kin.keeps fun b o e=>(e0.bs b o e).1
 have lim:s.heap.NoLimit:=e0.mod.nolimit.keeps fun b o e=>(e0.bs b o e).1
 have hkind:∀ y ∈ ps.zip us,scope.names.lookup y.1 = some .local∨(scope.names.lookup y.1 = some .cell∧((cellsFrom (s.heap.objs.size + 1) scope.names []).lookup y.1).isSome = true):=fun ⟨n,v⟩ hy=>by
  rcases S.par n (List.of_mem_zip hy).1 with q | q
  ·exact .inl q
  ·exact .inr ⟨q,PySem.W.cellsFrom_some _ _ _ (.inl q)⟩
 refine codeAny_call_function hr.depth (KX _ _ lk) rfl S.co S.gen rfl (PySem.W.codeRec_of KX hcd) (hb _ _ _ _ ?_)
 refine wpAny_newFunctionEnv_cells S.kind hkind fun env he s1 x=>?_
 subst he
 refine ⟨lim.keeps x.toInCall.keep,codeAny_func ?_⟩
 obtain ⟨t,ht,hq⟩:=hbody A outer s H vs Q E (hr.deeper _) hsp
 have I:Inv (cxOf CX P w K mg base N qual scope f cdv A outer s H E) [] (start N vs) H s1:=inv_start S hr.hd e0 hl r x
 refine wpAny_mono (ht [] s1 (start N vs) H _ I hq) (fun fl s' hs=>?_) fun e s' hs=>hs
 have fin:∀ {σ':St} {H':Hp} {v:V} {u:Value},Inv (cxOf CX P w K mg base N qual scope f cdv A outer s H E) [] σ' H' s'→RelV v u→Q v H'→CE outer P w H s Q u s' :=
  fun {σ' H' v u} J rv q=>⟨v,H',J.os,J.bare,J.base,J.hok,rv,q⟩
 cases fl with
 | ret u =>
  obtain ⟨v,σ',H',J,rv,q⟩:=hs
  exact fin J rv q
 | next =>
  obtain ⟨σ',H',J,q⟩:=hs
  exact fin (v:=V.non) (u:=Value.none) J rfl q
 | brk =>
  obtain ⟨_,_,_,q⟩:=hs
  exact False.elim q
 | cont =>
  obtain ⟨_,_,_,q⟩:=hs
  exact False.elim q
end L2
namespace L2
open PySem PySem.Spec PyProof.Rows
section
variable {X:Cx} {x:Str} {p pos:Pos} {e:Expr} {es:List Expr} {t:TA} {id T:String} {r:List V→Hp→VK→Prop}
def tCB (r:List V→Hp→VK→Prop) (t:TA):TE:=fun σ H Q=>t σ H fun vs H1=>r vs H1 Q
theorem pe_callB (hc:CallR X (.builtin id) r) (hg:Gl X x) (hm:X.mg x = none) (hv:bootBuiltins x = some (.builtin id)) (ha:PA X (e :: es) t) (hn:x ≠ "__name__" := by decide) (hdb:(x == ("__debug__" : Str)) = false:=by decide)
  (he:starEach (e :: es) X.env = (false,eval e X.env) :: starEach es X.env:=by rfl) (hpl:(backTo pos (starEach es X.env)).any (·.1) = false:=by rfl):PE X (.Call (.Name x p) (e :: es) [] pos) (tCB r t):=by
 intro pins s σ H Q I h
 refine wpAny_Call_Name_kw (ld_blt I hg hm hv ?_ hn hdb)
 exact PyProof.Rows.callWith_builtin1 (thn (ha pos pins s σ H _ I h) fun us s1 ⟨vs,H1,I1,r1,q1⟩=>hc pins s1 σ H1 vs us Q I1 r1 q1) he hpl
theorem pe_callTy (hc:CallR X (.type T) r) (hg:Gl X x) (hm:X.mg x = none) (hv:bootBuiltins x = some (.type T)) (ha:PA X (e :: es) t) (hn:x ≠ "__name__" := by decide) (hdb:(x == ("__debug__" : Str)) = false:=by decide)
  (he:starEach (e :: es) X.env = (false,eval e X.env) :: starEach es X.env:=by rfl) (hpl:(backTo pos (starEach es X.env)).any (·.1) = false:=by rfl):PE X (.Call (.Name x p) (e :: es) [] pos) (tCB r t):=by
 intro pins s σ H Q I h
 refine wpAny_Call_Name_kw (ld_blt I hg hm hv ?_ hn hdb)
 exact PyProof.Rows.callWith_type1 (thn (ha pos pins s σ H _ I h) fun us s1 ⟨vs,H1,I1,r1,q1⟩=>hc pins s1 σ H1 vs us Q I1 r1 q1) he hpl
end
end L2
namespace HT
open PySem PyProof.Rows
section
open PySem.SeqAt
open PySem.AutoSeq1 (wpAny_loadPart')
open PySem.MeetsSeq PySem.MeetsSeq2 PySem.MeetsSeq3
end
section
variable {prog:Program} {w:World} {A:Around} {E:Value→Shared→Prop} {s:Shared}
def sIx (n d:Nat):Option Int→Nat
 | none=>d
 | some v=>if v < 0 then (v + (n:Int)).toNat else min v.toNat n
theorem sIx_nat (n d k:Nat):sIx n d (some (k:Int)) = min k n:=by
 show (if (k:Int) < 0 then ((k:Int) + (n:Int)).toNat else min (k:Int).toNat n) = min k n
 rw [if_neg (by omega),Int.toNat_natCast]
end
end HT
namespace L2
open PySem PySem.Spec PyProof.Rows
abbrev TO:=St→Hp→(Option Int→Hp→Prop)→Prop
def PO (X:Cx) (e:Option Expr) (t:TO):Prop :=
 ∀ (pins:List (Addr × Obj)) (s:Shared) (σ:St) (H:Hp) (Q:Option Int→Hp→Prop),Inv X pins σ H s→t σ H Q →
  wpAny (model X.prog X.w) X.A (evalPart e X.env) (fun u s'=>∃ o H',Inv X pins σ H' s'∧IsPart u o∧Q o H') X.xe s
def tNoPart:TO:=fun _ H Q=>Q none H
def tPart (t:TE):TO:=fun σ H Q=>t σ H fun x H1=>∃ i,x = .int i∧Q (some i) H1
theorem intsAre_of {ns:List Int} : ∀ {us:List Value},Vals (ns.map V.int) us→IntsAre us ns:=by
 induction ns with
 | nil=>intro us r; rw [List.map_nil] at r; cases r; exact .nil
 | cons n ns ih =>
  intro us r
  rw [List.map_cons] at r
  cases r with
  | cons r1 r2 =>
   obtain ⟨t,e⟩:=r1
   subst e
   exact .cons n t (ih r2)
section
variable {X:Cx} {e:Expr} {te:TE} {lo hi:Option Expr} {tl th:TO} {pos p2:Pos}
theorem po_none:PO X none tNoPart:=by
 intro pins s σ H Q I h
 rw [evalPart_none]
 exact wpAny_pure ⟨none,H,I,.none,h⟩
theorem po_some (h:PE X e te):PO X (some e) (tPart te):=by
 intro pins s σ H Q I hw
 rw [evalPart_some]
 refine thn (h pins s σ H _ I hw) fun u s1 ⟨x,H1,I1,r1,q1⟩=>?_
 obtain ⟨i,rfl,q⟩:=q1
 obtain ⟨t,rfl⟩:=r1
 exact ⟨some i,H1,I1,.int i t,q⟩
def SlR (X:Cx) (r:V→Option Int→Option Int→Hp→VK→Prop):Prop :=
 ∀ (pins:List (Addr × Obj)) (s:Shared) (σ:St) (H:Hp) (x:V) (v vl vu:Value) (lo hi:Option Int) (sl:Addr) (Q:VK),Inv X pins σ H s→RelV x v→s.heap.IsSliceOf sl vl vu .none→IsPart vl lo→IsPart vu hi→r x lo hi H Q →
  ∃ T id,typeLookup (.type T) "__getitem__" = pure (some (.builtin id))∧s.TypeIs v T∧wpAny (model X.prog X.w) X.A (getItem v (.ref sl)) (EP X pins σ Q) X.xe s
def tSl (r:V→Option Int→Option Int→Hp→VK→Prop) (te:TE) (tl th:TO):TE:=fun σ H Q=>te σ H fun x H1=>tl σ H1 fun l H2=>th σ H2 fun u H3=>r x l u H3 Q
theorem pe_slice {r:V→Option Int→Option Int→Hp→VK→Prop} (hr:SlR X r) (he:PE X e te) (hl:PO X lo tl) (hu:PO X hi th):PE X (.Subscript e (.Slice lo hi none p2) pos) (tSl r te tl th):=by
 intro pins s σ H Q I h
 refine Subscript_ (thn (he pins s σ H _ I h) fun v s1 ⟨x,H1,I1,r1,q1⟩=>?_)
 refine wpAny_Slice (thn (hl pins s1 σ H1 _ I1 q1) fun vl s2 ⟨l,H2,I2,pl,q2⟩=>thn (hu pins s2 σ H2 _ I2 q2) fun vu s3 ⟨u,H3,I3,pu,q3⟩=>?_)
 rw [evalPart_none]
 refine wpAny_pure ?_
 have I4:Inv X pins σ H3 { s3 with heap:=s3.heap.push { cls:=.type "slice",data:=.fields #[vl,vu,.none] } }:=I3.kept (t':=s3.toks) fun b ob q=>Heap.get?_push_of_some _ q
 obtain ⟨T,id,hT,ht,hg⟩:=hr pins { s3 with heap:=s3.heap.push { cls:=.type "slice",data:=.fields #[vl,vu,.none] } } σ H3 x v vl vu l u s3.heap.objs.size Q I4 r1 (Heap.IsSliceOf.new ..) pl pu q3
 show wpAny (model X.prog X.w) X.A (subscriptTail e (.Slice lo hi none p2) v (.ref s3.heap.objs.size)) (EP X pins σ Q) X.xe { s3 with heap:=s3.heap.push { cls:=.type "slice",data:=.fields #[vl,vu,.none] } }
 exact tail_any (ops:=[.ref s3.heap.objs.size,v]) ht hT hg (by with_unfolding_all rfl)
def cutV (xs:List V) (lo hi:Option Int):List V:=(xs.drop (HT.sIx xs.length 0 lo)).take (HT.sIx xs.length xs.length hi - HT.sIx xs.length 0 lo)
theorem cutV_length (xs:List V) (lo hi:Option Int):(cutV xs lo hi).length ≤ xs.length:=by
 unfold cutV
 rw [List.length_take,List.length_drop]
 omega
end
end L2
namespace L2
open PySem PySem.Spec PyProof.Rows
def ixN (n:Nat) (i:Int):Option Nat:=if 0 ≤ i then (if i < n then some i.toNat else none) else if -(n:Int) ≤ i then some (i + n).toNat else none
def atI {α:Type} (xs:List α) (i:Int):Option α:=(ixN xs.length i).bind fun j=>xs[j]?
theorem ixN_seq {n:Nat} {i:Int} {j:Nat} (h:ixN n i = some j):seqIndex? i n = some j∧j < n∧-(n:Int) ≤ i∧i < n:=by
 unfold ixN at h
 by_cases h0:0 ≤ i
 ·rw [if_pos h0] at h
  by_cases h1:i < n
  ·rw [if_pos h1] at h
   have e:i.toNat = j:=Option.some.inj h
   exact ⟨by rw [seqIndex_of h0 h1,e],by omega,by omega,h1⟩
  ·rw [if_neg h1] at h; cases h
 ·rw [if_neg h0] at h
  by_cases h1 : -(n:Int) ≤ i
  ·rw [if_pos h1] at h
   have e:(i + n).toNat = j:=Option.some.inj h
   exact ⟨by rw [seqIndex_neg (by omega) h1,e],by omega,h1,by omega⟩
  ·rw [if_neg h1] at h; cases h
theorem atI_get {α:Type} {xs:List α} {i:Int} {v:α} (h:atI xs i = some v):∃ j,seqIndex? i xs.length = some j∧xs[j]? = some v∧j < xs.length∧-(xs.length:Int) ≤ i∧i < xs.length:=by
 unfold atI at h
 cases e:ixN xs.length i with
 | none=>rw [e] at h; cases h
 | some j =>
  rw [e] at h
  obtain ⟨h1,h2,h3,h4⟩:=ixN_seq e
  exact ⟨j,h1,h,h2,h3,h4⟩
theorem atI_nat {α:Type} {xs:List α} {j:Nat} {v:α} (h:xs[j]? = some v):atI xs (j:Int) = some v:=by
 have hj:j < xs.length:=(List.getElem?_eq_some_iff.mp h).1
 have e:ixN xs.length (j:Int) = some j:=by
  unfold ixN
  rw [if_pos (by omega),if_pos (by omega)]; simp
 unfold atI; rw [e]; exact h
def PlainIx (b:Expr):Prop:=∀ o i,subscripted b false o i = operate [o,i] (getItem o i)
def IxR (X:Cx) (r:R2):Prop :=
 ∀ (value slice:Expr) (pins:List (Addr × Obj)) (s:Shared) (σ:St) (H:Hp) (x y:V) (v u:Value) (Q:VK),Inv X pins σ H s→RelV x v→RelV y u→r x y H Q →
  subscripted slice false v u = operate [v,u] (getItem v u)→wpAny (model X.prog X.w) X.A (subscriptTail value slice v u) (EP X pins σ Q) X.xe s
def MtR (X:Cx) (id:String) (r:V→List V→Hp→VK→Prop):Prop :=
 ∀ (pins:List (Addr × Obj)) (s:Shared) (σ:St) (H:Hp) (x:V) (xs:List V) (v:Value) (us:List Value) (Q:VK),Inv X pins σ H s→RelV x v→Vals xs us→r x xs H Q →
  wpAny (model X.prog X.w) X.A (call (.builtin id) (v :: us)) (EP X pins σ Q) X.xe s
section
variable {X:Cx} {a b:Expr} {ta tb:TE} {pos:Pos}
theorem pe_ix {r:R2} (hr:IxR X r) (ha:PE X a ta) (hb:PE X b tb) (hs:PlainIx b):PE X (.Subscript a b pos) (tOp r ta tb):=by
 intro pins s σ H Q I h
 exact Subscript_ (binT ha hb I h fun v u s2 x y H2 I2 rx ry q=>hr a b pins s2 σ H2 x y v u Q I2 rx ry q (hs _ _))
def rIxL (K:PySem.W.Frag):R2:=fun x y H Q=>∃ p xs i v,x = .ref p∧y = .int i∧SqL K H p xs∧atI xs i = some v∧Q v H
def rIxT (K:PySem.W.Frag):R2:=fun x y H Q=>∃ p xs i v,x = .ref p∧y = .int i∧SqT K H p xs∧atI xs i = some v∧Q v H
def rIxS:R2:=fun x y H Q=>∃ z i c,x = .str z∧y = .int i∧z.length ≤ sizeLine∧atI z.cps.toList i = some c∧Q (.str ⟨#[c]⟩) H
theorem ix_list:IxR X (rIxL X.K):=by
 intro value slice pins s σ H x y v u Q I rx ry h hs
 obtain ⟨p,xs,i,z,rfl,rfl,hq,he,q⟩:=h
 cases rx
 obtain ⟨t,rfl⟩:=ry
 obtain ⟨its,r,pl,hz⟩:=I.list hq
 obtain ⟨j,h1,h2,h3,h4,h5⟩:=atI_get he
 obtain ⟨w,ew,rw'⟩:=r.get h2
 have hl:=r.length
 have hn:=line63
 have fin:EP X pins σ Q w s:=⟨z,H,I,rw',q⟩
 by_cases h0:0 ≤ i
 ·have hj:i.toNat = j:=by
   rw [seqIndex_of h0 h5] at h1
   exact Option.some.inj h1
  exact item_listR pl.isList h0 (by omega) (by rw [hj]; simpa using ew) fin hs
 ·have hj:(i + (its.toArray.size:Int)).toNat = j:=by
   rw [seqIndex_neg (by omega) h4] at h1
   rw [List.size_toArray,← hl]
   exact Option.some.inj h1
  exact subscriptTail_builtinR (x:=w) pl.isList.typeIs slot_list_getitem.lookup
   (wpAny_getItem_list_neg (Q:=fun r s'=>r = w∧EP X pins σ Q r s') pl.isList (by omega) (by rw [List.size_toArray] <;> omega) (by omega) (by rw [hj]; simpa using ew) ⟨rfl,fin⟩) hs
theorem ix_tup:IxR X (rIxT X.K):=by
 intro value slice pins s σ H x y v u Q I rx ry h hs
 obtain ⟨p,xs,i,z,rfl,rfl,hq,he,q⟩:=h
 cases rx
 obtain ⟨t,rfl⟩:=ry
 obtain ⟨its,r,pl,hz⟩:=I.tuple hq
 obtain ⟨j,h1,h2,h3,h4,h5⟩:=atI_get he
 obtain ⟨w,ew,rw'⟩:=r.get h2
 have hl:=r.length
 have hn:=line63
 have fin:EP X pins σ Q w s:=⟨z,H,I,rw',q⟩
 exact subscriptTail_builtinR (x:=w) pl.typeIs slot_tuple_getitem.lookup
  (getItem_tuple (j:=j) (Q:=fun r s'=>r = w∧EP X pins σ Q r s') pl (by omega) (by omega) (by rw [List.size_toArray,← hl]; exact h1) (by simpa using ew) ⟨rfl,fin⟩) hs
theorem mapSeq_set (its:List Value) (n j:Nat) (u:Value):Obj.mapSeq (·.setIfInBounds j u) { cls:=.type "list",data:=.seq its.toArray n } = { cls:=.type "list",data:=.seq (its.set j u).toArray n }:=by
 simp [Obj.mapSeq]
theorem Inv.lst {pins:List (Addr × Obj)} {σ:St} {H:Hp} {s:Shared} {p:Addr} {xs:List V} (I:Inv X pins σ H s) (h:H p = some (.lst xs)) :
  ∃ (its:List Value) (n:Nat),Vals xs its∧s.heap.get? p = some { cls:=.type "list",data:=.seq its.toArray n }∧xs.length ≤ sizeLine:=by
 obtain ⟨z,its,n,r,e⟩:=I.hok p _ h
 exact ⟨its,n,r,e,z⟩
theorem Inv.lstUpd {pins:List (Addr × Obj)} {σ:St} {H:Hp} {s:Shared} {p:Addr} {xs ys:List V} {its its':List Value} {n n':Nat} {f:Obj→Obj} (I:Inv X pins σ H s) (h:H p = some (.lst xs))
  (ho:s.heap.get? p = some { cls:=.type "list",data:=.seq its.toArray n }) (hf:f { cls:=.type "list",data:=.seq its.toArray n } = { cls:=.type "list",data:=.seq its'.toArray n' }) (r:Vals ys its') (hz:ys.length ≤ sizeLine) (t:Nat) :
  Inv X pins σ (upd H p (.lst ys)) { s with heap:=s.heap.update p f,toks:=t }:=by
 have e:(s.heap.update p f).get? p = some { cls:=.type "list",data:=.seq its'.toArray n' }:=by
  rw [Heap.get?_update_self f ho (by rw [hf] <;> rfl),hf]
 refine I.write (x:=p) (e:=p) (by rw [h]; trivial) (.inl rfl) (fun b u hb q=>(Heap.get?_update_other _ _ (Ne.symm hb)).trans q) ⟨_,e⟩ ?_
 exact ⟨hz,its',n',r,e⟩
def rSetL:V→V→V→Hp→(Hp→Prop)→Prop:=fun o i v H Q=>∃ p xs k j,o = .ref p∧i = .int k∧H p = some (.lst xs)∧ixN xs.length k = some j∧Q (upd H p (.lst (xs.set j v)))
theorem set_list:PSet X rSetL:=by
 intro pins s σ H o i v ov iv u Q I ro ri rv h
 obtain ⟨p,xs,k,j,rfl,rfl,hp,hj,q⟩:=h
 cases ro
 obtain ⟨t,rfl⟩:=ri
 obtain ⟨its,n,r,ho,hz⟩:=I.lst hp
 obtain ⟨h1,h2,h3,h4⟩:=ixN_seq hj
 have hl:=r.length
 have hn:=line63
 have I':Inv X pins σ (upd H p (.lst (xs.set j v))) { s with heap:=s.heap.update p (Obj.mapSeq (·.setIfInBounds j u)) } :=
  I.lstUpd hp ho (mapSeq_set its n j u) (r.set rv j) (by rw [List.length_set]; exact hz) s.toks
 by_cases h0:0 ≤ k
 ·have hk:k.toNat = j:=by
   rw [seqIndex_of h0 h4] at h1
   exact Option.some.inj h1
  exact PySem.W.ki_setAt ho h0 (by omega) (by rw [List.size_toArray,← hl]; exact h4) (by rw [hk]; exact ⟨_,I',q⟩)
 ·have hk:(k + (its.toArray.size:Int)).toNat = j:=by
   rw [seqIndex_neg (by omega) h3] at h1
   rw [List.size_toArray,← hl]
   exact Option.some.inj h1
  exact PySem.W.ki_setBack ho (by omega) (by rw [List.size_toArray,← hl]; exact h3) (by omega) (by rw [hk]; exact ⟨_,I',q⟩)
theorem slice_bounds (lo hi:Option Int) (n:Nat):(sliceBounds lo hi none n).1 = ((HT.sIx n 0 lo:Nat):Int)∧(sliceBounds lo hi none n).2.1 = ((HT.sIx n n hi:Nat):Int)∧(sliceBounds lo hi none n).2.2 = 1:=by
 refine ⟨?_,?_,rfl⟩
 ·cases lo with
  | none=>simp [sliceBounds,HT.sIx]
  | some i =>
   simp only [sliceBounds,HT.sIx,Option.getD_none,show (1:Int) > 0 by decide,if_true]
   by_cases h:i < 0
   ·simp only [h,if_true] <;> omega
   ·simp only [h,if_false] <;> omega
 ·cases hi with
  | none=>simp [sliceBounds,HT.sIx]
  | some i =>
   simp only [sliceBounds,HT.sIx,Option.getD_none,show (1:Int) > 0 by decide,if_true]
   by_cases h:i < 0
   ·simp only [h,if_true] <;> omega
   ·simp only [h,if_false] <;> omega
theorem slicePick_cut (its:List Value) (lo hi:Option Int):slicePick its.toArray lo hi none = ((its.drop (HT.sIx its.length 0 lo)).take (HT.sIx its.length its.length hi - HT.sIx its.length 0 lo)).toArray:=by
 obtain ⟨h1,h2,h3⟩:=slice_bounds lo hi its.toArray.size
 unfold slicePick
 rw [h1,h2,h3]
 simp only [sliceRange_one,pick_run,List.size_toArray] <;> rfl
def rSlL (K:PySem.W.Frag):V→Option Int→Option Int→Hp→VK→Prop:=fun x lo hi H Q=>∃ a xs,x = .ref a∧SqL K H a xs∧∀ p,H p = none→Q (.ref p) (upd H p (.lst (cutV xs lo hi)))
theorem sl_list:SlR X (rSlL X.K):=by
 intro pins s σ H x v vl vu lo hi sl Q I rx hs pl pu h
 obtain ⟨a,xs,rfl,hx,q⟩:=h
 cases rx
 obtain ⟨its,r,ht,hz⟩:=I.list hx
 have hlen:=r.length
 refine ⟨"list",_,slot_list_getitem.lookup,ht.isList.typeIs,?_⟩
 refine wpAny_getItem_list_slice ht.isList hs pl pu .none (by simp) ?_ (by rw [List.size_toArray] <;> omega)
 rw [slicePick_cut,← hlen]
 refine ⟨.ref s.heap.objs.size,_,I.laid (t':=s.toks) (o:=.lst (cutV xs lo hi)) (fun b ob q=>Heap.get?_push_of_some _ q) (Nat.le_refl _) ?_,rfl,q _ (I.hok.fresh (Nat.le_refl _))⟩
 exact ⟨Nat.le_trans (cutV_length xs lo hi) hz,_,0,(r.drop (HT.sIx xs.length 0 lo)).take (HT.sIx xs.length xs.length hi - HT.sIx xs.length 0 lo),Heap.get?_push_size _ rfl⟩
def flatV:V→Bool
 | .non=>true
 | .bl _=>true
 | .int _=>true
 | .str _=>true
 | _=>false
def eqV:V→V→Bool
 | .non,.non=>true
 | .bl a,.bl b=>a == b
 | .bl a,.int b=>(if a then 1 else 0) == b
 | .int a,.bl b=>a == (if b then 1 else 0)
 | .int a,.int b=>a == b
 | .str a,.str b=>a == b
 | _,_=>false
theorem eqAt_V {A:Around} {s:Shared} {y x:V} {u v:Value} (ry:RelV y u) (rx:RelV x v) (fy:flatV y = true) (fx:flatV x = true):SeqAt.EqAt A s u v (eqV y x):=by
 cases y with
 | non =>
  cases ry
  cases x with
  | non=>cases rx; exact SeqAt.EqAt.same _
  | bl b=>cases rx; exact SeqAt.EqAt.none_bool b
  | int b=>obtain ⟨t,rfl⟩:=rx; exact SeqAt.EqAt.none_int b t
  | str b=>obtain ⟨t,rfl⟩:=rx; exact SeqAt.EqAt.none_str b t
  | _=>exact absurd (show false = true from fx) Bool.false_ne_true
 | bl a =>
  cases ry
  cases x with
  | non=>cases rx; exact SeqAt.EqAt.bool_none a
  | bl b=>cases rx; exact SeqAt.EqAt.bool_bool a b
  | int b=>obtain ⟨t,rfl⟩:=rx; exact SeqAt.EqAt.bool_int a b t
  | str b=>obtain ⟨t,rfl⟩:=rx; exact SeqAt.EqAt.bool_str a b t
  | _=>exact absurd (show false = true from fx) Bool.false_ne_true
 | int a =>
  obtain ⟨t',rfl⟩:=ry
  cases x with
  | non=>cases rx; exact SeqAt.EqAt.int_none a t'
  | bl b=>cases rx; exact SeqAt.EqAt.int_bool a t' b
  | int b=>obtain ⟨t,rfl⟩:=rx; exact SeqAt.EqAt.int_int a t' b t
  | str b=>obtain ⟨t,rfl⟩:=rx; exact SeqAt.EqAt.int_str a t' b t
  | _=>exact absurd (show false = true from fx) Bool.false_ne_true
 | str a =>
  obtain ⟨t',rfl⟩:=ry
  cases x with
  | non=>cases rx; exact SeqAt.EqAt.str_none a t'
  | bl b=>cases rx; exact SeqAt.EqAt.str_bool a t' b
  | int b=>obtain ⟨t,rfl⟩:=rx; exact SeqAt.EqAt.str_int a t' b t
  | str b=>obtain ⟨t,rfl⟩:=rx; exact SeqAt.EqAt.str_str a t' b t
  | _=>exact absurd (show false = true from fx) Bool.false_ne_true
 | _=>exact absurd (show false = true from fy) Bool.false_ne_true
def eqU (x:V) (u:Value):Bool:=match u with
 | .none=>eqV .non x
 | .bool b=>eqV (.bl b) x
 | .int i _=>eqV (.int i) x
 | .str z _=>eqV (.str z) x
 | _=>false
theorem eqU_of {x y:V} {u:Value} (r:RelV y u) (f:flatV y = true):eqU x u = eqV y x:=by
 cases y with
 | non=>cases r; rfl
 | bl b=>cases r; rfl
 | int i=>obtain ⟨t,rfl⟩:=r; rfl
 | str z=>obtain ⟨t,rfl⟩:=r; rfl
 | _=>exact absurd (show false = true from f) Bool.false_ne_true
theorem any_eqU {x:V} : ∀ {xs:List V} {us:List Value},Vals xs us→xs.all flatV = true→us.any (eqU x) = xs.any fun y=>eqV y x
 | _,_,.nil,_=>rfl
 | y :: xs,u :: us,.cons r t,f=>by
  rw [List.all_cons,Bool.and_eq_true] at f
  rw [List.any_cons,List.any_cons,eqU_of r f.1,any_eqU t f.2]
theorem mem_eqAt {A:Around} {s:Shared} {x:V} {v:Value} (rx:RelV x v) (fx:flatV x = true):∀ {xs:List V} {us:List Value},Vals xs us→xs.all flatV = true→∀ u ∈ us,SeqAt.EqAt A s u v (eqU x u)
 | _,_,.nil,_=>fun u hu=>by cases hu
 | y :: xs,u :: us,.cons r t,f=>fun u' hu=>by
  rw [List.all_cons,Bool.and_eq_true] at f
  rcases List.mem_cons.mp hu with rfl | hu
  ·rw [eqU_of r f.1]; exact eqAt_V r rx f.1 fx
  ·exact mem_eqAt rx fx t f.2 u' hu
def inV (x:V) (xs:List V):Bool:=xs.any fun y=>eqV y x
def rIn (K:PySem.W.Frag) (neg:Bool):R2:=fun x y H Q=>∃ p xs,y = .ref p∧(SqL K H p xs∨SqT K H p xs)∧flatV x = true∧xs.all flatV = true∧Q (.bl (if neg then !inV x xs else inV x xs)) H
theorem op_notIn_seq:OpR X (compareOp .NotIn) (rIn X.K true):=by
 intro pins s σ H x y v u Q I rx ry h
 obtain ⟨p,xs,rfl,hq,fx,fs,q⟩:=h
 cases ry
 rcases hq with hq | hq
 ·obtain ⟨its,r,pl,hz⟩:=I.list hq
  refine SeqAt.notIn_listAt (eqU x) pl.isList (fun w hw=>mem_eqAt rx fx r fs w (by simpa using hw)) ⟨.bl _,H,I,rfl,?_⟩
  rw [show its.toArray.any (eqU x) = its.any (eqU x) by simp,any_eqU r fs]
  exact q
 ·obtain ⟨its,r,pl,hz⟩:=I.tuple hq
  refine SeqAt.notIn_tupleAt (eqU x) pl (fun w hw=>mem_eqAt rx fx r fs w (by simpa using hw)) ⟨.bl _,H,I,rfl,?_⟩
  rw [show its.toArray.any (eqU x) = its.any (eqU x) by simp,any_eqU r fs]
  exact q
theorem call_len_seq:CallR X (.builtin "len") (fun xs H Q=>∃ p ys,xs = [.ref p]∧(SqL X.K H p ys∨SqT X.K H p ys)∧Q (.int ys.length) H):=by
 intro pins s σ H xs us Q I r h
 obtain ⟨p,ys,rfl,hq,q⟩:=h
 obtain ⟨u,rfl,rx⟩:=vals1 r
 cases rx
 have hn:=line63
 rcases hq with hq | hq
 ·obtain ⟨its,r',pl,hz⟩:=I.list hq
  have hlen:=r'.length
  exact Calls.call_len_list pl.isList (by simp only [List.size_toArray] <;> omega) ⟨.int ys.length,H,I.tok _,⟨s.toks + 1,by rw [List.size_toArray,hlen]⟩,q⟩
 ·obtain ⟨its,r',pl,hz⟩:=I.tuple hq
  have hlen:=r'.length
  exact len_tuple pl (by simp only [List.size_toArray] <;> omega) ⟨.int ys.length,H,I.tok _,⟨s.toks + 1,by rw [List.size_toArray,hlen]⟩,q⟩
theorem CallR.or {f:Value} {r r':List V→Hp→VK→Prop} (h:CallR X f r) (h':CallR X f r'):CallR X f (fun xs H Q=>r xs H Q∨r' xs H Q):=by
 intro pins s σ H xs us Q I rs q
 rcases q with q | q
 ·exact h pins s σ H xs us Q I rs q
 ·exact h' pins s σ H xs us Q I rs q
theorem call_list_of:CallR X (.type "list") (fun xs H Q=>∃ p ys,xs = [.ref p]∧(SqL X.K H p ys∨SqT X.K H p ys)∧∀ l,H l = none→Q (.ref l) (upd H l (.lst ys))):=by
 intro pins s σ H xs us Q I r h
 obtain ⟨p,ys,rfl,hq,q⟩:=h
 obtain ⟨u,rfl,rx⟩:=vals1 r
 cases rx
 have fin:∀ (its:List Value),Vals ys its→ys.length ≤ sizeLine→∀ (h':Heap) (c':Nat),(∀ b o',s.heap.get? b = some o'→h'.get? b = some o') →
   h'.get? s.heap.objs.size = some { cls:=.type "list",dict:=none,data:=.seq its.toArray c',slots:=#[] }→EP X pins σ Q (.ref s.heap.objs.size) { s with heap:=h' }:=fun its r' hz h' c' kp e =>
  ⟨.ref s.heap.objs.size,_,I.laid (t':=s.toks) kp (Nat.le_refl _) (show ObjOk X.prog X.w _ h' _ (.lst ys) from ⟨hz,its,c',r',e⟩),rfl,q _ (I.hok.fresh (Nat.le_refl _))⟩
 rcases hq with hq | hq
 ·obtain ⟨its,r',pl,hz⟩:=I.list hq
  have hlen:=r'.length
  obtain ⟨o,ho,hc,n,hd⟩:=pl.isList
  exact call_list_seq p (.inl rfl) ho hc hd (fun h' c' kp e=>fin its r' hz h' c' kp e) (by simp only [List.size_toArray] <;> omega)
 ·obtain ⟨its,r',pl,hz⟩:=I.tuple hq
  have hlen:=r'.length
  obtain ⟨o,ho,hc,n,hd⟩:=pl
  exact call_list_seq p (.inr rfl) ho hc hd (fun h' c' kp e=>fin its r' hz h' c' kp e) (by simp only [List.size_toArray] <;> omega)
def tyV (K:PySem.W.Frag) (T:String) (x:V) (H:Hp):Prop:=match x with
 | .str _=>T = "str"
 | .int _=>T = "int"
 | .ref p=>(T = "list" ∧ ∃ xs,SqL K H p xs)∨(T = "tuple" ∧ ∃ o,K.lookup p = some o∧o.cls = .type "tuple" ∧ o.dict = none) ∨
   (T = "dict" ∧ (∃ kvs,H p = some (.dK kvs)))∨(T = "set" ∧ ∃ S n,H p = some (.set S n))
 | _=>False
theorem tyV_is {pins:List (Addr × Obj)} {σ:St} {H:Hp} {s:Shared} {T:String} {x:V} {v:Value} (I:Inv X pins σ H s) (r:RelV x v) (ty:tyV X.K T x H) :
  s.TypeIs v T∧∀ a,v = .ref a→∃ ob,s.heap.get? a = some ob∧ob.dict = none:=by
 cases x with
 | str z =>
  obtain ⟨t,rfl⟩:=r
  cases (show T = "str" from ty)
  exact ⟨typeIs_str s z t,fun _ e=>nomatch e⟩
 | int i =>
  obtain ⟨t,rfl⟩:=r
  cases (show T = "int" from ty)
  exact ⟨typeIs_int s i t,fun _ e=>nomatch e⟩
 | ref p =>
  cases r
  rcases ty with ⟨rfl,xs,hq⟩ | ⟨rfl,o,hk,hc,hd⟩ | ⟨rfl,hk⟩ | ⟨rfl,S,n,hk⟩
  ·obtain ⟨its,_,pl,_⟩:=I.list hq
   refine ⟨pl.isList.typeIs,fun a e=>?_⟩
   cases e
   obtain ⟨o,n,e,c,hd,_⟩:=pl
   exact ⟨o,e,hd⟩
  ·refine ⟨⟨o,I.kIn p o hk,hc⟩,fun a e=>?_⟩
   cases e
   exact ⟨o,I.kIn _ o hk,hd⟩
  ·have z:∃ o,s.heap.get? p = some o∧o.ExactDict:=by
    obtain ⟨kvs,hk⟩:=hk
    obtain ⟨_,_,_,_,o,_,_,e,ex,_⟩:=I.hok p _ hk
    exact ⟨o,e,ex⟩
   obtain ⟨o,e,ex⟩:=z
   refine ⟨⟨o,e,ex.1⟩,fun a e2=>?_⟩
   cases e2
   exact ⟨o,e,ex.2.1⟩
  ·obtain ⟨o,_,_,_,e,ex,_⟩:=I.hok p _ hk
   refine ⟨⟨o,e,ex.1⟩,fun a e2=>?_⟩
   cases e2
   exact ⟨o,e,ex.2.1⟩
 | _=>exact False.elim ty
def tBM (K:PySem.W.Frag) (T:String) (r:V→List V→Hp→VK→Prop) (to:TE) (t:TA):TE:=fun σ H Q=>to σ H fun x H1=>tyV K T x H1∧t σ H1 fun xs H2=>r x xs H2 Q
variable {o e:Expr} {es:List Expr} {to:TE} {t:TA} {name:Str} {apos cpos:Pos} {T id:String} {r:V→List V→Hp→VK→Prop}
theorem pe_bm (pa:PlainAttrs T) (slot:Slot T name id) (hty:typeOf (.builtin id) = pure (.type "method_descriptor")) (hm:MtR X id r) (ho:PE X o to) (ha:PA X (e :: es) t)
  (hbase:attributeBase o name X.env (eval o X.env) = eval o X.env:=by rfl)
  (hfew:((backTo cpos (starEach (e :: es) X.env)).all (fun x=>!x.1) && (backToKw cpos (keywordEach [] X.env)).all (fun x=>x.1.isSome)
   && decide ((e :: es).length + ([] : List Keyword).length + (if ([] : List Keyword).isEmpty then 0 else 1) < 30)) = true:=by rfl)
  (hline:(apos.endLine == cpos.line) = true:=by rfl) (hs:starEach (e :: es) X.env = (false,eval e X.env) :: starEach es X.env:=by rfl) (hplain:(backTo cpos (starEach es X.env)).any (·.1) = false:=by rfl) :
  PE X (.Call (.Attribute o name apos) (e :: es) [] cpos) (tBM X.K T r to t):=by
 intro pins s σ H Q I h
 refine wpAny_Call_method_late hbase hfew hline rfl (thn (ho pins s σ H _ I h) fun v s1 ⟨x,H1,I1,r1,ty,q1⟩=>?_)
 obtain ⟨h1,h2⟩:=tyV_is I1 r1 ty
 refine ⟨T,id,pa,slot,hty,h1,h2,?_⟩
 have hA:=ha cpos pins s1 σ H1 _ I1 q1
 rw [hs] at hA ⊢
 refine Calls.callWith_builtin (by show (false || (backTo cpos (starEach es X.env)).any (·.1)) = false; rw [hplain] <;> rfl) (Calls.evalArgs_plain ?_)
 exact thn hA fun us s2 ⟨vs,H2,I2,r2,q2⟩=>hm pins s2 σ H2 x vs v us Q I2 r1 r2 q2
/- xs.append(e),list.index on a module's tuple .. are MtR facts of 06m -/
end
end L2
namespace L2
open PySem PySem.Spec PyProof.Rows
def MtM (X:Cx) (id:String) (r:V→List V→Hp→VK→Prop):Prop :=
 ∀ (pins:List (Addr × Obj)) (s:Shared) (σ:St) (H:Hp) (x:V) (xs:List V) (v:Value) (us:List Value) (Q:VK),Inv X pins σ H s→RelV x v→Vals xs us→r x xs H Q →
  wpAny (model X.prog X.w) X.A (call (.builtin id) (v :: us)) (EP X pins σ Q) X.xe s
theorem Vals.one:∀ {x:V} {us:List Value},Vals [x] us→∃ u,us = [u]∧RelV x u
 | _,_,.cons r .nil=>⟨_,rfl,r⟩
theorem Vals.two:∀ {x y:V} {us:List Value},Vals [x,y] us→∃ u v,us = [u,v]∧RelV x u∧RelV y v
 | _,_,_,.cons r (.cons q .nil)=>⟨_,_,rfl,r,q⟩
theorem Vals.rep {xs:List V} {us:List Value} (h:Vals xs us):∀ k:Nat,Vals (List.replicate k xs).flatten (List.replicate k us).flatten
 | 0=>.nil
 | k + 1=>by
  rw [List.replicate_succ,List.replicate_succ,List.flatten_cons,List.flatten_cons]
  exact Vals.append h (Vals.rep h k)
theorem foldl_rep (its:List Value):∀ (k:Nat) (acc:List Value),
  List.foldl (fun x1 x2=>x1 ++ x2) acc.toArray (List.replicate k its.toArray) = (acc ++ (List.replicate k its).flatten).toArray
 | 0,acc=>by simp
 | k + 1,acc=>by
  have e:acc.toArray ++ its.toArray = (acc ++ its).toArray:=by simp
  have e2:(acc ++ its) ++ (List.replicate k its).flatten = acc ++ (List.replicate (k + 1) its).flatten:=by
   rw [List.replicate_succ,List.flatten_cons,List.append_assoc]
  rw [← e2,← foldl_rep its k (acc ++ its),← e,List.replicate_succ,List.foldl_cons]
section
variable {X:Cx} {pins:List (Addr × Obj)} {σ:St} {H:Hp} {s:Shared} {l b:Addr} {xs ys zs:List V}
theorem Inv.lset {its its':List Value} {n:Nat} {f:Array Value→Array Value} {t':Nat} (I:Inv X pins σ H s) (hH:H l = some (.lst xs))
  (e:s.heap.get? l = some { cls:=.type "list",data:=.seq its.toArray n }) (hf:f its.toArray = its'.toArray) (hv:Vals ys its') (hz:ys.length ≤ sizeLine) :
  Inv X pins σ (upd H l (.lst ys)) { s with heap:=s.heap.update l (Obj.mapSeq f),toks:=t' }:=by
 have q:=PySem.IsL.update e f
 rw [hf] at q
 refine I.write (x:=l) (e:=l) (by rw [hH]; exact trivial) (.inl rfl) (fun b' u hb hu=>(Heap.get?_update_other s.heap (Obj.mapSeq f) (Ne.symm hb)).trans hu) ⟨_,q⟩ ?_
 exact ⟨hz,its',_,hv,q⟩
theorem Inv.lnew {its:List Value} {t':Nat} (I:Inv X pins σ H s) (hv:Vals ys its) (hz:ys.length ≤ sizeLine) :
  Inv X pins σ (upd H s.heap.objs.size (.lst ys)) { s with heap:=s.heap.push { cls:=.type "list",data:=.seq its.toArray },toks:=t' } :=
 I.laid (fun _ _ q=>Heap.get?_push_of_some _ q) (Nat.le_refl _) ⟨hz,its,0,hv,Heap.get?_push_size _ rfl⟩
theorem Inv.fresh (I:Inv X pins σ H s):H s.heap.objs.size = none:=I.hok.fresh (Nat.le_refl _)
theorem Inv.lstM (I:Inv X pins σ H s) (hH:H l = some (.lst xs)):xs.length ≤ sizeLine∧∃ (its:List Value) (n:Nat),Vals xs its∧xs.length = its.length∧s.heap.get? l = some { cls:=.type "list",data:=.seq its.toArray n }:=by
 obtain ⟨z,its,n,r,e⟩:=I.hok l _ hH
 exact ⟨z,its,n,r,r.length,e⟩
theorem notLongL {n:Nat} (h:n ≤ sizeLine):Builtin.List.listTooLong n = false:=by
 unfold Builtin.List.listTooLong
 exact decide_eq_false (by omega)
end
section
variable {X:Cx}
def rAppend:V→List V→Hp→VK→Prop:=fun x vs H Q=>∃ l xs y,x = .ref l∧vs = [y]∧H l = some (.lst xs)∧xs.length < sizeLine∧Q .non (upd H l (.lst (xs ++ [y])))
theorem mt_append:MtM X "list.append" rAppend:=by
 intro pins s σ H x vs v us Q I rx rv h
 obtain ⟨l,xs,y,rfl,rfl,hH,hz,q⟩:=h
 cases rx
 obtain ⟨u,rfl,ru⟩:=rv.one
 obtain ⟨z,its,n,r,hl,e⟩:=I.lstM hH
 refine call_meets F.slot_list_append ⟨_,e,rfl⟩ F.entry_list_append (F.args_list_append_2 _ _) (PySem.list_append l its.toArray n u (by rw [List.size_toArray]; omega)) ⟨e,?_⟩
 refine ⟨.non,_,I.lset (its':=its ++ [u]) hH e (by simp) (r.append (.cons ru .nil)) ?_,rfl,q⟩
 rw [List.length_append,List.length_singleton]
 omega
def rCat:R2:=fun x y H Q=>∃ l b xs zs,x = .ref l∧y = .ref b∧H l = some (.lst xs)∧H b = some (.lst zs)∧xs.length + zs.length ≤ sizeLine∧∀ p,H p = none→Q (.ref p) (upd H p (.lst (xs ++ zs)))
theorem op_cat:OpR X (binaryOp .Add) rCat:=by
 intro pins s σ H x y v u Q I rx ry h
 obtain ⟨l,b,xs,zs,rfl,rfl,hH,hB,hz,q⟩:=h
 cases rx
 cases ry
 obtain ⟨z,its,n,r,hl,e⟩:=I.lstM hH
 obtain ⟨z2,its2,n2,r2,hl2,e2⟩:=I.lstM hB
 refine PySem.P.add_list e e2 ?_ (by rw [List.size_toArray,List.size_toArray]; omega)
 have ea:its.toArray ++ its2.toArray = (its ++ its2).toArray:=by simp
 rw [ea]
 exact ⟨.ref _,_,I.lnew (t':=s.toks) (r.append r2) (by rw [List.length_append]; omega),rfl,q _ I.fresh⟩
def rRep:R2:=fun x y H Q=>∃ l k xs,x = .ref l∧y = .int k∧H l = some (.lst xs)∧-(2 ^ 63) ≤ k∧k < 2 ^ 63∧xs.length * k.toNat ≤ sizeLine ∧
 ∀ p,H p = none→Q (.ref p) (upd H p (.lst (List.replicate k.toNat xs).flatten))
theorem len_rep {α:Type} (xs:List α) (k:Nat):(List.replicate k xs).flatten.length = k * xs.length:=by
 induction k with
 | zero=>simp
 | succ k ih=>rw [List.replicate_succ,List.flatten_cons,List.length_append,ih,Nat.succ_mul,Nat.add_comm]
theorem op_rep:OpR X (binaryOp .Mult) rRep:=by
 intro pins s σ H x y v u Q I rx ry h
 obtain ⟨l,k,xs,rfl,rfl,hH,h1,h2,hz,q⟩:=h
 cases rx
 obtain ⟨t,rfl⟩:=ry
 obtain ⟨z,its,n,r,hl,e⟩:=I.lstM hH
 have hlen:its.toArray.size * k.toNat ≤ sizeLine:=by rw [List.size_toArray,← hl]; exact hz
 have hcap:¬ its.toArray.size * k.toNat > (2 ^ 63 - 1) / 8:=by
  have:(sizeLine:Nat) ≤ (2 ^ 63 - 1) / 8:=by decide
  omega
 have hfit:¬ (!Builtin.List.listFitsIndex k) = true:=by
  rw [fitsIndex_both h1 h2]
  exact Bool.false_ne_true
 have hlong:¬ Builtin.List.listTooLong (its.toArray.size * k.toNat) = true:=by
  rw [notLongL hlen]
  exact Bool.false_ne_true
 have hnew:List.foldl (fun x1 x2=>x1 ++ x2) #[] (List.replicate (if its.toArray.isEmpty = true then 0 else k.toNat) its.toArray) = (List.replicate k.toNat its).flatten.toArray:=by
  have f0:∀ m:Nat,List.foldl (fun x1 x2=>x1 ++ x2) #[] (List.replicate m its.toArray) = (List.replicate m its).flatten.toArray:=fun m=>by
   have:=foldl_rep its m []
   rw [List.nil_append] at this
   exact this
  rw [f0]
  cases its with
  | nil=>simp
  | cons a r'=>rw [if_neg (by simp)]
 refine wpAny_binaryOp_repeat_ref (T := "list") (U := "int") (by decide) ⟨_,e,rfl⟩ (fun s'=>typeIs_int s' k t) noFill_list_mul F.fills_int_mul F.slot_int_rmul repeat_list F.slot_int_index.lookup
  (call_meets F.slot_int_rmul (typeIs_int s k t) F.entry_int_rmul (F.args_int_rmul_2 _ _) (int___rmul___int_list k t l its.toArray n)
   ⟨e,rfl,⟨_,e,rfl⟩,call_meets F.slot_list_mul ⟨_,e,rfl⟩ F.entry_list_mul (F.args_list_mul_2 _ _) (AutoListH.list___mul___list_int_3 l its.toArray n k t hfit hcap hlong) ⟨e,?_⟩⟩)
 rw [hnew]
 exact ⟨.ref _,_,I.lnew (t':=s.toks) (r.rep k.toNat) (by rw [len_rep,Nat.mul_comm]; exact hz),rfl,q _ I.fresh⟩
end
section
variable {prog:Program} {w:World} {A:Around} {E:Value→Shared→Prop} {s:Shared}
end
section
variable {X:Cx}
end
end L2
namespace Att
open PySem PySem.W PySem.Calls PyProof.Rows
theorem ints_of_wellAll {P:Params} {h:Heap} : ∀ (ns:List Int) (vs:List Value),WellAll P h vs (ns.map WData.int)→IntsAre vs ns:=by
 intro ns
 induction ns with
 | nil =>
  intro vs w
  rw [List.map_nil] at w
  cases w
  exact .nil
 | cons n ns ih =>
  intro vs w
  rw [List.map_cons] at w
  cases w with
  | cons a b =>
   cases a
   exact .cons _ _ (ih _ b)
theorem script_of {l:OpenLaw} {n:Nat} (hn:l.most = some n) {P:Params} {h:Heap} {args:List WData} {vals:List Value}
  (hpre:l.row.toRowW.claim.pre args = true) (hwl:WellAll P h vals args) :
  ∃ a vs ns,vals = [Value.ref a]∧args = [WData.list (ns.map WData.int)]∧h.get? a = some { cls:=.type "list",data:=.seq vs.toArray }∧IntsAre vs ns∧ns.length ≤ n:=by
 have hsh:WShape.hasAll [] args [.list .int] = true:=(pre_splitW hpre).1
 have hc:l.pre.holds [] { args:=args } = true:=(pre_splitW hpre).2
 obtain ⟨d,r,rfl,h1,h2⟩:=hasAllW_cons hsh
 obtain rfl:=hasAllW_nil h2
 obtain ⟨xs,rfl,h3⟩:=hasW_list h1
 obtain ⟨ns,rfl⟩:=items_int h3
 have hlen:ns.length ≤ n:=by
  unfold OpenLaw.pre at hc
  have h4:(WTm.not (.lt (.lit (.int (n:Int))) (.len (.arg 0)))).holds [] { args:=[.list (ns.map .int)] } = true:=by
   have h4:=(holds_andW hc).1
   rw [hn] at h4
   exact h4
  have h5:=condW_of h4 (w_not (w_lt w_lit (w_len_list (w_arg rfl))))
  rw [List.length_map] at h5
  refine Nat.le_of_not_lt fun q=>?_
  have q':(n:Int) < ((ns.length:Nat):Int):=by omega
  first
   | (rw [decide_eq_true q'] at h5; exact absurd h5 (by decide))
   | (simp at h5; omega)
 cases hwl with
 | cons w1 w2 =>
  cases w2
  cases w1 with
  | list ho hall=>exact ⟨_,_,ns,rfl,rfl,ho,ints_of_wellAll ns _ hall,hlen⟩
theorem post_true (l:OpenLaw) (args:List WData):l.row.toRowW.claim.post args (.bool true) args = true :=
 postW_of (r:=l.row.toRowW) (X:=(true == true))
  (show WShape.has [] (.bool true) .bool = true by first | rfl | decide | simp [WShape.has,WShape.arms,WShape.armsAll])
  (show (WTm.eq .res (.lit (.bool true))).value [] { args:=args,res:=some (.bool true),after:=args } = some (.bool (true == true)) from w_eq_bool (w_res rfl) w_lit) rfl
theorem attach_call {l:OpenLaw} {n:Nat} {q:Program} {loose:List Str} {XP:(Str→Option Value)→Heap→Prop} {YP:World→Heap→Prop} {d:DefRec}
  (hn:l.most = some n) (hdf:d.params.defaults = [])
  (call:∀ (w:World) (s₀ s₁:Shared) (mg mb:Str→Option Value) (fa:Addr) (o:Obj) (pm cd doc:Value) (a:Addr) (vs:List Value) (ns:List Int),
   Ground q loose [] XP w s₀ mg mb s₁.heap→YP w s₁.heap →
   s₁.heap.get? fa = some o→o.data = .func (docDef d.name d.params d.body d.scope pm cd doc)→s₁.heap.CodeRec cd d.name→mg d.name = some (.ref fa) →
   s₁.heap.get? a = some { cls:=.type "list",data:=.seq vs.toArray }→IntsAre vs ns→ns.length ≤ n→s₁.gens = #[] →
   codeAny (model l.prog w) callerA (.call (.ref fa) ⟨[.ref a],[]⟩) (fun r s'=>r = .ok (.ret (.bool true))∧OldK s₁.heap s'.heap∧s'.os = s₁.os∧AllBare s'.gens) s₁) :
  WalkO q loose XP YP l.row.toRowW d [] (fun f vs=>PySem.call f vs):=by
 intro w s₀ s₁ mg mb G Y fa o pm cd doc dV kV ho hd hcd hD hmg hg args vals as hpre hlay hrd hwl hlo
 obtain rfl:dV = .none:=Dflts.none hD hdf
 obtain rfl:kV = .none:=Dflts.noKw hD
 obtain ⟨a,vs,ns,rfl,rfl,hobj,hints,hlen⟩:=script_of hn hpre hwl
 refine enter_call (codeAny_mono (call w s₀ s₁ mg mb fa o pm cd doc a vs ns G Y ho (fd_plain hd) hcd hmg hobj hints hlen hg) fun r s' hq=>?_)
 obtain ⟨rfl,h2,h3,h4⟩:=hq
 exact ⟨.inl ⟨.bool true,.bool true,[],rfl,fun _=>rfl,.bool true,post_true l _,fun _=>⟨List.Pairwise.nil,fun _ hm=>(nomatch hm)⟩⟩,h2,h3,h4⟩
section
variable {prog:Program} {w:World} {A:Around} {E:Value→Shared→Prop} {s:Shared} {K:Frag}
end
end Att
namespace L2
open PySem PySem.Spec PyProof.Rows
theorem vals_ints:∀ {vs:List Value} {ns:List Int},IntsAre vs ns→Vals (ns.map V.int) vs
 | _,_,.nil=>.nil
 | _,_,.cons n t h=>.cons ⟨t,rfl⟩ (vals_ints h)
def Only (H:Hp):Prop:=∀ b,H b = none∨∃ o xs,H b = some (.frz o (.lst xs))
theorem law_call {P:Program} {w:World} {K:PySem.W.Frag} {mg mb:Str→Option Value} {CX:CXT} {k:Nat} {fa a:Addr} {fd:FuncData} {x:Str} {sp:Sp} {s₁:Shared} {vs:List Value} {ns:List Int}
  (KX:K.In s₁.heap) (hns:s₁.heap.Ns mainGlobals mg) (hb:s₁.heap.Ns builtinsNs mb) (hbb:∀ x:Str,x ≠ "__name__" → mb x = bootBuiltins x) (hlim:s₁.heap.NoLimit) (hg:s₁.gens = #[])
  (ha:s₁.heap.get? a = some { cls:=.type "list",data:=.seq vs.toArray }) (hi:IntsAre vs ns) (hl:ns.length ≤ sizeLine) (hr:Room k callerA)
  (F:∀ base:Heap,K.In base→base.Ns mainGlobals mg→FnOk P w K mg base CX k fa fd [x] sp) (hbind:∀ (s:Shared) (u:Value),BindsTo s fd ⟨[u],[]⟩ [(x,u)])
  (hsp:∀ H:Hp,Only H→SqL K H a (ns.map V.int)→sp [.ref a] H (fun v _=>v = .bl true) fun _ _ _=>False)
  (hCX:∀ H e s',CX [] H s₁ (fun _ _ _=>False) e s'→False) :
  codeAny (model P w) callerA (.call (.ref fa) ⟨[.ref a],[]⟩) (fun r s'=>r = .ok (.ret (.bool true))∧OldK s₁.heap s'.heap∧s'.os = s₁.os∧AllBare s'.gens) s₁:=by
 have rv:=vals_ints hi
 have lenV:=hi.length
 -- from an abstract heap in which nothing but the script may be tracked
 have core:∀ H:Hp,Only H→SqL K H a (ns.map V.int)→HOk P w H s₁.heap→(∀ b,H b ≠ none→b = a)→(H a ≠ none→K.lookup a = none) →
   codeAny (model P w) callerA (.call (.ref fa) ⟨[.ref a],[]⟩) (fun r s'=>r = .ok (.ret (.bool true))∧OldK s₁.heap s'.heap∧s'.os = s₁.os∧AllBare s'.gens) s₁:=by
  intro H hO hS hok hA hK
  have base_of:∀ {b:Addr} {o:Obj},s₁.heap.get? b = some o→H b = none→(hidT s₁.heap H).get? b = some o:=fun e n=>hidT_get e n
  have noA:∀ {b:Addr} {o:Obj} {es:Array DictEntry} {ep:Nat},s₁.heap.get? b = some o→o.data = .dict es ep→H b = none:=fun {b o es ep} e d=>by
   cases q:H b with
   | none=>rfl
   | some u =>
    have e':b = a:=hA b (by rw [q]; simp)
    subst e'
    rw [ha] at e; cases e
    have d':Data.seq vs.toArray _ = Data.dict es ep:=d
    cases d'
  have nsK:∀ {b:Addr} {m:Str→Option Value},s₁.heap.Ns b m→(hidT s₁.heap H).Ns b m:=fun {b m} ⟨o,es,ep,e,d,r⟩=>⟨o,es,ep,base_of e (noA e d),d,r⟩
  have hKb:K.In (hidT s₁.heap H):=fun b o e=>base_of (KX b o e) (by
   cases q:H b with
   | none=>rfl
   | some u =>
    have e':b = a:=hA b (by rw [q]; simp)
    subst e'
    rw [hK (by rw [q]; simp)] at e; cases e)
  have hM:Mod K mg (hidT s₁.heap H):=⟨hKb,nsK hns,⟨mb,nsK hb,hbb⟩,let ⟨mc,h1,h2⟩:=hlim; ⟨mc,nsK h1,h2⟩⟩
  have e0:Env0 P w K mg (hidT s₁.heap H) callerA [] s₁ H:=⟨rfl,hM,fun b o e=>of_hidT e,Nat.le_of_eq (hidT_size _ _),trivial,fun b hb=>absurd (show b ∈ ([] : List Addr) from hb) (by simp),hok,.of_eq hg⟩
  refine codeAny_mono ((F _ hKb (nsK hns)).run callerA [] s₁ H ⟨[.ref a],[]⟩ [.ref a] [.ref a] _ _ hr e0 (hbind s₁ (.ref a)) (.cons rfl .nil) (hsp H hO hS)) fun r s' h=>?_
  cases r with
  | error e=>exact (hCX H e s' h).elim
  | ok fl =>
   cases fl with
   | next=>exact False.elim h
   | brk=>exact False.elim h
   | cont=>exact False.elim h
   | ret u =>
    obtain ⟨v,H',os,bare,un,hok',r',q⟩:=h
    have q':v = .bl true:=q
    subst q'
    obtain rfl:u = Value.bool true:=r'
    refine ⟨rfl,OldK.of_keep fun b o e=>?_,os,bare⟩
    cases q:H b with
    | none=>exact un.keep b o e q (by intro z; exact absurd (show b ∈ ([] : List Addr) from z) (by simp)) (by simp)
    | some u =>
     rcases hO b with z | ⟨ob,xs,z⟩
     ·rw [q] at z; cases z
     ·have z2:=un.frzs b ob _ z
      obtain ⟨e1,_⟩:=hok b _ z
      obtain ⟨e2,_⟩:=hok' b _ z2
      rw [e] at e1; cases e1
      exact e2
 cases hk:K.lookup a with
 | some o =>
  -- the script is one of the module's own objects
  have e:=KX a o hk
  rw [ha] at e
  cases e
  refine core (fun _=>none) (fun _=>.inl rfl) (.inr ⟨_,vs.toArray,_,hk,rfl,rfl,rfl,by rw [List.size_toArray,lenV]; exact hl,by simpa using rv⟩) (fun b u z=>by have z':(none:Option HO) = some u:=z; cases z') (fun b z=>absurd rfl z) fun z=>absurd rfl z
 | none =>
  refine core (fun b=>if b = a then some (.frz { cls:=.type "list",data:=.seq vs.toArray } (.lst (ns.map V.int))) else none) (fun b=>?_) (.inl (.inr ⟨{ cls:=.type "list",data:=.seq vs.toArray },if_pos rfl⟩)) (fun b u z=>?_) (fun b z=>?_) fun _=>hk
  ·by_cases hb:b = a
   ·exact .inr ⟨_,_,if_pos hb⟩
   ·exact .inl (if_neg hb)
  ·by_cases hb:b = a
   ·have z':=(if_pos hb).symm.trans z
    cases z'
    subst hb
    exact ⟨ha,by rw [List.length_map]; exact hl,vs,_,rv,ha⟩
   ·have z':=(if_neg hb).symm.trans z
    cases z'
  ·by_cases hb:b = a
   ·exact hb
   ·exact absurd (if_neg hb) z
end L2
namespace L2
open PySem PySem.Spec PyProof.Rows
abbrev KOf {K:PySem.W.Frag} {h:Heap} (_:K.In h):PySem.W.Frag:=K
theorem walk_of {l:PySem.W.OpenLaw} {n k:Nat} {q:Program} {loose:List Str} {XP:(Str→Option Value)→Heap→Prop} {YP:World→Heap→Prop} {d:DefRec} {K:Params→PySem.W.Frag} {CX:World→CXT} {sp:World→Sp} {x:Str}
  (hn:l.most = some n) (hn2:n ≤ sizeLine) (hdf:d.params.defaults = []) (hr:Room k callerA)
  (hY:∀ (w:World) (h:Heap),YP w h→(K w.params).In h)
  (F:∀ (w:World) (mg:Str→Option Value) (fa:Addr) (h:Heap),(K w.params).In h→h.Ns mainGlobals mg→mg d.name = some (.ref fa) →
   ∃ fd:FuncData,(∀ (s:Shared) (u:Value),BindsTo s fd ⟨[u],[]⟩ [(x,u)]) ∧
    ∀ base:Heap,(K w.params).In base→base.Ns mainGlobals mg→FnOk l.prog w (K w.params) mg base (CX w) k fa fd [x] (sp w))
  (hsp:∀ (w:World) (H:Hp) (a:Addr) (ns:List Int),ns.length ≤ n→Only H→SqL (K w.params) H a (ns.map V.int)→sp w [.ref a] H (fun v _=>v = .bl true) fun _ _ _=>False)
  (hCX:∀ (w:World) (H:Hp) (s:Shared) (e:Value) (s':Shared),CX w [] H s (fun _ _ _=>False) e s'→False) :
  PySem.W.WalkO q loose XP YP l.row.toRowW d [] (fun f vs=>PySem.call f vs):=by
 refine Att.attach_call hn hdf fun w s₀ s₁ mg mb fa o pm cd doc a vs ns G Y ho hd hcd hmg hobj hints hlen hg=>?_
 have KX:=hY w _ Y
 obtain ⟨fd,hb,hF⟩:=F w mg fa _ KX G.T.g hmg
 exact law_call KX G.T.g G.T.b G.T.builtins G.T.nolimit hg hobj hints (Nat.le_trans hlen hn2) hr hF hb (fun H hO hS=>hsp w H a ns hlen hO hS) fun H e s'=>hCX w H s₁ e s'
end L2
/- THE LAST THEOREM (shape; LID,My.* are yours):
   My.Adr: a structure of the addresses that your layer names (classes,functions); My.Txt K t: a structure (Prop) of the equations over K;
   My.txt_mk : {K} {implicit addresses ..} (e1:nsIn K mainGlobals "law" = some (some (.ref f))) (e2:K.lookup f = some ⟨oc,od,.func (fnOf "law" "law" params body scope dV kV doc pm an cdv ct),sl⟩) (e3:codeIn K cdv "law" = true) .. : ∃ t,My.Txt K t
set_option maxRecDepth 100000 in
set_option maxHeartbeats 0 in
theorem PySem.Challenge.cw_LID_holds : PySem.Challenge.rw_LID.Holds := by
 w_on; o_law; k_head; (case hw=>w_witness2)
 k_fill
 refine L2.walk_of (l:=PySem.Challenge.rw_LID) (n:=63) (k:=40) (x := "script") (CX:=fun w=>..) (sp:=fun _=>My.sp_law) rfl (by decide) rfl ⟨rfl,by decide,by decide⟩ (fun w h Y=>PySem.W.kIn_of Y) ?F ?S ?C
 case F =>
  intro w mg fa h KX G hmg
  have T:∃ t,My.Txt (L2.KOf KX) t:=by
   dsimp only [L2.KOf]                          -- K must stand as «<heap const> w.params» for k_is
   refine' My.txt_mk ?e1 ?e2 ?e3 ..
   (case e1=>PySem.W.k_is)                    -- in the order: a name -> its address -> its object -> its parts
   (case e2=>PySem.W.k_is)
   ..
  obtain ⟨t,T⟩:=T
  have e0:=hmg.symm.trans (PySem.W.mg_of KX G T.law)
  cases e0                                       -- fa is the law's own address
  exact ⟨_,fun s u=>.of_eq rfl,fun base kb nb=>My.law_fn T kb nb⟩     -- if «.of_eq rfl» comes too early: refine' ⟨_,?b,fun base kb nb=>My.law_fn T kb nb⟩; exact fun s u=>.of_eq rfl
 case S=>exact fun w H a ns hl hO hS=>..
 case C=>exact ..
(the tactic k_is has no namespace: write k_is) -/
namespace L2
open PySem PySem.Spec PyProof.Rows
def defArgs (s:Stmt):Arguments:=match s with
 | .FunctionDef _ a _ _ _ _ _ _ _ _=>a
 | _=>{ posonlyargs:=[],args:=[],vararg:=none,kwonlyargs:=[],kw_defaults:=[],kwarg:=none,defaults:=[] }
def defBody (s:Stmt):List Stmt:=match s with
 | .FunctionDef _ _ b _ _ _ _ _ _ _=>b
 | _=>[]
def defScope (s:Stmt):Scope:=match s with
 | .FunctionDef _ _ _ _ _ _ sc _ _ _=>sc
 | _=>{ kind:=.function,names:=[],isGenerator:=false,isCoroutine:=false }
abbrev CX0:CXT:=fun _ _ _ _ _ _=>False
abbrev E0:XK:=fun _ _ _=>False
theorem pass0 {X:Cx} : Passes CX0 X E0:=fun _ _ _ _ _ _ _ h=>h.elim
structure Fun (K:PySem.W.Frag) (x qual:Str) (st:Stmt) (f:Addr) (fd:FuncData):Prop where
 ex:∃ (oc:Value) (od:Option Addr) (kV doc pm:Value) (an:Option Addr) (cdv ct:Value) (osl:Array (Option Value)),
  fd = PySem.W.fnOf x qual (defArgs st) (defBody st) (defScope st) .none kV doc pm an cdv ct∧K.lookup f = some ⟨oc,od,.func fd,osl⟩∧PySem.W.codeIn K cdv qual = true
 kp:PySem.W.keepIn K (.ref f) = true
section
variable {P:Program} {w:World} {K:PySem.W.Frag} {mg:Str→Option Value} {base:Heap}
theorem Fun.ok {x qual:Str} {st:Stmt} {f:Addr} {fd:FuncData} {N ps:List Str} {k:Nat} {sp:Sp} (F:Fun K x qual st f fd) (S:FnScope N ps (defScope st)) (len:∀ vs H Q E,sp vs H Q E→vs.length = ps.length)
  (hbody:∀ (cdv:Value) (A:Around) (outer:List Env) (s:Shared) (H:Hp) (vs:List V) (Q:VK) (E:XK),Room k (A.deeper (envOfC qual (defScope st) s.heap.objs.size f cdv))→sp vs H Q E →
   ∃ t,PSs (cxOf CX0 P w K mg base N qual (defScope st) f cdv A outer s H E).nox (defBody st) t∧t { nx:=fun _ H'=>Q .non H',rt:=Q } (start N vs) H):FnOk P w K mg base CX0 (k + 1) f fd ps sp:=by
 obtain ⟨oc,od,kV,doc,pm,an,cdv,ct,osl,rfl,lk,hcd⟩:=F.ex
 refine fn_of lk hcd S len fun A outer s H vs Q E hr hsp=>?_
 obtain ⟨t,h,q⟩:=hbody cdv A outer s H vs Q E hr hsp
 exact ⟨t,h.nox,q⟩
theorem fun_mk {x qual:Str} {st:Stmt} {f:Addr} {oc:Value} {od an:Option Addr} {osl:Array (Option Value)} {kV doc pm cdv ct:Value} (l:K.lookup f = some ⟨oc,od,.func (PySem.W.fnOf x qual (defArgs st) (defBody st) (defScope st) .none kV doc pm an cdv ct),osl⟩)
  (c:PySem.W.codeIn K cdv qual = true) (k:PySem.W.keepIn K (.ref f) = true):Fun K x qual st f (PySem.W.fnOf x qual (defArgs st) (defBody st) (defScope st) .none kV doc pm an cdv ct):=⟨⟨oc,od,kV,doc,pm,an,cdv,ct,osl,rfl,l,c⟩,k⟩
end
section
variable {X:Cx}
theorem pv (i:Nat) {x:Str} {pos:Pos} (hN:X.N[i]? = some x:=by rfl) (hv:Vis X.env.scope x:=by first | exact Or.inl rfl | exact Or.inr (Or.inl rfl) | exact Or.inr (Or.inr rfl)) (hd:(x == ("__debug__" : Str)) = false:=by decide)
  (hcd:(x == ("__classdict__" : Str)) = false:=by decide):PE X (.Name x pos) (tVar i):=pe_var hN hv hd hcd
end
theorem ite2 {c A B:Prop} [Decidable c] (h1:c→A) (h2:¬ c→B):if c then A else B:=by
 by_cases h:c
 ·rw [if_pos h]
  exact h1 h
 ·rw [if_neg h]
  exact h2 h
def Same (H H':Hp):Prop:=∀ b o,H b = some o→H' b = some o
theorem Same.refl (H:Hp):Same H H:=fun _ _ h=>h
theorem Same.trans {H H1 H2:Hp} (a:Same H H1) (b:Same H1 H2):Same H H2:=fun c o h=>b c o (a c o h)
theorem Same.free {H H':Hp} (e:Same H H') {l:Addr} (h:H' l = Option.none):H l = Option.none:=by
 cases q:H l with
 | none=>rfl
 | some o =>
  rw [e l o q] at h
  cases h
end L2
set_option Elab.async false
set_option linter.all false
set_option maxRecDepth 100000
set_option maxHeartbeats 4000000
namespace L2
open PySem PySem.Spec PyProof.Rows
def Bd (i:Int):Prop:=i.natAbs < 2 ^ 8000
theorem Bd.log2 {i:Int} (h:Bd i):i.natAbs.log2 < 8000:=by
 by_cases h0:i.natAbs = 0
 ·rw [h0,Nat.log2_zero]; omega
 ·exact (Nat.log2_lt h0).mpr h
theorem Bd.bits {i:Int} (h:Bd i):Builtin.Int.intBits i ≤ 2 ^ 20:=by
 have e:(2:Nat) ^ 20 = 1048576:=by decide
 have:=h.log2
 unfold Builtin.Int.intBits
 split
 ·exact Nat.zero_le _
 ·omega
section
variable {X:Cx}
theorem op_mulB:OpR X (binaryOp .Mult) (rI (fun i j=>Bd i∧Bd j) fun i j=>.int (i * j)):=opI fun _ _ _ _ _ _ _ hc q=>mul_int q (.of_bits hc.1.bits hc.2.bits)
theorem op_fdivB:OpR X (binaryOp .FloorDiv) (rI (fun _ j=>j ≠ 0∧Bd j) fun i j=>.int (i.fdiv j)):=opI fun _ _ _ _ _ _ _ hc q=>floordiv_int hc.1 q (.inl (PyProof.noPylong_of_log2 (by have:=hc.2.log2; omega)))
theorem call_isinst:CallR X (.builtin "isinstance") (fun xs H Q=>∃ x c cv t b,xs = [x,c]∧((∃ T,c = .ty T∧cv = Value.type T)∨∃ C,c = .ref C∧cv = Value.ref C)∧TyOf X.K H x t∧PySem.W.kitOne X.K t cv = some b∧Q (.bl b) H):=by
 intro pins s σ H xs us Q I r h
 obtain ⟨x,c,cv,t,b,rfl,rc,ty,e,q⟩:=h
 obtain ⟨u,v,rfl,ru,rv⟩:=r.two
 have e2:v = cv:=by
  rcases rc with ⟨T,rfl,rfl⟩ | ⟨T,rfl,rfl⟩
  ·exact rv
  ·exact rv
 subst e2
 exact isinst_ok I ru ty e fun tk=>⟨.bl b,H,I.tok _,rfl,q⟩
theorem call_sorted:CallR X (.builtin "sorted") (fun xs H Q=>∃ l ns,xs = [.ref l]∧SqL X.K H l (ns.map V.int)∧ns.length < 64∧∀ (ms:List Int) p,H p = none→ms.Perm ns→ms.Pairwise (· ≤ ·)→Q (.ref p) (upd H p (.lst (ms.map V.int)))):=by
 intro pins s σ H xs us Q I r h
 obtain ⟨l,ns,rfl,hl,h64,q⟩:=h
 obtain ⟨u,rfl,ru⟩:=r.one
 cases ru
 obtain ⟨its,rv,p,hz⟩:=I.list hl
 have hI:=intsAre_of rv
 have hlen:its.length = ns.length:=by have:=rv.length; simpa using this.symm
 refine sorted_ints (vs:=its) p.isList hI (by omega) fun out ns' a1 a2 a3=>?_
 obtain ⟨e,he⟩:=sortedAll_at s.heap its out
 have hfr:H (s.heap.objs.size + 1) = none:=I.hok.fresh (Nat.le_succ _)
 refine ⟨.ref _,_,I.laid (a:=s.heap.objs.size + 1) (o:=.lst (ns'.map V.int)) (t':=s.toks) (fun b u e=>sortedAll_old e) (Nat.le_succ _) ?_,rfl,q ns' _ hfr a2 a3⟩
 refine ⟨?_,out.toList,e,vals_ints a1,he⟩
 rw [List.length_map,a2.length_eq]
 rw [List.length_map] at hz
 exact hz
end
section
variable {prog:Program} {w:World} {A:Around} {E:Value→Shared→Prop} {s:Shared}
theorem draw_list {it t:Addr} {items:Array Value} (hne:t ≠ it):∀ (n i:Nat) (s:Shared) (Q:List Value→Shared→Prop),s.heap.IsListIter it t i→PlainL s.heap t items→i + n ≤ items.size →
  (∀ h',h'.IsListIter it t (i + n)→Heap.SameBut it s.heap h'→Q ((items.toList.drop i).take n) { s with heap:=h' })→wpAny (model prog w) A (draw (.ref it) n) Q E s
 | 0,i,s,Q,hit,_,_,hQ=>by
  show wpAny _ _ (pure []) Q E s
  exact wpAny_pure (by simpa using hQ s.heap hit (Heap.SameBut.refl ..))
 | n + 1,i,s,Q,hit,ht,hle,hQ=>by
  have hlt:i < items.size:=by omega
  show wpAny _ _ (pyNext (.ref it) >>= _) Q E s
  refine wpAny_bind (wpAny_pyNext_list_item hit ht.isList (x:=items[i]) (by simp [hlt]) fun h₁ hit₁ hs₁=>?_)
  have ht₁:PlainL h₁ t items:=by
   obtain ⟨o,k,e,r⟩:=ht
   exact ⟨o,k,(hs₁.2 t hne).trans e,r⟩
  refine wpAny_bind (wpAny_holding (draw_list hne n (i + 1) _ _ hit₁ ht₁ (by omega) fun h₂ hit₂ hs₂=>wpAny_pure ?_))
  have hd:items.toList.drop i = items[i] :: items.toList.drop (i + 1):=by simp [List.drop_eq_getElem_cons,hlt]
  have:=hQ h₂ (by rw [show i + (n + 1) = i + 1 + n by omega]; exact hit₂) (hs₁.trans hs₂)
  rw [hd,List.take_succ_cons] at this
  exact this
theorem unpackItems_list {t:Addr} {items:Array Value} {Q:List Value→Shared→Prop} (hh:A.handled = none) (ht:PlainL s.heap t items)
  (hQ:∀ h',Heap.ExtBut s.heap.objs.size s.heap h'→Q items.toList { s with heap:=h' }):wpAny (model prog w) A (unpackItems (.ref t) items.size none) Q E s:=by
 have hlt:t ≠ s.heap.objs.size:=by obtain ⟨o,_,ho,_⟩:=ht; exact Nat.ne_of_lt (Heap.lt_size ho)
 unfold unpackItems
 refine wpAny_bind ?_
 ·unfold notIterableAtAll
  refine wpAny_bind (wpAny_specialOf ht.isList.typeIs slot_list_iter.lookup ?_)
  refine wpAny_pure ?_
  simp only [Bool.false_eq_true,if_false]
  refine wpAny_bind (wpAny_holding (wpAny_pyIter_list ht.isList ?_))
  have ht0:PlainL (s.heap.push { cls:=.type "list_iterator",data:=.fields #[.ref t,.int 0 0] }) t items:=by
   obtain ⟨o,k,e,r⟩:=ht
   exact ⟨o,k,Heap.get?_push_of_some _ e,r⟩
  refine wpAny_bind (wpAny_holding (draw_list hlt items.size 0 _ _ ⟨_,Heap.get?_push_size _ rfl,rfl,rfl⟩ ht0 (by omega) fun h₁ hit₁ hs₁=>?_))
  have hall:List.take items.size (List.drop 0 items.toList) = items.toList:=by
   rw [List.drop_zero]; exact List.take_of_length_le (by simp)
  rw [hall]
  rw [if_neg (by simp)]
  have ht₁:PlainL h₁ t items:=by
   obtain ⟨o,k,e,r⟩:=ht0
   exact ⟨o,k,(hs₁.2 t hlt).trans e,r⟩
  refine wpAny_bind (wpAny_holding (wpAny_pyNext_list_end hh hit₁ ht₁.isList (by simp) fun h₂ he₂=>?_))
  simp only [Option.isSome_none,Bool.false_eq_true,if_false]
  refine wpAny_pure (hQ h₂ fun b o hb e=>he₂ b o hb (hs₁.extBut b o hb (Heap.get?_push_of_some _ e)))
theorem assign_Tuple_list {env:Env} {elts:List Expr} {x1} {pos:Pos} {t:Addr} {items:Array Value} {Q:Unit→Shared→Prop} (hh:A.handled = none) (ht:PlainL s.heap t items)
  (hn:(assignEach elts env).length = items.size) (hstar:(assignEach elts env).findIdx? (·.1) = none)
  (h:∀ h',Heap.ExtBut s.heap.objs.size s.heap h'→wpAny (model prog w) A (assignInOrder ((assignEach elts env).map (·.2)) items.toList) Q E { s with heap:=h' }) :
  wpAny (model prog w) A (assign (.Tuple elts x1 pos) env (.ref t)) Q E s:=by
 rw [assign_Tuple]
 refine wpAny_bind (wpAny_standAt ?_)
 unfold unpack
 rw [hn,hstar]
 exact wpAny_bind (wpAny_holding (unpackItems_list hh ht h))
end
section
variable {X:Cx} {pos:Pos}
def gTupL (K:PySem.W.Frag) (n:Nat) (t:TGs):TG:=fun v σ H Q=>∃ a xs,v = .ref a∧SqL K H a xs∧xs.length = n∧t xs σ H Q
theorem pg_tupL {es:List Expr} {k:Nat} {t:TGs} {n:Nat} (hc:X.calm = true) (h:PGs X es t)
  (hn:(assignEach es X.env).length = n:=by rfl) (hst:(assignEach es X.env).findIdx? (·.1) = none:=by rfl):PG X (.Tuple es k pos) (gTupL X.K n t):=by
 intro pins s σ H v u Q I r hw
 obtain ⟨a,xs,e1,hq,hl,hw⟩:=hw
 subst e1
 cases r
 obtain ⟨its,rv,ht,hz⟩:=I.list hq
 refine assign_Tuple_list (I.ok.hd hc) ht (by simp [hn,← hl,rv.length]) hst fun h' hx=>?_
 have I1:Inv X pins σ H { s with heap:=h' }:=I.kept (t':=s.toks) fun b o e=>hx b o (Nat.ne_of_lt (Heap.lt_size e)) e
 exact h pins _ σ H xs _ Q I1 (by simpa using rv) hw
end
theorem ObjOk.btw {P:Program} {w:World} {H H2 H':Hp} {h h':Heap} {a:Addr} {o:HO} (x:ObjOk P w H h a o) (y:ObjOk P w H' h' a o) (s1:Same H H2):ObjOk P w H2 h' a o:=by
 induction o with
 | ins C dx fs=>exact ⟨s1 dx _ x.1,y.2⟩
 | frz ob u ih=>exact ⟨y.1,ih x.2 y.2⟩
 | _=>exact y
def Plus (H H2:Hp):Prop:=Same H H2∧∀ a o,H2 a = some o→H a = some o∨(∃ xs,o = .tup xs)∨∃ xs,o = .lst xs
theorem Plus.refl (H:Hp):Plus H H:=⟨Same.refl H,fun _ _ e=>.inl e⟩
theorem FnOk.forget {P:Program} {w:World} {K:PySem.W.Frag} {mg:Str→Option Value} {base:Heap} {CX:CXT} {k:Nat} {f:Addr} {fd:FuncData} {ps:List Str} {sp sp':Sp} (F:FnOk P w K mg base CX k f fd ps sp)
  (hs:∀ vs H Q E,sp' vs H Q E→∃ Q',sp vs H Q' E∧∀ v H',Q' v H'→∃ H2,Plus H H2∧Same H2 H'∧Q v H2):FnOk P w K mg base CX k f fd ps sp':=by
 refine ⟨fun vs H Q E h=>?_,fun A outer s H args us vs Q E hr e0 hb r h=>?_⟩
 ·obtain ⟨Q',h',_⟩:=hs vs H Q E h
  exact F.len vs H Q' E h'
 obtain ⟨Q',h',hq⟩:=hs vs H Q E h
 refine codeAny_mono (F.run A outer s H args us vs _ E hr e0 hb r h') fun res s' hs=>?_
 cases res with
 | error e=>exact hs
 | ok fl =>
  cases fl with
  | ret u =>
   obtain ⟨v,H',ho,hbr,un,hok,rv,q'⟩:=hs
   obtain ⟨H2,⟨s1,cl⟩,s2,q⟩:=hq v H' q'
   have fr:∀ b,H' b = none→H2 b = none:=fun b e=>s2.free e
   refine ⟨v,H2,ho,hbr,⟨un.keep,un.slot,fun b o e n hx=>fr b (un.free b o e n hx),un.there,fun b xs e=>s1 b _ e,fun b o u e=>s1 b _ e,fun b ps e=>⟨#[],by rw [s1 b _ e]; simp⟩⟩,fun a o e=>?_,rv,q⟩
   have z:=hok a o (s2 a o e)
   rcases cl a o e with c | ⟨xs,rfl⟩ | ⟨xs,rfl⟩
   ·exact (e0.hok a o c).btw z s1
   ·exact z
   ·exact z
  | next=>exact hs
  | brk=>exact hs
  | cont=>exact hs
theorem FnOk.clean {P:Program} {w:World} {K:PySem.W.Frag} {mg:Str→Option Value} {base:Heap} {CX:CXT} {k:Nat} {f:Addr} {fd:FuncData} {ps:List Str} {sp sp':Sp} (F:FnOk P w K mg base CX k f fd ps sp)
  (h:∀ vs H Q E,sp' vs H Q E→sp vs H (fun v H'=>Same H H'∧Q v H) E):FnOk P w K mg base CX k f fd ps sp' :=
 F.forget fun vs H Q E hs=>⟨_,h vs H Q E hs,fun v H' ⟨s,q⟩=>⟨H,Plus.refl H,s,q⟩⟩
theorem Same.upd {H:Hp} {p:Addr} {o:HO} (hp:H p = none):Same H (upd H p o):=fun b u e=>by
 rw [upd_ne (ne_of_none e hp)]; exact e
section
variable {X:Cx}
theorem IxR.imp {r r':R2} (h:IxR X r) (i:∀ x y H Q,r' x y H Q→r x y H Q):IxR X r':=by
 intro b pos pins s σ H x y v u Q I rx ry q hs
 exact h _ _ _ _ _ _ _ _ _ _ _ I rx ry (i _ _ _ _ q) hs
def rIxTH:R2:=fun x y H Q=>∃ p xs i v,x = .ref p∧y = .int i∧H p = some (.tup xs)∧atI xs i = some v∧Q v H
def rIxLH:R2:=fun x y H Q=>∃ p xs i v,x = .ref p∧y = .int i∧H p = some (.lst xs)∧atI xs i = some v∧Q v H
theorem ix_tupH:IxR X rIxTH:=ix_tup.imp fun x y H Q ⟨p,xs,i,v,a,b,c,d⟩=>⟨p,xs,i,v,a,b,.of c,d⟩
theorem ix_listH:IxR X rIxLH:=ix_list.imp fun x y H Q ⟨p,xs,i,v,a,b,c,d⟩=>⟨p,xs,i,v,a,b,.of c,d⟩
theorem atI_0 {α:Type} {x:α} {xs:List α} : atI (x :: xs) 0 = some x:=atI_nat (j:=0) rfl
theorem atI_1 {α:Type} {x y:α} {xs:List α} : atI (x :: y :: xs) 1 = some y:=atI_nat (j:=1) rfl
theorem CallR.imp {f:Value} {r r':List V→Hp→VK→Prop} (h:CallR X f r) (i:∀ xs H Q,r' xs H Q→r xs H Q):CallR X f r':=fun pins s σ H xs us Q I rx q=>h pins s σ H xs us Q I rx (i _ _ _ q)
def rLenT:List V→Hp→VK→Prop:=fun xs H Q=>∃ p ys,xs = [.ref p]∧H p = some (.tup ys)∧Q (.int ys.length) H
def rLenL:List V→Hp→VK→Prop:=fun xs H Q=>∃ p ys,xs = [.ref p]∧H p = some (.lst ys)∧Q (.int ys.length) H
theorem call_lenT:CallR X (.builtin "len") rLenT:=call_len_seq.imp fun xs H Q ⟨p,ys,a,b,c⟩=>⟨p,ys,a,.inr (.of b),c⟩
theorem call_lenL:CallR X (.builtin "len") rLenL:=call_len_seq.imp fun xs H Q ⟨p,ys,a,b,c⟩=>⟨p,ys,a,.inl (.of b),c⟩
def tyS (H:Hp):V→Option String
 | .non=>some "NoneType"
 | .bl _=>some "bool"
 | .int _=>some "int"
 | .str _=>some "str"
 | .ref a=>match H a with
  | some (.lst _)=>some "list"
  | some (.tup _)=>some "tuple"
  | some (.dK _)=>some "dict"
  | _=>none
 | _=>none
theorem tyS_of {K:PySem.W.Frag} {H:Hp} {x:V} {t:String} (h:tyS H x = some t):TyOf K H x (.type t):=by
 cases x with
 | non=>cases h; exact .non
 | bl=>cases h; exact .bl _
 | int=>cases h; exact .int _
 | str=>cases h; exact .str _
 | byt=>cases h
 | flt=>cases h
 | ty=>cases h
 | ref a =>
  have h:(match H a with
   | some (.lst _)=>some "list"
   | some (.tup _)=>some "tuple"
   | some (.dK _)=>some "dict"
   | _=>none) = some t:=h
  split at h
  ·cases h; exact .lst (by assumption)
  ·cases h; exact .tup (by assumption)
  ·cases h; exact .dK (by assumption)
  ·cases h
def subS (t T:String):Bool:=(t == T) || (t == "bool" && T == "int")
theorem kit_sub {K:PySem.W.Frag} {t T:String} (ht:t ∈ ["NoneType", "bool", "int", "str", "list", "tuple", "dict"]) (hT:T ∈ ["bool", "int", "str", "list", "tuple", "dict"]):PySem.W.kitOne K (.type t) (.type T) = some (subS t T):=by
 simp only [List.mem_cons,List.not_mem_nil,or_false] at ht hT
 rcases ht with rfl | rfl | rfl | rfl | rfl | rfl | rfl <;> rcases hT with rfl | rfl | rfl | rfl | rfl | rfl <;> with_unfolding_all rfl
theorem tyS_in {H:Hp} {x:V} {t:String} (h:tyS H x = some t):t ∈ ["NoneType", "bool", "int", "str", "list", "tuple", "dict"]:=by
 cases x with
 | non=>cases h; decide
 | bl=>cases h; decide
 | int=>cases h; decide
 | str=>cases h; decide
 | byt=>cases h
 | flt=>cases h
 | ty=>cases h
 | ref a =>
  have h:(match H a with
   | some (.lst _)=>some "list"
   | some (.tup _)=>some "tuple"
   | some (.dK _)=>some "dict"
   | _=>none) = some t:=h
  split at h <;> cases h <;> decide
def rIsi:List V→Hp→VK→Prop:=fun xs H Q=>∃ x T t,xs = [x,.ty T]∧T ∈ ["bool", "int", "str", "list", "tuple", "dict"]∧tyS H x = some t∧Q (.bl (subS t T)) H
theorem call_isi:CallR X (.builtin "isinstance") rIsi:=call_isinst.imp fun xs H Q ⟨x,T,t,a,b,c,d⟩=>⟨x,.ty T,.type T,.type t,_,a,.inl ⟨T,rfl,rfl⟩,tyS_of c,kit_sub (tyS_in c) b,d⟩
theorem PG.imp {e:Expr} {t t':TG} (h:PG X e t) (i:∀ v σ H Q,t' v σ H Q→t v σ H Q):PG X e t':=fun pins s σ H v u Q I r q=>h pins s σ H v u Q I r (i _ _ _ _ q)
def gTupH (n:Nat) (t:TGs):TG:=fun v σ H Q=>∃ a xs,v = .ref a∧H a = some (.tup xs)∧xs.length = n∧t xs σ H Q
def gLstH (n:Nat) (t:TGs):TG:=fun v σ H Q=>∃ a xs,v = .ref a∧H a = some (.lst xs)∧xs.length = n∧t xs σ H Q
theorem pg_tupH {es:List Expr} {k:Nat} {t:TGs} {n:Nat} {pos:Pos} (hc:X.calm = true) (h:PGs X es t) (hn:(assignEach es X.env).length = n:=by rfl) (hst:(assignEach es X.env).findIdx? (·.1) = none:=by rfl):PG X (.Tuple es k pos) (gTupH n t) :=
 (pg_tup hc h hn hst).imp fun v σ H Q ⟨a,xs,e1,e2,e3⟩=>⟨a,xs,e1,.of e2,e3⟩
theorem pg_lstH {es:List Expr} {k:Nat} {t:TGs} {n:Nat} {pos:Pos} (hc:X.calm = true) (h:PGs X es t) (hn:(assignEach es X.env).length = n:=by rfl) (hst:(assignEach es X.env).findIdx? (·.1) = none:=by rfl):PG X (.Tuple es k pos) (gLstH n t) :=
 (pg_tupL hc h hn hst).imp fun v σ H Q ⟨a,xs,e1,e2,e3⟩=>⟨a,xs,e1,.of e2,e3⟩
def rSrtH:List V→Hp→VK→Prop:=fun xs H Q=>∃ l ns,xs = [.ref l]∧H l = some (.lst (ns.map V.int))∧ns.length < 64∧∀ (ms:List Int) p,H p = none→ms.Perm ns→ms.Pairwise (· ≤ ·)→Q (.ref p) (upd H p (.lst (ms.map V.int)))
theorem call_srtH:CallR X (.builtin "sorted") rSrtH:=call_sorted.imp fun xs H Q ⟨l,ns,a,b,c⟩=>⟨l,ns,a,.of b,c⟩
theorem tyS_non {H:Hp} : tyS H .non = some "NoneType" := rfl
theorem tyS_bl {H:Hp} {b:Bool} : tyS H (.bl b) = some "bool" := rfl
theorem tyS_int {H:Hp} {i:Int} : tyS H (.int i) = some "int" := rfl
theorem tyS_str {H:Hp} {x:Str} : tyS H (.str x) = some "str" := rfl
theorem tyS_tup {H:Hp} {p:Addr} {xs:List V} (h:H p = some (.tup xs)):tyS H (.ref p) = some "tuple" := by
 show (match H p with
   | some (.lst _)=>some "list"
   | some (.tup _)=>some "tuple"
   | some (.dK _)=>some "dict"
   | _=>none) = _
 rw [h]
theorem tyS_lst {H:Hp} {p:Addr} {xs:List V} (h:H p = some (.lst xs)):tyS H (.ref p) = some "list" := by
 show (match H p with
   | some (.lst _)=>some "list"
   | some (.tup _)=>some "tuple"
   | some (.dK _)=>some "dict"
   | _=>none) = _
 rw [h]
def truB:V→Option Bool
 | .bl b=>some b
 | .int i=>some (i != 0)
 | .non=>some false
 | _=>none
theorem truB_of {K:PySem.W.Frag} {x:V} {H:Hp} {k:Bool} (h:truB x = some k):TruV K x H k:=by
 cases x <;> cases h <;> rfl
def tTru (ta:TE):TT:=fun σ H Q=>ta σ H fun x H'=>∃ k,truB x = some k∧Q k H'
theorem pt_tru {a:Expr} {ta:TE} (ha:PE X a ta) (he:∀ whole,isTrue a X.env whole = (do let v ← whole; standAt a.pos; holding [v] (truthy v))):PT X a (tTru ta):=by
 intro pins s σ H Q I h
 exact isTrue_plain (thn (ha pins s σ H _ I h) fun v s1 ⟨x,H1,I1,r1,k,e,q1⟩=>tru_ok pins s1 σ H1 x v Q I1 r1 ⟨k,truB_of e,q1⟩) (he _)
end
section
variable {X:Cx} {st:Stmt} {rest:List Stmt} {t u:TS}
def tCut (t u:TS):TS:=fun D σ H=>∃ Mid:St→Hp→Prop,t { D with nx:=Mid } σ H∧∀ σ' H',Mid σ' H'→u D σ' H'
theorem pss_cut (h1:PS X st t) (h2:PSs X rest u):PSs X (st :: rest) (tCut t u):=by
 intro pins s σ H D I h
 obtain ⟨Mid,ha,hb⟩:=h
 refine wpAny_execs_cons (thn (h1 pins s σ H { D with nx:=Mid } I ha) fun f s1 q=>?_)
 cases f with
 | next =>
  obtain ⟨σ',H',I',q⟩:=q
  exact h2 pins s1 σ' H' D I' (hb σ' H' q)
 | ret v=>exact q
 | brk=>exact q
 | cont=>exact q
end
def OkF (P:Program) (w:World) (K:PySem.W.Frag) (mg:Str→Option Value) (base:Heap) (k:Nat) (x:Str) (ps:List Str) (sp:Sp):Prop :=
 ∃ f fd,FnOk P w K mg base CX0 k f fd ps sp∧Binds K fd ps []∧mg x = some (.ref f)∧PySem.W.keepIn K (.ref f) = true
def HasF (K:PySem.W.Frag) (mg:Str→Option Value) (x:Str) (st:Stmt) (ps:List Str):Prop :=
 ∃ f fd,Fun K x x st f fd∧(∀ us:List Value,us.length = ps.length→bindArgs fd ⟨us,[]⟩ = pure (ps.zip us))∧mg x = some (.ref f)
theorem HasF.ok {P:Program} {w:World} {K:PySem.W.Frag} {mg:Str→Option Value} {base:Heap} {k:Nat} {x:Str} {st:Stmt} {ps:List Str} {sp:Sp} (h:HasF K mg x st ps)
  (hf:∀ f fd,Fun K x x st f fd→FnOk P w K mg base CX0 k f fd ps sp):OkF P w K mg base k x ps sp:=by
 obtain ⟨f,fd,a,b,c⟩:=h
 exact ⟨f,fd,hf f fd a,.all b,c,a.kp⟩
theorem hasF_mk {K:PySem.W.Frag} {h:Heap} {mg:Str→Option Value} {x:Str} {st:Stmt} {ps:List Str} {f:Addr} {oc:Value} {od an:Option Addr} {osl:Array (Option Value)} {kV doc pm cdv ct:Value} (X:K.In h) (G:h.Ns mainGlobals mg)
  (a:PySem.W.nsIn K mainGlobals x = some (some (.ref f))) (l:K.lookup f = some ⟨oc,od,.func (PySem.W.fnOf x x (defArgs st) (defBody st) (defScope st) .none kV doc pm an cdv ct),osl⟩)
  (c:PySem.W.codeIn K cdv x = true) (k:PySem.W.keepIn K (.ref f) = true)
  (hb:∀ (kV doc pm:Value) (an:Option Addr) (cdv ct:Value) (us:List Value),us.length = ps.length→bindArgs (PySem.W.fnOf x x (defArgs st) (defBody st) (defScope st) .none kV doc pm an cdv ct) ⟨us,[]⟩ = pure (ps.zip us)):HasF K mg x st ps :=
 ⟨f,_,fun_mk l c k,hb kV doc pm an cdv ct,PySem.W.mg_of X G a⟩
def spLaw (K:PySem.W.Frag):Sp:=fun vs H Q _=>∃ (a:Addr) (ns:List Int),vs = [.ref a]∧SqL K H a (ns.map V.int)∧ns.length ≤ 63∧Only H∧∀ H',Q (.bl true) H'
theorem walkF {l:PySem.W.OpenLaw} {k:Nat} {x:Str} {q:Program} {loose:List Str} {XP:(Str→Option Value)→Heap→Prop} {YP:World→Heap→Prop} {d:DefRec} {K:Params→PySem.W.Frag} (hn:l.most = some 63) (hdf:d.params.defaults = [])
  (hr:Room k callerA) (hY:∀ (w:World) (h:Heap),YP w h→(K w.params).In h)
  (F:∀ (w:World) (mg:Str→Option Value) (fa:Addr) (h:Heap),(K w.params).In h→h.Ns mainGlobals mg→mg d.name = some (.ref fa) →
   ∃ st,HasF (K w.params) mg d.name st [x]∧∀ (base:Heap) (f:Addr) (fd:FuncData),Fun (K w.params) d.name d.name st f fd→FnOk l.prog w (K w.params) mg base CX0 k f fd [x] (spLaw (K w.params))) :
  PySem.W.WalkO q loose XP YP l.row.toRowW d [] (fun f vs=>PySem.call f vs):=by
 refine L2.walk_of (n:=63) (k:=k) (x:=x) (CX:=fun _=>CX0) (sp:=fun w=>spLaw (K w.params)) hn (by decide) hdf hr hY (fun w mg fa h KX G hmg=>?_) (fun _ _ a ns hl hO hS=>⟨a,ns,rfl,hS,hl,hO,fun _=>rfl⟩) fun _ _ _ _ _ z=>z
 obtain ⟨st,⟨f,fd,hf,hb,hm⟩,ok⟩:=F w mg fa h KX G hmg
 rw [hm] at hmg
 have e:f = fa:=by injection hmg with z; injection z
 subst e
 exact ⟨fd,fun s u=>.of_eq (hb [u] rfl),fun base _ _=>ok base f fd hf⟩
section
variable {X:Cx} {p pos:Pos} {e:Expr} {es:List Expr} {t:TA} {x:Str} {k:Nat} {ps:List Str} {sp:Sp}
def tCallF (sp:Sp) (t:TA):TE:=fun σ H Q=>t σ H fun vs H1=>sp vs H1 Q E0
theorem pe_callF (G:OkF X.prog X.w X.K X.mg X.base k x ps sp) (hr:Room k X.A) (hg:Gl X x) (ha:PA X (e :: es) t) (hdb:(x == ("__debug__" : Str)) = false:=by decide)
  (he:starEach (e :: es) X.env = (false,eval e X.env) :: starEach es X.env:=by rfl) (hpl:(backTo pos (starEach es X.env)).any (·.1) = false:=by rfl):PE X (.Call (.Name x p) (e :: es) [] pos) (tCallF sp t):=by
 obtain ⟨f,fd,F,b,hm,kp⟩:=G
 intro pins s σ H Q I h
 refine pe_call F hr hg hm kp b .nil pass0 ha hdb he hpl pins s σ H Q I ?_
 show t σ H fun vs H1=>sp (vs ++ []) H1 Q E0
 simp only [List.append_nil]
 exact h
end
theorem abs_if (a:Int):(if a < 0 then -a else a) = ((a.natAbs:Nat):Int):=by split <;> omega
theorem perm_two {ms:List Int} {x y:Int} (h:ms.Perm [x,y]):ms = [x,y]∨ms = [y,x]:=by
 match ms,h.length_eq with
 | [l,k],_ =>
  have h1:l ∈ [x,y]:=h.mem_iff.mp (by simp)
  simp only [List.mem_cons,List.not_mem_nil,or_false] at h1
  rcases h1 with rfl | rfl
  ·have h2:=(List.perm_cons l).mp h
   have h3:=h2.mem_iff.mp (List.mem_cons_self)
   simp only [List.mem_cons,List.not_mem_nil,or_false] at h3
   exact .inl (by rw [h3])
  ·have h2:=(List.perm_cons l).mp (h.trans (List.Perm.swap ..))
   have h3:=h2.mem_iff.mp (List.mem_cons_self)
   simp only [List.mem_cons,List.not_mem_nil,or_false] at h3
   exact .inr (by rw [h3])
theorem fmod_nat (a b:Nat):Int.fmod (a:Int) (b:Int) = ((a % b:Nat):Int):=by
 rw [Int.fmod_eq_emod_of_nonneg _ (Int.natCast_nonneg b)]; rfl
theorem fdiv_pos (a:Int) {b:Int} (h:0 < b):Int.fdiv a b = a / b:=Int.fdiv_eq_ediv_of_nonneg a (Int.le_of_lt h)
theorem Bd.div {a b:Int} (h:Bd a) (hb:0 < b):Bd (a / b):=by
 unfold Bd at *
 refine Nat.lt_of_le_of_lt ?_ h
 have e:=Int.mul_ediv_add_emod a b
 have r0:=Int.emod_nonneg a (show b ≠ 0 by omega)
 have r1:=Int.emod_lt_of_pos a hb
 generalize a / b = q at *
 generalize a % b = r at *
 rcases (by omega:q = 0∨1 ≤ q∨q ≤ -1) with z | z | z
 ·subst z; simp
 ·have:=Int.mul_le_mul_of_nonneg_right (show 1 ≤ b by omega) (show 0 ≤ q by omega)
  omega
 ·have h1:b * (q + 1) ≤ 1 * (q + 1):=Int.mul_le_mul_of_nonpos_right (show 1 ≤ b by omega) (show q + 1 ≤ 0 by omega)
  rw [Int.mul_add] at h1
  omega
end L2
set_option Elab.async false
set_option linter.all false
set_option maxRecDepth 100000
set_option maxHeartbeats 4000000
namespace L2
open PySem PySem.Spec PyProof.Rows
section
variable {M:Model} {A:Around} {E:Value→Shared→Prop} {s:Shared} {base:Heap} {env:Env} {outer l:List Env} {L e:Addr} {cls:Value} {d:Option Addr} {Q:Unit→Shared→Prop}
end
section
variable {P:Program} {w:World} {l:List Env} {H H':Hp} {s s':Shared} {a:Addr} {C:Value} {B:Heap} {d:Option Addr} {h':Heap}
end
section
variable {X:Cx} {pins:List (Addr × Obj)} {σ:List (Option V)} {H H':Hp} {s s':Shared} {a:Addr} {C:Value} {B:Heap} {d:Option Addr} {h':Heap}
end
def XMade (X:Cx) (Ex:Value→Option Addr→L2.St→Hp→Prop):Prop :=
 ∀ pins σ H s a C vs h1,Inv X pins σ H s→Heap.MadeExcOf s.heap h1 a C vs→Ex C none σ H→X.xe (.ref a) { s with heap:=h1 }
section
variable {P:Program} {w:World} {K:PySem.W.Frag} {mg:Str→Option Value} {base:Heap} {N:List Str} {qual:Str} {scope:Scope} {f:Addr} {cd:Value} {A:Around} {outer:List Env} {s:Shared} {H:Hp} {E:XK}
end
section
variable {P:Program} {w:World} {K:PySem.W.Frag} {mg:Str→Option Value} {base:Heap}
end
section
variable {X:Cx} {p pos:Pos} {e:Expr} {es:List Expr} {t:TA} {x:Str} {k:Nat} {ps:List Str} {sp:Sp} {Ex:Value→Option Addr→L2.St→Hp→Prop}
def tCallX (sp:Sp) (Ex:Value→Option Addr→L2.St→Hp→Prop) (t:TA):TE:=fun σ H Q=>t σ H fun vs H1=>sp vs H1 Q fun C d H'=>Ex C d σ H'
end
abbrev bmV:List Value:=[.type "ValueError",.type "Exception",.type "BaseException",.type "object"]
def ExcC (K:PySem.W.Frag) (C:Addr):Prop:=PySem.W.excIn K C bmV "ValueError.__new__" = true
theorem exc_obj {K:PySem.W.Frag} {h:Heap} {C:Addr} (X:K.In h) (q:ExcC K C):∃ bm N nm qn bs hdct sn sub ab col dd k0 k1 k2 k3 k5 mN,h.get? C = some (excClassObj nm qn C N bs bm hdct sn sub ab col dd k0 k1 k2 k3 k5 "ValueError.__new__") ∧
  h.Ns N mN∧mN "__init__" = none∧OwnTail h bmV bm:=by
 unfold ExcC PySem.W.excIn at q
 split at q
 ·rename_i dd cd sl ho
  split at q
  ·rename_i C' bm k0 k1 k2 k3 n k5 hm hs
   simp only [Bool.and_eq_true,beq_iff_eq,Bool.not_eq_true'] at q
   obtain ⟨⟨⟨⟨⟨rfl,rfl⟩,hdel⟩,ht⟩,hok⟩,hni⟩:=q
   obtain ⟨nm,bs,mro,ns,qn,hd,sn,sub,ab,col,del⟩:=cd
   dsimp only at hm hdel hok hni
   subst hm hdel
   have hsl:sl = #[k0,k1,k2,k3,some (.builtin "ValueError.__new__"),k5]:=by
    obtain ⟨l⟩:=sl
    simp only at hs
    rw [hs]
   subst hsl
   exact ⟨bm,ns,nm,qn,bs,hd,sn,sub,ab,col,dd,k0,k1,k2,k3,k5,_,X _ _ ho,.of_isNs (PySem.W.isNs_of_in X hok),PySem.W.nsMap_none_of_in X hok hni,PySem.W.tail_of_in X ht⟩
  ·cases q
 ·cases q
section
variable {X:Cx} {x:Str} {np cpos pos:Pos} {e₀:Expr} {rest:List Expr} {ta:TA} {C:Addr} {Ex:Value→Option Addr→L2.St→Hp→Prop}
def tRaise (C:Addr) (Ex:Value→Option Addr→L2.St→Hp→Prop) (ta:TA):TS:=fun _ σ H=>ta σ H fun vs H1=>vs.length ≤ sizeLine∧Ex (.ref C) none σ H1
theorem ps_raise (hc:X.calm = true) (hg:Gl X x) (hm:X.mg x = some (.ref C)) (q:ExcC X.K C) (hx:XMade X Ex) (ha:PA X (e₀ :: rest) ta) (hd:(x == ("__debug__" : Str)) = false:=by decide)
  (he:starEach (e₀ :: rest) X.env = (false,eval e₀ X.env) :: starEach rest X.env:=by rfl) (hplain:(backTo cpos (starEach rest X.env)).any (·.1) = false:=by rfl) :
  PS X (.Raise (some (.Call (.Name x np) (e₀ :: rest) [] cpos)) none pos) (tRaise C Ex ta):=by
 intro pins s σ H D I h
 obtain ⟨tl,N,nm,qn,bs,hdct,sn,sub,ab,col,dd,k0,k1,k2,k3,k5,mN,hC,hN,hni,T⟩:=exc_obj I.ok.mod.kin q
 have FB:=PySem.F.excBase_ValueError
 refine wpAny_Raise_call_subT (C:=C) (nm:=nm) (q:=qn) (N:=N) (bs:=bs) (bm:=tl) (hdct:=hdct) (sn:=sn) (sub:=sub) (ab:=ab) (col:=col) (dd:=dd) (k0:=k0) (k1:=k1) (k2:=k2) (k3:=k3) (k5:=k5)
  FB (mN:=mN) (T.hasType FB.hasBase) (I.ok.hd hc) (by rw [he]; show (false || (backTo cpos (starEach rest X.env)).any (·.1)) = false; rw [hplain]; rfl) hni (ld_glob I hg hm ⟨rfl,?_⟩ hd)
 have h2:=ha cpos pins s σ H _ I h
 rw [he] at h2 ⊢
 exact Calls.evalArgs_plain (wpAny_mono h2 (fun us s₂ ⟨vs,H1,I1,r,hl,ex⟩=>⟨rfl,by rw [← r.length]; exact hl,I1.bk _ _ hC,hN.keeps I1.bk,T.keeps I1.bk,fun h' e M=>hx pins σ H1 s₂ e _ us h' I1 M ex⟩) fun _ _ y=>y)
end
section
variable {X:Cx} {pins pins' pn:List (Addr × Obj)} {σ:L2.St} {H H':Hp} {s:Shared} {E:Value→Shared→Prop} {a:Addr}
end
def XO (a C:Addr) (d:Option Addr):HO:=.ext fun h=>∃ o,h.get? a = some o∧o.cls = .ref C∧o.dict = d∧∃ vs,o.data = .fields vs
section
variable {X:Cx} {pos hpos np:Pos} {body suite:List Stmt} {b₀:Stmt} {n Dn:Str} {D:Addr} {i:Nat} {tb:(Value→Option Addr→L2.St→Hp→Prop)→TS} {th:TS}
def Ends.unset (R:Ends) (i:Nat):Ends:={ nx:=fun σ H=>R.nx (σ.set i none) H,rt:=R.rt,bk:=fun σ H=>R.bk (σ.set i none) H,ct:=fun σ H=>R.ct (σ.set i none) H }
def tTryAs (K:PySem.W.Frag) (D:Addr) (i:Nat) (tb:(Value→Option Addr→L2.St→Hp→Prop)→TS) (th:TS):TS:=fun R σ H =>
 ∃ Ex:Value→Option Addr→L2.St→Hp→Prop,tb Ex R σ H∧∀ C' d σ' H',Ex C' d σ' H'→∃ C,C' = .ref C∧PySem.W.mroIn K C (.ref D) = some true ∧
  ∀ a,H' a = none→th (R.unset i) (σ'.set i (some (.ref a))) (upd H' a (XO a C d))
end
end L2
set_option Elab.async false
set_option linter.all false
set_option maxRecDepth 100000
set_option maxHeartbeats 4000000
namespace L2
open PySem PySem.Spec PyProof.Rows
section
variable {prog:Program} {w:World} {A:Around} {E:Value→Shared→Prop} {h:Heap} {g:Array GenState} {d:Drawn} {t:Nat} {os:OsState} {a C:Addr} {o:Obj} {K:PySem.W.Frag}
end
end L2
set_option Elab.async false
set_option linter.all false
set_option maxRecDepth 100000
set_option maxHeartbeats 4000000
namespace L2
open PySem PySem.Spec PyProof.Rows
def clOf (cells:List (Str × Addr)):List (Str × NameKind)→List (Str × Addr)→List (Str × Addr)
 | [],acc=>acc
 | (n,k) :: r,acc=>clOf cells r (if k == .free then (n,(cells.lookup n).getD 0) :: acc else acc)
theorem closure_eq {scope:Scope} {env:Env} (h:∀ y ∈ scope.names,y.2 = .free→∃ c,env.cells.lookup y.1 = some c):closureFor scope env = pure (clOf env.cells scope.names []):=by
 unfold closureFor
 have go:∀ (l:List (Str × NameKind)) (acc:List (Str × Addr)),(∀ y ∈ l,y.2 = .free→∃ c,env.cells.lookup y.1 = some c) →
   (forIn l acc (fun (x:Str × NameKind) (r:List (Str × Addr))=>if (x.2 == NameKind.free) = true then (do let a ← cellOf env x.1; pure (ForInStep.yield ((x.1,a) :: r))) else pure (ForInStep.yield r)):Sem (List (Str × Addr))) = pure (clOf env.cells l acc):=by
  intro l
  induction l with
  | nil=>intro acc _; rfl
  | cons y r ih =>
   intro acc hy
   obtain ⟨n,k⟩:=y
   rw [List.forIn_cons]
   by_cases hk:k = .free
   ·subst hk
    obtain ⟨c,hc⟩:=hy (n,.free) List.mem_cons_self rfl
    have e1:cellOf env n = pure c:=by unfold cellOf; rw [show env.cells.lookup n = some c from hc]
    simp only [beq_self_eq_true,if_true,e1,pure_bind]
    rw [ih _ fun z hz=>hy z (List.mem_cons_of_mem _ hz)]
    show pure _ = pure (clOf env.cells r (if (NameKind.free == NameKind.free) = true then (n,(env.cells.lookup n).getD 0) :: acc else acc))
    rw [show env.cells.lookup n = some c from hc]
    rfl
   ·have hb:(k == NameKind.free) = false:=by simpa using hk
    simp only [hb,Bool.false_eq_true,if_false,pure_bind]
    rw [ih _ fun z hz=>hy z (List.mem_cons_of_mem _ hz)]
    show pure _ = pure (clOf env.cells r (if (k == NameKind.free) = true then (n,(env.cells.lookup n).getD 0) :: acc else acc))
    rw [hb]
    rfl
 have e:=go scope.names [] h
 show (forIn scope.names [] (fun (x:Str × NameKind) (r:List (Str × Addr))=>if (x.2 == NameKind.free) = true then (do let a ← cellOf env x.1; pure (ForInStep.yield ((x.1,a) :: r))) else pure (ForInStep.yield r)):Sem (List (Str × Addr))) >>= (fun cs=>pure cs) = _
 rw [e]
 rfl
theorem clOf_mem {cells:List (Str × Addr)} : ∀ {names:List (Str × NameKind)} {acc:List (Str × Addr)} {x:Str} {c:Addr},(∀ y ∈ names,y.2 = .free→∃ c,cells.lookup y.1 = some c)→(x,c) ∈ clOf cells names acc→(x,c) ∈ acc∨cells.lookup x = some c
 | [],_,_,_,_,h=>.inl h
 | (n,k) :: r,acc,x,c,hf,h=>by
  unfold clOf at h
  rcases clOf_mem (fun y hy=>hf y (List.mem_cons_of_mem _ hy)) h with z | z
  ·by_cases hk:k = .free
   ·subst hk
    simp only [beq_self_eq_true,if_true] at z
    rcases List.mem_cons.mp z with e | e
    ·obtain ⟨c',hc'⟩:=hf (n,.free) List.mem_cons_self rfl
     cases e
     rw [show cells.lookup n = some c' from hc']
     exact .inr rfl
    ·exact .inl e
   ·have hb:(k == NameKind.free) = false:=by simpa using hk
    simp only [hb,Bool.false_eq_true,if_false] at z
    exact .inl z
  ·exact .inr z
theorem clOf_has {cells:List (Str × Addr)} : ∀ {names:List (Str × NameKind)} {acc:List (Str × Addr)} {x:Str},((x,NameKind.free) ∈ names∨∃ c,(x,c) ∈ acc)→∃ c,(x,c) ∈ clOf cells names acc
 | [],_,_,h=>by
  rcases h with h | h
  ·cases h
  ·exact h
 | (n,k) :: r,acc,x,h=>by
  unfold clOf
  refine clOf_has ?_
  rcases h with h | ⟨c,h⟩
  ·rcases List.mem_cons.mp h with e | e
   ·cases e
    exact .inr ⟨_,by simp only [beq_self_eq_true,if_true]; exact List.mem_cons_self⟩
   ·exact .inl e
  ·refine .inr ⟨c,?_⟩
   split
   ·exact List.mem_cons_of_mem _ h
   ·exact h
theorem lookup_some_of_mem {α:Type} {x:Str} {c:α} : ∀ {l:List (Str × α)},(x,c) ∈ l→∃ c',l.lookup x = some c'
 | (y,d) :: r,h=>by
  rw [List.lookup_cons]
  cases hb:x == y with
  | true=>exact ⟨d,rfl⟩
  | false =>
   rcases List.mem_cons.mp h with e | e
   ·cases e; simp at hb
   ·exact lookup_some_of_mem e
section
variable {X:Cx} {elt iter:Expr} {x:Str} {px pos:Pos} {scope:Scope} {wi:TI} {te:TE}
theorem Inv.nostk' {pins:List (Addr × Obj)} {σ:L2.St} {H:Hp} {s:Shared} (I:Inv X pins σ H s) {b:Addr} (h1:b ≠ X.env.locals) (h2:b ∉ X.fs):b ∉ frs X.stack:=fun z=>by
 rcases List.mem_cons.mp (I.stkSub b z) with e | e
 ·exact h1 e
 ·exact h2 e
theorem relabel_free {env:Env} : ∀ {names:List (Str × NameKind)} {y:Str},(names.map fun (n,k)=>if (k == NameKind.free && env.scope.kind == .function && env.kindOf n == some .cell) then (n,NameKind.cell) else (n,k)).lookup y = some .cell ∨
  (names.map fun (n,k)=>if (k == NameKind.free && env.scope.kind == .function && env.kindOf n == some .cell) then (n,NameKind.cell) else (n,k)).lookup y = some .free→(∀ z ∈ names,z.2 ≠ .cell)→(y,NameKind.free) ∈ names
 | [],y,h,_=>by rcases h with h | h <;> cases h
 | (n,k) :: r,y,h,hc=>by
  have ih:=@relabel_free env r y
  simp only [List.map_cons] at h
  by_cases hcond:(k == NameKind.free && env.scope.kind == .function && env.kindOf n == some .cell) = true
  ·rw [if_pos hcond] at h
   simp only [List.lookup_cons] at h
   cases hb:y == n with
   | true =>
    have hk:k = .free:=by
     simp only [Bool.and_eq_true,beq_iff_eq] at hcond
     exact hcond.1.1
    have:y = n:=by simpa using hb
    subst this hk
    exact List.mem_cons_self
   | false =>
    rw [hb] at h
    exact List.mem_cons_of_mem _ (ih h fun z hz=>hc z (List.mem_cons_of_mem _ hz))
  ·rw [if_neg hcond] at h
   simp only [List.lookup_cons] at h
   cases hb:y == n with
   | true =>
    rw [hb] at h
    have:y = n:=by simpa using hb
    subst this
    rcases h with h | h
    ·exact absurd (Option.some.inj h) (hc (y,k) List.mem_cons_self)
    ·have:k = .free:=Option.some.inj h
     subst this
     exact List.mem_cons_self
   | false =>
    rw [hb] at h
    exact List.mem_cons_of_mem _ (ih h fun z hz=>hc z (List.mem_cons_of_mem _ hz))
end
end L2
set_option Elab.async false
set_option linter.all false
set_option maxRecDepth 100000
set_option maxHeartbeats 4000000
namespace L2
open PySem PySem.Spec PyProof.Rows
section
variable {X:Cx}
def rIsB (neg:Bool):R2:=fun x y H Q=>∃ b,y = .bl b∧Q (.bl (if neg then !decide (x = .bl b) else decide (x = .bl b))) H
def eqF:List V→List V→Bool
 | [],[]=>true
 | x :: xs,y :: ys=>eqV x y && eqF xs ys
 | _,_=>false
def eqH (H:Hp) (x y:V):Option Bool :=
 match x,y with
 | .ref a,.ref b=>match H a,H b with
  | some (.tup xs),some (.tup ys)=>if xs.all flatV && ys.all flatV then some (eqF xs ys) else none
  | some (.lst xs),some (.lst ys)=>if xs.all flatV && ys.all flatV then some (eqF xs ys) else none
  | some (.lst _),some (.tup _)=>some false
  | some (.tup _),some (.lst _)=>some false
  | _,_=>none
 | .ref a,y=>if flatV y then (match H a with
  | some (.tup _)=>some false
  | some (.lst _)=>some false
  | _=>none) else none
 | x,.ref b=>if flatV x then (match H b with
  | some (.tup _)=>some false
  | some (.lst _)=>some false
  | _=>none) else none
 | x,y=>if scal x y then some (decide (x = y)) else none
def rEqH:R2:=fun x y H Q=>∃ k,eqH H x y = some k∧Q (.bl k) H
theorem Inv.tupIs {pins:List (Addr × Obj)} {σ:L2.St} {H:Hp} {s:Shared} {a:Addr} {xs:List V} (I:Inv X pins σ H s) (h:H a = some (.tup xs)):∃ its,Vals xs its∧IsTup s.heap a its.toArray∧s.heap.IsTuple a its.toArray:=by
 obtain ⟨its,rv,ht,_⟩:=I.tuple (SqT.of h)
 exact ⟨its,rv,ht,ht⟩
theorem Inv.lstIs {pins:List (Addr × Obj)} {σ:L2.St} {H:Hp} {s:Shared} {a:Addr} {xs:List V} (I:Inv X pins σ H s) (h:H a = some (.lst xs)):∃ its,Vals xs its∧s.heap.IsList a its.toArray:=by
 obtain ⟨its,rv,ht,_⟩:=I.list (SqL.of h)
 exact ⟨its,rv,ht.isList⟩
theorem xmade_no:XMade X (fun _ _ _ _=>False):=fun _ _ _ _ _ _ _ _ _ _ z=>z.elim
def IsX (H:Hp) (a C:Addr):Prop:=∃ d,H a = some (XO a C d)
def rIsiN (C D:Addr) (b:Bool):List V→Hp→VK→Prop:=fun xs H Q=>∃ a,xs = [.ref a,.ref D]∧IsX H a C∧Q (.bl b) H
def rIsiT (C:Addr) (T:String) (b:Bool):List V→Hp→VK→Prop:=fun xs H Q=>∃ a,xs = [.ref a,.ty T]∧IsX H a C∧Q (.bl b) H
end
end L2
set_option Elab.async false
set_option linter.all false
set_option maxRecDepth 100000
set_option maxHeartbeats 4000000
namespace L2
open PySem PySem.Spec PyProof.Rows
def tDisp1 (tk tv:TE):TE:=fun σ H Q=>∀ p,H p = none→tk σ (upd H p (.dK [])) fun x H1=>∃ i,x = .int i∧tv σ H1 fun y H2=>H2 p = some (.dK [])∧Q (.ref p) (upd H2 p (.dK [(.inl i,y)]))
open PySem.SeqAt in
section
variable {X:Cx}
end
section
variable {P:Program} {w:World} {K:PySem.W.Frag} {mg:Str→Option Value} {base:Heap}
end
end L2
set_option Elab.async false
set_option linter.all false
set_option maxRecDepth 100000
set_option maxHeartbeats 4000000
namespace L2
open PySem PySem.Spec PyProof.Rows
mutual
inductive Shows (H:Hp):V→PyData→Prop
 | non:Shows H .non .none
 | bl (b:Bool):Shows H (.bl b) (.bool b)
 | int (i:Int):Shows H (.int i) (.int i)
 | str (x:Str):Shows H (.str x) (.str x)
 | lst {a:Addr} {xs:List V} {ds:List PyData} : H a = some (.lst xs)→ShowsAll H xs ds→Shows H (.ref a) (.list ds)
 | tup {a:Addr} {xs:List V} {ds:List PyData} : H a = some (.tup xs)→ShowsAll H xs ds→Shows H (.ref a) (.tuple ds)
inductive ShowsAll (H:Hp):List V→List PyData→Prop
 | nil:ShowsAll H [] []
 | cons {x:V} {xs:List V} {d:PyData} {ds:List PyData} : Shows H x d→ShowsAll H xs ds→ShowsAll H (x :: xs) (d :: ds)
end
mutual
theorem Shows.same {H H':Hp} (S:Same H H'):∀ {x:V} {d:PyData},Shows H x d→Shows H' x d
 | _,_,.non=>.non
 | _,_,.bl b=>.bl b
 | _,_,.int i=>.int i
 | _,_,.str x=>.str x
 | _,_,.lst e h=>.lst (S _ _ e) (ShowsAll.same S h)
 | _,_,.tup e h=>.tup (S _ _ e) (ShowsAll.same S h)
theorem ShowsAll.same {H H':Hp} (S:Same H H'):∀ {xs:List V} {ds:List PyData},ShowsAll H xs ds→ShowsAll H' xs ds
 | _,_,.nil=>.nil
 | _,_,.cons h t=>.cons (Shows.same S h) (ShowsAll.same S t)
end
section
variable {X:Cx} {pins:List (Addr × Obj)} {σ:L2.St} {H:Hp} {s:Shared}
mutual
theorem Inv.reads (I:Inv X pins σ H s):∀ {x:V} {d:PyData} {v:Value},Shows H x d→RelV x v→∃ as,Reads s.heap v d as
 | _,_,_,.non,r=>by cases r; exact ⟨_,.none⟩
 | _,_,_,.bl b,r=>by cases r; exact ⟨_,.bool b⟩
 | _,_,_,.int i,r=>by obtain ⟨t,rfl⟩:=r; exact ⟨_,.int i t⟩
 | _,_,_,.str x,r=>by obtain ⟨t,rfl⟩:=r; exact ⟨_,.str x t⟩
 | _,_,_,.lst e h,r=>by
  cases r
  obtain ⟨its,rv,⟨o,ho,hc,n,hd⟩⟩:=I.lstIs e
  obtain ⟨as,q⟩:=Inv.readsAll I h rv
  exact ⟨_,.list ho hc hd q⟩
 | _,_,_,.tup e h,r=>by
  cases r
  obtain ⟨its,rv,_,⟨o,ho,hc,n,hd⟩⟩:=I.tupIs e
  obtain ⟨as,q⟩:=Inv.readsAll I h rv
  exact ⟨_,.tuple ho hc hd q⟩
theorem Inv.readsAll (I:Inv X pins σ H s):∀ {xs:List V} {ds:List PyData} {vs:List Value},ShowsAll H xs ds→Vals xs vs→∃ as,ReadsAll s.heap vs ds as
 | _,_,_,.nil,r=>by cases r; exact ⟨_,.nil⟩
 | _,_,_,.cons h t,r=>by
  cases r with
  | cons r1 r2 =>
   obtain ⟨a,q1⟩:=Inv.reads I h r1
   obtain ⟨b,q2⟩:=Inv.readsAll I t r2
   exact ⟨_,.cons q1 q2⟩
end
def rEqR (neg:Bool):R2:=fun x y H Q=>∃ d e,Shows H x d∧Shows H y e∧SeqAt.shaped d = true∧SeqAt.shaped e = true∧Q (.bl (if neg then !PyData.eqv d e else PyData.eqv d e)) H
def rSumH:List V→Hp→VK→Prop:=fun xs H Q=>∃ (l:Addr) (ns:List Int),xs = [.ref l]∧H l = some (.lst (ns.map V.int))∧Q (.int ns.sum) H
def rMaxH:List V→Hp→VK→Prop:=fun xs H Q=>∃ (l:Addr) (ns:List Int),xs = [.ref l]∧H l = some (.lst (ns.map V.int))∧0 < ns.length∧∀ M,M ∈ ns→(∀ a,a ∈ ns→a ≤ M)→Q (.int M) H
def rMinH:List V→Hp→VK→Prop:=fun xs H Q=>∃ (l:Addr) (ns:List Int),xs = [.ref l]∧H l = some (.lst (ns.map V.int))∧0 < ns.length∧∀ M,M ∈ ns→(∀ a,a ∈ ns→M ≤ a)→Q (.int M) H
def tRev (te ts:TE):TE:=fun σ H Q=>te σ H fun x H1=>ts σ H1 fun y H2=>y = .int (-1)∧∃ a xs,x = .ref a∧H2 a = some (.lst xs)∧∀ p,H2 p = none→Q (.ref p) (upd H2 p (.lst xs.reverse))
end
end L2
set_option Elab.async false
set_option linter.all false
set_option maxRecDepth 100000
set_option maxHeartbeats 4000000
namespace L2
open PySem PySem.Spec PyProof.Rows
section
variable {K:PySem.W.Frag} {tl:TE} {ta:TA} {g:TG} {tb:TS} {D:Ends} {σ:L2.St} {H:Hp}
theorem tFor_list (h:tl σ H fun x H1=>∃ a xs,x = .ref a∧H1 a = some (.lst xs)∧∃ J:Nat→L2.St→Hp→Prop,J 0 σ H1 ∧
   (∀ k x σ' H',xs[k]? = some x→J k σ' H'→H' a = some (.lst xs)→g x σ' H' fun σ2 H2=>tb { D with nx:=fun σ3 H3=>H3 a = some (.lst xs)∧J (k + 1) σ3 H3,ct:=fun σ3 H3=>H3 a = some (.lst xs)∧J (k + 1) σ3 H3,bk:=D.nx } σ2 H2) ∧
   ∀ σ' H',J xs.length σ' H'→H' a = some (.lst xs)→D.nx σ' H') (hm:∀ (P Q:V→Hp→Prop),(∀ x H',P x H'→Q x H')→tl σ H P→tl σ H Q):tFor (iList K tl) g tb D σ H:=by
 refine hm _ _ ?_ h
 rintro x H1 ⟨a,xs,rfl,hx,J,j0,step,fin⟩
 refine ⟨a,rfl,⟨xs,.of hx⟩,fun k m σ' H'=>k ≤ xs.length∧m = xs.length - k∧H' a = some (.lst xs)∧J k σ' H',⟨_,Nat.zero_le _,rfl,hx,j0⟩,?_⟩
 rintro k m σ' H' ⟨hk,rfl,hx',j⟩
 by_cases e:k = xs.length
 ·subst e
  exact .inl ⟨⟨xs,.of hx',Nat.le_refl _⟩,fin σ' H' j hx'⟩
 ·have hlt:k < xs.length:=by omega
  have e1:xs[k]? = some xs[k]:=List.getElem?_eq_getElem hlt
  refine .inr ⟨⟨xs,_,.of hx',e1⟩,fun σ3 H3=>H3 a = some (.lst xs)∧J (k + 1) σ3 H3,fun σ3 H3 ⟨z1,z2⟩=>⟨xs.length - (k + 1),by omega,by omega,rfl,z1,z2⟩,?_⟩
  rintro x H'' ⟨rfl,y⟩
  exact step k x σ' H'' (y xs (.of hx')) j hx'
theorem tFor_rng1 (h:ta σ H fun vs H1=>∃ n:Nat,vs = [.int n]∧n < 2 ^ 61∧∃ J:Nat→L2.St→Hp→Prop,J 0 σ H1 ∧
   (∀ (k:Nat) σ' H',k < n→J k σ' H'→g (.int k) σ' H' fun σ2 H2=>tb { D with nx:=J (k + 1),ct:=J (k + 1),bk:=D.nx } σ2 H2)∧∀ σ' H',J n σ' H'→D.nx σ' H')
  (hm:∀ (P Q:List V→Hp→Prop),(∀ x H',P x H'→Q x H')→ta σ H P→ta σ H Q):tFor (iRng1 ta) g tb D σ H:=by
 refine hm _ _ ?_ h
 rintro x H1 ⟨n,rfl,hn,J,j0,step,fin⟩
 refine ⟨n,rfl,by omega,by omega,?_⟩
 rw [Int.toNat_natCast]
 refine ⟨fun k m σ' H'=>k ≤ n∧m = n - k∧J k σ' H',⟨_,Nat.zero_le _,rfl,j0⟩,?_⟩
 rintro k m σ' H' ⟨hk,rfl,j⟩
 by_cases e:k = n
 ·subst e
  exact .inl ⟨Nat.le_refl _,fin σ' H' j⟩
 ·have hlt:k < n:=by omega
  refine .inr ⟨hlt,J (k + 1),fun σ3 H3 z=>⟨n - (k + 1),by omega,by omega,rfl,z⟩,?_⟩
  rintro x H'' ⟨rfl,rfl⟩
  rw [Int.zero_add]
  exact step k σ' H'' hlt j
end
end L2
set_option Elab.async false
set_option linter.all false
set_option maxRecDepth 100000
set_option maxHeartbeats 4000000
namespace L2
open PySem PySem.Spec PyProof.Rows
section
variable {X:Cx}
def tM (t:TE):TE:=fun σ H Q=>∃ R:VK,t σ H R∧∀ x H',R x H'→Q x H'
def tMA (t:TA):TA:=fun σ H Q=>∃ R:List V→Hp→Prop,t σ H R∧∀ x H',R x H'→Q x H'
theorem PE.mono {a:Expr} {t:TE} (h:PE X a t):PE X a (tM t):=fun pins s σ H Q I ⟨R,h1,h2⟩ =>
 thn (h pins s σ H R I h1) fun v s' ⟨x,H',I',r,q⟩=>⟨x,H',I',r,h2 x H' q⟩
theorem PA.mono {es:List Expr} {t:TA} (h:PA X es t):PA X es (tMA t):=fun pos pins s σ H Q I ⟨R,h1,h2⟩ =>
 thn (h pos pins s σ H R I h1) fun v s' ⟨x,H',I',r,q⟩=>⟨x,H',I',r,h2 x H' q⟩
theorem PE.imp {a:Expr} {t t':TE} (h:PE X a t) (i:∀ σ H Q,t' σ H Q→t σ H Q):PE X a t':=fun pins s σ H Q I q=>h pins s σ H Q I (i σ H Q q)
theorem tM_in {t:TE} {σ:L2.St} {H:Hp} {Q:VK} (h:t σ H Q):tM t σ H Q:=⟨Q,h,fun _ _ q=>q⟩
theorem tFor_listM {K:PySem.W.Frag} {tl:TE} {g:TG} {tb:TS} {D:Ends} {σ:L2.St} {H:Hp} (h:tl σ H fun x H1=>∃ a xs,x = .ref a∧H1 a = some (.lst xs)∧∃ J:Nat→L2.St→Hp→Prop,J 0 σ H1 ∧
   (∀ k x σ' H',xs[k]? = some x→J k σ' H'→H' a = some (.lst xs)→g x σ' H' fun σ2 H2=>tb { D with nx:=fun σ3 H3=>H3 a = some (.lst xs)∧J (k + 1) σ3 H3,ct:=fun σ3 H3=>H3 a = some (.lst xs)∧J (k + 1) σ3 H3,bk:=D.nx } σ2 H2) ∧
   ∀ σ' H',J xs.length σ' H'→H' a = some (.lst xs)→D.nx σ' H'):tFor (iList K (tM tl)) g tb D σ H :=
 tFor_list (tM_in h) fun _ _ i ⟨R,a,b⟩=>⟨R,a,fun x H' q=>i x H' (b x H' q)⟩
theorem tFor_rngM {ta:TA} {g:TG} {tb:TS} {D:Ends} {σ:L2.St} {H:Hp} (h:ta σ H fun vs H1=>∃ n:Nat,vs = [.int n]∧n < 2 ^ 61∧∃ J:Nat→L2.St→Hp→Prop,J 0 σ H1 ∧
   (∀ (k:Nat) σ' H',k < n→J k σ' H'→g (.int k) σ' H' fun σ2 H2=>tb { D with nx:=J (k + 1),ct:=J (k + 1),bk:=D.nx } σ2 H2)∧∀ σ' H',J n σ' H'→D.nx σ' H'):tFor (iRng1 (tMA ta)) g tb D σ H :=
 tFor_rng1 (ta:=tMA ta) ⟨_,h,fun _ _ q=>q⟩ fun _ _ i ⟨R,a,b⟩=>⟨R,a,fun x H' q=>i x H' (b x H' q)⟩
def tApp (to:TE) (t:TA):TE:=fun σ H Q=>to σ H fun x H1=>∃ l xs,x = .ref l∧H1 l = some (.lst xs)∧t σ H1 fun vs H2=>∃ y ys,vs = [y]∧H2 l = some (.lst ys)∧ys.length < sizeLine∧Q .non (upd H2 l (.lst (ys ++ [y])))
theorem pe_app {o e:Expr} {to:TE} {t:TA} {apos cpos:Pos} (ho:PE X o to) (ha:PA X [e] t) (hb:attributeBase o "append" X.env (eval o X.env) = eval o X.env:=by rfl)
  (hf:((backTo cpos (starEach [e] X.env)).all (fun x=>!x.1) && (backToKw cpos (keywordEach [] X.env)).all (fun x=>x.1.isSome) && decide ([e].length + ([] : List Keyword).length + (if ([] : List Keyword).isEmpty then 0 else 1) < 30)) = true:=by rfl)
  (hl:(apos.endLine == cpos.line) = true:=by rfl) (hs:starEach [e] X.env = (false,eval e X.env) :: starEach [] X.env:=by rfl) (hp:(backTo cpos (starEach [] X.env)).any (·.1) = false:=by rfl) :
  PE X (.Call (.Attribute o "append" apos) [e] [] cpos) (tApp to t):=by
 refine (pe_bm PySem.F.plainAttrs_list PySem.F.slot_list_append PySem.F.type_list_append mt_append ho.mono ha.mono hb hf hl hs hp).imp fun σ H Q h=>?_
 refine ⟨_,h,?_⟩
 rintro x H1 ⟨l,xs,rfl,hx,h2⟩
 refine ⟨.inl ⟨rfl,_,SqL.of hx⟩,_,h2,?_⟩
 rintro vs H2 ⟨y,ys,rfl,hy,hz,q⟩
 exact ⟨l,ys,y,rfl,rfl,hy,hz,q⟩
def tClr (to:TE):TE:=fun σ H Q=>to σ H fun x H1=>∃ l xs,x = .ref l∧H1 l = some (.lst xs)∧Q .non (upd H1 l (.lst []))
def rListH:List V→Hp→VK→Prop:=fun xs H Q=>∃ p ys,xs = [.ref p]∧H p = some (.lst ys)∧∀ l,H l = none→Q (.ref l) (upd H l (.lst ys))
theorem call_listH:CallR X (.type "list") rListH:=call_list_of.imp fun xs H Q ⟨p,ys,a,b,c⟩=>⟨p,ys,a,.inl (.of b),c⟩
end
mutual
theorem canLay_int:∀ ns:List Int,PyData.canLayAll0 (ns.map PyData.int) = true
 | []=>rfl
 | n :: ns=>by
  rw [List.map_cons]; unfold PyData.canLayAll0
  rw [canLay_int ns]; rfl
end
def frD (f:Int × Int):PyData:=.tuple [.int f.1,.int f.2]
theorem canLay_fr:∀ fs:List (Int × Int),PyData.canLayAll0 (fs.map frD) = true
 | []=>rfl
 | n :: ns=>by
  rw [List.map_cons]; unfold PyData.canLayAll0
  rw [canLay_fr ns]; rfl
theorem depth_fr:∀ fs:List (Int × Int),PyData.depthAll (fs.map frD) ≤ 1
 | []=>Nat.zero_le _
 | n :: ns=>by
  rw [List.map_cons]; unfold PyData.depthAll
  have:=depth_fr ns
  have e:PyData.depth (frD n) = 1:=rfl
  rw [e]; omega
theorem shaped_frs (fs:List (Int × Int)):SeqAt.shaped (.list (fs.map frD)) = true:=by
 have h1:PyData.canLay0 (.list (fs.map frD)) = true:=by unfold PyData.canLay0; exact canLay_fr fs
 have h2:PyData.depth (.list (fs.map frD)) ≤ 64:=by unfold PyData.depth; have:=depth_fr fs; omega
 unfold SeqAt.shaped
 rw [h1,decide_eq_true h2]; rfl
theorem eqv_frs (fs:List (Int × Int)):PyData.eqv (.list (fs.map frD)) (.list (fs.map frD)) = true:=by
 have h1:PyData.canLay0 (.list (fs.map frD)) = true:=by unfold PyData.canLay0; exact canLay_fr fs
 exact PySem.SeqAt.eqv_refl _ h1
inductive FL (H:Hp):List V→List (Int × Int)→Prop
 | nil:FL H [] []
 | cons {p:Addr} {f:Int × Int} {xs:List V} {fs:List (Int × Int)} : H p = some (.tup [.int f.1,.int f.2])→FL H xs fs→FL H (.ref p :: xs) (f :: fs)
theorem FL.imp {H H':Hp} (h:∀ p a b,H p = some (.tup [.int a,.int b])→H' p = some (.tup [.int a,.int b])):∀ {xs:List V} {fs:List (Int × Int)},FL H xs fs→FL H' xs fs
 | _,_,.nil=>.nil
 | _,_,.cons e t=>.cons (h _ _ _ e) (FL.imp h t)
theorem FL.same {H H':Hp} (S:Same H H') {xs:List V} {fs:List (Int × Int)} (h:FL H xs fs):FL H' xs fs:=h.imp fun p _ _ e=>S p _ e
theorem FL.updL {H:Hp} {l:Addr} {ys zs:List V} (hl:H l = some (.lst ys)) {xs:List V} {fs:List (Int × Int)} (h:FL H xs fs):FL (upd H l (.lst zs)) xs fs :=
 h.imp fun p _ _ e=>(upd_ne (ne_of e hl (by intro z; cases z))).trans e
theorem FL.length {H:Hp} : ∀ {xs:List V} {fs:List (Int × Int)},FL H xs fs→xs.length = fs.length
 | _,_,.nil=>rfl
 | _,_,.cons _ t=>by rw [List.length_cons,List.length_cons,FL.length t]
theorem FL.get {H:Hp} : ∀ {xs:List V} {fs:List (Int × Int)} {k:Nat} {x:V},FL H xs fs→xs[k]? = some x→∃ p f,x = .ref p∧fs[k]? = some f∧H p = some (.tup [.int f.1,.int f.2])
 | _,_,0,_,.cons e t,h=>by
  rw [List.getElem?_cons_zero] at h
  cases h
  exact ⟨_,_,rfl,rfl,e⟩
 | _ :: xs,_ :: fs,k + 1,x,.cons e t,h=>by
  rw [List.getElem?_cons_succ] at h
  obtain ⟨p,f,h1,h2,h3⟩:=FL.get (k:=k) t h
  exact ⟨p,f,h1,by rw [List.getElem?_cons_succ]; exact h2,h3⟩
theorem FL.append {H:Hp} : ∀ {xs ys:List V} {fs gs:List (Int × Int)},FL H xs fs→FL H ys gs→FL H (xs ++ ys) (fs ++ gs)
 | _,_,_,_,.nil,h=>h
 | _,_,_,_,.cons e t,h=>.cons e (FL.append t h)
theorem FL.one {H:Hp} {p:Addr} {a b:Int} (h:H p = some (.tup [.int a,.int b])):FL H [.ref p] [(a,b)]:=.cons (f:=(a,b)) h .nil
theorem FL.set {H:Hp} {p:Addr} {f:Int × Int} (e0:H p = some (.tup [.int f.1,.int f.2])):∀ {xs:List V} {fs:List (Int × Int)} (k:Nat),FL H xs fs→FL H (xs.set k (.ref p)) (fs.set k f)
 | _,_,_,.nil=>.nil
 | _,_,0,.cons e t=>.cons e0 t
 | _,_,k + 1,.cons e t=>.cons e (FL.set e0 k t)
end L2
set_option Elab.async false
set_option linter.all false
set_option maxRecDepth 100000
set_option maxHeartbeats 4000000
namespace L2
open PySem PySem.Spec PyProof.Rows
section
variable {X:Cx} {tg:Expr}
end
def cutS (x:Str) (lo hi:Option Int):Str:=⟨((x.cps.toList.drop (HT.sIx x.length 0 lo)).take (HT.sIx x.length x.length hi - HT.sIx x.length 0 lo)).toArray⟩
def rSlS:V→Option Int→Option Int→Hp→VK→Prop:=fun x lo hi H Q=>∃ y,x = .str y∧y.length ≤ sizeLine∧Q (.str (cutS y lo hi)) H
end L2
set_option Elab.async false
set_option linter.all false
set_option maxRecDepth 100000
set_option maxHeartbeats 4000000
namespace L2
open PySem PySem.Spec PyProof.Rows
def tDispS (tk tv:TE):TE:=fun σ H Q=>∀ p,H p = none→tk σ (upd H p (.dK [])) fun x H1=>∃ i,x = .str i∧tv σ H1 fun y H2=>H2 p = some (.dK [])∧Q (.ref p) (upd H2 p (.dK [(.inr i,y)]))
section
variable {X:Cx}
def rAddS:R2:=fun x y H Q=>∃ i j,x = .str i∧y = .str j∧i.length + j.length ≤ sizeLine∧Q (.str (i ++ j)) H
def rLeS:R2:=fun x y H Q=>∃ i j,x = .str i∧y = .str j∧Q (.bl (!decide (j.cps.toList < i.cps.toList))) H
def rInS (neg:Bool):R2:=fun x y H Q=>∃ i j,x = .str i∧y = .str j∧∃ c,i = ⟨#[c]⟩∧Q (.bl (if neg then !decide (c ∈ j.cps.toList) else decide (c ∈ j.cps.toList))) H
def rIntT:List V→Hp→VK→Prop:=fun xs H Q=>∃ x n,xs = [.str x]∧x.length ≤ 640∧PySem.intText? x = some n∧Q (.int n) H
theorem bools_are:∀ {bs:List Bool} {us:List Value},Vals (bs.map V.bl) us→∀ (i:Nat) (v:Value),us[i]? = some v→∃ b,bs[i]? = some b∧v = .bool b
 | [],_,.nil,i,v,h=>by cases i <;> cases h
 | b :: bs,_,.cons r t,0,v,h=>by
  rw [List.getElem?_cons_zero] at h
  cases h
  exact ⟨b,rfl,r⟩
 | b :: bs,_,.cons r t,i + 1,v,h=>by
  rw [List.getElem?_cons_succ] at h
  exact bools_are t i v h
def rAllH:List V→Hp→VK→Prop:=fun xs H Q=>∃ (l:Addr) (bs:List Bool),xs = [.ref l]∧H l = some (.lst (bs.map V.bl))∧Q (.bl (bs.all id)) H
theorem range_all_bools:∀ bs:List Bool,((List.range bs.length).all fun i=>(bs[i]?).getD true) = bs.all id
 | []=>rfl
 | b :: bs=>by
  rw [List.length_cons,List.range_succ_eq_map,List.all_cons,List.all_map,List.all_cons]
  have:=range_all_bools bs
  simp only [Function.comp_def,List.getElem?_cons_succ,List.getElem?_cons_zero,Option.getD_some,id] at this ⊢
  rw [this]
theorem call_allH (hc:X.calm = true):CallR X (.builtin "all") rAllH:=by
 intro pins s σ H xs us Q I r h
 obtain ⟨l,bs,rfl,hl,q⟩:=h
 obtain ⟨u,rfl,ru⟩:=r.one
 cases ru
 obtain ⟨its,rv,p⟩:=I.lstIs hl
 have hlt:l < s.heap.objs.size:=by obtain ⟨_,e,_⟩:=p; exact Heap.lt_size e
 refine call_all_walk (wpAny_pyIter_list p ?_)
 refine ⟨s.heap.objs.size,[s.heap.objs.size,l],[s.heap.objs.size],its.toArray.size,_,_,fun i=>(bs[i]?).getD true,rfl,Walks.list (A:=X.A.in1) (I.ok.hd hc) _ l (Nat.ne_of_lt hlt) its.toArray,
  ⟨⟨_,Heap.get?_push_size _ rfl,rfl,rfl⟩,p.push _⟩,fun i v s' Q' E' hP hQ=>?_,fun h' tk hk=>?_⟩
 ·obtain ⟨b,e,rfl⟩:=bools_are rv i v (by simpa using hP)
  simp only [e,Option.getD_some] at hQ
  exact wpAny_truthy_bool hQ
 ·have e:((List.range its.toArray.size).all fun i=>(bs[i]?).getD true) = bs.all id:=by
   rw [List.size_toArray,← rv.length,List.length_map]; exact range_all_bools bs
  refine ⟨.bl (bs.all id),H,I.kept (t':=tk) fun b o q=>hk b o (fun hm=>?_) (Heap.get?_push_of_some _ q),?_,q⟩
  ·rw [List.mem_singleton.mp hm] at q
   exact Nat.lt_irrefl _ (Heap.lt_size q)
  ·rw [e]; rfl
def rStarts:V→List V→Hp→VK→Prop:=fun x vs H Q=>∃ a b,x = .str a∧vs = [.str b]∧Q (.bl (decide (0 + b.length ≤ a.length) && Builtin.Str.subAt a b 0)) H
def findV:List Nat→Int
 | i :: _=>(i:Int)
 | []=>-1
def rFind:V→List V→Hp→VK→Prop:=fun x vs H Q=>∃ a b,x = .str a∧vs = [.str b]∧Q (.int (findV (Builtin.Str.occurrences a b 0 a.length 1))) H
def rSplit:V→List V→Hp→VK→Prop:=fun x vs H Q=>∃ a b,x = .str a∧vs = [.str b]∧1 ≤ b.length∧a.length < sizeLine∧∀ p,H p = none→Q (.ref p) (upd H p (.lst ((Txt.split a b).map V.str)))
def tSM (r:V→List V→Hp→VK→Prop) (to:TE) (t:TA):TE:=fun σ H Q=>to σ H fun x H1=>(∃ y,x = .str y)∧t σ H1 fun vs H2=>r x vs H2 Q
def rMulS:R2:=fun x y H Q=>∃ i n,x = .str i∧y = .int n∧i.length = 1∧0 ≤ n∧n ≤ 1000∧∀ z:Str,z.length ≤ n.toNat + 1→Q (.str z) H
end
end L2
set_option Elab.async false
set_option linter.all false
set_option maxRecDepth 100000
set_option maxHeartbeats 4000000
namespace L2
open PySem PySem.Spec PyProof.Rows
def hid (y:Str):Str:=Str.ofString "?" ++ y
def shadG (xs:List Str) (N:List Str):List Str:=N.map fun y=>if y ∈ xs then hid y else y
def Cx.compG (X:Cx) (N':List Str) (scope:Scope) (xs:List Str) (C:Addr) (s₀:Shared) (H₀:Hp) (ex:List Addr) (pn:List (Addr × Obj)):Cx :=
 { X with env:=compEnvC scope (clOf X.env.cells scope.names []) C X.env,N:=xs ++ N',s₀:=s₀,H₀:=H₀,outer:=X.stack,ex:=ex,fn:=fun _=>false,pn:=pn,xe:=fun _ _=>False }
def PTs (X:Cx) (ifs:List Expr) (tc:TT):Prop:=∀ (pins:List (Addr × Obj)) (s:Shared) (σ:L2.St) (H:Hp) (Q:Bool→Hp→Prop),Inv X pins σ H s→tc σ H Q →
 wpAny (model X.prog X.w) X.A (forIn ifs true fun c r=>if r = true then do let ok ← isTrue c X.env (eval c X.env); pure (ForInStep.yield ok) else pure (ForInStep.yield r)) (fun b s'=>∃ H',Inv X pins σ H' s'∧Q b H') X.xe s
def tYes:TT:=fun _ H Q=>Q true H
theorem pts_nil {X:Cx} : PTs X [] tYes:=fun _ _ _ H _ I q=>wpAny_tests_nil ⟨H,I,q⟩
theorem pts_one {X:Cx} {c:Expr} {tc:TT} (h:PT X c tc):PTs X [c] tc:=fun pins s σ H Q I q=>wpAny_tests_one (h pins s σ H Q I q)
def tCompG (wi:TI) (n:Nat) (gt:TG) (tc:TT) (te:TE):TE:=fun σ H Q=>wi σ H fun J H1=>∀ D,H1 D = none→∃ W:Nat→Nat→List V→Hp→Prop,(∃ m,W 0 m [] (upd H1 D (.lst [])))∧∀ i m ys Hc,W i m ys Hc →
 (J.stop i Hc∧Q (.ref D) Hc)∨(J.go i Hc∧∀ x H',J.yld i Hc x H'→∀ pre:L2.St,pre.length = n→gt x (pre ++ σ) H' fun σ2 H2=>∃ pre':L2.St,pre'.length = n∧σ2 = pre' ++ σ∧tc σ2 H2 fun b H3 =>
  match b with
  | true=>te σ2 H3 fun y H4=>ys.length < sizeLine∧H4 D = some (.lst ys)∧∃ m',m' < m∧W (i + 1) m' (ys ++ [y]) (upd H4 D (.lst (ys ++ [y])))
  | false=>∃ m',m' < m∧W (i + 1) m' ys H3)
section
variable {X:Cx} {elt iter:Expr} {pos:Pos} {scope:Scope} {wi:TI} {te:TE}
theorem compG_core {use:Option (Value→Sem Unit)} {post:Value→Shared→Prop} {Qv:VK} {pins:List (Addr × Obj)} {s:Shared} {σ:L2.St} {H:Hp} {pp:Pos} {xs N':List Str} {tg:Expr} {ifs:List Expr} {gt:TG} {tc:TT} (hc:X.calm = true) (hsh:shadG xs X.N = N') (hN:(xs ++ N').Nodup) (hkind:scope.kind = .function) (hcell:∀ y ∈ scope.names,y.2 ≠ .cell) (hnames:∀ y ∈ scope.names,y.2 = .local→scope.names.lookup y.1 = some .local)
  (hfree:∀ y ∈ scope.names,y.2 = .free→X.env.kindOf y.1 = some .cell∨X.env.kindOf y.1 = some .free) (hloc:∀ y ∈ X.N,y ∉ xs→(relabel scope X.env).names.lookup y ≠ some .local) (hq:∀ y ∈ X.N,y ∈ xs→(relabel scope X.env).names.lookup (hid y) = none) (hi:PI X tg iter wi)
  (hg:∀ C s₀ H₀ ex pn,PG (X.compG N' scope xs C s₀ H₀ ex pn) tg gt) (ht:∀ C s₀ H₀ ex pn,PTs (X.compG N' scope xs C s₀ H₀ ex pn) ifs tc) (he:∀ C s₀ H₀ ex pn,PE (X.compG N' scope xs C s₀ H₀ ex pn) elt te) (hs:∀ z,foldedSetIterable iter X.env z = pure z) (I:Inv X pins σ H s) (h:tCompG wi xs.length gt tc te σ H Qv)
  (endC:∀ (C D:Addr) (Hc:Hp) (s6:Shared) (m:Str→Option Value) (fl:Flow),s6.heap.Ns C m→Inv X pins σ Hc s6→FpOk X pins Hc C→Qv (.ref D) Hc→compPost (model X.prog X.w) X.A X.xe use post (.ref D) C (.ok fl) s6) :
  wpAny (model X.prog X.w) X.A (comprehension (.ListComp elt [⟨tg,iter,ifs,0⟩] scope pos) scope X.env pp (newList []) false (eval iter X.env) use) post X.xe s:=by
 have hfr:∀ y ∈ scope.names,y.2 = .free→∃ c,X.env.cells.lookup y.1 = some c:=fun y hy e=>I.ok.has y.1 (hfree y hy e)
 refine wpAny_comprehension_free (use:=use) (Q:=post) rfl hs (closure_eq hfr) hkind hnames (thn (hi pins s σ H _ I h) fun v s1 h1=>thn h1 fun itv s2 h2=>?_)
 obtain ⟨it,fp,tn,J,H2,e,I2,T,st2,f2,R⟩:=h2
 subst e
 have nD:H2 s2.heap.objs.size = none:=I2.hok.fresh (Nat.le_refl _)
 obtain ⟨W,⟨m0,w0⟩,turn⟩:=R s2.heap.objs.size nD
 refine wpAny_newObj_type ?_ (by show 0 ≤ sizeLine; exact Nat.zero_le _)
 have I3:Inv X pins σ (upd H2 s2.heap.objs.size (.lst [])) { s2 with heap:=s2.heap.push { cls:=.type "list",dict:=none,data:=.seq ([] : List Value).toArray } }:=I2.lnew (t':=s2.toks) (ys:=[]) (its:=[]) .nil (Nat.zero_le _)
 have oldT:∀ b o,s2.heap.get? b = some o→(s2.heap.push { cls:=.type "list",dict:=none,data:=.seq ([] : List Value).toArray }).get? b = some o:=fun b o e=>Heap.get?_push_of_some _ e
 generalize hs3:({ s2 with heap:=s2.heap.push { cls:=.type "list",dict:=none,data:=.seq ([] : List Value).toArray } } : Shared) = s3 at I3 ⊢
 have st3:tn 0 s3.heap:=T.keep _ _ _ st2 fun b _ o e=>by rw [← hs3]; exact oldT b o e
 generalize hH3:upd H2 s2.heap.objs.size (.lst []) = H3 at I3 w0
 have f3:∀ b ∈ fp,FpOk X pins H3 b:=fun b hb=>by
  obtain ⟨a1,a2⟩:=f2 b hb
  refine ⟨?_,a2⟩
  obtain ⟨o,e,_⟩:=T.obj _ _ st2 b hb
  rw [← hH3,upd_ne (Nat.ne_of_lt (Heap.lt_size e))]
  exact a1
 refine wpAny_newFunctionEnv hcell (by intro y hy; simp at hy) (fun g hns hsb=>?_) hkind
 have kg:∀ b o,s3.heap.get? b = some o→g.get? b = some o:=fun b o e=>(hsb.2 b (Nat.ne_of_lt (Heap.lt_size e))).trans (Heap.get?_push_of_some _ e)
 have clm:∀ {y:Str} {c:Addr},(clOf X.env.cells scope.names []).lookup y = some c→X.env.cells.lookup y = some c:=fun {y c} e=>by
  rcases clOf_mem hfr (PySem.mem_of_lookup e) with z | z
  ·cases z
  ·exact z
 have kinds:∀ {y:Str},((relabel scope X.env).names.lookup y = some .cell∨(relabel scope X.env).names.lookup y = some .free)→(X.env.kindOf y = some .cell∨X.env.kindOf y = some .free)∧∃ c,(clOf X.env.cells scope.names []).lookup y = some c:=fun {y} e=>by
  have z:=relabel_free e hcell
  obtain ⟨c,hc'⟩:=clOf_has (cells:=X.env.cells) (acc:=[]) (.inl z)
  exact ⟨hfree _ z rfl,lookup_some_of_mem hc'⟩
 have lt3:∀ b ∈ fp,b < s3.heap.objs.size:=fun b hb=>by
  obtain ⟨o,e,_⟩:=T.obj _ _ st3 b hb
  exact Heap.lt_size e
 have nst:∀ b ∈ fp,b ∉ frs X.stack:=fun b hb=>I3.nostk' (f3 b hb).2.1 (f3 b hb).2.2.1
 generalize hX:X.compG N' scope xs s3.heap.objs.size s3 H3 fp (X.pn ++ pins) = Y
 have ok':Y.Ok:=by
  subst hX
  exact ⟨I3.ok.mod,hkind,I3.ok.glob,I3.ok.blt,Nat.le_refl _,fun y z c h1 h2=>I3.ok.inj y z c (clm h1) (clm h2),fun y hy=>(kinds hy).2,fun _ _ z=>(nomatch z),I3.ok.hd,I3.ok.frames,.inl rfl,
   fun b hb=>⟨Nat.ne_of_lt (lt3 b hb),fun y c e=>(f3 b hb).2.2.2.2.1 y c (clm e)⟩,I3.bs,Nat.le_trans I3.ok.bsz I3.sz,fun b o e hb=>by
    rcases (f3 b hb).2.2.2.1 with z | z
    ·exact I3.ok.noex b o e z
    ·exact absurd (Nat.lt_of_lt_of_le (Nat.lt_of_lt_of_le (Heap.lt_size e) I3.ok.bsz) z) (Nat.lt_irrefl _),nst,I3.stack,I3.stkFree⟩
 have J4:∀ tk,Inv Y [] (List.replicate xs.length none ++ σ) H3 { s3 with heap:=g,toks:=tk }:=fun tk=>by
  subst hX
  refine ⟨ok',rfl,I3.bare,Un.kept kg,⟨_,hns,fun i y v e1 e2 e3=>?_⟩,fun y c e=>?_,I3.hok.fresh (Nat.le_refl _),fun y c e=>I3.freeC y c (clm e),fun p hp=>?_,I3.hok.kept kg,?_⟩
  ·by_cases hin:i < xs.length
   ·rw [List.getElem?_append_left (by rw [List.length_replicate]; exact hin),List.getElem?_replicate,if_pos hin] at e2
    cases e2
   ·obtain ⟨j,rfl⟩ : ∃ j,i = xs.length + j:=⟨i - xs.length,by omega⟩
    have e0:N'[j]? = some y:=by
     have e1:(xs ++ N')[xs.length + j]? = some y:=e1
     rw [List.getElem?_append_right (by omega)] at e1
     rw [show xs.length + j - xs.length = j by omega] at e1
     exact e1
    have e2':σ[j]? = some (some v):=by
     rw [List.getElem?_append_right (by rw [List.length_replicate]; omega),List.length_replicate] at e2
     rw [show xs.length + j - xs.length = j by omega] at e2
     exact e2
    rw [← hsh] at e0
    obtain ⟨y0,e1',ey⟩ : ∃ y0,X.N[j]? = some y0∧(if y0 ∈ xs then hid y0 else y0) = y:=by
     unfold shadG at e0
     rw [List.getElem?_map] at e0
     cases hz:X.N[j]? with
     | none=>rw [hz] at e0; cases e0
     | some y0=>rw [hz] at e0; exact ⟨y0,rfl,Option.some.inj e0⟩
    have e3:(relabel scope X.env).names.lookup y = some .local∨(relabel scope X.env).names.lookup y = some .cell∨(relabel scope X.env).names.lookup y = some .free:=e3
    have ne:¬ y0 ∈ xs:=fun z=>by
     rw [if_pos z] at ey
     subst ey
     rw [hq y0 (List.mem_of_getElem? e1') z] at e3
     rcases e3 with z | z | z <;> cases z
    rw [if_neg ne] at ey
    subst ey
    have e3':(relabel scope X.env).names.lookup y0 = some .cell∨(relabel scope X.env).names.lookup y0 = some .free:=by
     rcases e3 with z | z
     ·exact absurd z (hloc y0 (List.mem_of_getElem? e1') ne)
     ·exact z
    obtain ⟨kd,c,hcl⟩:=kinds e3'
    obtain ⟨m,_,hl⟩:=I3.loc
    obtain ⟨u,r,lk⟩:=hl j y0 v e1' e2' (.inr kd)
    refine ⟨u,r,.inr ⟨e3',c,hcl,?_⟩⟩
    rcases lk with ⟨k1,_⟩ | ⟨_,c',q1,o,q2,q3⟩
    ·exfalso
     have k1':X.env.kindOf y0 = some .local:=k1
     rcases kd with k2 | k2 <;> rw [k1'] at k2 <;> cases k2
    ·rw [clm hcl] at q1
     cases q1
     exact ⟨o,kg _ _ q2,q3⟩
  ·obtain ⟨v,o,q2,q3⟩:=I3.cell y c (clm e)
   exact ⟨v,o,kg _ _ q2,q3⟩
  ·have hp':p ∈ X.pn ++ pins:=by simpa [Cx.compG] using hp
   obtain ⟨a1,a2,a3,a4,a5⟩:=I3.pin p hp'
   exact ⟨kg _ _ a1,a2,Nat.ne_of_lt (Heap.lt_size a1),I3.nostk' a3 a4,a5⟩
  ·show (List.replicate xs.length none ++ σ).length = (xs ++ N').length
   have hln:N'.length = X.N.length:=by rw [← hsh]; unfold shadG; rw [List.length_map]
   rw [List.length_append,List.length_replicate,List.length_append,I3.len,hln]
 have fpY:∀ {Hc:Hp},(∀ b ∈ fp,Hc b = none)→∀ b ∈ fp,FpOk Y [] Hc b:=fun {Hc} hn b hb=>by
  subst hX
  exact ⟨hn b hb,Nat.ne_of_lt (lt3 b hb),nst b hb,.inl hb,fun y c e=>(f3 b hb).2.2.2.2.1 y c (clm e),fun p hp=>(f3 b hb).2.2.2.2.2 p (by simpa [Cx.compG] using hp)⟩
 have loop:∀ s4:Shared,s4 = { s3 with heap:=g,toks:=s3.toks + ([] : List (Str × Value)).length } →
   codeAny (model X.prog X.w) X.A (.compLoop (.ListComp elt [⟨tg,iter,ifs,0⟩] scope pos) 0 (.ref it) (.ref s2.heap.objs.size) Y.env) (compPost (model X.prog X.w) X.A X.xe use post (.ref s2.heap.objs.size) s3.heap.objs.size) s4:=by
  rintro s4 rfl
  have YP:Y.prog = X.prog∧Y.w = X.w∧Y.K = X.K∧Y.calm = X.calm∧Y.A = X.A∧Y.env.locals = s3.heap.objs.size:=by subst hX; exact ⟨rfl,rfl,rfl,rfl,rfl,rfl⟩
  obtain ⟨y1,y2,y3,y4,y5,y6⟩:=YP
  have he':PE Y elt te:=by subst hX; exact he _ _ _ _ _
  have hg':PG Y tg gt:=by subst hX; exact hg _ _ _ _ _
  have ht':PTs Y ifs tc:=by subst hX; exact ht _ _ _ _ _
  have xeY:Y.xe = fun _ _=>False:=by subst hX; rfl
  have yb:∀ {Hc:Hp} {w':L2.St} {pn:List (Addr × Obj)} {s':Shared},Inv Y pn w' Hc s'→Un (frs X.stack) fp H3 Hc s3.heap s'.heap:=fun {Hc w' pn s'} Z=>by
   have:=Z.base
   subst hX
   exact this
  have yos:∀ {Hc:Hp} {w':L2.St} {pn:List (Addr × Obj)} {s':Shared},Inv Y pn w' Hc s'→s'.os = s3.os:=fun {Hc w' pn s'} Z=>by
   have:=Z.os
   subst hX
   exact this
  refine codeAny_loop rfl (fun n s'=>∃ i ys Hc,∃ w':L2.St,w'.length = xs.length∧Inv Y [] (w' ++ σ) Hc s'∧tn i s'.heap∧(∀ b ∈ fp,Hc b = none)∧W i n ys Hc) (fun n s5 hI=>?_) m0 ⟨0,[],H3,List.replicate xs.length none,List.length_replicate,J4 _,T.keep _ _ _ st3 fun b _ o e=>kg b o e,fun b hb=>(f3 b hb).1,w0⟩
  obtain ⟨i,ys,Hc,w',hw',Z,stc,frc,wc⟩:=hI
  show wpAny _ _ ((compTurn (.ListComp elt [⟨tg,iter,ifs,0⟩] scope pos) 0 (.ref it) (.ref s2.heap.objs.size) Y.env).onRaise (fun z=>do noteFrame z Y.env; theTreesLotGoes z)) _ _ s5
  refine wpAny_noted (wpAny_noRaise ?_)
  rw [compTurn_list]
  show wpAny (model X.prog X.w) X.A _ _ _ _
  rcases turn i n ys Hc wc with ⟨stop,qn⟩ | ⟨go,step⟩
  ·have hd:=T.done Y y1 y2 y3 (y4.trans hc) i [] s5 (w' ++ σ) Hc (fun _ _=>False) Z (fpY frc) stc stop
   rw [y5] at hd
   refine wpAny_bind (wpAny_standAt (wpAny_bind (thn hd fun r s6 ⟨hr,Z6⟩=>?_)))
   subst hr
   refine wpAny_pure ?_
   obtain ⟨m,hn6,_⟩:=Z6.loc
   rw [y6] at hn6
   have u6:=yb Z6
   have hok:HOk X.prog X.w Hc s6.heap:=by
    have z:=Z6.hok
    rw [y1,y2] at z
    exact z
   have cn:Hc s3.heap.objs.size = none:=by
    have z:=Z6.free
    rw [y6] at z
    exact z
   have I6:Inv X pins σ Hc s6:=I3.call' (s':=s6) (ch:=fp) (yos Z6) u6 hok Z6.bare fun b hb=>⟨(f3 b hb).2.2.2.1,(f3 b hb).2.1,(f3 b hb).2.2.2.2.1,(f3 b hb).2.2.2.2.2⟩
   have fC:FpOk X pins Hc s3.heap.objs.size:=I3.fpOk (Nat.le_refl _) cn
   exact endC _ _ Hc s6 m _ hn6 I6 fC qn
  ·have hd:=T.item Y y1 y2 y3 (y4.trans hc) i [] s5 (w' ++ σ) Hc (fun _ _=>False) Z (fpY frc) stc go
   rw [y5] at hd
   refine wpAny_bind (wpAny_standAt (wpAny_bind (thn hd fun r s6 ⟨u,hr,h6⟩=>?_)))
   subst hr
   refine wpAny_bind (thn h6 fun _ s7 ⟨xv,H7,Z7,r7,yl,st7,fr7⟩=>?_)
   have Z7':=Z7.pinned (fpY fr7) (T.obj _ _ st7)
   have hst:=hg' _ s7 _ H7 xv u _ Z7' r7 (step xv H7 yl w' hw')
   rw [y1,y2,y5,xeY] at hst
   refine wpAny_bind (thn hst fun _ s8 ⟨σ8,H8,Z8,pre,hpre,e8,q8⟩=>?_)
   subst e8
   have hte:=ht' _ s8 _ H8 _ Z8 q8
   rw [y1,y2,y5,xeY] at hte
   have fin:∀ {m':Nat} {ys':List V} {H9:Hp} {s9:Shared},Inv Y ([] ++ pinsAt fp s7.heap) (pre ++ σ) H9 s9→m' < n→W (i + 1) m' ys' H9→∃ m,m < n∧∃ i ys Hc,∃ w':L2.St,w'.length = xs.length∧Inv Y [] (w' ++ σ) Hc s9∧tn i s9.heap∧(∀ b ∈ fp,Hc b = none)∧W i m ys Hc:=fun {m' ys' H9 s9} Z9 hm' w9 =>
    ⟨m',hm',i + 1,ys',H9,pre,hpre,Z9.unpinned,T.keep _ _ _ st7 fun b hb o e=>(Z9.pin (b,o) (List.mem_append_right _ (List.mem_append_right _ (mem_pinsAt hb e)))).1,fun b hb=>by
     obtain ⟨o,e,_⟩:=T.obj _ _ st7 b hb
     exact (Z9.pin (b,o) (List.mem_append_right _ (List.mem_append_right _ (mem_pinsAt hb e)))).2.1,w9⟩
   refine wpAny_bind (thn hte fun ok s9 ⟨H9,Z9,q9⟩=>?_)
   cases ok with
   | false =>
    obtain ⟨m',hm',w9⟩:=q9
    exact wpAny_pure ⟨rfl,fin Z9 hm' w9⟩
   | true =>
    have hel:=he' _ s9 _ H9 _ Z9 q9
    rw [y1,y2,y5,xeY] at hel
    refine wpAny_bind (wpAny_bind (thn hel fun ev s10 ⟨yv,H10,Z10,r10,hz,hD10,m',hm',w10⟩=>?_))
    have hap:=mt_append (X:=Y) _ s10 _ H10 (.ref s2.heap.objs.size) [yv] (.ref s2.heap.objs.size) [ev] (fun _ Hf=>Hf = upd H10 s2.heap.objs.size (.lst (ys ++ [yv]))) Z10 rfl (.cons r10 .nil) ⟨_,ys,yv,rfl,rfl,hD10,hz,rfl⟩
    rw [y1,y2,y5,xeY] at hap
    refine wpAny_bind (thn hap fun av s11 ⟨_,H11,Z11,_,e11⟩=>?_)
    subst e11
    exact wpAny_pure (wpAny_pure ⟨rfl,fin Z11 hm' w10⟩)
 have henv:Y.env = compEnvC scope (clOf X.env.cells scope.names []) s3.heap.objs.size X.env:=by subst hX; rfl
 rw [henv] at loop
 exact codeAny_compStart_list (loop _ rfl) (T.self _ 0 _ _ _ (T.keep _ _ _ st3 fun b _ o e=>kg b o e) (loop _ rfl))
theorem pe_compG {xs N':List Str} {tg:Expr} {ifs:List Expr} {gt:TG} {tc:TT} (hc:X.calm = true) (hsh:shadG xs X.N = N') (hN:(xs ++ N').Nodup) (hkind:scope.kind = .function) (hcell:∀ y ∈ scope.names,y.2 ≠ .cell) (hnames:∀ y ∈ scope.names,y.2 = .local→scope.names.lookup y.1 = some .local)
  (hfree:∀ y ∈ scope.names,y.2 = .free→X.env.kindOf y.1 = some .cell∨X.env.kindOf y.1 = some .free) (hloc:∀ y ∈ X.N,y ∉ xs→(relabel scope X.env).names.lookup y ≠ some .local) (hq:∀ y ∈ X.N,y ∈ xs→(relabel scope X.env).names.lookup (hid y) = none) (hi:PI X tg iter wi)
  (hg:∀ C s₀ H₀ ex pn,PG (X.compG N' scope xs C s₀ H₀ ex pn) tg gt) (ht:∀ C s₀ H₀ ex pn,PTs (X.compG N' scope xs C s₀ H₀ ex pn) ifs tc) (he:∀ C s₀ H₀ ex pn,PE (X.compG N' scope xs C s₀ H₀ ex pn) elt te) (hs:∀ z,foldedSetIterable iter X.env z = pure z:=by intro _; rfl) :
  PE X (.ListComp elt [⟨tg,iter,ifs,0⟩] scope pos) (tCompG wi xs.length gt tc te):=by
 intro pins s σ H Q I h
 rw [eval_ListComp]
 exact compG_core hc hsh hN hkind hcell hnames hfree hloc hq hi hg ht he hs I h fun C D Hc s6 m fl hn I6 fC q=>⟨m,hn,fun h' hs'=>⟨.ref D,Hc,I6.turned (it:=C) (h':=h') (t':=s6.toks) (fun b o hb e=>(hs'.2 b hb).trans e) fC.1 fC.2.1 fC.2.2.2.1 fC.2.2.2.2.1 fC.2.2.2.2.2,rfl,q⟩⟩
end
end L2
set_option Elab.async false
set_option linter.all false
set_option maxRecDepth 100000
set_option maxHeartbeats 4000000
namespace L2
open PySem PySem.Spec PyProof.Rows
section
variable {X:Cx} {k:Nat} {f C:Addr} {fd:FuncData} {ps:List Str} {sp:Sp} {dvs:List V} {ds:List Value} {x m:Str} {p pos apos:Pos} {e o:Expr} {es:List Expr} {ta:TE} {t:TA} {Ex:Value→Option Addr→L2.St→Hp→Prop}
end
end L2
set_option Elab.async false
set_option linter.all false
set_option maxRecDepth 100000
set_option maxHeartbeats 4000000
namespace L2
open PySem PySem.Spec PyProof.Rows
section
variable {X:Cx} {k:Nat} {f B:Addr} {fd:FuncData} {ps:List Str} {sp:Sp} {dvs:List V} {ds:List Value} {x m:Str} {p pos apos:Pos} {e:Expr} {es:List Expr} {t:TA} {Ex:Value→Option Addr→L2.St→Hp→Prop}
end
end L2
set_option Elab.async false
set_option linter.all false
set_option maxRecDepth 100000
set_option maxHeartbeats 4000000
namespace L2
open PySem PySem.Spec PyProof.Rows
section
variable {κ:Type} [DecidableEq κ]
def valV (kvs:List (κ × V)) (k:κ):Option V:=(kvs.find? fun kv=>decide (kv.1 = k)).map (·.2)
def putK (kvs:List (κ × V)) (k:κ) (v:V):List (κ × V) :=
 if (kvs.any fun kv=>decide (kv.1 = k)) = true then kvs.map (fun kv=>if kv.1 = k then (kv.1,v) else kv) else kvs ++ [(k,v)]
end
section
variable {P:Program} {w:World} {H:Hp} {h:Heap} {a:Addr}
end
def DGet (H:Hp) (a:Addr) (y:V) (r:Option V):Prop :=
 (∃ kvs k,Rd H a (.dK kvs)∧y = kV k∧r = valV kvs k)∨False
def DPut (H:Hp) (a:Addr) (y v:V) (H':Hp):Prop :=
 (∃ kvs k,H a = some (.dK kvs)∧y = kV k∧kvs.length < sizeLine∧H' = upd H a (.dK (putK kvs k v)))∨False
section
variable {X:Cx} {pins:List (Addr × Obj)} {σ:St} {H:Hp} {s:Shared} {a:Addr} {y v:V} {u r:Value} {o:Option V} {A:Around} {E:Value→Shared→Prop}
end
section
variable {X:Cx} {pins:List (Addr × Obj)} {σ:St} {H:Hp} {s:Shared} {a:Addr} {kvs:List (Key × V)} {k:Key} {u:Value} {A:Around} {E:Value→Shared→Prop}
end
def tDGet (td ty:TE):TE:=fun σ H Q=>td σ H fun x H1=>ty σ H1 fun y H2=>∃ a v,x = .ref a∧DGet H2 a y (some v)∧Q v H2
def tDIn (ty td:TE):TE:=fun σ H Q=>ty σ H fun y H1=>td σ H1 fun x H2=>∃ a o,x = .ref a∧DGet H2 a y o∧Q (.bl o.isSome) H2
def tDNotIn (ty td:TE):TE:=fun σ H Q=>ty σ H fun y H1=>td σ H1 fun x H2=>∃ a o,x = .ref a∧DGet H2 a y o∧Q (.bl (!o.isSome)) H2
def sDPut (td ty tv:TE):TS:=fun D σ H=>tv σ H fun v H1=>td σ H1 fun x H2=>ty σ H2 fun y H3=>∃ a H4,x = .ref a∧DPut H3 a y v H4∧D.nx σ H4
section
variable {X:Cx} {o i e value:Expr} {pos pos' tpos:Pos} {td ty tv:TE}
end
def tDNewK:TE:=fun _ H Q=>∀ p,H p = none→Q (.ref p) (upd H p (.dK []))
section
variable {X:Cx} {pos:Pos}
end
def IsD (H:Hp) (a:Addr):Prop:=(∃ kvs,Rd H a (.dK kvs))∨False
section
variable {X:Cx} {pins:List (Addr × Obj)} {σ:St} {H:Hp} {s:Shared} {a:Addr} {y d:V} {u r:Value} {o:Option V} {A:Around} {E:Value→Shared→Prop}
end
def tDGet2 (td ty tx:TE):TE:=fun σ H Q=>td σ H fun x H1=>∃ a,x = .ref a∧IsD H1 a∧ty σ H1 fun y H2=>tx σ H2 fun z H3=>∃ o,DGet H3 a y o∧Q (o.getD z) H3
section
variable {X:Cx} {o e f:Expr} {apos cpos:Pos} {td ty tx:TE}
end
section
variable {X:Cx} {pins:List (Addr × Obj)} {σ:St} {H:Hp} {s:Shared} {a:Addr} {kvs:List (Key × V)} {A:Around} {E:Value→Shared→Prop}
end
section
variable {X:Cx} {pins:List (Addr × Obj)} {σ:St} {H:Hp} {s:Shared} {a:Addr} {y:V} {u:Value} {A:Around} {E:Value→Shared→Prop}
end
section
variable {κ:Type} [DecidableEq κ]
end
end L2
set_option Elab.async false
set_option linter.all false
set_option maxRecDepth 100000
set_option maxHeartbeats 4000000
namespace L2
open PySem PySem.Spec PyProof.Rows
section
variable {X:Cx} {tg:Expr}
def tMG (g:TG):TG:=fun v σ H Q=>∃ R:L2.St→Hp→Prop,g v σ H R∧∀ σ' H',R σ' H'→Q σ' H'
def tMT (t:TT):TT:=fun σ H Q=>∃ R:Bool→Hp→Prop,t σ H R∧∀ b H',R b H'→Q b H'
theorem PG.mono {e:Expr} {g:TG} (h:PG X e g):PG X e (tMG g):=fun pins s σ H v u Q I r ⟨R,h1,h2⟩=>thn (h pins s σ H v u R I r h1) fun _ s' ⟨σ',H',I',q⟩=>⟨σ',H',I',h2 σ' H' q⟩
theorem PTs.mono {ifs:List Expr} {t:TT} (h:PTs X ifs t):PTs X ifs (tMT t):=fun pins s σ H Q I ⟨R,h1,h2⟩=>thn (h pins s σ H R I h1) fun b s' ⟨H',I',q⟩=>⟨H',I',h2 b H' q⟩
theorem pe_compGF {elt iter tg:Expr} {pos:Pos} {scope:Scope} {wi:TI} {te:TE} {ifs:List Expr} {gt:TG} {tc:TT} (sc:Scope) (N N' xs:List Str) (hsc:X.env.scope = sc) (hNN:X.N = N) (hc:X.calm = true) (hsh:shadG xs N = N') (hN:(xs ++ N').Nodup) (hkind:scope.kind = .function) (hcell:∀ y ∈ scope.names,y.2 ≠ .cell)
  (hnames:∀ y ∈ scope.names,y.2 = .local→scope.names.lookup y.1 = some .local) (hfree:∀ y ∈ scope.names,y.2 = .free→sc.names.lookup y.1 = some .cell∨sc.names.lookup y.1 = some .free)
  (hloc:∀ y ∈ N,y ∉ xs→(scope.names.map fun (n,k)=>if (k == NameKind.free && sc.kind == .function && sc.names.lookup n == some .cell) then (n,NameKind.cell) else (n,k)).lookup y ≠ some .local)
  (hq:∀ y ∈ N,y ∈ xs→(scope.names.map fun (n,k)=>if (k == NameKind.free && sc.kind == .function && sc.names.lookup n == some .cell) then (n,NameKind.cell) else (n,k)).lookup (hid y) = none) (hi:PI X tg iter wi)
  (hg:∀ C s₀ H₀ ex pn,PG (X.compG N' scope xs C s₀ H₀ ex pn) tg gt) (ht:∀ C s₀ H₀ ex pn,PTs (X.compG N' scope xs C s₀ H₀ ex pn) ifs tc) (he:∀ C s₀ H₀ ex pn,PE (X.compG N' scope xs C s₀ H₀ ex pn) elt te) (hs:∀ z,foldedSetIterable iter X.env z = pure z:=by intro _; rfl) :
  PE X (.ListComp elt [⟨tg,iter,ifs,0⟩] scope pos) (tCompG wi xs.length (tMG gt) (tMT tc) (tM te)):=by
 subst hsc hNN
 exact pe_compG hc hsh hN hkind hcell hnames hfree hloc hq hi (fun C s₀ H₀ ex pn=>(hg C s₀ H₀ ex pn).mono) (fun C s₀ H₀ ex pn=>(ht C s₀ H₀ ex pn).mono) (fun C s₀ H₀ ex pn=>(he C s₀ H₀ ex pn).mono) hs
def tTurn (n:Nat) (gt:TG) (tc:TT) (te:TE) (x:V) (σ:L2.St) (H:Hp) (Y:VK) (No:Hp→Prop):Prop:=∀ pre:L2.St,pre.length = n→gt x (pre ++ σ) H fun σ2 H2=>∃ pre':L2.St,pre'.length = n∧σ2 = pre' ++ σ∧tc σ2 H2 fun b H3 =>
 match b with
 | true=>te σ2 H3 Y
 | false=>No H3
theorem tTurn.weak {n:Nat} {gt:TG} {tc:TT} {te:TE} {x:V} {σ:L2.St} {H:Hp} {Y Y':VK} {No No':Hp→Prop} (h:tTurn n gt tc te x σ H Y No) (h1:∀ y H',Y y H'→Y' y H') (h2:∀ H',No H'→No' H'):tTurn n (tMG gt) (tMT tc) (tM te) x σ H Y' No':=fun pre hp =>
 ⟨_,h pre hp,fun σ2 H2 ⟨pre',e1,e2,q⟩=>⟨pre',e1,e2,_,q,fun b H3 z=>match b,z with
  | true,z=>⟨_,z,h1⟩
  | false,z=>h2 H3 z⟩⟩
theorem tCompG_list {K:PySem.W.Frag} {tl te:TE} {gt:TG} {tc:TT} {n:Nat} {σ:L2.St} {H:Hp} {Q:VK} (h:tl σ H fun x H1=>∃ a xs,x = .ref a∧H1 a = some (.lst xs)∧xs.length ≤ sizeLine∧∀ D,H1 D = none→∃ J:Nat→List V→Hp→Prop,J 0 [] (upd H1 D (.lst [])) ∧
   (∀ k x ys Hc,xs[k]? = some x→J k ys Hc→ys.length ≤ k→Hc a = some (.lst xs)→tTurn n gt tc te x σ Hc (fun y H2=>H2 D = some (.lst ys)∧H2 a = some (.lst xs)∧J (k + 1) (ys ++ [y]) (upd H2 D (.lst (ys ++ [y])))) fun H2=>H2 a = some (.lst xs)∧J (k + 1) ys H2) ∧
   ∀ ys Hc,J xs.length ys Hc→ys.length ≤ xs.length→Q (.ref D) Hc):tCompG (iList K (tM tl)) n (tMG gt) (tMT tc) (tM te) σ H Q:=by
 refine ⟨_,h,?_⟩
 rintro x H1 ⟨a,xs,rfl,hx,hz,rest⟩
 refine ⟨a,rfl,⟨xs,.of hx⟩,fun D hD=>?_⟩
 obtain ⟨J,j0,step,fin⟩:=rest D hD
 have ne:a ≠ D:=ne_of_none hx hD
 refine ⟨fun k m ys Hc=>k ≤ xs.length∧m = xs.length - k∧ys.length ≤ k∧Hc a = some (.lst xs)∧J k ys Hc,⟨_,Nat.zero_le _,rfl,Nat.zero_le _,(upd_ne ne).trans hx,j0⟩,?_⟩
 rintro k m ys Hc ⟨hk,rfl,hy,hx',j⟩
 by_cases e:k = xs.length
 ·subst e
  exact .inl ⟨⟨xs,.of hx',Nat.le_refl _⟩,fin ys Hc j hy⟩
 ·have hlt:k < xs.length:=by omega
  refine .inr ⟨⟨xs,_,.of hx',List.getElem?_eq_getElem hlt⟩,?_⟩
  rintro x H'' ⟨rfl,y⟩
  refine (step k x ys H'' (y xs (.of hx')) j hy hx').weak ?_ ?_
  ·rintro yv H2 ⟨z1,z2,z3⟩
   refine ⟨by omega,z1,xs.length - (k + 1),by omega,by omega,rfl,?_,?_,z3⟩
   ·rw [List.length_append]; simp; omega
   ·rw [upd_ne ne]; exact z2
  ·rintro H2 ⟨z2,z3⟩
   exact ⟨xs.length - (k + 1),by omega,by omega,rfl,by omega,z2,z3⟩
end
end L2
set_option Elab.async false
set_option linter.all false
set_option maxRecDepth 100000
set_option maxHeartbeats 4000000
namespace L2
open PySem PySem.Spec PyProof.Rows
theorem Same.tup {K:PySem.W.Frag} {H H':Hp} {a:Addr} {xs:List V} (e:Same H H') (h:SqT K H a xs):SqT K H' a xs:=by
 rcases h with (h | ⟨o,h⟩) | h
 ·exact .inl (.inl (e _ _ h))
 ·exact .inl (.inr ⟨o,e _ _ h⟩)
 ·exact .inr h
theorem SqT.updO {K:PySem.W.Frag} {H:Hp} {a l:Addr} {xs:List V} {o u:HO} (h:SqT K H a xs) (hl:H l = some o) (h1:∀ ys,o ≠ .tup ys) (h2:∀ ob ys,o ≠ .frz ob (.tup ys)):SqT K (upd H l u) a xs:=by
 rcases h with (h | ⟨ob,h⟩) | h
 ·exact .inl (.inl ((upd_ne (ne_of h hl (fun z=>h1 xs z.symm))).trans h))
 ·exact .inl (.inr ⟨ob,(upd_ne (ne_of h hl (fun z=>h2 ob xs z.symm))).trans h⟩)
 ·exact .inr h
mutual
inductive ShowsK (K:PySem.W.Frag) (H:Hp):V→PyData→Prop
 | non:ShowsK K H .non .none
 | bl (b:Bool):ShowsK K H (.bl b) (.bool b)
 | int (i:Int):ShowsK K H (.int i) (.int i)
 | str (x:Str):ShowsK K H (.str x) (.str x)
 | lst {a:Addr} {xs:List V} {ds:List PyData} : H a = some (.lst xs)→ShowsAllK K H xs ds→ShowsK K H (.ref a) (.list ds)
 | tup {a:Addr} {xs:List V} {ds:List PyData} : SqT K H a xs→ShowsAllK K H xs ds→ShowsK K H (.ref a) (.tuple ds)
inductive ShowsAllK (K:PySem.W.Frag) (H:Hp):List V→List PyData→Prop
 | nil:ShowsAllK K H [] []
 | cons {x:V} {xs:List V} {d:PyData} {ds:List PyData} : ShowsK K H x d→ShowsAllK K H xs ds→ShowsAllK K H (x :: xs) (d :: ds)
end
mutual
theorem ShowsK.same {K:PySem.W.Frag} {H H':Hp} (S:Same H H'):∀ {x:V} {d:PyData},ShowsK K H x d→ShowsK K H' x d
 | _,_,.non=>.non
 | _,_,.bl b=>.bl b
 | _,_,.int i=>.int i
 | _,_,.str x=>.str x
 | _,_,.lst e h=>.lst (S _ _ e) (ShowsAllK.same S h)
 | _,_,.tup e h=>.tup (S.tup e) (ShowsAllK.same S h)
theorem ShowsAllK.same {K:PySem.W.Frag} {H H':Hp} (S:Same H H'):∀ {xs:List V} {ds:List PyData},ShowsAllK K H xs ds→ShowsAllK K H' xs ds
 | _,_,.nil=>.nil
 | _,_,.cons h t=>.cons (ShowsK.same S h) (ShowsAllK.same S t)
end
section
variable {X:Cx} {pins:List (Addr × Obj)} {σ:L2.St} {H:Hp} {s:Shared}
mutual
theorem Inv.readsK (I:Inv X pins σ H s):∀ {x:V} {d:PyData} {v:Value},ShowsK X.K H x d→RelV x v→∃ as,Reads s.heap v d as
 | _,_,_,.non,r=>by cases r; exact ⟨_,.none⟩
 | _,_,_,.bl b,r=>by cases r; exact ⟨_,.bool b⟩
 | _,_,_,.int i,r=>by obtain ⟨t,rfl⟩:=r; exact ⟨_,.int i t⟩
 | _,_,_,.str x,r=>by obtain ⟨t,rfl⟩:=r; exact ⟨_,.str x t⟩
 | _,_,_,.lst e h,r=>by
  cases r
  obtain ⟨its,rv,⟨o,ho,hc,n,hd⟩⟩:=I.lstIs e
  obtain ⟨as,q⟩:=Inv.readsAllK I h rv
  exact ⟨_,.list ho hc hd q⟩
 | _,_,_,.tup e h,r=>by
  cases r
  obtain ⟨its,rv,⟨o,ho,hc,n,hd⟩,_⟩:=I.tuple e
  obtain ⟨as,q⟩:=Inv.readsAllK I h rv
  exact ⟨_,.tuple ho hc hd q⟩
theorem Inv.readsAllK (I:Inv X pins σ H s):∀ {xs:List V} {ds:List PyData} {vs:List Value},ShowsAllK X.K H xs ds→Vals xs vs→∃ as,ReadsAll s.heap vs ds as
 | _,_,_,.nil,r=>by cases r; exact ⟨_,.nil⟩
 | _,_,_,.cons h t,r=>by
  cases r with
  | cons r1 r2 =>
   obtain ⟨a,q1⟩:=Inv.readsK I h r1
   obtain ⟨b,q2⟩:=Inv.readsAllK I t r2
   exact ⟨_,.cons q1 q2⟩
end
def rEqK (K:PySem.W.Frag) (neg:Bool):R2:=fun x y H Q=>∃ d e,ShowsK K H x d∧ShowsK K H y e∧SeqAt.shaped d = true∧SeqAt.shaped e = true∧Q (.bl (if neg then !PyData.eqv d e else PyData.eqv d e)) H
theorem op_eqK (hu:X.A.units + 64 < cLine):OpR X (compareOp .Eq) (rEqK X.K false):=by
 intro pins s σ H x y v u Q I rx ry h
 obtain ⟨d,e,hd,he,sd,se,q⟩:=h
 obtain ⟨as,ra⟩:=I.readsK hd rx
 obtain ⟨bs,rb⟩:=I.readsK he ry
 exact SeqAt.compareEq_shaped ra rb sd se hu ⟨.bl _,H,I,rfl,q⟩
theorem op_neK (hu:X.A.units + 64 < cLine):OpR X (compareOp .NotEq) (rEqK X.K true):=by
 intro pins s σ H x y v u Q I rx ry h
 obtain ⟨d,e,hd,he,sd,se,q⟩:=h
 obtain ⟨as,ra⟩:=I.readsK hd rx
 obtain ⟨bs,rb⟩:=I.readsK he ry
 exact SeqAt.compareNe_shaped ra rb sd se hu ⟨.bl _,H,I,rfl,q⟩
end
section
variable {X:Cx}
def rLenK (K:PySem.W.Frag):List V→Hp→VK→Prop:=fun xs H Q=>∃ p ys,xs = [.ref p]∧SqT K H p ys∧Q (.int ys.length) H
theorem call_lenK:CallR X (.builtin "len") (rLenK X.K):=call_len_seq.imp fun xs H Q ⟨p,ys,a,b,c⟩=>⟨p,ys,a,.inr b,c⟩
def rIsiTup (K:PySem.W.Frag):List V→Hp→VK→Prop:=fun xs H Q=>∃ p T ys,xs = [.ref p,.ty T]∧T ∈ ["bool", "int", "str", "list", "tuple", "dict"]∧SqT K H p ys∧Q (.bl (subS "tuple" T)) H
theorem call_isiTup:CallR X (.builtin "isinstance") (rIsiTup X.K):=by
 intro pins s σ H xs us Q I r h
 obtain ⟨p,T,ys,rfl,hT,hp,q⟩:=h
 obtain ⟨u,v,rfl,ru,rv⟩:=r.two
 cases ru
 cases rv
 obtain ⟨its,rvs,⟨o,ho,hc,n,hd⟩,_⟩:=I.tuple hp
 refine PySem.W.kia_one (PySem.W.kitx_tuple (a:=p)) I.kIn ⟨o,ho,hc⟩ (kit_sub (K:=X.K) (t := "tuple") (by decide) hT) (fun z=>nomatch z) fun tk=>⟨.bl _,H,I.tok _,rfl,q⟩
end
end L2
set_option Elab.async false
set_option linter.all false
set_option maxRecDepth 100000
set_option maxHeartbeats 4000000
namespace L2
open PySem PySem.Spec PyProof.Rows
section
variable {X:Cx} {k:Nat} {f C B:Addr} {ps:List Str} {sp:Sp} {x m:Str} {p pos apos:Pos} {e o:Expr} {es:List Expr} {ta:TE} {t:TA} {Ex:Value→Option Addr→L2.St→Hp→Prop}
def tMakeI (C:Addr) (sp:Sp) (Ex:Value→Option Addr→L2.St→Hp→Prop) (t:TA):TE:=fun σ H Q=>t σ H fun vs H1=>∀ x dx,H1 x = none→H1 dx = none→dx ≠ x→sp (.ref x :: vs) (upd (upd H1 dx (.own x)) x (.ins C dx [])) (fun v H2=>v = .non∧Q (.ref x) H2) fun E d H'=>Ex E d σ H'
def tMethI (C:Addr) (m:Str) (sp:Sp) (ta:TE) (t:TA):TE:=fun σ H Q=>ta σ H fun x H1=>∃ a dx fs,x = .ref a∧H1 a = some (.ins C dx fs)∧fs.lookup m = none∧t σ H1 fun vs H2=>sp (x :: vs) H2 Q E0
theorem pe_globT {D:Addr} {pos:Pos} (hg:Gl X x) (hm:X.mg x = some (.ref D)) (hd:(x == ("__debug__" : Str)) = false:=by decide):PE X (.Name x pos) (tC (.ref D)):=pe_glob hg hm rfl hd
end
theorem op_eqKK {X:Cx} {K:PySem.W.Frag} (e:X.K = K) (hu:X.A.units + 64 < cLine):OpR X (compareOp .Eq) (rEqK K false):=e ▸ op_eqK hu
theorem op_neKK {X:Cx} {K:PySem.W.Frag} (e:X.K = K) (hu:X.A.units + 64 < cLine):OpR X (compareOp .NotEq) (rEqK K true):=e ▸ op_neK hu
end L2
set_option Elab.async false
set_option linter.all false
set_option maxRecDepth 100000
set_option maxHeartbeats 4000000
namespace L2
open PySem PySem.Spec PyProof.Rows
theorem push_back {h:Heap} {o ob:Obj} {b:Addr} (e:(h.push o).get? b = some ob) (hs:b ≠ h.objs.size):h.get? b = some ob:=by
 obtain ⟨e1,e2⟩:=Heap.get?_some_iff.mp e
 refine Heap.get?_some_iff.mpr ⟨?_,e2⟩
 cases h
 simpa [Heap.push,Array.getElem?_push,hs] using e1
section
variable {X:Cx}
end
section
variable {ta:TA} {te:TE} {σ:L2.St} {H:Hp} {Q:VK}
end
section
variable {X:Cx}
def rJoin:V→List V→Hp→VK→Prop:=fun x vs H Q=>∃ a l ys,x = .str a∧vs = [.ref l]∧H l = some (.lst (ys.map V.str))∧(ys.map (·.length)).sum + ys.length * a.length ≤ 16777216∧Q (.str (Txt.join a ys)) H
structure InsK (K:PySem.W.Frag) (C:Addr):Prop where
 ha:PySem.W.findIn K (.ref C) "__class__" = some (some (.builtin "object.__class__"))
 hn:PySem.W.specialIn K (.builtin "object.__class__") "__get__" = some (some (.builtin "getset_descriptor.__get__"))
 tk:PySem.W.takesIn K (.builtin "object.__class__") = some true
 hm:PySem.W.mroIn K C (.type "object") = some true
def rIsiC (K:PySem.W.Frag):List V→Hp→VK→Prop:=fun xs H Q=>∃ a D C dx fs b,xs = [.ref a,.ref D]∧H a = some (.ins C dx fs)∧Cls K C∧InsK K C∧PySem.W.kitOne K (.ref C) (.ref D) = some b∧Q (.bl b) H
def rMin2:List V→Hp→VK→Prop:=fun xs H Q=>∃ i j,xs = [.int i,.int j]∧Q (.int (if j < i then j else i)) H
def rMax2:List V→Hp→VK→Prop:=fun xs H Q=>∃ i j,xs = [.int i,.int j]∧Q (.int (if j > i then j else i)) H
theorem call_maxB (hc:X.calm = true):CallR X (.builtin "max") rMax2:=call_max2 hc
end
end L2
set_option Elab.async false
set_option linter.all false
set_option maxRecDepth 100000
set_option maxHeartbeats 4000000
namespace L2
open PySem PySem.Spec PyProof.Rows
section
variable {X:Cx} {elt iter:Expr} {pos:Pos} {scope:Scope} {wi:TI} {te:TE}
theorem ps_compG {i0:Nat} {y0:Str} {py spos:Pos} {xs N':List Str} {tg:Expr} {ifs:List Expr} {gt:TG} {tc:TT} (hc:X.calm = true) (hsh:shadG xs X.N = N') (hN:(xs ++ N').Nodup) (hkind:scope.kind = .function) (hcell:∀ y ∈ scope.names,y.2 ≠ .cell) (hnames:∀ y ∈ scope.names,y.2 = .local→scope.names.lookup y.1 = some .local)
  (hfree:∀ y ∈ scope.names,y.2 = .free→X.env.kindOf y.1 = some .cell∨X.env.kindOf y.1 = some .free) (hloc:∀ y ∈ X.N,y ∉ xs→(relabel scope X.env).names.lookup y ≠ some .local) (hq:∀ y ∈ X.N,y ∈ xs→(relabel scope X.env).names.lookup (hid y) = none) (hi:PI X tg iter wi)
  (hg:∀ C s₀ H₀ ex pn,PG (X.compG N' scope xs C s₀ H₀ ex pn) tg gt) (ht:∀ C s₀ H₀ ex pn,PTs (X.compG N' scope xs C s₀ H₀ ex pn) ifs tc) (he:∀ C s₀ H₀ ex pn,PE (X.compG N' scope xs C s₀ H₀ ex pn) elt te) (hgy:PG X (.Name y0 py) (gName i0)) (hsw:swapsWith (.ListComp elt [⟨tg,iter,ifs,0⟩] scope pos) (some (.Name y0 py)) spos.line X.env = pure true) (hs:∀ z,foldedSetIterable iter X.env z = pure z:=by intro _; rfl) :
  PS X (.Assign [.Name y0 py] (.ListComp elt [⟨tg,iter,ifs,0⟩] scope pos) spos) (tAsg (tCompG wi xs.length gt tc te) (gName i0)):=by
 intro pins s σ H D0 I h
 have h:tCompG wi xs.length gt tc te σ H (fun x H1=>gName i0 x σ H1 D0.nx):=h
 rw [exec_Assign_Name_used _ _ _ _ hsw]
 refine wpAny_bind (wpAny_standAt (wpAny_bind ?_))
 show wpAny _ X.A (comprehension (.ListComp elt [⟨tg,iter,ifs,0⟩] scope pos) scope X.env _ (newList []) false (eval iter X.env) (some (assign (.Name y0 py) X.env)) >>= fun _=>_) _ _ s
 refine wpAny_bind (wpAny_mono (compG_core (use:=some (assign (.Name y0 py) X.env)) (post:=fun _ s'=>SP X pins D0 .next s') hc hsh hN hkind hcell hnames hfree hloc hq hi hg ht he hs I h fun C D Hc s6 m fl hn6 I6 fC qn=>?_) (fun _ s' hq=>wpAny_pure (wpAny_pure hq)) fun _ _ e=>e)
 obtain ⟨oc,es,ep,ho,hdat,_⟩:=id hn6
 have I7:=I6.pinned (fp:=[C]) (fun b hb=>by rw [List.mem_singleton.mp hb]; exact fC) fun b hb=>by
  rw [List.mem_singleton.mp hb]
  exact ⟨oc,ho,fun v z=>by rw [hdat] at z; cases z⟩
 show wpAny _ X.A (assign (.Name y0 py) X.env _) _ _ s6
 refine thn (hgy _ s6 σ Hc (.ref D) _ D0.nx I7 rfl qn) fun _ s7 ⟨σ7,H7,Z7,q7⟩=>?_
 have pn7:=Z7.pin (C,oc) (List.mem_append_right _ (List.mem_append_right _ (mem_pinsAt (by simp) ho)))
 refine ⟨m,hn6.at' fun o e=>?_,fun h' hs'=>⟨σ7,H7,Z7.unpinned.turned (it:=C) (h':=h') (t':=s7.toks) (fun b o hb e=>(hs'.2 b hb).trans e) pn7.2.1 fC.2.1 fC.2.2.2.1 fC.2.2.2.2.1 fC.2.2.2.2.2,q7⟩⟩
 rw [ho] at e
 cases e
 exact pn7.1
theorem ps_compGF {i0:Nat} {y0:Str} {py spos:Pos} {elt iter tg:Expr} {pos:Pos} {scope:Scope} {wi:TI} {te:TE} {ifs:List Expr} {gt:TG} {tc:TT} (sc:Scope) (N N' xs:List Str) (hsc:X.env.scope = sc) (hNN:X.N = N) (hc:X.calm = true) (hsh:shadG xs N = N') (hN:(xs ++ N').Nodup) (hkind:scope.kind = .function) (hcell:∀ y ∈ scope.names,y.2 ≠ .cell)
  (hnames:∀ y ∈ scope.names,y.2 = .local→scope.names.lookup y.1 = some .local) (hfree:∀ y ∈ scope.names,y.2 = .free→sc.names.lookup y.1 = some .cell∨sc.names.lookup y.1 = some .free)
  (hloc:∀ y ∈ N,y ∉ xs→(scope.names.map fun (n,k)=>if (k == NameKind.free && sc.kind == .function && sc.names.lookup n == some .cell) then (n,NameKind.cell) else (n,k)).lookup y ≠ some .local)
  (hq:∀ y ∈ N,y ∈ xs→(scope.names.map fun (n,k)=>if (k == NameKind.free && sc.kind == .function && sc.names.lookup n == some .cell) then (n,NameKind.cell) else (n,k)).lookup (hid y) = none) (hi:PI X tg iter wi)
  (hg:∀ C s₀ H₀ ex pn,PG (X.compG N' scope xs C s₀ H₀ ex pn) tg gt) (ht:∀ C s₀ H₀ ex pn,PTs (X.compG N' scope xs C s₀ H₀ ex pn) ifs tc) (he:∀ C s₀ H₀ ex pn,PE (X.compG N' scope xs C s₀ H₀ ex pn) elt te) (hgy:PG X (.Name y0 py) (gName i0)) (hsw:swapsWith (.ListComp elt [⟨tg,iter,ifs,0⟩] scope pos) (some (.Name y0 py)) spos.line X.env = pure true:=by rfl) (hs:∀ z,foldedSetIterable iter X.env z = pure z:=by intro _; rfl) :
  PS X (.Assign [.Name y0 py] (.ListComp elt [⟨tg,iter,ifs,0⟩] scope pos) spos) (tAsg (tCompG wi xs.length (tMG gt) (tMT tc) (tM te)) (gName i0)):=by
 subst hsc hNN
 exact ps_compG hc hsh hN hkind hcell hnames hfree hloc hq hi (fun C s₀ H₀ ex pn=>(hg C s₀ H₀ ex pn).mono) (fun C s₀ H₀ ex pn=>(ht C s₀ H₀ ex pn).mono) (fun C s₀ H₀ ex pn=>(he C s₀ H₀ ex pn).mono) hgy hsw hs
theorem turn1 {te:TE} {x:V} {σ:L2.St} {H:Hp} {Y:VK} {No:Hp→Prop} (h:te (some x :: σ) H Y):tTurn 1 (gName 0) tYes te x σ H Y No:=fun pre hp=>by
 obtain ⟨u,rfl⟩:=List.length_eq_one_iff.mp hp
 exact ⟨[some x],rfl,rfl,h⟩
theorem tCompG1_list {K:PySem.W.Frag} {tl te:TE} {σ:L2.St} {H:Hp} {Q:VK} (h:tl σ H fun x H1=>∃ a xs,x = .ref a∧H1 a = some (.lst xs)∧xs.length ≤ sizeLine∧∀ D,H1 D = none→∃ J:Nat→List V→Hp→Prop,J 0 [] (upd H1 D (.lst [])) ∧
   (∀ k x ys Hc,xs[k]? = some x→J k ys Hc→ys.length = k→Hc a = some (.lst xs)→te (some x :: σ) Hc fun y H2=>H2 D = some (.lst ys)∧H2 a = some (.lst xs)∧J (k + 1) (ys ++ [y]) (upd H2 D (.lst (ys ++ [y])))) ∧
   ∀ ys Hc,J xs.length ys Hc→ys.length = xs.length→Q (.ref D) Hc):tCompG (iList K (tM tl)) 1 (tMG (gName 0)) (tMT tYes) (tM te) σ H Q:=by
 refine ⟨_,h,?_⟩
 rintro x H1 ⟨a,xs,rfl,hx,hz,rest⟩
 refine ⟨a,rfl,⟨xs,.of hx⟩,fun D hD=>?_⟩
 obtain ⟨J,j0,step,fin⟩:=rest D hD
 have ne:a ≠ D:=ne_of_none hx hD
 refine ⟨fun k m ys Hc=>k ≤ xs.length∧m = xs.length - k∧ys.length = k∧Hc a = some (.lst xs)∧J k ys Hc,⟨_,Nat.zero_le _,rfl,rfl,(upd_ne ne).trans hx,j0⟩,?_⟩
 rintro k m ys Hc ⟨hk,rfl,hy,hx',j⟩
 by_cases e:k = xs.length
 ·subst e
  exact .inl ⟨⟨xs,.of hx',Nat.le_refl _⟩,fin ys Hc j hy⟩
 ·have hlt:k < xs.length:=by omega
  refine .inr ⟨⟨xs,_,.of hx',List.getElem?_eq_getElem hlt⟩,?_⟩
  rintro x H'' ⟨rfl,y⟩
  refine (turn1 (No:=fun _=>False) (step k x ys H'' (y xs (.of hx')) j hy hx')).weak ?_ (fun _ z=>z.elim)
  rintro yv H2 ⟨z1,z2,z3⟩
  refine ⟨by omega,z1,xs.length - (k + 1),by omega,by omega,rfl,?_,?_,z3⟩
  ·rw [List.length_append,hy]; rfl
  ·rw [upd_ne ne]; exact z2
theorem compG_rngJ {te:TE} {σ:L2.St} {H:Hp} {Q:VK} {lo:Int} {n:Nat} (hn:n ≤ 64) (rest:∀ D,H D = none→∃ J:Nat→List V→Hp→Prop,J 0 [] (upd H D (.lst []))∧(∀ k ys Hc,k < n→J k ys Hc→ys.length = k→te (some (.int (lo + k)) :: σ) Hc fun y H2=>H2 D = some (.lst ys)∧J (k + 1) (ys ++ [y]) (upd H2 D (.lst (ys ++ [y]))))∧∀ ys Hc,J n ys Hc→ys.length = n→Q (.ref D) Hc) :
  ∀ D,H D = none→∃ W:Nat→Nat→List V→Hp→Prop,(∃ m,W 0 m [] (upd H D (.lst [])))∧∀ i m ys Hc,W i m ys Hc→((Itr lo n).stop i Hc∧Q (.ref D) Hc)∨((Itr lo n).go i Hc∧∀ x H',(Itr lo n).yld i Hc x H'→tTurn 1 (tMG (gName 0)) (tMT tYes) (tM te) x σ H' (fun y H2=>ys.length < sizeLine∧H2 D = some (.lst ys)∧∃ m',m' < m∧W (i + 1) m' (ys ++ [y]) (upd H2 D (.lst (ys ++ [y])))) fun H3=>∃ m',m' < m∧W (i + 1) m' ys H3):=by
 intro D hD
 obtain ⟨J,j0,step,fin⟩:=rest D hD
 have hz:64 ≤ sizeLine:=by decide
 refine ⟨fun k m ys Hc=>k ≤ n∧m = n - k∧ys.length = k∧J k ys Hc,⟨_,Nat.zero_le _,rfl,rfl,j0⟩,?_⟩
 rintro k m ys Hc ⟨hk,rfl,hy,j⟩
 by_cases e:k = n
 ·subst e
  exact .inl ⟨Nat.le_refl _,fin ys Hc j hy⟩
 ·have hlt:k < n:=by omega
  refine .inr ⟨hlt,?_⟩
  rintro x H'' ⟨rfl,rfl⟩
  refine (turn1 (No:=fun _=>False) (step k ys H'' hlt j hy)).weak ?_ (fun _ z=>z.elim)
  rintro yv H2 ⟨z1,z2⟩
  exact ⟨by omega,z1,n - (k + 1),by omega,by omega,rfl,by rw [List.length_append,hy]; rfl,z2⟩
theorem tCompG1_rng {ta:TA} {te:TE} {σ:L2.St} {H:Hp} {Q:VK} (h:ta σ H fun vs H1=>∃ n:Nat,vs = [.int n]∧n ≤ 64∧∀ D,H1 D = none→∃ J:Nat→List V→Hp→Prop,J 0 [] (upd H1 D (.lst []))∧(∀ (k:Nat) ys Hc,k < n→J k ys Hc→ys.length = k→te (some (.int k) :: σ) Hc fun y H2=>H2 D = some (.lst ys)∧J (k + 1) (ys ++ [y]) (upd H2 D (.lst (ys ++ [y]))))∧∀ ys Hc,J n ys Hc→ys.length = n→Q (.ref D) Hc) :
  tCompG (iRng1 (tMA ta)) 1 (tMG (gName 0)) (tMT tYes) (tM te) σ H Q:=by
 refine ⟨_,h,?_⟩
 rintro vs H1 ⟨n,rfl,hn,rest⟩
 refine ⟨n,rfl,by omega,by omega,?_⟩
 rw [Int.toNat_natCast]
 refine compG_rngJ hn fun D hD=>?_
 obtain ⟨J,j0,step,fin⟩:=rest D hD
 exact ⟨J,j0,fun k ys Hc h1 h2 h3=>by rw [Int.zero_add]; exact step k ys Hc h1 h2 h3,fin⟩
end
end L2
set_option Elab.async false
set_option linter.all false
set_option maxRecDepth 100000
set_option maxHeartbeats 4000000
namespace L2
open PySem PySem.Spec PyProof.Rows
section
variable {X:Cx} {pins:List (Addr × Obj)} {σ:L2.St} {H:Hp} {s:Shared} {h':Heap}
theorem Inv.turnedL {t':Nat} {ch:List Addr} (I:Inv X pins σ H s) (k:∀ b o,b ∉ ch→s.heap.get? b = some o→h'.get? b = some o) (hf:∀ b ∈ ch,FpOk X pins H b):Inv X pins σ H { s with heap:=h',toks:=t' }:=by
 have nit:∀ b u,H b = some u→b ∉ ch:=fun b u e z=>by rw [(hf b z).1] at e; cases e
 refine I.step (g':=s.gens) (d':=s.drawn) (ch:=ch) (fun b hb=>⟨(hf b hb).2.2.2.1,(hf b hb).2.1,(hf b hb).2.2.2.2.1,(hf b hb).2.2.2.2.2⟩) (fun b o _ _ hc e _=>k b o hc e) (fun b o _ _ hc e _=>⟨o.slots,k b o hc e⟩) (fun _ _ _ _ n=>n) (fun b o hc e=>⟨o,k b o hc e⟩) (fun _ _ e=>e) (fun _ _ _ e=>e) (fun b ps e=>⟨#[],by rw [e]; simp⟩) (fun m hm=>?_) (fun b u e=>?_) I.bare
 ·obtain ⟨o,es,ep,ho,r⟩:=hm
  exact ⟨o,es,ep,k _ o (fun z=>(hf _ z).2.1 rfl) ho,r⟩
 ·refine (I.hok b u e).stay (fun c v hc q=>k c v ?_ q) (fun _ q=>q) fun _ _ q=>q
  rcases hc with z | z
  ·rw [z]; exact nit b u e
  ·exact nit c _ z
end
def Itz (a b:Addr):It:=⟨fun i H=>∃ xs ys,H a = some (.lst xs)∧H b = some (.lst ys)∧i < xs.length∧i < ys.length,fun i H v H'=>∃ xs ys x y t,H a = some (.lst xs)∧H b = some (.lst ys)∧xs[i]? = some x∧ys[i]? = some y∧H t = none∧v = .ref t∧H' = upd H t (.tup [x,y]),fun i H=>∃ xs ys,H a = some (.lst xs)∧H b = some (.lst ys)∧(xs.length ≤ i∨ys.length ≤ i)⟩
theorem iter_move {h g:Heap} {a l:Addr} {i:Nat} (x:h.IsListIter a l i) (k:∀ o,h.get? a = some o→g.get? a = some o):g.IsListIter a l i:=let ⟨o,e,r⟩:=x; ⟨o,k o e,r⟩
theorem vals_at {xs:List V} {vs:List Value} : Vals xs vs→∀ {i:Nat} {x:V},xs[i]? = some x→∃ u,vs[i]? = some u∧RelV x u:=by
 intro h
 induction h with
 | nil=>intro i x e; cases e
 | cons a b ih =>
  intro i x e
  cases i with
  | zero=>rw [List.getElem?_cons_zero] at e; cases e; exact ⟨_,rfl,a⟩
  | succ i=>rw [List.getElem?_cons_succ] at e ⊢; exact ih e
theorem turn_zip {P:Program} {w:World} {K:PySem.W.Frag} {elts:List Expr} {x1} {pos:Pos} (z TI TO i1 i2 l1 l2:Addr) (D:ZipApart z TI TO i1 i2 l1 l2) :
  Turn P w K (.Tuple elts x1 pos) (Itz l1 l2) [z,TI,TO,i1,i2] z (fun i h=>IsZip h z TI TO .none∧IsPair h TI (.ref i1) (.ref i2)∧(∃ p q,IsPair h TO p q)∧h.IsListIter i1 l1 i∧h.IsListIter i2 l2 i) where
 mem:=by simp
 obj:=by
  rintro i h ⟨s1,s2,⟨p,q,s3⟩,⟨o4,s4,_,d4⟩,⟨o5,s5,_,d5⟩⟩ b hb
  simp only [List.mem_cons,List.not_mem_nil,or_false] at hb
  rcases hb with rfl | rfl | rfl | rfl | rfl
  ·exact ⟨_,s1,fun v e=>by cases e⟩
  ·exact ⟨_,s2,fun v e=>by cases e⟩
  ·exact ⟨_,s3,fun v e=>by cases e⟩
  ·exact ⟨_,s4,fun v e=>by rw [d4] at e; cases e⟩
  ·exact ⟨_,s5,fun v e=>by rw [d5] at e; cases e⟩
 keep:=fun i h h' ⟨s1,s2,⟨p,q,s3⟩,s4,s5⟩ k=>⟨k z (by simp) _ s1,k TI (by simp) _ s2,⟨p,q,k TO (by simp) _ s3⟩,iter_move s4 (k i1 (by simp)),iter_move s5 (k i2 (by simp))⟩
 item:=by
  intro X hP hw hK hc i pins s σ H E I hf st hg
  subst hP hw hK
  obtain ⟨s1,s2,⟨p,q,s3⟩,s4,s5⟩:=st
  obtain ⟨xs,ys,ha,hb,lt1,lt2⟩:=hg
  obtain ⟨_,it1,n1,rv1,le1,g1⟩:=I.lstM ha
  obtain ⟨_,it2,n2,rv2,le2,g2⟩:=I.lstM hb
  have ex:xs[i]? = some xs[i]:=List.getElem?_eq_getElem lt1
  have ey:ys[i]? = some ys[i]:=List.getElem?_eq_getElem lt2
  obtain ⟨u,hu,ru⟩:=vals_at rv1 ex
  obtain ⟨v,hv,rv⟩:=vals_at rv2 ey
  refine wpAny_pyNext_zip_item D s1 s2 s3 s4 s5 (xs:=it1.toArray) (ys:=it2.toArray) ⟨_,g1,rfl,n1,rfl⟩ ⟨_,g2,rfl,n2,rfl⟩ (x:=u) (y:=v) (by simpa using hu) (by simpa using hv) fun h' a1 a2 a3 a4 a5 a6 a7=>⟨_,rfl,?_⟩
  refine wpAny_letOwnedTupleGo_zip a1 fun h2 st2 sb=>?_
  have nt:H s.heap.objs.size = none:=I.fresh
  have I1:=I.laid (a:=s.heap.objs.size) (o:=.tup [xs[i],ys[i]]) (h':=s.heap.push { cls:=.type "tuple",data:=.seq #[u,v] }) (t':=s.toks) (fun b q z=>Heap.get?_push_of_some _ z) (Nat.le_refl _)
   ⟨(by show 2 ≤ sizeLine; decide),[u,v],.cons ru (.cons rv .nil),_,Heap.get?_push_size _ rfl,rfl,_,rfl⟩
  have nz:z ≠ s.heap.objs.size:=Nat.ne_of_lt (Heap.lt_size s1)
  have nO:TO ≠ s.heap.objs.size:=Nat.ne_of_lt (Heap.lt_size s3)
  have nI:TI ≠ s.heap.objs.size:=Nat.ne_of_lt (Heap.lt_size s2)
  have n1':i1 ≠ s.heap.objs.size:=by obtain ⟨o,e,_⟩:=s4; exact Nat.ne_of_lt (Heap.lt_size e)
  have n2':i2 ≠ s.heap.objs.size:=by obtain ⟨o,e,_⟩:=s5; exact Nat.ne_of_lt (Heap.lt_size e)
  have fpn:∀ b ∈ [z,TI,TO,i1,i2],upd H s.heap.objs.size (.tup [xs[i],ys[i]]) b = none:=by
   intro b hb
   have f0:=(hf b hb).1
   simp only [List.mem_cons,List.not_mem_nil,or_false] at hb
   rcases hb with rfl | rfl | rfl | rfl | rfl
   ·exact (upd_ne nz).trans f0
   ·exact (upd_ne nI).trans f0
   ·exact (upd_ne nO).trans f0
   ·exact (upd_ne n1').trans f0
   ·exact (upd_ne n2').trans f0
  have I2:=I1.turnedL (ch:=[z,TO,i1,i2]) (h':=h2) (t':=s.toks) (fun b ob hb e=>by
   simp only [List.mem_cons,List.not_mem_nil,or_false,not_or] at hb
   obtain ⟨b1,b2,b3,b4⟩:=hb
   refine (sb.2 b b1).trans ?_
   by_cases hs:b = s.heap.objs.size
   ·subst hs
    have e2:=Heap.get?_push_size s.heap (o:={ cls:=.type "tuple",data:=.seq #[u,v] }) rfl
    have e:(s.heap.push { cls:=.type "tuple",data:=.seq #[u,v] }).get? s.heap.objs.size = some ob:=e
    rw [e2] at e
    cases e
    exact a5
   ·exact a7 b _ b1 b2 b3 b4 (push_back e hs)) fun b hb=>by
    have hb':b ∈ [z,TI,TO,i1,i2]:=by
     simp only [List.mem_cons,List.not_mem_nil,or_false] at hb ⊢
     rcases hb with h | h | h | h <;> simp [h]
    exact ⟨fpn b hb',(hf b hb').2⟩
  have mv:∀ c o,c ≠ z→h'.get? c = some o→h2.get? c = some o:=fun c o n e=>(sb.2 c n).trans e
  exact ⟨.ref _,_,I2,rfl,⟨xs,ys,_,_,_,ha,hb,ex,ey,nt,rfl,rfl⟩,⟨st2,mv _ _ D.TIz (a7 _ _ D.TIz D.TITO D.TIi1 D.TIi2 s2),⟨_,_,mv _ _ D.TOz a2⟩,iter_move a3 fun o e=>mv _ _ D.i1z e,iter_move a4 fun o e=>mv _ _ D.i2z e⟩,fpn⟩
 done:=by
  intro X hP hw hK hc i pins s σ H E I hf st hg
  subst hP hw hK
  obtain ⟨s1,s2,⟨p,q,s3⟩,s4,s5⟩:=st
  obtain ⟨xs,ys,ha,hb,lt⟩:=hg
  obtain ⟨_,it1,n1,rv1,le1,g1⟩:=I.lstM ha
  obtain ⟨_,it2,n2,rv2,le2,g2⟩:=I.lstM hb
  refine wpAny_pyNext_zip_end (I.ok.hd hc) D s1 s2 s3 s4 s5 (xs:=it1.toArray) (ys:=it2.toArray) ⟨_,g1,rfl,n1,rfl⟩ ⟨_,g2,rfl,n2,rfl⟩ (by simp; omega) fun h' k=>⟨rfl,I.turnedL (ch:=[z,TO,i1,i2]) (t':=s.toks) (fun b ob hb e=>?_) fun b hb=>?_⟩
  ·simp only [List.mem_cons,List.not_mem_nil,or_false,not_or] at hb
   exact k b ob hb.1 hb.2.1 hb.2.2.1 hb.2.2.2 e
  ·exact hf b (by
    simp only [List.mem_cons,List.not_mem_nil,or_false] at hb ⊢
    rcases hb with h | h | h | h <;> simp [h])
 self:=fun _ _ _ _ _ ⟨s1,_⟩ h=>wpAny_pyIter_zip s1 h
section
variable {X:Cx}
theorem zip_apart (n l1 l2:Nat) (h1:l1 < n) (h2:l2 < n):ZipApart (n + 4) (n + 2) (n + 3) n (n + 1) l1 l2:=by
 constructor <;> first | exact Nat.ne_of_lt (by omega) | exact Nat.ne_of_gt (by omega)
theorem in_five (n b:Nat) (h:b = n + 4∨b = n + 2∨b = n + 3∨b = n∨b = n + 1):n ≤ b:=by omega
theorem boot_zip:bootBuiltins "zip" = some (.type "zip"):=by decide +kernel
def iZip (ta:TA):TI:=fun σ H R=>ta σ H fun vs H1=>∃ a b xs ys,vs = [.ref a,.ref b]∧H1 a = some (.lst xs)∧H1 b = some (.lst ys)∧R (Itz a b) H1
theorem pi_zip {a b:Expr} {ta:TA} {elts:List Expr} {x1} {p pos tpos:Pos} (hg:Gl X "zip") (hm:X.mg "zip" = none) (ha:PA X [a,b] ta) (hs:starEach [a,b] X.env = [(false,eval a X.env),(false,eval b X.env)]:=by rfl) (hs2:starEach [b] X.env = [(false,eval b X.env)]:=by rfl) :
  PI X (.Tuple elts x1 tpos) (.Call (.Name "zip" p) [a,b] [] pos) (iZip ta):=by
 intro pins s σ H R I h
 refine Call_ (ld_blt I hg hm boot_zip (PyProof.Rows.callWith_type1 (thn (ha pos pins s σ H _ I h) fun us s1 ⟨vs,H1,I1,r1,q1⟩=>?_) (by rw [hs,hs2]) (by rw [hs2]; rfl)))
 obtain ⟨l1,l2,xs,ys,e,h1,h2,q⟩:=q1
 subst e
 obtain ⟨u,v,rfl,ru,rv⟩:=r1.two
 cases ru
 cases rv
 obtain ⟨_,it1,n1,rv1,le1,g1⟩:=I1.lstM h1
 obtain ⟨_,it2,n2,rv2,le2,g2⟩:=I1.lstM h2
 have z1:=Heap.lt_size g1
 have z2:=Heap.lt_size g2
 refine call_zip_2 (xs:=it1.toArray) (ys:=it2.toArray) ⟨_,g1,rfl,n1,rfl⟩ ⟨_,g2,rfl,n2,rfl⟩ fun h' a1 a2 a3 a4 a5 a6 a7=>?_
 refine wpAny_pyIter_zip a1 ?_
 refine ⟨_,[s1.heap.objs.size + 4,s1.heap.objs.size + 2,s1.heap.objs.size + 3,s1.heap.objs.size,s1.heap.objs.size + 1],_,Itz l1 l2,H1,rfl,I1.kept (t':=s1.toks) fun b ob e=>a7 b ob e,turn_zip _ _ _ _ _ l1 l2 (zip_apart _ _ _ z1 z2),⟨a1,a2,⟨_,_,a3⟩,a4,a5⟩,fun b hb=>?_,q⟩
 have hb':s1.heap.objs.size ≤ b:=by
  simp only [List.mem_cons,List.not_mem_nil,or_false] at hb
  exact in_five _ _ hb
 exact I1.fpOk hb' (I1.hok.fresh hb')
end
theorem tCompG_zip {ta:TA} {te:TE} {gt:TG} {tc:TT} {n:Nat} {σ:L2.St} {H:Hp} {Q:VK} (h:ta σ H fun vs H1=>∃ a b xs ys,vs = [.ref a,.ref b]∧H1 a = some (.lst xs)∧H1 b = some (.lst ys)∧xs.length = ys.length∧xs.length ≤ 64∧∀ D,H1 D = none→∃ J:Nat→List V→Hp→Prop,J 0 [] (upd H1 D (.lst [])) ∧
   (∀ k x y zs Hc t,xs[k]? = some x→ys[k]? = some y→J k zs Hc→zs.length ≤ k→Hc t = none→Hc a = some (.lst xs)→Hc b = some (.lst ys)→tTurn n gt tc te (.ref t) σ (upd Hc t (.tup [x,y])) (fun v H2=>H2 D = some (.lst zs)∧H2 a = some (.lst xs)∧H2 b = some (.lst ys)∧J (k + 1) (zs ++ [v]) (upd H2 D (.lst (zs ++ [v])))) fun H2=>H2 a = some (.lst xs)∧H2 b = some (.lst ys)∧J (k + 1) zs H2) ∧
   ∀ zs Hc,J xs.length zs Hc→zs.length ≤ xs.length→Q (.ref D) Hc):tCompG (iZip (tMA ta)) n (tMG gt) (tMT tc) (tM te) σ H Q:=by
 refine ⟨_,h,?_⟩
 rintro vs H1 ⟨a,b,xs,ys,rfl,hx,hy,hl,h64,rest⟩
 refine ⟨a,b,xs,ys,rfl,hx,hy,fun D hD=>?_⟩
 obtain ⟨J,j0,step,fin⟩:=rest D hD
 have na:a ≠ D:=ne_of_none hx hD
 have nb:b ≠ D:=ne_of_none hy hD
 have z64:64 ≤ sizeLine:=by decide
 refine ⟨fun k m zs Hc=>k ≤ xs.length∧m = xs.length - k∧zs.length ≤ k∧Hc a = some (.lst xs)∧Hc b = some (.lst ys)∧J k zs Hc,⟨_,Nat.zero_le _,rfl,Nat.zero_le _,(upd_ne na).trans hx,(upd_ne nb).trans hy,j0⟩,?_⟩
 rintro k m zs Hc ⟨hk,rfl,hz,ha',hb',j⟩
 by_cases e:k = xs.length
 ·subst e
  exact .inl ⟨⟨xs,ys,ha',hb',.inl (Nat.le_refl _)⟩,fin zs Hc j hz⟩
 ·have hlt:k < xs.length:=by omega
  refine .inr ⟨⟨xs,ys,ha',hb',hlt,by omega⟩,?_⟩
  rintro v H'' ⟨xs',ys',x,y,t,e1,e2,e3,e4,e5,rfl,rfl⟩
  rw [ha'] at e1
  rw [hb'] at e2
  cases e1
  cases e2
  refine (step k x y zs Hc t e3 e4 j hz e5 ha' hb').weak ?_ ?_
  ·rintro yv H2 ⟨z1,z2,z3,z4⟩
   refine ⟨by omega,z1,xs.length - (k + 1),by omega,by omega,rfl,?_,(upd_ne na).trans z2,(upd_ne nb).trans z3,z4⟩
   rw [List.length_append]; simp; omega
  ·rintro H2 ⟨z2,z3,z4⟩
   exact ⟨xs.length - (k + 1),by omega,by omega,rfl,by omega,z2,z3,z4⟩
theorem tFor_zipM {ta:TA} {g:TG} {tb:TS} {D:Ends} {σ:L2.St} {H:Hp} (h:ta σ H fun vs H1=>∃ a b xs ys,vs = [.ref a,.ref b]∧H1 a = some (.lst xs)∧H1 b = some (.lst ys)∧xs.length = ys.length∧∃ J:Nat→L2.St→Hp→Prop,J 0 σ H1 ∧
   (∀ k x y σ' H' t,xs[k]? = some x→ys[k]? = some y→J k σ' H'→H' a = some (.lst xs)→H' b = some (.lst ys)→H' t = none→g (.ref t) σ' (upd H' t (.tup [x,y])) fun σ2 H2=>tb { D with nx:=fun σ3 H3=>H3 a = some (.lst xs)∧H3 b = some (.lst ys)∧J (k + 1) σ3 H3,ct:=fun σ3 H3=>H3 a = some (.lst xs)∧H3 b = some (.lst ys)∧J (k + 1) σ3 H3,bk:=D.nx } σ2 H2) ∧
   ∀ σ' H',J xs.length σ' H'→H' a = some (.lst xs)→H' b = some (.lst ys)→D.nx σ' H'):tFor (iZip (tMA ta)) g tb D σ H:=by
 refine ⟨_,h,?_⟩
 rintro vs H1 ⟨a,b,xs,ys,rfl,hx,hy,hl,J,j0,step,fin⟩
 refine ⟨a,b,xs,ys,rfl,hx,hy,fun k m σ' H'=>k ≤ xs.length∧m = xs.length - k∧H' a = some (.lst xs)∧H' b = some (.lst ys)∧J k σ' H',⟨_,Nat.zero_le _,rfl,hx,hy,j0⟩,?_⟩
 rintro k m σ' H' ⟨hk,rfl,ha',hb',j⟩
 by_cases e:k = xs.length
 ·subst e
  exact .inl ⟨⟨xs,ys,ha',hb',.inl (Nat.le_refl _)⟩,fin σ' H' j ha' hb'⟩
 ·have hlt:k < xs.length:=by omega
  refine .inr ⟨⟨xs,ys,ha',hb',hlt,by omega⟩,fun σ3 H3=>H3 a = some (.lst xs)∧H3 b = some (.lst ys)∧J (k + 1) σ3 H3,fun σ3 H3 ⟨z1,z2,z3⟩=>⟨xs.length - (k + 1),by omega,by omega,rfl,z1,z2,z3⟩,?_⟩
  rintro v H'' ⟨xs',ys',x,y,t,e1,e2,e3,e4,e5,rfl,rfl⟩
  rw [ha'] at e1
  rw [hb'] at e2
  cases e1
  cases e2
  exact step k x y σ' H' t e3 e4 j ha' hb' e5
def rlb (sc scope:Scope):Scope:={ scope with names:=scope.names.map fun (n,k)=>if (k == NameKind.free && sc.kind == .function && sc.names.lookup n == some .cell) then (n,NameKind.cell) else (n,k) }
theorem pi_listK {X:Cx} {K:PySem.W.Frag} {tg l:Expr} {tl:TE} (e:X.K = K) (hl:PE X l tl):PI X tg l (iList K tl):=e ▸ pi_list hl
end L2
set_option Elab.async false
set_option linter.all false
set_option maxRecDepth 100000
set_option maxHeartbeats 4000000
namespace L2
open PySem PySem.Spec PyProof.Rows
def Cx.compGC (X:Cx) (N':List Str) (scope:Scope) (x0:Str) (C:Addr) (s₀:Shared) (H₀:Hp) (ex:List Addr) (pn:List (Addr × Obj)):Cx :=
 { X with env:=compEnvC scope ((x0,C + 1) :: clOf X.env.cells scope.names []) C X.env,N:=[x0] ++ N',s₀:=s₀,H₀:=H₀,outer:=X.stack,ex:=ex,fn:=fun z=>z == x0,pn:=pn,xe:=fun _ _=>False }
theorem relabel_free1 {env:Env} {x0:Str} : ∀ {names:List (Str × NameKind)} {y:Str},y ≠ x0→((names.map fun (n,k)=>if (k == NameKind.free && env.scope.kind == .function && env.kindOf n == some .cell) then (n,NameKind.cell) else (n,k)).lookup y = some .cell ∨
  (names.map fun (n,k)=>if (k == NameKind.free && env.scope.kind == .function && env.kindOf n == some .cell) then (n,NameKind.cell) else (n,k)).lookup y = some .free)→(∀ z ∈ names,z.2 = .cell→z.1 = x0)→(y,NameKind.free) ∈ names
 | [],y,_,h,_=>by rcases h with h | h <;> cases h
 | (n,k) :: r,y,ny,h,hc=>by
  have ih:=@relabel_free1 env x0 r y ny
  have hc':∀ z ∈ r,z.2 = .cell→z.1 = x0:=fun z hz=>hc z (List.mem_cons_of_mem _ hz)
  simp only [List.map_cons] at h
  by_cases hcond:(k == NameKind.free && env.scope.kind == .function && env.kindOf n == some .cell) = true
  ·rw [if_pos hcond] at h
   have hk:k = .free:=by
    simp only [Bool.and_eq_true,beq_iff_eq] at hcond
    exact hcond.1.1
   subst hk
   simp only [List.lookup_cons] at h
   cases hb:y == n with
   | true=>rw [show y = n by simpa using hb]; exact List.mem_cons_self
   | false=>rw [hb] at h; exact List.mem_cons_of_mem _ (ih h hc')
  ·rw [if_neg hcond] at h
   simp only [List.lookup_cons] at h
   cases hb:y == n with
   | true =>
    have e:y = n:=by simpa using hb
    rw [hb] at h
    rcases h with h | h
    ·cases h
     exact absurd (e.trans (hc (n,.cell) List.mem_cons_self rfl)) ny
    ·cases h
     rw [e]; exact List.mem_cons_self
   | false=>rw [hb] at h; exact List.mem_cons_of_mem _ (ih h hc')
theorem wpAny_newEnv1 {M:Model} {A:Around} {E:Value→Shared→Prop} {s:Shared} {scope:Scope} {globals:Addr} {closure:List (Str × Addr)} {qual:Str} {outer:Env} {x0:Str} {Q:Env→Shared→Prop} (hcf:∀ n acc,cellsFrom n scope.names acc = (x0,n) :: acc) (hpc:∀ h,pushCells h scope.names = h.push { cls:=.type "cell",data:=.cell none })
  (hQ:∀ g,g.Ns s.heap.objs.size (fun x=>([] : List (Str × Value)).reverse.lookup x)→g.IsCell (s.heap.objs.size + 1) none→(∀ b o,s.heap.get? b = some o→g.get? b = some o)→Q (newEnv scope s.heap.objs.size globals ((x0,s.heap.objs.size + 1) :: closure) qual none .none (some outer) builtinsNs) { s with heap:=g,toks:=s.toks + ([] : List (Str × Value)).length }) :
  wpAny M A (newFunctionEnv scope globals closure [] qual none .none (some outer)) Q E s:=by
 simp only [newFunctionEnv,Option.isSome_some,if_true]
 refine wpAny_bind (wpAny_alloc ?_)
 refine wpAny_bind (wpAny_layCells _ (fun name kind cells=>by cases hkc:kind == NameKind.cell <;> simp [hkc]) _ _ _ _ ?_)
 rw [hcf,hpc]
 have z1:(s.heap.push { cls:=.type "dict",data:=.dict #[] }).objs.size = s.heap.objs.size + 1:=Heap.size_push ..
 show wpAny _ _ (forIn ([] : List (Str × Value)) _ _ >>= _) _ _ _
 rw [List.forIn_nil]
 refine wpAny_bind (wpAny_pure (wpAny_pure ?_))
 have c1:=Heap.get?_push_size (s.heap.push { cls:=.type "dict",data:=.dict #[] }) (o:={ cls:=.type "cell",data:=.cell none }) rfl
 rw [z1] at c1
 show Q (newEnv scope s.heap.objs.size globals ((x0,(s.heap.push { cls:=.type "dict",data:=.dict #[] }).objs.size) :: closure) qual none .none (some outer) builtinsNs) _
 rw [z1]
 exact hQ _ ((Heap.Ns.new s.heap (.type "dict")).at' fun o e=>Heap.get?_push_of_some _ e) ⟨_,c1,rfl⟩ fun b o e=>Heap.get?_push_of_some _ (Heap.get?_push_of_some _ e)
section
variable {X:Cx} {elt iter:Expr} {pos:Pos} {scope:Scope} {wi:TI} {te:TE}
theorem compGC_core {use:Option (Value→Sem Unit)} {post:Value→Shared→Prop} {Qv:VK} {pins:List (Addr × Obj)} {s:Shared} {σ:L2.St} {H:Hp} {pp:Pos} {x0:Str} {N':List Str} {tg:Expr} {ifs:List Expr} {gt:TG} {tc:TT} (hc:X.calm = true) (hsh:shadG [x0] X.N = N') (hN:([x0] ++ N').Nodup) (hkind:scope.kind = .function) (hcf:∀ n acc,cellsFrom n scope.names acc = (x0,n) :: acc) (hpc:∀ h,pushCells h scope.names = h.push { cls:=.type "cell",data:=.cell none }) (hcl1:∀ y ∈ scope.names,y.2 = .cell→y.1 = x0) (hnames:∀ y ∈ scope.names,y.2 = .local→scope.names.lookup y.1 = some .local)
  (hfree:∀ y ∈ scope.names,y.2 = .free→X.env.kindOf y.1 = some .cell∨X.env.kindOf y.1 = some .free) (hloc:∀ y ∈ X.N,y ∉ [x0]→(relabel scope X.env).names.lookup y ≠ some .local) (hq:∀ y ∈ X.N,y ∈ [x0]→(relabel scope X.env).names.lookup (hid y) = none) (hi:PI X tg iter wi)
  (hg:∀ C s₀ H₀ ex pn,PG (X.compGC N' scope x0 C s₀ H₀ ex pn) tg gt) (ht:∀ C s₀ H₀ ex pn,PTs (X.compGC N' scope x0 C s₀ H₀ ex pn) ifs tc) (he:∀ C s₀ H₀ ex pn,PE (X.compGC N' scope x0 C s₀ H₀ ex pn) elt te) (hs:∀ z,foldedSetIterable iter X.env z = pure z) (I:Inv X pins σ H s) (h:tCompG wi [x0].length gt tc te σ H Qv)
  (endC:∀ (C D:Addr) (Hc:Hp) (s6:Shared) (m:Str→Option Value) (fl:Flow),s6.heap.Ns C m→Inv X pins σ Hc s6→FpOk X pins Hc C→Qv (.ref D) Hc→compPost (model X.prog X.w) X.A X.xe use post (.ref D) C (.ok fl) s6) :
  wpAny (model X.prog X.w) X.A (comprehension (.ListComp elt [⟨tg,iter,ifs,0⟩] scope pos) scope X.env pp (newList []) false (eval iter X.env) use) post X.xe s:=by
 have hfr:∀ y ∈ scope.names,y.2 = .free→∃ c,X.env.cells.lookup y.1 = some c:=fun y hy e=>I.ok.has y.1 (hfree y hy e)
 refine wpAny_comprehension_free (use:=use) (Q:=post) rfl hs (closure_eq hfr) hkind hnames (thn (hi pins s σ H _ I h) fun v s1 h1=>thn h1 fun itv s2 h2=>?_)
 obtain ⟨it,fp,tn,J,H2,e,I2,T,st2,f2,R⟩:=h2
 subst e
 have nD:H2 s2.heap.objs.size = none:=I2.hok.fresh (Nat.le_refl _)
 obtain ⟨W,⟨m0,w0⟩,turn⟩:=R s2.heap.objs.size nD
 refine wpAny_newObj_type ?_ (by show 0 ≤ sizeLine; exact Nat.zero_le _)
 have I3:Inv X pins σ (upd H2 s2.heap.objs.size (.lst [])) { s2 with heap:=s2.heap.push { cls:=.type "list",dict:=none,data:=.seq ([] : List Value).toArray } }:=I2.lnew (t':=s2.toks) (ys:=[]) (its:=[]) .nil (Nat.zero_le _)
 have oldT:∀ b o,s2.heap.get? b = some o→(s2.heap.push { cls:=.type "list",dict:=none,data:=.seq ([] : List Value).toArray }).get? b = some o:=fun b o e=>Heap.get?_push_of_some _ e
 generalize hs3:({ s2 with heap:=s2.heap.push { cls:=.type "list",dict:=none,data:=.seq ([] : List Value).toArray } } : Shared) = s3 at I3 ⊢
 have st3:tn 0 s3.heap:=T.keep _ _ _ st2 fun b _ o e=>by rw [← hs3]; exact oldT b o e
 generalize hH3:upd H2 s2.heap.objs.size (.lst []) = H3 at I3 w0
 have f3:∀ b ∈ fp,FpOk X pins H3 b:=fun b hb=>by
  obtain ⟨a1,a2⟩:=f2 b hb
  refine ⟨?_,a2⟩
  obtain ⟨o,e,_⟩:=T.obj _ _ st2 b hb
  rw [← hH3,upd_ne (Nat.ne_of_lt (Heap.lt_size e))]
  exact a1
 refine wpAny_newEnv1 hcf hpc fun g hns hcl kg=>?_
 have clm:∀ {y:Str} {c:Addr},(clOf X.env.cells scope.names []).lookup y = some c→X.env.cells.lookup y = some c:=fun {y c} e=>by
  rcases clOf_mem hfr (PySem.mem_of_lookup e) with z | z
  ·cases z
  ·exact z
 have kinds:∀ {y:Str},y ≠ x0→((relabel scope X.env).names.lookup y = some .cell∨(relabel scope X.env).names.lookup y = some .free)→(X.env.kindOf y = some .cell∨X.env.kindOf y = some .free)∧∃ c,(clOf X.env.cells scope.names []).lookup y = some c:=fun {y} ny e=>by
  have z:=relabel_free1 ny e hcl1
  obtain ⟨c,hc'⟩:=clOf_has (cells:=X.env.cells) (acc:=[]) (.inl z)
  exact ⟨hfree _ z rfl,lookup_some_of_mem hc'⟩
 have cle:∀ {y:Str} {c:Addr},((x0,s3.heap.objs.size + 1) :: clOf X.env.cells scope.names []).lookup y = some c→(y = x0∧c = s3.heap.objs.size + 1)∨(y ≠ x0∧X.env.cells.lookup y = some c):=fun {y c} e=>by
  rw [List.lookup_cons] at e
  cases hy:y == x0 with
  | true=>rw [hy] at e; cases e; exact .inl ⟨by simpa using hy,rfl⟩
  | false=>rw [hy] at e; exact .inr ⟨by simpa using hy,clm e⟩
 have cll:∀ {y c},X.env.cells.lookup y = some c→c < s3.heap.objs.size:=fun {y c} e=>by
  obtain ⟨v,o,h1,_⟩:=I3.cell y c e
  exact Heap.lt_size h1
 have lt3:∀ b ∈ fp,b < s3.heap.objs.size:=fun b hb=>by
  obtain ⟨o,e,_⟩:=T.obj _ _ st3 b hb
  exact Heap.lt_size e
 have nst:∀ b ∈ fp,b ∉ frs X.stack:=fun b hb=>I3.nostk' (f3 b hb).2.1 (f3 b hb).2.2.1
 have cfp:∀ b ∈ fp,∀ y c,((x0,s3.heap.objs.size + 1) :: clOf X.env.cells scope.names []).lookup y = some c→c ≠ b:=fun b hb y c e=>by
  rcases cle e with ⟨_,e2⟩ | ⟨_,e2⟩
  ·rw [e2]; exact Nat.ne_of_gt (Nat.lt_succ_of_lt (lt3 b hb))
  ·exact (f3 b hb).2.2.2.2.1 y c e2
 generalize hX:X.compGC N' scope x0 s3.heap.objs.size s3 H3 fp (X.pn ++ pins) = Y
 have ok':Y.Ok:=by
  subst hX
  exact ⟨I3.ok.mod,hkind,I3.ok.glob,I3.ok.blt,Nat.le_refl _,fun y z c h1 h2=>by
    rcases cle h1 with ⟨e1,e2⟩ | ⟨_,e1⟩
    ·rcases cle h2 with ⟨e3,_⟩ | ⟨_,e3⟩
     ·rw [e1,e3]
     ·exact absurd (cll e3) (by rw [e2]; exact Nat.not_lt.mpr (Nat.le_succ _))
    ·rcases cle h2 with ⟨_,e4⟩ | ⟨_,e3⟩
     ·exact absurd (cll e1) (by rw [e4]; exact Nat.not_lt.mpr (Nat.le_succ _))
     ·exact I3.ok.inj y z c e1 e3,fun y hy=>by
    by_cases ny:y = x0
    ·subst ny; exact ⟨_,List.lookup_cons_self⟩
    ·obtain ⟨_,c,hc'⟩:=kinds ny hy
     refine ⟨c,?_⟩
     show ((x0,s3.heap.objs.size + 1) :: clOf X.env.cells scope.names []).lookup y = some c
     rw [List.lookup_cons,beq_eq_false_iff_ne.mpr ny]; exact hc',fun y c hfn e=>by
    rcases cle e with ⟨_,e2⟩ | ⟨ny,_⟩
    ·rw [e2]; exact Nat.le_succ _
    ·have:(y == x0) = true:=hfn
     exact absurd (by simpa using this) ny,I3.ok.hd,I3.ok.frames,.inl rfl,
   fun b hb=>⟨Nat.ne_of_lt (lt3 b hb),fun y c e=>cfp b hb y c e⟩,I3.bs,Nat.le_trans I3.ok.bsz I3.sz,fun b o e hb=>by
    rcases (f3 b hb).2.2.2.1 with z | z
    ·exact I3.ok.noex b o e z
    ·exact absurd (Nat.lt_of_lt_of_le (Nat.lt_of_lt_of_le (Heap.lt_size e) I3.ok.bsz) z) (Nat.lt_irrefl _),nst,I3.stack,I3.stkFree⟩
 have J4:∀ tk,Inv Y [] (List.replicate [x0].length none ++ σ) H3 { s3 with heap:=g,toks:=tk }:=fun tk=>by
  subst hX
  refine ⟨ok',rfl,I3.bare,Un.kept kg,⟨_,hns,fun i y v e1 e2 e3=>?_⟩,fun y c e=>?_,I3.hok.fresh (Nat.le_refl _),fun y c e=>by
   rcases cle e with ⟨_,e2⟩ | ⟨_,e2⟩
   ·rw [e2]; exact I3.hok.fresh (Nat.le_succ _)
   ·exact I3.freeC y c e2,fun p hp=>?_,I3.hok.kept kg,?_⟩
  ·by_cases hin:i < [x0].length
   ·rw [List.getElem?_append_left (by rw [List.length_replicate]; exact hin),List.getElem?_replicate,if_pos hin] at e2
    cases e2
   ·obtain ⟨j,rfl⟩ : ∃ j,i = [x0].length + j:=⟨i - [x0].length,by omega⟩
    have e0:N'[j]? = some y:=by
     have e1:([x0] ++ N')[[x0].length + j]? = some y:=e1
     rw [List.getElem?_append_right (by omega)] at e1
     rw [show [x0].length + j - [x0].length = j by omega] at e1
     exact e1
    have e2':σ[j]? = some (some v):=by
     rw [List.getElem?_append_right (by rw [List.length_replicate]; omega),List.length_replicate] at e2
     rw [show [x0].length + j - [x0].length = j by omega] at e2
     exact e2
    rw [← hsh] at e0
    obtain ⟨y0,e1',ey⟩ : ∃ y0,X.N[j]? = some y0∧(if y0 ∈ [x0] then hid y0 else y0) = y:=by
     unfold shadG at e0
     rw [List.getElem?_map] at e0
     cases hz:X.N[j]? with
     | none=>rw [hz] at e0; cases e0
     | some y0=>rw [hz] at e0; exact ⟨y0,rfl,Option.some.inj e0⟩
    have e3:(relabel scope X.env).names.lookup y = some .local∨(relabel scope X.env).names.lookup y = some .cell∨(relabel scope X.env).names.lookup y = some .free:=e3
    have ne:¬ y0 ∈ [x0]:=fun z=>by
     rw [if_pos z] at ey
     subst ey
     rw [hq y0 (List.mem_of_getElem? e1') z] at e3
     rcases e3 with z | z | z <;> cases z
    rw [if_neg ne] at ey
    subst ey
    have e3':(relabel scope X.env).names.lookup y0 = some .cell∨(relabel scope X.env).names.lookup y0 = some .free:=by
     rcases e3 with z | z
     ·exact absurd z (hloc y0 (List.mem_of_getElem? e1') ne)
     ·exact z
    have ny:y0 ≠ x0:=fun z=>ne (by rw [z]; simp)
    obtain ⟨kd,c,hcl⟩:=kinds ny e3'
    have hcl':((x0,s3.heap.objs.size + 1) :: clOf X.env.cells scope.names []).lookup y0 = some c:=by rw [List.lookup_cons,beq_eq_false_iff_ne.mpr ny]; exact hcl
    obtain ⟨m,_,hl⟩:=I3.loc
    obtain ⟨u,r,lk⟩:=hl j y0 v e1' e2' (.inr kd)
    refine ⟨u,r,.inr ⟨e3',c,hcl',?_⟩⟩
    rcases lk with ⟨k1,_⟩ | ⟨_,c',q1,o,q2,q3⟩
    ·exfalso
     have k1':X.env.kindOf y0 = some .local:=k1
     rcases kd with k2 | k2 <;> rw [k1'] at k2 <;> cases k2
    ·rw [clm hcl] at q1
     cases q1
     exact ⟨o,kg _ _ q2,q3⟩
  ·rcases cle e with ⟨_,e2⟩ | ⟨_,e2⟩
   ·rw [e2]; exact ⟨none,hcl⟩
   ·obtain ⟨v,o,q2,q3⟩:=I3.cell y c e2
    exact ⟨v,o,kg _ _ q2,q3⟩
  ·have hp':p ∈ X.pn ++ pins:=by simpa [Cx.compGC] using hp
   obtain ⟨a1,a2,a3,a4,a5⟩:=I3.pin p hp'
   exact ⟨kg _ _ a1,a2,Nat.ne_of_lt (Heap.lt_size a1),I3.nostk' a3 a4,a5⟩
  ·show (List.replicate [x0].length none ++ σ).length = ([x0] ++ N').length
   have hln:N'.length = X.N.length:=by rw [← hsh]; unfold shadG; rw [List.length_map]
   rw [List.length_append,List.length_replicate,List.length_append,I3.len,hln]
 have fpY:∀ {Hc:Hp},(∀ b ∈ fp,Hc b = none)→∀ b ∈ fp,FpOk Y [] Hc b:=fun {Hc} hn b hb=>by
  subst hX
  exact ⟨hn b hb,Nat.ne_of_lt (lt3 b hb),nst b hb,.inl hb,fun y c e=>cfp b hb y c e,fun p hp=>(f3 b hb).2.2.2.2.2 p (by simpa [Cx.compGC] using hp)⟩
 have loop:∀ s4:Shared,s4 = { s3 with heap:=g,toks:=s3.toks + ([] : List (Str × Value)).length } →
   codeAny (model X.prog X.w) X.A (.compLoop (.ListComp elt [⟨tg,iter,ifs,0⟩] scope pos) 0 (.ref it) (.ref s2.heap.objs.size) Y.env) (compPost (model X.prog X.w) X.A X.xe use post (.ref s2.heap.objs.size) s3.heap.objs.size) s4:=by
  rintro s4 rfl
  have YP:Y.prog = X.prog∧Y.w = X.w∧Y.K = X.K∧Y.calm = X.calm∧Y.A = X.A∧Y.env.locals = s3.heap.objs.size:=by subst hX; exact ⟨rfl,rfl,rfl,rfl,rfl,rfl⟩
  obtain ⟨y1,y2,y3,y4,y5,y6⟩:=YP
  have he':PE Y elt te:=by subst hX; exact he _ _ _ _ _
  have hg':PG Y tg gt:=by subst hX; exact hg _ _ _ _ _
  have ht':PTs Y ifs tc:=by subst hX; exact ht _ _ _ _ _
  have xeY:Y.xe = fun _ _=>False:=by subst hX; rfl
  have yb:∀ {Hc:Hp} {w':L2.St} {pn:List (Addr × Obj)} {s':Shared},Inv Y pn w' Hc s'→Un (frs X.stack) fp H3 Hc s3.heap s'.heap:=fun {Hc w' pn s'} Z=>by
   have:=Z.base
   subst hX
   exact this
  have yos:∀ {Hc:Hp} {w':L2.St} {pn:List (Addr × Obj)} {s':Shared},Inv Y pn w' Hc s'→s'.os = s3.os:=fun {Hc w' pn s'} Z=>by
   have:=Z.os
   subst hX
   exact this
  refine codeAny_loop rfl (fun n s'=>∃ i ys Hc,∃ w':L2.St,w'.length = [x0].length∧Inv Y [] (w' ++ σ) Hc s'∧tn i s'.heap∧(∀ b ∈ fp,Hc b = none)∧W i n ys Hc) (fun n s5 hI=>?_) m0 ⟨0,[],H3,List.replicate [x0].length none,List.length_replicate,J4 _,T.keep _ _ _ st3 fun b _ o e=>kg b o e,fun b hb=>(f3 b hb).1,w0⟩
  obtain ⟨i,ys,Hc,w',hw',Z,stc,frc,wc⟩:=hI
  show wpAny _ _ ((compTurn (.ListComp elt [⟨tg,iter,ifs,0⟩] scope pos) 0 (.ref it) (.ref s2.heap.objs.size) Y.env).onRaise (fun z=>do noteFrame z Y.env; theTreesLotGoes z)) _ _ s5
  refine wpAny_noted (wpAny_noRaise ?_)
  rw [compTurn_list]
  show wpAny (model X.prog X.w) X.A _ _ _ _
  rcases turn i n ys Hc wc with ⟨stop,qn⟩ | ⟨go,step⟩
  ·have hd:=T.done Y y1 y2 y3 (y4.trans hc) i [] s5 (w' ++ σ) Hc (fun _ _=>False) Z (fpY frc) stc stop
   rw [y5] at hd
   refine wpAny_bind (wpAny_standAt (wpAny_bind (thn hd fun r s6 ⟨hr,Z6⟩=>?_)))
   subst hr
   refine wpAny_pure ?_
   obtain ⟨m,hn6,_⟩:=Z6.loc
   rw [y6] at hn6
   have u6:=yb Z6
   have hok:HOk X.prog X.w Hc s6.heap:=by
    have z:=Z6.hok
    rw [y1,y2] at z
    exact z
   have cn:Hc s3.heap.objs.size = none:=by
    have z:=Z6.free
    rw [y6] at z
    exact z
   have I6:Inv X pins σ Hc s6:=I3.call' (s':=s6) (ch:=fp) (yos Z6) u6 hok Z6.bare fun b hb=>⟨(f3 b hb).2.2.2.1,(f3 b hb).2.1,(f3 b hb).2.2.2.2.1,(f3 b hb).2.2.2.2.2⟩
   have fC:FpOk X pins Hc s3.heap.objs.size:=I3.fpOk (Nat.le_refl _) cn
   exact endC _ _ Hc s6 m _ hn6 I6 fC qn
  ·have hd:=T.item Y y1 y2 y3 (y4.trans hc) i [] s5 (w' ++ σ) Hc (fun _ _=>False) Z (fpY frc) stc go
   rw [y5] at hd
   refine wpAny_bind (wpAny_standAt (wpAny_bind (thn hd fun r s6 ⟨u,hr,h6⟩=>?_)))
   subst hr
   refine wpAny_bind (thn h6 fun _ s7 ⟨xv,H7,Z7,r7,yl,st7,fr7⟩=>?_)
   have Z7':=Z7.pinned (fpY fr7) (T.obj _ _ st7)
   have hst:=hg' _ s7 _ H7 xv u _ Z7' r7 (step xv H7 yl w' hw')
   rw [y1,y2,y5,xeY] at hst
   refine wpAny_bind (thn hst fun _ s8 ⟨σ8,H8,Z8,pre,hpre,e8,q8⟩=>?_)
   subst e8
   have hte:=ht' _ s8 _ H8 _ Z8 q8
   rw [y1,y2,y5,xeY] at hte
   have fin:∀ {m':Nat} {ys':List V} {H9:Hp} {s9:Shared},Inv Y ([] ++ pinsAt fp s7.heap) (pre ++ σ) H9 s9→m' < n→W (i + 1) m' ys' H9→∃ m,m < n∧∃ i ys Hc,∃ w':L2.St,w'.length = [x0].length∧Inv Y [] (w' ++ σ) Hc s9∧tn i s9.heap∧(∀ b ∈ fp,Hc b = none)∧W i m ys Hc:=fun {m' ys' H9 s9} Z9 hm' w9 =>
    ⟨m',hm',i + 1,ys',H9,pre,hpre,Z9.unpinned,T.keep _ _ _ st7 fun b hb o e=>(Z9.pin (b,o) (List.mem_append_right _ (List.mem_append_right _ (mem_pinsAt hb e)))).1,fun b hb=>by
     obtain ⟨o,e,_⟩:=T.obj _ _ st7 b hb
     exact (Z9.pin (b,o) (List.mem_append_right _ (List.mem_append_right _ (mem_pinsAt hb e)))).2.1,w9⟩
   refine wpAny_bind (thn hte fun ok s9 ⟨H9,Z9,q9⟩=>?_)
   cases ok with
   | false =>
    obtain ⟨m',hm',w9⟩:=q9
    exact wpAny_pure ⟨rfl,fin Z9 hm' w9⟩
   | true =>
    have hel:=he' _ s9 _ H9 _ Z9 q9
    rw [y1,y2,y5,xeY] at hel
    refine wpAny_bind (wpAny_bind (thn hel fun ev s10 ⟨yv,H10,Z10,r10,hz,hD10,m',hm',w10⟩=>?_))
    have hap:=mt_append (X:=Y) _ s10 _ H10 (.ref s2.heap.objs.size) [yv] (.ref s2.heap.objs.size) [ev] (fun _ Hf=>Hf = upd H10 s2.heap.objs.size (.lst (ys ++ [yv]))) Z10 rfl (.cons r10 .nil) ⟨_,ys,yv,rfl,rfl,hD10,hz,rfl⟩
    rw [y1,y2,y5,xeY] at hap
    refine wpAny_bind (thn hap fun av s11 ⟨_,H11,Z11,_,e11⟩=>?_)
    subst e11
    exact wpAny_pure (wpAny_pure ⟨rfl,fin Z11 hm' w10⟩)
 have henv:Y.env = compEnvC scope ((x0,s3.heap.objs.size + 1) :: clOf X.env.cells scope.names []) s3.heap.objs.size X.env:=by subst hX; rfl
 rw [henv] at loop
 exact codeAny_compStart_list (loop _ rfl) (T.self _ 0 _ _ _ (T.keep _ _ _ st3 fun b _ o e=>kg b o e) (loop _ rfl))
theorem pe_compGC {x0:Str} {N':List Str} {tg:Expr} {ifs:List Expr} {gt:TG} {tc:TT} (hc:X.calm = true) (hsh:shadG [x0] X.N = N') (hN:([x0] ++ N').Nodup) (hkind:scope.kind = .function) (hcf:∀ n acc,cellsFrom n scope.names acc = (x0,n) :: acc) (hpc:∀ h,pushCells h scope.names = h.push { cls:=.type "cell",data:=.cell none }) (hcl1:∀ y ∈ scope.names,y.2 = .cell→y.1 = x0) (hnames:∀ y ∈ scope.names,y.2 = .local→scope.names.lookup y.1 = some .local)
  (hfree:∀ y ∈ scope.names,y.2 = .free→X.env.kindOf y.1 = some .cell∨X.env.kindOf y.1 = some .free) (hloc:∀ y ∈ X.N,y ∉ [x0]→(relabel scope X.env).names.lookup y ≠ some .local) (hq:∀ y ∈ X.N,y ∈ [x0]→(relabel scope X.env).names.lookup (hid y) = none) (hi:PI X tg iter wi)
  (hg:∀ C s₀ H₀ ex pn,PG (X.compGC N' scope x0 C s₀ H₀ ex pn) tg gt) (ht:∀ C s₀ H₀ ex pn,PTs (X.compGC N' scope x0 C s₀ H₀ ex pn) ifs tc) (he:∀ C s₀ H₀ ex pn,PE (X.compGC N' scope x0 C s₀ H₀ ex pn) elt te) (hs:∀ z,foldedSetIterable iter X.env z = pure z:=by intro _; rfl) :
  PE X (.ListComp elt [⟨tg,iter,ifs,0⟩] scope pos) (tCompG wi [x0].length gt tc te):=by
 intro pins s σ H Q I h
 rw [eval_ListComp]
 exact compGC_core hc hsh hN hkind hcf hpc hcl1 hnames hfree hloc hq hi hg ht he hs I h fun C D Hc s6 m fl hn I6 fC q=>⟨m,hn,fun h' hs'=>⟨.ref D,Hc,I6.turned (it:=C) (h':=h') (t':=s6.toks) (fun b o hb e=>(hs'.2 b hb).trans e) fC.1 fC.2.1 fC.2.2.2.1 fC.2.2.2.2.1 fC.2.2.2.2.2,rfl,q⟩⟩
theorem pe_compGCF {elt iter tg:Expr} {pos:Pos} {scope:Scope} {wi:TI} {te:TE} {ifs:List Expr} {gt:TG} {tc:TT} (sc:Scope) (N N':List Str) (x0:Str) (hsc:X.env.scope = sc) (hNN:X.N = N) (hc:X.calm = true) (hsh:shadG [x0] N = N') (hN:([x0] ++ N').Nodup) (hkind:scope.kind = .function) (hcf:∀ n acc,cellsFrom n scope.names acc = (x0,n) :: acc) (hpc:∀ h,pushCells h scope.names = h.push { cls:=.type "cell",data:=.cell none }) (hcl1:∀ y ∈ scope.names,y.2 = .cell→y.1 = x0)
  (hnames:∀ y ∈ scope.names,y.2 = .local→scope.names.lookup y.1 = some .local) (hfree:∀ y ∈ scope.names,y.2 = .free→sc.names.lookup y.1 = some .cell∨sc.names.lookup y.1 = some .free)
  (hloc:∀ y ∈ N,y ∉ [x0]→(scope.names.map fun (n,k)=>if (k == NameKind.free && sc.kind == .function && sc.names.lookup n == some .cell) then (n,NameKind.cell) else (n,k)).lookup y ≠ some .local)
  (hq:∀ y ∈ N,y ∈ [x0]→(scope.names.map fun (n,k)=>if (k == NameKind.free && sc.kind == .function && sc.names.lookup n == some .cell) then (n,NameKind.cell) else (n,k)).lookup (hid y) = none) (hi:PI X tg iter wi)
  (hg:∀ C s₀ H₀ ex pn,PG (X.compGC N' scope x0 C s₀ H₀ ex pn) tg gt) (ht:∀ C s₀ H₀ ex pn,PTs (X.compGC N' scope x0 C s₀ H₀ ex pn) ifs tc) (he:∀ C s₀ H₀ ex pn,PE (X.compGC N' scope x0 C s₀ H₀ ex pn) elt te) (hs:∀ z,foldedSetIterable iter X.env z = pure z:=by intro _; rfl) :
  PE X (.ListComp elt [⟨tg,iter,ifs,0⟩] scope pos) (tCompG wi [x0].length (tMG gt) (tMT tc) (tM te)):=by
 subst hsc hNN
 exact pe_compGC hc hsh hN hkind hcf hpc hcl1 hnames hfree hloc hq hi (fun C s₀ H₀ ex pn=>(hg C s₀ H₀ ex pn).mono) (fun C s₀ H₀ ex pn=>(ht C s₀ H₀ ex pn).mono) (fun C s₀ H₀ ex pn=>(he C s₀ H₀ ex pn).mono) hs
theorem pe_compGF2C {X:Cx} {N0:List Str} {x00:Str} {scopeO:Scope} {C0:Addr} {s0:Shared} {H0:Hp} {ex0:List Addr} {pn0:List (Addr × Obj)} {elt iter tg:Expr} {pos:Pos} {scope:Scope} {wi:TI} {te:TE} {ifs:List Expr} {gt:TG} {tc:TT} (sc:Scope) (N N' xs:List Str) (hsc:X.env.scope = sc) (hNN : [x00] ++ N0 = N) (hc:X.calm = true) (hsh:shadG xs N = N') (hN:(xs ++ N').Nodup) (hkind:scope.kind = .function) (hcell:∀ y ∈ scope.names,y.2 ≠ .cell)
  (hnames:∀ y ∈ scope.names,y.2 = .local→scope.names.lookup y.1 = some .local) (hfree:∀ y ∈ scope.names,y.2 = .free→(rlb sc scopeO).names.lookup y.1 = some .cell∨(rlb sc scopeO).names.lookup y.1 = some .free)
  (hloc:∀ y ∈ N,y ∉ xs→(scope.names.map fun (n,k)=>if (k == NameKind.free && (rlb sc scopeO).kind == .function && (rlb sc scopeO).names.lookup n == some .cell) then (n,NameKind.cell) else (n,k)).lookup y ≠ some .local)
  (hq:∀ y ∈ N,y ∈ xs→(scope.names.map fun (n,k)=>if (k == NameKind.free && (rlb sc scopeO).kind == .function && (rlb sc scopeO).names.lookup n == some .cell) then (n,NameKind.cell) else (n,k)).lookup (hid y) = none) (hi:PI (X.compGC N0 scopeO x00 C0 s0 H0 ex0 pn0) tg iter wi)
  (hg:∀ C s₀ H₀ ex pn,PG ((X.compGC N0 scopeO x00 C0 s0 H0 ex0 pn0).compG N' scope xs C s₀ H₀ ex pn) tg gt) (ht:∀ C s₀ H₀ ex pn,PTs ((X.compGC N0 scopeO x00 C0 s0 H0 ex0 pn0).compG N' scope xs C s₀ H₀ ex pn) ifs tc) (he:∀ C s₀ H₀ ex pn,PE ((X.compGC N0 scopeO x00 C0 s0 H0 ex0 pn0).compG N' scope xs C s₀ H₀ ex pn) elt te) (hs:∀ z,foldedSetIterable iter (X.compGC N0 scopeO x00 C0 s0 H0 ex0 pn0).env z = pure z:=by intro _; rfl) :
  PE (X.compGC N0 scopeO x00 C0 s0 H0 ex0 pn0) (.ListComp elt [⟨tg,iter,ifs,0⟩] scope pos) (tCompG wi xs.length (tMG gt) (tMT tc) (tM te)):=by
 subst hsc hNN
 exact pe_compGF (X:=(X.compGC N0 scopeO x00 C0 s0 H0 ex0 pn0)) (rlb X.env.scope scopeO) ([x00] ++ N0) N' xs rfl rfl hc hsh hN hkind hcell hnames hfree hloc hq hi hg ht he hs
end
end L2
set_option Elab.async false
set_option linter.all false
set_option maxRecDepth 100000
set_option maxHeartbeats 4000000
namespace L2
open PySem PySem.Spec PyProof.Rows
theorem tFor_rng2M {ta:TA} {g:TG} {tb:TS} {D:Ends} {σ:L2.St} {H:Hp} (h:ta σ H fun vs H1=>∃ (lo hi:Int) (n:Nat),vs = [.int lo,.int hi]∧(hi - lo).toNat = n∧lo.natAbs ≤ 1000000∧hi.natAbs ≤ 1000000∧∃ J:Nat→L2.St→Hp→Prop,J 0 σ H1 ∧
   (∀ (k:Nat) σ' H',k < n→J k σ' H'→g (.int (lo + k)) σ' H' fun σ2 H2=>tb { D with nx:=J (k + 1),ct:=J (k + 1),bk:=D.nx } σ2 H2)∧∀ σ' H',J n σ' H'→D.nx σ' H'):tFor (iRng2 (tMA ta)) g tb D σ H:=by
 refine ⟨_,h,?_⟩
 rintro vs H1 ⟨lo,hi,n,rfl,rfl,hlo,hhi,J,j0,step,fin⟩
 refine ⟨lo,hi,rfl,by omega,fun k m σ' H'=>k ≤ (hi - lo).toNat∧m = (hi - lo).toNat - k∧J k σ' H',⟨_,Nat.zero_le _,rfl,j0⟩,?_⟩
 rintro k m σ' H' ⟨hk,rfl,j⟩
 by_cases e:k = (hi - lo).toNat
 ·subst e
  exact .inl ⟨Nat.le_refl _,fin σ' H' j⟩
 ·have hlt:k < (hi - lo).toNat:=by omega
  refine .inr ⟨hlt,J (k + 1),fun σ3 H3 z=>⟨(hi - lo).toNat - (k + 1),by omega,by omega,rfl,z⟩,?_⟩
  rintro x H'' ⟨rfl,rfl⟩
  exact step k σ' H'' hlt j
end L2
set_option Elab.async false
set_option linter.all false
set_option maxRecDepth 100000
set_option maxHeartbeats 4000000
namespace L2
open PySem PySem.Spec PyProof.Rows
section
variable {X:Cx}
end
theorem tCompG1_rngC {ta:TA} {tc:TT} {te:TE} {σ:L2.St} {H:Hp} {Q:VK} (h:ta σ H fun vs H1=>∃ n:Nat,vs = [.int n]∧n ≤ 64∧∀ D,H1 D = none→∃ J:Nat→List V→Hp→Prop,J 0 [] (upd H1 D (.lst [])) ∧
   (∀ (k:Nat) ys Hc,k < n→J k ys Hc→ys.length ≤ k→tc (some (.int k) :: σ) Hc fun b H3=>match b with | true=>te (some (.int k) :: σ) H3 fun y H2=>H2 D = some (.lst ys)∧J (k + 1) (ys ++ [y]) (upd H2 D (.lst (ys ++ [y]))) | false=>J (k + 1) ys H3)∧∀ ys Hc,J n ys Hc→ys.length ≤ n→Q (.ref D) Hc) :
  tCompG (iRng1 (tMA ta)) 1 (tMG (gName 0)) (tMT tc) (tM te) σ H Q:=by
 refine ⟨_,h,?_⟩
 rintro vs H1 ⟨n,rfl,hn,rest⟩
 refine ⟨n,rfl,by omega,by omega,?_⟩
 rw [Int.toNat_natCast]
 intro D hD
 obtain ⟨J,j0,step,fin⟩:=rest D hD
 have hz:64 ≤ sizeLine:=by decide
 refine ⟨fun k m ys Hc=>k ≤ n∧m = n - k∧ys.length ≤ k∧J k ys Hc,⟨_,Nat.zero_le _,rfl,Nat.le_refl _,j0⟩,?_⟩
 rintro k m ys Hc ⟨hk,rfl,hy,j⟩
 by_cases e:k = n
 ·subst e
  exact .inl ⟨Nat.le_refl _,fin ys Hc j hy⟩
 ·have hlt:k < n:=by omega
  refine .inr ⟨hlt,?_⟩
  rintro x H'' ⟨rfl,rfl⟩
  rw [Int.zero_add]
  have st:=step k ys H'' hlt j hy
  have tn:tTurn 1 (gName 0) tc te (.int k) σ H'' (fun y H2=>H2 D = some (.lst ys)∧J (k + 1) (ys ++ [y]) (upd H2 D (.lst (ys ++ [y])))) fun H3=>J (k + 1) ys H3:=by
   intro pre hp
   obtain ⟨u,rfl⟩ : ∃ u,pre = [u]:=by
    match pre,hp with
    | [u],_=>exact ⟨u,rfl⟩
   exact ⟨[some (.int k)],rfl,rfl,st⟩
  refine tn.weak ?_ ?_
  ·rintro yv H2 ⟨z1,z2⟩
   exact ⟨by omega,z1,n - (k + 1),by omega,by omega,rfl,by rw [List.length_append]; exact Nat.succ_le_succ hy,z2⟩
  ·intro H3 z
   exact ⟨n - (k + 1),by omega,by omega,rfl,Nat.le_succ_of_le hy,z⟩
end L2
set_option Elab.async false
set_option linter.all false
set_option maxRecDepth 100000
set_option maxHeartbeats 4000000
namespace L2
open PySem PySem.Spec PyProof.Rows
def Ite (l:Addr):It:=⟨fun i H=>∃ xs,H l = some (.lst xs)∧i < xs.length,fun i H v H'=>∃ xs x t,H l = some (.lst xs)∧xs[i]? = some x∧H t = none∧v = .ref t∧H' = upd H t (.tup [.int i,x]),fun i H=>∃ xs,H l = some (.lst xs)∧xs.length ≤ i⟩
theorem turn_enum {P:Program} {w:World} {K:PySem.W.Frag} {elts:List Expr} {x1} {pos:Pos} (e it l:Addr) (hne:e ≠ it) :
  Turn P w K (.Tuple elts x1 pos) (Ite l) [e,it] e (fun i h=>(∃ old,IsEnum h e it ((i:Nat):Int) old)∧h.IsListIter it l i) where
 mem:=by simp
 obj:=by
  rintro i h ⟨⟨old,s1⟩,⟨o4,s4,_,d4⟩⟩ b hb
  simp only [List.mem_cons,List.not_mem_nil,or_false] at hb
  rcases hb with rfl | rfl
  ·exact ⟨_,s1,fun v e=>by cases e⟩
  ·exact ⟨_,s4,fun v e=>by rw [d4] at e; cases e⟩
 keep:=fun i h h' ⟨⟨old,s1⟩,s4⟩ k=>⟨⟨old,k e (by simp) _ s1⟩,iter_move s4 (k it (by simp))⟩
 item:=by
  intro X hP hw hK hc i pins s σ H E I hf st hg
  subst hP hw hK
  obtain ⟨⟨old,s1⟩,s4⟩:=st
  obtain ⟨xs,ha,lt1⟩:=hg
  obtain ⟨_,it1,n1,rv1,le1,g1⟩:=I.lstM ha
  have ex:xs[i]? = some xs[i]:=List.getElem?_eq_getElem lt1
  obtain ⟨u,hu,ru⟩:=vals_at rv1 ex
  refine wpAny_pyNext_enum_item s1 s4 (items:=it1.toArray) ⟨_,g1,rfl,n1,rfl⟩ (x:=u) (by simpa using hu) hne fun h' a1 a3 a5 a6 a7=>⟨_,rfl,?_⟩
  refine wpAny_letOwnedTupleGo_enum a1 fun h2 st2 sb=>?_
  have nt:H s.heap.objs.size = none:=I.fresh
  have I1:=I.laid (a:=s.heap.objs.size) (o:=.tup [.int i,xs[i]]) (h':=s.heap.push { cls:=.type "tuple",data:=.seq #[.int i s.toks,u] }) (t':=s.toks + 1) (fun b q z=>Heap.get?_push_of_some _ z) (Nat.le_refl _)
   ⟨(by show 2 ≤ sizeLine; decide),[.int i s.toks,u],.cons ⟨_,rfl⟩ (.cons ru .nil),_,Heap.get?_push_size _ rfl,rfl,_,rfl⟩
  have nz:e ≠ s.heap.objs.size:=Nat.ne_of_lt (Heap.lt_size s1)
  have n1':it ≠ s.heap.objs.size:=by obtain ⟨o,e,_⟩:=s4; exact Nat.ne_of_lt (Heap.lt_size e)
  have fpn:∀ b ∈ [e,it],upd H s.heap.objs.size (.tup [.int i,xs[i]]) b = none:=by
   intro b hb
   have f0:=(hf b hb).1
   simp only [List.mem_cons,List.not_mem_nil,or_false] at hb
   rcases hb with rfl | rfl
   ·exact (upd_ne nz).trans f0
   ·exact (upd_ne n1').trans f0
  have I2:=I1.turnedL (ch:=[e,it]) (h':=h2) (t':=s.toks + 1) (fun b ob hb z=>by
   simp only [List.mem_cons,List.not_mem_nil,or_false,not_or] at hb
   obtain ⟨b1,b3⟩:=hb
   refine (sb.2 b b1).trans ?_
   by_cases hs:b = s.heap.objs.size
   ·subst hs
    have e2:=Heap.get?_push_size s.heap (o:={ cls:=.type "tuple",data:=.seq #[.int i s.toks,u] }) rfl
    have z:(s.heap.push { cls:=.type "tuple",data:=.seq #[.int i s.toks,u] }).get? s.heap.objs.size = some ob:=z
    rw [e2] at z
    cases z
    exact a5
   ·exact a7 b _ b1 b3 (push_back z hs)) fun b hb=>⟨fpn b hb,(hf b hb).2⟩
  have mv:∀ c o,c ≠ e→h'.get? c = some o→h2.get? c = some o:=fun c o n z=>(sb.2 c n).trans z
  exact ⟨.ref _,_,I2,rfl,⟨xs,_,_,ha,ex,nt,rfl,rfl⟩,⟨⟨_,by rw [Int.natCast_add]; exact st2⟩,iter_move a3 fun o z=>mv _ _ (fun y=>hne y.symm) z⟩,fpn⟩
 done:=by
  intro X hP hw hK hc i pins s σ H E I hf st hg
  subst hP hw hK
  obtain ⟨⟨old,s1⟩,s4⟩:=st
  obtain ⟨xs,ha,lt⟩:=hg
  obtain ⟨_,it1,n1,rv1,le1,g1⟩:=I.lstM ha
  have hl:=rv1.length
  refine wpAny_pyNext_enum_end (I.ok.hd hc) s1 s4 (items:=it1.toArray) ⟨_,g1,rfl,n1,rfl⟩ (by simp; omega) fun h' k=>⟨rfl,I.turnedL (ch:=[e,it]) (t':=s.toks) (fun b ob hb z=>?_) hf⟩
  simp only [List.mem_cons,List.not_mem_nil,or_false,not_or] at hb
  exact k b ob hb.2 z
 self:=fun _ _ _ _ _ ⟨⟨_,s1⟩,_⟩ h=>wpAny_pyIter_enum s1 h
section
variable {X:Cx}
def iEnum (ta:TA):TI:=fun σ H R=>ta σ H fun vs H1=>∃ a xs,vs = [.ref a]∧H1 a = some (.lst xs)∧R (Ite a) H1
theorem pi_enum {a:Expr} {ta:TA} {elts:List Expr} {x1} {p pos tpos:Pos} (hg:Gl X "enumerate") (hm:X.mg "enumerate" = none) (ha:PA X [a] ta) (hs:starEach [a] X.env = [(false,eval a X.env)]:=by rfl) :
  PI X (.Tuple elts x1 tpos) (.Call (.Name "enumerate" p) [a] [] pos) (iEnum ta):=by
 intro pins s σ H R I h
 refine Call_ (ld_blt I hg hm boot_enumerate (PyProof.Rows.callWith_type1 (thn (ha pos pins s σ H _ I h) fun us s1 ⟨vs,H1,I1,r1,q1⟩=>?_) (by rw [hs]; rfl) (by rfl)))
 obtain ⟨l1,xs,e,h1,q⟩:=q1
 subst e
 obtain ⟨u,rfl,ru⟩:=r1.one
 cases ru
 obtain ⟨_,it1,n1,rv1,le1,g1⟩:=I1.lstM h1
 refine call_enumerate_list (items:=it1.toArray) ⟨_,g1,rfl,n1,rfl⟩ fun h' a1 a2 a3 a7=>?_
 refine wpAny_pyIter_enum a1 ?_
 refine ⟨_,[s1.heap.objs.size + 1,s1.heap.objs.size],_,Ite l1,H1,rfl,I1.kept (t':=s1.toks) fun b ob e=>a7 b ob e,turn_enum _ _ l1 (Nat.succ_ne_self _),⟨⟨_,a1⟩,a2⟩,fun b hb=>?_,q⟩
 have hb':s1.heap.objs.size ≤ b:=by
  simp only [List.mem_cons,List.not_mem_nil,or_false] at hb
  rcases hb with z | z
  ·rw [z]; exact Nat.le_succ _
  ·rw [z]; exact Nat.le_refl _
 exact I1.fpOk hb' (I1.hok.fresh hb')
end
theorem tFor_enumM {ta:TA} {g:TG} {tb:TS} {D:Ends} {σ:L2.St} {H:Hp} (h:ta σ H fun vs H1=>∃ a xs,vs = [.ref a]∧H1 a = some (.lst xs)∧∃ J:Nat→L2.St→Hp→Prop,J 0 σ H1 ∧
   (∀ (k:Nat) x σ' H' t,xs[k]? = some x→J k σ' H'→H' a = some (.lst xs)→H' t = none→g (.ref t) σ' (upd H' t (.tup [.int k,x])) fun σ2 H2=>tb { D with nx:=fun σ3 H3=>H3 a = some (.lst xs)∧J (k + 1) σ3 H3,ct:=fun σ3 H3=>H3 a = some (.lst xs)∧J (k + 1) σ3 H3,bk:=D.nx } σ2 H2) ∧
   ∀ σ' H',J xs.length σ' H'→H' a = some (.lst xs)→D.nx σ' H'):tFor (iEnum (tMA ta)) g tb D σ H:=by
 refine ⟨_,h,?_⟩
 rintro vs H1 ⟨a,xs,rfl,hx,J,j0,step,fin⟩
 refine ⟨a,xs,rfl,hx,fun k m σ' H'=>k ≤ xs.length∧m = xs.length - k∧H' a = some (.lst xs)∧J k σ' H',⟨_,Nat.zero_le _,rfl,hx,j0⟩,?_⟩
 rintro k m σ' H' ⟨hk,rfl,ha',j⟩
 by_cases e:k = xs.length
 ·subst e
  exact .inl ⟨⟨xs,ha',Nat.le_refl _⟩,fin σ' H' j ha'⟩
 ·have hlt:k < xs.length:=by omega
  refine .inr ⟨⟨xs,ha',hlt⟩,fun σ3 H3=>H3 a = some (.lst xs)∧J (k + 1) σ3 H3,fun σ3 H3 ⟨z1,z3⟩=>⟨xs.length - (k + 1),by omega,by omega,rfl,z1,z3⟩,?_⟩
  rintro v H'' ⟨xs',x,t,e1,e3,e5,rfl,rfl⟩
  rw [ha'] at e1
  cases e1
  exact step k x σ' H' t e3 j ha' e5
end L2
namespace L2
open PySem PySem.Spec PyProof.Rows
def Bm (i:Int):Prop:=i.natAbs < 2 ^ 500000
theorem Bm.bits {i:Int} (h:Bm i):Builtin.Int.intBits i ≤ 2 ^ 20:=by
 have e:(2:Nat) ^ 20 = 1048576:=by decide
 have l:i.natAbs.log2 < 500000:=by
  by_cases h0:i.natAbs = 0
  ·rw [h0,Nat.log2_zero]; omega
  ·exact (Nat.log2_lt h0).mpr h
 unfold Builtin.Int.intBits
 split
 ·exact Nat.zero_le _
 ·omega
theorem op_mulM {X:Cx} : OpR X (binaryOp .Mult) (rI (fun i j=>Bm i∧Bm j) fun i j=>.int (i * j)):=opI fun _ _ _ _ _ _ _ hc q=>mul_int q (.of_bits hc.1.bits hc.2.bits)
end L2
set_option Elab.async false
set_option linter.all false
set_option maxRecDepth 100000
set_option maxHeartbeats 4000000
namespace L2
open PySem PySem.Spec PyProof.Rows
end L2
namespace Lv
def lcmL (bs:List Nat):Nat:=bs.foldl Nat.lcm 1
theorem foldl_lcm_dvd:∀ (bs:List Nat) (a m:Nat),bs.foldl Nat.lcm a ∣ m ↔ a ∣ m∧∀ b ∈ bs,b ∣ m
 | [],a,m=>by simp
 | b :: bs,a,m=>by
  rw [List.foldl_cons,foldl_lcm_dvd bs,Nat.lcm_dvd_iff]
  simp only [List.mem_cons,forall_eq_or_imp,and_assoc]
theorem lcmL_dvd {bs:List Nat} {m:Nat} : lcmL bs ∣ m ↔ ∀ b ∈ bs,b ∣ m:=by
 unfold lcmL
 rw [foldl_lcm_dvd]
 simp
theorem dvd_lcmL {bs:List Nat} {b:Nat} (h:b ∈ bs):b ∣ lcmL bs:=lcmL_dvd.mp (Nat.dvd_refl _) b h
theorem foldl_lcm_pos:∀ (bs:List Nat) (a:Nat),0 < a→(∀ b ∈ bs,0 < b)→0 < bs.foldl Nat.lcm a
 | [],a,h,_=>h
 | b :: bs,a,h,hb=>foldl_lcm_pos bs _ (Nat.lcm_pos h (hb b List.mem_cons_self)) fun c hc=>hb c (List.mem_cons_of_mem _ hc)
theorem lcmL_pos {bs:List Nat} (h:∀ b ∈ bs,0 < b):0 < lcmL bs:=foldl_lcm_pos bs 1 (by decide) h
end Lv
set_option linter.all false
set_option maxRecDepth 100000
namespace Ac
def lw (t b:Int):Int × Int:=(t / (Int.gcd t b:Nat),b / (Int.gcd t b:Nat))
theorem gpos {t b:Int} (hb:0 < b):(0:Int) < (Int.gcd t b:Nat):=by
 have:=Int.gcd_pos_of_ne_zero_right t (show b ≠ 0 by omega)
 omega
theorem lw_pos {t b:Int} (hb:0 < b):0 < (lw t b).2:=Int.ediv_pos_of_pos_of_dvd hb (Int.le_of_lt (gpos hb)) (Int.gcd_dvd_right t b)
theorem lw_gcd {t b:Int} (hb:0 < b):Int.gcd (lw t b).1 (lw t b).2 = 1:=Int.gcd_ediv_gcd_ediv_gcd (by have:=gpos (t:=t) hb; omega)
theorem lw_eq {t b:Int} (hb:0 < b):(lw t b).1 * b = t * (lw t b).2:=by
 have d1:=Int.gcd_dvd_left t b
 have d2:=Int.gcd_dvd_right t b
 have g0:=gpos (t:=t) hb
 unfold lw
 generalize hg:((Int.gcd t b:Nat):Int) = g at *
 obtain ⟨x,rfl⟩:=d1
 obtain ⟨y,rfl⟩:=d2
 show g * x / g * (g * y) = g * x * (g * y / g)
 rw [Int.mul_ediv_cancel_left _ (by omega),Int.mul_ediv_cancel_left _ (by omega),Int.mul_left_comm,Int.mul_assoc]
theorem lw_b1 (t b:Int):(lw t b).1.natAbs ≤ t.natAbs:=Int.natAbs_ediv_le_natAbs _ _
theorem lw_b2 (t b:Int):(lw t b).2.natAbs ≤ b.natAbs:=Int.natAbs_ediv_le_natAbs _ _
theorem dvd_cop {a b c:Int} (h:a ∣ b * c) (g:Int.gcd a b = 1):a ∣ c:=by
 refine Int.natAbs_dvd_natAbs.mp ((show Nat.Coprime a.natAbs b.natAbs from g).dvd_of_dvd_mul_left ?_)
 rw [← Int.natAbs_mul]
 exact Int.natAbs_dvd_natAbs.mpr h
theorem uniq {x y u v:Int} (hy:0 < y) (hv:0 < v) (g1:Int.gcd x y = 1) (g2:Int.gcd u v = 1) (e:x * v = u * y):x = u∧y = v:=by
 have d1:y ∣ v:=by
  have h:y ∣ x * v:=⟨u,by rw [e,Int.mul_comm]⟩
  exact dvd_cop h (by rw [Int.gcd_comm]; exact g1)
 have d2:v ∣ y:=by
  have h:v ∣ u * y:=⟨x,by rw [← e,Int.mul_comm]⟩
  exact dvd_cop h (by rw [Int.gcd_comm]; exact g2)
 have e2:y = v:=Int.dvd_antisymm (by omega) (by omega) d1 d2
 subst e2
 exact ⟨Int.eq_of_mul_eq_mul_right (by omega) e,rfl⟩
theorem is_lw {t b x y:Int} (hb:0 < b) (hy:0 < y) (g:Int.gcd x y = 1) (e:x * b = t * y):x = (lw t b).1∧y = (lw t b).2:=by
 refine uniq hy (lw_pos hb) g (lw_gcd hb) ?_
 have h:=lw_eq (t:=t) hb
 have h1:x * (lw t b).2 * b = (lw t b).1 * y * b:=by
  rw [Int.mul_right_comm,e,Int.mul_right_comm _ y b,h,Int.mul_right_comm]
 exact Int.eq_of_mul_eq_mul_right (by omega) h1
theorem lw_nought {t b:Int} (hb:0 < b):((lw t b).1 = 0∧(lw t b).2 = 1) ↔ t = 0:=by
 have h:=lw_eq (t:=t) hb
 have p:=lw_pos (t:=t) hb
 constructor
 ·rintro ⟨h1,h2⟩
  rw [h1,h2] at h
  omega
 ·rintro rfl
  have g:=lw_gcd (t:=0) hb
  rw [Int.zero_mul] at h
  have h0:(lw 0 b).1 = 0:=by
   rcases Int.mul_eq_zero.mp h with z | z
   ·exact z
   ·omega
  rw [h0,Int.gcd_zero_left] at g
  exact ⟨h0,by omega⟩
section
variable {κ:Type} [DecidableEq κ]
def look (acc:List (κ × Int)) (r:κ):Int:=((acc.find? fun g=>decide (g.1 = r)).map (·.2)).getD 0
end
end Ac
set_option linter.all false
set_option maxRecDepth 100000
namespace Rw
open Ac
theorem lw_congr {n d n' d':Int} (hd:0 < d) (hd':0 < d') (e:n * d' = n' * d):lw n d = lw n' d':=by
 have h:=is_lw (t:=n') (b:=d') (x:=(lw n d).1) (y:=(lw n d).2) hd' (lw_pos hd) (lw_gcd hd) (by
  have h1:=lw_eq (t:=n) hd
  have k:(lw n d).1 * d' * d = n' * (lw n d).2 * d:=by
   rw [Int.mul_right_comm,h1,Int.mul_right_comm,e,Int.mul_right_comm]
  exact Int.eq_of_mul_eq_mul_right (Int.ne_of_gt hd) k)
 exact Prod.ext h.1 h.2
def rep (r:List Int × Int):List (Int × Int):=r.1.map fun t=>lw t r.2
theorem lw_of_low {x y:Int} (hy:0 < y) (g:Int.gcd x y = 1):lw x y = (x,y):=by
 have h:=is_lw (t:=x) (b:=y) hy hy g rfl
 exact (Prod.ext h.1 h.2).symm
theorem lw_div {t b g:Int} (hb:0 < b) (hg:0 < g) (d1:g ∣ t) (d2:g ∣ b):lw (t / g) (b / g) = lw t b:=by
 obtain ⟨x,rfl⟩:=d1
 obtain ⟨y,rfl⟩:=d2
 rw [Int.mul_ediv_cancel_left _ (Int.ne_of_gt hg),Int.mul_ediv_cancel_left _ (Int.ne_of_gt hg)]
 have hy:0 < y:=Int.pos_of_mul_pos_right hb hg
 exact lw_congr hy hb (by rw [← Int.mul_assoc,Int.mul_comm x g])
theorem lw_times {t b c0 c1:Int} (hb:0 < b) (hc:0 < c1):lw (c0 * (lw t b).1) (c1 * (lw t b).2) = lw (t * c0) (b * c1):=by
  have p:=lw_pos (t:=t) hb
  have e:=lw_eq (t:=t) hb
  refine lw_congr (Int.mul_pos hc p) (Int.mul_pos hb hc) ?_
  calc c0 * (lw t b).1 * (b * c1) = c0 * c1 * ((lw t b).1 * b):=by
        rw [Int.mul_comm b c1,Int.mul_assoc,Int.mul_assoc,Int.mul_left_comm (lw t b).1 c1 b]
    _ = c0 * c1 * (t * (lw t b).2):=by rw [e]
    _ = t * c0 * (c1 * (lw t b).2):=by
        rw [Int.mul_comm c0 c1,Int.mul_assoc c1 c0,Int.mul_left_comm c0 t,← Int.mul_assoc t c0,Int.mul_left_comm c1 (t * c0)]
theorem lw_plus {t1 b1 t2 b2 c0 c1 g:Int} (h1:0 < b1) (h2:0 < b2) (hc:0 < c1) (hg:0 < g) (d1:g ∣ b1) (d2:g ∣ b2 * c1) :
    lw ((lw t1 b1).1 * c1 * (lw t2 b2).2 + c0 * (lw t2 b2).1 * (lw t1 b1).2) ((lw t1 b1).2 * c1 * (lw t2 b2).2) = lw (t1 * (b2 * c1 / g) + t2 * (b1 / g * c0)) (b1 * (b2 * c1 / g)):=by
  have p1:=lw_pos (t:=t1) h1
  have p2:=lw_pos (t:=t2) h2
  have e1:=lw_eq (t:=t1) h1
  have e2:=lw_eq (t:=t2) h2
  generalize (lw t1 b1).1 = x1 at *
  generalize (lw t1 b1).2 = y1 at *
  generalize (lw t2 b2).1 = x2 at *
  generalize (lw t2 b2).2 = y2 at *
  obtain ⟨u,rfl⟩:=d1
  obtain ⟨v,hv⟩:=d2
  have hbc:=Int.mul_pos h2 hc
  have hu:0 < u:=Int.pos_of_mul_pos_right h1 hg
  have hv0:0 < v:=by rw [hv] at hbc; exact Int.pos_of_mul_pos_right hbc hg
  rw [hv,Int.mul_ediv_cancel_left _ (Int.ne_of_gt hg),Int.mul_ediv_cancel_left _ (Int.ne_of_gt hg)]
  refine lw_congr (Int.mul_pos (Int.mul_pos p1 hc) p2) (Int.mul_pos h1 hv0) ?_
  -- both sides times b2
  have key:((x1 * c1 * y2 + c0 * x2 * y1) * (g * u * v)) * b2 = ((t1 * v + t2 * (u * c0)) * (y1 * c1 * y2)) * b2:=by
    have a1:(x1 * c1 * y2) * (g * u * v) * b2 = (t1 * v) * (y1 * c1 * y2) * b2:=by
      have:x1 * (g * u) * (c1 * y2 * v * b2) = t1 * y1 * (c1 * y2 * v * b2):=by rw [e1]
      calc (x1 * c1 * y2) * (g * u * v) * b2 = x1 * (g * u) * (c1 * y2 * v * b2):=by ac_rfl
        _ = t1 * y1 * (c1 * y2 * v * b2):=this
        _ = (t1 * v) * (y1 * c1 * y2) * b2:=by ac_rfl
    have a2:(c0 * x2 * y1) * (g * u * v) * b2 = (t2 * (u * c0)) * (y1 * c1 * y2) * b2:=by
      calc (c0 * x2 * y1) * (g * u * v) * b2 = (x2 * b2) * (g * v) * (c0 * y1 * u):=by ac_rfl
        _ = (t2 * y2) * (b2 * c1) * (c0 * y1 * u):=by rw [e2,hv]
        _ = (t2 * (u * c0)) * (y1 * c1 * y2) * b2:=by ac_rfl
    rw [Int.add_mul,Int.add_mul,Int.add_mul,Int.add_mul,a1,a2]
  exact Int.eq_of_mul_eq_mul_right (Int.ne_of_gt h2) key
def gcL (ts:List Int) (b:Int):Int:=ts.foldl (fun c t=>((Int.gcd t c:Nat):Int)) b
theorem gcL_pos:∀ {ts:List Int} {b:Int},0 < b→0 < gcL ts b
 | [],_,h=>h
 | t :: ts,b,h=>gcL_pos (ts:=ts) (gpos (t:=t) h)
theorem gcL_dvd:∀ {ts:List Int} {b:Int},gcL ts b ∣ b∧∀ t ∈ ts,gcL ts b ∣ t
 | [],b=>⟨Int.dvd_refl b,by simp⟩
 | t :: ts,b=>by
  obtain ⟨h1,h2⟩:=gcL_dvd (ts:=ts) (b:=((Int.gcd t b:Nat):Int))
  refine ⟨Int.dvd_trans h1 (Int.gcd_dvd_right t b),fun x hx=>?_⟩
  rcases List.mem_cons.mp hx with rfl | hx
  ·exact Int.dvd_trans h1 (Int.gcd_dvd_left x b)
  ·exact h2 x hx
theorem gcL_le {ts:List Int} {b:Int} (h:0 < b):gcL ts b ≤ b:=Int.le_of_dvd h gcL_dvd.1
def redR (r:List Int × Int):List Int × Int:=(r.1.map fun t=>t / gcL r.1 r.2,r.2 / gcL r.1 r.2)
theorem red_rep {r:List Int × Int} (h:0 < r.2):rep (redR r) = rep r:=by
 unfold rep redR
 rw [List.map_map]
 refine List.map_congr_left fun t ht=>?_
 exact lw_div h (gcL_pos h) (gcL_dvd.2 t ht) gcL_dvd.1
theorem red_len (r:List Int × Int):(redR r).1.length = r.1.length:=by unfold redR; rw [List.length_map]
def timesR (r:List Int × Int) (c:Int × Int):List Int × Int:=(r.1.map fun t=>t * c.1,r.2 * c.2)
theorem times_rep {r:List Int × Int} {c:Int × Int} (h:0 < r.2) (hc:0 < c.2):rep (timesR r c) = (rep r).map fun f=>lw (c.1 * f.1) (c.2 * f.2):=by
 unfold rep timesR
 rw [List.map_map,List.map_map]
 refine List.map_congr_left fun t _=>?_
 exact (lw_times h hc).symm
def plusR (r o:List Int × Int) (c:Int × Int):List Int × Int :=
 (List.zipWith (fun a b=>a * (o.2 * c.2 / ((Int.gcd r.2 (o.2 * c.2):Nat):Int)) + b * (r.2 / ((Int.gcd r.2 (o.2 * c.2):Nat):Int) * c.1)) r.1 o.1,r.2 * (o.2 * c.2 / ((Int.gcd r.2 (o.2 * c.2):Nat):Int)))
def sumF (c one more:Int × Int):Int × Int:=lw (one.1 * c.2 * more.2 + c.1 * more.1 * one.2) (one.2 * c.2 * more.2)
theorem plus_rep {r o:List Int × Int} {c:Int × Int} (h:0 < r.2) (ho:0 < o.2) (hc:0 < c.2):rep (plusR r o c) = List.zipWith (sumF c) (rep r) (rep o):=by
 have hB:=Int.mul_pos ho hc
 have g0:=gpos (t:=r.2) hB
 have d1:=Int.gcd_dvd_left r.2 (o.2 * c.2)
 have d2:=Int.gcd_dvd_right r.2 (o.2 * c.2)
 unfold rep plusR
 rw [List.map_zipWith,List.zipWith_map]
 congr 1
 funext a b
 exact (lw_plus (c0:=c.1) h ho hc g0 d1 d2).symm
end Rw
set_option linter.all false
set_option maxRecDepth 100000
namespace Rw
open Ac
structure Big (N:Nat) (r:List Int × Int):Prop where
 pos:0 < r.2
 bot:r.2.natAbs ≤ N
 top:∀ t ∈ r.1,t.natAbs ≤ N
theorem Big.le {N M:Nat} {r:List Int × Int} (h:Big N r) (hn:N ≤ M):Big M r:=⟨h.pos,Nat.le_trans h.bot hn,fun t ht=>Nat.le_trans (h.top t ht) hn⟩
theorem dvd_gcd_mul {d t g x:Int} (h1:d ∣ t * x) (h2:d ∣ g * x):d ∣ ((Int.gcd t g:Nat):Int) * x:=by
 have h:=Int.dvd_coe_gcd h1 h2
 rw [Int.gcd_mul_right] at h
 rw [Int.natCast_mul] at h
 rcases Int.natAbs_eq x with e | e
 ·rw [e]; exact h
 ·rw [e,Int.mul_neg]
  exact Int.dvd_neg.mpr h
theorem dvd_gcL_mul {d x:Int} : ∀ {ts:List Int} {b:Int},d ∣ b * x→(∀ t ∈ ts,d ∣ t * x)→d ∣ gcL ts b * x
 | [],_,h,_=>h
 | t :: ts,b,h,k=>dvd_gcL_mul (ts:=ts) (dvd_gcd_mul (k t List.mem_cons_self) h) fun u hu=>k u (List.mem_cons_of_mem _ hu)
def Alk (r s:List Int × Int):Prop:=r.1.length = s.1.length∧∀ (k:Nat) (a b:Int),r.1[k]? = some a→s.1[k]? = some b→a * s.2 = b * r.2
theorem gcL_red {r:List Int × Int} (h:0 < r.2):gcL (redR r).1 (redR r).2 = 1:=by
 have g0:=gcL_pos (ts:=r.1) h
 obtain ⟨d1,d2⟩:=gcL_dvd (ts:=r.1) (b:=r.2)
 have p:0 < (redR r).2:=Int.ediv_pos_of_pos_of_dvd h (Int.le_of_lt g0) d1
 have q0:=gcL_pos (ts:=(redR r).1) p
 obtain ⟨e1,e2⟩:=gcL_dvd (ts:=(redR r).1) (b:=(redR r).2)
 have key:gcL (redR r).1 (redR r).2 * gcL r.1 r.2 ∣ gcL r.1 r.2 * 1:=by
  refine dvd_gcL_mul ?_ fun t ht=>?_
  ·obtain ⟨u,hu⟩:=e1
   have hu:r.2 / gcL r.1 r.2 = gcL (redR r).1 (redR r).2 * u:=hu
   refine ⟨u,?_⟩
   rw [Int.mul_one,Int.mul_right_comm,← hu,Int.ediv_mul_cancel d1]
  ·obtain ⟨u,hu⟩:=e2 (t / gcL r.1 r.2) (List.mem_map.mpr ⟨t,ht,rfl⟩)
   refine ⟨u,?_⟩
   rw [Int.mul_one,Int.mul_right_comm,← hu,Int.ediv_mul_cancel (d2 t ht)]
 rw [Int.mul_one] at key
 have:=Int.le_of_dvd g0 key
 have:gcL (redR r).1 (redR r).2 ≤ 1:=by
  refine Int.le_of_mul_le_mul_right (a:=gcL r.1 r.2) ?_ g0
  omega
 omega
theorem least {N:Nat} {r s:List Int × Int} (hr:0 < r.2) (g:gcL r.1 r.2 = 1) (a:Alk r s) (h:Big N s):Big N r:=by
 have d:r.2 ∣ gcL r.1 r.2 * s.2:=dvd_gcL_mul ⟨s.2,rfl⟩ fun t ht=>by
  obtain ⟨k,hk,rfl⟩:=List.mem_iff_getElem.mp ht
  have hs:k < s.1.length:=by rw [← a.1]; exact hk
  rw [a.2 k _ _ (List.getElem?_eq_getElem hk) (List.getElem?_eq_getElem hs)]
  exact ⟨_,Int.mul_comm _ _⟩
 rw [g,Int.one_mul] at d
 obtain ⟨m,hm⟩:=d
 have m0:0 < m:=Int.pos_of_mul_pos_right (by rw [← hm]; exact h.pos) hr
 refine ⟨hr,?_,fun t ht=>?_⟩
 ·have:=Int.le_of_dvd h.pos ⟨m,hm⟩
  have:=h.bot
  omega
 ·obtain ⟨k,hk,rfl⟩:=List.mem_iff_getElem.mp ht
  have hs:k < s.1.length:=by rw [← a.1]; exact hk
  have e:=a.2 k _ _ (List.getElem?_eq_getElem hk) (List.getElem?_eq_getElem hs)
  rw [hm,Int.mul_comm r.2 m,← Int.mul_assoc] at e
  have e:=Int.eq_of_mul_eq_mul_right (Int.ne_of_gt hr) e
  have b:=h.top _ (List.getElem_mem hs)
  rw [← e,Int.natAbs_mul] at b
  exact Nat.le_trans (Nat.le_mul_of_pos_right _ (by omega)) b
theorem alk_red {r s:List Int × Int} (hr:0 < r.2) (a:Alk r s):Alk (redR r) s:=by
 have g0:=gcL_pos (ts:=r.1) hr
 obtain ⟨d1,d2⟩:=gcL_dvd (ts:=r.1) (b:=r.2)
 refine ⟨by rw [red_len]; exact a.1,fun k x y hx hy=>?_⟩
 have hx:(r.1.map fun t=>t / gcL r.1 r.2)[k]? = some x:=hx
 rw [List.getElem?_map] at hx
 cases e:r.1[k]? with
 | none=>rw [e] at hx; cases hx
 | some t =>
  rw [e] at hx
  cases hx
  have k1:=a.2 k t y e hy
  show t / gcL r.1 r.2 * s.2 = y * (r.2 / gcL r.1 r.2)
  obtain ⟨u,hu⟩:=d2 t (List.mem_of_getElem? e)
  obtain ⟨v,hv⟩:=d1
  generalize gcL r.1 r.2 = q at *
  rw [hu,hv] at k1 ⊢
  rw [Int.mul_ediv_cancel_left _ (Int.ne_of_gt g0),Int.mul_ediv_cancel_left _ (Int.ne_of_gt g0)]
  refine Int.eq_of_mul_eq_mul_left (Int.ne_of_gt g0) ?_
  rw [← Int.mul_assoc,k1,Int.mul_left_comm]
theorem red_big {N:Nat} {r s:List Int × Int} (hr:0 < r.2) (a:Alk r s) (h:Big N s):Big N (redR r):=by
 have g0:=gcL_pos (ts:=r.1) hr
 exact least (Int.ediv_pos_of_pos_of_dvd hr (Int.le_of_lt g0) gcL_dvd.1) (gcL_red hr) (alk_red hr a) h
theorem begin_big {N:Nat} {r:List Int × Int} {c:Int × Int} {k:Nat} {t:Int} (h:Big N r) (ht:r.1[k]? = some t) (t0:t ≠ 0) (hc:0 < c.2) (e:c.1 * t = c.2 * r.2) :
  Big N (redR (timesR r c))∧(redR (timesR r c)).1[k]? = some (redR (timesR r c)).2:=by
 have hp:0 < (timesR r c).2:=Int.mul_pos h.pos hc
 have tb:=h.top t (List.mem_of_getElem? ht)
 refine ⟨?_,?_⟩
 ·refine red_big hp (s:=(r.1.map fun x=>x * t.sign,t.natAbs)) ⟨?_,fun j a b ha hb=>?_⟩ ⟨?_,?_,fun x hx=>?_⟩
  ·unfold timesR; rw [List.length_map,List.length_map]
  ·have ha:(r.1.map fun t=>t * c.1)[j]? = some a:=ha
   have hb:(r.1.map fun x=>x * t.sign)[j]? = some b:=hb
   rw [List.getElem?_map] at ha hb
   cases ej:r.1[j]? with
   | none=>rw [ej] at ha; cases ha
   | some x =>
    rw [ej] at ha hb
    cases ha
    cases hb
    show x * c.1 * ((t.natAbs:Nat):Int) = x * t.sign * (r.2 * c.2)
    have k1:((t.natAbs:Nat):Int) = t * t.sign:=(Int.mul_sign_self t).symm
    rw [k1,Int.mul_assoc,← Int.mul_assoc c.1 t,e,Int.mul_assoc x,Int.mul_comm (c.2 * r.2),Int.mul_comm c.2]
  ·show (0:Int) < (t.natAbs:Nat)
   omega
  ·show (((t.natAbs:Nat):Int)).natAbs ≤ N
   rw [Int.natAbs_natCast]; exact tb
  ·obtain ⟨y,hy,rfl⟩:=List.mem_map.mp hx
   rw [Int.natAbs_mul,Int.natAbs_sign_of_ne_zero t0,Nat.mul_one]
   exact h.top y hy
 ·have e1:(timesR r c).1[k]? = some (timesR r c).2:=by
   show (r.1.map fun t=>t * c.1)[k]? = some (r.2 * c.2)
   rw [List.getElem?_map,ht]
   show some (t * c.1) = _
   rw [Int.mul_comm t,e,Int.mul_comm]
  show ((timesR r c).1.map fun t=>t / gcL (timesR r c).1 (timesR r c).2)[k]? = _
  rw [List.getElem?_map,e1]; rfl
theorem clear_big {N:Nat} {r p:List Int × Int} {c:Int × Int} {k:Nat} {a:Int} (h:Big N r) (hp:Big N p) (hl:r.1.length = p.1.length) (ha:r.1[k]? = some a) (hk:p.1[k]? = some p.2) (hc:0 < c.2) (e:c.1 * r.2 = -a * c.2) :
    Big (2 * (N * N)) (redR (plusR r p c))∧(redR (plusR r p c)).1[k]? = some 0:=by
  have hB:=Int.mul_pos hp.pos hc
  have g0:=gpos (t:=r.2) hB
  obtain ⟨u,hu⟩:=Int.gcd_dvd_left r.2 (p.2 * c.2)
  obtain ⟨v,hv⟩:=Int.gcd_dvd_right r.2 (p.2 * c.2)
  have es:plusR r p c = (List.zipWith (fun x y=>x * v + y * (u * c.1)) r.1 p.1,r.2 * v):=by
    unfold plusR
    generalize ((Int.gcd r.2 (p.2 * c.2):Nat):Int) = g at g0 hu hv ⊢
    have e1:p.2 * c.2 / g = v:=by rw [hv,Int.mul_ediv_cancel_left _ (Int.ne_of_gt g0)]
    have e2:r.2 / g = u:=by
      conv=>lhs; rw [hu]
      exact Int.mul_ediv_cancel_left _ (Int.ne_of_gt g0)
    rw [e1,e2]
  generalize ((Int.gcd r.2 (p.2 * c.2):Nat):Int) = g at g0 hu hv
  have v0:0 < v:=Int.pos_of_mul_pos_right (by rw [← hv]; exact hB) g0
  have key:u * c.1 * p.2 = -a * v:=by
    refine Int.eq_of_mul_eq_mul_left (Int.ne_of_gt g0) ?_
    calc g * (u * c.1 * p.2) = (g * u) * c.1 * p.2:=by ac_rfl
      _ = r.2 * c.1 * p.2:=by rw [← hu]
      _ = (c.1 * r.2) * p.2:=by ac_rfl
      _ = -a * c.2 * p.2:=by rw [e]
      _ = -a * (p.2 * c.2):=by ac_rfl
      _ = -a * (g * v):=by rw [hv]
      _ = g * (-a * v):=by ac_rfl
  have pos:0 < (plusR r p c).2:=by rw [es]; exact Int.mul_pos h.pos v0
  have na:=h.top a (List.mem_of_getElem? ha)
  have rn:=h.bot
  have pn:=hp.bot
  have n2:∀ {x y:Int},x.natAbs ≤ N→y.natAbs ≤ N→(x * y).natAbs ≤ N * N:=fun h1 h2=>by rw [Int.natAbs_mul]; exact Nat.mul_le_mul h1 h2
  refine ⟨?_,?_⟩
  · refine red_big pos (s:=(List.zipWith (fun x y=>x * p.2 - a * y) r.1 p.1,r.2 * p.2)) ⟨?_,fun j x y hx hy=>?_⟩ ⟨Int.mul_pos h.pos hp.pos,?_,fun x hx=>?_⟩
    · rw [es,List.length_zipWith,List.length_zipWith]
    · rw [es] at hx ⊢
      have hx:(List.zipWith (fun x y=>x * v + y * (u * c.1)) r.1 p.1)[j]? = some x:=hx
      have hy:(List.zipWith (fun x y=>x * p.2 - a * y) r.1 p.1)[j]? = some y:=hy
      rw [List.getElem?_zipWith] at hx hy
      cases e1:r.1[j]? with
      | none=>rw [e1] at hx; cases hx
      | some x1 =>
        cases e2:p.1[j]? with
        | none=>rw [e1,e2] at hx; cases hx
        | some y1 =>
          rw [e1,e2] at hx hy
          cases hx
          cases hy
          show (x1 * v + y1 * (u * c.1)) * (r.2 * p.2) = (x1 * p.2 - a * y1) * (r.2 * v)
          rw [Int.add_mul,Int.sub_mul]
          have k1:y1 * (u * c.1) * (r.2 * p.2) = -(a * y1 * (r.2 * v)):=by
            calc y1 * (u * c.1) * (r.2 * p.2) = y1 * r.2 * (u * c.1 * p.2):=by ac_rfl
              _ = y1 * r.2 * (-a * v):=by rw [key]
              _ = -(a * y1 * (r.2 * v)):=by rw [Int.neg_mul,Int.mul_neg]; congr 1; ac_rfl
          rw [k1,Int.sub_eq_add_neg]
          congr 1
          ac_rfl
    · exact Nat.le_trans (n2 rn pn) (by omega)
    · obtain ⟨j,hj,rfl⟩:=List.mem_iff_getElem.mp hx
      rw [List.getElem_zipWith]
      rw [List.length_zipWith] at hj
      have b1:=n2 (h.top _ (List.getElem_mem (show j < r.1.length by omega))) pn
      have b2:=n2 na (hp.top _ (List.getElem_mem (show j < p.1.length by omega)))
      omega
  · have e1:(plusR r p c).1[k]? = some 0:=by
      rw [es]
      show (List.zipWith (fun x y=>x * v + y * (u * c.1)) r.1 p.1)[k]? = some 0
      rw [List.getElem?_zipWith,ha,hk]
      show some (a * v + p.2 * (u * c.1)) = some 0
      have:p.2 * (u * c.1) = -(a * v):=by rw [Int.mul_comm,key,Int.neg_mul]
      rw [this]
      congr 1
      omega
    show ((plusR r p c).1.map fun t=>t / gcL (plusR r p c).1 (plusR r p c).2)[k]? = _
    rw [List.getElem?_map,e1]
    show some (0 / _) = _
    rw [Int.zero_ediv]
end Rw
set_option linter.all false
set_option maxRecDepth 100000
namespace Rw
open Ac
theorem z_red {r:List Int × Int} {k:Nat} (h:r.1[k]? = some 0):(redR r).1[k]? = some 0:=by
 show (r.1.map fun t=>t / gcL r.1 r.2)[k]? = _
 rw [List.getElem?_map,h]
 show some (0 / _) = _
 rw [Int.zero_ediv]
theorem o_red {r:List Int × Int} {k:Nat} (h:r.1[k]? = some r.2):(redR r).1[k]? = some (redR r).2:=by
 show (r.1.map fun t=>t / gcL r.1 r.2)[k]? = _
 rw [List.getElem?_map,h]; rfl
theorem z_times {r:List Int × Int} {c:Int × Int} {k:Nat} (h:r.1[k]? = some 0):(timesR r c).1[k]? = some 0:=by
 show (r.1.map fun t=>t * c.1)[k]? = _
 rw [List.getElem?_map,h]
 show some (0 * _) = _
 rw [Int.zero_mul]
theorem z_plus {r p:List Int × Int} {c:Int × Int} {k:Nat} (h:r.1[k]? = some 0) (hp:p.1[k]? = some 0):(plusR r p c).1[k]? = some 0:=by
 show (List.zipWith (fun a b=>a * (p.2 * c.2 / ((Int.gcd r.2 (p.2 * c.2):Nat):Int)) + b * (r.2 / ((Int.gcd r.2 (p.2 * c.2):Nat):Int) * c.1)) r.1 p.1)[k]? = _
 rw [List.getElem?_zipWith,h,hp]
 show some (0 * _ + 0 * _) = _
 rw [Int.zero_mul,Int.zero_mul]; rfl
theorem o_plus {r p:List Int × Int} {c:Int × Int} {k:Nat} (h:r.1[k]? = some r.2) (hp:p.1[k]? = some 0):(plusR r p c).1[k]? = some (plusR r p c).2:=by
 show (List.zipWith (fun a b=>a * (p.2 * c.2 / ((Int.gcd r.2 (p.2 * c.2):Nat):Int)) + b * (r.2 / ((Int.gcd r.2 (p.2 * c.2):Nat):Int) * c.1)) r.1 p.1)[k]? = some (r.2 * (p.2 * c.2 / ((Int.gcd r.2 (p.2 * c.2):Nat):Int)))
 rw [List.getElem?_zipWith,h,hp]
 show some (_ + 0 * _) = _
 rw [Int.zero_mul,Int.add_zero]
def gr (N:Nat):Nat→Nat
 | 0=>N
 | m + 1=>2 * (gr N m * gr N m)
end Rw
set_option linter.all false
set_option maxRecDepth 100000
namespace Rw
open Ac
def sg (f:Nat→Rat):Nat→Rat
 | 0=>0
 | n + 1=>sg f n + f n
def sz (f:Nat→Int):Nat→Int
 | 0=>0
 | n + 1=>sz f n + f n
theorem sg_add (f g:Nat→Rat):∀ n,sg (fun j=>f j + g j) n = sg f n + sg g n
 | 0=>by unfold sg; grind
 | n + 1=>by unfold sg; rw [sg_add f g n]; grind
theorem sg_mul (c:Rat) (f:Nat→Rat):∀ n,sg (fun j=>c * f j) n = c * sg f n
 | 0=>by unfold sg; grind
 | n + 1=>by unfold sg; rw [sg_mul c f n]; grind
theorem sg_congr {f g:Nat→Rat} : ∀ {n},(∀ j,j < n→f j = g j)→sg f n = sg g n
 | 0,_=>rfl
 | n + 1,h=>by unfold sg; rw [sg_congr fun j hj=>h j (by omega),h n (by omega)]
theorem sg_zero:∀ n,sg (fun _=>0) n = 0
 | 0=>rfl
 | n + 1=>by unfold sg; rw [sg_zero n]; grind
theorem sg_one {v:Nat→Rat} {k:Nat} : ∀ {n},sg (fun j=>(if j = k then 1 else 0) * v j) n = if k < n then v k else 0
 | 0=>by rw [if_neg (by omega)]; rfl
 | n + 1=>by
  unfold sg
  rw [sg_one]
  by_cases h:k < n
  ·rw [if_pos h,if_neg (by omega),if_pos (by omega)]; grind
  ·by_cases e:n = k
   ·subst e; rw [if_neg h,if_pos rfl,if_pos (by omega)]; grind
   ·rw [if_neg h,if_neg e,if_neg (by omega)]; grind
theorem sg_comm (f:Nat→Nat→Rat) (m:Nat):∀ n,sg (fun k=>sg (fun l=>f k l) m) n = sg (fun l=>sg (fun k=>f k l) n) m
 | 0=>by
  show (0:Rat) = sg (fun _=>0) m
  rw [sg_zero]
 | n + 1=>by
  show sg (fun k=>sg (fun l=>f k l) m) n + sg (fun l=>f n l) m = sg (fun l=>sg (fun k=>f k l) n + f n l) m
  rw [sg_add,sg_comm f m n]
theorem sz_cast (f:Nat→Int):∀ n,((sz f n:Int):Rat) = sg (fun k=>(f k:Rat)) n
 | 0=>Rat.intCast_zero
 | n + 1=>by unfold sz sg; rw [Rat.intCast_add,sz_cast f n]
theorem sz_abs {f:Nat→Int} {B:Nat} : ∀ {n},(∀ k,k < n→(f k).natAbs ≤ B)→(sz f n).natAbs ≤ n * B
 | 0,_=>by unfold sz; simp
 | n + 1,h=>by
  unfold sz
  have:=sz_abs (n:=n) fun k hk=>h k (by omega)
  have:=h n (by omega)
  rw [Nat.add_mul,Nat.one_mul]
  omega
theorem sz_sub (f g:Nat→Int):∀ n,sz (fun k=>f k - g k) n = sz f n - sz g n
 | 0=>rfl
 | n + 1=>by unfold sz; rw [sz_sub f g n]; omega
theorem sz_congr {f g:Nat→Int} : ∀ {n},(∀ j,j < n→f j = g j)→sz f n = sz g n
 | 0,_=>rfl
 | n + 1,h=>by unfold sz; rw [sz_congr fun j hj=>h j (by omega),h n (by omega)]
theorem part_len {α:Type} (q:α→Bool):∀ L:List α,(L.filter q).length + (L.filter fun x=>!q x).length = L.length
 | []=>rfl
 | x :: L=>by
  have:=part_len q L
  rw [List.filter_cons,List.filter_cons]
  cases h:q x with
  | true=>rw [if_pos rfl,if_neg (by simp),List.length_cons,List.length_cons]; omega
  | false=>rw [if_neg (by simp),if_pos (by simp),List.length_cons,List.length_cons]; omega
theorem pigeon {α:Type} (f:α→Nat) (n:Nat):∀ (W:Nat) (L:List α),(∀ x ∈ L,f x < W)→W * n < L.length→∃ v,n < (L.filter fun x=>f x == v).length
 | 0,L,h,hl=>by
  cases L with
  | nil=>simp at hl
  | cons x L=>exact absurd (h x List.mem_cons_self) (Nat.not_lt_zero _)
 | W + 1,L,h,hl=>by
  by_cases e:n < (L.filter fun x=>f x == W).length
  ·exact ⟨W,e⟩
  ·have pl:=part_len (fun x=>f x == W) L
   rw [Nat.add_mul,Nat.one_mul] at hl
   obtain ⟨v,hv⟩:=pigeon f n W (L.filter fun x=>!(f x == W)) (fun x hx=>by
    obtain ⟨a,b⟩:=List.mem_filter.mp hx
    have:=h x a
    have ne:f x ≠ W:=fun z=>by rw [z] at b; simp at b
    omega) (by omega)
   exact ⟨v,Nat.lt_of_lt_of_le hv (List.Sublist.length_le (List.Sublist.filter _ List.filter_sublist))⟩
theorem digits_inj {W:Nat} (hW:0 < W):∀ (n c d:Nat),c < W ^ n→d < W ^ n→(∀ k,k < n→c / W ^ k % W = d / W ^ k % W)→c = d
 | 0,c,d,hc,hd,_=>by
  rw [Nat.pow_zero] at hc hd
  omega
 | n + 1,c,d,hc,hd,h=>by
  have h0:=h 0 (by omega)
  rw [Nat.pow_zero,Nat.div_one,Nat.div_one] at h0
  have e:=digits_inj hW n (c / W) (d / W) (Nat.div_lt_of_lt_mul (by rw [Nat.mul_comm,← Nat.pow_succ]; exact hc)) (Nat.div_lt_of_lt_mul (by rw [Nat.mul_comm,← Nat.pow_succ]; exact hd)) fun k hk=>by
   have:=h (k + 1) (by omega)
   rw [Nat.div_div_eq_div_mul,Nat.div_div_eq_div_mul,← Nat.pow_succ']
   exact this
  rw [← Nat.div_add_mod c W,← Nat.div_add_mod d W,e,h0]
theorem pow_small {p N:Nat} (hN:1 ≤ N):(2 * ((p + 1) * ((2 * (p + 1) * N) ^ p * N)) + 1) ^ p < ((2 * (p + 1) * N) ^ p + 1) ^ (p + 1):=by
 have w:2 * ((p + 1) * ((2 * (p + 1) * N) ^ p * N)) + 1 ≤ 2 * (p + 1) * N * ((2 * (p + 1) * N) ^ p + 1):=by
  have e:2 * ((p + 1) * ((2 * (p + 1) * N) ^ p * N)) = 2 * (p + 1) * N * (2 * (p + 1) * N) ^ p:=by ac_rfl
  have x1:1 ≤ 2 * (p + 1) * N:=Nat.mul_le_mul (show 1 ≤ 2 * (p + 1) by omega) hN
  rw [e]
  generalize 2 * (p + 1) * N = X at *
  rw [Nat.mul_add,Nat.mul_one]
  exact Nat.add_le_add_left x1 _
 refine Nat.lt_of_le_of_lt (Nat.pow_le_pow_left w p) ?_
 rw [Nat.mul_pow,Nat.pow_succ,Nat.mul_comm]
 exact Nat.mul_lt_mul_of_pos_left (Nat.lt_succ_self _) (Nat.pow_pos (Nat.succ_pos _))
theorem siegel {p N:Nat} {C:Nat→Nat→Int} (hN:1 ≤ N) (hC:∀ k l,k ≤ p→l < p→(C k l).natAbs ≤ N) :
  ∃ lam:Nat→Int,(∃ k,k ≤ p∧lam k ≠ 0)∧(∀ k,(lam k).natAbs ≤ (2 * (p + 1) * N) ^ p)∧∀ l,l < p→sz (fun k=>lam k * C k l) (p + 1) = 0:=by
 have ps:=pow_small (p:=p) hN
 generalize hB:(2 * (p + 1) * N) ^ p = B at *
 generalize hO:(p + 1) * (B * N) = O at *
 have dig:∀ c k:Nat,c / (B + 1) ^ k % (B + 1) ≤ B:=fun c k=>Nat.le_of_lt_succ (Nat.mod_lt _ (Nat.succ_pos _))
 have eb:∀ l c,l < p→(sz (fun k=>((c / (B + 1) ^ k % (B + 1):Nat):Int) * C k l) (p + 1)).natAbs ≤ O:=fun l c hl=>by
  rw [← hO]
  refine sz_abs fun k hk=>?_
  rw [Int.natAbs_mul,Int.natAbs_natCast]
  exact Nat.mul_le_mul (dig c k) (hC k l (by omega) hl)
 have all:∀ q,q ≤ p→∃ L:List Nat,L.Nodup∧(∀ c ∈ L,c < (B + 1) ^ (p + 1))∧(∀ l,l < q→∀ c ∈ L,∀ d ∈ L,sz (fun k=>((c / (B + 1) ^ k % (B + 1):Nat):Int) * C k l) (p + 1) = sz (fun k=>((d / (B + 1) ^ k % (B + 1):Nat):Int) * C k l) (p + 1))∧(2 * O + 1) ^ (p - q) < L.length:=by
  intro q
  induction q with
  | zero=>exact fun _=>⟨List.range ((B + 1) ^ (p + 1)),List.nodup_range,fun c hc=>List.mem_range.mp hc,fun l hl=>absurd hl (Nat.not_lt_zero _),by rw [List.length_range,Nat.sub_zero]; exact ps⟩
  | succ q ih =>
   intro hq
   obtain ⟨L,nd,lt,eq,ln⟩:=ih (by omega)
   have e1:(2 * O + 1) ^ (p - q) = (2 * O + 1) * (2 * O + 1) ^ (p - (q + 1)):=by rw [← Nat.pow_succ',show (p - (q + 1)).succ = p - q by omega]
   rw [e1] at ln
   obtain ⟨v,hv⟩:=pigeon (fun c=>(sz (fun k=>((c / (B + 1) ^ k % (B + 1):Nat):Int) * C k q) (p + 1) + O).toNat) _ _ L (fun c _=>by
    have:=eb q c (by omega)
    omega) ln
   refine ⟨_,List.Pairwise.sublist List.filter_sublist nd,fun c hc=>lt c (List.mem_filter.mp hc).1,fun l hl c hc d hd=>?_,hv⟩
   obtain ⟨c1,c2⟩:=List.mem_filter.mp hc
   obtain ⟨d1,d2⟩:=List.mem_filter.mp hd
   by_cases e:l < q
   ·exact eq l e c c1 d d1
   ·have e:l = q:=by omega
    subst e
    have c2:=beq_iff_eq.mp c2
    have d2:=beq_iff_eq.mp d2
    have:=eb l c (by omega)
    have:=eb l d (by omega)
    omega
 obtain ⟨L,nd,lt,eq,ln⟩:=all p (Nat.le_refl p)
 rw [Nat.sub_self,Nat.pow_zero] at ln
 match L,nd,lt,eq,ln with
 | c :: d :: L,nd,lt,eq,_ =>
  have ne:c ≠ d:=fun z=>by
   rw [z] at nd
   exact (List.nodup_cons.mp nd).1 List.mem_cons_self
  refine ⟨fun k=>((c / (B + 1) ^ k % (B + 1):Nat):Int) - ((d / (B + 1) ^ k % (B + 1):Nat):Int),?_,fun k=>?_,fun l hl=>?_⟩
  ·by_cases h:∀ k,k < p + 1→c / (B + 1) ^ k % (B + 1) = d / (B + 1) ^ k % (B + 1)
   ·exact absurd (digits_inj (Nat.succ_pos B) (p + 1) c d (lt c List.mem_cons_self) (lt d (List.mem_cons_of_mem _ List.mem_cons_self)) h) ne
   ·obtain ⟨k,hk⟩:=Classical.not_forall.mp h
    obtain ⟨k1,k2⟩:=Classical.not_imp.mp hk
    exact ⟨k,by omega,fun z=>k2 (by
     have z:((c / (B + 1) ^ k % (B + 1):Nat):Int) - ((d / (B + 1) ^ k % (B + 1):Nat):Int) = 0:=z
     generalize c / (B + 1) ^ k % (B + 1) = x at *
     generalize d / (B + 1) ^ k % (B + 1) = y at *
     omega)⟩
  ·have:=dig c k
   have:=dig d k
   show (((c / (B + 1) ^ k % (B + 1):Nat):Int) - ((d / (B + 1) ^ k % (B + 1):Nat):Int)).natAbs ≤ B
   omega
  ·rw [sz_congr (g:=fun k=>((c / (B + 1) ^ k % (B + 1):Nat):Int) * C k l - ((d / (B + 1) ^ k % (B + 1):Nat):Int) * C k l) fun k _=>Int.sub_mul _ _ _,sz_sub,eq l hl c List.mem_cons_self d (List.mem_cons_of_mem _ List.mem_cons_self)]
   omega
 | [_],_,_,_,ln=>exact absurd ln (by simp)
 | [],_,_,_,ln=>exact absurd ln (by simp)
structure Stage (A:Nat→Nat→Int) (b:Nat→Int) (m wd:Nat) (R:Nat→Nat→Rat) (p:Nat) (pv s:Nat→Nat):Prop where
 pm:p ≤ m
 sm:∀ i,i < m→s i < m
 pw:∀ l,l < p→pv l < wd
 unit:∀ i l,i < m→l < p→R i (pv l) = if i = l then 1 else 0
 dec:∀ i j,i < m→j < wd→(A (s i) j:Rat) = (if i < p then 0 else (b (s i):Rat) * R i j) + sg (fun l=>(A (s i) (pv l):Rat) * R l j) p
 ind:∀ lam:Nat→Rat,(∀ j,j < wd→sg (fun k=>lam k * (A (s k) j:Rat)) p = 0)→∀ k,k < p→lam k = 0
section
variable {A:Nat→Nat→Int} {b:Nat→Int} {m wd p:Nat} {R:Nat→Nat→Rat} {pv s:Nat→Nat}
theorem Stage.comb (h:Stage A b m wd R p pv s) (lam:Nat→Rat) {j:Nat} (hj:j < wd):sg (fun k=>lam k * (A (s k) j:Rat)) p = sg (fun l=>sg (fun k=>lam k * (A (s k) (pv l):Rat)) p * R l j) p:=by
 have pm:=h.pm
 rw [sg_congr (g:=fun k=>sg (fun l=>lam k * (A (s k) (pv l):Rat) * R l j) p) fun k hk=>?_]
 ·rw [sg_comm]
  refine sg_congr fun l hl=>?_
  rw [sg_congr (g:=fun k=>R l j * (lam k * (A (s k) (pv l):Rat))) fun k _=>Rat.mul_comm _ _,sg_mul,Rat.mul_comm]
 ·rw [h.dec k j (by omega) hj,if_pos hk,Rat.zero_add,← sg_mul]
  exact sg_congr fun l _=>(Rat.mul_assoc _ _ _).symm
theorem cast_ne {x:Int} (h:x ≠ 0):(x:Rat) ≠ 0:=fun z=>h (Rat.intCast_inj.mp (z.trans Rat.intCast_zero.symm))
theorem mm_le {m N q:Nat} (hN:1 ≤ N) (hq:q + 1 ≤ m):(2 * (q + 1) * N) ^ (q + 1) ≤ (2 * m * N) ^ m:=by
 have x:2 * (q + 1) * N ≤ 2 * m * N:=Nat.mul_le_mul (by omega) (Nat.le_refl N)
 have y:1 ≤ 2 * m * N:=Nat.mul_le_mul (show 1 ≤ 2 * m by omega) hN
 exact Nat.le_trans (Nat.pow_le_pow_left x _) (Nat.pow_le_pow_right y hq)
theorem mm_v {m N q:Nat} (hN:1 ≤ N) (hq:q + 1 ≤ m):(q + 1) * ((2 * (q + 1) * N) ^ q * N) ≤ (2 * m * N) ^ m:=by
 refine Nat.le_trans ?_ (mm_le hN hq)
 have e:(2 * (q + 1) * N) ^ (q + 1) = 2 * ((q + 1) * ((2 * (q + 1) * N) ^ q * N)):=by
  rw [Nat.pow_succ]; ac_rfl
 omega
theorem Stage.bound {N:Nat} (h:Stage A b m wd R p pv s) (hN:1 ≤ N) (hA:∀ i j,i < m→j < wd→(A i j).natAbs ≤ N) (hb:∀ i,i < m→0 < b i∧(b i).natAbs ≤ N) {i:Nat} (hi:i < m) :
    ∃ (v:Nat→Int) (u:Int),u ≠ 0∧u.natAbs ≤ (2 * m * N) ^ m∧(∀ j,j < wd→(v j).natAbs ≤ (2 * m * N) ^ m)∧∀ j,j < wd→R i j * (u:Rat) = (v j:Rat):=by
  have pm:=h.pm
  by_cases ip:i < p
  · obtain ⟨q,rfl⟩ : ∃ q,p = q + 1:=⟨p - 1,by omega⟩
    obtain ⟨lam,⟨k0,hk0,nk0⟩,bl,zr⟩:=siegel (p:=q) (C:=fun k l=>A (s k) (if l < i then pv l else pv (l + 1))) hN fun k l hk hl=>by
      refine hA _ _ (h.sm k (by omega)) ?_
      by_cases e:l < i
      · rw [if_pos e]; exact h.pw l (by omega)
      · rw [if_neg e]; exact h.pw (l + 1) (by omega)
    have cast:∀ j,((sz (fun k=>lam k * A (s k) j) (q + 1):Int):Rat) = sg (fun k=>(lam k:Rat) * (A (s k) j:Rat)) (q + 1):=fun j=>by
      rw [sz_cast]
      exact sg_congr fun k _=>Rat.intCast_mul _ _
    have zl:∀ l,l < q + 1→l ≠ i→sz (fun k=>lam k * A (s k) (pv l)) (q + 1) = 0:=fun l hl ne=>by
      by_cases e:l < i
      · have:=zr l (by omega)
        rw [if_pos e] at this
        exact this
      · have:=zr (l - 1) (by omega)
        rw [if_neg (by omega),show l - 1 + 1 = l by omega] at this
        exact this
    have key:∀ j,j < wd→((sz (fun k=>lam k * A (s k) j) (q + 1):Int):Rat) = ((sz (fun k=>lam k * A (s k) (pv i)) (q + 1):Int):Rat) * R i j:=fun j hj=>by
      rw [cast,h.comb (fun k=>(lam k:Rat)) hj,sg_congr (g:=fun l=>(if l = i then 1 else 0) * (((sz (fun k=>lam k * A (s k) (pv i)) (q + 1):Int):Rat) * R l j)) fun l hl=>?_,sg_one,if_pos ip]
      rw [← cast (pv l)]
      by_cases e:l = i
      · rw [if_pos e,e,Rat.one_mul]
      · rw [if_neg e,zl l hl e,Rat.intCast_zero]; grind
    refine ⟨fun j=>sz (fun k=>lam k * A (s k) j) (q + 1),sz (fun k=>lam k * A (s k) (pv i)) (q + 1),fun z=>?_,?_,fun j hj=>?_,fun j hj=>?_⟩
    · have:=h.ind (fun k=>(lam k:Rat)) (fun j hj=>by
        rw [← cast,key j hj,z,Rat.intCast_zero]; grind) k0 (by omega)
      exact cast_ne nk0 this
    · exact Nat.le_trans (sz_abs fun k hk=>by rw [Int.natAbs_mul]; exact Nat.mul_le_mul (bl k) (hA _ _ (h.sm k (by omega)) (h.pw i ip))) (mm_v hN (by omega))
    · exact Nat.le_trans (sz_abs fun k hk=>by rw [Int.natAbs_mul]; exact Nat.mul_le_mul (bl k) (hA _ _ (h.sm k (by omega)) hj)) (mm_v hN (by omega))
    · rw [key j hj,Rat.mul_comm]
  · obtain ⟨lam,⟨k0,hk0,nk0⟩,bl,zr⟩:=siegel (p:=p) (C:=fun k l=>A (s (if k < p then k else i)) (pv l)) hN fun k l hk hl=>by
      refine hA _ _ (h.sm _ ?_) (h.pw l hl)
      by_cases e:k < p
      · rw [if_pos e]; omega
      · rw [if_neg e]; exact hi
    have cast:∀ j,((sz (fun k=>lam k * A (s (if k < p then k else i)) j) (p + 1):Int):Rat) = sg (fun k=>(lam k:Rat) * (A (s k) j:Rat)) p + (lam p:Rat) * (A (s i) j:Rat):=fun j=>by
      rw [sz_cast]
      show sg _ p + ((lam p * A (s (if p < p then p else i)) j:Int):Rat) = _
      rw [if_neg (by omega),Rat.intCast_mul,sg_congr (g:=fun k=>(lam k:Rat) * (A (s k) j:Rat)) fun k hk=>by rw [if_pos hk,Rat.intCast_mul]]
    have key:∀ j,j < wd→((sz (fun k=>lam k * A (s (if k < p then k else i)) j) (p + 1):Int):Rat) = ((lam p * b (s i):Int):Rat) * R i j:=fun j hj=>by
      have e0:sg (fun l=>sg (fun k=>(lam k:Rat) * (A (s k) (pv l):Rat)) p * R l j) p + (lam p:Rat) * sg (fun l=>(A (s i) (pv l):Rat) * R l j) p = 0:=by
        rw [← sg_mul,← sg_add,sg_congr (g:=fun _=>0) fun l hl=>?_,sg_zero]
        have:=cast (pv l)
        rw [zr l hl,Rat.intCast_zero] at this
        calc _ = (sg (fun k=>(lam k:Rat) * (A (s k) (pv l):Rat)) p + (lam p:Rat) * (A (s i) (pv l):Rat)) * R l j:=by grind
          _ = 0:=by rw [← this]; grind
      rw [cast,h.comb (fun k=>(lam k:Rat)) hj,h.dec i j hi hj,if_neg ip,Rat.intCast_mul]
      grind
    have bp:=hb _ (h.sm i hi)
    have lp:lam p ≠ 0:=fun z=>by
      have kp:k0 < p:=by
        by_cases e:k0 = p
        · rw [e,z] at nk0; exact absurd rfl nk0
        · omega
      have:=h.ind (fun k=>(lam k:Rat)) (fun j hj=>by
        have c:=cast j
        rw [key j hj,z,Int.zero_mul,Rat.intCast_zero] at c
        grind) k0 kp
      exact cast_ne nk0 this
    refine ⟨fun j=>sz (fun k=>lam k * A (s (if k < p then k else i)) j) (p + 1),lam p * b (s i),fun z=>?_,?_,fun j hj=>?_,fun j hj=>?_⟩
    · rcases Int.mul_eq_zero.mp z with y | y
      · exact lp y
      · omega
    · rw [Int.natAbs_mul]
      refine Nat.le_trans (Nat.mul_le_mul (bl p) bp.2) (Nat.le_trans ?_ (mm_v hN (show p + 1 ≤ m by omega)))
      exact Nat.le_mul_of_pos_left _ (Nat.succ_pos p)
    · exact Nat.le_trans (sz_abs fun k hk=>by
        rw [Int.natAbs_mul]
        refine Nat.mul_le_mul (bl k) (hA _ _ (h.sm _ ?_) hj)
        by_cases e:k < p
        · rw [if_pos e]; omega
        · rw [if_neg e]; exact hi) (mm_v hN (show p + 1 ≤ m by omega))
    · rw [key j hj,Rat.mul_comm]
theorem Stage.congr (h:Stage A b m wd R p pv s) {R':Nat→Nat→Rat} (e:∀ i j,i < m→R i j = R' i j):Stage A b m wd R' p pv s:=by
 have pm:=h.pm
 refine ⟨h.pm,h.sm,h.pw,fun i l hi hl=>by rw [← e i _ hi]; exact h.unit i l hi hl,fun i j hi hj=>?_,h.ind⟩
 rw [h.dec i j hi hj,e i j hi,sg_congr fun l hl=>by rw [e l j (by omega)]]
theorem Stage.zero (hb:∀ i,i < m→0 < b i):Stage A b m wd (fun i j=>(A i j:Rat) / (b i:Rat)) 0 pv id:=by
 refine ⟨Nat.zero_le _,fun i hi=>hi,fun l hl=>absurd hl (Nat.not_lt_zero _),fun i l _ hl=>absurd hl (Nat.not_lt_zero _),fun i j hi hj=>?_,fun lam _ k hk=>absurd hk (Nat.not_lt_zero _)⟩
 rw [if_neg (Nat.not_lt_zero _)]
 have:=cast_ne (Int.ne_of_gt (hb i hi))
 show (A i j:Rat) = (b i:Rat) * ((A i j:Rat) / (b i:Rat)) + 0
 grind
def sw (p q x:Nat):Nat:=if x = p then q else if x = q then p else x
theorem Stage.swap (h:Stage A b m wd R p pv s) {q:Nat} (hp:p ≤ q) (hq:q < m) {R':Nat→Nat→Rat} (hR:∀ i j,i < m→j < wd→R' i j = R (sw p q i) j):Stage A b m wd R' p pv (fun i=>s (sw p q i)):=by
 have pm:=h.pm
 have sl:∀ l,l < p→sw p q l = l:=fun l hl=>by unfold sw; rw [if_neg (by omega),if_neg (by omega)]
 have sm:∀ i,i < m→sw p q i < m:=fun i hi=>by
  unfold sw
  split
  ·exact hq
  ·split <;> omega
 have sp:∀ i,(sw p q i < p) ↔ i < p:=fun i=>by
  unfold sw
  split
  ·omega
  ·split <;> omega
 refine ⟨pm,fun i hi=>h.sm _ (sm i hi),h.pw,fun i l hi hl=>?_,fun i j hi hj=>?_,fun lam hz=>?_⟩
 ·rw [hR i _ hi (h.pw l hl),h.unit _ l (sm i hi) hl]
  by_cases e:i = l
  ·rw [if_pos e,e,if_pos (sl l hl)]
  ·rw [if_neg e,if_neg fun z=>e ?_]
   have:i < p:=(sp i).mp (by omega)
   rw [← z,sl i this]
 ·rw [h.dec _ j (sm i hi) hj,hR i j hi hj]
  congr 1
  ·by_cases e:i < p
   ·rw [if_pos e,if_pos ((sp i).mpr e)]
   ·rw [if_neg e,if_neg fun z=>e ((sp i).mp z)]
  ·exact sg_congr fun l hl=>by rw [hR l j (by omega) hj,sl l hl]
 ·exact h.ind lam fun j hj=>by
   rw [← hz j hj]
   exact sg_congr fun k hk=>by rw [sl k hk]
theorem Stage.pivot (h:Stage A b m wd R p pv s) (hp:p < m) (hb:∀ i,i < m→0 < b i) {c:Nat} (hc:c < wd) (h0:R p c ≠ 0) {R':Nat→Nat→Rat} (hpp:∀ j,j < wd→R' p j * R p c = R p j) (hii:∀ i j,i < m→i ≠ p→j < wd→R' i j = R i j - R i c * R' p j) :
  Stage A b m wd R' (p + 1) (fun l=>if l = p then c else pv l) s:=by
 have pm:=h.pm
 have one:R' p c = 1:=by
  have:=hpp c hc
  grind
 have zp:∀ l,l < p→R' p (pv l) = 0:=fun l hl=>by
  have:=hpp (pv l) (h.pw l hl)
  rw [h.unit p l hp hl,if_neg (by omega)] at this
  grind
 have pvl:∀ l,l < p→(if l = p then c else pv l) = pv l:=fun l hl=>if_neg (by omega)
 have old:∀ i j,i < m→i ≠ p→j < wd→R i j = R' i j + R i c * R' p j:=fun i j hi ne hj=>by rw [hii i j hi ne hj]; grind
 have dec:∀ i j,i < m→j < wd→(A (s i) j:Rat) = (if i < p + 1 then 0 else (b (s i):Rat) * R' i j) + sg (fun l=>(A (s i) (if l = p then c else pv l):Rat) * R' l j) (p + 1):=fun i j hi hj=>by
  have dj:=h.dec i j hi hj
  have dc:=h.dec i c hi hc
  have ej:sg (fun l=>(A (s i) (pv l):Rat) * R l j) p = sg (fun l=>(A (s i) (pv l):Rat) * R' l j) p + R' p j * sg (fun l=>(A (s i) (pv l):Rat) * R l c) p:=by
   rw [← sg_mul,← sg_add]
   exact sg_congr fun l hl=>by rw [old l j (by omega) (by omega) hj]; grind
  rw [ej] at dj
  show _ = _ + (sg _ p + (A (s i) (if p = p then c else pv p):Rat) * R' p j)
  rw [if_pos rfl,sg_congr (g:=fun l=>(A (s i) (pv l):Rat) * R' l j) fun l hl=>by rw [pvl l hl]]
  by_cases e:i < p
  ·rw [if_pos (by omega)]
   rw [if_pos e] at dj dc
   grind
  ·rw [if_neg e] at dj dc
   by_cases e2:i = p
   ·rw [if_pos (by omega)]
    subst e2
    have:=hpp j hj
    grind
   ·rw [if_neg (by omega)]
    have:=old i j hi e2 hj
    grind
 refine ⟨hp,h.sm,fun l hl=>?_,fun i l hi hl=>?_,dec,fun lam hz=>?_⟩
 ·by_cases e:l = p
  ·show (if l = p then c else pv l) < wd
   rw [if_pos e]; exact hc
  ·show (if l = p then c else pv l) < wd
   rw [if_neg e]; exact h.pw l (by omega)
 ·show R' i (if l = p then c else pv l) = _
  by_cases e:l = p
  ·rw [if_pos e,e]
   by_cases ip:i = p
   ·rw [if_pos ip,ip]; exact one
   ·rw [if_neg ip,hii i c hi ip hc,one]; grind
  ·rw [if_neg e]
   have hl':l < p:=by omega
   by_cases ip:i = p
   ·rw [ip,zp l hl',if_neg (by omega)]
   ·rw [hii i _ hi ip (h.pw l hl'),zp l hl',h.unit i l hi hl']; grind
 ·have lp:lam p = 0:=by
   by_cases z:lam p = 0
   ·exact z
   ·exfalso
    -- the row p would come of the rows ahead
    have hj:∀ j,j < wd→sg (fun k=>lam k * (A (s k) j:Rat)) p = -(lam p * (A (s p) j:Rat)):=fun j hj=>by
     have:sg (fun k=>lam k * (A (s k) j:Rat)) p + lam p * (A (s p) j:Rat) = 0:=hz j hj
     grind
    have hc':=h.comb lam hc
    rw [hj c hc,sg_congr (g:=fun l=>-(lam p) * ((A (s p) (pv l):Rat) * R l c)) fun l hl=>by rw [hj _ (h.pw l hl)]; grind,sg_mul] at hc'
    have dc:=h.dec p c hp hc
    rw [if_neg (Nat.lt_irrefl p)] at dc
    have b0:=cast_ne (Int.ne_of_gt (hb _ (h.sm p hp)))
    have:lam p * ((b (s p):Rat) * R p c) = 0:=by rw [dc] at hc'; grind
    grind
  intro k hk
  by_cases e:k = p
  ·rw [e]; exact lp
  ·refine h.ind lam (fun j hj=>?_) k (by omega)
   have:sg (fun k=>lam k * (A (s k) j:Rat)) p + lam p * (A (s p) j:Rat) = 0:=hz j hj
   rw [lp] at this
   grind
end
def vr (r:List Int × Int) (j:Nat):Rat:=((r.1.getD j 0:Int):Rat) / (r.2:Rat)
theorem getD_map0 {f:Int→Int} (h0:f 0 = 0) (xs:List Int) (j:Nat):(xs.map f).getD j 0 = f (xs.getD j 0):=by
 rw [List.getD_eq_getElem?_getD,List.getD_eq_getElem?_getD,List.getElem?_map]
 cases xs[j]? with
 | none=>exact h0.symm
 | some t=>rfl
theorem vr_red {r:List Int × Int} (h:0 < r.2) (j:Nat):vr (redR r) j = vr r j:=by
 have g0:=gcL_pos (ts:=r.1) h
 obtain ⟨d1,d2⟩:=gcL_dvd (ts:=r.1) (b:=r.2)
 have e1:(redR r).1.getD j 0 = r.1.getD j 0 / gcL r.1 r.2:=getD_map0 (f:=fun t=>t / gcL r.1 r.2) (Int.zero_ediv _) r.1 j
 have d3:gcL r.1 r.2 ∣ r.1.getD j 0:=by
  rw [List.getD_eq_getElem?_getD]
  cases e:r.1[j]? with
  | none=>exact ⟨0,by rw [Int.mul_zero]; rfl⟩
  | some t=>exact d2 t (List.mem_of_getElem? e)
 have e2:(redR r).2 = r.2 / gcL r.1 r.2:=rfl
 unfold vr
 rw [e1,e2]
 generalize r.1.getD j 0 = t at *
 generalize gcL r.1 r.2 = g at *
 obtain ⟨u,hu⟩:=d3
 obtain ⟨v,hv⟩:=d1
 rw [hu,hv,Int.mul_ediv_cancel_left _ (Int.ne_of_gt g0),Int.mul_ediv_cancel_left _ (Int.ne_of_gt g0),Rat.intCast_mul,Rat.intCast_mul]
 have v0:v ≠ 0:=fun z=>by rw [hv,z,Int.mul_zero] at h; omega
 have:=cast_ne v0
 have:=cast_ne (Int.ne_of_gt g0)
 grind
theorem vr_times {r:List Int × Int} {c:Int × Int} (h:0 < r.2) (hc:0 < c.2) (j:Nat):vr (timesR r c) j = vr r j * ((c.1:Rat) / (c.2:Rat)):=by
 have e1:(timesR r c).1.getD j 0 = r.1.getD j 0 * c.1:=getD_map0 (f:=fun t=>t * c.1) (Int.zero_mul _) r.1 j
 have e2:(timesR r c).2 = r.2 * c.2:=rfl
 unfold vr
 rw [e1,e2,Rat.intCast_mul,Rat.intCast_mul]
 have:=cast_ne (Int.ne_of_gt h)
 have:=cast_ne (Int.ne_of_gt hc)
 grind
theorem vr_plus {r p:List Int × Int} {c:Int × Int} (hr:0 < r.2) (hp:0 < p.2) (hc:0 < c.2) (hl:r.1.length = p.1.length) (j:Nat):vr (plusR r p c) j = vr r j + ((c.1:Rat) / (c.2:Rat)) * vr p j:=by
 have hB:=Int.mul_pos hp hc
 have g0:=gpos (t:=r.2) hB
 obtain ⟨u,hu⟩:=Int.gcd_dvd_left r.2 (p.2 * c.2)
 obtain ⟨v,hv⟩:=Int.gcd_dvd_right r.2 (p.2 * c.2)
 have es:plusR r p c = (List.zipWith (fun x y=>x * v + y * (u * c.1)) r.1 p.1,r.2 * v):=by
  unfold plusR
  generalize ((Int.gcd r.2 (p.2 * c.2):Nat):Int) = g at g0 hu hv ⊢
  have e1:p.2 * c.2 / g = v:=by rw [hv,Int.mul_ediv_cancel_left _ (Int.ne_of_gt g0)]
  have e2:r.2 / g = u:=by
   conv=>lhs; rw [hu]
   exact Int.mul_ediv_cancel_left _ (Int.ne_of_gt g0)
  rw [e1,e2]
 generalize ((Int.gcd r.2 (p.2 * c.2):Nat):Int) = g at g0 hu hv
 have v0:0 < v:=Int.pos_of_mul_pos_right (by rw [← hv]; exact hB) g0
 have ez:(List.zipWith (fun x y=>x * v + y * (u * c.1)) r.1 p.1).getD j 0 = r.1.getD j 0 * v + p.1.getD j 0 * (u * c.1):=by
  rw [List.getD_eq_getElem?_getD,List.getD_eq_getElem?_getD,List.getD_eq_getElem?_getD,List.getElem?_zipWith]
  by_cases e:j < r.1.length
  ·rw [List.getElem?_eq_getElem e,List.getElem?_eq_getElem (by omega)]; rfl
  ·rw [List.getElem?_eq_none (by omega),List.getElem?_eq_none (by omega)]
   show (0:Int) = 0 * v + 0 * (u * c.1)
   rw [Int.zero_mul,Int.zero_mul]; rfl
 rw [es]
 unfold vr
 show ((List.zipWith (fun x y=>x * v + y * (u * c.1)) r.1 p.1).getD j 0:Rat) / ((r.2 * v:Int):Rat) = _
 rw [ez]
 generalize r.1.getD j 0 = x
 generalize p.1.getD j 0 = y
 have hu':(r.2:Rat) = (g:Rat) * (u:Rat):=by rw [← Rat.intCast_mul,← hu]
 have hv':(p.2:Rat) * (c.2:Rat) = (g:Rat) * (v:Rat):=by rw [← Rat.intCast_mul,← Rat.intCast_mul,hv]
 have r0:=cast_ne (Int.ne_of_gt hr)
 have p0:=cast_ne (Int.ne_of_gt hp)
 have c0:=cast_ne (Int.ne_of_gt hc)
 have q0:=cast_ne (Int.ne_of_gt v0)
 have k0:=cast_ne (Int.ne_of_gt g0)
 rw [Rat.intCast_add,Rat.intCast_mul,Rat.intCast_mul,Rat.intCast_mul,Rat.intCast_mul]
 generalize (r.2:Rat) = r2 at *
 generalize (p.2:Rat) = p2 at *
 generalize (c.2:Rat) = c2 at *
 generalize (c.1:Rat) = c1 at *
 generalize (g:Rat) = gg at *
 generalize (u:Rat) = uu at *
 generalize (v:Rat) = vv at *
 generalize (x:Rat) = xx at *
 generalize (y:Rat) = yy at *
 have e1:(xx * vv + yy * (uu * c1)) / (r2 * vv) = xx / r2 + yy * (uu * c1) / (r2 * vv):=by grind
 have e2:yy * (uu * c1) / (r2 * vv) = c1 / c2 * (yy / p2):=by
  have:uu * (c2 * p2) = r2 * vv:=by rw [hu',Rat.mul_comm c2 p2,hv']; grind
  grind
 rw [e1,e2]
theorem row_big {M wd:Nat} {r:List Int × Int} (hr:0 < r.2) (g:gcL r.1 r.2 = 1) (hw:r.1.length = wd) {v:Nat→Int} {u:Int} (u0:u ≠ 0) (ub:u.natAbs ≤ M) (vb:∀ j,j < wd→(v j).natAbs ≤ M) (e:∀ j,j < wd→vr r j * (u:Rat) = (v j:Rat)):Big M r:=by
 refine least (s:=((List.range wd).map fun j=>v j * u.sign,u.natAbs)) hr g ⟨?_,fun k a b ha hb=>?_⟩ ⟨?_,?_,fun t ht=>?_⟩
 ·show r.1.length = ((List.range wd).map fun j=>v j * u.sign).length
  rw [hw,List.length_map,List.length_range]
 ·have kw:k < wd:=by rw [← hw]; exact (List.getElem?_eq_some_iff.mp ha).1
  have hb:((List.range wd).map fun j=>v j * u.sign)[k]? = some b:=hb
  rw [List.getElem?_map,List.getElem?_range kw] at hb
  cases hb
  show a * ((u.natAbs:Nat):Int) = v k * u.sign * r.2
  have ek:=e k kw
  unfold vr at ek
  rw [List.getD_eq_getElem?_getD,ha] at ek
  have ek:(a:Rat) / (r.2:Rat) * (u:Rat) = (v k:Rat):=ek
  have r0:=cast_ne (Int.ne_of_gt hr)
  have k2:a * u = v k * r.2:=by
   refine Rat.intCast_inj.mp ?_
   rw [Rat.intCast_mul,Rat.intCast_mul]
   grind
  have k1:((u.natAbs:Nat):Int) = u * u.sign:=(Int.mul_sign_self u).symm
  rw [k1,← Int.mul_assoc,k2]; ac_rfl
 ·show (0:Int) < (u.natAbs:Nat)
  omega
 ·show (((u.natAbs:Nat):Int)).natAbs ≤ M
  rw [Int.natAbs_natCast]; exact ub
 ·obtain ⟨j,hj,rfl⟩:=List.mem_map.mp ht
  rw [Int.natAbs_mul,Int.natAbs_sign_of_ne_zero u0,Nat.mul_one]
  exact vb j (List.mem_range.mp hj)
end Rw
set_option Elab.async false
set_option linter.all false
set_option maxRecDepth 100000
set_option maxHeartbeats 4000000
namespace L2.Once
open PySem PySem.W
def z:Pos:=⟨0,0,0,0⟩
def o11:Obj:={ cls:=.type "tuple",data:=.seq #[] }
def o12:Obj:={ cls:=.none,data:=.fields #[] }
def o13:Obj:={ cls:=.type "code",data:=.fields #[.str "<module>" 182,.str "<module>" 183,.str "/claim/cut.py" 184,.int 1 0,.int 0 0,.int 0 0,.int 0 0,.int 0 0,.ref 11,.bool false,.int 181 0,.ref 12,.none,.none,.none,.none,.int 185 0,.int 1 0,.str "/claim/cut.py" 186] }
def o14:Obj:={ cls:=.type "frame",slots:=#[some (.ref 13),some (.ref 3),some (.ref 3),none,some (.str "__main__" 164),none,some (.ref 0)] }
abbrev lf (o:Obj):BT:=.node o .nil .nil
noncomputable def tr (P:Params):BT:=.node (boot_o_0 P)
 (.node (boot_o_1 P) (.node (boot_o_3 P) (lf (boot_o_7 P)) (lf o11)) (.node (boot_o_5 P) (lf (boot_o_9 P)) (lf o13)))
 (.node (boot_o_2 P) (.node (boot_o_4 P) (lf (boot_o_8 P)) (lf o12)) (.node (boot_o_6 P) (lf (boot_o_10 P)) (lf o14)))
noncomputable def S0 (w:World) (os:OsState):Shared:=⟨boot_heap w.params,Array.mk [],boot_drawn,boot_toks,os⟩
noncomputable def Sa (w:World) (os:OsState):Shared:=⟨⟨Array.mk [boot_o_0 w.params,boot_o_1 w.params,boot_o_2 w.params,boot_o_3 w.params,boot_o_4 w.params,boot_o_5 w.params,boot_o_6 w.params,boot_o_7 w.params,boot_o_8 w.params,boot_o_9 w.params,boot_o_10 w.params,o11,o12,o13,o14],{}⟩,Array.mk [],{},187,os⟩
noncomputable def Sb (w:World) (os:OsState):SharedT:=⟨tr w.params,15,{},⟨[]⟩,{},187,os⟩
def env (p:Program):Env:={ scope:=p.main.scope,locals:=mainNs,globals:=mainNs,cells:=[],code:=.ref 13,frame:=some 14 }
def cE (p:Program):Code:=.body (behindTheImports p) (env p)
abbrev ann:Option Value:=some (.ref 6)
abbrev B:List Frame:=[topFrame z]
theorem size (w:World):((boot_heap w.params).isNs mainGlobals && (Array.mk [] : Array GenState).size == 0,(boot_heap w.params).objs.size,(boot_heap w.params).nsMap mainGlobals "__annotations__") = (true,11,ann):=by
 rw [Fast.te8920871248978507458]; kernel_rfl
theorem left_once {p q:Program} {loose:List Str} {Xt:Shared→Bool} {α:Type} {Yf:Shared→α} {Ya:World→α} {N:Nat} {g0:Bool} {a b n k:Nat} {e:Pos}
  (open_:∀ w:World,(fencedOpening treeTable p w N).map (fun s=>(s.heap,s.gens,s.drawn,s.toks)) = some (boot_heap w.params,Array.mk [],boot_drawn,boot_toks))
  (pre:∀ w:World,(fun os=>topGo treeTable p w 11 ann a (S0 w os) (topStub p)) = fun os=>some (Sa w os,⟨denote treeTable (cE p),cE p,z,B⟩))
  (block:∀ w:World,(fun os=>segRun treeTable p w 11 ann 1 b (Sa w os) (blockOf (behindTheImports p) (env p) (cE p) z B)) = fun os=>some (.next,(Sb w os).abs,cE p,z))
  (big:∀ w:World,(fun os=>(segRunT treeTable p w 11 ann 1 n (Sb w os) (piecesOf (behindTheImports p) (env p) (cE p) z B)).map fun r =>
    (r.1,r.2.2.1,r.2.2.2,(topRun treeTable p w 11 ann k r.2.1.abs ⟨doneF .next,cE p,e,B⟩).map fun s =>
     (staticsOk (importedModules p.main.body) (boot_heap w.params) s.heap && namesBound p s.heap && gensDone s && laidKept (boot_heap w.params) s.heap,openSeen q loose (importedModules p.main.body) Xt g0 s,Yf s))) =
   fun _=>some (.next,cE p,e,some (true,openGood q loose,Ya w)))
  (le:Nat.ble (a + (b + (n + k))) N = true):LeftO p q loose Xt Yf Ya N g0:=fun w=>by
 obtain ⟨⟨h,gs,d,ks,os⟩,e1,e2⟩:=Option.map_eq_some_iff.mp (open_ w)
 obtain ⟨rfl,rfl,rfl,rfl⟩ : h = boot_heap w.params∧gs = Array.mk []∧d = boot_drawn∧ks = boot_toks:=by simpa using e2
 obtain ⟨z1,z2,z3⟩ : _∧_∧_:=by simpa only [Prod.mk.injEq] using size w
 obtain ⟨⟨f,sT,c,ps⟩,r1,r2⟩:=Option.map_eq_some_iff.mp (congrFun (big w) os)
 obtain ⟨rfl,rfl,rfl,r3⟩ : f = .next∧c = cE p∧ps = e∧_:=by simpa only [Prod.mk.injEq] using r2
 obtain ⟨s,t1,t2⟩:=Option.map_eq_some_iff.mp r3
 obtain ⟨l1,l2,l3⟩ : _∧_∧_:=by simpa only [Prod.mk.injEq] using t2
 have q1:=piece_app (rest:=[]) (segRun_of r1) (piece_nil t1)
 rw [List.append_nil] at q1
 have q2:=go_top (congrFun (pre w) os) (piece_block (congrFun (block w) os) q1)
 have q3:=topRun_mono (N - (a + (b + (n + k)))) _ _ _ _ q2
 rw [show a + (b + (n + k)) + (N - (a + (b + (n + k)))) = N by have:=Nat.le_of_ble_eq_true le; omega] at q3
 have t:topFrom treeTable p w N ⟨boot_heap w.params,Array.mk [],boot_drawn,boot_toks,os⟩ = some s:=by
  unfold topFrom
  dsimp only
  rw [z1,z2,z3,show topRun treeTable p w 11 ann N ⟨boot_heap w.params,Array.mk [],boot_drawn,boot_toks,os⟩ (topStub p) = some s from q3]
  show (match staticsOk (importedModules p.main.body) (boot_heap w.params) s.heap && namesBound p s.heap && gensDone s && laidKept (boot_heap w.params) s.heap with | true=>_ | false=>_) = _
  rw [l1]
 unfold openEnds
 rw [e1]
 show (topFrom treeTable p w N _).map _ = _
 rw [t]
 exact congrArg some (Prod.ext l2 l3)
end L2.Once
set_option Elab.async false
set_option linter.all false
set_option maxRecDepth 100000
set_option maxHeartbeats 4000000
namespace K17
open PySem PyProof.Rows L2
local macro_rules | `(tactic| walk_at "rd")=>`(tactic| simp only [tSeq,tIfS,tRet,tRetN,tOp,tUn,rU,rIxTH,rIxLH,rCat,tSl,tVar,tC,tPart,rI0,rI,rSlL,tLst,tTup,tCons,tNil,tCB,tCallF,tTest,tNot,tOr,tAnd,tNotV,tAndV,tOrV,tTru,tAsg,tPar,gName,gNil,gCons,gTupH,gLstH,rLenT,rLenL,rIsi,rSrtH,tyS_non,tyS_bl,tyS_int,tyS_str,subS,truB,rEq,rNe,scal,tNext,tDrop,tCallX,tDisp1,tRaise,tTryAs,rIsiN,rIsiT,rIsB,rEqH,Ends.unset,tApp,tClr,rListH,gSub,rSetL,rIxL,rEqR,rSumH,rMaxH,rMinH,tRev,tSM,tDispS,tMakeI,tMethI,tFld,sFld,tDGet,tDGet2,tDIn,tDNotIn,tDNewK,sDPut,rIsiC,rJoin,rMin2,rMax2,tB,rIxT,gTup,rEqK,rIsiTup,rLenK,rAddS,rLeS,rInS,rIntT,rAllH,rStarts,rFind,rSplit,rMulS,tChain,rSlS,rIxS,tNoPart,V.str.injEq,
 L2.start,List.replicate_succ,List.replicate_zero,Nat.reduceSub,Nat.reduceAdd,List.map_cons,List.map_nil,List.length_cons,List.length_nil,List.cons_append,List.nil_append,List.append_nil,List.getElem?_cons_zero,List.getElem?_cons_succ,List.set_cons_zero,List.set_cons_succ,List.set_nil,Option.some.injEq,exists_eq_left',exists_eq_left,exists_and_left,exists_and_right,exists_eq_right,exists_eq,exists_eq',and_assoc,V.int.injEq,V.ref.injEq,V.bl.injEq,V.ty.injEq,List.cons.injEq,HO.tup.injEq,HO.lst.injEq,and_true,true_and,reduceCtorEq,atI_0,atI_1,upd_same,decide_true,decide_false,Bool.not_true,Bool.not_false,if_true,if_false,ite_true,ite_false,Bool.false_eq_true,List.mem_cons,String.reduceEq,or_true,true_or,or_false,false_or,beq_self_eq_true,Bool.or_true,Bool.true_or,Bool.or_false,Bool.false_or,Bool.and_true,Bool.and_false,Bool.true_and,Bool.false_and,String.reduceBEq,Int.reduceToNat,Int.reducePow,Int.reduceMul,Int.reduceSub,Int.reduceAdd,Int.reduceNeg,Int.reduceLE,Int.reduceLT,Int.reduceEq,ne_eq,not_false_eq_true,not_true_eq_false,Int.cast_ofNat_Int])
def top (i:Nat):Stmt:=PySem.Challenge.pw_chancehall_k17_only_answers.main.body.getD i (.Pass ⟨0,0,0,0⟩)
abbrev s_is_whole:Stmt:=top 4
abbrev ps_is_whole:List Str:=["thing"]
abbrev nm_is_whole:Str := "is_whole"
theorem sc_is_whole:FnScope ["thing"] ps_is_whole (defScope s_is_whole):=⟨rfl,rfl,rfl,by decide +kernel,rfl,by decide +kernel,by decide +kernel⟩
abbrev s_divisor:Stmt:=top 5
abbrev ps_divisor:List Str:=["one", "other"]
abbrev nm_divisor:Str := "divisor"
theorem sc_divisor:FnScope ["one", "other", "left", "right", "rest"] ps_divisor (defScope s_divisor):=⟨rfl,rfl,rfl,by decide +kernel,rfl,by decide +kernel,by decide +kernel⟩
abbrev s_ratio:Stmt:=top 9
abbrev ps_ratio:List Str:=["top", "bottom"]
abbrev nm_ratio:Str := "ratio"
theorem sc_ratio:FnScope ["top", "bottom", "common"] ps_ratio (defScope s_ratio):=⟨rfl,rfl,rfl,by decide +kernel,rfl,by decide +kernel,by decide +kernel⟩
abbrev s_minus:Stmt:=top 10
abbrev ps_minus:List Str:=["one", "other"]
abbrev nm_minus:Str := "minus"
theorem sc_minus:FnScope ["one", "other"] ps_minus (defScope s_minus):=⟨rfl,rfl,rfl,by decide +kernel,rfl,by decide +kernel,by decide +kernel⟩
abbrev s_over:Stmt:=top 11
abbrev ps_over:List Str:=["one", "other"]
abbrev nm_over:Str := "over"
theorem sc_over:FnScope ["one", "other"] ps_over (defScope s_over):=⟨rfl,rfl,rfl,by decide +kernel,rfl,by decide +kernel,by decide +kernel⟩
abbrev s_level:Stmt:=top 13
abbrev ps_level:List Str:=["fractions"]
abbrev nm_level:Str := "level"
theorem sc_level:FnScope ["fractions", "bottom", "one"] ps_level (defScope s_level):=⟨rfl,rfl,rfl,by decide +kernel,rfl,by decide +kernel,by decide +kernel⟩
abbrev s_lowest:Stmt:=top 15
abbrev ps_lowest:List Str:=["tops", "bottom"]
abbrev nm_lowest:Str := "lowest"
theorem sc_lowest:FnScope ["tops", "bottom", "common", "top"] ps_lowest (defScope s_lowest):=⟨rfl,rfl,rfl,by decide +kernel,rfl,by decide +kernel,by decide +kernel⟩
abbrev s_row_times:Stmt:=top 16
abbrev ps_row_times:List Str:=["row", "often"]
abbrev nm_row_times:Str := "row_times"
theorem sc_row_times:FnScope ["row", "often"] ps_row_times (defScope s_row_times):=⟨rfl,rfl,rfl,by decide +kernel,rfl,by decide +kernel,by decide +kernel⟩
abbrev s_row_plus:Stmt:=top 17
abbrev ps_row_plus:List Str:=["row", "other", "often"]
abbrev nm_row_plus:Str := "row_plus"
theorem sc_row_plus:FnScope ["row", "other", "often", "bottom", "common", "own", "added", "tops"] ps_row_plus (defScope s_row_plus):=⟨rfl,rfl,rfl,by decide +kernel,rfl,by decide +kernel,by decide +kernel⟩
abbrev s_take_step:Stmt:=top 18
abbrev ps_take_step:List Str:=["leveled", "step"]
abbrev nm_take_step:Str := "take_step"
theorem sc_take_step:FnScope ["leveled", "step", "row"] ps_take_step (defScope s_take_step):=⟨rfl,rfl,rfl,by decide +kernel,rfl,by decide +kernel,by decide +kernel⟩
abbrev s_number_at:Stmt:=top 19
abbrev ps_number_at:List Str:=["row", "column"]
abbrev nm_number_at:Str := "number_at"
theorem sc_number_at:FnScope ["row", "column"] ps_number_at (defScope s_number_at):=⟨rfl,rfl,rfl,by decide +kernel,rfl,by decide +kernel,by decide +kernel⟩
abbrev s_fractions_of:Stmt:=top 20
abbrev ps_fractions_of:List Str:=["leveled"]
abbrev nm_fractions_of:Str := "fractions_of"
theorem sc_fractions_of:FnScope ["leveled"] ps_fractions_of (defScope s_fractions_of):=⟨rfl,rfl,rfl,by decide +kernel,rfl,by decide +kernel,by decide +kernel⟩
abbrev s_walked:Stmt:=top 21
abbrev ps_walked:List Str:=["rows", "steps"]
abbrev nm_walked:Str := "walked"
theorem sc_walked:FnScope ["rows", "steps", "leveled", "step"] ps_walked (defScope s_walked):=⟨rfl,rfl,rfl,by decide +kernel,rfl,by decide +kernel,by decide +kernel⟩
abbrev s_first_from:Stmt:=top 22
abbrev ps_first_from:List Str:=["leveled", "place", "column"]
abbrev nm_first_from:Str := "first_from"
theorem sc_first_from:FnScope ["leveled", "place", "column", "row"] ps_first_from (defScope s_first_from):=⟨rfl,rfl,rfl,by decide +kernel,rfl,by decide +kernel,by decide +kernel⟩
abbrev s_go_on:Stmt:=top 23
abbrev ps_go_on:List Str:=["leveled", "steps", "step"]
abbrev nm_go_on:Str := "go_on"
theorem sc_go_on:FnScope ["leveled", "steps", "step"] ps_go_on (defScope s_go_on):=⟨rfl,rfl,rfl,by decide +kernel,rfl,by decide +kernel,by decide +kernel⟩
abbrev s_begin_row:Stmt:=top 24
abbrev ps_begin_row:List Str:=["leveled", "steps", "place", "found", "column"]
abbrev nm_begin_row:Str := "begin_row"
theorem sc_begin_row:FnScope ["leveled", "steps", "place", "found", "column", "first"] ps_begin_row (defScope s_begin_row):=⟨rfl,rfl,rfl,by decide +kernel,rfl,by decide +kernel,by decide +kernel⟩
abbrev s_clear_column:Stmt:=top 25
abbrev ps_clear_column:List Str:=["leveled", "steps", "place", "column"]
abbrev nm_clear_column:Str := "clear_column"
theorem sc_clear_column:FnScope ["leveled", "steps", "place", "column", "row", "often"] ps_clear_column (defScope s_clear_column):=⟨rfl,rfl,rfl,by decide +kernel,rfl,by decide +kernel,by decide +kernel⟩
abbrev s_reduced:Stmt:=top 26
abbrev ps_reduced:List Str:=["rows", "wide"]
abbrev nm_reduced:Str := "reduced"
theorem sc_reduced:FnScope ["rows", "wide", "leveled", "steps", "place", "column", "found"] ps_reduced (defScope s_reduced):=⟨rfl,rfl,rfl,by decide +kernel,rfl,by decide +kernel,by decide +kernel⟩
abbrev s_width_of:Stmt:=top 28
abbrev ps_width_of:List Str:=["rows"]
abbrev nm_width_of:Str := "width_of"
theorem sc_width_of:FnScope ["rows"] ps_width_of (defScope s_width_of):=⟨rfl,rfl,rfl,by decide +kernel,rfl,by decide +kernel,by decide +kernel⟩
abbrev s_with_rights:Stmt:=top 29
abbrev ps_with_rights:List Str:=["rows", "rights"]
abbrev nm_with_rights:Str := "with_rights"
theorem sc_with_rights:FnScope ["rows", "rights"] ps_with_rights (defScope s_with_rights):=⟨rfl,rfl,rfl,by decide +kernel,rfl,by decide +kernel,by decide +kernel⟩
abbrev s_begins_of:Stmt:=top 30
abbrev ps_begins_of:List Str:=["end", "wide"]
abbrev nm_begins_of:Str := "begins_of"
theorem sc_begins_of:FnScope ["end", "wide", "begins", "row", "columns"] ps_begins_of (defScope s_begins_of):=⟨rfl,rfl,rfl,by decide +kernel,rfl,by decide +kernel,by decide +kernel⟩
abbrev s_odd_row:Stmt:=top 31
abbrev ps_odd_row:List Str:=["end", "begins", "wide"]
abbrev nm_odd_row:Str := "odd_row"
theorem sc_odd_row:FnScope ["end", "begins", "wide", "row"] ps_odd_row (defScope s_odd_row):=⟨rfl,rfl,rfl,by decide +kernel,rfl,by decide +kernel,by decide +kernel⟩
abbrev s_answer_of:Stmt:=top 32
abbrev ps_answer_of:List Str:=["end", "begins", "wide"]
abbrev nm_answer_of:Str := "answer_of"
theorem sc_answer_of:FnScope ["end", "begins", "wide", "answer", "row", "column"] ps_answer_of (defScope s_answer_of):=⟨rfl,rfl,rfl,by decide +kernel,rfl,by decide +kernel,by decide +kernel⟩
abbrev s_blank_of:Stmt:=top 33
abbrev ps_blank_of:List Str:=["end", "begins", "wide"]
abbrev nm_blank_of:Str := "blank_of"
theorem sc_blank_of:FnScope ["end", "begins", "wide", "free", "blank", "row", "column"] ps_blank_of (defScope s_blank_of):=⟨rfl,rfl,rfl,by decide +kernel,rfl,by decide +kernel,by decide +kernel⟩
abbrev s_single_rows:Stmt:=top 34
abbrev ps_single_rows:List Str:=["many"]
abbrev nm_single_rows:Str := "single_rows"
theorem sc_single_rows:FnScope ["many"] ps_single_rows (defScope s_single_rows):=⟨rfl,rfl,rfl,by decide +kernel,rfl,by decide +kernel,by decide +kernel⟩
abbrev s_solved:Stmt:=top 35
abbrev ps_solved:List Str:=["rows", "rights"]
abbrev nm_solved:Str := "solved"
theorem sc_solved:FnScope ["rows", "rights", "wide", "done", "steps", "end", "begins", "odd", "answer", "last"] ps_solved (defScope s_solved):=⟨rfl,rfl,rfl,by decide +kernel,rfl,by decide +kernel,by decide +kernel⟩
abbrev s_cell:Stmt:=top 37
abbrev ps_cell:List Str:=["_law_script", "_law_k"]
abbrev nm_cell:Str := "_law_cell"
theorem sc_cell:FnScope ["_law_script", "_law_k"] ps_cell (defScope s_cell):=⟨rfl,rfl,rfl,by decide +kernel,rfl,by decide +kernel,by decide +kernel⟩
abbrev s_stream:Stmt:=top 38
abbrev ps_stream:List Str:=["_law_script", "_law_start", "_law_many"]
abbrev nm_stream:Str := "_law_stream"
theorem sc_stream:FnScope ["_law_script", "_law_start", "_law_many", "_law_found", "_law_number", "_law_k"] ps_stream (defScope s_stream):=⟨rfl,rfl,rfl,by decide +kernel,rfl,by decide +kernel,by decide +kernel⟩
abbrev s_gcd:Stmt:=top 39
abbrev ps_gcd:List Str:=["_law_one", "_law_other"]
abbrev nm_gcd:Str := "_law_gcd"
theorem sc_gcd:FnScope ["_law_one", "_law_other", "_law_low", "_law_high"] ps_gcd (defScope s_gcd):=⟨rfl,rfl,rfl,by decide +kernel,rfl,by decide +kernel,by decide +kernel⟩
abbrev s_lratio:Stmt:=top 40
abbrev ps_lratio:List Str:=["_law_top", "_law_bottom"]
abbrev nm_lratio:Str := "_law_ratio"
theorem sc_lratio:FnScope ["_law_top", "_law_bottom", "_law_common"] ps_lratio (defScope s_lratio):=⟨rfl,rfl,rfl,by decide +kernel,rfl,by decide +kernel,by decide +kernel⟩
abbrev s_unit:Stmt:=top 41
abbrev ps_unit:List Str:=["_law_many"]
abbrev nm_unit:Str := "_law_unit"
theorem sc_unit:FnScope ["_law_many"] ps_unit (defScope s_unit):=⟨rfl,rfl,rfl,by decide +kernel,rfl,by decide +kernel,by decide +kernel⟩
abbrev s_added:Stmt:=top 42
abbrev ps_added:List Str:=["_law_rows", "_law_one", "_law_two", "_law_share"]
abbrev nm_added:Str := "_law_added"
theorem sc_added:FnScope ["_law_rows", "_law_one", "_law_two", "_law_share", "_law_found", "_law_mine", "_law_more", "_law_bottom", "_law_top"] ps_added (defScope s_added):=⟨rfl,rfl,rfl,by decide +kernel,rfl,by decide +kernel,by decide +kernel⟩
abbrev s_made:Stmt:=top 43
abbrev ps_made:List Str:=["_law_script", "_law_many"]
abbrev nm_made:Str := "_law_made"
theorem sc_made:FnScope ["_law_script", "_law_many", "_law_rows", "_law_numbers", "_law_k", "_law_one", "_law_two", "_law_share", "_law_kept"] ps_made (defScope s_made):=⟨rfl,rfl,rfl,by decide +kernel,rfl,by decide +kernel,by decide +kernel⟩
abbrev s_answer:Stmt:=top 44
abbrev ps_answer:List Str:=["_law_script", "_law_many"]
abbrev nm_answer:Str := "_law_answer"
theorem sc_answer:FnScope ["_law_script", "_law_many", "_law_numbers", "_law_found", "_law_far"] ps_answer (defScope s_answer):=⟨rfl,rfl,rfl,by decide +kernel,rfl,by decide +kernel,by decide +kernel⟩
abbrev s_many_by:Stmt:=top 45
abbrev ps_many_by:List Str:=["_law_script"]
abbrev nm_many_by:Str := "_law_many_by"
theorem sc_many_by:FnScope ["_law_script", "_law_many"] ps_many_by (defScope s_many_by):=⟨rfl,rfl,rfl,by decide +kernel,rfl,by decide +kernel,by decide +kernel⟩
abbrev s_whole:Stmt:=top 46
abbrev ps_whole:List Str:=["_law_found"]
abbrev nm_whole:Str := "_law_whole"
theorem sc_whole:FnScope ["_law_found"] ps_whole (defScope s_whole):=⟨rfl,rfl,rfl,by decide +kernel,rfl,by decide +kernel,by decide +kernel⟩
abbrev s_is_fraction:Stmt:=top 47
abbrev ps_is_fraction:List Str:=["_law_found"]
abbrev nm_is_fraction:Str := "_law_is_fraction"
theorem sc_is_fraction:FnScope ["_law_found"] ps_is_fraction (defScope s_is_fraction):=⟨rfl,rfl,rfl,by decide +kernel,rfl,by decide +kernel,by decide +kernel⟩
abbrev s_fractions:Stmt:=top 48
abbrev ps_fractions:List Str:=["_law_found", "_law_many"]
abbrev nm_fractions:Str := "_law_fractions"
theorem sc_fractions:FnScope ["_law_found", "_law_many"] ps_fractions (defScope s_fractions):=⟨rfl,rfl,rfl,by decide +kernel,rfl,by decide +kernel,by decide +kernel⟩
abbrev s_products:Stmt:=top 49
abbrev ps_products:List Str:=["_law_some", "_law_others"]
abbrev nm_products:Str := "_law_products"
theorem sc_products:FnScope ["_law_some", "_law_others", "_law_top", "_law_bottom", "_law_one", "_law_other"] ps_products (defScope s_products):=⟨rfl,rfl,rfl,by decide +kernel,rfl,by decide +kernel,by decide +kernel⟩
abbrev s_comes:Stmt:=top 50
abbrev ps_comes:List Str:=["_law_some", "_law_others", "_law_due"]
abbrev nm_comes:Str := "_law_comes"
theorem sc_comes:FnScope ["_law_some", "_law_others", "_law_due", "_law_top", "_law_bottom"] ps_comes (defScope s_comes):=⟨rfl,rfl,rfl,by decide +kernel,rfl,by decide +kernel,by decide +kernel⟩
abbrev s_column:Stmt:=top 51
abbrev ps_column:List Str:=["_law_rows", "_law_at"]
abbrev nm_column:Str := "_law_column"
theorem sc_column:FnScope ["_law_rows", "_law_at"] ps_column (defScope s_column):=⟨rfl,rfl,rfl,by decide +kernel,rfl,by decide +kernel,by decide +kernel⟩
abbrev s_both_ways:Stmt:=top 52
abbrev ps_both_ways:List Str:=["_law_rows", "_law_left"]
abbrev nm_both_ways:Str := "_law_both_ways"
theorem sc_both_ways:FnScope ["_law_rows", "_law_left", "_law_k", "_law_j"] ps_both_ways (defScope s_both_ways):=⟨rfl,rfl,rfl,by decide +kernel,rfl,by decide +kernel,by decide +kernel⟩
abbrev s_tells:Stmt:=top 53
abbrev ps_tells:List Str:=["_law_found", "_law_answer_here"]
abbrev nm_tells:Str := "_law_tells"
theorem sc_tells:FnScope ["_law_found", "_law_answer_here"] ps_tells (defScope s_tells):=⟨rfl,rfl,rfl,by decide +kernel,rfl,by decide +kernel,by decide +kernel⟩
abbrev s_word:Stmt:=top 54
abbrev ps_word:List Str:=["_law_found", "_law_word_here"]
abbrev nm_word:Str := "_law_word"
theorem sc_word:FnScope ["_law_found", "_law_word_here"] ps_word (defScope s_word):=⟨rfl,rfl,rfl,by decide +kernel,rfl,by decide +kernel,by decide +kernel⟩
abbrev s_law:Stmt:=top 55
abbrev ps_law:List Str:=["_law_script"]
abbrev nm_law:Str := "law"
theorem sc_law:FnScope ["_law_script", "_law_many", "_law_rows", "_law_answer_here", "_law_sums", "_law_rights", "_law_found", "_law_more", "_law_top", "_law_bottom"] ps_law (defScope s_law):=⟨rfl,rfl,rfl,by decide +kernel,rfl,by decide +kernel,by decide +kernel⟩
structure Adr where
 NoNumber:Addr
 NOUGHT:Addr
 ONE:Addr
structure Txt (K:PySem.W.Frag) (mg:Str→Option Value) (D:Adr):Prop where
 c_NOUGHT:mg "NOUGHT" = some (.ref D.NOUGHT)
 c_NoNumber:mg "NoNumber" = some (.ref D.NoNumber)
 c_ONE:mg "ONE" = some (.ref D.ONE)
 x_NoNumber:ExcC K D.NoNumber
 kt_NOUGHT:∀ H,SqT K H D.NOUGHT [.int 0,.int 1]
 kt_ONE:∀ H,SqT K H D.ONE [.int 1,.int 1]
 b_abs:mg "abs" = none
 b_all:mg "all" = none
 b_bool:mg "bool" = none
 b_enumerate:mg "enumerate" = none
 b_int:mg "int" = none
 b_isinstance:mg "isinstance" = none
 b_len:mg "len" = none
 b_list:mg "list" = none
 b_max:mg "max" = none
 b_range:mg "range" = none
 b_sorted:mg "sorted" = none
 b_tuple:mg "tuple" = none
 b_zip:mg "zip" = none
 f_is_whole:HasF K mg nm_is_whole s_is_whole ps_is_whole
 f_divisor:HasF K mg nm_divisor s_divisor ps_divisor
 f_ratio:HasF K mg nm_ratio s_ratio ps_ratio
 f_minus:HasF K mg nm_minus s_minus ps_minus
 f_over:HasF K mg nm_over s_over ps_over
 f_level:HasF K mg nm_level s_level ps_level
 f_lowest:HasF K mg nm_lowest s_lowest ps_lowest
 f_row_times:HasF K mg nm_row_times s_row_times ps_row_times
 f_row_plus:HasF K mg nm_row_plus s_row_plus ps_row_plus
 f_take_step:HasF K mg nm_take_step s_take_step ps_take_step
 f_number_at:HasF K mg nm_number_at s_number_at ps_number_at
 f_fractions_of:HasF K mg nm_fractions_of s_fractions_of ps_fractions_of
 f_walked:HasF K mg nm_walked s_walked ps_walked
 f_first_from:HasF K mg nm_first_from s_first_from ps_first_from
 f_go_on:HasF K mg nm_go_on s_go_on ps_go_on
 f_begin_row:HasF K mg nm_begin_row s_begin_row ps_begin_row
 f_clear_column:HasF K mg nm_clear_column s_clear_column ps_clear_column
 f_reduced:HasF K mg nm_reduced s_reduced ps_reduced
 f_width_of:HasF K mg nm_width_of s_width_of ps_width_of
 f_with_rights:HasF K mg nm_with_rights s_with_rights ps_with_rights
 f_begins_of:HasF K mg nm_begins_of s_begins_of ps_begins_of
 f_odd_row:HasF K mg nm_odd_row s_odd_row ps_odd_row
 f_answer_of:HasF K mg nm_answer_of s_answer_of ps_answer_of
 f_blank_of:HasF K mg nm_blank_of s_blank_of ps_blank_of
 f_single_rows:HasF K mg nm_single_rows s_single_rows ps_single_rows
 f_solved:HasF K mg nm_solved s_solved ps_solved
 f_cell:HasF K mg nm_cell s_cell ps_cell
 f_stream:HasF K mg nm_stream s_stream ps_stream
 f_gcd:HasF K mg nm_gcd s_gcd ps_gcd
 f_lratio:HasF K mg nm_lratio s_lratio ps_lratio
 f_unit:HasF K mg nm_unit s_unit ps_unit
 f_added:HasF K mg nm_added s_added ps_added
 f_made:HasF K mg nm_made s_made ps_made
 f_answer:HasF K mg nm_answer s_answer ps_answer
 f_many_by:HasF K mg nm_many_by s_many_by ps_many_by
 f_whole:HasF K mg nm_whole s_whole ps_whole
 f_is_fraction:HasF K mg nm_is_fraction s_is_fraction ps_is_fraction
 f_fractions:HasF K mg nm_fractions s_fractions ps_fractions
 f_products:HasF K mg nm_products s_products ps_products
 f_comes:HasF K mg nm_comes s_comes ps_comes
 f_column:HasF K mg nm_column s_column ps_column
 f_both_ways:HasF K mg nm_both_ways s_both_ways ps_both_ways
 f_tells:HasF K mg nm_tells s_tells ps_tells
 f_word:HasF K mg nm_word s_word ps_word
section
variable {P:Program} {w:World} {K:PySem.W.Frag} {mg:Str→Option Value} {base:Heap} {D:Adr}
theorem boot_abs:bootBuiltins "abs" = some (.builtin "abs"):=by decide +kernel
theorem line1:1 ≤ sizeLine:=by decide
theorem line2:2 ≤ sizeLine:=by decide
theorem line64 {n:Nat} (h:n ≤ 64):n ≤ sizeLine:=Nat.le_trans h (by decide)
theorem cut_one (ns:List Int) (k:Nat):atI (cutV (ns.map V.int) (some (k:Int)) (some ((k:Int) + 1)) ++ [V.int 0]) 0 = some (V.int (ns.getD k 0)):=by
 unfold cutV
 rw [show ((k:Int) + 1) = ((k + 1:Nat):Int) by omega,HT.sIx_nat,HT.sIx_nat,List.length_map]
 refine atI_nat (j:=0) ?_
 by_cases h:k < ns.length
 ·rw [Nat.min_eq_left (Nat.le_of_lt h),Nat.min_eq_left (Nat.succ_le_of_lt h)]
  rw [show k + 1 - k = 1 by omega]
  rw [List.drop_eq_getElem_cons (by rw [List.length_map]; exact h)]
  simp [List.getD,h]
 ·have e1:min k ns.length = ns.length:=by omega
  have e2:min (k + 1) ns.length = ns.length:=by omega
  rw [e1,e2]
  simp [List.getD,List.getElem?_eq_none (Nat.le_of_not_lt h)]
def sp_whole:Sp:=fun vs H Q _=>∃ x t,vs = [x]∧tyS H x = some t∧Q (.bl (t == "int")) H
theorem ok_whole {f:Addr} {fd:FuncData} (F:Fun K nm_whole nm_whole s_whole f fd) (T:Txt K mg D):FnOk P w K mg base CX0 1 f fd ps_whole sp_whole:=by
 refine F.ok sc_whole (fun vs H Q E h=>?_) (fun cdv A outer s H vs Q E hr h=>?_)
 ·obtain ⟨x,t,rfl,_⟩:=h
  rfl
 ·obtain ⟨x,t,rfl,ht,q⟩:=h
  refine ⟨_,(pss_one (ps_ret (pe_and (pe_callB call_isi (by rfl) T.b_isinstance boot_isinstance (pa_cons (pv 0) (pa_cons (pe_bltn (v:=.ty "int") (by rfl) T.b_int boot_int rfl) pa_nil))) (pe_one (pe_not (pe_callB call_isi (by rfl) T.b_isinstance boot_isinstance (pa_cons (pv 0) (pa_cons (pe_bltn (v:=.ty "bool") (by rfl) T.b_bool boot_bool rfl) pa_nil)))))))),?_⟩
  walk_at "rd"
  rw [ht]
  walk_at "rd"
  have hm:=tyS_in ht
  simp only [List.mem_cons,List.not_mem_nil,or_false] at hm
  rcases hm with rfl | rfl | rfl | rfl | rfl | rfl | rfl <;> simpa using q
theorem ok_is_whole {f:Addr} {fd:FuncData} (F:Fun K nm_is_whole nm_is_whole s_is_whole f fd) (T:Txt K mg D):FnOk P w K mg base CX0 1 f fd ps_is_whole sp_whole:=by
 refine F.ok sc_is_whole (fun vs H Q E h=>?_) (fun cdv A outer s H vs Q E hr h=>?_)
 ·obtain ⟨x,t,rfl,_⟩:=h
  rfl
 ·obtain ⟨x,t,rfl,ht,q⟩:=h
  refine ⟨_,(pss_one (ps_ret (pe_and (pe_callB call_isi (by rfl) T.b_isinstance boot_isinstance (pa_cons (pv 0) (pa_cons (pe_bltn (v:=.ty "int") (by rfl) T.b_int boot_int rfl) pa_nil))) (pe_one (pe_not (pe_callB call_isi (by rfl) T.b_isinstance boot_isinstance (pa_cons (pv 0) (pa_cons (pe_bltn (v:=.ty "bool") (by rfl) T.b_bool boot_bool rfl) pa_nil)))))))),?_⟩
  walk_at "rd"
  rw [ht]
  walk_at "rd"
  have hm:=tyS_in ht
  simp only [List.mem_cons,List.not_mem_nil,or_false] at hm
  rcases hm with rfl | rfl | rfl | rfl | rfl | rfl | rfl <;> simpa using q
def sp_gcd:Sp:=fun vs H Q _=>∃ (a b:Int),vs = [.int a,.int b]∧Q (.int (Int.gcd a b:Nat)) H
theorem ok_gcd {f:Addr} {fd:FuncData} (F:Fun K nm_gcd nm_gcd s_gcd f fd) (T:Txt K mg D):FnOk P w K mg base CX0 1 f fd ps_gcd sp_gcd:=by
 refine FnOk.clean (sp:=fun vs H Q _=>∃ (a b:Int),vs = [.int a,.int b]∧∀ H',Same H H'→Q (.int (Int.gcd a b:Nat)) H')
  (F.ok sc_gcd (fun vs H Q E h=>?_) (fun cdv A outer s H vs Q E hr h=>?_)) fun vs H Q E ⟨a,b,h1,h4⟩=>⟨a,b,h1,fun H' S=>⟨S,h4⟩⟩
 ·obtain ⟨a,b,rfl,_⟩:=h
  rfl
 ·obtain ⟨a,b,rfl,q⟩:=h
  refine ⟨_,(pss_cons (ps_asg (pe_callB call_srtH (by rfl) T.b_sorted boot_sorted (pa_cons (pe_lst (pa_cons (pe_callB call_abs (by rfl) T.b_abs boot_abs (pa_cons (pv 0) pa_nil)) (pa_cons (pe_callB call_abs (by rfl) T.b_abs boot_abs (pa_cons (pv 1) pa_nil)) pa_nil))) pa_nil)) (pg_lstH (n:=2) rfl (pgs_cons (pg_name (i:=2) sc_gcd.nd rfl (Or.inl rfl)) (pgs_cons (pg_name (i:=3) sc_gcd.nd rfl (Or.inl rfl)) pgs_nil))))
   (pss_cons (ps_while PassesOwn.never (pt_cmpR op_gt (pv 2) pe_int (nomark _))
    (pss_one (ps_par (i:=2) (j:=3) rfl sc_gcd.nd rfl rfl (by decide) rfl rfl (pa_cons (pe_op op_modN (pv 3) (pv 2)) (pa_cons (pv 2) pa_nil)) rfl)))
   (pss_one (ps_ret (pv 3))))),?_⟩
  walk_at "rd"
  refine ⟨line2,fun p hp=>⟨[(a.natAbs:Int),(b.natAbs:Int)],?_,(by simp),fun ms p1 hp1 hm hs=>?_⟩⟩
  ·rw [abs_if,abs_if]; rfl
  have S:Same H (upd (upd H p (HO.lst [V.int (if a < 0 then -a else a),V.int (if b < 0 then -b else b)])) p1 (HO.lst (ms.map V.int))):=(Same.upd hp).trans (Same.upd hp1)
  generalize upd (upd H p (HO.lst [V.int (if a < 0 then -a else a),V.int (if b < 0 then -b else b)])) p1 (HO.lst (ms.map V.int)) = H1 at S
  have hk:∃ l k:Nat,ms = [(l:Int),(k:Int)]∧Nat.gcd l k = Int.gcd a b:=by
   rcases perm_two hm with rfl | rfl
   ·exact ⟨_,_,rfl,rfl⟩
   ·exact ⟨_,_,rfl,Nat.gcd_comm _ _⟩
  obtain ⟨l,k,rfl,hg⟩:=hk
  walk_at "rd"
  refine while_by (fun σ H2=>∃ l k:Nat,σ = [some (.int a),some (.int b),some (.int l),some (.int k)]∧H2 = H1∧Nat.gcd l k = Int.gcd a b)
   (fun σ _=>match σ with | [_,_,some (.int l),_]=>l.natAbs | _=>0) ⟨l,k,rfl,rfl,hg⟩ ?_ ?_
  ·rintro σ H2 ⟨l,k,rfl,rfl,hg⟩
   walk_at "rd"
   by_cases hl:l = 0
   ·subst hl
    simp only [Int.natCast_zero,Int.lt_irrefl,decide_false,Bool.false_eq_true,if_false]
    rw [show k = Int.gcd a b by rw [← hg,Nat.gcd_zero_left]]
    exact q _ S
   ·have hl':(0:Int) < l:=by omega
    rw [if_pos (decide_eq_true hl')]
    refine ⟨by omega,⟨k % l,fmod_nat _ _,l,rfl,?_⟩,?_⟩
    ·rw [← Nat.gcd_rec]; exact hg
    ·rw [fmod_nat]
     show (k % l) < l
     exact Nat.mod_lt _ (by omega)
  ·intro σ H2 Q1 Q2 hq
   walk_at "rd"
   rintro ⟨v,h1,i,h2,h3⟩
   exact ⟨v,h1,i,h2,hq _ _ h3⟩
theorem gcd_pos {a b:Int} (h:b ≠ 0):(0:Int) < (Int.gcd a b:Nat):=by
 have:=Int.gcd_pos_of_ne_zero_right a h
 omega
theorem gcd_bd {a b:Int} (h:b ≠ 0) (hb:Bd b):Bd (Int.gcd a b:Nat):=by
 unfold Bd at *
 refine Nat.lt_of_le_of_lt ?_ hb
 rw [Int.natAbs_natCast]
 exact Nat.le_of_dvd (by omega) (Int.gcd_dvd_natAbs_right a b)
def sp_divisor:Sp:=fun vs H Q _=>∃ (a b:Int),vs = [.int a,.int b]∧Q (.int (Int.gcd a b:Nat)) H
def dInv (a b:Int) (H1:Hp) (σ:L2.St) (H:Hp):Prop:=∃ (l k:Nat) (z:Option V),σ = [some (.int a),some (.int b),some (.int l),some (.int k),z]∧H = H1∧Nat.gcd l k = Int.gcd a b
theorem ok_divisor {f:Addr} {fd:FuncData} (F:Fun K nm_divisor nm_divisor s_divisor f fd) (T:Txt K mg D):FnOk P w K mg base CX0 1 f fd ps_divisor sp_divisor:=by
 refine F.ok sc_divisor (fun vs H Q E h=>?_) (fun cdv A outer s H vs Q E hr h=>?_)
 ·obtain ⟨a,b,rfl,_⟩:=h
  rfl
 ·obtain ⟨a,b,rfl,q⟩:=h
  refine ⟨_,(pss_cons (ps_set (i:=2) sc_divisor.nd rfl (Or.inl rfl) (pe_callB call_abs (by rfl) T.b_abs boot_abs (pa_cons (pv 0) pa_nil)))
   (pss_cons (ps_set (i:=3) sc_divisor.nd rfl (Or.inl rfl) (pe_callB call_abs (by rfl) T.b_abs boot_abs (pa_cons (pv 1) pa_nil)))
   (pss_cons (ps_while PassesOwn.never (pt_cmpR op_ne (pv 3) pe_int (nomark _))
    (pss_cons (ps_set (i:=4) sc_divisor.nd rfl (Or.inl rfl) (pe_op op_modN (pv 2) (pv 3)))
    (pss_cons (ps_set (i:=2) sc_divisor.nd rfl (Or.inl rfl) (pv 3))
    (pss_one (ps_set (i:=3) sc_divisor.nd rfl (Or.inl rfl) (pv 4))))))
   (pss_one (ps_ret (pv 2)))))),?_⟩
  walk_at "rd"
  rw [abs_if,abs_if]
  refine while_by (dInv a b H) (fun σ _=>match σ with | [_,_,_,some (.int k),_]=>k.natAbs | _=>0) ⟨a.natAbs,b.natAbs,none,rfl,rfl,rfl⟩ ?_ ?_
  ·rintro σ H2 ⟨l,k,z,rfl,rfl,hg⟩
   walk_at "rd"
   by_cases hl:k = 0
   ·subst hl
    rw [if_neg (by simp)]
    rw [show l = Int.gcd a b by rw [← hg,Nat.gcd_zero_right]]
    exact q
   ·have hl':¬ ((k:Int) = 0):=by omega
    rw [if_pos (by simpa using hl)]
    refine ⟨by omega,⟨k,l % k,some (.int ((l % k:Nat):Int)),?_,rfl,?_⟩,?_⟩
    ·rw [fmod_nat]
    ·rw [Nat.gcd_comm,← Nat.gcd_rec,Nat.gcd_comm]; exact hg
    ·rw [fmod_nat]
     show (l % k) < k
     exact Nat.mod_lt _ (by omega)
  ·intro σ H2 Q1 Q2 hq
   walk_at "rd"
   rintro ⟨v,h1,h2,h3⟩
   exact ⟨v,h1,h2,hq _ _ h3⟩
structure Low (t b x y:Int):Prop where
 pos:0 < y
 gcd:Int.gcd x y = 1
 eq:x * b = t * y
 lx:x.natAbs ≤ t.natAbs
 ly:y.natAbs ≤ b.natAbs
theorem fdiv_exact {c q:Int} (h:c ≠ 0):Int.fdiv (c * q) c = q:=by
 rw [Int.fdiv_eq_ediv_of_dvd (Int.dvd_mul_right c q),Int.mul_ediv_cancel_left _ h]
theorem abs_le_mul {c q:Int} (h:c ≠ 0):q.natAbs ≤ (c * q).natAbs:=by
 rw [Int.natAbs_mul]
 exact Nat.le_mul_of_pos_left _ (by omega)
theorem low_of {t b c:Int} (hb:b ≠ 0) (hc:c ≠ 0) (hg:c.natAbs = Int.gcd t b) (hs:0 < c * b):Low t b (Int.fdiv t c) (Int.fdiv b c):=by
 have d1:c ∣ t:=Int.natAbs_dvd.mp (by rw [hg]; exact Int.gcd_dvd_left t b)
 have d2:c ∣ b:=Int.natAbs_dvd.mp (by rw [hg]; exact Int.gcd_dvd_right t b)
 obtain ⟨x,rfl⟩:=d1
 obtain ⟨y,rfl⟩:=d2
 rw [fdiv_exact hc,fdiv_exact hc]
 refine ⟨?_,?_,?_,abs_le_mul hc,abs_le_mul hc⟩
 ·rw [← Int.mul_assoc] at hs
  have hp:0 < c * c:=by
   rcases Int.lt_or_lt_of_ne hc with z | z
   ·exact Int.mul_pos_of_neg_of_neg z z
   ·exact Int.mul_pos z z
  exact Int.pos_of_mul_pos_right hs hp
 ·rw [Int.gcd_mul_left] at hg
  have hp:0 < c.natAbs:=by omega
  exact Nat.eq_of_mul_eq_mul_left hp (by rw [Nat.mul_one]; exact hg.symm)
 ·rw [Int.mul_left_comm,Int.mul_assoc]
def sp_ratio:Sp:=fun vs H Q _=>∃ (t b:Int),vs = [.int t,.int b]∧b ≠ 0∧Bd b∧∀ p x y,Low t b x y→H p = none→Q (.ref p) (upd H p (.tup [.int x,.int y]))
theorem bd_neg {i:Int} (h:Bd i):Bd (-i):=by unfold Bd at *; rw [Int.natAbs_neg]; exact h
theorem ok_ratio {f:Addr} {fd:FuncData} (F:Fun K nm_ratio nm_ratio s_ratio f fd) (T:Txt K mg D) (G_is_whole:OkF P w K mg base 1 nm_is_whole ps_is_whole sp_whole) (G_divisor:OkF P w K mg base 1 nm_divisor ps_divisor sp_divisor):FnOk P w K mg base CX0 2 f fd ps_ratio sp_ratio:=by
 refine F.ok sc_ratio (fun vs H Q E h=>?_) (fun cdv A outer s H vs Q E hr h=>?_)
 ·obtain ⟨t,b,rfl,_⟩:=h
  rfl
 ·obtain ⟨t,b,rfl,hb,hbd,q⟩:=h
  refine ⟨_,(pss_cons (ps_if (pw_or (pt_not (pt_tru (pe_callF G_is_whole (hr.mono (by decide)) (by rfl) (pa_cons (pv 0) pa_nil)) (fun _=>rfl))) (pw_or1 (pt_not (pt_tru (pe_callF G_is_whole (hr.mono (by decide)) (by rfl) (pa_cons (pv 1) pa_nil)) (fun _=>rfl))))).pt
    (pss_one (ps_raise rfl (by rfl) T.c_NoNumber T.x_NoNumber xmade_no (pa_cons pe_str pa_nil)))
    pss_nil)
   (pss_cons (ps_if (pt_cmpR op_eq (pv 1) pe_int (nomark _))
    (pss_one (ps_raise rfl (by rfl) T.c_NoNumber T.x_NoNumber xmade_no (pa_cons pe_str pa_nil)))
    pss_nil)
   (pss_cons (ps_set (i:=2) sc_ratio.nd rfl (Or.inl rfl) (pe_callF G_divisor (hr.mono (by decide)) (by rfl) (pa_cons (pv 0) (pa_cons (pv 1) pa_nil))))
   (pss_cons (ps_if (pt_cmpR op_lt (pv 1) pe_int (nomark _))
    (pss_one (ps_set (i:=2) sc_ratio.nd rfl (Or.inl rfl) (pe_un un_neg (pv 2))))
    pss_nil)
   (pss_one (ps_ret (pe_tup (pa_cons (pe_op op_fdivB (pv 0) (pv 2)) (pa_cons (pe_op op_fdivB (pv 1) (pv 2)) pa_nil))))))))),?_⟩
  unfold sp_whole sp_divisor
  walk_at "rd"
  have g0:=gcd_pos (a:=t) hb
  have g1:=gcd_bd (a:=t) hb hbd
  rw [if_neg (by simpa using hb)]
  refine ite2 (fun hn=>?_) fun hn=>?_
  ·rw [decide_eq_true_eq] at hn
   refine ⟨by omega,bd_neg g1,by omega,bd_neg g1,line2,fun p hp=>q p _ _ (low_of hb (by omega) (by omega) ?_) hp⟩
   exact Int.mul_pos_of_neg_of_neg (by omega) hn
  ·rw [decide_eq_true_eq] at hn
   refine ⟨by omega,g1,by omega,g1,line2,fun p hp=>q p _ _ (low_of hb (by omega) (by omega) ?_) hp⟩
   exact Int.mul_pos g0 (by omega)
def cell (ns:List Int) (k:Int):Int:=ns.getD k.toNat 0
def sp_cell (K:PySem.W.Frag) (a:Addr) (ns:List Int):Sp:=fun vs H Q _=>∃ (k:Int),vs = [.ref a,.int k]∧SqL K H a (ns.map V.int)∧ns.length ≤ 63∧0 ≤ k∧Q (.int (cell ns k)) H
theorem ok_cell {f:Addr} {fd:FuncData} (F:Fun K nm_cell nm_cell s_cell f fd) (a:Addr) (ns:List Int):FnOk P w K mg base CX0 1 f fd ps_cell (sp_cell K a ns):=by
 refine FnOk.clean (sp:=fun vs H Q _=>∃ (k:Int),vs = [.ref a,.int k]∧SqL K H a (ns.map V.int)∧ns.length ≤ 63∧0 ≤ k∧∀ H',Same H H'→Q (.int (cell ns k)) H')
  (F.ok sc_cell (fun vs H Q E h=>?_) (fun cdv A outer s H vs Q E hr h=>?_)) fun vs H Q E ⟨k,h1,h2,h3,h4,h5⟩=>⟨k,h1,h2,h3,h4,fun H' S=>⟨S,h5⟩⟩
 ·obtain ⟨k,rfl,_⟩:=h
  rfl
 ·obtain ⟨k,rfl,hs,hl,hk,q⟩:=h
  refine ⟨_,(pss_one (ps_ret (pe_ix ix_listH (pe_op op_cat (pe_slice sl_list (pv 0) (po_some (pv 1)) (po_some (pe_op op_add (pv 1) pe_int))) (pe_lst (pa_cons pe_int pa_nil))) pe_int (fun _ _=>rfl)))),?_⟩
  walk_at "rd"
  refine ⟨_,hs,fun p hp=>⟨line1,fun p1 hp1=>?_⟩⟩
  have n1:p ≠ p1:=ne_of_none upd_same hp1
  refine ⟨_,(upd_ne n1).trans upd_same,?_,fun p2 hp2=>⟨_,?_,q _ ?_⟩⟩
  ·refine line64 ?_
   have:=cutV_length (ns.map V.int) (some k) (some (k + 1))
   rw [List.length_map] at this
   omega
  ·have:=cut_one ns k.toNat
   rw [Int.toNat_of_nonneg hk] at this
   exact this
  ·exact ((Same.upd hp).trans (Same.upd hp1)).trans (Same.upd hp2)
structure Fq (f:Int × Int):Prop where
 pos:0 < f.2
 gcd:Int.gcd f.1 f.2 = 1
 sa:f.1.natAbs ≤ 10 ^ 55
 sb:f.2.natAbs ≤ 10 ^ 55
theorem Fq.ba {f:Int × Int} (h:Fq f):Bd f.1:=Nat.lt_of_le_of_lt h.sa (by decide +kernel)
theorem Fq.bb {f:Int × Int} (h:Fq f):Bd f.2:=Nat.lt_of_le_of_lt h.sb (by decide +kernel)
def botN (fs:List (Int × Int)):List Nat:=fs.map fun f=>f.2.natAbs
def lvB (fs:List (Int × Int)):Nat:=Lv.lcmL (botN fs)
def lvT (fs:List (Int × Int)):List Int:=fs.map fun f=>f.1 * ((lvB fs:Nat) / f.2)
theorem foldl_lcm_le {B:Nat} : ∀ (bs:List Nat) (a:Nat),0 < a→(∀ b ∈ bs,0 < b∧b ≤ B)→bs.foldl Nat.lcm a ≤ a * B ^ bs.length
  | [],a,_,_=>by simp
  | b :: bs,a,ha,hb=>by
    have h1:=hb b List.mem_cons_self
    have h2:=foldl_lcm_le bs (Nat.lcm a b) (Nat.lcm_pos ha h1.1) fun c hc=>hb c (List.mem_cons_of_mem _ hc)
    rw [List.foldl_cons,List.length_cons,Nat.pow_succ]
    refine Nat.le_trans h2 ?_
    have h3:Nat.lcm a b ≤ a * B:=Nat.le_trans (Nat.le_of_dvd (Nat.mul_pos ha h1.1) (Nat.lcm_dvd_mul a b)) (Nat.mul_le_mul_left a h1.2)
    calc Nat.lcm a b * B ^ bs.length ≤ a * B * B ^ bs.length:=Nat.mul_le_mul_right _ h3
      _ = a * (B ^ bs.length * B):=by rw [Nat.mul_assoc,Nat.mul_comm B]
theorem botN_pos {fs:List (Int × Int)} (h:∀ f ∈ fs,Fq f):∀ b ∈ botN fs,0 < b:=fun b hb=>by
 obtain ⟨f,hf,rfl⟩:=List.mem_map.mp hb
 have:=(h f hf).pos
 omega
theorem lvB_pos {fs:List (Int × Int)} (h:∀ f ∈ fs,Fq f):0 < lvB fs:=Lv.lcmL_pos (botN_pos h)
theorem lvB_le {fs:List (Int × Int)} (h:∀ f ∈ fs,Fq f) (hz:fs.length ≤ 41):lvB fs ≤ (10 ^ 55) ^ 41:=by
 have h1:=foldl_lcm_le (B:=10 ^ 55) (botN fs) 1 (by decide) fun b hb=>by
  obtain ⟨f,hf,rfl⟩:=List.mem_map.mp hb
  have:=(h f hf).pos
  exact ⟨by omega,(h f hf).sb⟩
 rw [Nat.one_mul] at h1
 refine Nat.le_trans h1 (Nat.pow_le_pow_right (by decide) ?_)
 unfold botN
 rw [List.length_map]
 exact hz
theorem lvB_bd {fs:List (Int × Int)} (h:∀ f ∈ fs,Fq f) (hz:fs.length ≤ 41):Bd (lvB fs:Nat):=by
 unfold Bd
 rw [Int.natAbs_natCast]
 exact Nat.lt_of_le_of_lt (lvB_le h hz) (by decide +kernel)
theorem all_take {fs:List (Int × Int)} (h:∀ f ∈ fs,Fq f) (k:Nat):∀ f ∈ fs.take k,Fq f:=fun f hf=>h f (List.mem_of_mem_take hf)
theorem take_next {α:Type} {l:List α} {k:Nat} {x:α} (h:l[k]? = some x):l.take (k + 1) = l.take k ++ [x]:=by
 rw [List.take_succ,h]; rfl
theorem lvB_next {fs:List (Int × Int)} {k:Nat} {f:Int × Int} (h:fs[k]? = some f):lvB (fs.take (k + 1)) = Nat.lcm (lvB (fs.take k)) f.2.natAbs:=by
 unfold lvB Lv.lcmL botN
 rw [take_next h,List.map_append,List.foldl_append]; rfl
theorem lcm_int {n:Nat} {b:Int} (hb:0 < b) (hn:0 < n):Int.fdiv (n:Int) (Int.gcd (n:Int) b:Nat) * b = (Nat.lcm n b.natAbs:Nat):=by
 obtain ⟨m,rfl⟩ : ∃ m:Nat,b = m:=⟨b.toNat,by omega⟩
 have hg:0 < Nat.gcd n m:=Nat.gcd_pos_of_pos_left m hn
 rw [show Int.gcd (n:Int) (m:Int) = Nat.gcd n m from rfl,Int.natAbs_natCast,fdiv_pos _ (by omega),← Int.natCast_ediv,← Int.natCast_mul]
 congr 1
 unfold Nat.lcm
 exact Nat.div_mul_right_comm (Nat.gcd_dvd_left n m) m
theorem dvd_lvB {fs:List (Int × Int)} {f:Int × Int} (hf:f ∈ fs) (hq:Fq f):f.2 ∣ (lvB fs:Nat):=by
 have h1:f.2.natAbs ∣ lvB fs:=Lv.dvd_lcmL (List.mem_map.mpr ⟨f,hf,rfl⟩)
 have:=Int.natCast_dvd_natCast.mpr h1
 rwa [Int.natAbs_of_nonneg (Int.le_of_lt hq.pos)] at this
theorem top_eq {fs:List (Int × Int)} {f:Int × Int} (hf:f ∈ fs) (hq:Fq f):f.1 * ((lvB fs:Nat) / f.2) * f.2 = f.1 * (lvB fs:Nat):=by
 rw [Int.mul_assoc,Int.ediv_mul_cancel (dvd_lvB hf hq)]
inductive FLK (K:PySem.W.Frag) (H:Hp):List V→List (Int × Int)→Prop
 | nil:FLK K H [] []
 | cons {p:Addr} {f:Int × Int} {xs:List V} {fs:List (Int × Int)} : SqT K H p [.int f.1,.int f.2]→FLK K H xs fs→FLK K H (.ref p :: xs) (f :: fs)
theorem flk_of {H:Hp} : ∀ {xs:List V} {fs:List (Int × Int)},FL H xs fs→FLK K H xs fs
 | _,_,.nil=>.nil
 | _,_,.cons e t=>.cons (.of e) (flk_of t)
theorem FLK.imp {H H':Hp} (h:∀ p a b,SqT K H p [.int a,.int b]→SqT K H' p [.int a,.int b]):∀ {xs:List V} {fs:List (Int × Int)},FLK K H xs fs→FLK K H' xs fs
 | _,_,.nil=>.nil
 | _,_,.cons e t=>.cons (h _ _ _ e) (FLK.imp h t)
theorem FLK.same {H H':Hp} (S:Same H H') {xs:List V} {fs:List (Int × Int)} (h:FLK K H xs fs):FLK K H' xs fs:=h.imp fun _ _ _ e=>S.tup e
theorem FLK.updL {H:Hp} {l:Addr} {ys zs:List V} (hl:H l = some (.lst ys)) {xs:List V} {fs:List (Int × Int)} (h:FLK K H xs fs):FLK K (upd H l (.lst zs)) xs fs:=h.imp fun _ _ _ e=>e.updO hl (fun _ z=>by cases z) fun _ _ z=>by cases z
theorem FLK.length {H:Hp} : ∀ {xs:List V} {fs:List (Int × Int)},FLK K H xs fs→xs.length = fs.length
 | _,_,.nil=>rfl
 | _,_,.cons _ t=>by rw [List.length_cons,List.length_cons,FLK.length t]
theorem FLK.get {H:Hp} : ∀ {xs:List V} {fs:List (Int × Int)} {k:Nat} {x:V},FLK K H xs fs→xs[k]? = some x→∃ p f,x = .ref p∧fs[k]? = some f∧SqT K H p [.int f.1,.int f.2]
 | _,_,_,_,.nil,h=>by simp at h
 | _,_,0,_,.cons (p:=p) (f:=f) e t,h=>by
  simp at h
  exact ⟨p,f,h.symm,rfl,e⟩
 | _,_,k + 1,_,.cons e t,h=>by
  obtain ⟨p,f,h1,h2,h3⟩:=FLK.get (k:=k) t (by simpa using h)
  exact ⟨p,f,h1,by simpa using h2,h3⟩
theorem FLK.append {H:Hp} : ∀ {xs ys:List V} {fs gs:List (Int × Int)},FLK K H xs fs→FLK K H ys gs→FLK K H (xs ++ ys) (fs ++ gs)
 | _,_,_,_,.nil,h=>h
 | _,_,_,_,.cons e t,h=>.cons e (FLK.append t h)
theorem FLK.set {H:Hp} {p:Addr} {f:Int × Int} (e0:SqT K H p [.int f.1,.int f.2]):∀ {xs:List V} {fs:List (Int × Int)} (k:Nat),FLK K H xs fs→FLK K H (xs.set k (.ref p)) (fs.set k f)
 | _,_,_,.nil=>.nil
 | _,_,0,.cons _ t=>.cons e0 t
 | _,_,k + 1,.cons e t=>.cons e (FLK.set e0 k t)
def sp_levelK (K:PySem.W.Frag):Sp:=fun vs H Q _=>∃ (l:Addr) (xs:List V) (fs:List (Int × Int)),vs = [.ref l]∧H l = some (.lst xs)∧FLK K H xs fs∧(∀ f ∈ fs,Fq f)∧fs.length ≤ 41 ∧
 ∀ D p,H D = none→upd H D (.lst ((lvT fs).map V.int)) p = none→Q (.ref p) (upd (upd H D (.lst ((lvT fs).map V.int))) p (.tup [.ref D,.int (lvB fs:Nat)]))
def lJ (l:Addr) (fs:List (Int × Int)) (H1:Hp) (k:Nat) (σ:L2.St) (H:Hp):Prop:=∃ z,σ = [some (.ref l),some (.int (lvB (fs.take k):Nat)),z]∧H = H1
def lK (fs:List (Int × Int)) (D:Addr) (H1:Hp) (k:Nat) (ys:List V) (H:Hp):Prop:=ys = ((lvT fs).take k).map V.int∧H = upd H1 D (.lst ys)
theorem ok_levelK {f:Addr} {fd:FuncData} (F:Fun K nm_level nm_level s_level f fd) (G_divisor:OkF P w K mg base 1 nm_divisor ps_divisor sp_divisor):FnOk P w K mg base CX0 2 f fd ps_level (sp_levelK K):=by
 refine F.ok sc_level (fun vs H Q E h=>?_) (fun cdv A outer s H vs Q E hr h=>?_)
 ·obtain ⟨l,xs,fs,rfl,_⟩:=h
  rfl
 ·obtain ⟨l,xs,fs,rfl,hl,hf,hq,hz,q⟩:=h
  refine ⟨_,(pss_cons (ps_set (i:=1) sc_level.nd rfl (Or.inr rfl) pe_int)
   (pss_cons (ps_for PassesOwn.never rfl (pi_list ((pv 0)).mono) (pg_name (i:=2) sc_level.nd rfl (Or.inl rfl))
    (pss_one (ps_set (i:=1) sc_level.nd rfl (Or.inr rfl) (pe_op op_mulB (pe_op op_fdivB (pv 1) (pe_callF G_divisor (hr.mono (by decide)) (by rfl) (pa_cons (pv 1) (pa_cons (pe_ix (show IxR _ (rIxT K) from ix_tup) (pv 2) pe_int (fun _ _=>rfl)) pa_nil)))) (pe_ix (show IxR _ (rIxT K) from ix_tup) (pv 2) pe_int (fun _ _=>rfl))))))
   (pss_one (ps_ret (pe_tup (pa_cons (pe_compGF (defScope s_level) ["fractions", "bottom", "one"] ["fractions", "bottom", "?one"] ["one"] rfl rfl rfl (by decide +kernel) (by decide +kernel) rfl (by decide +kernel) (by decide +kernel) (by decide +kernel) (by decide +kernel) (by decide +kernel) (pi_list ((pv 0)).mono) (fun _ _ _ _ _=>(pg_name (i:=0) (show List.Nodup (["one", "fractions", "bottom", "?one"] : List Str) from by decide +kernel) rfl (Or.inl rfl) (Or.inr rfl))) (fun _ _ _ _ _=>pts_nil) (fun _ _ _ _ _=>(pe_op op_mulB (pe_ix (show IxR _ (rIxT K) from ix_tup) (pv 0) pe_int (fun _ _=>rfl)) (pe_op op_fdivB (pv 2) (pe_ix (show IxR _ (rIxT K) from ix_tup) (pv 0) pe_int (fun _ _=>rfl)))))) (pa_cons (pv 1) pa_nil))))))),?_⟩
  unfold sp_divisor
  walk_at "rd"
  have hx:xs.length ≤ 41:=by rw [hf.length]; exact hz
  refine tFor_listM ⟨_,rfl,l,xs,rfl,hl,lJ l fs H,⟨none,rfl,rfl⟩,?_,?_⟩
  ·rintro k x σ' H' hk ⟨z,rfl,rfl⟩ _
   obtain ⟨p,g,rfl,hg,hp⟩:=hf.get hk
   have hm:=List.mem_of_getElem? hg
   have b0:=lvB_pos (all_take hq k)
   have b1:=lvB_bd (all_take hq k) (by rw [List.length_take]; omega)
   have g0:=gcd_pos (a:=((lvB (fs.take k):Nat):Int)) (b:=g.2) (Int.ne_of_gt (hq g hm).pos)
   have g1:=gcd_bd (a:=((lvB (fs.take k):Nat):Int)) (b:=g.2) (Int.ne_of_gt (hq g hm).pos) (hq g hm).bb
   walk_at "rd"
   refine ⟨_,hp,_,atI_1,_,rfl,by omega,g1,_,hp,_,atI_1,_,rfl,?_,(hq g hm).bb,hl,some (.ref p),?_,rfl⟩
   ·rw [fdiv_pos _ g0]
    exact b1.div g0
   ·rw [lcm_int (hq g hm).pos b0,← lvB_next hg]
  ·rintro σ' H' ⟨z,rfl,rfl⟩ _
   walk_at "rd"
   have e0:fs.take xs.length = fs:=by rw [hf.length]; exact List.take_length
   rw [e0]
   refine tCompG1_list ⟨_,rfl,l,xs,rfl,hl,Nat.le_trans hx (by decide),fun D hD=>⟨lK fs D H',⟨rfl,rfl⟩,?_,?_⟩⟩
   ·rintro k x ys Hc hk ⟨rfl,rfl⟩ _ ha
    obtain ⟨p,g,rfl,hg,hp⟩:=hf.get hk
    have hm:=List.mem_of_getElem? hg
    have hpD:SqT K (upd H' D (.lst (((lvT fs).take k).map V.int))) p [.int g.1,.int g.2]:=(Same.upd hD).tup hp
    walk_at "rd"
    refine ⟨_,hpD,_,atI_0,_,hpD,_,atI_1,_,rfl,Int.ne_of_gt (hq g hm).pos,(hq g hm).bb,_,rfl,(hq g hm).ba,?_,ha,?_,upd_upd⟩
    ·rw [fdiv_pos _ (hq g hm).pos]
     exact (lvB_bd hq hz).div (hq g hm).pos
    ·rw [fdiv_pos _ (hq g hm).pos]
     have e1:(lvT fs)[k]? = some (g.1 * ((lvB fs:Nat) / g.2)):=by
      unfold lvT
      rw [List.getElem?_map,hg]; rfl
     rw [take_next e1,List.map_append]; rfl
   ·rintro ys Hc ⟨rfl,rfl⟩ _
    have e2:(lvT fs).take xs.length = lvT fs:=by
     refine List.take_of_length_le ?_
     unfold lvT
     rw [List.length_map,hf.length]
     exact Nat.le_refl _
    rw [e2]
    exact ⟨line2,fun p hp=>q D p hD hp⟩
def sp_level:Sp:=fun vs H Q _=>∃ (l:Addr) (xs:List V) (fs:List (Int × Int)),vs = [.ref l]∧H l = some (.lst xs)∧FL H xs fs∧(∀ f ∈ fs,Fq f)∧fs.length ≤ 41 ∧
 ∀ D p,H D = none→upd H D (.lst ((lvT fs).map V.int)) p = none→Q (.ref p) (upd (upd H D (.lst ((lvT fs).map V.int))) p (.tup [.ref D,.int (lvB fs:Nat)]))
theorem level_of {vs:List V} {H:Hp} {Q:VK} {E:XK} (h:sp_level vs H Q E):sp_levelK K vs H Q E:=let ⟨l,xs,fs,a,b,c,d⟩:=h; ⟨l,xs,fs,a,b,flk_of c,d⟩
open Rw
theorem Bd.sm {i:Int} (h:i.natAbs < 18446744073709551616):Bd i:=Nat.lt_of_lt_of_le h (Nat.le_trans (by decide:18446744073709551616 ≤ 2 ^ 64) (Nat.pow_le_pow_right (by decide) (by decide)))
theorem gcL_next {ts:List Int} {b:Int} {k:Nat} {t:Int} (h:ts[k]? = some t):gcL (ts.take (k + 1)) b = ((Int.gcd t (gcL (ts.take k) b):Nat):Int):=by
 unfold gcL
 rw [take_next h,List.foldl_append]; rfl
def iJ (f:Int→Int) (ts:List Int) (D:Addr) (H:Hp) (k:Nat) (ys:List V) (Hc:Hp):Prop:=ys = ((ts.take k).map f).map V.int∧Hc = upd H D (.lst ys)
theorem iJ.next {f:Int→Int} {ts:List Int} {D:Addr} {H:Hp} {k:Nat} {ys:List V} {Hc:Hp} {t:Int} (h:iJ f ts D H k ys Hc) (e:ts[k]? = some t):iJ f ts D H (k + 1) (ys ++ [.int (f t)]) (upd Hc D (.lst (ys ++ [.int (f t)]))):=by
 obtain ⟨rfl,rfl⟩:=h
 refine ⟨?_,upd_upd⟩
 rw [take_next e,List.map_append,List.map_append]; rfl
theorem take_map (ts:List Int):ts.take (ts.map V.int).length = ts:=List.take_of_length_le (by rw [List.length_map]; exact Nat.le_refl _)
def RowAt (H:Hp) (v:V) (r:List Int × Int):Prop:=∃ t l,v = .ref t∧H t = some (.tup [.ref l,.int r.2])∧H l = some (.lst (r.1.map V.int))
theorem RowAt.same {H H':Hp} {v:V} {r:List Int × Int} (h:RowAt H v r) (S:Same H H'):RowAt H' v r:=let ⟨t,l,e,a,b⟩:=h; ⟨t,l,e,S _ _ a,S _ _ b⟩
def sp_plow:Sp:=fun vs H Q _=>∃ (l:Addr) (ts:List Int) (b:Int),vs = [.ref l,.int b]∧H l = some (.lst (ts.map V.int))∧ts.length ≤ 64∧0 < b∧Bd b ∧
 ∀ v H',Same H H'→RowAt H' v (redR (ts,b))→Q v H'
theorem ok_plow {f:Addr} {fd:FuncData} (F:Fun K nm_lowest nm_lowest s_lowest f fd) (T:Txt K mg D) (G_divisor:OkF P w K mg base 1 nm_divisor ps_divisor sp_divisor):FnOk P w K mg base CX0 2 f fd ps_lowest sp_plow:=by
 refine F.ok sc_lowest (fun vs H Q E h=>?_) (fun cdv A outer s H vs Q E hr h=>?_)
 ·obtain ⟨l,ts,b,rfl,_⟩:=h
  rfl
 ·obtain ⟨l,ts,b,rfl,hl,h64,b0,bb,q⟩:=h
  refine ⟨_,(pss_cons (ps_set (i:=2) sc_lowest.nd rfl (Or.inr rfl) (pv 1))
   (pss_cons (ps_for PassesOwn.never rfl (pi_list ((pv 0)).mono) (pg_name (i:=3) sc_lowest.nd rfl (Or.inl rfl))
    (pss_one (ps_set (i:=2) sc_lowest.nd rfl (Or.inr rfl) (pe_callF G_divisor (hr.mono (by decide)) (by rfl) (pa_cons (pv 3) (pa_cons (pv 2) pa_nil))))))
   (pss_one (ps_ret (pe_tup (pa_cons (pe_compGF (defScope s_lowest) ["tops", "bottom", "common", "top"] ["tops", "bottom", "common", "?top"] ["top"] rfl rfl rfl (by decide +kernel) (by decide +kernel) rfl (by decide +kernel) (by decide +kernel) (by decide +kernel) (by decide +kernel) (by decide +kernel) (pi_list ((pv 0)).mono) (fun _ _ _ _ _=>(pg_name (i:=0) (show List.Nodup (["top", "tops", "bottom", "common", "?top"] : List Str) from by decide +kernel) rfl (Or.inl rfl) (Or.inr rfl))) (fun _ _ _ _ _=>pts_nil) (fun _ _ _ _ _=>(pe_op op_fdivB (pv 0) (pv 3)))) (pa_cons (pe_op op_fdivB (pv 1) (pv 2)) pa_nil))))))),?_⟩
  unfold sp_divisor
  walk_at "rd"
  refine tFor_listM ?_
  walk_at "rd"
  refine ⟨_,hl,fun k σ' H'=>∃ u,σ' = [some (.ref l),some (.int b),some (.int (gcL (ts.take k) b)),u]∧H' = H,⟨none,rfl,rfl⟩,?_,?_⟩
  ·rintro k x σ' H' hk ⟨u,rfl,rfl⟩ _
   rw [List.getElem?_map] at hk
   cases er:ts[k]? with
   | none=>rw [er] at hk; cases hk
   | some t =>
    rw [er] at hk
    cases hk
    walk_at "rd"
    exact ⟨hl,(gcL_next er).symm⟩
  ·rintro σ' H' ⟨u,rfl,rfl⟩ _
   rw [take_map]
   have g0:=gcL_pos (ts:=ts) b0
   have gb:Bd (gcL ts b):=Nat.lt_of_le_of_lt (by have:=gcL_le (ts:=ts) b0; omega) bb
   walk_at "rd"
   refine tCompG1_list ?_
   walk_at "rd"
   refine ⟨_,hl,by rw [List.length_map]; exact Nat.le_trans h64 (by decide),fun D1 hD=>⟨iJ (fun t=>t / gcL ts b) ts D1 H',⟨rfl,rfl⟩,?_,?_⟩⟩
   ·rintro k x ys Hc hk j _ hlc
    rw [List.getElem?_map] at hk
    cases er:ts[k]? with
    | none=>rw [er] at hk; cases hk
    | some t =>
     rw [er] at hk
     cases hk
     refine ⟨t,rfl,by omega,gb,by rw [j.2]; exact upd_same,hlc,?_⟩
     rw [fdiv_pos _ g0]
     exact j.next er
   ·rintro ys Hc ⟨rfl,rfl⟩ _
    rw [take_map]
    refine ⟨by omega,gb,line2,fun p hp=>?_⟩
    rw [fdiv_pos _ g0]
    exact q _ _ ((Same.upd hD).trans (Same.upd hp)) ⟨p,D1,rfl,upd_same,Same.upd hp _ _ upd_same⟩
theorem two_of {α:Type} : ∀ {l:List α},l.length = 2→∃ a b,l = [a,b]
 | [a,b],_=>⟨a,b,rfl⟩
def zJ (f:Int→Int→Int) (ts us:List Int) (D:Addr) (H:Hp) (k:Nat) (zs:List V) (Hc:Hp):Prop:=zs = ((List.zipWith f ts us).take k).map V.int∧Same H Hc∧Hc D = some (.lst zs)
open Rw
abbrev NN:Nat:=10 ^ 200 * 10 ^ 200 * 10 ^ 200
theorem bdN3 {i:Int} (h:i.natAbs ≤ NN * NN * NN):Bd i:=Nat.lt_of_le_of_lt h (by decide +kernel)
theorem bdN {i:Int} (h:i.natAbs ≤ NN):Bd i:=bdN3 (Nat.le_trans h (by decide +kernel))
theorem bdN2 {i:Int} (h:i.natAbs ≤ NN * NN):Bd i:=bdN3 (Nat.le_trans h (by decide +kernel))
theorem mulN {a b:Int} {m n:Nat} (h1:a.natAbs ≤ m) (h2:b.natAbs ≤ n):(a * b).natAbs ≤ m * n:=by rw [Int.natAbs_mul]; exact Nat.mul_le_mul h1 h2
structure Fn (c:Int × Int):Prop where
 pos:0 < c.2
 sa:c.1.natAbs ≤ NN
 sb:c.2.natAbs ≤ NN
def sp_row_times15:Sp:=fun vs H Q _=>∃ (v:V) (c:Addr) (r:List Int × Int) (cc:Int × Int),vs = [v,.ref c]∧RowAt H v r∧H c = some (.tup [.int cc.1,.int cc.2])∧Fn cc∧Big NN r∧r.1.length ≤ 64∧∀ v' H',Same H H'→RowAt H' v' (redR (timesR r cc))→Q v' H'
theorem ok_row_times15 {f:Addr} {fd:FuncData} (F:Fun K nm_row_times nm_row_times s_row_times f fd) (T:Txt K mg D) (G_lowest:OkF P w K mg base 2 nm_lowest ps_lowest sp_plow):FnOk P w K mg base CX0 3 f fd ps_row_times sp_row_times15:=by
 refine F.ok sc_row_times (fun vs H Q E h=>?_) (fun cdv A outer s H vs Q E hr h=>?_)
 ·obtain ⟨v,c,r,cc,rfl,_⟩:=h
  rfl
 ·obtain ⟨v,c,r,cc,rfl,⟨t,l,rfl,ht,hl⟩,hc,fc,bn,h64,q⟩:=h
  refine ⟨_,(pss_one (ps_ret (pe_callF G_lowest (hr.mono (by decide)) (by rfl) (pa_cons (pe_compGF (defScope s_row_times) ["row", "often"] ["row", "often"] ["top"] rfl rfl rfl (by decide +kernel) (by decide +kernel) rfl (by decide +kernel) (by decide +kernel) (by decide +kernel) (by decide +kernel) (by decide +kernel) (pi_list ((pe_ix ix_tupH (pv 0) pe_int (fun _ _=>rfl))).mono) (fun _ _ _ _ _=>(pg_name (i:=0) (show List.Nodup (["top", "row", "often"] : List Str) from by decide +kernel) rfl (Or.inl rfl) (Or.inr rfl))) (fun _ _ _ _ _=>pts_nil) (fun _ _ _ _ _=>(pe_op op_mulB (pv 0) (pe_ix ix_tupH (pv 2) pe_int (fun _ _=>rfl))))) (pa_cons (pe_op op_mulB (pe_ix ix_tupH (pv 0) pe_int (fun _ _=>rfl)) (pe_ix ix_tupH (pv 1) pe_int (fun _ _=>rfl))) pa_nil))))),?_⟩
  unfold sp_plow
  walk_at "rd"
  refine tCompG1_list ?_
  walk_at "rd"
  refine ⟨_,ht,_,atI_0,l,rfl,_,hl,by rw [List.length_map]; exact Nat.le_trans h64 (by decide),fun D1 hD=>⟨iJ (fun t=>t * cc.1) r.1 D1 H,⟨rfl,rfl⟩,?_,?_⟩⟩
  ·rintro k x ys Hc hk j _ hlc
   have S:Same H Hc:=by rw [j.2]; exact Same.upd hD
   rw [List.getElem?_map] at hk
   cases er:r.1[k]? with
   | none=>rw [er] at hk; cases hk
   | some t0 =>
    rw [er] at hk
    cases hk
    exact ⟨_,S _ _ hc,_,atI_0,t0,rfl,_,rfl,bdN (bn.top _ (List.mem_of_getElem? er)),bdN fc.sa,by rw [j.2]; exact upd_same,hlc,j.next er⟩
  ·rintro ys Hc ⟨rfl,rfl⟩ _
   rw [take_map]
   exact ⟨_,Same.upd hD _ _ ht,_,atI_1,_,Same.upd hD _ _ hc,_,atI_1,_,rfl,_,rfl,bdN bn.bot,bdN fc.sb,r.1.map fun t=>t * cc.1,upd_same,by rw [List.length_map]; exact h64,Int.mul_pos bn.pos fc.pos,bdN2 (mulN bn.bot fc.sb),fun v' H' S ro=>q v' H' ((Same.upd hD).trans S) ro⟩
def sp_row_plus15:Sp:=fun vs H Q _=>∃ (v o:V) (c:Addr) (r ro:List Int × Int) (cc:Int × Int),vs = [v,o,.ref c]∧RowAt H v r∧RowAt H o ro∧H c = some (.tup [.int cc.1,.int cc.2])∧Fn cc∧Big NN r∧Big NN ro∧r.1.length ≤ 64∧r.1.length = ro.1.length∧∀ v' H',Same H H'→RowAt H' v' (redR (plusR r ro cc))→Q v' H'
theorem ok_row_plus15 {f:Addr} {fd:FuncData} (F:Fun K nm_row_plus nm_row_plus s_row_plus f fd) (T:Txt K mg D) (G_divisor:OkF P w K mg base 1 nm_divisor ps_divisor sp_divisor) (G_lowest:OkF P w K mg base 2 nm_lowest ps_lowest sp_plow):FnOk P w K mg base CX0 3 f fd ps_row_plus sp_row_plus15:=by
 refine F.ok sc_row_plus (fun vs H Q E h=>?_) (fun cdv A outer s H vs Q E hr h=>?_)
 ·obtain ⟨v,o,c,r,ro,cc,rfl,_⟩:=h
  rfl
 ·obtain ⟨v,o,c,r,ro,cc,rfl,⟨t,l,rfl,ht,hl⟩,⟨t2,l2,rfl,ht2,hl2⟩,hc,fc,bn,bn2,h64,hlen,q⟩:=h
  refine ⟨_,(pss_cons (ps_set (i:=3) sc_row_plus.nd rfl (Or.inl rfl) (pe_op op_mulB (pe_ix ix_tupH (pv 1) pe_int (fun _ _=>rfl)) (pe_ix ix_tupH (pv 2) pe_int (fun _ _=>rfl))))
   (pss_cons (ps_set (i:=4) sc_row_plus.nd rfl (Or.inl rfl) (pe_callF G_divisor (hr.mono (by decide)) (by rfl) (pa_cons (pe_ix ix_tupH (pv 0) pe_int (fun _ _=>rfl)) (pa_cons (pv 3) pa_nil))))
   (pss_cons (ps_set (i:=5) sc_row_plus.nd rfl (Or.inr rfl) (pe_op op_fdivB (pv 3) (pv 4)))
   (pss_cons (ps_set (i:=6) sc_row_plus.nd rfl (Or.inr rfl) (pe_op op_mulB (pe_op op_fdivB (pe_ix ix_tupH (pv 0) pe_int (fun _ _=>rfl)) (pv 4)) (pe_ix ix_tupH (pv 2) pe_int (fun _ _=>rfl))))
   (pss_cons (ps_compGF (defScope s_row_plus) ["row", "other", "often", "bottom", "common", "own", "added", "tops"] ["row", "other", "often", "bottom", "common", "own", "added", "tops"] ["one", "another"] rfl rfl rfl (by decide +kernel) (by decide +kernel) rfl (by decide +kernel) (by decide +kernel) (by decide +kernel) (by decide +kernel) (by decide +kernel) (pi_zip (by rfl) T.b_zip (pa_cons (pe_ix ix_tupH (pv 0) pe_int (fun _ _=>rfl)) (pa_cons (pe_ix ix_tupH (pv 1) pe_int (fun _ _=>rfl)) pa_nil)).mono) (fun _ _ _ _ _=>(pg_tupH (n:=2) rfl (pgs_cons (pg_name (i:=0) (show List.Nodup (["one", "another", "row", "other", "often", "bottom", "common", "own", "added", "tops"] : List Str) from by decide +kernel) rfl (Or.inl rfl) (Or.inr rfl)) (pgs_cons (pg_name (i:=1) (show List.Nodup (["one", "another", "row", "other", "often", "bottom", "common", "own", "added", "tops"] : List Str) from by decide +kernel) rfl (Or.inl rfl) (Or.inr rfl)) pgs_nil)))) (fun _ _ _ _ _=>pts_nil) (fun _ _ _ _ _=>(pe_op op_add (pe_op op_mulB (pv 0) (pv 7)) (pe_op op_mulB (pv 1) (pv 8)))) (pg_name (i:=7) sc_row_plus.nd rfl (Or.inl rfl)))
   (pss_one (ps_ret (pe_callF G_lowest (hr.mono (by decide)) (by rfl) (pa_cons (pv 7) (pa_cons (pe_op op_mulB (pe_ix ix_tupH (pv 0) pe_int (fun _ _=>rfl)) (pv 5)) pa_nil)))))))))),?_⟩
  unfold sp_plow sp_divisor
  walk_at "rd"
  have hB:=Int.mul_pos bn2.pos fc.pos
  have g0:=gcd_pos (a:=r.2) (b:=ro.2 * cc.2) (by omega)
  have bB:(ro.2 * cc.2).natAbs ≤ NN * NN:=mulN bn2.bot fc.sb
  have gB:=gcd_bd (a:=r.2) (b:=ro.2 * cc.2) (by omega) (bdN2 bB)
  refine ⟨_,ht2,_,atI_1,_,hc,_,atI_1,_,rfl,_,rfl,bdN bn2.bot,bdN fc.sb,_,ht,_,atI_1,_,rfl,by omega,gB,_,ht,_,atI_1,_,rfl,by omega,gB,_,hc,_,atI_0,_,rfl,?_⟩
  rw [fdiv_pos _ g0,fdiv_pos _ g0]
  have ow:(ro.2 * cc.2 / ((Int.gcd r.2 (ro.2 * cc.2):Nat):Int)).natAbs ≤ NN * NN:=Nat.le_trans (Int.natAbs_ediv_le_natAbs _ _) bB
  have ad:(r.2 / ((Int.gcd r.2 (ro.2 * cc.2):Nat):Int)).natAbs ≤ NN:=Nat.le_trans (Int.natAbs_ediv_le_natAbs _ _) bn.bot
  have ow0:0 < ro.2 * cc.2 / ((Int.gcd r.2 (ro.2 * cc.2):Nat):Int):=Int.ediv_pos_of_pos_of_dvd hB (Int.le_of_lt g0) (Int.gcd_dvd_right _ _)
  have es:plusR r ro cc = (List.zipWith (fun a b=>a * (ro.2 * cc.2 / ((Int.gcd r.2 (ro.2 * cc.2):Nat):Int)) + b * (r.2 / ((Int.gcd r.2 (ro.2 * cc.2):Nat):Int) * cc.1)) r.1 ro.1,r.2 * (ro.2 * cc.2 / ((Int.gcd r.2 (ro.2 * cc.2):Nat):Int))):=rfl
  rw [es] at q
  generalize ro.2 * cc.2 / ((Int.gcd r.2 (ro.2 * cc.2):Nat):Int) = own at *
  generalize r.2 / ((Int.gcd r.2 (ro.2 * cc.2):Nat):Int) = adb at *
  refine ⟨bdN ad,bdN fc.sa,tCompG_zip ?_⟩
  walk_at "rd"
  have adc:(adb * cc.1).natAbs ≤ NN * NN:=mulN ad fc.sa
  refine ⟨_,ht,_,atI_0,_,ht2,_,atI_0,l,rfl,l2,rfl,_,hl,_,hl2,by rw [List.length_map,List.length_map]; exact hlen,by rw [List.length_map]; exact h64,fun D1 hD=>⟨zJ (fun a b=>a * own + b * (adb * cc.1)) r.1 ro.1 D1 H,⟨rfl,Same.upd hD,upd_same⟩,?_,?_⟩⟩
  ·rintro k x5 y5 zs Hc t1 hx hy ⟨rfl,Sc,hD1⟩ _ ht1 ha hb pre hpre
   obtain ⟨u0,u1,rfl⟩:=two_of hpre
   rw [List.getElem?_map] at hx hy
   cases er:r.1[k]? with
   | none=>rw [er] at hx; cases hx
   | some t0 =>
    cases er2:ro.1[k]? with
    | none=>rw [er2] at hy; cases hy
    | some t2' =>
     rw [er] at hx
     rw [er2] at hy
     cases hx
     cases hy
     have T1:Same Hc (upd Hc t1 (.tup [.int t0,.int t2'])):=Same.upd ht1
     walk_at "rd"
     refine ⟨[some (.int t0),some (.int t2')],rfl,rfl,bdN (bn.top _ (List.mem_of_getElem? er)),bdN2 ow,bdN (bn2.top _ (List.mem_of_getElem? er2)),bdN2 adc,T1 _ _ hD1,T1 _ _ ha,T1 _ _ hb,?_,?_,upd_same⟩
     ·have e:(List.zipWith (fun a b=>a * own + b * (adb * cc.1)) r.1 ro.1)[k]? = some (t0 * own + t2' * (adb * cc.1)):=by rw [List.getElem?_zipWith,er,er2]
      rw [take_next e,List.map_append]; rfl
     ·intro b' o' e'
      rw [upd_ne (ne_of_none e' hD)]
      exact T1 _ _ (Sc _ _ e')
  ·rintro zs Hc ⟨rfl,Sc,hD1⟩ _
   have ek:(List.zipWith (fun a b=>a * own + b * (adb * cc.1)) r.1 ro.1).take (r.1.map V.int).length = List.zipWith (fun a b=>a * own + b * (adb * cc.1)) r.1 ro.1:=List.take_of_length_le (by rw [List.length_zipWith,List.length_map]; omega)
   rw [ek] at hD1
   have bm:(r.2 * own).natAbs ≤ NN * (NN * NN):=mulN bn.bot ow
   exact ⟨_,Sc _ _ ht,_,atI_1,_,rfl,bdN bn.bot,bdN2 ow,_,hD1,by rw [List.length_zipWith]; omega,Int.mul_pos bn.pos ow0,bdN3 (Nat.le_trans bm (by rw [Nat.mul_assoc]; exact Nat.le_refl _)),fun v' H' S ro=>q v' H' (Sc.trans S) ro⟩
open Rw
inductive Stp
 | swap (i j:Nat)
 | times (i:Nat) (c:Int × Int)
 | add (i j:Nat) (c:Int × Int)
def StpAt (H:Hp) (v:V):Stp→Prop
 | .swap i j=>∃ t,v = .ref t∧H t = some (.tup [.str (Str.ofString "swap"),.int i,.int j])
 | .times i c=>∃ t a,v = .ref t∧H t = some (.tup [.str (Str.ofString "times"),.int i,.ref a])∧H a = some (.tup [.int c.1,.int c.2])
 | .add i j c=>∃ t a,v = .ref t∧H t = some (.tup [.str (Str.ofString "add"),.int i,.int j,.ref a])∧H a = some (.tup [.int c.1,.int c.2])
theorem StpAt.imp {H H':Hp} (h:∀ t ys,H t = some (.tup ys)→H' t = some (.tup ys)) {v:V} : ∀ {s:Stp},StpAt H v s→StpAt H' v s
 | .swap _ _,⟨t,e,a⟩=>⟨t,e,h _ _ a⟩
 | .times _ _,⟨t,a,e,b,c⟩=>⟨t,a,e,h _ _ b,h _ _ c⟩
 | .add _ _ _,⟨t,a,e,b,c⟩=>⟨t,a,e,h _ _ b,h _ _ c⟩
abbrev Row:=List Int × Int
def rowAt (rs:List Row) (i:Nat):Row:=rs.getD i ([],1)
def stepR (rs:List Row):Stp→List Row
 | .swap i j=>(rs.set i (rowAt rs j)).set j (rowAt rs i)
 | .times i c=>rs.set i (redR (timesR (rowAt rs i) c))
 | .add i j c=>rs.set i (redR (plusR (rowAt rs i) (rowAt rs j) c))
structure LR (H:Hp) (xs:List V) (rs:List Row):Prop where
 len:xs.length = rs.length
 at_:∀ (k:Nat) (v:V),xs[k]? = some v→RowAt H v (rowAt rs k)
theorem LR.same {H H':Hp} {xs:List V} {rs:List Row} (h:LR H xs rs) (S:Same H H'):LR H' xs rs:=⟨h.len,fun k v e=>(h.at_ k v e).same S⟩
theorem LR.ne {H:Hp} {xs:List V} {rs:List Row} {l:Addr} (h:LR H xs rs) (hl:H l = some (.lst xs)) (h0:0 < rs.length) {lr:Addr} {ts:List Int} (e:H lr = some (.lst (ts.map V.int))):lr ≠ l:=by
 intro z
 subst z
 rw [hl] at e
 have e:xs = ts.map V.int:=by injection (Option.some.inj e)
 have hx:0 < xs.length:=by rw [h.len]; exact h0
 obtain ⟨t,l,ev,_⟩:=h.at_ 0 _ (List.getElem?_eq_getElem hx)
 have:xs[0]? = some (.ref t):=by rw [List.getElem?_eq_getElem hx,ev]
 rw [e,List.getElem?_map] at this
 cases ht:ts[0]? with
 | none=>rw [ht] at this; cases this
 | some i=>rw [ht] at this; cases this
theorem RowAt.updL {H:Hp} {l:Addr} {xs zs:List V} (hl:H l = some (.lst xs)) {v:V} {r:Row} (h:RowAt H v r) (ne:∀ lr ts,H lr = some (.lst (List.map V.int ts))→lr ≠ l):RowAt (upd H l (.lst zs)) v r:=by
 obtain ⟨t,lr,e,a,b⟩:=h
 exact ⟨t,lr,e,(upd_ne (ne_of a hl (by intro z; cases z))).trans a,(upd_ne (ne _ _ b)).trans b⟩
theorem rowAt_set {rs:List Row} {i k:Nat} {r:Row} (hi:i < rs.length):rowAt (rs.set i r) k = if k = i then r else rowAt rs k:=by
 unfold rowAt
 rw [List.getD_eq_getElem?_getD,List.getD_eq_getElem?_getD,List.getElem?_set]
 by_cases e:k = i
 ·subst e; rw [if_pos rfl,if_pos hi,if_pos rfl]; rfl
 ·rw [if_neg (fun z=>e z.symm),if_neg e]
theorem LR.set {H:Hp} {xs:List V} {rs:List Row} (h:LR H xs rs) {i:Nat} (hi:i < rs.length) {v:V} {r:Row} (hv:RowAt H v r):LR H (xs.set i v) (rs.set i r):=by
 refine ⟨by rw [List.length_set,List.length_set,h.len],fun k u e=>?_⟩
 rw [rowAt_set hi]
 rw [List.getElem?_set] at e
 by_cases ek:k = i
 ·subst ek
  rw [if_pos rfl,if_pos (by rw [h.len]; exact hi)] at e
  cases e
  rw [if_pos rfl]
  exact hv
 ·rw [if_neg (fun z=>ek z.symm)] at e
  rw [if_neg ek]
  exact h.at_ k u e
theorem LR.updL {H:Hp} {l:Addr} {xs zs:List V} (hl:H l = some (.lst xs)) (ne:∀ lr ts,H lr = some (.lst (List.map V.int ts))→lr ≠ l) {ys:List V} {rs:List Row} (h:LR H ys rs):LR (upd H l (.lst zs)) ys rs:=⟨h.len,fun k v e=>(h.at_ k v e).updL hl ne⟩
def KeepL (l:Addr) (H H':Hp):Prop:=∀ b o,b ≠ l→H b = some o→H' b = some o
def StpN (n:Nat):Stp→Prop
 | .swap i j=>i < n∧j < n
 | .times i c=>i < n∧Fn c
 | .add i j c=>i < n∧j < n∧Fn c
def sp_take_step15:Sp:=fun vs H Q _=>∃ (l:Addr) (sv:V) (xs:List V) (rs:List Row) (st:Stp) (wd:Nat),vs = [.ref l,sv]∧H l = some (.lst xs)∧LR H xs rs∧StpAt H sv st∧StpN rs.length st∧(∀ r ∈ rs,Big NN r∧r.1.length = wd)∧wd ≤ 64 ∧
 ∀ H' xs',KeepL l H H'→H' l = some (.lst xs')→LR H' xs' (stepR rs st)→Q .non H'
theorem ok_take_step15 {f:Addr} {fd:FuncData} (F:Fun K nm_take_step nm_take_step s_take_step f fd) (T:Txt K mg D) (G_row_times:OkF P w K mg base 3 nm_row_times ps_row_times sp_row_times15) (G_row_plus:OkF P w K mg base 3 nm_row_plus ps_row_plus sp_row_plus15):FnOk P w K mg base CX0 4 f fd ps_take_step sp_take_step15:=by
 refine F.ok sc_take_step (fun vs H Q E h=>?_) (fun cdv A outer s H vs Q E hr h=>?_)
 ·obtain ⟨l,sv,xs,rs,st,wd,rfl,_⟩:=h
  rfl
 ·obtain ⟨l,sv,xs,rs,st,wd,rfl,hl,lr,sa,so,bn,h64,q⟩:=h
  have tne:∀ t ys zs,H t = some (.tup ys)→upd H l (.lst zs) t = some (.tup ys):=fun t ys zs e=>(upd_ne (ne_of e hl (by intro z; cases z))).trans e
  have mem:∀ i,i < rs.length→Big NN (rowAt rs i)∧(rowAt rs i).1.length = wd:=fun i hi=>by
   have:rowAt rs i ∈ rs:=by unfold rowAt; rw [List.getD_eq_getElem?_getD,List.getElem?_eq_getElem hi]; exact List.getElem_mem hi
   exact bn _ this
  have get:∀ i,i < rs.length→∃ v,xs[i]? = some v∧RowAt H v (rowAt rs i):=fun i hi=>by
   have:i < xs.length:=by rw [lr.len]; exact hi
   exact ⟨_,List.getElem?_eq_getElem this,lr.at_ i _ (List.getElem?_eq_getElem this)⟩
  have ixn:∀ (zs:List V) (i:Nat),zs.length = rs.length→i < rs.length→ixN zs.length (i:Int) = some i:=fun zs i e hi=>by
   unfold ixN
   rw [if_pos (by omega),if_pos (by omega),Int.toNat_natCast]
  refine ⟨_,(pss_cons (ps_set (i:=2) sc_take_step.nd rfl (Or.inl rfl) (pe_ix ix_listH (pv 0) (pe_ix ix_tupH (pv 1) pe_int (fun _ _=>rfl)) (fun _ _=>rfl)))
   (pss_one (ps_if (pt_cmpR op_eq (pe_ix ix_tupH (pv 1) pe_int (fun _ _=>rfl)) pe_str (nomark _))
    (pss_cons (ps_asg (pe_ix ix_listH (pv 0) (pe_ix ix_tupH (pv 1) pe_int (fun _ _=>rfl)) (fun _ _=>rfl)) (pg_sub (pv 0) (pe_ix ix_tupH (pv 1) pe_int (fun _ _=>rfl)) set_list))
    (pss_one (ps_asg (pv 2) (pg_sub (pv 0) (pe_ix ix_tupH (pv 1) pe_int (fun _ _=>rfl)) set_list))))
    (pss_one (ps_if (pt_cmpR op_eq (pe_ix ix_tupH (pv 1) pe_int (fun _ _=>rfl)) pe_str (nomark _))
     (pss_one (ps_asg (pe_callF G_row_times (hr.mono (by decide)) (by rfl) (pa_cons (pv 2) (pa_cons (pe_ix ix_tupH (pv 1) pe_int (fun _ _=>rfl)) pa_nil))) (pg_sub (pv 0) (pe_ix ix_tupH (pv 1) pe_int (fun _ _=>rfl)) set_list)))
     (pss_one (ps_asg (pe_callF G_row_plus (hr.mono (by decide)) (by rfl) (pa_cons (pv 2) (pa_cons (pe_ix ix_listH (pv 0) (pe_ix ix_tupH (pv 1) pe_int (fun _ _=>rfl)) (fun _ _=>rfl)) (pa_cons (pe_ix ix_tupH (pv 1) pe_int (fun _ _=>rfl)) pa_nil)))) (pg_sub (pv 0) (pe_ix ix_tupH (pv 1) pe_int (fun _ _=>rfl)) set_list)))))))),?_⟩
  have s1:¬ Str.ofString "times" = Str.ofString "swap" := by decide +kernel
  have s2:¬ Str.ofString "add" = Str.ofString "swap" := by decide +kernel
  have s3:¬ Str.ofString "add" = Str.ofString "times" := by decide +kernel
  cases st with
  | swap i j =>
   obtain ⟨t,rfl,ht⟩:=sa
   obtain ⟨hi,hj⟩:=so
   obtain ⟨v,ev,rv⟩:=get i hi
   obtain ⟨u,eu,ru⟩:=get j hj
   refine ⟨_,rfl,_,rfl,t,_,1,_,rfl,rfl,ht,atI_1,l,xs,i,v,rfl,rfl,hl,atI_nat ev,_,rfl,t,_,0,_,rfl,rfl,ht,atI_0,rfl,_,rfl,ite2 (fun _=>?_) fun h=>absurd (decide_eq_true rfl) h⟩
   refine ⟨_,rfl,_,rfl,t,_,2,_,rfl,rfl,ht,atI_nat (j:=2) rfl,l,xs,j,u,rfl,rfl,hl,atI_nat eu,_,rfl,_,rfl,t,_,1,_,rfl,rfl,ht,atI_1,l,xs,i,i,rfl,rfl,hl,ixn xs i lr.len hi,_,rfl,_,rfl,_,rfl,t,_,2,_,rfl,rfl,tne _ _ _ ht,atI_nat (j:=2) rfl,l,_,j,j,rfl,rfl,upd_same,ixn _ j (by rw [List.length_set]; exact lr.len) hj,?_⟩
   rw [upd_upd]
   refine q _ _ (fun b o hb e=>(upd_ne hb).trans e) upd_same (LR.updL hl (fun lr' ts e=>lr.ne hl (by omega) e) ?_)
   exact (lr.set hi ru).set (by rw [List.length_set]; exact hj) rv
  | times i c =>
   obtain ⟨t,a,rfl,ht,ha⟩:=sa
   obtain ⟨hi,sc⟩:=so
   obtain ⟨v,ev,rv⟩:=get i hi
   refine ⟨_,rfl,_,rfl,t,_,1,_,rfl,rfl,ht,atI_1,l,xs,i,v,rfl,rfl,hl,atI_nat ev,_,rfl,t,_,0,_,rfl,rfl,ht,atI_0,rfl,_,rfl,ite2 (fun h=>absurd (V.str.inj (of_decide_eq_true h)) s1) fun _=>⟨_,rfl,t,_,0,_,rfl,rfl,ht,atI_0,rfl,_,rfl,ite2 (fun _=>?_) fun h=>absurd (decide_eq_true rfl) h⟩⟩
   refine ⟨_,rfl,_,rfl,t,_,2,_,rfl,rfl,ht,atI_nat (j:=2) rfl,v,a,_,c,rfl,rv,ha,sc,(mem i hi).1,by rw [(mem i hi).2]; exact h64,fun v' H' S ro=>⟨_,rfl,_,rfl,t,_,1,_,rfl,rfl,S _ _ ht,atI_1,l,xs,i,i,rfl,rfl,S _ _ hl,ixn xs i lr.len hi,?_⟩⟩
   refine q _ _ (fun b o hb e=>(upd_ne hb).trans (S _ _ e)) upd_same (LR.updL (S _ _ hl) (fun lr' ts e=>(lr.same S).ne (S _ _ hl) (by omega) e) ?_)
   exact (lr.same S).set hi ro
  | add i j c =>
   obtain ⟨t,a,rfl,ht,ha⟩:=sa
   obtain ⟨hi,hj,sc⟩:=so
   obtain ⟨v,ev,rv⟩:=get i hi
   obtain ⟨u,eu,ru⟩:=get j hj
   refine ⟨_,rfl,_,rfl,t,_,1,_,rfl,rfl,ht,atI_1,l,xs,i,v,rfl,rfl,hl,atI_nat ev,_,rfl,t,_,0,_,rfl,rfl,ht,atI_0,rfl,_,rfl,ite2 (fun h=>absurd (V.str.inj (of_decide_eq_true h)) s2) fun _=>⟨_,rfl,t,_,0,_,rfl,rfl,ht,atI_0,rfl,_,rfl,ite2 (fun h=>absurd (V.str.inj (of_decide_eq_true h)) s3) fun _=>?_⟩⟩
   refine ⟨_,rfl,_,rfl,_,rfl,t,_,2,_,rfl,rfl,ht,atI_nat (j:=2) rfl,l,xs,j,u,rfl,rfl,hl,atI_nat eu,_,rfl,t,_,3,_,rfl,rfl,ht,atI_nat (j:=3) rfl,v,u,a,_,_,c,rfl,rv,ru,ha,sc,(mem i hi).1,(mem j hj).1,by rw [(mem i hi).2]; exact h64,by rw [(mem i hi).2,(mem j hj).2],fun v' H' S ro=>⟨_,rfl,_,rfl,t,_,1,_,rfl,rfl,S _ _ ht,atI_1,l,xs,i,i,rfl,rfl,S _ _ hl,ixn xs i lr.len hi,?_⟩⟩
   refine q _ _ (fun b o hb e=>(upd_ne hb).trans (S _ _ e)) upd_same (LR.updL (S _ _ hl) (fun lr' ts e=>(lr.same S).ne (S _ _ hl) (by omega) e) ?_)
   exact (lr.same S).set hi ro
open Rw
def sp_number_at:Sp:=fun vs H Q _=>∃ (v:V) (r:List Int × Int) (k:Nat) (t:Int),vs = [v,.int k]∧RowAt H v r∧r.1[k]? = some t∧Big NN r∧∀ p,H p = none→Q (.ref p) (upd H p (.tup [.int (Ac.lw t r.2).1,.int (Ac.lw t r.2).2]))
theorem ok_number_at {f:Addr} {fd:FuncData} (F:Fun K nm_number_at nm_number_at s_number_at f fd) (T:Txt K mg D) (G_ratio:OkF P w K mg base 2 nm_ratio ps_ratio sp_ratio):FnOk P w K mg base CX0 3 f fd ps_number_at sp_number_at:=by
 refine F.ok sc_number_at (fun vs H Q E h=>?_) (fun cdv A outer s H vs Q E hr h=>?_)
 ·obtain ⟨v,r,k,t,rfl,_⟩:=h
  rfl
 ·obtain ⟨v,r,k,t,rfl,⟨a,l,rfl,ha,hl⟩,hk,bn,q⟩:=h
  refine ⟨_,(pss_one (ps_ret (pe_callF G_ratio (hr.mono (by decide)) (by rfl) (pa_cons (pe_ix ix_listH (pe_ix ix_tupH (pv 0) pe_int (fun _ _=>rfl)) (pv 1) (fun _ _=>rfl)) (pa_cons (pe_ix ix_tupH (pv 0) pe_int (fun _ _=>rfl)) pa_nil))))),?_⟩
  unfold sp_ratio
  walk_at "rd"
  refine ⟨_,ha,_,atI_0,l,rfl,_,hl,_,atI_nat (j:=k) (by rw [List.getElem?_map,hk]; rfl),_,ha,_,atI_1,t,rfl,_,rfl,by have:=bn.pos; omega,bdN bn.bot,fun p x y lo hp=>?_⟩
  obtain ⟨ex,ey⟩:=Ac.is_lw (t:=t) (b:=r.2) bn.pos lo.pos lo.gcd lo.eq
  rw [ex,ey]
  exact q p hp
theorem RowAt.upd1 {H:Hp} {l:Addr} {ys zs:List V} (hl:H l = some (.lst ys)) {v:V} {r:Row} (h:RowAt H v r) (ne:ys ≠ r.1.map V.int):RowAt (upd H l (.lst zs)) v r:=by
 obtain ⟨t,lr,e,a,b⟩:=h
 have n1:lr ≠ l:=fun z=>by
  subst z
  rw [hl] at b
  exact ne (by injection (Option.some.inj b))
 exact ⟨t,lr,e,(upd_ne (ne_of a hl (by intro z; cases z))).trans a,(upd_ne n1).trans b⟩
theorem LR.upd1 {H:Hp} {l:Addr} {xs ys zs:List V} {rs:List Row} (h:LR H xs rs) (hl:H l = some (.lst ys)) (ne:∀ r ∈ rs,ys ≠ r.1.map V.int):LR (upd H l (.lst zs)) xs rs:=⟨h.len,fun k v e=>(h.at_ k v e).upd1 hl (ne _ (by
 have hk:k < rs.length:=by rw [← h.len]; exact (List.getElem?_eq_some_iff.mp e).1
 unfold rowAt
 rw [List.getD_eq_getElem?_getD,List.getElem?_eq_getElem hk]
 exact List.getElem_mem hk))⟩
theorem rowAt_in {rs:List Row} {i:Nat} (h:i < rs.length):rowAt rs i ∈ rs:=by
 unfold rowAt
 rw [List.getD_eq_getElem?_getD,List.getElem?_eq_getElem h]; exact List.getElem_mem h
theorem stepR_len {rs:List Row} {st:Stp} {wd:Nat} (h:∀ r ∈ rs,r.1.length = wd) (ok:StpN rs.length st):∀ r ∈ stepR rs st,r.1.length = wd:=by
 intro r hr
 cases st with
 | swap i j =>
  rcases List.mem_or_eq_of_mem_set hr with z | z
  ·rcases List.mem_or_eq_of_mem_set z with z | z
   ·exact h r z
   ·rw [z]; exact h _ (rowAt_in ok.2)
  ·rw [z]; exact h _ (rowAt_in ok.1)
 | times i c =>
  rcases List.mem_or_eq_of_mem_set hr with z | z
  ·exact h r z
  ·rw [z,red_len]; unfold timesR; rw [List.length_map]; exact h _ (rowAt_in ok.1)
 | add i j c =>
  rcases List.mem_or_eq_of_mem_set hr with z | z
  ·exact h r z
  ·rw [z,red_len]; unfold plusR; rw [List.length_zipWith,h _ (rowAt_in ok.1),h _ (rowAt_in ok.2.1),Nat.min_self]
def sp_go_on:Sp:=fun vs H Q _=>∃ (l ls:Addr) (sv:V) (xs ys:List V) (rs:List Row) (st:Stp) (wd:Nat),vs = [.ref l,.ref ls,sv]∧H l = some (.lst xs)∧LR H xs rs∧H ls = some (.lst ys)∧ys.length ≤ 1000∧ls ≠ l∧(∀ ts:List Int,ts.length = wd→ys ≠ ts.map V.int)∧StpAt H sv st∧StpN rs.length st∧(∀ r ∈ rs,Big NN r∧r.1.length = wd)∧wd ≤ 64 ∧
 ∀ H' xs',(∀ b o,b ≠ l→b ≠ ls→H b = some o→H' b = some o)→H' l = some (.lst xs')→LR H' xs' (stepR rs st)→H' ls = some (.lst (ys ++ [sv]))→Q .non H'
theorem ok_go_on {f:Addr} {fd:FuncData} (F:Fun K nm_go_on nm_go_on s_go_on f fd) (T:Txt K mg D) (G_take_step:OkF P w K mg base 4 nm_take_step ps_take_step sp_take_step15):FnOk P w K mg base CX0 5 f fd ps_go_on sp_go_on:=by
 refine F.ok sc_go_on (fun vs H Q E h=>?_) (fun cdv A outer s H vs Q E hr h=>?_)
 ·obtain ⟨l,ls,sv,xs,ys,rs,st,wd,rfl,_⟩:=h
  rfl
 ·obtain ⟨l,ls,sv,xs,ys,rs,st,wd,rfl,hl,lr,hls,hy,ne,nv,sa,so,bn,h64,q⟩:=h
  refine ⟨_,(pss_cons (ps_expr (pe_callF G_take_step (hr.mono (by decide)) (by rfl) (pa_cons (pv 0) (pa_cons (pv 2) pa_nil))))
   (pss_one (ps_expr (pe_app (pv 1) (pa_cons (pv 2) pa_nil))))),?_⟩
  unfold sp_take_step15
  walk_at "rd"
  refine ⟨xs,hl,rs,lr,st,sa,so,wd,bn,h64,fun H1 xs1 kp h1 lr1=>?_⟩
  have e1:=kp _ _ ne hls
  refine ⟨⟨_,e1⟩,ys,e1,Nat.lt_of_le_of_lt hy (by decide),?_⟩
  refine q _ xs1 (fun b o hb hb2 e=>(upd_ne hb2).trans (kp _ _ hb e)) ((upd_ne ne.symm).trans h1) (lr1.upd1 e1 fun r hr=>nv _ (stepR_len (fun r hr=>(bn r hr).2) so r hr)) upd_same
open Rw
def topAt (rs:List Row) (i k:Nat):Int:=(rowAt rs i).1.getD k 0
def sp_first_from:Sp:=fun vs H Q _=>∃ (l:Addr) (xs:List V) (rs:List Row) (p k wd:Nat),vs = [.ref l,.int p,.int k]∧H l = some (.lst xs)∧LR H xs rs∧(∀ r ∈ rs,r.1.length = wd)∧k < wd∧p ≤ rs.length∧rs.length ≤ 64 ∧
 (∀ i:Nat,p ≤ i→i < rs.length→topAt rs i k ≠ 0→(∀ j,p ≤ j→j < i→topAt rs j k = 0)→Q (.int i) H)∧((∀ j,p ≤ j→j < rs.length→topAt rs j k = 0)→Q .non H)
def jF (l:Addr) (p k:Nat) (rs:List Row) (H:Hp) (n:Nat) (σ:L2.St) (H':Hp):Prop:=∃ u,σ = [some (.ref l),some (.int p),some (.int k),u]∧H' = H∧∀ j,p ≤ j→j < p + n→topAt rs j k = 0
theorem ok_first_from {f:Addr} {fd:FuncData} (F:Fun K nm_first_from nm_first_from s_first_from f fd) (T:Txt K mg D):FnOk P w K mg base CX0 1 f fd ps_first_from sp_first_from:=by
 refine F.ok sc_first_from (fun vs H Q E h=>?_) (fun cdv A outer s H vs Q E hr h=>?_)
 ·obtain ⟨l,xs,rs,p,k,wd,rfl,_⟩:=h
  rfl
 ·obtain ⟨l,xs,rs,p,k,wd,rfl,hl,lr,hw,hk,hp,h64,q1,q2⟩:=h
  refine ⟨_,(pss_cons (ps_for PassesOwn.never rfl (pi_range2 (by rfl) T.b_range (pa_cons (pv 1) (pa_cons (pe_callB call_lenL (by rfl) T.b_len PySem.boot_len (pa_cons (pv 0) pa_nil)) pa_nil)).mono) (pg_name (i:=3) sc_first_from.nd rfl (Or.inl rfl))
    (pss_one (ps_if (pt_cmpR op_ne (pe_ix ix_listH (pe_ix ix_tupH (pe_ix ix_listH (pv 0) (pv 3) (fun _ _=>rfl)) pe_int (fun _ _=>rfl)) (pv 2) (fun _ _=>rfl)) pe_int (nomark _))
     (pss_one (ps_ret (pv 3)))
     pss_nil)))
   (pss_one (ps_ret pe_non))),?_⟩
  walk_at "rd"
  refine tFor_rng2M ?_
  walk_at "rd"
  refine ⟨xs,hl,?_⟩
  have hx:=lr.len
  refine ⟨by omega,by omega,jF l p k rs H,⟨none,rfl,rfl,fun j h1 h2=>absurd h2 (by omega)⟩,?_,?_⟩
  ·rintro n σ' H' hn ⟨u,rfl,rfl,hz⟩
   have hi:p + n < rs.length:=by omega
   have hix:p + n < xs.length:=by omega
   obtain ⟨t,lr',ev,ht,hl'⟩:=lr.at_ (p + n) _ (List.getElem?_eq_getElem hix)
   have e1:=atI_nat (List.getElem?_eq_getElem hix)
   rw [ev,Int.natCast_add] at e1
   have hm:rowAt rs (p + n) ∈ rs:=rowAt_in hi
   have hkl:k < (rowAt rs (p + n)).1.length:=by rw [hw _ hm]; exact hk
   have et:(rowAt rs (p + n)).1[k]? = some (topAt rs (p + n) k):=by unfold topAt; rw [List.getD_eq_getElem?_getD,List.getElem?_eq_getElem hkl]; rfl
   have e2:=atI_nat (xs:=(rowAt rs (p + n)).1.map V.int) (j:=k) (v:=V.int (topAt rs (p + n) k)) (by rw [List.getElem?_map,et]; rfl)
   refine ⟨_,rfl,_,rfl,l,rfl,xs,_,rfl,hl,_,e1,t,rfl,_,ht,_,atI_0,_,rfl,lr',rfl,_,_,rfl,hl',_,e2,?_⟩
   refine ⟨rfl,ite2 (fun h=>⟨_,rfl,?_⟩) fun h=>?_⟩
   ·have h0:topAt rs (p + n) k ≠ 0:=fun z=>by rw [z] at h; simp at h
    have:=q1 (p + n) (by omega) hi h0 hz
    rw [Int.natCast_add] at this
    exact this
   ·have h0:topAt rs (p + n) k = 0:=by simpa using h
    refine ⟨_,rfl,rfl,fun j h1 h2=>?_⟩
    by_cases e:j = p + n
    ·rw [e]; exact h0
    ·exact hz j h1 (by omega)
  ·rintro σ' H' ⟨u,rfl,rfl,hz⟩
   exact q2 fun j h1 h2=>hz j h1 (by omega)
def sp_minus15 (K:PySem.W.Frag):Sp:=fun vs H Q _=>∃ (p q:Addr) (x y u v:Int),vs = [.ref p,.ref q]∧SqT K H p [.int x,.int y]∧SqT K H q [.int u,.int v]∧Bd x∧Bd y∧Bd u∧Bd v∧0 < y∧0 < v∧Bd (y * v) ∧
 ∀ r z o,Low (x * v - u * y) (y * v) z o→H r = none→Q (.ref r) (upd H r (.tup [.int z,.int o]))
theorem ok_minus15 {f:Addr} {fd:FuncData} (F:Fun K nm_minus nm_minus s_minus f fd) (G_ratio:OkF P w K mg base 2 nm_ratio ps_ratio sp_ratio):FnOk P w K mg base CX0 3 f fd ps_minus (sp_minus15 K):=by
 refine F.ok sc_minus (fun vs H Q E h=>?_) (fun cdv A outer s H vs Q E hr h=>?_)
 ·obtain ⟨p,q,x,y,u,v,rfl,_⟩:=h
  rfl
 ·obtain ⟨p,q,x,y,u,v,rfl,hp,hq,bx,b_y,bu,bv,y0,v0,byv,k⟩:=h
  refine ⟨_,(pss_one (ps_ret (pe_callF G_ratio (hr.mono (by decide)) (by rfl) (pa_cons (pe_op op_sub (pe_op op_mulB (pe_ix (show IxR _ (rIxT K) from ix_tup) (pv 0) pe_int (fun _ _=>rfl)) (pe_ix (show IxR _ (rIxT K) from ix_tup) (pv 1) pe_int (fun _ _=>rfl))) (pe_op op_mulB (pe_ix (show IxR _ (rIxT K) from ix_tup) (pv 1) pe_int (fun _ _=>rfl)) (pe_ix (show IxR _ (rIxT K) from ix_tup) (pv 0) pe_int (fun _ _=>rfl)))) (pa_cons (pe_op op_mulB (pe_ix (show IxR _ (rIxT K) from ix_tup) (pv 0) pe_int (fun _ _=>rfl)) (pe_ix (show IxR _ (rIxT K) from ix_tup) (pv 1) pe_int (fun _ _=>rfl))) pa_nil))))),?_⟩
  unfold sp_ratio
  walk_at "rd"
  exact ⟨_,hp,_,atI_0,_,hq,_,atI_1,_,rfl,_,rfl,bx,bv,_,hq,_,atI_0,_,hp,_,atI_1,_,rfl,_,rfl,bu,b_y,_,hp,_,atI_1,_,hq,_,atI_1,_,rfl,_,rfl,b_y,bv,Int.ne_of_gt (Int.mul_pos y0 v0),byv,fun r z o l hr=>k r z o l hr⟩
def sp_over15 (K:PySem.W.Frag):Sp:=fun vs H Q _=>∃ (p q:Addr) (x y u v:Int),vs = [.ref p,.ref q]∧SqT K H p [.int x,.int y]∧SqT K H q [.int u,.int v]∧Bd x∧Bd y∧Bd u∧Bd v∧y * u ≠ 0∧Bd (y * u) ∧
 ∀ r z o,Low (x * v) (y * u) z o→H r = none→Q (.ref r) (upd H r (.tup [.int z,.int o]))
theorem ok_over15 {f:Addr} {fd:FuncData} (F:Fun K nm_over nm_over s_over f fd) (G_ratio:OkF P w K mg base 2 nm_ratio ps_ratio sp_ratio):FnOk P w K mg base CX0 3 f fd ps_over (sp_over15 K):=by
 refine F.ok sc_over (fun vs H Q E h=>?_) (fun cdv A outer s H vs Q E hr h=>?_)
 ·obtain ⟨p,q,x,y,u,v,rfl,_⟩:=h
  rfl
 ·obtain ⟨p,q,x,y,u,v,rfl,hp,hq,bx,b_y,bu,bv,yu,byu,k⟩:=h
  refine ⟨_,(pss_one (ps_ret (pe_callF G_ratio (hr.mono (by decide)) (by rfl) (pa_cons (pe_op op_mulB (pe_ix (show IxR _ (rIxT K) from ix_tup) (pv 0) pe_int (fun _ _=>rfl)) (pe_ix (show IxR _ (rIxT K) from ix_tup) (pv 1) pe_int (fun _ _=>rfl))) (pa_cons (pe_op op_mulB (pe_ix (show IxR _ (rIxT K) from ix_tup) (pv 0) pe_int (fun _ _=>rfl)) (pe_ix (show IxR _ (rIxT K) from ix_tup) (pv 1) pe_int (fun _ _=>rfl))) pa_nil))))),?_⟩
  unfold sp_ratio
  walk_at "rd"
  exact ⟨_,hp,_,atI_0,_,hq,_,atI_1,_,rfl,_,rfl,bx,bv,_,hp,_,atI_1,_,hq,_,atI_0,_,rfl,_,rfl,b_y,bu,yu,byu,fun r z o l hr=>k r z o l hr⟩
open Rw
def StpG (n:Nat):Stp→Prop
 | .swap i j=>i < n∧j < n
 | .times i c=>i < n∧Fn c∧Int.gcd c.1 c.2 = 1∧c.1 ≠ 0
 | .add i j c=>i < n∧j < n∧i ≠ j∧Fn c∧Int.gcd c.1 c.2 = 1
theorem StpG.n {n:Nat} : ∀ {s:Stp},StpG n s→StpN n s
 | .swap _ _,h=>h
 | .times _ _,h=>⟨h.1,h.2.1⟩
 | .add _ _ _,h=>⟨h.1,h.2.1,h.2.2.2.1⟩
def runR (rs:List Row) (ss:List Stp):List Row:=ss.foldl stepR rs
theorem runR_snoc {rs:List Row} {ss:List Stp} {s:Stp} : runR rs (ss ++ [s]) = stepR (runR rs ss) s:=by
 unfold runR
 rw [List.foldl_append]; rfl
theorem runR_app {rs:List Row} {ss ts:List Stp} : runR rs (ss ++ ts) = runR (runR rs ss) ts:=by
 unfold runR
 rw [List.foldl_append]
structure Begun (rs rs':List Row) (p q k N wd:Nat):Prop where
 len:rs'.length = rs.length
 big:∀ r ∈ rs',Big N r∧r.1.length = wd
 one:(rowAt rs' p).1[k]? = some (rowAt rs' p).2
 nul:∀ j:Nat,(rowAt rs q).1[j]? = some 0→(rowAt rs' p).1[j]? = some 0
 old:∀ i,i ≠ p→i < rs.length→rowAt rs' i = rowAt rs i∨(i = q∧rowAt rs' i = rowAt rs p)
structure Cleared (rs rs':List Row) (p k:Nat):Prop where
 len:rs'.length = rs.length
 own:rowAt rs' p = rowAt rs p
 nul:∀ i,i ≠ p→i < rs.length→(rowAt rs' i).1[k]? = some 0
 zer:∀ i j:Nat,i < rs.length→(rowAt rs p).1[j]? = some 0→(rowAt rs i).1[j]? = some 0→(rowAt rs' i).1[j]? = some 0
 one:∀ i j:Nat,i < rs.length→(rowAt rs p).1[j]? = some 0→(rowAt rs i).1[j]? = some (rowAt rs i).2→(rowAt rs' i).1[j]? = some (rowAt rs' i).2
structure Form (rs:List Row) (p c:Nat) (pv:Nat→Nat):Prop where
 head:∀ i,i < p→pv i < c∧(∀ j:Nat,j < pv i→(rowAt rs i).1[j]? = some 0)∧(rowAt rs i).1[pv i]? = some (rowAt rs i).2∧∀ j,j < rs.length→j ≠ i→(rowAt rs j).1[pv i]? = some 0
 ord:∀ i j,i < j→j < p→pv i < pv j
 rest:∀ i,p ≤ i→i < rs.length→∀ j:Nat,j < c→(rowAt rs i).1[j]? = some 0
theorem Form.next {rs rs1 rs2:List Row} {p q c N wd:Nat} {pv:Nat→Nat} (h:Form rs p c pv) (hq:p ≤ q) (hn:q < rs.length) (b:Begun rs rs1 p q c N wd) (d:Cleared rs1 rs2 p c):Form rs2 (p + 1) (c + 1) (fun i=>if i = p then c else pv i):=by
 have l1:=b.len
 have l2:=d.len
 have hp:p < rs.length:=by omega
 have zq:∀ j:Nat,j < c→(rowAt rs1 p).1[j]? = some 0:=fun j hj=>b.nul j (h.rest q hq hn j hj)
 refine ⟨fun i hi=>?_,fun i j hi hj=>?_,fun i hi hl j hj=>?_⟩
 ·by_cases e:i = p
  ·subst e
   rw [if_pos rfl,d.own]
   refine ⟨by omega,zq,b.one,fun j hj ne=>d.nul j ne (by omega)⟩
  ·rw [if_neg e]
   have hi':i < p:=by omega
   obtain ⟨a1,a2,a3,a4⟩:=h.head i hi'
   have e1:rowAt rs1 i = rowAt rs i:=by
    rcases b.old i e (by omega) with z | z
    ·exact z
    ·omega
   refine ⟨by omega,fun j hj=>?_,?_,fun j hj ne=>?_⟩
   ·exact d.zer i j (by omega) (zq j (by omega)) (by rw [e1]; exact a2 j hj)
   ·exact d.one i _ (by omega) (zq _ a1) (by rw [e1]; exact a3)
   ·by_cases ej:j = p
    ·subst ej
     rw [d.own]
     exact zq _ a1
    ·refine d.zer j _ (by omega) (zq _ a1) ?_
     rcases b.old j ej (by omega) with z | ⟨_,z⟩
     ·rw [z]; exact a4 j (by omega) ne
     ·rw [z]; exact a4 p hp (by omega)
 ·show (if i = p then c else pv i) < if j = p then c else pv j
  rw [if_neg (show ¬ i = p by omega)]
  by_cases e:j = p
  ·rw [if_pos e]; exact (h.head i (by omega)).1
  ·rw [if_neg e]; exact h.ord i j hi (by omega)
 ·by_cases ej:j = c
  ·subst ej; exact d.nul i (by omega) (by omega)
  ·refine d.zer i j (by omega) (zq j (by omega)) ?_
   rcases b.old i (by omega) (by omega) with z | ⟨_,z⟩
   ·rw [z]; exact h.rest i (by omega) (by omega) j (by omega)
   ·rw [z]; exact h.rest p (Nat.le_refl _) hp j (by omega)
theorem Form.skip {rs:List Row} {p c:Nat} {pv:Nat→Nat} (h:Form rs p c pv) (z:∀ j,p ≤ j→j < rs.length→(rowAt rs j).1[c]? = some 0):Form rs p (c + 1) pv :=
 ⟨fun i hi=>let ⟨a,b⟩:=h.head i hi; ⟨by omega,b⟩,h.ord,fun i hi hl j hj=>by
  by_cases e:j = c
  ·subst e; exact z i hi hl
  ·exact h.rest i hi hl j (by omega)⟩
theorem stepR_length {rs:List Row} : ∀ {st:Stp},(stepR rs st).length = rs.length
 | .swap _ _=>by unfold stepR; rw [List.length_set,List.length_set]
 | .times _ _=>by unfold stepR; rw [List.length_set]
 | .add _ _ _=>by unfold stepR; rw [List.length_set]
theorem swap_at {rs:List Row} {p q i:Nat} (hp:p < rs.length) (hq:q < rs.length):rowAt (stepR rs (.swap p q)) i = if i = q then rowAt rs p else if i = p then rowAt rs q else rowAt rs i:=by
 unfold stepR
 rw [rowAt_set (by rw [List.length_set]; exact hq),rowAt_set hp]
theorem mem_rowAt {rs:List Row} {r:Row} (h:r ∈ rs):∃ i,i < rs.length∧r = rowAt rs i:=by
 obtain ⟨i,hi,rfl⟩:=List.mem_iff_getElem.mp h
 refine ⟨i,hi,?_⟩
 unfold rowAt
 rw [List.getD_eq_getElem?_getD,List.getElem?_eq_getElem hi]; rfl
theorem begun_times {rs rs1:List Row} {p q k N wd:Nat} {c:Int × Int} {t:Int} (hp:p < rs1.length) (hl:rs1.length = rs.length) (hb:∀ r ∈ rs1,Big N r∧r.1.length = wd) (e0:rowAt rs1 p = rowAt rs q) (ho:∀ i,i ≠ p→i < rs.length→rowAt rs1 i = rowAt rs i∨(i = q∧rowAt rs1 i = rowAt rs p))
  (ht:(rowAt rs1 p).1[k]? = some t) (t0:t ≠ 0) (hc:0 < c.2) (e:c.1 * t = c.2 * (rowAt rs1 p).2):Begun rs (stepR rs1 (.times p c)) p q k N wd:=by
 obtain ⟨g1,g2⟩:=begin_big (hb _ (rowAt_in hp)).1 ht t0 hc e
 have at_:∀ i,rowAt (stepR rs1 (.times p c)) i = if i = p then redR (timesR (rowAt rs1 p) c) else rowAt rs1 i:=fun i=>rowAt_set hp
 refine ⟨stepR_length.trans hl,fun r hr=>?_,?_,fun j hj=>?_,fun i ne hi=>?_⟩
 ·obtain ⟨i,hi,rfl⟩:=mem_rowAt hr
  rw [at_]
  by_cases z:i = p
  ·rw [if_pos z]
   refine ⟨g1,?_⟩
   rw [red_len]; unfold timesR; rw [List.length_map]; exact (hb _ (rowAt_in hp)).2
  ·rw [if_neg z]
   rw [stepR_length] at hi
   exact hb _ (rowAt_in hi)
 ·rw [at_,if_pos rfl]; exact g2
 ·rw [at_,if_pos rfl]
  exact z_red (z_times (by rw [e0]; exact hj))
 ·rw [at_,if_neg ne]; exact ho i ne hi
theorem begun_none {rs rs1:List Row} {p q k N wd:Nat} (hl:rs1.length = rs.length) (hb:∀ r ∈ rs1,Big N r∧r.1.length = wd) (e0:rowAt rs1 p = rowAt rs q) (ho:∀ i,i ≠ p→i < rs.length→rowAt rs1 i = rowAt rs i∨(i = q∧rowAt rs1 i = rowAt rs p))
  (ht:(rowAt rs1 p).1[k]? = some (rowAt rs1 p).2):Begun rs rs1 p q k N wd :=
 ⟨hl,hb,ht,fun j hj=>by rw [e0]; exact hj,ho⟩
structure Clr (rs rs':List Row) (p k n N wd:Nat):Prop where
 len:rs'.length = rs.length
 own:rowAt rs' p = rowAt rs p
 nul:∀ i,i ≠ p→i < n→(rowAt rs' i).1[k]? = some 0
 old:∀ i,n ≤ i→rowAt rs' i = rowAt rs i
 big:∀ i,i < n→i < rs.length→Big N (rowAt rs' i)∧(rowAt rs' i).1.length = wd
 zer:∀ i j:Nat,i < rs.length→(rowAt rs p).1[j]? = some 0→(rowAt rs i).1[j]? = some 0→(rowAt rs' i).1[j]? = some 0
 one:∀ i j:Nat,i < rs.length→(rowAt rs p).1[j]? = some 0→(rowAt rs i).1[j]? = some (rowAt rs i).2→(rowAt rs' i).1[j]? = some (rowAt rs' i).2
theorem Clr.zero {rs:List Row} {p k N wd:Nat} : Clr rs rs p k 0 N wd:=⟨rfl,rfl,fun _ _ h=>absurd h (by omega),fun _ _=>rfl,fun _ h=>absurd h (by omega),fun _ _ _ _ h=>h,fun _ _ _ _ h=>h⟩
theorem Clr.skip {rs rs':List Row} {p k n N wd:Nat} (h:Clr rs rs' p k n N wd) (hb:∀ r ∈ rs,Big N r∧r.1.length = wd) (z:n = p∨(rowAt rs' n).1[k]? = some 0):Clr rs rs' p k (n + 1) N wd:=by
 refine ⟨h.len,h.own,fun i ne hi=>?_,fun i hi=>h.old i (by omega),fun i hi hl=>?_,h.zer,h.one⟩
 ·by_cases e:i = n
  ·subst e
   rcases z with z | z
   ·exact absurd z ne
   ·exact z
  ·exact h.nul i ne (by omega)
 ·by_cases e:i = n
  ·subst e
   rw [h.old i (Nat.le_refl _)]
   exact hb _ (rowAt_in hl)
  ·exact h.big i (by omega) hl
theorem Clr.next {rs rs':List Row} {p k n N wd:Nat} {c:Int × Int} {a:Int} (h:Clr rs rs' p k n N wd) (hb:∀ r ∈ rs,Big N r∧r.1.length = wd) (hn:n < rs.length) (hp:p < rs.length) (ne:n ≠ p) (ha:(rowAt rs n).1[k]? = some a) (ho:(rowAt rs p).1[k]? = some (rowAt rs p).2) (hc:0 < c.2) (e:c.1 * (rowAt rs n).2 = -a * c.2) (g1:Big N (redR (plusR (rowAt rs n) (rowAt rs p) c))) :
  Clr rs (stepR rs' (.add n p c)) p k (n + 1) N wd:=by
 have bn:=hb _ (rowAt_in hn)
 have bp:=hb _ (rowAt_in hp)
 obtain ⟨_,g2⟩:=clear_big bn.1 bp.1 (by rw [bn.2,bp.2]) ha ho hc e
 have hn':n < rs'.length:=by rw [h.len]; exact hn
 have at_:∀ i,rowAt (stepR rs' (.add n p c)) i = if i = n then redR (plusR (rowAt rs n) (rowAt rs p) c) else rowAt rs' i:=fun i=>by
  have:rowAt (stepR rs' (.add n p c)) i = if i = n then redR (plusR (rowAt rs' n) (rowAt rs' p) c) else rowAt rs' i:=rowAt_set hn'
  rw [this,h.own,h.old n (Nat.le_refl _)]
 refine ⟨stepR_length.trans h.len,?_,fun i hi hl=>?_,fun i hi=>?_,fun i hi hl=>?_,fun i j hi zp zi=>?_,fun i j hi zp zi=>?_⟩
 ·rw [at_,if_neg (fun z=>ne z.symm)]; exact h.own
 ·rw [at_]
  by_cases z:i = n
  ·rw [if_pos z]; exact g2
  ·rw [if_neg z]; exact h.nul i hi (by omega)
 ·rw [at_,if_neg (by omega)]; exact h.old i (by omega)
 ·rw [at_]
  by_cases z:i = n
  ·rw [if_pos z]
   refine ⟨g1,?_⟩
   rw [red_len]; unfold plusR; rw [List.length_zipWith,bn.2,bp.2,Nat.min_self]
  ·rw [if_neg z]; exact h.big i (by omega) hl
 ·rw [at_]
  by_cases z:i = n
  ·rw [if_pos z]; subst z; exact z_red (z_plus zi zp)
  ·rw [if_neg z]; exact h.zer i j hi zp zi
 ·rw [at_]
  by_cases z:i = n
  ·rw [if_pos z]; subst z; exact o_red (o_plus zi zp)
  ·rw [if_neg z]; exact h.one i j hi zp zi
theorem Clr.done {rs rs':List Row} {p k N wd:Nat} (h:Clr rs rs' p k rs.length N wd):Cleared rs rs' p k∧∀ r ∈ rs',Big N r∧r.1.length = wd:=by
 refine ⟨⟨h.len,h.own,fun i ne hi=>h.nul i ne hi,h.zer,h.one⟩,fun r hr=>?_⟩
 obtain ⟨i,hi,rfl⟩:=mem_rowAt hr
 rw [h.len] at hi
 exact h.big i hi hi
def AllB (N wd:Nat) (rs:List Row) (ss:List Stp):Prop:=∀ k:Nat,∀ r ∈ runR rs (ss.take k),Big N r∧r.1.length = wd
theorem AllB.nil {N wd:Nat} {rs:List Row} (h:∀ r ∈ rs,Big N r∧r.1.length = wd):AllB N wd rs []:=fun k=>by rw [List.take_nil]; exact h
theorem AllB.le {N M wd:Nat} {rs:List Row} {ss:List Stp} (h:AllB N wd rs ss) (hn:N ≤ M):AllB M wd rs ss:=fun k r hr=>⟨(h k r hr).1.le hn,(h k r hr).2⟩
theorem AllB.app {N wd:Nat} {rs:List Row} {ss ts:List Stp} (h:AllB N wd rs ss) (h2:AllB N wd (runR rs ss) ts):AllB N wd rs (ss ++ ts):=fun k=>by
 rw [List.take_append,runR_app]
 by_cases e:k ≤ ss.length
 ·rw [show k - ss.length = 0 by omega,List.take_zero]
  exact h k
 ·rw [List.take_of_length_le (show ss.length ≤ k by omega)]
  exact h2 _
theorem AllB.snoc {N wd:Nat} {rs:List Row} {ss:List Stp} {s:Stp} (h:AllB N wd rs ss) (h2:∀ r ∈ stepR (runR rs ss) s,Big N r∧r.1.length = wd):AllB N wd rs (ss ++ [s]):=by
 refine h.app fun k=>?_
 cases k with
 | zero=>rw [List.take_zero]; have:=h ss.length; rw [List.take_length] at this; exact this
 | succ k=>rw [show ([s] : List Stp).take (k + 1) = [s] by simp]; exact h2
open Rw
theorem line3:3 ≤ sizeLine:=by decide
theorem line4:4 ≤ sizeLine:=by decide
theorem eqv_two (a b c d:Int):PyData.eqv (.tuple [.int a,.int b]) (.tuple [.int c,.int d]) = (a == c && b == d):=by
 simp [PyData.eqv,PyData.eqvAll]
structure Sts (H:Hp) (ys:List V) (ss:List Stp):Prop where
 len:ys.length = ss.length
 at_:∀ (k:Nat) (s:Stp),ss[k]? = some s→∃ v,ys[k]? = some v∧StpAt H v s
theorem StpAt.ref {H:Hp} {v:V} : ∀ {s:Stp},StpAt H v s→∃ a,v = .ref a
 | .swap _ _,⟨t,e,_⟩=>⟨t,e⟩
 | .times _ _,⟨t,_,e,_⟩=>⟨t,e⟩
 | .add _ _ _,⟨t,_,e,_⟩=>⟨t,e⟩
theorem Sts.refs {H:Hp} {ys:List V} {ss:List Stp} (h:Sts H ys ss) {wd:Nat} (hw:0 < wd):∀ ts:List Int,ts.length = wd→ys ≠ ts.map V.int:=by
 intro ts hl e
 have:0 < ys.length:=by rw [e,List.length_map]; omega
 have hs:0 < ss.length:=by rw [← h.len]; exact this
 obtain ⟨v,ev,sa⟩:=h.at_ 0 _ (List.getElem?_eq_getElem hs)
 obtain ⟨a,rfl⟩:=sa.ref
 rw [e,List.getElem?_map] at ev
 cases z:ts[0]? with
 | none=>rw [z] at ev; cases ev
 | some i=>rw [z] at ev; cases ev
theorem Sts.snoc {H:Hp} {ys:List V} {ss:List Stp} (h:Sts H ys ss) {v:V} {s:Stp} (hv:StpAt H v s):Sts H (ys ++ [v]) (ss ++ [s]):=by
 refine ⟨by rw [List.length_append,List.length_append,h.len]; rfl,fun k u e=>?_⟩
 by_cases hk:k < ss.length
 ·rw [List.getElem?_append_left hk] at e
  rw [List.getElem?_append_left (by rw [h.len]; exact hk)]
  exact h.at_ k u e
 ·rw [List.getElem?_append_right (by omega)] at e
  have e0:k - ss.length = 0:=by
   cases z:k - ss.length with
   | zero=>rfl
   | succ m=>rw [z] at e; simp at e
  rw [e0,List.getElem?_cons_zero] at e
  cases e
  rw [List.getElem?_append_right (by rw [h.len]; omega),h.len,e0]
  exact ⟨v,rfl,hv⟩
theorem Sts.imp {H H':Hp} {ys:List V} {ss:List Stp} (h:Sts H ys ss) (k:∀ t us,H t = some (.tup us)→H' t = some (.tup us)):Sts H' ys ss:=⟨h.len,fun j s e=>let ⟨v,a,b⟩:=h.at_ j s e; ⟨v,a,b.imp k⟩⟩
def Off2 (l ls:Addr) (H H':Hp):Prop:=∀ b o,b ≠ l→b ≠ ls→H b = some o→H' b = some o
theorem Off2.tup {l ls:Addr} {H H':Hp} (h:Off2 l ls H H') {xs ys:List V} (hl:H l = some (.lst xs)) (hls:H ls = some (.lst ys)):∀ t us,H t = some (.tup us)→H' t = some (.tup us):=fun t us e=>h t _ (ne_of e hl (by intro z; cases z)) (ne_of e hls (by intro z; cases z)) e
structure Red (l ls:Addr) (H:Hp) (xs ys:List V) (rs:List Row) (ss:List Stp):Prop where
 hl:H l = some (.lst xs)
 lr:LR H xs rs
 hs:H ls = some (.lst ys)
 st:Sts H ys ss
 ne:ls ≠ l
def BStep (rs:List Row) (p q k:Nat) (new:List Stp):Prop:=∃ sw tm,new = sw ++ tm∧((sw = []∧q = p)∨sw = [.swap p q])∧((tm = []∧(rowAt rs q).1[k]? = some (rowAt rs q).2)∨∃ c:Int × Int,tm = [.times p c]∧0 < c.2∧c.1 * topAt rs q k = c.2 * (rowAt rs q).2)
def sp_begin_row:Sp:=fun vs H Q _=>∃ (l ls:Addr) (xs ys:List V) (rs:List Row) (ss:List Stp) (p q k N wd:Nat),vs = [.ref l,.ref ls,.int p,.int q,.int k]∧Red l ls H xs ys rs ss∧ss.length ≤ 900∧(∀ r ∈ rs,Big N r∧r.1.length = wd)∧N ≤ NN∧wd ≤ 64∧k < wd∧p < rs.length∧q < rs.length∧topAt rs q k ≠ 0 ∧
 ∀ H' xs' ys' new,Off2 l ls H H'→Red l ls H' xs' ys' (runR rs new) (ss ++ new)→new.length ≤ 2→(∀ s ∈ new,StpG rs.length s)→Begun rs (runR rs new) p q k N wd→AllB N wd rs new→BStep rs p q k new→Q .non H'
theorem ok_begin_row {f:Addr} {fd:FuncData} (F:Fun K nm_begin_row nm_begin_row s_begin_row f fd) (T:Txt K mg D) (G_go_on:OkF P w K mg base 5 nm_go_on ps_go_on sp_go_on) (G_number_at:OkF P w K mg base 3 nm_number_at ps_number_at sp_number_at) (G_over:OkF P w K mg base 3 nm_over ps_over (sp_over15 K)):FnOk P w K mg base CX0 6 f fd ps_begin_row sp_begin_row:=by
  refine F.ok sc_begin_row (fun vs H Q E h=>?_) (fun cdv A outer s H vs Q E hr h=>?_)
  · obtain ⟨l,ls,xs,ys,rs,ss,p,q,k,N,wd,rfl,_⟩:=h
    rfl
  · obtain ⟨l,ls,xs,ys,rs,ss,p,q,k,N,wd,rfl,rd,h9,hb,hN,hw,hk,hp,hq,ht,qq⟩:=h
    refine ⟨_,(pss_cut (ps_if (pt_cmpR op_ne (pv 3) (pv 2) (nomark _))
        (pss_one (ps_expr (pe_callF G_go_on (hr.mono (by decide)) (by rfl) (pa_cons (pv 0) (pa_cons (pv 1) (pa_cons (pe_tup (pa_cons pe_str (pa_cons (pv 2) (pa_cons (pv 3) pa_nil)))) pa_nil))))))
        pss_nil)
      (pss_cons (ps_set (i:=5) sc_begin_row.nd rfl (Or.inl rfl) (pe_callF G_number_at (hr.mono (by decide)) (by rfl) (pa_cons (pe_ix ix_listH (pv 0) (pv 2) (fun _ _=>rfl)) (pa_cons (pv 4) pa_nil))))
      (pss_one (ps_if (pt_cmpR (op_neKK (K:=K) rfl hr.units) (pv 5) (pe_globT (by rfl) T.c_ONE) (nomark _))
        (pss_one (ps_expr (pe_callF G_go_on (hr.mono (by decide)) (by rfl) (pa_cons (pv 0) (pa_cons (pv 1) (pa_cons (pe_tup (pa_cons pe_str (pa_cons (pv 2) (pa_cons (pe_callF G_over (hr.mono (by decide)) (by rfl) (pa_cons (pe_globT (by rfl) T.c_ONE) (pa_cons (pv 5) pa_nil))) pa_nil)))) pa_nil))))))
        pss_nil)))),?_⟩
    refine ⟨fun σ' H1=>∃ xs1 ys1 new,σ' = [some (.ref l),some (.ref ls),some (.int p),some (.int q),some (.int k),none]∧Off2 l ls H H1∧Red l ls H1 xs1 ys1 (runR rs new) (ss ++ new)∧new.length ≤ 1∧(∀ s ∈ new,StpG rs.length s)∧(runR rs new).length = rs.length∧(∀ r ∈ runR rs new,Big N r∧r.1.length = wd)∧rowAt (runR rs new) p = rowAt rs q∧(∀ i,i ≠ p→i < rs.length→rowAt (runR rs new) i = rowAt rs i∨(i = q∧rowAt (runR rs new) i = rowAt rs p))∧AllB N wd rs new∧((new = []∧q = p)∨new = [.swap p q]),⟨_,rfl,_,rfl,rfl,_,rfl,ite2 (fun h=>?_) fun h=>?_⟩,?_⟩
    · refine ⟨_,rfl,_,rfl,_,rfl,_,rfl,line3,fun t hf=>?_⟩
      have S1:Same H (upd H t (.tup [.str (Str.ofString "swap"),.int p,.int q])):=Same.upd hf
      have nl:t ≠ l:=(ne_of_none rd.hl hf).symm
      have nls:t ≠ ls:=(ne_of_none rd.hs hf).symm
      refine ⟨l,ls,.ref t,xs,ys,rs,.swap p q,wd,rfl,S1 _ _ rd.hl,rd.lr.same S1,S1 _ _ rd.hs,by rw [rd.st.len]; omega,rd.ne,rd.st.refs (by omega),⟨t,rfl,upd_same⟩,⟨hp,hq⟩,fun r hr=>⟨(hb r hr).1.le hN,(hb r hr).2⟩,hw,fun H' xs' kp h1 lr1 h2=>?_⟩
      have of:Off2 l ls H H':=fun b o e1 e2 e=>kp b o e1 e2 (S1 _ _ e)
      have bs:∀ r ∈ stepR rs (.swap p q),Big N r∧r.1.length = wd:=fun r hr=>by
        obtain ⟨i,hi,rfl⟩:=mem_rowAt hr
        have hi:i < rs.length:=by rw [← stepR_length (rs:=rs) (st:=.swap p q)]; exact hi
        rw [swap_at hp hq]
        split
        · exact hb _ (rowAt_in hp)
        · split
          · exact hb _ (rowAt_in hq)
          · exact hb _ (rowAt_in hi)
      refine ⟨xs',_,[.swap p q],rfl,of,⟨h1,lr1,h2,(rd.st.imp (of.tup rd.hl rd.hs)).snoc ⟨t,rfl,kp _ _ nl nls upd_same⟩,rd.ne⟩,Nat.le_refl _,fun s hs=>?_,(show (stepR rs (.swap p q)).length = rs.length from stepR_length),bs,?_,fun i ne hi=>?_,(AllB.nil hb).snoc bs,.inr rfl⟩
      · rw [List.mem_singleton.mp hs]; exact ⟨hp,hq⟩
      · show rowAt (stepR rs (.swap p q)) p = _
        rw [swap_at hp hq,if_pos rfl]
        split
        · rename_i z; rw [z]
        · rfl
      · show rowAt (stepR rs (.swap p q)) i = _∨_∧rowAt (stepR rs (.swap p q)) i = _
        rw [swap_at hp hq,if_neg ne]
        split
        · rename_i z; exact .inr ⟨z,rfl⟩
        · exact .inl rfl
    · have e:(q:Int) = p:=by simpa using h
      have e:q = p:=by omega
      exact ⟨xs,ys,[],rfl,fun b o _ _ e=>e,by rw [List.append_nil]; exact rd,by decide,fun s hs=>absurd hs List.not_mem_nil,rfl,hb,by rw [e]; rfl,fun i _ _=>.inl rfl,AllB.nil hb,.inl ⟨rfl,e⟩⟩
    · rintro σ' H1 ⟨xs1,ys1,new,rfl,of1,rd1,n1,g1,len1,big1,e1,old1,ab,sw⟩
      have hp1:p < (runR rs new).length:=by rw [len1]; exact hp
      have hx:p < xs1.length:=by rw [rd1.lr.len]; exact hp1
      have ra:=rd1.lr.at_ p _ (List.getElem?_eq_getElem hx)
      have bp:=big1 _ (rowAt_in hp1)
      have et:(rowAt (runR rs new) p).1[k]? = some (topAt rs q k):=by
        rw [e1]
        unfold topAt
        rw [List.getD_eq_getElem?_getD,List.getElem?_eq_getElem (by rw [← e1,bp.2]; exact hk)]; rfl
      have bN:=bp.1.le hN
      have b0:=bp.1.pos
      have tb:=bN.top _ (List.mem_of_getElem? et)
      generalize hr1:runR rs new = rs1 at *
      generalize hrw:rowAt rs1 p = r at *
      generalize ht0:topAt rs q k = t at *
      refine ⟨_,rfl,_,rfl,l,xs1,p,_,rfl,rfl,rd1.hl,atI_nat (List.getElem?_eq_getElem hx),_,rfl,_,r,k,t,rfl,ra,et,bN,fun f hf=>?_⟩
      have S2:Same H1 (upd H1 f (.tup [.int (Ac.lw t r.2).1,.int (Ac.lw t r.2).2])):=Same.upd hf
      have lp:=Ac.lw_pos (t:=t) b0
      have lg:=Ac.lw_gcd (t:=t) b0
      have le:=Ac.lw_eq (t:=t) b0
      refine ⟨_,rfl,_,_,.tup (.inl (.of upd_same)) (.cons (.int _) (.cons (.int _) .nil)),.tup (T.kt_ONE _) (.cons (.int _) (.cons (.int _) .nil)),rfl,rfl,_,rfl,ite2 (fun h=>?_) fun h=>?_⟩
      · have l1:(Ac.lw t r.2).1.natAbs ≤ NN:=Nat.le_trans (Int.natAbs_ediv_le_natAbs _ _) tb
        have l2:(Ac.lw t r.2).2.natAbs ≤ NN:=Nat.le_trans (Int.natAbs_ediv_le_natAbs _ _) bN.bot
        have u0:(Ac.lw t r.2).1 ≠ 0:=fun z=>by
          rw [z,Int.zero_mul] at le
          rcases Int.mul_eq_zero.mp le.symm with z | z
          · exact ht z
          · omega
        generalize (Ac.lw t r.2).1 = u at *
        generalize (Ac.lw t r.2).2 = v at *
        refine ⟨_,rfl,_,rfl,_,rfl,_,rfl,_,_,1,1,u,v,rfl,T.kt_ONE _,.inl (.of upd_same),bdN (by decide +kernel),bdN (by decide +kernel),bdN l1,bdN l2,by rw [Int.one_mul]; exact u0,by rw [Int.one_mul]; exact bdN l1,fun a z o lo ha=>⟨line3,fun t2 ht2=>?_⟩⟩
        have S3:=Same.upd (o:=.tup [.int z,.int o]) ha
        have S4:=Same.upd (o:=.tup [.str (Str.ofString "times"),.int p,.ref a]) ht2
        have ea:=S4 a _ upd_same
        have S:=(S2.trans S3).trans S4
        have e2:upd (upd (upd H1 f (.tup [.int u,.int v])) a (.tup [.int z,.int o])) t2 (.tup [.str (Str.ofString "times"),.int p,.ref a]) t2 = some (.tup [.str (Str.ofString "times"),.int p,.ref a]):=upd_same
        generalize upd (upd (upd H1 f (.tup [.int u,.int v])) a (.tup [.int z,.int o])) t2 (.tup [.str (Str.ofString "times"),.int p,.ref a]) = H2 at *
        have zz:=lo.eq
        rw [Int.one_mul,Int.one_mul] at zz
        have o0:=lo.pos
        have z0:z ≠ 0:=fun q=>by
          rw [q,Int.zero_mul] at zz
          rcases Int.mul_eq_zero.mp zz.symm with y | y <;> omega
        have fn:Fn (z,o):=⟨o0,Nat.le_trans lo.lx (by rw [Int.one_mul]; exact l2),Nat.le_trans lo.ly (by rw [Int.one_mul]; exact l1)⟩
        have key:z * t = o * r.2:=by
          refine Int.eq_of_mul_eq_mul_right (Int.ne_of_gt lp) ?_
          calc z * t * v = z * (t * v):=by ac_rfl
            _ = z * (u * r.2):=by rw [← le]
            _ = (z * u) * r.2:=by ac_rfl
            _ = v * o * r.2:=by rw [zz]
            _ = o * r.2 * v:=by ac_rfl
        have sg:StpG rs.length (.times p (z,o)):=⟨hp,fn,lo.gcd,z0⟩
        refine ⟨l,ls,.ref t2,xs1,ys1,rs1,.times p (z,o),wd,rfl,S _ _ rd1.hl,rd1.lr.same S,S _ _ rd1.hs,by rw [rd1.st.len,List.length_append]; omega,rd1.ne,rd1.st.refs (by omega),⟨t2,a,rfl,e2,ea⟩,by rw [len1]; exact sg.n,fun r hr=>⟨(big1 r hr).1.le hN,(big1 r hr).2⟩,hw,fun H' xs' kp h1 lr1 h2=>?_⟩
        have of:Off2 l ls H1 H':=fun b o e1 e2 e=>kp b o e1 e2 (S _ _ e)
        have tk:∀ t us,H2 t = some (.tup us)→H' t = some (.tup us):=fun t us e=>kp _ _ (ne_of e (S _ _ rd1.hl) (by intro z; cases z)) (ne_of e (S _ _ rd1.hs) (by intro z; cases z)) e
        have es:runR rs (new ++ [.times p (z,o)]) = stepR rs1 (.times p (z,o)):=by rw [runR_snoc,hr1]
        refine qq H' xs' _ (new ++ [.times p (z,o)]) (fun b o e1 e2 e=>of b o e1 e2 (of1 b o e1 e2 e)) ⟨h1,by rw [es]; exact lr1,h2,?_,rd.ne⟩ (by rw [List.length_append]; exact Nat.succ_le_succ n1) (fun s hs=>?_) ?_ ?_ ⟨new,_,rfl,sw,.inr ⟨(z,o),rfl,o0,by rw [← e1,ht0]; exact key⟩⟩
        · rw [← List.append_assoc]
          exact (rd1.st.imp (of.tup rd1.hl rd1.hs)).snoc ⟨t2,a,rfl,tk _ _ e2,tk _ _ ea⟩
        · rcases List.mem_append.mp hs with y | y
          · exact g1 s y
          · rw [List.mem_singleton.mp y]; exact sg
        · rw [es]
          exact begun_times hp1 len1 big1 (by rw [hrw,e1]) old1 (by rw [hrw]; exact et) ht o0 (by rw [hrw]; exact key)
        · refine ab.snoc ?_
          rw [hr1]
          exact (begun_times (q:=q) hp1 len1 big1 (by rw [hrw,e1]) old1 (by rw [hrw]; exact et) ht o0 (by rw [hrw]; exact key)).big
      · have e2:(Ac.lw t r.2).1 = 1∧(Ac.lw t r.2).2 = 1:=by
          rw [if_pos rfl,eqv_two] at h
          simpa using h
        rw [e2.1,e2.2,Int.one_mul,Int.mul_one] at le
        refine qq _ xs1 ys1 new (fun b o e1 e2 e=>S2 _ _ (of1 b o e1 e2 e)) ⟨S2 _ _ rd1.hl,by rw [hr1]; exact rd1.lr.same S2,S2 _ _ rd1.hs,rd1.st.imp fun t us e=>S2 _ _ e,rd.ne⟩ (by omega) g1 ?_ ab ⟨new,[],(List.append_nil _).symm,sw,.inl ⟨rfl,by rw [← e1,et,le]⟩⟩
        rw [hr1]
        exact begun_none len1 big1 (by rw [hrw,e1]) old1 (by rw [hrw,et,le])
open Rw
inductive Adds (rs:List Row) (p k:Nat):Nat→List Stp→Prop
 | nil:Adds rs p k 0 []
 | skip {n:Nat} {ss:List Stp} : Adds rs p k n ss→(n = p∨(rowAt rs n).1[k]? = some 0)→Adds rs p k (n + 1) ss
 | add {n:Nat} {ss:List Stp} {c:Int × Int} {a:Int} : Adds rs p k n ss→n ≠ p→n < rs.length→(rowAt rs n).1[k]? = some a→0 < c.2→c.1 * (rowAt rs n).2 = -a * c.2→Adds rs p k (n + 1) (ss ++ [.add n p c])
def sp_clear_column:Sp:=fun vs H Q _=>∃ (l ls:Addr) (xs ys:List V) (rs:List Row) (ss:List Stp) (p k N wd:Nat),vs = [.ref l,.ref ls,.int p,.int k]∧Red l ls H xs ys rs ss∧ss.length ≤ 800∧(∀ r ∈ rs,Big N r∧r.1.length = wd)∧(∀ i a (c:Int × Int),i ≠ p→i < rs.length→(rowAt rs i).1[k]? = some a→0 < c.2→c.1 * (rowAt rs i).2 = -a * c.2→Big N (redR (plusR (rowAt rs i) (rowAt rs p) c)))∧N ≤ NN∧wd ≤ 64∧k < wd∧p < rs.length∧rs.length ≤ 64∧(rowAt rs p).1[k]? = some (rowAt rs p).2 ∧
 ∀ H' xs' ys' new,Off2 l ls H H'→Red l ls H' xs' ys' (runR rs new) (ss ++ new)→new.length ≤ rs.length→(∀ s ∈ new,StpG rs.length s)→Cleared rs (runR rs new) p k→(∀ r ∈ runR rs new,Big N r∧r.1.length = wd)→AllB N wd rs new→Adds rs p k rs.length new→Q .non H'
def jC (l ls:Addr) (p k N wd:Nat) (rs:List Row) (ss:List Stp) (H:Hp) (n:Nat) (σ:L2.St) (H':Hp):Prop:=∃ xs' ys' new u v,σ = [some (.ref l),some (.ref ls),some (.int p),some (.int k),u,v]∧Off2 l ls H H'∧Red l ls H' xs' ys' (runR rs new) (ss ++ new)∧new.length ≤ n∧(∀ s ∈ new,StpG rs.length s)∧Clr rs (runR rs new) p k n N wd∧AllB N wd rs new∧Adds rs p k n new
theorem ok_clear_column {f:Addr} {fd:FuncData} (F:Fun K nm_clear_column nm_clear_column s_clear_column f fd) (T:Txt K mg D) (G_go_on:OkF P w K mg base 5 nm_go_on ps_go_on sp_go_on) (G_number_at:OkF P w K mg base 3 nm_number_at ps_number_at sp_number_at) (G_minus:OkF P w K mg base 3 nm_minus ps_minus (sp_minus15 K)):FnOk P w K mg base CX0 6 f fd ps_clear_column sp_clear_column:=by
  refine F.ok sc_clear_column (fun vs H Q E h=>?_) (fun cdv A outer s H vs Q E hr h=>?_)
  · obtain ⟨l,ls,xs,ys,rs,ss,p,k,N,wd,rfl,_⟩:=h
    rfl
  · obtain ⟨l,ls,xs,ys,rs,ss,p,k,N,wd,rfl,rd,h9,hb,hcl,hNN,hw,hk,hp,hn,ho,qq⟩:=h
    refine ⟨_,(pss_one (ps_for PassesOwn.never rfl (pi_range1 (by rfl) T.b_range (pa_cons (pe_callB call_lenL (by rfl) T.b_len PySem.boot_len (pa_cons (pv 0) pa_nil)) pa_nil).mono) (pg_name (i:=4) sc_clear_column.nd rfl (Or.inl rfl))
        (pss_one (ps_if (pw_and (pt_cmpR op_ne (pv 4) (pv 2) (nomark _)) (pw_and1 (pt_cmpR op_ne (pe_ix ix_listH (pe_ix ix_tupH (pe_ix ix_listH (pv 0) (pv 4) (fun _ _=>rfl)) pe_int (fun _ _=>rfl)) (pv 3) (fun _ _=>rfl)) pe_int (nomark _)))).pt
          (pss_cons (ps_set (i:=5) sc_clear_column.nd rfl (Or.inl rfl) (pe_callF G_minus (hr.mono (by decide)) (by rfl) (pa_cons (pe_globT (by rfl) T.c_NOUGHT) (pa_cons (pe_callF G_number_at (hr.mono (by decide)) (by rfl) (pa_cons (pe_ix ix_listH (pv 0) (pv 4) (fun _ _=>rfl)) (pa_cons (pv 3) pa_nil))) pa_nil))))
          (pss_one (ps_expr (pe_callF G_go_on (hr.mono (by decide)) (by rfl) (pa_cons (pv 0) (pa_cons (pv 1) (pa_cons (pe_tup (pa_cons pe_str (pa_cons (pv 4) (pa_cons (pv 2) (pa_cons (pv 5) pa_nil))))) pa_nil)))))))
          pss_nil)))),?_⟩
    have hx:=rd.lr.len
    refine tFor_rngM ⟨_,rfl,l,xs,rfl,rd.hl,xs.length,rfl,by omega,jC l ls p k N wd rs ss H,⟨xs,ys,[],none,none,rfl,fun b o _ _ e=>e,by rw [List.append_nil]; exact rd,Nat.le_refl _,fun s hs=>absurd hs List.not_mem_nil,Clr.zero,AllB.nil hb,.nil⟩,?_,?_⟩
    · rintro n σ' H1 hn' ⟨xs1,ys1,new,u,v,rfl,of1,rd1,n1,g1,cl,ab,ad⟩
      have hnr:n < rs.length:=by omega
      refine ⟨_,rfl,_,rfl,rfl,_,rfl,ite2 (fun h=>?_) fun h=>ite2 (fun z=>by cases z) fun _=>?_⟩
      · have ne:n ≠ p:=fun z=>by rw [z] at h; simp at h
        have hn1:n < (runR rs new).length:=by rw [cl.len]; exact hnr
        have hx1:n < xs1.length:=by rw [rd1.lr.len]; exact hn1
        have ra:=rd1.lr.at_ n _ (List.getElem?_eq_getElem hx1)
        rw [cl.old n (Nat.le_refl _)] at ra
        have bn:=hb _ (rowAt_in hnr)
        obtain ⟨a,et⟩ : ∃ a,(rowAt rs n).1[k]? = some a:=⟨_,List.getElem?_eq_getElem (by rw [bn.2]; exact hk)⟩
        have bN:=bn.1.le hNN
        have b0:=bn.1.pos
        have tb:=bN.top _ (List.mem_of_getElem? et)
        have ev:=atI_nat (List.getElem?_eq_getElem hx1)
        obtain ⟨t,lr,e0,ht,hlr⟩:=id ra
        refine ⟨_,rfl,_,rfl,l,xs1,n,_,rfl,rfl,rd1.hl,ev,t,_,0,_,e0,rfl,ht,atI_0,_,rfl,lr,_,k,_,rfl,rfl,hlr,atI_nat (j:=k) (by rw [List.getElem?_map,et]; rfl),rfl,_,rfl,ite2 (fun h=>?_) fun h=>?_⟩
        · generalize hrw:rowAt rs n = r at *
          refine ⟨_,rfl,_,rfl,l,xs1,n,_,rfl,rfl,rd1.hl,ev,_,rfl,_,r,k,a,rfl,ra,et,bN,fun f hf=>?_⟩
          have l1:(Ac.lw a r.2).1.natAbs ≤ NN:=Nat.le_trans (Int.natAbs_ediv_le_natAbs _ _) tb
          have l2:(Ac.lw a r.2).2.natAbs ≤ NN:=Nat.le_trans (Int.natAbs_ediv_le_natAbs _ _) bN.bot
          have lp:=Ac.lw_pos (t:=a) b0
          have le:=Ac.lw_eq (t:=a) b0
          generalize (Ac.lw a r.2).1 = u at *
          generalize (Ac.lw a r.2).2 = v at *
          refine ⟨_,_,0,1,u,v,rfl,T.kt_NOUGHT _,.inl (.of upd_same),bdN (by decide +kernel),bdN (by decide +kernel),bdN l1,bdN l2,by decide,lp,by rw [Int.one_mul]; exact bdN l2,fun q z o lo hq=>?_⟩
          refine ⟨_,rfl,_,rfl,_,rfl,_,rfl,_,rfl,line4,fun t2 ht2=>?_⟩
          have S2:=Same.upd (o:=.tup [.int u,.int v]) hf
          have S3:=Same.upd (o:=.tup [.int z,.int o]) hq
          have S4:=Same.upd (o:=.tup [.str (Str.ofString "add"),.int n,.int p,.ref q]) ht2
          have ea:=S4 q _ upd_same
          have S:=(S2.trans S3).trans S4
          have e2:upd (upd (upd H1 f (.tup [.int u,.int v])) q (.tup [.int z,.int o])) t2 (.tup [.str (Str.ofString "add"),.int n,.int p,.ref q]) t2 = some (.tup [.str (Str.ofString "add"),.int n,.int p,.ref q]):=upd_same
          generalize upd (upd (upd H1 f (.tup [.int u,.int v])) q (.tup [.int z,.int o])) t2 (.tup [.str (Str.ofString "add"),.int n,.int p,.ref q]) = H2 at *
          have zz:=lo.eq
          have lx:=lo.lx
          have ly:=lo.ly
          rw [Int.one_mul,Int.zero_mul,Int.mul_one,Int.zero_sub] at zz
          rw [Int.zero_mul,Int.mul_one,Int.zero_sub,Int.natAbs_neg] at lx
          rw [Int.one_mul] at ly
          have fn:Fn (z,o):=⟨lo.pos,Nat.le_trans lx l1,Nat.le_trans ly l2⟩
          have key:z * r.2 = -a * o:=by
            refine Int.eq_of_mul_eq_mul_right (Int.ne_of_gt lp) ?_
            calc z * r.2 * v = (z * v) * r.2:=by ac_rfl
              _ = -u * o * r.2:=by rw [zz]
              _ = -(u * r.2) * o:=by rw [Int.neg_mul,Int.neg_mul,Int.neg_mul]; congr 1; ac_rfl
              _ = -(a * v) * o:=by rw [le]
              _ = -a * o * v:=by rw [Int.neg_mul,Int.neg_mul,Int.neg_mul]; congr 1; ac_rfl
          have sg:StpG rs.length (.add n p (z,o)):=⟨hnr,hp,ne,fn,lo.gcd⟩
          have big1:∀ r ∈ runR rs new,Big NN r∧r.1.length = wd:=fun r hr=>by
            obtain ⟨i,hi,rfl⟩:=mem_rowAt hr
            rw [cl.len] at hi
            by_cases z:i < n
            · exact ⟨(cl.big i z hi).1.le hNN,(cl.big i z hi).2⟩
            · rw [cl.old i (by omega)]
              exact ⟨(hb _ (rowAt_in hi)).1.le hNN,(hb _ (rowAt_in hi)).2⟩
          refine ⟨l,ls,.ref t2,xs1,ys1,runR rs new,.add n p (z,o),wd,rfl,S _ _ rd1.hl,rd1.lr.same S,S _ _ rd1.hs,by rw [rd1.st.len,List.length_append]; omega,rd1.ne,rd1.st.refs (by omega),⟨t2,q,rfl,e2,ea⟩,by rw [cl.len]; exact sg.n,big1,hw,fun H' xs' kp h1' lr1 h2'=>?_⟩
          have of:Off2 l ls H1 H':=fun b o e1 e2 e=>kp b o e1 e2 (S _ _ e)
          have tk:∀ t us,H2 t = some (.tup us)→H' t = some (.tup us):=fun t us e=>kp _ _ (ne_of e (S _ _ rd1.hl) (by intro z; cases z)) (ne_of e (S _ _ rd1.hs) (by intro z; cases z)) e
          refine ⟨xs',_,new ++ [.add n p (z,o)],_,_,rfl,fun b o e1 e2 e=>of b o e1 e2 (of1 b o e1 e2 e),⟨h1',by rw [runR_snoc]; exact lr1,h2',?_,rd.ne⟩,by rw [List.length_append]; exact Nat.succ_le_succ n1,fun s hs=>?_,?_,?_,.add ad ne hnr (by rw [hrw]; exact et) lo.pos (by rw [hrw]; exact key)⟩
          · rw [← List.append_assoc]
            exact (rd1.st.imp (of.tup rd1.hl rd1.hs)).snoc ⟨t2,q,rfl,tk _ _ e2,tk _ _ ea⟩
          · rcases List.mem_append.mp hs with y | y
            · exact g1 s y
            · rw [List.mem_singleton.mp y]; exact sg
          · rw [runR_snoc]
            exact cl.next hb hnr hp ne (by rw [hrw]; exact et) ho lo.pos (by rw [hrw]; exact key) (hcl n a (z,o) ne hnr (by rw [hrw]; exact et) lo.pos (by rw [hrw]; exact key))
          · have nx:=cl.next (N:=N) (wd:=wd) (c:=(z,o)) hb hnr hp ne (by rw [hrw]; exact et) ho lo.pos (by rw [hrw]; exact key) (hcl n a (z,o) ne hnr (by rw [hrw]; exact et) lo.pos (by rw [hrw]; exact key))
            refine ab.snoc fun r hr=>?_
            obtain ⟨i,hi,rfl⟩:=mem_rowAt hr
            rw [nx.len] at hi
            by_cases z:i < n + 1
            · exact nx.big i z hi
            · rw [nx.old i (by omega)]
              exact hb _ (rowAt_in hi)
        · have z:a = 0:=by simpa using h
          refine ⟨xs1,ys1,new,_,v,rfl,of1,rd1,Nat.le_succ_of_le n1,g1,cl.skip hb (.inr ?_),ab,.skip ad (.inr (by rw [et,z]))⟩
          rw [cl.old n (Nat.le_refl _),et,z]
      · have z:(n:Int) = p:=by simpa using h
        exact ⟨xs1,ys1,new,_,v,rfl,of1,rd1,Nat.le_succ_of_le n1,g1,cl.skip hb (.inl (by omega)),ab,.skip ad (.inl (by omega))⟩
    · rintro σ' H1 ⟨xs1,ys1,new,u,v,rfl,of1,rd1,n1,g1,cl,ab,ad⟩
      rw [hx] at n1 cl ad
      exact qq H1 xs1 ys1 new of1 rd1 n1 g1 cl.done.1 cl.done.2 ab ad
open Rw
structure FRs (H:Hp) (xs:List V) (fss:List (List (Int × Int))):Prop where
 len:xs.length = fss.length
 at_:∀ (k:Nat) (v:V),xs[k]? = some v→∃ l ys,v = .ref l∧H l = some (.lst ys)∧FL H ys (fss.getD k [])
theorem FRs.same {H H':Hp} {xs:List V} {fss:List (List (Int × Int))} (h:FRs H xs fss) (S:Same H H'):FRs H' xs fss:=⟨h.len,fun k v e=>let ⟨l,ys,a,b,c⟩:=h.at_ k v e; ⟨l,ys,a,S _ _ b,c.same S⟩⟩
theorem FRs.snoc {H:Hp} {xs:List V} {fss:List (List (Int × Int))} (h:FRs H xs fss) {l:Addr} {ys:List V} {fs:List (Int × Int)} (hl:H l = some (.lst ys)) (hf:FL H ys fs):FRs H (xs ++ [.ref l]) (fss ++ [fs]):=by
 refine ⟨by rw [List.length_append,List.length_append,h.len]; rfl,fun k v e=>?_⟩
 by_cases hk:k < xs.length
 ·rw [List.getElem?_append_left hk] at e
  rw [List.getD_eq_getElem?_getD,List.getElem?_append_left (by rw [← h.len]; exact hk),← List.getD_eq_getElem?_getD]
  exact h.at_ k v e
 ·rw [List.getElem?_append_right (by omega)] at e
  have e0:k - xs.length = 0:=by
   cases e1:k - xs.length with
   | zero=>rfl
   | succ m=>rw [e1] at e; simp at e
  rw [e0,List.getElem?_cons_zero] at e
  cases e
  rw [List.getD_eq_getElem?_getD,List.getElem?_append_right (by rw [← h.len]; omega),← h.len,e0]
  exact ⟨l,ys,rfl,hl,hf⟩
theorem FRs.updL {H:Hp} {D:Addr} {zs zs':List V} (hD:H D = some (.lst zs)) {xs:List V} {fss:List (List (Int × Int))} (h:FRs H xs fss) (ne:∀ (k:Nat) (l:Addr),xs[k]? = some (V.ref l)→l ≠ D):FRs (upd H D (.lst zs')) xs fss:=by
 refine ⟨h.len,fun k v e=>?_⟩
 obtain ⟨l,ys,rfl,b,c⟩:=h.at_ k v e
 exact ⟨l,ys,rfl,(upd_ne (ne k l e)).trans b,c.updL hD⟩
def sp_fractions_of:Sp:=fun vs H Q _=>∃ (l:Addr) (xs:List V) (rs:List Row) (wd:Nat),vs = [.ref l]∧H l = some (.lst xs)∧LR H xs rs∧(∀ r ∈ rs,Big NN r∧r.1.length = wd)∧wd ≤ 64∧rs.length ≤ 64 ∧
 ∀ p zs H',Same H H'→H p = none→H' p = some (.lst zs)→FRs H' zs (rs.map rep)→(∀ (k:Nat) (a:Addr),zs[k]? = some (V.ref a)→H a = none∧a ≠ p)→Q (.ref p) H'
def jO (D1:Addr) (rs:List Row) (H:Hp) (k:Nat) (zs:List V) (Hc:Hp):Prop:=Same H Hc∧Hc D1 = some (.lst zs)∧FRs Hc zs ((rs.take k).map rep)∧∀ (j:Nat) (a:Addr),zs[j]? = some (V.ref a)→H a = none∧a ≠ D1
def jI (D2:Addr) (r:Row) (H:Hp) (k:Nat) (ys:List V) (Hc:Hp):Prop:=Same H Hc∧Hc D2 = some (.lst ys)∧FL Hc ys ((rep r).take k)
theorem ok_fractions_of {f:Addr} {fd:FuncData} (F:Fun K nm_fractions_of nm_fractions_of s_fractions_of f fd) (T:Txt K mg D) (G_ratio:OkF P w K mg base 2 nm_ratio ps_ratio sp_ratio):FnOk P w K mg base CX0 3 f fd ps_fractions_of sp_fractions_of:=by
 refine F.ok sc_fractions_of (fun vs H Q E h=>?_) (fun cdv A outer s H vs Q E hr h=>?_)
 ·obtain ⟨l,xs,rs,wd,rfl,_⟩:=h
  rfl
 ·obtain ⟨l,xs,rs,wd,rfl,hl,lr,bn,h64,hn,q⟩:=h
  refine ⟨_,(pss_one (ps_ret (pe_compGCF (defScope s_fractions_of) ["leveled"] ["leveled"] "row" rfl rfl rfl (by decide +kernel) (by decide +kernel) rfl (fun _ _=>rfl) (fun _=>rfl) (by decide +kernel) (by decide +kernel) (by decide +kernel) (by decide +kernel) (by decide +kernel) (pi_list ((pv 0)).mono) (fun _ _ _ _ _=>(pg_name (i:=0) (show List.Nodup (["row", "leveled"] : List Str) from by decide +kernel) rfl (Or.inr rfl) (Or.inl (beq_self_eq_true _)))) (fun _ _ _ _ _=>pts_nil) (fun _ _ _ _ _=>(pe_compGF2C (defScope s_fractions_of) ["row", "leveled"] ["row", "leveled"] ["top"] rfl rfl rfl (by decide +kernel) (by decide +kernel) rfl (by decide +kernel) (by decide +kernel) (by decide +kernel) (by decide +kernel) (by decide +kernel) (pi_listK (K:=K) rfl ((pe_ix ix_tupH (pv 0) pe_int (fun _ _=>rfl))).mono) (fun _ _ _ _ _=>(pg_name (i:=0) (show List.Nodup (["top", "row", "leveled"] : List Str) from by decide +kernel) rfl (Or.inl rfl) (Or.inr rfl))) (fun _ _ _ _ _=>pts_nil) (fun _ _ _ _ _=>(pe_callF G_ratio (hr.mono (by decide)) (by rfl) (pa_cons (pv 0) (pa_cons (pe_ix ix_tupH (pv 1) pe_int (fun _ _=>rfl)) pa_nil))))))))),?_⟩
  unfold sp_ratio
  walk_at "rd"
  refine tCompG1_list ?_
  walk_at "rd"
  refine ⟨_,hl,by rw [lr.len]; exact Nat.le_trans hn (by decide),fun D1 hD=>⟨jO D1 rs H,⟨Same.upd hD,upd_same,⟨rfl,fun k v e=>by simp at e⟩,by simp⟩,?_,?_⟩⟩
  ·rintro k v zs Hc hk ⟨S1,hD1,fr,nw⟩ hzl hlc
   have hkr:k < rs.length:=by rw [← lr.len]; exact (List.getElem?_eq_some_iff.mp hk).1
   have er:rs[k]? = some rs[k]:=List.getElem?_eq_getElem hkr
   have era:rowAt rs k = rs[k]:=by unfold rowAt; rw [List.getD_eq_getElem?_getD,er]; rfl
   obtain ⟨t,l1,rfl,ht,hl1⟩:=lr.at_ k v hk
   rw [era] at ht hl1
   have bk:=bn _ (List.getElem_mem hkr)
   generalize rs[k] = r at *
   refine tCompG1_list ?_
   walk_at "rd"
   have p0:=bk.1.pos
   refine ⟨_,S1 _ _ ht,_,atI_0,l1,rfl,_,S1 _ _ hl1,by rw [List.length_map,bk.2]; exact Nat.le_trans h64 (by decide),fun D2 hD2=>⟨jI D2 r Hc,⟨Same.upd hD2,upd_same,.nil⟩,?_,?_⟩⟩
   ·rintro j x ys H2 hj ⟨S2,hd2,fl⟩ hyl hl2
    rw [List.getElem?_map] at hj
    cases et:r.1[j]? with
    | none=>rw [et] at hj; cases hj
    | some t0 =>
     rw [et] at hj
     cases hj
     refine ⟨_,S2 _ _ (S1 _ _ ht),_,atI_1,t0,rfl,_,rfl,by omega,bdN bk.1.bot,fun p x y lo hp=>?_⟩
     have T1:Same H2 (upd H2 p (.tup [.int x,.int y])):=Same.upd hp
     have e1:upd H2 p (.tup [.int x,.int y]) p = some (.tup [.int x,.int y]):=upd_same
     generalize upd H2 p (.tup [.int x,.int y]) = H3 at T1 e1 ⊢
     obtain ⟨ex,ey⟩:=Ac.is_lw (t:=t0) (b:=r.2) p0 lo.pos lo.gcd lo.eq
     have en:(rep r)[j]? = some (x,y):=by
      unfold rep
      rw [List.getElem?_map,et]
      show some (Ac.lw t0 r.2) = _
      rw [ex,ey]
     refine ⟨T1 _ _ hd2,T1 _ _ hl2,?_,upd_same,?_⟩
     ·intro b' o' e'
      rw [upd_ne (ne_of_none e' hD2)]
      exact T1 _ _ (S2 _ _ e')
     ·rw [take_next en]
      exact ((fl.same T1).updL (T1 _ _ hd2)).append (.one ((upd_ne (ne_of e1 (T1 _ _ hd2) (by intro z; cases z))).trans e1))
   ·rintro ys H2 ⟨S2,hd2,fl⟩ hyl
    have ek:(rep r).take (r.1.map V.int).length = rep r:=List.take_of_length_le (by unfold rep; rw [List.length_map,List.length_map]; exact Nat.le_refl _)
    rw [ek] at fl
    have nD:D1 ≠ D2:=ne_of_none hD1 hD2
    have hDn:H D2 = none:=S1.free hD2
    refine ⟨S2 _ _ hD1,S2 _ _ hlc,?_,upd_same,?_,?_⟩
    ·intro b' o' e'
     rw [upd_ne (ne_of_none e' hD)]
     exact S2 _ _ (S1 _ _ e')
    ·rw [take_next er,List.map_append]
     refine FRs.snoc (FRs.updL (S2 _ _ hD1) (fr.same S2) fun j' l' e'=>(nw j' l' e').2) ((upd_ne nD.symm).trans hd2) (fl.updL (S2 _ _ hD1))
    ·intro j' a' e'
     by_cases hj':j' < zs.length
     ·rw [List.getElem?_append_left hj'] at e'
      exact nw j' a' e'
     ·rw [List.getElem?_append_right (by omega)] at e'
      have e0:j' - zs.length = 0:=by
       cases e1:j' - zs.length with
       | zero=>rfl
       | succ m=>rw [e1] at e'; simp at e'
      rw [e0,List.getElem?_cons_zero] at e'
      cases e'
      exact ⟨hDn,nD.symm⟩
  ·rintro zs Hc ⟨S1,hD1,fr,nw⟩ hzl
   rw [lr.len,List.take_length] at fr
   exact q D1 zs Hc S1 hD hD1 fr nw
open Rw
def lvR (fs:List (Int × Int)):Row:=(lvT fs,(lvB fs:Nat))
theorem lvR_rep {fs:List (Int × Int)} (h:∀ f ∈ fs,Fq f):rep (lvR fs) = fs:=by
  unfold rep lvR lvT
  rw [List.map_map]
  have e:∀ f ∈ fs,((fun t=>Ac.lw t ((lvB fs:Nat):Int)) ∘ fun f=>f.1 * ((lvB fs:Nat) / f.2)) f = f:=fun f hf=>by
    have p:=lvB_pos h
    have q:=h f hf
    have k:=lw_congr (n:=f.1 * ((lvB fs:Nat) / f.2)) (d:=(lvB fs:Nat)) (n':=f.1) (d':=f.2) (by omega) q.pos (top_eq hf q)
    show Ac.lw _ _ = f
    rw [k,lw_of_low q.pos q.gcd]
  calc _ = fs.map id:=List.map_congr_left fun f hf=>e f hf
    _ = fs:=List.map_id fs
theorem lvR_len (fs:List (Int × Int)):(lvR fs).1.length = fs.length:=by unfold lvR lvT; rw [List.length_map]
def fAt (fss:List (List (Int × Int))) (i:Nat):List (Int × Int):=fss.getD i []
def stepF (fss:List (List (Int × Int))):Stp→List (List (Int × Int))
 | .swap i j=>(fss.set i (fAt fss j)).set j (fAt fss i)
 | .times i c=>fss.set i ((fAt fss i).map fun f=>Ac.lw (c.1 * f.1) (c.2 * f.2))
 | .add i j c=>fss.set i (List.zipWith (sumF c) (fAt fss i) (fAt fss j))
theorem fAt_map {rs:List Row} {i:Nat} (h:i < rs.length):fAt (rs.map rep) i = rep (rowAt rs i):=by
 unfold fAt rowAt
 rw [List.getD_eq_getElem?_getD,List.getD_eq_getElem?_getD,List.getElem?_map,List.getElem?_eq_getElem h]; rfl
theorem rowAt_mem {rs:List Row} {i:Nat} (h:i < rs.length):rowAt rs i ∈ rs:=by
 unfold rowAt
 rw [List.getD_eq_getElem?_getD,List.getElem?_eq_getElem h]; exact List.getElem_mem h
theorem step_rep {rs:List Row} {st:Stp} (h:∀ r ∈ rs,0 < r.2) (ok:StpN rs.length st):(stepR rs st).map rep = stepF (rs.map rep) st:=by
 cases st with
 | swap i j =>
  obtain ⟨hi,hj⟩:=ok
  show ((rs.set i (rowAt rs j)).set j (rowAt rs i)).map rep = ((rs.map rep).set i (fAt (rs.map rep) j)).set j (fAt (rs.map rep) i)
  rw [List.map_set,List.map_set,fAt_map hi,fAt_map hj]
 | times i c =>
  obtain ⟨hi,sc⟩:=ok
  show (rs.set i (redR (timesR (rowAt rs i) c))).map rep = (rs.map rep).set i ((fAt (rs.map rep) i).map fun f=>Ac.lw (c.1 * f.1) (c.2 * f.2))
  have p:=h _ (rowAt_mem hi)
  rw [List.map_set,red_rep (Int.mul_pos p sc.pos),times_rep p sc.pos,fAt_map hi]
 | add i j c =>
  obtain ⟨hi,hj,sc⟩:=ok
  show (rs.set i (redR (plusR (rowAt rs i) (rowAt rs j) c))).map rep = (rs.map rep).set i (List.zipWith (sumF c) (fAt (rs.map rep) i) (fAt (rs.map rep) j))
  have p:=h _ (rowAt_mem hi)
  have p2:=h _ (rowAt_mem hj)
  have pp:0 < (plusR (rowAt rs i) (rowAt rs j) c).2:=by
   have hB:=Int.mul_pos p2 sc.pos
   exact Int.mul_pos p (Int.ediv_pos_of_pos_of_dvd hB (Int.le_of_lt (Ac.gpos hB)) (Int.gcd_dvd_right _ _))
  rw [List.map_set,red_rep pp,plus_rep p p2 sc.pos,fAt_map hi,fAt_map hj]
def runF (fss:List (List (Int × Int))) (ss:List Stp):List (List (Int × Int)):=ss.foldl stepF fss
def jW (D1:Addr) (fss:List (List (Int × Int))) (H:Hp) (k:Nat) (zs:List V) (Hc:Hp):Prop:=Same H Hc∧Hc D1 = some (.lst zs)∧zs.length = ((fss.take k).map lvR).length∧∀ (j:Nat) (v:V),zs[j]? = some v→∃ t lr,v = .ref t∧Hc t = some (.tup [.ref lr,.int (rowAt ((fss.take k).map lvR) j).2])∧Hc lr = some (.lst ((rowAt ((fss.take k).map lvR) j).1.map V.int))∧lr ≠ D1
theorem rowAt_left {rs:List Row} {r:Row} {j:Nat} (h:j < rs.length):rowAt (rs ++ [r]) j = rowAt rs j:=by
 unfold rowAt
 rw [List.getD_eq_getElem?_getD,List.getD_eq_getElem?_getD,List.getElem?_append_left h]
theorem rowAt_last {rs:List Row} {r:Row} : rowAt (rs ++ [r]) rs.length = r:=by
 unfold rowAt
 rw [List.getD_eq_getElem?_getD,List.getElem?_append_right (Nat.le_refl _),Nat.sub_self]; rfl
open Rw
def TK (w:Nat) (rs zs:List Row):Prop:=(rs.map rep).map (List.take w) = (zs.map rep).map (List.take w)
theorem fAt_take {w:Nat} {fss:List (List (Int × Int))} {i:Nat} : fAt (fss.map (List.take w)) i = (fAt fss i).take w:=by
 unfold fAt
 rw [List.getD_eq_getElem?_getD,List.getD_eq_getElem?_getD,List.getElem?_map]
 cases fss[i]? with
 | none=>exact List.take_nil.symm
 | some x=>rfl
theorem fAt_drop {w:Nat} {fss:List (List (Int × Int))} {i:Nat} : fAt (fss.map (List.drop w)) i = (fAt fss i).drop w:=by
 unfold fAt
 rw [List.getD_eq_getElem?_getD,List.getD_eq_getElem?_getD,List.getElem?_map]
 cases fss[i]? with
 | none=>exact List.drop_nil.symm
 | some x=>rfl
theorem stepF_take {w:Nat} {fss:List (List (Int × Int))} : ∀ {s:Stp},(stepF fss s).map (List.take w) = stepF (fss.map (List.take w)) s
 | .swap i j=>by
  show ((fss.set i (fAt fss j)).set j (fAt fss i)).map (List.take w) = ((fss.map (List.take w)).set i (fAt (fss.map (List.take w)) j)).set j (fAt (fss.map (List.take w)) i)
  rw [List.map_set,List.map_set,fAt_take,fAt_take]
 | .times i c=>by
  show (fss.set i _).map (List.take w) = (fss.map (List.take w)).set i _
  rw [List.map_set,fAt_take,List.map_take]
 | .add i j c=>by
  show (fss.set i _).map (List.take w) = (fss.map (List.take w)).set i _
  rw [List.map_set,fAt_take,fAt_take,List.take_zipWith]
theorem stepF_drop {w:Nat} {fss:List (List (Int × Int))} : ∀ {s:Stp},(stepF fss s).map (List.drop w) = stepF (fss.map (List.drop w)) s
 | .swap i j=>by
  show ((fss.set i (fAt fss j)).set j (fAt fss i)).map (List.drop w) = ((fss.map (List.drop w)).set i (fAt (fss.map (List.drop w)) j)).set j (fAt (fss.map (List.drop w)) i)
  rw [List.map_set,List.map_set,fAt_drop,fAt_drop]
 | .times i c=>by
  show (fss.set i _).map (List.drop w) = (fss.map (List.drop w)).set i _
  rw [List.map_set,fAt_drop,List.map_drop]
 | .add i j c=>by
  show (fss.set i _).map (List.drop w) = (fss.map (List.drop w)).set i _
  rw [List.map_set,fAt_drop,fAt_drop,List.drop_zipWith]
theorem AllB.pre {N wd:Nat} {rs:List Row} {ss ts:List Stp} (h:AllB N wd rs (ss ++ ts)):AllB N wd rs ss:=fun k=>by
 by_cases e:k ≤ ss.length
 ·have:=h k
  rw [List.take_append_of_le_length e] at this
  exact this
 ·have:=h ss.length
  rw [List.take_append_of_le_length (Nat.le_refl _),List.take_length] at this
  rw [List.take_of_length_le (by omega)]
  exact this
theorem AllB.suf {N wd:Nat} {rs:List Row} {ss ts:List Stp} (h:AllB N wd rs (ss ++ ts)):AllB N wd (runR rs ss) ts:=fun k=>by
 have:=h (ss.length + k)
 rw [List.take_length_add_append,runR_app] at this
 exact this
theorem AllB.end_ {N wd:Nat} {rs:List Row} {ss:List Stp} (h:AllB N wd rs ss):∀ r ∈ runR rs ss,Big N r∧r.1.length = wd:=by
 have:=h ss.length
 rw [List.take_length] at this
 exact this
theorem run_length:∀ {ss:List Stp} {rs:List Row},(runR rs ss).length = rs.length
 | [],_=>rfl
 | s :: ss,rs=>by
  show (runR (stepR rs s) ss).length = _
  rw [run_length,stepR_length]
theorem run_rep {N wd:Nat} : ∀ {ss:List Stp} {rs:List Row},AllB N wd rs ss→(∀ s ∈ ss,StpN rs.length s)→(runR rs ss).map rep = runF (rs.map rep) ss
 | [],_,_,_=>rfl
 | s :: ss,rs,ab,ok=>by
  have h0:∀ r ∈ rs,0 < r.2:=fun r hr=>(ab 0 r hr).1.pos
  show (runR (stepR rs s) ss).map rep = runF (stepF (rs.map rep) s) ss
  rw [run_rep (ss:=ss) (rs:=stepR rs s) (fun k=>ab (k + 1)) (fun z hz=>by rw [stepR_length]; exact ok z (List.mem_cons_of_mem _ hz)),step_rep h0 (ok s List.mem_cons_self)]
theorem runF_take {w:Nat} : ∀ {ss:List Stp} {fss:List (List (Int × Int))},(runF fss ss).map (List.take w) = runF (fss.map (List.take w)) ss
 | [],_=>rfl
 | s :: ss,fss=>by
  show (runF (stepF fss s) ss).map (List.take w) = runF (stepF (fss.map (List.take w)) s) ss
  rw [runF_take,stepF_take]
theorem runF_drop {w:Nat} : ∀ {ss:List Stp} {fss:List (List (Int × Int))},(runF fss ss).map (List.drop w) = runF (fss.map (List.drop w)) ss
 | [],_=>rfl
 | s :: ss,fss=>by
  show (runF (stepF fss s) ss).map (List.drop w) = runF (stepF (fss.map (List.drop w)) s) ss
  rw [runF_drop,stepF_drop]
theorem tk_run {w N M wd wd':Nat} {ss:List Stp} {rs zs:List Row} (a:AllB N wd rs ss) (b:AllB M wd' zs ss) (hl:zs.length = rs.length) (ok:∀ s ∈ ss,StpN rs.length s) (h:TK w rs zs):TK w (runR rs ss) (runR zs ss):=by
 unfold TK at h ⊢
 rw [run_rep a ok,run_rep b (fun s hs=>by rw [hl]; exact ok s hs),runF_take,runF_take,h]
theorem lw_cross {t b t' b':Int} (hb:0 < b) (hb':0 < b') (e:Ac.lw t b = Ac.lw t' b'):t * b' = t' * b:=by
  have e1:=Ac.lw_eq (t:=t) hb
  have e2:=Ac.lw_eq (t:=t') hb'
  have p:=Ac.lw_pos (t:=t) hb
  rw [← e] at e2
  generalize Ac.lw t b = x at *
  refine Int.eq_of_mul_eq_mul_right (Int.ne_of_gt p) ?_
  calc t * b' * x.2 = (t * x.2) * b':=by ac_rfl
    _ = x.1 * b * b':=by rw [e1]
    _ = (x.1 * b') * b:=by ac_rfl
    _ = t' * x.2 * b:=by rw [e2]
    _ = t' * b * x.2:=by ac_rfl
theorem TK.at_ {w i k:Nat} {rs zs:List Row} {t t':Int} (h:TK w rs zs) (hi:i < rs.length) (hz:i < zs.length) (hk:k < w) (pr:0 < (rowAt rs i).2) (pz:0 < (rowAt zs i).2) (e:(rowAt rs i).1[k]? = some t) (e':(rowAt zs i).1[k]? = some t'):t * (rowAt zs i).2 = t' * (rowAt rs i).2:=by
 have g:∀ {xs:List Row} {x:Int},i < xs.length→(rowAt xs i).1[k]? = some x→((xs.map rep).map (List.take w))[i]?.map (fun l=>l[k]?) = some (some (Ac.lw x (rowAt xs i).2)):=fun {xs x} hx ex=>by
  have er:xs[i]? = some (rowAt xs i):=by unfold rowAt; rw [List.getD_eq_getElem?_getD,List.getElem?_eq_getElem hx]; rfl
  rw [List.getElem?_map,List.getElem?_map,er]
  show some (((rep (rowAt xs i)).take w)[k]?) = _
  rw [List.getElem?_take_of_lt hk]
  unfold rep
  rw [List.getElem?_map,ex]; rfl
 have a:=g hi e
 have b:=g hz e'
 unfold TK at h
 rw [h,b] at a
 exact lw_cross pr pz (Option.some.inj (Option.some.inj a)).symm
open Rw
abbrev MB (m N:Nat):Nat:=(2 * m * N) ^ m
def aT (rs0:List Row) (i j:Nat):Int:=(rowAt rs0 i).1.getD j 0
def aB (rs0:List Row) (i:Nat):Int:=(rowAt rs0 i).2
structure St17 (rs0 rs:List Row) (wd N p:Nat):Prop where
 len:rs.length = rs0.length
 row:∀ r ∈ rs,0 < r.2∧r.1.length = wd∧(gcL r.1 r.2 = 1∨Big N r)
 st:∃ pv s,Stage (aT rs0) (aB rs0) rs0.length wd (fun i j=>vr (rowAt rs i) j) p pv s
theorem St17.zero {rs0:List Row} {wd N:Nat} (hb:∀ r ∈ rs0,Big N r∧r.1.length = wd):St17 rs0 rs0 wd N 0 :=
 ⟨rfl,fun r hr=>⟨(hb r hr).1.pos,(hb r hr).2,.inr (hb r hr).1⟩,fun _=>0,id,Stage.zero fun i hi=>(hb _ (rowAt_in hi)).1.pos⟩
theorem n_mb {m N:Nat} (hm:1 ≤ m) (h1:1 ≤ N):N ≤ MB m N:=by
  have x:N ≤ 2 * m * N:=Nat.le_mul_of_pos_left _ (by omega)
  have y:1 ≤ 2 * m * N:=Nat.mul_le_mul (show 1 ≤ 2 * m by omega) h1
  calc N ≤ (2 * m * N) ^ 1:=by rw [Nat.pow_one]; exact x
    _ ≤ _:=Nat.pow_le_pow_right y hm
theorem aT_big {rs0:List Row} {wd N:Nat} (hb:∀ r ∈ rs0,Big N r∧r.1.length = wd):∀ i j,i < rs0.length→j < wd→(aT rs0 i j).natAbs ≤ N:=fun i j hi hj=>by
 unfold aT
 have b:=hb _ (rowAt_in hi)
 rw [List.getD_eq_getElem?_getD,List.getElem?_eq_getElem (by rw [b.2]; exact hj)]
 exact b.1.top _ (List.getElem_mem _)
theorem aB_big {rs0:List Row} {wd N:Nat} (hb:∀ r ∈ rs0,Big N r∧r.1.length = wd):∀ i,i < rs0.length→0 < aB rs0 i∧(aB rs0 i).natAbs ≤ N:=fun i hi=>⟨(hb _ (rowAt_in hi)).1.pos,(hb _ (rowAt_in hi)).1.bot⟩
theorem St17.big {rs0 rs:List Row} {wd N p:Nat} (h:St17 rs0 rs wd N p) (hb:∀ r ∈ rs0,Big N r∧r.1.length = wd) (h1:1 ≤ N):∀ r ∈ rs,Big (MB rs0.length N) r∧r.1.length = wd:=fun r hr=>by
 obtain ⟨r0,rw_,lo⟩:=h.row r hr
 obtain ⟨i,hi,rfl⟩:=mem_rowAt hr
 refine ⟨?_,rw_⟩
 rcases lo with g | g
 ·obtain ⟨pv,s,st⟩:=h.st
  obtain ⟨v,u,u0,ub,vb,e⟩:=st.bound h1 (aT_big hb) (aB_big hb) (i:=i) (by rw [← h.len]; exact hi)
  exact row_big r0 g rw_ u0 ub vb e
 ·exact g.le (n_mb (by have:=h.len; omega) h1)
theorem begun_rows {rs:List Row} {p q k:Nat} {new:List Stp} (bs:BStep rs p q k new) (hp:p < rs.length) (hq:q < rs.length):(runR rs new).length = rs.length∧(∀ i,i < rs.length→i ≠ p→rowAt (runR rs new) i = rowAt rs (sw p q i)) ∧
  ((rowAt (runR rs new) p = rowAt rs q∧(rowAt rs q).1[k]? = some (rowAt rs q).2)∨∃ c:Int × Int,rowAt (runR rs new) p = redR (timesR (rowAt rs q) c)∧0 < c.2∧c.1 * topAt rs q k = c.2 * (rowAt rs q).2):=by
 obtain ⟨sw',tm,rfl,hs,ht⟩:=bs
 have h1:(runR rs sw').length = rs.length∧∀ i,i < rs.length→rowAt (runR rs sw') i = rowAt rs (sw p q i):=by
  rcases hs with ⟨rfl,rfl⟩ | rfl
  ·refine ⟨rfl,fun i _=>?_⟩
   unfold sw
   by_cases e:i = q
   ·rw [if_pos e,e]; rfl
   ·rw [if_neg e,if_neg e]; rfl
  ·refine ⟨run_length,fun i _=>?_⟩
   show rowAt ((rs.set p (rowAt rs q)).set q (rowAt rs p)) i = _
   rw [rowAt_set (by rw [List.length_set]; exact hq),rowAt_set hp]
   unfold sw
   by_cases e1:i = p
   ·subst e1
    by_cases e2:i = q
    ·subst e2; rw [if_pos rfl,if_pos rfl]
    ·rw [if_neg e2,if_pos rfl,if_pos rfl]
   ·by_cases e2:i = q
    ·subst e2; rw [if_pos rfl,if_neg e1,if_pos rfl]
    ·rw [if_neg e2,if_neg e1,if_neg e1,if_neg e2]
 have sp:sw p q p = q:=by unfold sw; rw [if_pos rfl]
 rw [runR_app]
 rcases ht with ⟨rfl,ho⟩ | ⟨c,rfl,hc,hk⟩
 ·exact ⟨h1.1,fun i hi _=>h1.2 i hi,.inl ⟨by show rowAt (runR rs sw') p = _; rw [h1.2 p hp,sp],ho⟩⟩
 ·have hp':p < (runR rs sw').length:=by rw [h1.1]; exact hp
  have at_:∀ i,rowAt (runR (runR rs sw') [.times p c]) i = if i = p then redR (timesR (rowAt (runR rs sw') p) c) else rowAt (runR rs sw') i:=fun i=>rowAt_set hp'
  refine ⟨by rw [run_length]; exact h1.1,fun i hi ne=>by rw [at_,if_neg ne]; exact h1.2 i hi,.inr ⟨c,?_,hc,hk⟩⟩
  rw [at_,if_pos rfl,h1.2 p hp,sp]
def nx17 (rs:List Row) (p k:Nat) (i j:Nat):Rat:=if i = p then vr (rowAt rs p) j else vr (rowAt rs i) j - vr (rowAt rs i) k * vr (rowAt rs p) j
theorem vr_ne {r:Row} {k:Nat} (h:0 < r.2) (ht:r.1.getD k 0 ≠ 0):vr r k ≠ 0:=by
 have:=cast_ne (Int.ne_of_gt h)
 have:=cast_ne ht
 unfold vr
 grind
theorem vr_one {r:Row} {k:Nat} (h:0 < r.2) (ht:r.1[k]? = some r.2):vr r k = 1:=by
 have:=cast_ne (Int.ne_of_gt h)
 unfold vr
 rw [List.getD_eq_getElem?_getD,ht]
 show (r.2:Rat) / (r.2:Rat) = 1
 grind
theorem vr_at {r:Row} {k:Nat} {a:Int} (ht:r.1[k]? = some a):vr r k = (a:Rat) / (r.2:Rat):=by
 unfold vr
 rw [List.getD_eq_getElem?_getD,ht]; rfl
theorem c_vr {r:Row} {k:Nat} {a:Int} {c:Int × Int} (h:0 < r.2) (ht:r.1[k]? = some a) (hc:0 < c.2) (e:c.1 * r.2 = -a * c.2):(c.1:Rat) / (c.2:Rat) = -(vr r k):=by
 have h1:=cast_ne (Int.ne_of_gt h)
 have h2:=cast_ne (Int.ne_of_gt hc)
 have h3:(c.1:Rat) * (r.2:Rat) = -(a:Rat) * (c.2:Rat):=by rw [← Rat.intCast_mul,e,Rat.intCast_mul,Rat.intCast_neg]
 rw [vr_at ht]
 grind
theorem t_vr {r:Row} {k:Nat} {c:Int × Int} (h:0 < r.2) (hc:0 < c.2) (e:c.1 * r.1.getD k 0 = c.2 * r.2):(c.1:Rat) / (c.2:Rat) * vr r k = 1:=by
 have h1:=cast_ne (Int.ne_of_gt h)
 have h2:=cast_ne (Int.ne_of_gt hc)
 have h3:(c.1:Rat) * ((r.1.getD k 0:Int):Rat) = (c.2:Rat) * (r.2:Rat):=by rw [← Rat.intCast_mul,e,Rat.intCast_mul]
 unfold vr
 grind
theorem sw_lt {p q i m:Nat} (hp:p < m) (hq:q < m) (hi:i < m):sw p q i < m:=by
 unfold sw
 split
 ·exact hq
 ·split <;> omega
theorem St17.stage {rs0 rs:List Row} {wd N p q k:Nat} {new:List Stp} (h:St17 rs0 rs wd N p) (hb:∀ r ∈ rs0,Big N r∧r.1.length = wd) (hp:p < rs0.length) (hpq:p ≤ q) (hq:q < rs0.length) (hk:k < wd) (ht:topAt rs q k ≠ 0) (bs:BStep rs p q k new) :
  (∃ pv s,Stage (aT rs0) (aB rs0) rs0.length wd (nx17 (runR rs new) p k) (p + 1) pv s)∧(runR rs new).length = rs0.length∧∀ r ∈ runR rs new,0 < r.2∧r.1.length = wd∧(gcL r.1 r.2 = 1∨Big N r):=by
 have ln:=h.len
 obtain ⟨bl,bo,bp⟩:=begun_rows bs (by omega) (by omega)
 have rq:=h.row _ (rowAt_in (show q < rs.length by omega))
 have pr:0 < (rowAt (runR rs new) p).2∧(rowAt (runR rs new) p).1.length = wd∧(gcL (rowAt (runR rs new) p).1 (rowAt (runR rs new) p).2 = 1∨Big N (rowAt (runR rs new) p))∧∀ j,vr (rowAt (runR rs new) p) j * vr (rowAt rs q) k = vr (rowAt rs q) j:=by
  rcases bp with ⟨e,ho⟩ | ⟨c,e,hc,ec⟩
  ·rw [e]
   refine ⟨rq.1,rq.2.1,rq.2.2,fun j=>?_⟩
   rw [vr_one rq.1 ho,Rat.mul_one]
  ·rw [e]
   have tp:0 < (timesR (rowAt rs q) c).2:=Int.mul_pos rq.1 hc
   refine ⟨Int.ediv_pos_of_pos_of_dvd tp (Int.le_of_lt (gcL_pos tp)) gcL_dvd.1,by rw [red_len]; unfold timesR; rw [List.length_map]; exact rq.2.1,.inl (gcL_red tp),fun j=>?_⟩
   rw [vr_red tp,vr_times rq.1 hc,Rat.mul_assoc,t_vr rq.1 hc ec,Rat.mul_one]
 refine ⟨?_,by rw [bl,ln],fun r hr=>?_⟩
 ·obtain ⟨pv,s,st⟩:=h.st
  have s1:=st.swap hpq hq (R':=fun i j=>vr (rowAt rs (sw p q i)) j) fun i j _ _=>rfl
  have spp:sw p q p = q:=by unfold sw; rw [if_pos rfl]
  refine ⟨_,_,s1.pivot hp (fun i hi=>(aB_big hb i hi).1) hk (by show vr (rowAt rs (sw p q p)) k ≠ 0; rw [spp]; exact vr_ne rq.1 ht) (R':=nx17 (runR rs new) p k) (fun j _=>?_) fun i j hi ne _=>?_⟩
  ·show nx17 (runR rs new) p k p j * vr (rowAt rs (sw p q p)) k = vr (rowAt rs (sw p q p)) j
   unfold nx17
   rw [if_pos rfl,spp]
   exact pr.2.2.2 j
  ·show nx17 (runR rs new) p k i j = vr (rowAt rs (sw p q i)) j - vr (rowAt rs (sw p q i)) k * nx17 (runR rs new) p k p j
   unfold nx17
   rw [if_neg ne,if_pos rfl,bo i (by omega) ne]
 ·obtain ⟨i,hi,rfl⟩:=mem_rowAt hr
  rw [bl] at hi
  by_cases e:i = p
  ·rw [e]; exact ⟨pr.1,pr.2.1,pr.2.2.1⟩
  ·rw [bo i hi e]
   exact h.row _ (rowAt_in (sw_lt (by omega) (by omega) hi))
theorem clear_row {rs0 rs1:List Row} {wd N p k:Nat} (hb:∀ r ∈ rs0,Big N r∧r.1.length = wd) (h1:1 ≤ N) (hs:∃ pv s,Stage (aT rs0) (aB rs0) rs0.length wd (nx17 rs1 p k) (p + 1) pv s) (hl:rs1.length = rs0.length) (hr:∀ r ∈ rs1,0 < r.2∧r.1.length = wd) (hp:p < rs0.length) {i:Nat} {a:Int} {c:Int × Int} (ne:i ≠ p) (hi:i < rs1.length) (ha:(rowAt rs1 i).1[k]? = some a) (hc:0 < c.2) (e:c.1 * (rowAt rs1 i).2 = -a * c.2) :
  0 < (redR (plusR (rowAt rs1 i) (rowAt rs1 p) c)).2∧(redR (plusR (rowAt rs1 i) (rowAt rs1 p) c)).1.length = wd∧gcL (redR (plusR (rowAt rs1 i) (rowAt rs1 p) c)).1 (redR (plusR (rowAt rs1 i) (rowAt rs1 p) c)).2 = 1∧(∀ j,vr (redR (plusR (rowAt rs1 i) (rowAt rs1 p) c)) j = nx17 rs1 p k i j)∧Big (MB rs0.length N) (redR (plusR (rowAt rs1 i) (rowAt rs1 p) c)):=by
 have ri:=hr _ (rowAt_in hi)
 have rp:=hr _ (rowAt_in (show p < rs1.length by omega))
 have tp:0 < (plusR (rowAt rs1 i) (rowAt rs1 p) c).2:=by
  have hB:=Int.mul_pos rp.1 hc
  have g0:=Ac.gpos (t:=(rowAt rs1 i).2) hB
  exact Int.mul_pos ri.1 (Int.ediv_pos_of_pos_of_dvd hB (Int.le_of_lt g0) (Int.gcd_dvd_right _ _))
 have pw:(redR (plusR (rowAt rs1 i) (rowAt rs1 p) c)).1.length = wd:=by
  rw [red_len]; unfold plusR; rw [List.length_zipWith,ri.2,rp.2,Nat.min_self]
 have pp:0 < (redR (plusR (rowAt rs1 i) (rowAt rs1 p) c)).2:=Int.ediv_pos_of_pos_of_dvd tp (Int.le_of_lt (gcL_pos tp)) gcL_dvd.1
 have pv:∀ j,vr (redR (plusR (rowAt rs1 i) (rowAt rs1 p) c)) j = nx17 rs1 p k i j:=fun j=>by
  rw [vr_red tp,vr_plus ri.1 rp.1 hc (by rw [ri.2,rp.2]),c_vr ri.1 ha hc e]
  unfold nx17
  rw [if_neg ne]
  grind
 refine ⟨pp,pw,gcL_red tp,pv,?_⟩
 obtain ⟨v',s,st⟩:=hs
 obtain ⟨v,u,u0,ub,vb,ee⟩:=st.bound h1 (aT_big hb) (aB_big hb) (i:=i) (by omega)
 exact row_big pp (gcL_red tp) pw u0 ub vb fun j hj=>by rw [pv]; exact ee j hj
theorem adds_rows {rs:List Row} {p k M wd:Nat} (hb:∀ r ∈ rs,Big M r∧r.1.length = wd) (hp:p < rs.length) (hcl:∀ i a (c:Int × Int),i ≠ p→i < rs.length→(rowAt rs i).1[k]? = some a→0 < c.2→c.1 * (rowAt rs i).2 = -a * c.2→Big M (redR (plusR (rowAt rs i) (rowAt rs p) c))∧(redR (plusR (rowAt rs i) (rowAt rs p) c)).1.length = wd):∀ {n:Nat} {ss:List Stp},Adds rs p k n ss →
  (runR rs ss).length = rs.length∧AllB M wd rs ss∧(∀ i,i < rs.length→(n ≤ i∨i = p)→rowAt (runR rs ss) i = rowAt rs i)∧∀ i,i < rs.length→i < n→i ≠ p→(rowAt (runR rs ss) i = rowAt rs i∧(rowAt rs i).1[k]? = some 0)∨∃ (c:Int × Int) (a:Int),rowAt (runR rs ss) i = redR (plusR (rowAt rs i) (rowAt rs p) c)∧(rowAt rs i).1[k]? = some a∧0 < c.2∧c.1 * (rowAt rs i).2 = -a * c.2:=by
 intro n ss h
 induction h with
 | nil=>exact ⟨rfl,AllB.nil hb,fun _ _ _=>rfl,fun i _ hi=>absurd hi (Nat.not_lt_zero _)⟩
 | @skip n ss h hz ih =>
  obtain ⟨i1,i2,i3,i4⟩:=ih
  refine ⟨i1,i2,fun i hi hn=>i3 i hi (by omega),fun i hi hn ne=>?_⟩
  by_cases e:i < n
  ·exact i4 i hi e ne
  ·have e:i = n:=by omega
   subst e
   rcases hz with z | z
   ·exact absurd z ne
   ·exact .inl ⟨i3 i hi (.inl (Nat.le_refl _)),z⟩
 | @add n ss c a h ne hn ha hc e ih =>
  obtain ⟨i1,i2,i3,i4⟩:=ih
  have hn':n < (runR rs ss).length:=by rw [i1]; exact hn
  have rn:rowAt (runR rs ss) n = rowAt rs n:=i3 n hn (.inl (Nat.le_refl _))
  have rp:rowAt (runR rs ss) p = rowAt rs p:=i3 p hp (.inr rfl)
  have at_:∀ i,rowAt (runR rs (ss ++ [.add n p c])) i = if i = n then redR (plusR (rowAt rs n) (rowAt rs p) c) else rowAt (runR rs ss) i:=fun i=>by
   rw [runR_snoc]
   have:rowAt (stepR (runR rs ss) (.add n p c)) i = if i = n then redR (plusR (rowAt (runR rs ss) n) (rowAt (runR rs ss) p) c) else rowAt (runR rs ss) i:=rowAt_set hn'
   rw [this,rn,rp]
  have ln:(runR rs (ss ++ [.add n p c])).length = rs.length:=by rw [runR_snoc,stepR_length]; exact i1
  refine ⟨ln,i2.snoc fun r hr=>?_,fun i hi hni=>?_,fun i hi hni nei=>?_⟩
  ·rw [← runR_snoc] at hr
   obtain ⟨i,hi,rfl⟩:=mem_rowAt hr
   rw [at_]
   by_cases z:i = n
   ·rw [if_pos z]; exact hcl n a c ne hn ha hc e
   ·rw [if_neg z]
    exact i2.end_ _ (rowAt_in (by rw [ln] at hi; rw [i1]; exact hi))
  ·rw [at_,if_neg (by omega)]
   exact i3 i hi (by omega)
  ·by_cases z:i = n
   ·rw [at_,if_pos z,z]
    exact .inr ⟨c,a,rfl,ha,hc,e⟩
   ·rw [at_,if_neg z]
    exact i4 i hi (by omega) nei
theorem St17.next {rs0 rs:List Row} {wd N p q k:Nat} {n2 n3:List Stp} (h:St17 rs0 rs wd N p) (hb:∀ r ∈ rs0,Big N r∧r.1.length = wd) (h1:1 ≤ N) (hp:p < rs0.length) (hpq:p ≤ q) (hq:q < rs0.length) (hk:k < wd) (ht:topAt rs q k ≠ 0) (bs:BStep rs p q k n2) (ad:Adds (runR rs n2) p k rs0.length n3) :
  St17 rs0 (runR (runR rs n2) n3) wd N (p + 1)∧AllB (MB rs0.length N) wd (runR rs n2) n3:=by
 obtain ⟨st,bl,br⟩:=h.stage hb hp hpq hq hk ht bs
 have hbM:∀ r ∈ runR rs n2,Big (MB rs0.length N) r∧r.1.length = wd:=by
  intro r hr
  obtain ⟨i,hi,rfl⟩:=mem_rowAt hr
  obtain ⟨b0,b1,b2⟩:=br _ hr
  refine ⟨?_,b1⟩
  rcases b2 with g | g
  ·by_cases e:i = p
   ·subst e
    obtain ⟨v',s,st⟩:=st
    obtain ⟨v,u,u0,ub,vb,ee⟩:=st.bound h1 (aT_big hb) (aB_big hb) (i:=i) hp
    exact row_big b0 g b1 u0 ub vb fun j hj=>by have:=ee j hj; unfold nx17 at this; rw [if_pos rfl] at this; exact this
   ·obtain ⟨_,bo,_⟩:=begun_rows bs (by have:=h.len; omega) (by have:=h.len; omega)
    have hi':i < rs.length:=by have:=h.len; omega
    rw [bo i hi' e]
    exact (h.big hb h1 _ (rowAt_in (sw_lt (by have:=h.len; omega) (by have:=h.len; omega) hi'))).1
  ·exact g.le (n_mb (by omega) h1)
 have br':∀ r ∈ runR rs n2,0 < r.2∧r.1.length = wd:=fun r hr=>⟨(br r hr).1,(br r hr).2.1⟩
 have hpl:p < (runR rs n2).length:=by omega
 obtain ⟨a1,a2,a3,a4⟩:=adds_rows hbM hpl (fun i a c ne hi ha hc e=>let z:=clear_row hb h1 st bl br' hp ne hi ha hc e; ⟨z.2.2.2.2,z.2.1⟩) ad
 have vals:∀ i,i < rs0.length→(∀ j,vr (rowAt (runR (runR rs n2) n3) i) j = nx17 (runR rs n2) p k i j)∧0 < (rowAt (runR (runR rs n2) n3) i).2∧(rowAt (runR (runR rs n2) n3) i).1.length = wd∧(gcL (rowAt (runR (runR rs n2) n3) i).1 (rowAt (runR (runR rs n2) n3) i).2 = 1∨Big N (rowAt (runR (runR rs n2) n3) i)):=fun i hi=>by
  have hi':i < (runR rs n2).length:=by omega
  by_cases e:i = p
  ·rw [a3 i hi' (.inr e),e]
   refine ⟨fun j=>?_,br _ (rowAt_in hpl)⟩
   unfold nx17
   rw [if_pos rfl]
  ·rcases a4 i hi' hi e with ⟨x,z⟩ | ⟨c,a,x,ha,hc,ee⟩
   ·rw [x]
    refine ⟨fun j=>?_,br _ (rowAt_in hi')⟩
    unfold nx17
    rw [if_neg e,vr_at z,Rat.intCast_zero]
    grind
   ·rw [x]
    obtain ⟨z1,z2,z3,z4,_⟩:=clear_row hb h1 st bl br' hp e hi' ha hc ee
    exact ⟨z4,z1,z2,.inl z3⟩
 refine ⟨⟨by rw [a1,bl],fun r hr=>?_,?_⟩,a2⟩
 ·obtain ⟨i,hi,rfl⟩:=mem_rowAt hr
  exact (vals i (by rw [a1,bl] at hi; exact hi)).2
 ·obtain ⟨pv,s,st⟩:=st
  have e:(fun i j=>if i < rs0.length then vr (rowAt (runR (runR rs n2) n3) i) j else nx17 (runR rs n2) p k i j) = nx17 (runR rs n2) p k:=by
   funext i j
   by_cases hi:i < rs0.length
   ·rw [if_pos hi]; exact (vals i hi).1 j
   ·rw [if_neg hi]
  rw [← e] at st
  exact ⟨pv,s,st.congr fun i j hi=>by rw [if_pos hi]⟩
open Rw
theorem get_in {r:Row} {k wd:Nat} (h:r.1.length = wd) (hk:k < wd):∃ t,r.1[k]? = some t:=⟨_,List.getElem?_eq_getElem (by rw [h]; exact hk)⟩
theorem beg_aug {rs zs:List Row} {w wd wd' N p q k:Nat} {new:List Stp} (bs:BStep rs p q k new) (tk:TK w rs zs) (hl:zs.length = rs.length) (hr:∀ r ∈ rs,Big NN r∧r.1.length = wd) (hz:∀ z ∈ zs,Big N z∧z.1.length = wd') (hp:p < rs.length) (hq:q < rs.length) (hk:k < w) (hw:w ≤ wd) (hw':w ≤ wd') (t0:topAt rs q k ≠ 0) :
    AllB N wd' zs new∧(rowAt (runR zs new) p).1[k]? = some (rowAt (runR zs new) p).2:=by
  obtain ⟨sw,tm,rfl,hsw,htm⟩:=bs
  have hpz:p < zs.length:=by omega
  have hqz:q < zs.length:=by omega
  -- behind the swap
  have s1:AllB N wd' zs sw∧rowAt (runR zs sw) p = rowAt zs q:=by
    rcases hsw with ⟨rfl,e⟩ | rfl
    · exact ⟨AllB.nil hz,by rw [e]; rfl⟩
    · refine ⟨(AllB.nil hz).snoc fun r hr=>?_,?_⟩
      · obtain ⟨i,hi,rfl⟩:=mem_rowAt hr
        have hi:i < zs.length:=by rw [← stepR_length (rs:=zs) (st:=.swap p q)]; exact hi
        have e:rowAt (stepR (runR zs []) (.swap p q)) i = if i = q then rowAt zs p else if i = p then rowAt zs q else rowAt zs i:=swap_at hpz hqz
        rw [e]
        split
        · exact hz _ (rowAt_in hpz)
        · split
          · exact hz _ (rowAt_in hqz)
          · exact hz _ (rowAt_in hi)
      · show rowAt (stepR zs (.swap p q)) p = _
        rw [swap_at hpz hqz,if_pos rfl]
        split
        · rename_i z; rw [z]
        · rfl
  obtain ⟨ab,ep⟩:=s1
  have bq:=hr _ (rowAt_in hq)
  have bz:=hz _ (rowAt_in hqz)
  have et:(rowAt rs q).1[k]? = some (topAt rs q k):=by
    unfold topAt
    rw [List.getD_eq_getElem?_getD,List.getElem?_eq_getElem (by rw [bq.2]; omega)]; rfl
  obtain ⟨t',et'⟩:=get_in bz.2 (show k < wd' by omega)
  have cr:=tk.at_ hq hqz hk bq.1.pos bz.1.pos et et'
  rcases htm with ⟨rfl,h1⟩ | ⟨c,rfl,hc,key⟩
  · rw [List.append_nil]
    refine ⟨ab,?_⟩
    rw [ep,et']
    rw [et] at h1
    have h1:topAt rs q k = (rowAt rs q).2:=Option.some.inj h1
    rw [h1,Int.mul_comm] at cr
    exact congrArg some (Int.eq_of_mul_eq_mul_right (Int.ne_of_gt bq.1.pos) cr).symm
  · have t1:t' ≠ 0:=fun z=>by
      rw [z,Int.zero_mul] at cr
      rcases Int.mul_eq_zero.mp cr with y | y
      · exact t0 y
      · have:=bz.1.pos; omega
    have key':c.1 * t' = c.2 * (rowAt zs q).2:=by
      refine Int.eq_of_mul_eq_mul_right (Int.ne_of_gt bq.1.pos) ?_
      calc c.1 * t' * (rowAt rs q).2 = c.1 * (t' * (rowAt rs q).2):=by ac_rfl
        _ = c.1 * (topAt rs q k * (rowAt zs q).2):=by rw [cr]
        _ = (c.1 * topAt rs q k) * (rowAt zs q).2:=by ac_rfl
        _ = c.2 * (rowAt rs q).2 * (rowAt zs q).2:=by rw [key]
        _ = c.2 * (rowAt zs q).2 * (rowAt rs q).2:=by ac_rfl
    have l1:p < (runR zs sw).length:=by rw [run_length]; exact hpz
    have bp:=ab.end_ _ (rowAt_in l1)
    obtain ⟨g1,g2⟩:=begin_big (c:=c) bp.1 (by rw [ep]; exact et') t1 hc (by rw [ep]; exact key')
    have at_:∀ i,rowAt (stepR (runR zs sw) (.times p c)) i = if i = p then redR (timesR (rowAt (runR zs sw) p) c) else rowAt (runR zs sw) i:=fun i=>rowAt_set l1
    refine ⟨ab.snoc fun r hr=>?_,?_⟩
    · obtain ⟨i,hi,rfl⟩:=mem_rowAt hr
      rw [stepR_length] at hi
      rw [at_]
      split
      · refine ⟨g1,?_⟩
        rw [red_len]
        unfold timesR
        rw [List.length_map]
        exact bp.2
      · exact ab.end_ _ (rowAt_in hi)
    · rw [runR_snoc,at_,if_pos rfl]
      exact g2
open Rw
inductive Ph17 (rs:List Row) (wide:Nat):Nat→List Stp→Prop
 | nil:Ph17 rs wide 0 []
 | next {j q k:Nat} {ss n2 n3:List Stp} : Ph17 rs wide j ss→j ≤ q→q < rs.length→k < wide→topAt (runR rs ss) q k ≠ 0→BStep (runR rs ss) j q k n2→Adds (runR (runR rs ss) n2) j k rs.length n3→Ph17 rs wide (j + 1) (ss ++ n2 ++ n3)
theorem top_get {rs:List Row} {q k wd:Nat} (h:(rowAt rs q).1.length = wd) (hk:k < wd):(rowAt rs q).1[k]? = some (topAt rs q k):=by
 unfold topAt
 rw [List.getD_eq_getElem?_getD,List.getElem?_eq_getElem (by rw [h]; exact hk)]; rfl
theorem bstep_tk {rs zs:List Row} {w wd wd' p q k:Nat} {new:List Stp} (bs:BStep rs p q k new) (tk:TK w rs zs) (hl:zs.length = rs.length) (hr:∀ r ∈ rs,0 < r.2∧r.1.length = wd) (hz:∀ z ∈ zs,0 < z.2∧z.1.length = wd') (hq:q < rs.length) (hk:k < w) (hw:w ≤ wd) (hw':w ≤ wd') (t0:topAt rs q k ≠ 0):BStep zs p q k new∧topAt zs q k ≠ 0:=by
  have bq:=hr _ (rowAt_in hq)
  have bz:=hz _ (rowAt_in (show q < zs.length by omega))
  have et:=top_get bq.2 (show k < wd by omega)
  have ez:=top_get bz.2 (show k < wd' by omega)
  have cr:=tk.at_ hq (by omega) hk bq.1 bz.1 et ez
  have z0:topAt zs q k ≠ 0:=fun z=>by
    rw [z,Int.zero_mul] at cr
    rcases Int.mul_eq_zero.mp cr with y | y
    · exact t0 y
    · have:=bz.1; omega
  refine ⟨?_,z0⟩
  obtain ⟨sw',tm,rfl,hs,ht⟩:=bs
  refine ⟨sw',tm,rfl,hs,?_⟩
  rcases ht with ⟨rfl,ho⟩ | ⟨c,rfl,hc,key⟩
  · refine .inl ⟨rfl,?_⟩
    rw [et] at ho
    rw [Option.some.inj ho,Int.mul_comm] at cr
    rw [ez,Int.eq_of_mul_eq_mul_right (Int.ne_of_gt bq.1) cr]
  · refine .inr ⟨c,rfl,hc,Int.eq_of_mul_eq_mul_right (Int.ne_of_gt bq.1) ?_⟩
    calc c.1 * topAt zs q k * (rowAt rs q).2 = c.1 * (topAt zs q k * (rowAt rs q).2):=by ac_rfl
      _ = c.1 * (topAt rs q k * (rowAt zs q).2):=by rw [cr]
      _ = (c.1 * topAt rs q k) * (rowAt zs q).2:=by ac_rfl
      _ = c.2 * (rowAt rs q).2 * (rowAt zs q).2:=by rw [key]
      _ = c.2 * (rowAt zs q).2 * (rowAt rs q).2:=by ac_rfl
theorem row_some {rs:List Row} {n k:Nat} {a:Int} (h:(rowAt rs n).1[k]? = some a):n < rs.length:=by
 by_cases e:n < rs.length
 ·exact e
 ·unfold rowAt at h
  have z:rs[n]? = none:=List.getElem?_eq_none (by omega)
  rw [List.getD_eq_getElem?_getD,z] at h
  simp at h
theorem adds_tk {rs zs:List Row} {w wd wd' p k:Nat} (tk:TK w rs zs) (hl:zs.length = rs.length) (hr:∀ r ∈ rs,0 < r.2∧r.1.length = wd) (hz:∀ z ∈ zs,0 < z.2∧z.1.length = wd') (hk:k < w) (hw:w ≤ wd) (hw':w ≤ wd'):∀ {n:Nat} {ss:List Stp},Adds rs p k n ss→Adds zs p k n ss:=by
  have cr:∀ {n:Nat} {a:Int},(rowAt rs n).1[k]? = some a→∃ a',(rowAt zs n).1[k]? = some a'∧a * (rowAt zs n).2 = a' * (rowAt rs n).2∧0 < (rowAt rs n).2:=fun {n a} h=>by
    have hn:=row_some h
    have bq:=hr _ (rowAt_in hn)
    have bz:=hz _ (rowAt_in (show n < zs.length by omega))
    have ez:=top_get bz.2 (show k < wd' by omega)
    exact ⟨_,ez,tk.at_ hn (by omega) hk bq.1 bz.1 h ez,bq.1⟩
  intro n ss h
  induction h with
  | nil=>exact .nil
  | skip h hz' ih =>
    refine .skip ih ?_
    rcases hz' with y | y
    · exact .inl y
    · obtain ⟨a',e,c,p0⟩:=cr y
      rw [Int.zero_mul] at c
      rcases Int.mul_eq_zero.mp c.symm with z | z
      · exact .inr (by rw [e,z])
      · omega
  | @add n ss c a h ne hn ha hc e ih =>
    obtain ⟨a',e',x,p0⟩:=cr ha
    refine .add ih ne (by omega) e' hc (Int.eq_of_mul_eq_mul_right (Int.ne_of_gt p0) ?_)
    calc c.1 * (rowAt zs n).2 * (rowAt rs n).2 = c.1 * (rowAt rs n).2 * (rowAt zs n).2:=by ac_rfl
      _ = -a * c.2 * (rowAt zs n).2:=by rw [e]
      _ = -(a * (rowAt zs n).2) * c.2:=by rw [Int.neg_mul,Int.neg_mul,Int.neg_mul]; congr 1; ac_rfl
      _ = -(a' * (rowAt rs n).2) * c.2:=by rw [x]
      _ = -a' * c.2 * (rowAt rs n).2:=by rw [Int.neg_mul,Int.neg_mul,Int.neg_mul]; congr 1; ac_rfl
theorem mb_rows {zs:List Row} {wd N:Nat} (hz:∀ z ∈ zs,Big N z∧z.1.length = wd) (h1:1 ≤ N):∀ z ∈ zs,Big (MB zs.length N) z∧z.1.length = wd:=fun z h=>⟨(hz z h).1.le (n_mb (List.length_pos_of_mem h) h1),(hz z h).2⟩
theorem ph17_aug {rs zs:List Row} {w wd wd' N:Nat} (hw:w ≤ wd) (hw':w ≤ wd') (hl:zs.length = rs.length) (h0:TK w rs zs) (hz:∀ z ∈ zs,Big N z∧z.1.length = wd') (h1:1 ≤ N) :
  ∀ {j:Nat} {ss:List Stp},Ph17 rs w j ss→AllB NN wd rs ss→(∀ s ∈ ss,StpN rs.length s)→St17 zs (runR zs ss) wd' N j∧AllB (MB zs.length N) wd' zs ss:=by
 intro j ss ph
 induction ph with
 | nil=>exact fun _ _=>⟨St17.zero hz,AllB.nil (mb_rows hz h1)⟩
 | next ph hpq hq hk t0 bs ad ih =>
  rename_i j q k ss n2 n3
  intro ab ok
  have ab1:=ab.pre.pre
  have ab2:=ab.pre.suf
  have ab3:=ab.suf
  rw [runR_app] at ab3
  have ok1:∀ s ∈ ss,StpN rs.length s:=fun s hs=>ok s (List.mem_append_left _ (List.mem_append_left _ hs))
  have ok2:∀ s ∈ n2,StpN rs.length s:=fun s hs=>ok s (List.mem_append_left _ (List.mem_append_right _ hs))
  obtain ⟨st,a1⟩:=ih ab1 ok1
  have tk1:=tk_run ab1 a1 hl ok1 h0
  have l1:(runR zs ss).length = (runR rs ss).length:=by rw [run_length,run_length,hl]
  have e1:(runR rs ss).length = rs.length:=run_length
  obtain ⟨a2,_⟩:=beg_aug bs tk1 l1 ab1.end_ a1.end_ (by omega) (by omega) hk hw hw' t0
  have tk2:=tk_run ab2 a2 l1 (fun s hs=>by rw [e1]; exact ok2 s hs) tk1
  have e2:(runR (runR rs ss) n2).length = rs.length:=by rw [run_length,e1]
  have pos:∀ {M v:Nat} {xs:List Row},(∀ r ∈ xs,Big M r∧r.1.length = v)→∀ r ∈ xs,0 < r.2∧r.1.length = v:=fun h r hr=>⟨(h r hr).1.pos,(h r hr).2⟩
  obtain ⟨bz,tz⟩:=bstep_tk bs tk1 l1 (pos ab1.end_) (pos a1.end_) (by omega) hk hw hw' t0
  have az:=adds_tk tk2 (by rw [e2,run_length,run_length,hl]) (pos ab2.end_) (pos a2.end_) hk hw hw' ad
  obtain ⟨s2,a3⟩:=st.next hz h1 (by omega) hpq (by omega) (by omega) tz bz (by rw [hl]; exact az)
  exact ⟨by rw [runR_app,runR_app]; exact s2,(a1.app a2).app (by rw [runR_app]; exact a3)⟩
open Rw
theorem seq_asg {te:TE} {g:TG} {u:TS} {D:Ends} {σ:L2.St} {H:Hp} (h:te σ H fun x H1=>g x σ H1 (u D)):tSeq (tAsg te g) u D σ H:=h
theorem seq_of {t u:TS} {D:Ends} {σ:L2.St} {H:Hp} (h:t { D with nx:=u D } σ H):tSeq t u D σ H:=h
structure Told15 (H H':Hp) (t:Addr) (fss:List (List (Int × Int))) (wide wd:Nat) (ls p:Addr) (ys zs:List V) (new:List Stp) (pl:Nat) (pv:Nat→Nat):Prop where
 same:Same H H'
 tup:H' t = some (.tup [.ref ls,.ref p])
 hls:H' ls = some (.lst ys)
 st:Sts H' ys new
 hp:H' p = some (.lst zs)
 fr:FRs H' zs ((runR (fss.map lvR) new).map rep)
 good:∀ s ∈ new,StpG fss.length s
 many:new.length ≤ 3 * fss.length * fss.length
 form:Form (runR (fss.map lvR) new) pl wide pv
 len:(runR (fss.map lvR) new).length = fss.length
 pln:pl ≤ fss.length
 all:AllB NN wd (fss.map lvR) new
 ph:Ph17 (fss.map lvR) wide pl new
 frl:H ls = none
 frp:H p = none
 nw:∀ (k:Nat) (a:Addr),zs[k]? = some (V.ref a)→H a = none∧a ≠ p
def sp_reduced:Sp:=fun vs H Q _=>∃ (l:Addr) (xs:List V) (fss:List (List (Int × Int))) (wide wd N:Nat),vs = [.ref l,.int wide]∧H l = some (.lst xs)∧FRs H xs fss∧(∀ fs ∈ fss,fs.length = wd∧(∀ f ∈ fs,Fq f)∧Big N (lvR fs))∧1 ≤ N∧MB fss.length N ≤ NN∧wide ≤ wd∧wd ≤ 41∧fss.length ≤ 20 ∧
 ∀ t ls p ys zs H' new pl pv,Told15 H H' t fss wide wd ls p ys zs new pl pv→Q (.ref t) H'
structure Mid15 (l D1 D2:Addr) (wide wd N:Nat) (fss:List (List (Int × Int))) (H:Hp) (c:Nat) (H':Hp) (pl:Nat) (pv:Nat→Nat) (xs' ys':List V) (new:List Stp):Prop where
 same:Same H H'
 red:Red D1 D2 H' xs' ys' (runR (fss.map lvR) new) new
 good:∀ s ∈ new,StpG fss.length s
 many:new.length ≤ pl * (fss.length + 2)
 form:Form (runR (fss.map lvR) new) pl c pv
 len:(runR (fss.map lvR) new).length = fss.length
 pln:pl ≤ fss.length
 big:∀ r ∈ runR (fss.map lvR) new,Big (MB fss.length N) r∧r.1.length = wd
 st:St17 (fss.map lvR) (runR (fss.map lvR) new) wd N pl
 all:AllB NN wd (fss.map lvR) new
 ph:Ph17 (fss.map lvR) wide pl new
def jR (l D1 D2:Addr) (wide wd N:Nat) (fss:List (List (Int × Int))) (H:Hp) (c:Nat) (σ:L2.St) (H':Hp):Prop:=∃ (pl:Nat) (pv:Nat→Nat) (xs' ys':List V) (new:List Stp) (u v:Option V),σ = [some (.ref l),some (.int wide),some (.ref D1),some (.ref D2),some (.int pl),u,v]∧Mid15 l D1 D2 wide wd N fss H c H' pl pv xs' ys' new
theorem ok_reduced {f:Addr} {fd:FuncData} (F:Fun K nm_reduced nm_reduced s_reduced f fd) (T:Txt K mg D) (G_level:OkF P w K mg base 2 nm_level ps_level sp_level) (G_first_from:OkF P w K mg base 1 nm_first_from ps_first_from sp_first_from) (G_begin_row:OkF P w K mg base 6 nm_begin_row ps_begin_row sp_begin_row) (G_clear_column:OkF P w K mg base 6 nm_clear_column ps_clear_column sp_clear_column) (G_fractions_of:OkF P w K mg base 3 nm_fractions_of ps_fractions_of sp_fractions_of):FnOk P w K mg base CX0 7 f fd ps_reduced sp_reduced:=by
 refine F.ok sc_reduced (fun vs H Q E h=>?_) (fun cdv A outer s H vs Q E hr h=>?_)
 ·obtain ⟨l,xs,fss,wide,wd,N,rfl,_⟩:=h
  rfl
 ·obtain ⟨l,xs,fss,wide,wd,N,rfl,hl,fr,hf,h1,hN,hwi,hwd,hn,q⟩:=h
  refine ⟨_,(pss_cons (ps_compGF (defScope s_reduced) ["rows", "wide", "leveled", "steps", "place", "column", "found"] ["rows", "wide", "leveled", "steps", "place", "column", "found"] ["row"] rfl rfl rfl (by decide +kernel) (by decide +kernel) rfl (by decide +kernel) (by decide +kernel) (by decide +kernel) (by decide +kernel) (by decide +kernel) (pi_list ((pv 0)).mono) (fun _ _ _ _ _=>(pg_name (i:=0) (show List.Nodup (["row", "rows", "wide", "leveled", "steps", "place", "column", "found"] : List Str) from by decide +kernel) rfl (Or.inl rfl) (Or.inr rfl))) (fun _ _ _ _ _=>pts_nil) (fun _ _ _ _ _=>(pe_callF G_level (hr.mono (by decide)) (by rfl) (pa_cons (pv 0) pa_nil))) (pg_name (i:=2) sc_reduced.nd rfl (Or.inl rfl)))
   (pss_cons (ps_set (i:=3) sc_reduced.nd rfl (Or.inl rfl) (pe_lst pa_nil))
   (pss_cons (ps_set (i:=4) sc_reduced.nd rfl (Or.inl rfl) pe_int)
   (pss_cons (ps_for PassesOwn.never rfl (pi_range1 (by rfl) T.b_range (pa_cons (pv 1) pa_nil).mono) (pg_name (i:=5) sc_reduced.nd rfl (Or.inl rfl))
    (pss_cons (ps_set (i:=6) sc_reduced.nd rfl (Or.inl rfl) (pe_callF G_first_from (hr.mono (by decide)) (by rfl) (pa_cons (pv 2) (pa_cons (pv 4) (pa_cons (pv 5) pa_nil)))))
    (pss_one (ps_if (pt_cmpR op_notN (pv 6) pe_non (nomark _))
     (pss_cons (ps_expr (pe_callF G_begin_row (hr.mono (by decide)) (by rfl) (pa_cons (pv 2) (pa_cons (pv 3) (pa_cons (pv 4) (pa_cons (pv 6) (pa_cons (pv 5) pa_nil)))))))
     (pss_cons (ps_expr (pe_callF G_clear_column (hr.mono (by decide)) (by rfl) (pa_cons (pv 2) (pa_cons (pv 3) (pa_cons (pv 4) (pa_cons (pv 5) pa_nil))))))
     (pss_one (ps_aug (i:=4) sc_reduced.nd rfl (Or.inl rfl) pe_int ip_add))))
     pss_nil))))
   (pss_one (ps_ret (pe_tup (pa_cons (pv 3) (pa_cons (pe_callF G_fractions_of (hr.mono (by decide)) (by rfl) (pa_cons (pv 2) pa_nil)) pa_nil))))))))),?_⟩
  have hq:∀ fs ∈ fss,∀ f ∈ fs,Fq f:=fun fs h=>(hf fs h).2.1
  refine seq_asg (tCompG1_list ?_)
  refine ⟨_,rfl,l,xs,rfl,hl,by rw [fr.len]; exact Nat.le_trans hn (by decide),fun D1 hD=>⟨jW D1 fss H,⟨Same.upd hD,upd_same,rfl,fun k v e=>by simp at e⟩,?_,?_⟩⟩
  ·rintro k v zs Hc hk ⟨S1,hD1,ln,lrn⟩ hzl hlc
   have hkf:k < fss.length:=by rw [← fr.len]; exact (List.getElem?_eq_some_iff.mp hk).1
   have ef:fss[k]? = some fss[k]:=List.getElem?_eq_getElem hkf
   obtain ⟨l1,vs,rfl,h1',fl⟩:=fr.at_ k v hk
   rw [List.getD_eq_getElem?_getD,ef] at fl
   have fl:FL H vs fss[k]:=fl
   have hm:=List.getElem_mem hkf
   have w1:=(hf _ hm).1
   have q1:=hq _ hm
   generalize fss[k] = fs at *
   refine ⟨_,rfl,l1,vs,fs,rfl,S1 _ _ h1',fl.same S1,q1,by omega,fun D2 p hD2 hp=>?_⟩
   have T1:Same Hc (upd Hc D2 (.lst ((lvT fs).map V.int))):=Same.upd hD2
   have T2:Same (upd Hc D2 (.lst ((lvT fs).map V.int))) (upd (upd Hc D2 (.lst ((lvT fs).map V.int))) p (.tup [.ref D2,.int (lvB fs:Nat)])):=Same.upd hp
   have e1:=T2 D2 _ upd_same
   have e2:upd (upd Hc D2 (.lst ((lvT fs).map V.int))) p (.tup [.ref D2,.int (lvB fs:Nat)]) p = some (.tup [.ref D2,.int (lvB fs:Nat)]):=upd_same
   have nD:D2 ≠ D1:=(ne_of_none hD1 hD2).symm
   generalize upd (upd Hc D2 (.lst ((lvT fs).map V.int))) p (.tup [.ref D2,.int (lvB fs:Nat)]) = Hn at T2 e1 e2 ⊢
   have T3:=T1.trans T2
   have hDn:=T3 _ _ hD1
   refine ⟨hDn,T3 _ _ hlc,?_,upd_same,?_,?_⟩
   ·intro b' o' e'
    rw [upd_ne (ne_of_none e' hD)]
    exact T3 _ _ (S1 _ _ e')
   ·rw [List.length_append,ln,take_next ef,List.map_append,List.length_append]; rfl
   ·intro j u e
    rw [take_next ef,List.map_append,show List.map lvR [fs] = [lvR fs] from rfl]
    by_cases hj:j < zs.length
    ·rw [List.getElem?_append_left hj] at e
     obtain ⟨t,lr,a1,a2,a3,a4⟩:=lrn j u e
     rw [rowAt_left (by rw [← ln]; exact hj)]
     exact ⟨t,lr,a1,(upd_ne (ne_of (T3 _ _ a2) hDn (by intro z; cases z))).trans (T3 _ _ a2),(upd_ne a4).trans (T3 _ _ a3),a4⟩
    ·rw [List.getElem?_append_right (by omega)] at e
     have e0:j - zs.length = 0:=by
      cases e3:j - zs.length with
      | zero=>rfl
      | succ m=>rw [e3] at e; simp at e
     rw [e0,List.getElem?_cons_zero] at e
     cases e
     have ej:j = ((fss.take k).map lvR).length:=by rw [← ln]; omega
     rw [ej,rowAt_last]
     exact ⟨p,D2,rfl,(upd_ne (ne_of e2 hDn (by intro z; cases z))).trans e2,(upd_ne nD).trans e1,nD⟩
  ·rintro zs Hc ⟨S1,hD1,ln,lrn⟩ hzl
   rw [fr.len,List.take_length] at ln lrn
   have lr0:LR Hc zs (fss.map lvR):=⟨ln,fun k v e=>let ⟨t,lr,a1,a2,a3,_⟩:=lrn k v e; ⟨t,lr,a1,a2,a3⟩⟩
   have b0:∀ r ∈ fss.map lvR,Big N r∧r.1.length = wd:=fun r hr=>by
    obtain ⟨fs,h,rfl⟩:=List.mem_map.mp hr
    exact ⟨(hf fs h).2.2,by rw [lvR_len]; exact (hf fs h).1⟩
   have bM:∀ r ∈ fss.map lvR,Big (MB fss.length N) r∧r.1.length = wd:=by
    have:=mb_rows b0 h1
    rw [List.length_map] at this
    exact this
   refine ⟨Nat.zero_le _,fun D2 hD2=>seq_of (tFor_rngM ?_)⟩
   refine ⟨_,rfl,wide,rfl,by omega,jR l D1 D2 wide wd N fss H,⟨0,fun _=>0,zs,[],[],none,none,rfl,?_⟩,?_,?_⟩
   ·have S2:Same Hc (upd Hc D2 (.lst [])):=Same.upd hD2
    exact ⟨S1.trans S2,⟨S2 _ _ hD1,lr0.same S2,upd_same,⟨rfl,fun k s e=>by simp at e⟩,(ne_of_none hD1 hD2).symm⟩,fun s hs=>absurd hs List.not_mem_nil,Nat.zero_le _,⟨fun i hi=>absurd hi (by omega),fun i j _ hj=>absurd hj (by omega),fun i _ _ j hj=>absurd hj (by omega)⟩,List.length_map _,Nat.zero_le _,bM,St17.zero b0,(AllB.nil bM).le hN,.nil⟩
   ·rintro c σ' H1 hc ⟨pl,pv,xs1,ys1,new,u,v,rfl,M⟩
    have hD2':H D2 = none:=S1.free hD2
    have nm:new.length ≤ 500:=Nat.le_trans M.many (Nat.le_trans (Nat.mul_le_mul M.pln (Nat.le_refl _)) (Nat.le_trans (Nat.mul_le_mul hn (Nat.add_le_add_right hn 2)) (by decide)))
    have fn:=M.form
    have ln1:=M.len
    have hc':c < wd:=by omega
    generalize hr1:runR (fss.map lvR) new = rs1 at *
    refine ⟨_,rfl,_,rfl,_,rfl,D1,xs1,rs1,pl,c,wd,rfl,M.red.hl,by rw [← hr1]; exact M.red.lr,fun r hr=>(M.big r (by rw [hr1]; exact hr)).2,hc',by have:=M.pln; omega,by omega,fun i hi hil ht _=>?_,fun z=>?_⟩
    ·refine ⟨_,rfl,rfl,_,rfl,ite2 (fun _=>?_) fun h=>absurd rfl h⟩
     have pn:pl < fss.length:=by omega
     refine ⟨_,rfl,_,rfl,_,rfl,_,rfl,_,rfl,D1,D2,xs1,ys1,rs1,new,pl,i,c,MB fss.length N,wd,rfl,by rw [← hr1]; exact M.red,by omega,by rw [← hr1]; exact M.big,hN,by omega,hc',by omega,hil,ht,fun H2 xs2 ys2 new2 of2 rd2 n2 gd2 bg ab2 bs=>?_⟩
     have l2:=bg.len
     have st1:=M.st
     rw [hr1] at st1
     have lm:(fss.map lvR).length = fss.length:=List.length_map _
     have sg:=st1.stage b0 (by omega) hi (by omega) hc' ht bs
     generalize hr2:runR rs1 new2 = rs2 at *
     refine ⟨_,rfl,_,rfl,_,rfl,_,rfl,D1,D2,xs2,ys2,rs2,new ++ new2,pl,c,MB fss.length N,wd,rfl,rd2,by rw [List.length_append]; omega,bg.big,fun i a c' ne hil' ha hc2 e=>by
      have:=(clear_row b0 h1 sg.1 sg.2.1 (fun r hr=>⟨(sg.2.2 r hr).1,(sg.2.2 r hr).2.1⟩) (by omega) ne hil' ha hc2 e).2.2.2.2
      rw [lm] at this
      exact this,hN,by omega,hc',by omega,by omega,bg.one,fun H3 xs3 ys3 new3 of3 rd3 n3 gd3 cd bg3 ab3 ad=>?_⟩
     refine ⟨_,rfl,_,_,rfl,rfl,pl + 1,(fun i=>if i = pl then c else pv i),xs3,ys3,new ++ new2 ++ new3,_,_,rfl,?_⟩
     have er:runR (fss.map lvR) (new ++ new2 ++ new3) = runR rs2 new3:=by rw [runR_app,runR_app,hr1,hr2]
     refine ⟨fun b o e=>of3 b o (ne_of_none e hD) (ne_of_none e hD2') (of2 b o (ne_of_none e hD) (ne_of_none e hD2') (M.same b o e)),by rw [er]; exact rd3,fun s hs=>?_,?_,by rw [er]; exact fn.next hi hil bg cd,by rw [er,cd.len,l2]; exact ln1,by omega,by rw [er]; exact bg3,by rw [er,← hr2]; exact (st1.next b0 h1 (by omega) hi (by omega) hc' ht bs (by rw [hr2,lm,← ln1,← l2]; exact ad)).1,(M.all.app (by rw [hr1]; exact ab2.le hN)).app (by rw [runR_app,hr1,hr2]; exact ab3.le hN),.next M.ph hi (by rw [List.length_map,← ln1]; exact hil) hc (by rw [hr1]; exact ht) (by rw [hr1]; exact bs) (by rw [hr1,hr2,List.length_map,← ln1,← l2]; exact ad)⟩
     ·rcases List.mem_append.mp hs with y | y
      ·rcases List.mem_append.mp y with y | y
       ·exact M.good s y
       ·rw [← ln1]; exact gd2 s y
      ·rw [← ln1,← l2]; exact gd3 s y
     ·rw [List.length_append,List.length_append,Nat.succ_mul]
      have:=M.many
      generalize pl * (fss.length + 2) = m at *
      omega
    ·refine ⟨_,rfl,rfl,_,rfl,ite2 (fun h=>absurd h (by decide)) fun _=>?_⟩
     refine ⟨pl,pv,xs1,ys1,new,_,_,rfl,M.same,M.red,M.good,M.many,?_,M.len,M.pln,M.big,M.st,M.all,M.ph⟩
     rw [hr1]
     refine fn.skip fun j hj hl=>?_
     have hb:=(M.big (rowAt rs1 j) (by rw [hr1]; exact rowAt_in hl)).2
     have:=z j hj hl
     unfold topAt at this
     rw [List.getD_eq_getElem?_getD,List.getElem?_eq_getElem (by rw [hb]; exact hc')] at this
     rw [List.getElem?_eq_getElem (by rw [hb]; exact hc')]
     exact congrArg some this
   ·rintro σ' H1 ⟨pl,pv,xs1,ys1,new,u,v,rfl,M⟩
    have hD2':H D2 = none:=S1.free hD2
    have bN:∀ r ∈ runR (fss.map lvR) new,Big NN r∧r.1.length = wd:=fun r hr=>⟨(M.big r hr).1.le hN,(M.big r hr).2⟩
    refine ⟨_,rfl,_,rfl,D1,xs1,_,wd,rfl,M.red.hl,M.red.lr,bN,by omega,by rw [M.len]; omega,fun p zs2 H2 S2 hp hz fr2 nw=>⟨line2,fun t ht=>?_⟩⟩
    have S3:Same H2 (upd H2 t (.tup [.ref D2,.ref p])):=Same.upd ht
    refine q t D2 p ys1 zs2 _ new pl pv ⟨(M.same.trans S2).trans S3,upd_same,S3 _ _ (S2 _ _ M.red.hs),M.red.st.imp fun t us e=>S3 _ _ (S2 _ _ e),S3 _ _ hz,fr2.same S3,M.good,?_,M.form,M.len,M.pln,M.all,M.ph,hD2',M.same.free hp,fun k a e=>⟨M.same.free (nw k a e).1,(nw k a e).2⟩⟩
    refine Nat.le_trans M.many (Nat.le_trans (Nat.mul_le_mul M.pln (Nat.le_refl _)) ?_)
    rw [Nat.mul_comm 3,Nat.mul_assoc]
    by_cases e:fss.length = 0
    ·rw [e]; decide
    ·exact Nat.mul_le_mul (Nat.le_refl _) (by omega)
open Rw
theorem same_upd {H H':Hp} {p:Addr} {o:HO} (hp:H p = none) (S:Same H H'):Same H (upd H' p o):=fun b u hb=>by
 rw [upd_ne (ne_of_none hb hp)]; exact S b u hb
def sp_stream14 (K:PySem.W.Frag) (a:Addr) (ns:List Int):Sp:=fun vs H Q _=>∃ (st:Int) (n:Nat),vs = [.ref a,.int st,.int n]∧SqL K H a (ns.map V.int)∧ns.length ≤ 63∧0 ≤ st∧n ≤ 64∧∀ (l:Addr) (xs:List Int) H',Same H H'→H l = none→H' l = some (.lst (xs.map V.int))→xs.length = n→(∀ x ∈ xs,0 ≤ x∧x < 2147483647)→Q (.ref l) H'
def jS (a:Addr) (st:Int) (n:Nat) (p:Addr) (H:Hp) (k:Nat) (σ:L2.St) (H':Hp):Prop:=∃ (xs:List Int) (m:Int) (v:Option V),σ = [some (.ref a),some (.int st),some (.int n),some (.ref p),some (.int m),v]∧(0 ≤ m∧m < 2147483647)∧xs.length = k∧(∀ x ∈ xs,0 ≤ x∧x < 2147483647)∧Same H H'∧H' p = some (.lst (xs.map V.int))
theorem Same.sql {K:PySem.W.Frag} {H H':Hp} {a:Addr} {xs:List V} (S:Same H H') (h:SqL K H a xs):SqL K H' a xs:=by
 rcases h with (h | ⟨o,h⟩) | h
 ·exact .inl (.inl (S _ _ h))
 ·exact .inl (.inr ⟨o,S _ _ h⟩)
 ·exact .inr h
theorem ok_stream {f:Addr} {fd:FuncData} (F:Fun K nm_stream nm_stream s_stream f fd) (T:Txt K mg D) (a:Addr) (ns:List Int) (G_cell:OkF P w K mg base 1 nm_cell ps_cell (sp_cell K a ns)):FnOk P w K mg base CX0 2 f fd ps_stream (sp_stream14 K a ns):=by
 refine F.ok sc_stream (fun vs H Q E h=>?_) (fun cdv A outer s H vs Q E hr h=>?_)
 ·obtain ⟨st,n,rfl,_⟩:=h
  rfl
 ·obtain ⟨st,n,rfl,hs,hl,st0,hn,q⟩:=h
  refine ⟨_,(pss_cons (ps_set (i:=3) sc_stream.nd rfl (Or.inl rfl) (pe_lst pa_nil))
   (pss_cons (ps_set (i:=4) sc_stream.nd rfl (Or.inl rfl) pe_int)
   (pss_cons (ps_for PassesOwn.never rfl (pi_range1 (by rfl) T.b_range (pa_cons (pv 2) pa_nil).mono) (pg_name (i:=5) sc_stream.nd rfl (Or.inl rfl))
    (pss_cons (ps_set (i:=4) sc_stream.nd rfl (Or.inl rfl) (pe_op op_mod (pe_op op_add (pe_op op_add (pe_op op_add (pe_op op_mul (pv 4) pe_int) (pe_op op_mod (pe_callF G_cell (hr.mono (by decide)) (by rfl) (pa_cons (pv 0) (pa_cons (pe_op op_add (pv 1) (pv 5)) pa_nil))) pe_int)) (pe_op op_mulB (pv 5) (pv 5))) pe_int) pe_int))
    (pss_one (ps_expr (pe_app (pv 3) (pa_cons (pv 4) pa_nil))))))
   (pss_one (ps_ret (pv 3)))))),?_⟩
  unfold sp_cell
  walk_at "rd"
  refine ⟨Nat.zero_le _,fun p hp=>tFor_rngM ?_⟩
  walk_at "rd"
  refine ⟨n,rfl,Nat.lt_of_le_of_lt hn (by decide),jS a st n p H,⟨[],7,none,rfl,by decide,rfl,by simp,Same.upd hp,upd_same⟩,?_,?_⟩
  ·rintro k σ' H' hk ⟨xs,m,v,rfl,hm,h1,h2,h3,h4⟩
   walk_at "rd"
   have nx:0 ≤ (m * 48271 + cell ns (st + k) % 2147483647 + k * k + 1) % 2147483647∧(m * 48271 + cell ns (st + k) % 2147483647 + k * k + 1) % 2147483647 < 2147483647:=⟨Int.emod_nonneg _ (by decide),Int.emod_lt_of_pos _ (by decide)⟩
   generalize (m * 48271 + cell ns (st + k) % 2147483647 + k * k + 1) % 2147483647 = z at nx ⊢
   refine ⟨.inr (by constructor <;> decide),Same.sql h3 hs,hl,by omega,Bd.sm (by omega),Bd.sm (by omega),⟨_,h4⟩,_,h4,by rw [List.length_map,h1]; exact Nat.lt_of_lt_of_le hk (Nat.le_trans hn (by decide)),xs ++ [z],z,_,rfl,nx,by simp [h1],?_,same_upd hp h3,?_⟩
   ·intro y hy
    rcases List.mem_append.mp hy with hy | hy
    ·exact h2 y hy
    ·rw [List.mem_singleton.mp hy]; exact nx
   ·rw [List.map_append]; exact upd_same
  ·rintro σ' H' ⟨xs,m,v,rfl,hm,h1,h2,h3,h4⟩
   exact ⟨_,rfl,q p xs H' h3 hp h4 h1 h2⟩
def sp_lratio:Sp:=fun vs H Q _=>∃ (a b:Int),vs = [.int a,.int b]∧0 < b∧Bd b∧∀ p,H p = none→Q (.ref p) (upd H p (.tup [.int (Ac.lw a b).1,.int (Ac.lw a b).2]))
theorem ok_lratio {f:Addr} {fd:FuncData} (F:Fun K nm_lratio nm_lratio s_lratio f fd) (G_gcd:OkF P w K mg base 1 nm_gcd ps_gcd sp_gcd):FnOk P w K mg base CX0 2 f fd ps_lratio sp_lratio:=by
 refine F.ok sc_lratio (fun vs H Q E h=>?_) (fun cdv A outer s H vs Q E hr h=>?_)
 ·obtain ⟨a,b,rfl,_⟩:=h
  rfl
 ·obtain ⟨a,b,rfl,hb,hbd,q⟩:=h
  refine ⟨_,(pss_cons (ps_set (i:=2) sc_lratio.nd rfl (Or.inl rfl) (pe_callF G_gcd (hr.mono (by decide)) (by rfl) (pa_cons (pv 0) (pa_cons (pv 1) pa_nil))))
   (pss_one (ps_ret (pe_tup (pa_cons (pe_op op_fdivB (pv 0) (pv 2)) (pa_cons (pe_op op_fdivB (pv 1) (pv 2)) pa_nil)))))),?_⟩
  have g0:=gcd_pos (a:=a) (b:=b) (by omega)
  have g1:=gcd_bd (a:=a) (b:=b) (by omega) hbd
  unfold sp_gcd
  walk_at "rd"
  rw [fdiv_pos _ g0,fdiv_pos _ g0]
  exact ⟨by omega,g1,by omega,g1,line2,q⟩
open Rw
def sp_is_fraction (K:PySem.W.Frag):Sp:=fun vs H Q _=>∃ (p:Addr) (a b:Int),vs = [.ref p]∧SqT K H p [.int a,.int b]∧Q (.bl (decide (0 < b) && decide (Int.gcd a b = 1))) H
theorem ok_is_fraction {f:Addr} {fd:FuncData} (F:Fun K nm_is_fraction nm_is_fraction s_is_fraction f fd) (T:Txt K mg D) (G_whole:OkF P w K mg base 1 nm_whole ps_whole sp_whole) (G_gcd:OkF P w K mg base 1 nm_gcd ps_gcd sp_gcd):FnOk P w K mg base CX0 2 f fd ps_is_fraction (sp_is_fraction K):=by
 refine F.ok sc_is_fraction (fun vs H Q E h=>?_) (fun cdv A outer s H vs Q E hr h=>?_)
 ·obtain ⟨p,a,b,rfl,_⟩:=h
  rfl
 ·obtain ⟨p,a,b,rfl,hp,q⟩:=h
  refine ⟨_,(pss_cons (ps_if (pw_or (pt_not (pt_tru (pe_callB (call_isi.or call_isiTup) (by rfl) T.b_isinstance boot_isinstance (pa_cons (pv 0) (pa_cons (pe_bltn (v:=.ty "tuple") (by rfl) T.b_tuple boot_tuple rfl) pa_nil))) (fun _=>rfl))) (pw_or1 (pt_cmpR op_ne (pe_callB call_lenK (by rfl) T.b_len PySem.boot_len (pa_cons (pv 0) pa_nil)) pe_int (nomark _)))).pt
    (pss_one (ps_ret pe_bl))
    pss_nil)
   (pss_cons (ps_if (pw_or (pt_not (pt_tru (pe_callF G_whole (hr.mono (by decide)) (by rfl) (pa_cons (pe_ix (show IxR _ (rIxT K) from ix_tup) (pv 0) pe_int (fun _ _=>rfl)) pa_nil)) (fun _=>rfl))) (pw_or1 (pt_not (pt_tru (pe_callF G_whole (hr.mono (by decide)) (by rfl) (pa_cons (pe_ix (show IxR _ (rIxT K) from ix_tup) (pv 0) pe_int (fun _ _=>rfl)) pa_nil)) (fun _=>rfl))))).pt
    (pss_one (ps_ret pe_bl))
    pss_nil)
   (pss_one (ps_ret (pe_and (pe_cmpR op_gt (pe_ix (show IxR _ (rIxT K) from ix_tup) (pv 0) pe_int (fun _ _=>rfl)) pe_int (nomark _)) (pe_one (pe_cmpR op_eq (pe_callF G_gcd (hr.mono (by decide)) (by rfl) (pa_cons (pe_ix (show IxR _ (rIxT K) from ix_tup) (pv 0) pe_int (fun _ _=>rfl)) (pa_cons (pe_ix (show IxR _ (rIxT K) from ix_tup) (pv 0) pe_int (fun _ _=>rfl)) pa_nil))) pe_int (nomark _)))))))),?_⟩
  have mT : "tuple" ∈ ["bool", "int", "str", "list", "tuple", "dict"]:=by decide
  have nT:¬ (!subS "tuple" "tuple") = true:=by decide
  have nI:¬ (!("int" == "int")) = true:=by decide
  have n2:¬ (!decide (V.int 2 = V.int 2)) = true:=by decide
  refine ⟨_,rfl,.inr ⟨p, "tuple",_,rfl,mT,hp,_,rfl,ite2 (fun z=>absurd z nT) fun _=>⟨_,rfl,p,_,rfl,hp,rfl,_,rfl,ite2 (fun z=>absurd z n2) fun _=>?_⟩⟩⟩
  refine ⟨_,rfl,p,_,0,_,rfl,rfl,hp,atI_0,_, "int",rfl,rfl,_,rfl,ite2 (fun z=>absurd z nI) fun _=>⟨_,rfl,p,_,1,_,rfl,rfl,hp,atI_1,_, "int",rfl,rfl,_,rfl,ite2 (fun z=>absurd z nI) fun _=>?_⟩⟩
  refine ⟨_,rfl,p,_,1,_,rfl,rfl,hp,atI_1,_,_,rfl,rfl,_,rfl,ite2 (fun h=>⟨_,rfl,p,_,0,_,rfl,rfl,hp,atI_0,_,rfl,p,_,1,_,rfl,rfl,hp,atI_1,a,b,rfl,rfl,?_⟩) fun h=>?_⟩
  ·have e:decide (V.int ((Int.gcd a b:Nat):Int) = V.int 1) = decide (Int.gcd a b = 1):=by
    by_cases z:Int.gcd a b = 1
    ·rw [z]; rfl
    ·rw [decide_eq_false z,decide_eq_false (fun y=>z (by have:=V.int.inj y; omega))]
   have h:decide (0 < b) = true:=h
   rw [h,Bool.true_and] at q
   rw [e]
   exact q
  ·have h:decide (0 < b) = false:=by simpa using h
   rw [h,Bool.false_and] at q
   exact q
structure Lo (f:Int × Int):Prop where
 pos:0 < f.2
 gcd:Int.gcd f.1 f.2 = 1
 sa:f.1.natAbs ≤ NN
 sb:f.2.natAbs ≤ NN
def sp_fractions14 (K:PySem.W.Frag):Sp:=fun vs H Q _=>∃ (l:Addr) (ys:List V) (fs:List (Int × Int)) (n:Nat),vs = [.ref l,.int n]∧H l = some (.lst ys)∧FLK K H ys fs∧fs.length = n∧n ≤ 64∧(∀ f ∈ fs,Lo f)∧∀ H',Same H H'→Q (.bl true) H'
theorem ok_fractions {f:Addr} {fd:FuncData} (F:Fun K nm_fractions nm_fractions s_fractions f fd) (T:Txt K mg D) (G_is_fraction:OkF P w K mg base 2 nm_is_fraction ps_is_fraction (sp_is_fraction K)):FnOk P w K mg base CX0 3 f fd ps_fractions (sp_fractions14 K):=by
 refine F.ok sc_fractions (fun vs H Q E h=>?_) (fun cdv A outer s H vs Q E hr h=>?_)
 ·obtain ⟨l,ys,fs,n,rfl,_⟩:=h
  rfl
 ·obtain ⟨l,ys,fs,n,rfl,hl,fl,hn,h64,lo,q⟩:=h
  refine ⟨_,(pss_cons (ps_if (pw_or (pt_not (pt_tru (pe_callB call_isi (by rfl) T.b_isinstance boot_isinstance (pa_cons (pv 0) (pa_cons (pe_bltn (v:=.ty "list") (by rfl) T.b_list boot_list rfl) pa_nil))) (fun _=>rfl))) (pw_or1 (pt_cmpR op_ne (pe_callB call_lenL (by rfl) T.b_len PySem.boot_len (pa_cons (pv 0) pa_nil)) (pv 1) (nomark _)))).pt
    (pss_one (ps_ret pe_bl))
    pss_nil)
   (pss_one (ps_ret (pe_callB (call_allH rfl) (by rfl) T.b_all boot_all (pa_cons (pe_compGF (defScope s_fractions) ["_law_found", "_law_many"] ["_law_found", "_law_many"] ["_law_one"] rfl rfl rfl (by decide +kernel) (by decide +kernel) rfl (by decide +kernel) (by decide +kernel) (by decide +kernel) (by decide +kernel) (by decide +kernel) (pi_list ((pv 0)).mono) (fun _ _ _ _ _=>(pg_name (i:=0) (show List.Nodup (["_law_one", "_law_found", "_law_many"] : List Str) from by decide +kernel) rfl (Or.inl rfl) (Or.inr rfl))) (fun _ _ _ _ _=>pts_nil) (fun _ _ _ _ _=>(pe_callF G_is_fraction (hr.mono (by decide)) (by rfl) (pa_cons (pv 0) pa_nil)))) pa_nil))))),?_⟩
  unfold sp_is_fraction
  walk_at "rd"
  have hyl:ys.length = n:=by rw [fl.length,hn]
  refine ⟨_,tyS_lst hl,ys,hl,?_⟩
  rw [hyl]
  simp only [decide_true,Bool.not_true,Bool.false_eq_true,if_false]
  refine tCompG1_list ?_
  walk_at "rd"
  refine ⟨_,hl,by rw [hyl]; exact Nat.le_trans h64 (by decide),fun D1 hD1=>⟨fun k zs Hc=>Same H Hc∧Hc D1 = some (.lst zs)∧zs = (List.replicate k true).map V.bl,⟨Same.upd hD1,upd_same,rfl⟩,?_,?_⟩⟩
  ·rintro k v zs Hc hk ⟨T1,c1,rfl⟩ hzl hlc
   obtain ⟨p,f0,rfl,hf,hp⟩:=fl.get hk
   have l0:=lo f0 (List.mem_of_getElem? hf)
   refine ⟨p,rfl,_,_,T1.tup hp,c1,hlc,?_,upd_same,?_⟩
   ·exact same_upd hD1 T1
   ·rw [decide_eq_true l0.pos,decide_eq_true l0.gcd,List.replicate_succ',List.map_append]; rfl
  ·rintro zs Hc ⟨T1,c1,rfl⟩ hzl
   refine ⟨_,c1,?_⟩
   rw [show (List.replicate ys.length true).all id = true by simp]
   exact q Hc T1
theorem mul_le {a b:Int} {m n:Nat} (h1:a.natAbs ≤ m) (h2:b.natAbs ≤ n):(a * b).natAbs ≤ m * n:=by rw [Int.natAbs_mul]; exact Nat.mul_le_mul h1 h2
open Rw
def dotF:List Int→(Nat→Int)→Int
 | [],_=>0
 | t :: ts,y=>t * y 0 + dotF ts fun i=>y (i + 1)
theorem dot_mul {c:Int} : ∀ {ts:List Int} {y:Nat→Int},dotF (ts.map fun t=>t * c) y = dotF ts y * c
 | [],_=>by show (0:Int) = 0 * c; rw [Int.zero_mul]
 | t :: ts,y=>by
  show t * c * y 0 + dotF (ts.map fun t=>t * c) (fun i=>y (i + 1)) = (t * y 0 + dotF ts fun i=>y (i + 1)) * c
  rw [dot_mul,Int.add_mul]
  congr 1
  ac_rfl
theorem dot_div {g:Int} : ∀ {ts:List Int} {y:Nat→Int},(∀ t ∈ ts,g ∣ t)→dotF (ts.map fun t=>t / g) y * g = dotF ts y
 | [],_,_=>Int.zero_mul g
 | t :: ts,y,h=>by
  show (t / g * y 0 + dotF (ts.map fun t=>t / g) fun i=>y (i + 1)) * g = t * y 0 + dotF ts fun i=>y (i + 1)
  rw [Int.add_mul,dot_div fun u hu=>h u (List.mem_cons_of_mem _ hu),Int.mul_right_comm,Int.ediv_mul_cancel (h t List.mem_cons_self)]
theorem dot_zip {u v:Int} : ∀ {ts ss:List Int} {y:Nat→Int},ts.length = ss.length→dotF (List.zipWith (fun a b=>a * u + b * v) ts ss) y = dotF ts y * u + dotF ss y * v
 | [],[],_,_=>by show (0:Int) = 0 * u + 0 * v; rw [Int.zero_mul,Int.zero_mul]; rfl
 | t :: ts,s :: ss,y,h=>by
  show (t * u + s * v) * y 0 + dotF (List.zipWith (fun a b=>a * u + b * v) ts ss) (fun i=>y (i + 1)) = (t * y 0 + dotF ts fun i=>y (i + 1)) * u + (s * y 0 + dotF ss fun i=>y (i + 1)) * v
  rw [dot_zip (by simpa using h),Int.add_mul,Int.add_mul,Int.add_mul,Int.mul_right_comm t,Int.mul_right_comm s]
  omega
theorem dot_zero:∀ {ts:List Int} {y:Nat→Int},(∀ (j:Nat) t,ts[j]? = some t→t * y j = 0)→dotF ts y = 0
 | [],_,_=>rfl
 | t :: ts,y,h=>by
  show t * y 0 + dotF ts (fun i=>y (i + 1)) = 0
  rw [h 0 t rfl,dot_zero fun j u hu=>h (j + 1) u (by simpa using hu)]; rfl
theorem dot_one:∀ {ts:List Int} {y:Nat→Int} {k:Nat} {t:Int},ts[k]? = some t→(∀ (j:Nat) u,j ≠ k→ts[j]? = some u→u * y j = 0)→dotF ts y = t * y k
 | [],_,k,_,h,_=>by simp at h
 | t :: ts,y,0,u,h,z=>by
  simp at h
  show t * y 0 + dotF ts (fun i=>y (i + 1)) = u * y 0
  rw [dot_zero fun j v hv=>z (j + 1) v (by omega) (by simpa using hv),h,Int.add_zero]
 | t :: ts,y,k + 1,u,h,z=>by
  show t * y 0 + dotF ts (fun i=>y (i + 1)) = u * y (k + 1)
  rw [z 0 t (by omega) rfl,dot_one (k:=k) (by simpa using h) fun j v hj hv=>z (j + 1) v (by omega) (by simpa using hv),Int.zero_add]
theorem dot_two:∀ {ts:List Int} {y:Nat→Int} {k c:Nat} {t s:Int},k ≠ c→ts[k]? = some t→ts[c]? = some s→(∀ (j:Nat) u,j ≠ k→j ≠ c→ts[j]? = some u→u * y j = 0)→dotF ts y = t * y k + s * y c
 | [],_,k,_,_,_,_,h,_,_=>by simp at h
 | t :: ts,y,0,0,_,_,e,_,_,_=>absurd rfl e
 | t :: ts,y,0,c + 1,u,v,e,h,h2,z=>by
  simp at h
  show t * y 0 + dotF ts (fun i=>y (i + 1)) = u * y 0 + v * y (c + 1)
  rw [dot_one (k:=c) (by simpa using h2) fun j w hj hw=>z (j + 1) w (by omega) (by omega) (by simpa using hw),h]
 | t :: ts,y,k + 1,0,u,v,e,h,h2,z=>by
  simp at h2
  show t * y 0 + dotF ts (fun i=>y (i + 1)) = u * y (k + 1) + v * y 0
  rw [dot_one (k:=k) (by simpa using h) fun j w hj hw=>z (j + 1) w (by omega) (by omega) (by simpa using hw),h2,Int.add_comm]
 | t :: ts,y,k + 1,c + 1,u,v,e,h,h2,z=>by
  show t * y 0 + dotF ts (fun i=>y (i + 1)) = u * y (k + 1) + v * y (c + 1)
  rw [z 0 t (by omega) (by omega) rfl,dot_two (k:=k) (c:=c) (by omega) (by simpa using h) (by simpa using h2) fun j w hj hj2 hw=>z (j + 1) w (by omega) (by omega) (by simpa using hw),Int.zero_add]
theorem dot_red {r:Row} (h:0 < r.2) {y:Nat→Int} (z:dotF (redR r).1 y = 0):dotF r.1 y = 0:=by
 have e:=dot_div (g:=gcL r.1 r.2) (ts:=r.1) (y:=y) gcL_dvd.2
 have z:dotF (r.1.map fun t=>t / gcL r.1 r.2) y = 0:=z
 rw [z,Int.zero_mul] at e
 exact e.symm
theorem dot_times {r:Row} {c:Int × Int} (h:c.1 ≠ 0) {y:Nat→Int} (z:dotF (timesR r c).1 y = 0):dotF r.1 y = 0:=by
 have z:dotF (r.1.map fun t=>t * c.1) y = 0:=z
 rw [dot_mul] at z
 exact (Int.mul_eq_zero.mp z).resolve_right h
theorem dot_plus {r p:Row} {c:Int × Int} (h:0 < r.2) (hp:0 < p.2) (hc:0 < c.2) (hl:r.1.length = p.1.length) {y:Nat→Int} (zp:dotF p.1 y = 0) (z:dotF (plusR r p c).1 y = 0):dotF r.1 y = 0:=by
 have z:dotF (List.zipWith (fun a b=>a * (p.2 * c.2 / ((Int.gcd r.2 (p.2 * c.2):Nat):Int)) + b * (r.2 / ((Int.gcd r.2 (p.2 * c.2):Nat):Int) * c.1)) r.1 p.1) y = 0:=z
 have hB:=Int.mul_pos hp hc
 have own:0 < p.2 * c.2 / ((Int.gcd r.2 (p.2 * c.2):Nat):Int):=Int.ediv_pos_of_pos_of_dvd hB (Int.le_of_lt (Ac.gpos hB)) (Int.gcd_dvd_right _ _)
 rw [dot_zip hl,zp,Int.zero_mul,Int.add_zero] at z
 exact (Int.mul_eq_zero.mp z).resolve_right (Int.ne_of_gt own)
def KerR (rs:List Row) (y:Nat→Int):Prop:=∀ i,i < rs.length→dotF (rowAt rs i).1 y = 0
theorem step_ker {rs:List Row} {st:Stp} {wd:Nat} {y:Nat→Int} (hb:∀ r ∈ rs,Big NN r∧r.1.length = wd) (sg:StpG rs.length st) (h:KerR (stepR rs st) y):KerR rs y:=by
 cases st with
 | swap i j =>
  obtain ⟨hi,hj⟩:=sg
  intro k hk
  by_cases e:k = i
  ·have:=h j (by rw [stepR_length]; exact hj)
   rw [swap_at hi hj,if_pos rfl] at this
   rw [e]; exact this
  ·by_cases e2:k = j
   ·have:=h i (by rw [stepR_length]; exact hi)
    rw [swap_at hi hj] at this
    by_cases e3:i = j
    ·rw [if_pos e3] at this
     rw [e2,← e3]; exact this
    ·rw [if_neg e3,if_pos rfl] at this
     rw [e2]; exact this
   ·have:=h k (by rw [stepR_length]; exact hk)
    rw [swap_at hi hj,if_neg e2,if_neg e] at this
    exact this
 | times i c =>
  obtain ⟨hi,fn,_,c0⟩:=sg
  intro k hk
  have:=h k (by rw [stepR_length]; exact hk)
  have at_:rowAt (stepR rs (.times i c)) k = if k = i then redR (timesR (rowAt rs i) c) else rowAt rs k:=rowAt_set hi
  rw [at_] at this
  by_cases e:k = i
  ·rw [if_pos e] at this
   rw [e]
   exact dot_times c0 (dot_red (r:=timesR (rowAt rs i) c) (Int.mul_pos (hb _ (rowAt_in hi)).1.pos fn.pos) this)
  ·rw [if_neg e] at this; exact this
 | add i j c =>
  obtain ⟨hi,hj,ne,fn,_⟩:=sg
  have at_:∀ k,rowAt (stepR rs (.add i j c)) k = if k = i then redR (plusR (rowAt rs i) (rowAt rs j) c) else rowAt rs k:=fun k=>rowAt_set hi
  have zj:=h j (by rw [stepR_length]; exact hj)
  rw [at_,if_neg (fun z=>ne z.symm)] at zj
  intro k hk
  have:=h k (by rw [stepR_length]; exact hk)
  rw [at_] at this
  by_cases e:k = i
  ·rw [if_pos e] at this
   rw [e]
   have bi:=hb _ (rowAt_in hi)
   have bj:=hb _ (rowAt_in hj)
   have hB:=Int.mul_pos bj.1.pos fn.pos
   have pp:0 < (plusR (rowAt rs i) (rowAt rs j) c).2:=Int.mul_pos bi.1.pos (Int.ediv_pos_of_pos_of_dvd hB (Int.le_of_lt (Ac.gpos hB)) (Int.gcd_dvd_right _ _))
   exact dot_plus bi.1.pos bj.1.pos fn.pos (by rw [bi.2,bj.2]) zj (dot_red pp this)
  ·rw [if_neg e] at this; exact this
theorem run_ker {wd:Nat} {y:Nat→Int} : ∀ {ss:List Stp} {rs:List Row},AllB NN wd rs ss→(∀ s ∈ ss,StpG rs.length s)→KerR (runR rs ss) y→KerR rs y
 | [],_,_,_,h=>h
 | s :: ss,rs,ab,ok,h=>by
  have h0:∀ r ∈ rs,Big NN r∧r.1.length = wd:=fun r hr=>ab 0 r hr
  exact step_ker h0 (ok s List.mem_cons_self) (run_ker (ss:=ss) (rs:=stepR rs s) (fun k=>ab (k + 1)) (fun z hz=>by rw [stepR_length]; exact ok z (List.mem_cons_of_mem _ hz)) h)
open Rw
def pvi (piv:Nat→Nat):Nat→Nat→Option Nat
 | 0,_=>none
 | k + 1,j=>if piv k = j then some k else pvi piv k j
theorem free_col {piv:Nat→Nat} {p n:Nat} (hp:p < n) (o:∀ a b,a < b→b < p→piv a < piv b):∃ c,c < n∧∀ i,i < p→piv i ≠ c:=by
 have key:∀ m,m ≤ p→(∀ i,i < m→piv i = i)∨∃ c,c < n∧∀ i,i < p→piv i ≠ c:=by
  intro m
  induction m with
  | zero=>exact fun _=>.inl fun i hi=>absurd hi (by omega)
  | succ m ih =>
   intro hm
   rcases ih (by omega) with h | h
   ·by_cases e:piv m = m
    ·refine .inl fun i hi=>?_
     by_cases z:i = m
     ·rw [z]; exact e
     ·exact h i (by omega)
    ·refine .inr ⟨m,by omega,fun i hi z=>?_⟩
     have gt:m < piv m:=by
      cases m with
      | zero=>omega
      | succ m =>
       have:=o m (m + 1) (by omega) (by omega)
       have:=h m (by omega)
       omega
     rcases Nat.lt_trichotomy i m with c | c | c
     ·have:=h i c; omega
     ·rw [c] at z; exact e z
     ·have:=o m i c hi; omega
   ·exact .inr h
 rcases key p (Nat.le_refl _) with h | h
 ·exact ⟨p,hp,fun i hi z=>by have:=h i hi; omega⟩
 ·exact h
def prodB (b:Nat→Int):Nat→Int
 | 0=>1
 | k + 1=>prodB b k * b k
theorem prodB_pos {b:Nat→Int} : ∀ {p:Nat},(∀ i,i < p→0 < b i)→0 < prodB b p
 | 0,_=>(by decide:(0:Int) < 1)
 | p + 1,h=>Int.mul_pos (prodB_pos fun i hi=>h i (by omega)) (h p (by omega))
theorem prodB_dvd {b:Nat→Int} {i:Nat} : ∀ {p:Nat},i < p→b i ∣ prodB b p
 | 0,h=>absurd h (by omega)
 | p + 1,h=>by
  by_cases e:i = p
  ·rw [e]; exact ⟨prodB b p,Int.mul_comm _ _⟩
  ·exact Int.dvd_trans (prodB_dvd (p:=p) (by omega)) ⟨b p,rfl⟩
open Rw
theorem piv_id {piv:Nat→Nat} {p:Nat} (o:∀ a b,a < b→b < p→piv a < piv b) (hb:∀ i,i < p→piv i < p):∀ i,i < p→piv i = i:=by
 have lo:∀ i,i < p→i ≤ piv i:=fun i=>by
  induction i with
  | zero=>exact fun _=>Nat.zero_le _
  | succ i ih =>
   intro hi
   have:=ih (by omega)
   have:=o i (i + 1) (by omega) hi
   omega
 have hi:∀ k,k < p→piv (p - 1 - k) + k ≤ p - 1:=fun k=>by
  induction k with
  | zero =>
   intro h
   have:=hb (p - 1 - 0) (by omega)
   omega
  | succ k ih =>
   intro h
   have a:=ih (by omega)
   have b:=o (p - 1 - (k + 1)) (p - 1 - k) (by omega) (by omega)
   omega
 intro i h
 have a:=lo i h
 have b:=hi (p - 1 - i) (by omega)
 rw [show p - 1 - (p - 1 - i) = i by omega] at b
 omega
def prF:List (Int × Int)→List (Int × Int)→Int × Int→Int × Int
 | a :: as,b :: bs,z=>prF as bs (z.1 * a.2 * b.2 + a.1 * b.1 * z.2,z.2 * a.2 * b.2)
 | _,_,z=>z
theorem prF_pos:∀ {as bs:List (Int × Int)} {z:Int × Int},(∀ a ∈ as,0 < a.2)→(∀ b ∈ bs,0 < b.2)→0 < z.2→0 < (prF as bs z).2
 | [],_,_,_,_,h=>h
 | _ :: _,[],_,_,_,h=>h
 | a :: as,b :: bs,z,ha,hb,h=>prF_pos (as:=as) (bs:=bs) (fun x hx=>ha x (List.mem_cons_of_mem _ hx)) (fun x hx=>hb x (List.mem_cons_of_mem _ hx)) (Int.mul_pos (Int.mul_pos h (ha a List.mem_cons_self)) (hb b List.mem_cons_self))
theorem prF_val {S:Int} : ∀ {as bs:List (Int × Int)} {us:List Int} {y:Nat→Int} {z:Int × Int},as.length = bs.length→as.length = us.length→(∀ (j:Nat) a b u,as[j]? = some a→bs[j]? = some b→us[j]? = some u→u * y j * (a.2 * b.2) = S * (a.1 * b.1))→(∀ a ∈ as,0 < a.2)→(∀ b ∈ bs,0 < b.2) →
    (prF as bs z).1 * z.2 * S = (prF as bs z).2 * (z.1 * S + z.2 * dotF us y)
  | [],[],[],y,z,_,_,_,_,_=>by
    show z.1 * z.2 * S = z.2 * (z.1 * S + z.2 * 0)
    rw [Int.mul_zero,Int.add_zero]; ac_rfl
  | a :: as,b :: bs,u :: us,y,z,h1,h2,h,ha,hb=>by
    have m0:=Int.mul_pos (ha a List.mem_cons_self) (hb b List.mem_cons_self)
    have e0:=h 0 a b u rfl rfl rfl
    have ih:=prF_val (as:=as) (bs:=bs) (us:=us) (y:=fun i=>y (i + 1)) (z:=(z.1 * a.2 * b.2 + a.1 * b.1 * z.2,z.2 * a.2 * b.2)) (S:=S) (by simpa using h1) (by simpa using h2) (fun j a' b' u' x1 x2 x3=>h (j + 1) a' b' u' (by simpa using x1) (by simpa using x2) (by simpa using x3)) (fun x hx=>ha x (List.mem_cons_of_mem _ hx)) fun x hx=>hb x (List.mem_cons_of_mem _ hx)
    show (prF as bs (z.1 * a.2 * b.2 + a.1 * b.1 * z.2,z.2 * a.2 * b.2)).1 * z.2 * S = (prF as bs (z.1 * a.2 * b.2 + a.1 * b.1 * z.2,z.2 * a.2 * b.2)).2 * (z.1 * S + z.2 * (u * y 0 + dotF us fun i=>y (i + 1)))
    generalize prF as bs (z.1 * a.2 * b.2 + a.1 * b.1 * z.2,z.2 * a.2 * b.2) = r at *
    generalize (dotF us fun i=>y (i + 1)) = dd at *
    have ih:r.1 * (z.2 * a.2 * b.2) * S = r.2 * ((z.1 * a.2 * b.2 + a.1 * b.1 * z.2) * S + z.2 * a.2 * b.2 * dd):=ih
    refine Int.eq_of_mul_eq_mul_right (Int.ne_of_gt m0) ?_
    calc r.1 * z.2 * S * (a.2 * b.2) = r.1 * (z.2 * a.2 * b.2) * S:=by ac_rfl
      _ = r.2 * ((z.1 * a.2 * b.2 + a.1 * b.1 * z.2) * S + z.2 * a.2 * b.2 * dd):=ih
      _ = r.2 * (z.1 * S * (a.2 * b.2) + z.2 * (S * (a.1 * b.1)) + z.2 * dd * (a.2 * b.2)):=by
        congr 1
        rw [Int.add_mul]
        congr 1
        · congr 1 <;> ac_rfl
        · ac_rfl
      _ = r.2 * (z.1 * S * (a.2 * b.2) + z.2 * (u * y 0 * (a.2 * b.2)) + z.2 * dd * (a.2 * b.2)):=by rw [← e0]
      _ = r.2 * (z.1 * S + z.2 * (u * y 0 + dd)) * (a.2 * b.2):=by
        rw [Int.mul_assoc r.2,Int.add_mul,Int.mul_add z.2,Int.add_mul,← Int.add_assoc]
        congr 1
        congr 1
        congr 1
        ac_rfl
theorem prF_size {M:Nat} : ∀ {as bs:List (Int × Int)} {z:Int × Int} {B:Nat},(∀ a ∈ as,a.1.natAbs ≤ M∧a.2.natAbs ≤ M)→(∀ b ∈ bs,b.1.natAbs ≤ M∧b.2.natAbs ≤ M)→z.1.natAbs ≤ B→z.2.natAbs ≤ B→1 ≤ M→(prF as bs z).1.natAbs ≤ B * (2 * (M * M)) ^ as.length∧(prF as bs z).2.natAbs ≤ B * (2 * (M * M)) ^ as.length
 | [],_,z,B,_,_,h1,h2,_=>by rw [List.length_nil,Nat.pow_zero,Nat.mul_one]; exact ⟨h1,h2⟩
 | a :: as,[],z,B,_,_,h1,h2,hM=>by
  have:1 ≤ (2 * (M * M)) ^ (a :: as).length:=Nat.one_le_pow _ _ (by have:=Nat.mul_le_mul hM hM; omega)
  have:=Nat.mul_le_mul (Nat.le_refl B) this
  rw [Nat.mul_one] at this
  exact ⟨Nat.le_trans h1 this,Nat.le_trans h2 this⟩
 | a :: as,b :: bs,z,B,ha,hb,h1,h2,hM=>by
  obtain ⟨a1,a2⟩:=ha a List.mem_cons_self
  obtain ⟨b1,b2⟩:=hb b List.mem_cons_self
  have k:∀ {x y w:Int},x.natAbs ≤ B→y.natAbs ≤ M→w.natAbs ≤ M→(x * y * w).natAbs ≤ B * (M * M):=fun hx hy hw=>by
   rw [Int.natAbs_mul,Int.natAbs_mul,Nat.mul_assoc]
   exact Nat.mul_le_mul hx (Nat.mul_le_mul hy hw)
  have m1:=k h1 a2 b2
  have m2:=k h2 a1 b1
  have m3:=k h2 a2 b2
  have e2:B * (2 * (M * M)) = B * (M * M) + B * (M * M):=by rw [Nat.mul_left_comm]; omega
  rw [Int.mul_right_comm z.2,Int.mul_comm (z.2 * b.1),← Int.mul_assoc,Int.mul_right_comm a.1] at m2
  obtain ⟨r1,r2⟩:=prF_size (as:=as) (bs:=bs) (z:=(z.1 * a.2 * b.2 + a.1 * b.1 * z.2,z.2 * a.2 * b.2)) (B:=B * (2 * (M * M))) (fun x hx=>ha x (List.mem_cons_of_mem _ hx)) (fun x hx=>hb x (List.mem_cons_of_mem _ hx)) (by
   show (z.1 * a.2 * b.2 + a.1 * b.1 * z.2).natAbs ≤ _
   have:=Int.natAbs_add_le (z.1 * a.2 * b.2) (a.1 * b.1 * z.2)
   omega) (by
   show (z.2 * a.2 * b.2).natAbs ≤ _
   omega) hM
  rw [List.length_cons,Nat.pow_succ,Nat.mul_comm ((2 * (M * M)) ^ as.length),← Nat.mul_assoc]
  exact ⟨r1,r2⟩
open Rw
theorem FRs.set {H:Hp} {xs:List V} {fss:List (List (Int × Int))} (h:FRs H xs fss) {i:Nat} (hi:i < fss.length) {l:Addr} {ys:List V} {fs:List (Int × Int)} (hl:H l = some (.lst ys)) (hf:FL H ys fs):FRs H (xs.set i (.ref l)) (fss.set i fs):=by
 refine ⟨by rw [List.length_set,List.length_set,h.len],fun k v e=>?_⟩
 rw [List.getElem?_set] at e
 rw [List.getD_eq_getElem?_getD,List.getElem?_set]
 by_cases ek:i = k
 ·rw [if_pos ek,if_pos (by rw [h.len]; exact hi)] at e
  cases e
  rw [if_pos ek,if_pos hi]
  exact ⟨l,ys,rfl,hl,hf⟩
 ·rw [if_neg ek] at e ⊢
  rw [← List.getD_eq_getElem?_getD]
  exact h.at_ k v e
theorem FRs.get {H:Hp} {xs:List V} {fss:List (List (Int × Int))} (h:FRs H xs fss) {i:Nat} (hi:i < fss.length):∃ l ys,xs[i]? = some (.ref l)∧H l = some (.lst ys)∧FL H ys (fAt fss i)∧fAt fss i ∈ fss:=by
 have hx:i < xs.length:=by rw [h.len]; exact hi
 obtain ⟨l,ys,e,a,b⟩:=h.at_ i _ (List.getElem?_eq_getElem hx)
 refine ⟨l,ys,by rw [List.getElem?_eq_getElem hx,e],a,b,?_⟩
 unfold fAt
 rw [List.getD_eq_getElem?_getD,List.getElem?_eq_getElem hi]
 exact List.getElem_mem hi
def jDn (D2:Addr) (H:Hp) (gs:List (Int × Int)) (k:Nat) (ys:List V) (Hc:Hp):Prop:=Same H Hc∧Hc D2 = some (.lst ys)∧FL Hc ys (gs.take k)
theorem jDn.next {D2:Addr} {H:Hp} {gs:List (Int × Int)} {k:Nat} {ys:List V} {Hc:Hp} (hD:H D2 = none) (h:jDn D2 H gs k ys Hc) {g:Int × Int} (e:gs[k]? = some g) {r:Addr} (hr:Hc r = none):jDn D2 H gs (k + 1) (ys ++ [.ref r]) (upd (upd Hc r (.tup [.int g.1,.int g.2])) D2 (.lst (ys ++ [.ref r]))):=by
 obtain ⟨T2,c2,fl⟩:=h
 have T3:Same Hc (upd Hc r (.tup [.int g.1,.int g.2])):=Same.upd hr
 have e1:upd Hc r (.tup [.int g.1,.int g.2]) r = some (.tup [.int g.1,.int g.2]):=upd_same
 generalize upd Hc r (.tup [.int g.1,.int g.2]) = H3 at T3 e1 ⊢
 refine ⟨same_upd hD (T2.trans T3),upd_same,?_⟩
 rw [take_next e]
 exact ((fl.same T3).updL (T3 _ _ c2)).append (.cons ((upd_ne (ne_of e1 (T3 _ _ c2) (by intro z; cases z))).trans e1) .nil)
theorem asg_of {te:TE} {g:TG} {D:Ends} {σ:L2.St} {H:Hp} (h:te σ H fun x H1=>g x σ H1 D.nx):tAsg te g D σ H:=h
open Rw
theorem ret_of {te:TE} {D:Ends} {σ:L2.St} {H:Hp} (h:te σ H D.rt):tRet te D σ H:=h
def sp_with_rights:Sp:=fun vs H Q _=>∃ (l r:Addr) (xs ys:List V) (fss:List (List (Int × Int))) (rs:List (Int × Int)),vs = [.ref l,.ref r]∧H l = some (.lst xs)∧FRs H xs fss∧H r = some (.lst ys)∧FL H ys rs∧fss.length = rs.length∧fss.length ≤ 20∧(∀ fs ∈ fss,fs.length ≤ 40) ∧
 ∀ p zs H',Same H H'→H' p = some (.lst zs)→FRs H' zs (List.zipWith (fun fs r=>fs ++ [r]) fss rs)→Q (.ref p) H'
theorem ok_with_rights {f:Addr} {fd:FuncData} (F:Fun K nm_with_rights nm_with_rights s_with_rights f fd) (T:Txt K mg D):FnOk P w K mg base CX0 1 f fd ps_with_rights sp_with_rights:=by
 refine F.ok sc_with_rights (fun vs H Q E h=>?_) (fun cdv A outer s H vs Q E hr h=>?_)
 ·obtain ⟨l,r,xs,ys,fss,rs,rfl,_⟩:=h
  rfl
 ·obtain ⟨l,r,xs,ys,fss,rs,rfl,hl,fr,hr',fl,hlen,hn,hw,q⟩:=h
  refine ⟨_,(pss_one (ps_ret (pe_compGF (defScope s_with_rights) ["rows", "rights"] ["rows", "rights"] ["row", "right"] rfl rfl rfl (by decide +kernel) (by decide +kernel) rfl (by decide +kernel) (by decide +kernel) (by decide +kernel) (by decide +kernel) (by decide +kernel) (pi_zip (by rfl) T.b_zip (pa_cons (pv 0) (pa_cons (pv 1) pa_nil)).mono) (fun _ _ _ _ _=>(pg_tupH (n:=2) rfl (pgs_cons (pg_name (i:=0) (show List.Nodup (["row", "right", "rows", "rights"] : List Str) from by decide +kernel) rfl (Or.inl rfl) (Or.inr rfl)) (pgs_cons (pg_name (i:=1) (show List.Nodup (["row", "right", "rows", "rights"] : List Str) from by decide +kernel) rfl (Or.inl rfl) (Or.inr rfl)) pgs_nil)))) (fun _ _ _ _ _=>pts_nil) (fun _ _ _ _ _=>(pe_op op_cat (pv 0) (pe_lst (pa_cons (pv 1) pa_nil))))))),?_⟩
  have hx:=fr.len
  have hy:=fl.length
  refine ret_of (tCompG_zip ?_)
  refine ⟨_,rfl,_,rfl,l,r,xs,ys,rfl,hl,hr',by omega,by omega,fun D1 hD=>⟨fun k zs Hc=>Same H Hc∧Hc D1 = some (.lst zs)∧FRs Hc zs ((List.zipWith (fun fs r=>fs ++ [r]) fss rs).take k)∧∀ (j:Nat) a,zs[j]? = some (V.ref a)→a ≠ D1,⟨Same.upd hD,upd_same,⟨rfl,fun k v e=>by simp at e⟩,by simp⟩,?_,?_⟩⟩
  ·rintro k x y zs Hc tt hk hk2 ⟨S1,c1,fz,nz⟩ hzl htt hlc hlc2 pre hpre
   obtain ⟨u0,u1,rfl⟩:=two_of hpre
   have kf:k < fss.length:=by
    have:=(List.getElem?_eq_some_iff.mp hk).1
    omega
   obtain ⟨la,ya,ea,ha,fa,ma⟩:=fr.get kf
   rw [hk] at ea
   cases ea
   obtain ⟨p',g0,rfl,hg,hp'⟩:=fl.get hk2
   have T4:Same Hc (upd Hc tt (.tup [.ref la,.ref p'])):=Same.upd htt
   have e4:upd Hc tt (.tup [.ref la,.ref p']) tt = some (.tup [.ref la,.ref p']):=upd_same
   generalize upd Hc tt (.tup [.ref la,.ref p']) = H4 at T4 e4 ⊢
   refine ⟨tt,_,rfl,e4,rfl,_,_,rfl,_,_,rfl,rfl,[some (.ref la),some (.ref p')],rfl,rfl,?_⟩
   refine ⟨_,rfl,_,rfl,line1,fun t5 ht5=>?_⟩
   have T5:Same H4 (upd H4 t5 (.lst [.ref p'])):=Same.upd ht5
   have e5:upd H4 t5 (.lst [.ref p']) t5 = some (.lst [.ref p']):=upd_same
   generalize upd H4 t5 (.lst [.ref p']) = H5 at T5 e5 ⊢
   have S5:=(S1.trans T4).trans T5
   have ly:=hw _ ma
   refine ⟨la,t5,ya,_,rfl,rfl,S5 _ _ ha,e5,?_,fun r6 hr6=>?_⟩
   ·rw [fa.length]
    exact Nat.le_trans (Nat.add_le_add_right ly 1) (by decide)
   have T6:Same H5 (upd H5 r6 (.lst (ya ++ [.ref p']))):=Same.upd hr6
   have e6:upd H5 r6 (.lst (ya ++ [.ref p'])) r6 = some (.lst (ya ++ [.ref p'])):=upd_same
   generalize upd H5 r6 (.lst (ya ++ [.ref p'])) = H6 at T6 e6 ⊢
   have T46:=(T4.trans T5).trans T6
   have S6:=S1.trans T46
   have n1:=T46 _ _ c1
   have nr:r6 ≠ D1:=fun z=>by
    have:=(T4.trans T5) _ _ c1
    rw [← z,hr6] at this
    cases this
   have en:(List.zipWith (fun fs r=>fs ++ [r]) fss rs)[k]? = some (fAt fss k ++ [g0]):=by
    rw [List.getElem?_zipWith,hg]
    unfold fAt
    rw [List.getD_eq_getElem?_getD,List.getElem?_eq_getElem kf]; rfl
   refine ⟨n1,T46 _ _ hlc,T46 _ _ hlc2,same_upd hD S6,upd_same,?_,fun j a e=>?_⟩
   ·rw [take_next en]
    exact FRs.snoc (FRs.updL n1 (fz.same T46) nz) ((upd_ne nr).trans e6) (((fa.same S6).append (.cons (S6 _ _ hp') .nil)).updL n1)
   ·by_cases hj:j < zs.length
    ·rw [List.getElem?_append_left hj] at e
     exact nz j a e
    ·rw [List.getElem?_append_right (by omega)] at e
     have e0:j - zs.length = 0:=by
      cases z:j - zs.length with
      | zero=>rfl
      | succ m=>rw [z] at e; simp at e
     rw [e0,List.getElem?_cons_zero] at e
     cases e
     exact nr
  ·rintro zs Hc ⟨S1,c1,fz,nz⟩ _
   rw [List.take_of_length_le (by rw [List.length_zipWith]; omega)] at fz
   exact q D1 zs Hc S1 c1 fz
open Rw
theorem filt_first {P:Nat→Bool} {c:Nat} : ∀ {w:Nat},c < w→(∀ j,j < c→P j = false)→P c = true→∃ rest,(List.range w).filter P = c :: rest
 | 0,h,_,_=>absurd h (by omega)
 | w + 1,h,z,o=>by
  rw [List.range_succ,List.filter_append]
  by_cases e:c < w
  ·obtain ⟨rest,er⟩:=filt_first (P:=P) e z o
   rw [er]
   exact ⟨_,rfl⟩
  ·have:c = w:=by omega
   subst this
   rw [List.filter_eq_nil_iff.mpr (fun j hj=>by rw [z j (List.mem_range.mp hj)]; decide),List.filter_cons_of_pos o]
   exact ⟨_,rfl⟩
def sp_begins_of (K:PySem.W.Frag):Sp:=fun vs H Q _=>∃ (l:Addr) (xs:List V) (rs:List Row) (wide wd p:Nat) (piv:Nat→Nat),vs = [.ref l,.int wide]∧H l = some (.lst xs)∧FRs H xs (rs.map rep)∧(∀ r ∈ rs,0 < r.2∧r.1.length = wd)∧wide ≤ wd∧wd ≤ 64∧rs.length ≤ 20∧Form rs p wide piv∧p ≤ rs.length ∧
 ∀ b H',Same H H'→H' b = some (.lst ((List.range p).map fun i=>V.int (piv i)))→Q (.ref b) H'
theorem ok_begins_of {f:Addr} {fd:FuncData} (F:Fun K nm_begins_of nm_begins_of s_begins_of f fd) (T:Txt K mg D):FnOk P w K mg base CX0 1 f fd ps_begins_of (sp_begins_of K):=by
 refine F.ok sc_begins_of (fun vs H Q E h=>?_) (fun cdv A outer s H vs Q E hr h=>?_)
 ·obtain ⟨l,xs,rs,wide,wd,p,piv,rfl,_⟩:=h
  rfl
 ·obtain ⟨l,xs,rs,wide,wd,p,piv,rfl,hl,fr,hb,hw,h64,hn,fm,hp,q⟩:=h
  refine ⟨_,(pss_cons (ps_set (i:=2) sc_begins_of.nd rfl (Or.inl rfl) (pe_lst pa_nil))
   (pss_cons (ps_for PassesOwn.never rfl (pi_list ((pv 0)).mono) (pg_name (i:=3) sc_begins_of.nd rfl (Or.inr rfl))
    (pss_cons (ps_compGF (defScope s_begins_of) ["end", "wide", "begins", "row", "columns"] ["end", "wide", "begins", "row", "columns"] ["column"] rfl rfl rfl (by decide +kernel) (by decide +kernel) rfl (by decide +kernel) (by decide +kernel) (by decide +kernel) (by decide +kernel) (by decide +kernel) (pi_range1 (by rfl) T.b_range (pa_cons (pv 1) pa_nil).mono) (fun _ _ _ _ _=>(pg_name (i:=0) (show List.Nodup (["column", "end", "wide", "begins", "row", "columns"] : List Str) from by decide +kernel) rfl (Or.inl rfl) (Or.inr rfl))) (fun _ _ _ _ _=>(pts_one (pt_cmpR (op_neKK (K:=K) rfl hr.units) (pe_ix ix_listH (pv 4) (pv 0) (fun _ _=>rfl)) (pe_globT (by rfl) T.c_NOUGHT) (nomark _)))) (fun _ _ _ _ _=>(pv 0)) (pg_name (i:=4) sc_begins_of.nd rfl (Or.inl rfl)))
    (pss_one (ps_if (pt_cmpR op_gt (pe_callB call_lenL (by rfl) T.b_len PySem.boot_len (pa_cons (pv 4) pa_nil)) pe_int (nomark _))
     (pss_one (ps_expr (pe_app (pv 2) (pa_cons (pe_ix ix_listH (pv 4) pe_int (fun _ _=>rfl)) pa_nil))))
     pss_nil))))
   (pss_one (ps_ret (pv 2))))),?_⟩
  have hx:xs.length = rs.length:=by rw [fr.len,List.length_map]
  refine ⟨Nat.zero_le _,fun B hB=>seq_of (tFor_listM ?_)⟩
  have S0:Same H (upd H B (.lst [])):=Same.upd hB
  refine ⟨_,rfl,l,xs,rfl,S0 _ _ hl,fun k σ H'=>∃ u v,σ = [some (.ref l),some (.int wide),some (.ref B),u,v]∧Same H H'∧H' B = some (.lst ((List.range (min k p)).map fun i=>V.int (piv i))),⟨none,none,rfl,S0,by rw [Nat.zero_min]; exact upd_same⟩,?_,?_⟩
  ·rintro k x σ' H2 hk ⟨u,v,rfl,S2,hB2⟩ hl2
   have kr:k < rs.length:=by
    have:=(List.getElem?_eq_some_iff.mp hk).1
    omega
   obtain ⟨la,ya,ea,ha,fa,_⟩:=fr.get (i:=k) (by rw [List.length_map]; exact kr)
   rw [fAt_map kr] at fa
   rw [hk] at ea
   cases ea
   have br:=hb _ (rowAt_in kr)
   refine seq_asg (tCompG1_rngC ?_)
   refine ⟨_,rfl,wide,rfl,by omega,fun C hC=>⟨fun m ys Hc=>Same H2 Hc∧Hc C = some (.lst ys)∧ys = ((List.range m).filter fun c=>decide ((rowAt rs k).1.getD c 0 ≠ 0)).map fun c:Nat=>V.int c,⟨Same.upd hC,upd_same,rfl⟩,?_,?_⟩⟩
   ·rintro m ys Hc hm ⟨S3,hC3,rfl⟩ _
    have S23:=S2.trans S3
    obtain ⟨vm,hv⟩ : ∃ v,ya[m]? = some v:=⟨_,List.getElem?_eq_getElem (by rw [fa.length]; unfold rep; rw [List.length_map,br.2]; omega)⟩
    obtain ⟨pg,g,rfl,hg,hpg⟩:=fa.get hv
    have et:(rowAt rs k).1[m]? = some ((rowAt rs k).1.getD m 0):=by rw [List.getD_eq_getElem?_getD,List.getElem?_eq_getElem (by rw [br.2]; omega)]; rfl
    have eg:(rep (rowAt rs k))[m]? = some (Ac.lw ((rowAt rs k).1.getD m 0) (rowAt rs k).2):=by
     unfold rep
     rw [List.getElem?_map,et]; rfl
    rw [eg] at hg
    cases hg
    refine ⟨_,rfl,_,rfl,la,ya,m,_,rfl,rfl,S23 _ _ ha,atI_nat hv,_,_,.tup (.inl (.of (S23 _ _ hpg))) (.cons (.int _) (.cons (.int _) .nil)),.tup (T.kt_NOUGHT _) (.cons (.int _) (.cons (.int _) .nil)),rfl,rfl,_,rfl,?_⟩
    have le:=Ac.lw_eq (t:=(rowAt rs k).1.getD m 0) br.1
    have lp:=Ac.lw_pos (t:=(rowAt rs k).1.getD m 0) br.1
    have lg:=Ac.lw_gcd (t:=(rowAt rs k).1.getD m 0) br.1
    by_cases z:(rowAt rs k).1.getD m 0 = 0
    ·have e1:(Ac.lw ((rowAt rs k).1.getD m 0) (rowAt rs k).2).1 = 0:=by rw [z]; exact Int.zero_ediv _
     have e2:(Ac.lw ((rowAt rs k).1.getD m 0) (rowAt rs k).2).2 = 1:=by
      rw [e1,Int.gcd_zero_left] at lg
      omega
     rw [show (if true = true then !PyData.eqv (.tuple [.int (Ac.lw ((rowAt rs k).1.getD m 0) (rowAt rs k).2).1,.int (Ac.lw ((rowAt rs k).1.getD m 0) (rowAt rs k).2).2]) (.tuple [.int 0,.int 1]) else PyData.eqv (.tuple [.int (Ac.lw ((rowAt rs k).1.getD m 0) (rowAt rs k).2).1,.int (Ac.lw ((rowAt rs k).1.getD m 0) (rowAt rs k).2).2]) (.tuple [.int 0,.int 1])) = false by rw [if_pos rfl,eqv_two,e1,e2]; rfl]
     refine ⟨S3,hC3,?_⟩
     rw [List.range_succ,List.filter_append,List.map_append,List.filter_cons_of_neg (by rw [z]; decide),List.filter_nil,List.map_nil,List.append_nil]
    ·have e1:(Ac.lw ((rowAt rs k).1.getD m 0) (rowAt rs k).2).1 ≠ 0:=fun y=>by
      rw [y,Int.zero_mul] at le
      rcases Int.mul_eq_zero.mp le.symm with x | x
      ·exact z x
      ·omega
     rw [show (if true = true then !PyData.eqv (.tuple [.int (Ac.lw ((rowAt rs k).1.getD m 0) (rowAt rs k).2).1,.int (Ac.lw ((rowAt rs k).1.getD m 0) (rowAt rs k).2).2]) (.tuple [.int 0,.int 1]) else PyData.eqv (.tuple [.int (Ac.lw ((rowAt rs k).1.getD m 0) (rowAt rs k).2).1,.int (Ac.lw ((rowAt rs k).1.getD m 0) (rowAt rs k).2).2]) (.tuple [.int 0,.int 1])) = true by rw [if_pos rfl,eqv_two,beq_eq_false_iff_ne.mpr e1]; rfl]
     refine ⟨_,rfl,hC3,same_upd hC S3,upd_same,?_⟩
     rw [List.range_succ,List.filter_append,List.map_append,List.filter_cons_of_pos (p:=fun c=>decide ((rowAt rs k).1.getD c 0 ≠ 0)) (a:=m) (l:=[]) (decide_eq_true z),List.filter_nil]; rfl
   ·rintro ys Hc ⟨S3,hC3,rfl⟩ _
    have S23:=S2.trans S3
    have hB3:=S3 _ _ hB2
    have hl3:=S3 _ _ hl2
    have nl:l ≠ B:=ne_of_none hl hB
    by_cases kp:k < p
    ·obtain ⟨a1,a2,a3,_⟩:=fm.head k kp
     obtain ⟨rest,er⟩:=filt_first (P:=fun c=>decide ((rowAt rs k).1.getD c 0 ≠ 0)) a1 (fun j hj=>by
      have:=a2 j hj
      simp [List.getD_eq_getElem?_getD,this]) (by
      have b0:=br.1
      simp [List.getD_eq_getElem?_getD,a3]
      omega)
     rw [er] at hC3
     refine ⟨_,rfl,C,_,rfl,hC3,_,_,rfl,rfl,_,rfl,ite2 (fun _=>?_) fun h=>absurd (decide_eq_true (by simp)) h⟩
     refine ⟨_,rfl,B,_,rfl,hB3,_,rfl,C,_,0,_,rfl,rfl,hC3,atI_0,_,_,rfl,hB3,?_,(upd_ne nl).trans hl3,_,_,rfl,same_upd hB S23,?_⟩
     ·rw [List.length_map,List.length_range]
      exact Nat.lt_of_le_of_lt (Nat.min_le_left _ _) (Nat.lt_of_lt_of_le (show k < 64 by omega) (by decide))
     ·rw [Nat.min_eq_left (show k ≤ p by omega),Nat.min_eq_left (show k + 1 ≤ p by omega),List.range_succ,List.map_append]
      exact upd_same
    ·have er:((List.range wide).filter fun c=>decide ((rowAt rs k).1.getD c 0 ≠ 0)) = []:=by
      refine List.filter_eq_nil_iff.mpr fun c hc=>?_
      have:=fm.rest k (by omega) kr c (List.mem_range.mp hc)
      simp [List.getD_eq_getElem?_getD,this]
     rw [er] at hC3
     refine ⟨_,rfl,C,_,rfl,hC3,_,_,rfl,rfl,_,rfl,ite2 (fun h=>absurd h (by decide)) fun _=>⟨hl3,_,_,rfl,S23,?_⟩⟩
     rw [Nat.min_eq_right (show p ≤ k + 1 by omega)]
     rw [Nat.min_eq_right (show p ≤ k by omega)] at hB3
     exact hB3
  ·rintro σ' H2 ⟨u,v,rfl,S2,hB2⟩ _
   rw [Nat.min_eq_right (by omega)] at hB2
   exact ⟨_,rfl,q B H2 S2 hB2⟩
open Rw
theorem prF_snoc:∀ {as bs:List (Int × Int)} {a b z:Int × Int},as.length = bs.length→prF (as ++ [a]) (bs ++ [b]) z = ((prF as bs z).1 * a.2 * b.2 + a.1 * b.1 * (prF as bs z).2,(prF as bs z).2 * a.2 * b.2)
 | [],[],_,_,_,_=>rfl
 | x :: as,y :: bs,a,b,z,h=>by
  show prF (as ++ [a]) (bs ++ [b]) _ = _
  rw [prF_snoc (by simpa using h)]; rfl
def ZB:Nat:=(2 * (NN * NN)) ^ 8
theorem bmZ {i:Int} (h:i.natAbs ≤ ZB * (NN * NN)):Bm i:=Nat.lt_of_le_of_lt h (by decide +kernel)
theorem zb1:ZB ≤ ZB * (NN * NN):=by decide +kernel
theorem zb2:NN * NN ≤ ZB * (NN * NN):=by decide +kernel
theorem zb3:NN ≤ ZB * (NN * NN):=by decide +kernel
theorem zb4:ZB * NN ≤ ZB * (NN * NN):=by decide +kernel
def Sz (fs:List (Int × Int)):Prop:=∀ f ∈ fs,0 < f.2∧f.1.natAbs ≤ NN∧f.2.natAbs ≤ NN
theorem prF_zb {as bs:List (Int × Int)} (ha:Sz as) (hb:Sz bs) (h8:as.length ≤ 8):(prF as bs (0,1)).1.natAbs ≤ ZB∧(prF as bs (0,1)).2.natAbs ≤ ZB:=by
 obtain ⟨h1,h2⟩:=prF_size (as:=as) (bs:=bs) (z:=(0,1)) (B:=1) (M:=NN) (fun a h=>(ha a h).2) (fun b h=>(hb b h).2) (by decide) (by decide) (by decide +kernel)
 have:(2 * (NN * NN)) ^ as.length ≤ ZB:=Nat.pow_le_pow_right (by decide +kernel) h8
 rw [Nat.one_mul] at h1 h2
 exact ⟨Nat.le_trans h1 this,Nat.le_trans h2 this⟩
def sp_products (K:PySem.W.Frag):Sp:=fun vs H Q _=>∃ (l1 l2:Addr) (xs ys:List V) (as bs:List (Int × Int)),vs = [.ref l1,.ref l2]∧H l1 = some (.lst xs)∧FLK K H xs as∧H l2 = some (.lst ys)∧FLK K H ys bs∧as.length = bs.length∧as.length ≤ 8∧Sz as∧Sz bs ∧
 ∀ p H',Same H H'→H p = none→H' p = some (.tup [.int (prF as bs (0,1)).1,.int (prF as bs (0,1)).2])→Q (.ref p) H'
theorem ok_products {f:Addr} {fd:FuncData} (F:Fun K nm_products nm_products s_products f fd) (T:Txt K mg D):FnOk P w K mg base CX0 1 f fd ps_products (sp_products K):=by
 refine F.ok sc_products (fun vs H Q E h=>?_) (fun cdv A outer s H vs Q E hr h=>?_)
 ·obtain ⟨l1,l2,xs,ys,as,bs,rfl,_⟩:=h
  rfl
 ·obtain ⟨l1,l2,xs,ys,as,bs,rfl,h1,f1,h2,f2,hlen,h8,sa,sb,q⟩:=h
  refine ⟨_,(pss_cons (ps_set (i:=2) sc_products.nd rfl (Or.inl rfl) pe_int)
   (pss_cons (ps_set (i:=3) sc_products.nd rfl (Or.inl rfl) pe_int)
   (pss_cons (ps_for PassesOwn.never rfl (pi_zip (by rfl) T.b_zip (pa_cons (pv 0) (pa_cons (pv 1) pa_nil)).mono) (pg_tupH (n:=2) rfl (pgs_cons (pg_name (i:=4) sc_products.nd rfl (Or.inl rfl)) (pgs_cons (pg_name (i:=5) sc_products.nd rfl (Or.inl rfl)) pgs_nil)))
    (pss_cons (ps_set (i:=2) sc_products.nd rfl (Or.inl rfl) (pe_op op_add (pe_op op_mulM (pe_op op_mulM (pv 2) (pe_ix (show IxR _ (rIxT K) from ix_tup) (pv 4) pe_int (fun _ _=>rfl))) (pe_ix (show IxR _ (rIxT K) from ix_tup) (pv 5) pe_int (fun _ _=>rfl))) (pe_op op_mulM (pe_op op_mulM (pe_ix (show IxR _ (rIxT K) from ix_tup) (pv 4) pe_int (fun _ _=>rfl)) (pe_ix (show IxR _ (rIxT K) from ix_tup) (pv 5) pe_int (fun _ _=>rfl))) (pv 3))))
    (pss_one (ps_set (i:=3) sc_products.nd rfl (Or.inl rfl) (pe_op op_mulM (pe_op op_mulM (pv 3) (pe_ix (show IxR _ (rIxT K) from ix_tup) (pv 4) pe_int (fun _ _=>rfl))) (pe_ix (show IxR _ (rIxT K) from ix_tup) (pv 5) pe_int (fun _ _=>rfl)))))))
   (pss_one (ps_ret (pe_tup (pa_cons (pv 2) (pa_cons (pv 3) pa_nil)))))))),?_⟩
  have x1:=f1.length
  have x2:=f2.length
  refine seq_of (tFor_zipM ?_)
  refine ⟨_,rfl,_,rfl,l1,l2,xs,ys,rfl,h1,h2,by omega,fun k σ H'=>∃ u v,σ = [some (.ref l1),some (.ref l2),some (.int (prF (as.take k) (bs.take k) (0,1)).1),some (.int (prF (as.take k) (bs.take k) (0,1)).2),u,v]∧Same H H',⟨none,none,rfl,Same.refl _⟩,?_,?_⟩
  ·rintro k x y σ' H2 t hx hy ⟨u,v,rfl,S2⟩ c1 c2 ht
   obtain ⟨pa,a,rfl,ea,ha⟩:=f1.get hx
   obtain ⟨pb,b,rfl,eb,hb⟩:=f2.get hy
   have T3:Same H2 (upd H2 t (.tup [.ref pa,.ref pb])):=Same.upd ht
   have e3:upd H2 t (.tup [.ref pa,.ref pb]) t = some (.tup [.ref pa,.ref pb]):=upd_same
   generalize upd H2 t (.tup [.ref pa,.ref pb]) = H3 at T3 e3 ⊢
   have S3:=S2.trans T3
   have pa3:=S3.tup ha
   have pb3:=S3.tup hb
   have ka:k < as.length:=(List.getElem?_eq_some_iff.mp ea).1
   have kb:k < bs.length:=(List.getElem?_eq_some_iff.mp eb).1
   obtain ⟨z1,z2⟩:=prF_zb (as:=as.take k) (bs:=bs.take k) (fun f h=>sa f (List.mem_of_mem_take h)) (fun f h=>sb f (List.mem_of_mem_take h)) (by rw [List.length_take]; omega)
   have en:prF (as.take (k + 1)) (bs.take (k + 1)) (0,1) = ((prF (as.take k) (bs.take k) (0,1)).1 * a.2 * b.2 + a.1 * b.1 * (prF (as.take k) (bs.take k) (0,1)).2,(prF (as.take k) (bs.take k) (0,1)).2 * a.2 * b.2):=by
    rw [take_next ea,take_next eb]
    exact prF_snoc (by rw [List.length_take,List.length_take]; omega)
   obtain ⟨_,a1,a2⟩:=sa a (List.mem_of_getElem? ea)
   obtain ⟨_,b1,b2⟩:=sb b (List.mem_of_getElem? eb)
   generalize prF (as.take k) (bs.take k) (0,1) = z at *
   have m1:Bm (z.1 * a.2):=bmZ (Nat.le_trans (mul_le z1 a2) zb4)
   have m2:Bm (z.2 * a.2):=bmZ (Nat.le_trans (mul_le z2 a2) zb4)
   have m3:Bm (a.1 * b.1):=bmZ (Nat.le_trans (mul_le a1 b1) zb2)
   have n:∀ {i:Int},i.natAbs ≤ NN→Bm i:=fun h=>bmZ (Nat.le_trans h zb3)
   have nz:∀ {i:Int},i.natAbs ≤ ZB→Bm i:=fun h=>bmZ (Nat.le_trans h zb1)
   refine ⟨t,_,rfl,e3,rfl,_,_,rfl,_,_,rfl,rfl,_,rfl,_,rfl,pa,_,1,_,rfl,rfl,pa3,atI_1,_,_,rfl,rfl,⟨nz z1,n a2⟩,_,rfl,pb,_,1,_,rfl,rfl,pb3,atI_1,_,_,rfl,rfl,⟨m1,n b2⟩,_,rfl,pa,_,0,_,rfl,rfl,pa3,atI_0,_,rfl,pb,_,0,_,rfl,rfl,pb3,atI_0,_,_,rfl,rfl,⟨n a1,n b1⟩,_,rfl,_,_,rfl,rfl,⟨m3,nz z2⟩,_,_,rfl,rfl,?_⟩
   refine ⟨_,rfl,_,rfl,pa,_,1,_,rfl,rfl,pa3,atI_1,_,_,rfl,rfl,⟨nz z2,n a2⟩,_,rfl,pb,_,1,_,rfl,rfl,pb3,atI_1,_,_,rfl,rfl,⟨m2,n b2⟩,T3 _ _ c1,T3 _ _ c2,some (.ref pa),some (.ref pb),?_,S3⟩
   rw [en]; rfl
  ·rintro σ' H2 ⟨u,v,rfl,S2⟩ _ _
   rw [x1,List.take_length,hlen,List.take_length]
   exact ⟨_,rfl,_,rfl,line2,fun p hp=>q p _ (S2.trans (Same.upd hp)) (S2.free hp) upd_same⟩
def sp_comes (K:PySem.W.Frag):Sp:=fun vs H Q _=>∃ (l1 l2 d:Addr) (xs ys:List V) (as bs:List (Int × Int)) (df:Int × Int),vs = [.ref l1,.ref l2,.ref d]∧H l1 = some (.lst xs)∧FLK K H xs as∧H l2 = some (.lst ys)∧FLK K H ys bs∧as.length = bs.length∧as.length ≤ 8∧Sz as∧Sz bs∧H d = some (.tup [.int df.1,.int df.2])∧df.1.natAbs ≤ NN∧df.2.natAbs ≤ NN ∧
 ∀ H',Same H H'→Q (.bl (decide ((prF as bs (0,1)).1 * df.2 = df.1 * (prF as bs (0,1)).2))) H'
theorem ok_comes {f:Addr} {fd:FuncData} (F:Fun K nm_comes nm_comes s_comes f fd) (T:Txt K mg D) (G_products:OkF P w K mg base 1 nm_products ps_products (sp_products K)):FnOk P w K mg base CX0 2 f fd ps_comes (sp_comes K):=by
 refine F.ok sc_comes (fun vs H Q E h=>?_) (fun cdv A outer s H vs Q E hr h=>?_)
 ·obtain ⟨l1,l2,d,xs,ys,as,bs,df,rfl,_⟩:=h
  rfl
 ·obtain ⟨l1,l2,d,xs,ys,as,bs,df,rfl,h1,f1,h2,f2,hlen,h8,sa,sb,hd,d1,d2,q⟩:=h
  refine ⟨_,(pss_cons (ps_asg (pe_callF G_products (hr.mono (by decide)) (by rfl) (pa_cons (pv 0) (pa_cons (pv 1) pa_nil))) (pg_tupH (n:=2) rfl (pgs_cons (pg_name (i:=3) sc_comes.nd rfl (Or.inl rfl)) (pgs_cons (pg_name (i:=4) sc_comes.nd rfl (Or.inl rfl)) pgs_nil))))
   (pss_one (ps_ret (pe_cmpR op_eq (pe_op op_mulM (pv 3) (pe_ix ix_tupH (pv 2) pe_int (fun _ _=>rfl))) (pe_op op_mulM (pe_ix ix_tupH (pv 2) pe_int (fun _ _=>rfl)) (pv 4)) (nomark _))))),?_⟩
  obtain ⟨z1,z2⟩:=prF_zb sa sb h8
  have n:∀ {i:Int},i.natAbs ≤ NN→Bm i:=fun h=>bmZ (Nat.le_trans h zb3)
  have nz:∀ {i:Int},i.natAbs ≤ ZB→Bm i:=fun h=>bmZ (Nat.le_trans h zb1)
  refine ⟨_,rfl,_,rfl,l1,l2,xs,ys,as,bs,rfl,h1,f1,h2,f2,hlen,h8,sa,sb,fun p H1 S1 hp c1=>⟨p,_,rfl,c1,rfl,_,_,rfl,_,_,rfl,rfl,_,rfl,_,rfl,d,_,1,_,rfl,rfl,S1 _ _ hd,atI_1,_,_,rfl,rfl,⟨nz z1,n d2⟩,_,rfl,d,_,0,_,rfl,rfl,S1 _ _ hd,atI_0,_,rfl,_,_,rfl,rfl,⟨n d1,nz z2⟩,rfl,?_⟩⟩
  have:=q H1 S1
  have e:decide (V.int ((prF as bs (0,1)).1 * df.2) = V.int (df.1 * (prF as bs (0,1)).2)) = decide ((prF as bs (0,1)).1 * df.2 = df.1 * (prF as bs (0,1)).2):=by
   by_cases z:(prF as bs (0,1)).1 * df.2 = df.1 * (prF as bs (0,1)).2
   ·rw [z,decide_eq_true rfl,decide_eq_true rfl]
   ·rw [decide_eq_false z,decide_eq_false fun y=>z (V.int.inj y)]
  rw [← e] at this
  exact this
structure FRsK (K:PySem.W.Frag) (H:Hp) (xs:List V) (fss:List (List (Int × Int))):Prop where
 len:xs.length = fss.length
 at_:∀ (k:Nat) (v:V),xs[k]? = some v→∃ l ys,v = .ref l∧H l = some (.lst ys)∧FLK K H ys (fss.getD k [])
theorem FRsK.same {H H':Hp} {xs:List V} {fss:List (List (Int × Int))} (h:FRsK K H xs fss) (S:Same H H'):FRsK K H' xs fss:=⟨h.len,fun k v e=>let ⟨l,ys,a,b,c⟩:=h.at_ k v e; ⟨l,ys,a,S _ _ b,c.same S⟩⟩
theorem frk_of {H:Hp} {xs:List V} {fss:List (List (Int × Int))} (h:FRs H xs fss):FRsK K H xs fss:=⟨h.len,fun k v e=>let ⟨l,ys,a,b,c⟩:=h.at_ k v e; ⟨l,ys,a,b,flk_of c⟩⟩
theorem FRsK.snoc {H:Hp} {xs:List V} {fss:List (List (Int × Int))} (h:FRsK K H xs fss) {l:Addr} {ys:List V} {fs:List (Int × Int)} (hl:H l = some (.lst ys)) (hf:FLK K H ys fs):FRsK K H (xs ++ [.ref l]) (fss ++ [fs]):=by
 refine ⟨by rw [List.length_append,List.length_append,h.len]; rfl,fun k v e=>?_⟩
 by_cases hk:k < xs.length
 ·rw [List.getElem?_append_left hk] at e
  rw [List.getD_eq_getElem?_getD,List.getElem?_append_left (by rw [← h.len]; exact hk),← List.getD_eq_getElem?_getD]
  exact h.at_ k v e
 ·rw [List.getElem?_append_right (by omega)] at e
  have e0:k - xs.length = 0:=by
   cases z:k - xs.length with
   | zero=>rfl
   | succ m=>rw [z] at e; simp at e
  rw [e0,List.getElem?_cons_zero] at e
  cases e
  rw [List.getD_eq_getElem?_getD,List.getElem?_append_right (by rw [← h.len]; omega),← h.len,e0]
  exact ⟨l,ys,rfl,hl,hf⟩
theorem FRsK.updL {H:Hp} {D1:Addr} {zs zs':List V} (hD:H D1 = some (.lst zs)) {xs:List V} {fss:List (List (Int × Int))} (h:FRsK K H xs fss) (ne:∀ (k:Nat) (l:Addr),xs[k]? = some (V.ref l)→l ≠ D1):FRsK K (upd H D1 (.lst zs')) xs fss:=by
 refine ⟨h.len,fun k v e=>?_⟩
 obtain ⟨l,ys,rfl,b,c⟩:=h.at_ k v e
 exact ⟨l,ys,rfl,(upd_ne (ne k l e)).trans b,c.updL hD⟩
open Rw
def sp_walked16 (K:PySem.W.Frag):Sp:=fun vs H Q _=>∃ (l ls:Addr) (xs ys:List V) (fss:List (List (Int × Int))) (ss:List Stp) (wd:Nat),vs = [.ref l,.ref ls]∧H l = some (.lst xs)∧FRsK K H xs fss∧H ls = some (.lst ys)∧Sts H ys ss∧(∀ s ∈ ss,StpN fss.length s) ∧
 (∀ fs ∈ fss,fs.length = wd∧∀ f ∈ fs,Fq f)∧AllB NN wd (fss.map lvR) ss∧wd ≤ 41∧fss.length ≤ 20∧ss.length ≤ 2000 ∧
 ∀ p zs H',Same H H'→H p = none→H' p = some (.lst zs)→FRs H' zs ((runR (fss.map lvR) ss).map rep)→(∀ (k:Nat) (a:Addr),zs[k]? = some (V.ref a)→H a = none∧a ≠ p)→Q (.ref p) H'
def jV16 (l ls D1:Addr) (fss:List (List (Int × Int))) (ss:List Stp) (H:Hp) (k:Nat) (σ:L2.St) (H':Hp):Prop:=∃ u xs',σ = [some (.ref l),some (.ref ls),some (.ref D1),u]∧Same H H'∧H' D1 = some (.lst xs')∧LR H' xs' (runR (fss.map lvR) (ss.take k))
theorem run_len:∀ {ss:List Stp} {rs:List Row},(runR rs ss).length = rs.length
 | [],_=>rfl
 | s :: ss,rs=>by
  show (runR (stepR rs s) ss).length = _
  rw [run_len,stepR_length]
theorem ok_walked16 {f:Addr} {fd:FuncData} (F:Fun K nm_walked nm_walked s_walked f fd) (T:Txt K mg D) (G_level:OkF P w K mg base 2 nm_level ps_level (sp_levelK K)) (G_take_step:OkF P w K mg base 4 nm_take_step ps_take_step sp_take_step15) (G_fractions_of:OkF P w K mg base 3 nm_fractions_of ps_fractions_of sp_fractions_of):FnOk P w K mg base CX0 5 f fd ps_walked (sp_walked16 K):=by
 refine F.ok sc_walked (fun vs H Q E h=>?_) (fun cdv A outer s H vs Q E hr h=>?_)
 ·obtain ⟨l,ls,xs,ys,fss,ss,wd,rfl,_⟩:=h
  rfl
 ·obtain ⟨l,ls,xs,ys,fss,ss,wd,rfl,hl,fr,hls,st,hok,hf,hall,hwd,hn,hs,q⟩:=h
  refine ⟨_,(pss_cons (ps_compGF (defScope s_walked) ["rows", "steps", "leveled", "step"] ["rows", "steps", "leveled", "step"] ["row"] rfl rfl rfl (by decide +kernel) (by decide +kernel) rfl (by decide +kernel) (by decide +kernel) (by decide +kernel) (by decide +kernel) (by decide +kernel) (pi_list ((pv 0)).mono) (fun _ _ _ _ _=>(pg_name (i:=0) (show List.Nodup (["row", "rows", "steps", "leveled", "step"] : List Str) from by decide +kernel) rfl (Or.inl rfl) (Or.inr rfl))) (fun _ _ _ _ _=>pts_nil) (fun _ _ _ _ _=>(pe_callF G_level (hr.mono (by decide)) (by rfl) (pa_cons (pv 0) pa_nil))) (pg_name (i:=2) sc_walked.nd rfl (Or.inl rfl)))
   (pss_cons (ps_for PassesOwn.never rfl (pi_list ((pv 1)).mono) (pg_name (i:=3) sc_walked.nd rfl (Or.inl rfl))
    (pss_one (ps_expr (pe_callF G_take_step (hr.mono (by decide)) (by rfl) (pa_cons (pv 2) (pa_cons (pv 3) pa_nil))))))
   (pss_one (ps_ret (pe_callF G_fractions_of (hr.mono (by decide)) (by rfl) (pa_cons (pv 2) pa_nil)))))),?_⟩
  have hq:∀ fs ∈ fss,∀ f ∈ fs,Fq f:=fun fs h=>(hf fs h).2
  refine seq_asg (tCompG1_list ?_)
  refine ⟨_,rfl,l,xs,rfl,hl,by rw [fr.len]; exact Nat.le_trans hn (by decide),fun D1 hD=>⟨jW D1 fss H,⟨Same.upd hD,upd_same,rfl,fun k v e=>by simp at e⟩,?_,?_⟩⟩
  ·rintro k v zs Hc hk ⟨S1,hD1,ln,lrn⟩ hzl hlc
   have hkf:k < fss.length:=by rw [← fr.len]; exact (List.getElem?_eq_some_iff.mp hk).1
   have ef:fss[k]? = some fss[k]:=List.getElem?_eq_getElem hkf
   obtain ⟨l1,vs,rfl,h1',fl⟩:=fr.at_ k v hk
   rw [List.getD_eq_getElem?_getD,ef] at fl
   have fl:FLK K H vs fss[k]:=fl
   have hm:=List.getElem_mem hkf
   have w1:=(hf _ hm).1
   have q1:=hq _ hm
   generalize fss[k] = fs at *
   refine ⟨_,rfl,l1,vs,fs,rfl,S1 _ _ h1',fl.same S1,q1,by omega,fun D2 p hD2 hp=>?_⟩
   have T1:Same Hc (upd Hc D2 (.lst ((lvT fs).map V.int))):=Same.upd hD2
   have T2:Same (upd Hc D2 (.lst ((lvT fs).map V.int))) (upd (upd Hc D2 (.lst ((lvT fs).map V.int))) p (.tup [.ref D2,.int (lvB fs:Nat)])):=Same.upd hp
   have e1:=T2 D2 _ upd_same
   have e2:upd (upd Hc D2 (.lst ((lvT fs).map V.int))) p (.tup [.ref D2,.int (lvB fs:Nat)]) p = some (.tup [.ref D2,.int (lvB fs:Nat)]):=upd_same
   have nD:D2 ≠ D1:=(ne_of_none hD1 hD2).symm
   generalize upd (upd Hc D2 (.lst ((lvT fs).map V.int))) p (.tup [.ref D2,.int (lvB fs:Nat)]) = Hn at T2 e1 e2 ⊢
   have T3:=T1.trans T2
   have hDn:=T3 _ _ hD1
   refine ⟨hDn,T3 _ _ hlc,?_,upd_same,?_,?_⟩
   ·intro b' o' e'
    rw [upd_ne (ne_of_none e' hD)]
    exact T3 _ _ (S1 _ _ e')
   ·rw [List.length_append,ln,take_next ef,List.map_append,List.length_append]; rfl
   ·intro j u e
    rw [take_next ef,List.map_append,show List.map lvR [fs] = [lvR fs] from rfl]
    by_cases hj:j < zs.length
    ·rw [List.getElem?_append_left hj] at e
     obtain ⟨t,lr,a1,a2,a3,a4⟩:=lrn j u e
     rw [rowAt_left (by rw [← ln]; exact hj)]
     exact ⟨t,lr,a1,(upd_ne (ne_of (T3 _ _ a2) hDn (by intro z; cases z))).trans (T3 _ _ a2),(upd_ne a4).trans (T3 _ _ a3),a4⟩
    ·rw [List.getElem?_append_right (by omega)] at e
     have e0:j - zs.length = 0:=by
      cases e3:j - zs.length with
      | zero=>rfl
      | succ m=>rw [e3] at e; simp at e
     rw [e0,List.getElem?_cons_zero] at e
     cases e
     have ej:j = ((fss.take k).map lvR).length:=by rw [← ln]; omega
     rw [ej,rowAt_last]
     exact ⟨p,D2,rfl,(upd_ne (ne_of e2 hDn (by intro z; cases z))).trans e2,(upd_ne nD).trans e1,nD⟩
  ·rintro zs Hc ⟨S1,hD1,ln,lrn⟩ hzl
   rw [fr.len,List.take_length] at ln lrn
   have lr0:LR Hc zs (fss.map lvR):=⟨ln,fun k v e=>let ⟨t,lr,a1,a2,a3,_⟩:=lrn k v e; ⟨t,lr,a1,a2,a3⟩⟩
   refine seq_of (tFor_listM ?_)
   refine ⟨_,rfl,ls,ys,rfl,S1 _ _ hls,jV16 l ls D1 fss ss H,⟨none,zs,rfl,S1,hD1,lr0⟩,?_,?_⟩
   ·rintro k x σ' H' hk ⟨u,xs',rfl,S2,hD2,lr⟩ hls'
    have hks:k < ss.length:=by rw [← st.len]; exact (List.getElem?_eq_some_iff.mp hk).1
    have es:ss[k]? = some ss[k]:=List.getElem?_eq_getElem hks
    obtain ⟨v,ev,sa⟩:=st.at_ k _ es
    rw [hk] at ev
    cases ev
    have oks:=hok _ (List.getElem_mem hks)
    generalize ss[k] = sx at *
    refine ⟨_,rfl,_,rfl,D1,_,xs',_,sx,wd,rfl,hD2,lr,sa.imp fun t us e=>S2 _ _ e,by rw [run_len,List.length_map]; exact oks,hall k,by omega,fun H2 xs2 kp h2 lr2=>⟨kp _ _ (ne_of_none hls hD) hls',_,xs2,rfl,?_,h2,?_⟩⟩
    ·intro b' o' e'
     exact kp _ _ (ne_of_none e' hD) (S2 _ _ e')
    ·rw [take_next es,runR_snoc]
     exact lr2
   ·rintro σ' H' ⟨u,xs',rfl,S2,hD2,lr⟩ hls'
    rw [st.len,List.take_length] at lr
    have ha:=hall ss.length
    rw [List.take_length] at ha
    refine ⟨_,rfl,D1,xs',_,wd,rfl,hD2,lr,ha,by omega,by rw [run_len,List.length_map]; omega,fun p zs2 H3 S3 hp hz frz nw=>?_⟩
    exact q p zs2 H3 (S2.trans S3) (S2.free hp) hz frz fun k a e=>⟨S2.free (nw k a e).1,(nw k a e).2⟩
open Rw
def oneF (i j:Nat):Int × Int:=if j = i then (1,1) else (0,1)
def unitF (n:Nat):List (List (Int × Int)):=(List.range n).map fun i=>(List.range n).map fun j=>oneF i j
def sp_single (K:PySem.W.Frag):Sp:=fun vs H Q _=>∃ n:Nat,vs = [.int n]∧n ≤ 20∧∀ p zs H',Same H H'→H p = none→H' p = some (.lst zs)→FRsK K H' zs (unitF n)→Q (.ref p) H'
theorem ok_single {f:Addr} {fd:FuncData} (F:Fun K nm_single_rows nm_single_rows s_single_rows f fd) (T:Txt K mg D):FnOk P w K mg base CX0 1 f fd ps_single_rows (sp_single K):=by
 refine F.ok sc_single_rows (fun vs H Q E h=>?_) (fun cdv A outer s H vs Q E hr h=>?_)
 ·obtain ⟨n,rfl,_⟩:=h
  rfl
 ·obtain ⟨n,rfl,hn,q⟩:=h
  refine ⟨_,(pss_one (ps_ret (pe_compGCF (defScope s_single_rows) ["many"] ["many"] "row" rfl rfl rfl (by decide +kernel) (by decide +kernel) rfl (fun _ _=>rfl) (fun _=>rfl) (by decide +kernel) (by decide +kernel) (by decide +kernel) (by decide +kernel) (by decide +kernel) (pi_range1 (by rfl) T.b_range (pa_cons (pv 0) pa_nil).mono) (fun _ _ _ _ _=>(pg_name (i:=0) (show List.Nodup (["row", "many"] : List Str) from by decide +kernel) rfl (Or.inr rfl) (Or.inl (beq_self_eq_true _)))) (fun _ _ _ _ _=>pts_nil) (fun _ _ _ _ _=>(pe_compGF2C (defScope s_single_rows) ["row", "many"] ["row", "many"] ["column"] rfl rfl rfl (by decide +kernel) (by decide +kernel) rfl (by decide +kernel) (by decide +kernel) (by decide +kernel) (by decide +kernel) (by decide +kernel) (pi_range1 (by rfl) T.b_range (pa_cons (pv 1) pa_nil).mono) (fun _ _ _ _ _=>(pg_name (i:=0) (show List.Nodup (["column", "row", "many"] : List Str) from by decide +kernel) rfl (Or.inl rfl) (Or.inr rfl))) (fun _ _ _ _ _=>pts_nil) (fun _ _ _ _ _=>(pe_ifExp (pt_cmpR op_eq (pv 0) (pv 1) (nomark _)) (pe_globT (by rfl) T.c_ONE) (pe_globT (by rfl) T.c_NOUGHT)))))))),?_⟩
  refine ret_of (tCompG1_rng ?_)
  refine ⟨_,rfl,n,rfl,by omega,fun D1 hD=>⟨fun k zs Hc=>Same H Hc∧Hc D1 = some (.lst zs)∧FRsK K Hc zs ((unitF n).take k)∧∀ (j:Nat) (a:Addr),zs[j]? = some (V.ref a)→a ≠ D1,⟨Same.upd hD,upd_same,⟨rfl,fun k v e=>by simp at e⟩,by simp⟩,?_,?_⟩⟩
  ·rintro k zs Hc hk ⟨S1,c1,fz,nz⟩ hzl
   refine tCompG1_rng ?_
   refine ⟨_,rfl,n,rfl,by omega,fun D2 hD2=>⟨fun j ys H2=>Same Hc H2∧H2 D2 = some (.lst ys)∧FLK K H2 ys (((List.range n).map fun j=>oneF k j).take j),⟨Same.upd hD2,upd_same,.nil⟩,?_,?_⟩⟩
   ·rintro j ys H2 hj ⟨S2,c2,fl⟩ hyl
    have en:((List.range n).map fun j=>oneF k j)[j]? = some (oneF k j):=by rw [List.getElem?_map,List.getElem?_range hj]; rfl
    refine ⟨_,rfl,_,rfl,rfl,_,rfl,ite2 (fun h=>⟨c2,same_upd hD2 S2,upd_same,?_⟩) fun h=>⟨c2,same_upd hD2 S2,upd_same,?_⟩⟩
    ·have e:j = k:=by have:=V.int.inj (of_decide_eq_true h); omega
     rw [take_next en]
     refine (fl.updL c2).append (.cons (f:=oneF k j) ?_ .nil)
     unfold oneF
     rw [if_pos e]
     exact T.kt_ONE _
    ·have e:¬ j = k:=fun z=>h (decide_eq_true (by rw [z]))
     rw [take_next en]
     refine (fl.updL c2).append (.cons (f:=oneF k j) ?_ .nil)
     unfold oneF
     rw [if_neg e]
     exact T.kt_NOUGHT _
   ·rintro ys H2 ⟨S2,c2,fl⟩ hyl
    rw [List.take_of_length_le (by rw [List.length_map,List.length_range]; exact Nat.le_refl _)] at fl
    have eu:(unitF n)[k]? = some ((List.range n).map fun j=>oneF k j):=by unfold unitF; rw [List.getElem?_map,List.getElem?_range hk]; rfl
    have nD:D1 ≠ D2:=ne_of_none c1 hD2
    have d1:=S2 _ _ c1
    refine ⟨d1,same_upd hD (S1.trans S2),upd_same,?_,fun j a e=>?_⟩
    ·rw [take_next eu]
     exact FRsK.snoc (FRsK.updL d1 (fz.same S2) nz) ((upd_ne nD.symm).trans c2) (fl.updL d1)
    ·by_cases hj:j < zs.length
     ·rw [List.getElem?_append_left hj] at e
      exact nz j a e
     ·rw [List.getElem?_append_right (by omega)] at e
      have e0:j - zs.length = 0:=by
       cases z:j - zs.length with
       | zero=>rfl
       | succ m=>rw [z] at e; simp at e
      rw [e0,List.getElem?_cons_zero] at e
      cases e
      exact nD.symm
  ·rintro zs Hc ⟨S1,c1,fz,nz⟩ hzl
   rw [List.take_of_length_le (by unfold unitF; rw [List.length_map,List.length_range]; exact Nat.le_refl _)] at fz
   exact q D1 zs Hc S1 hD c1 fz
open Rw
def putF (fs:List (Int × Int)) (piv:Nat→Nat) (val:Nat→Int × Int):Nat→List (Int × Int)
 | 0=>fs
 | k + 1=>(putF fs piv val k).set (piv k) (val k)
theorem putF_len {fs:List (Int × Int)} {piv:Nat→Nat} {val:Nat→Int × Int} : ∀ k,(putF fs piv val k).length = fs.length
 | 0=>rfl
 | k + 1=>by show ((putF fs piv val k).set (piv k) (val k)).length = _; rw [List.length_set,putF_len k]
theorem putF_else {fs:List (Int × Int)} {piv:Nat→Nat} {val:Nat→Int × Int} {j:Nat} : ∀ {k:Nat},(∀ i,i < k→piv i ≠ j)→(putF fs piv val k)[j]? = fs[j]?
 | 0,_=>rfl
 | k + 1,h=>by
  show ((putF fs piv val k).set (piv k) (val k))[j]? = _
  rw [List.getElem?_set_ne (h k (by omega)),putF_else fun i hi=>h i (by omega)]
theorem putF_at {fs:List (Int × Int)} {piv:Nat→Nat} {val:Nat→Int × Int} {i:Nat} : ∀ {k:Nat},i < k→(∀ a b,a < b→b < k→piv a < piv b)→piv i < fs.length→(putF fs piv val k)[piv i]? = some (val i)
 | 0,h,_,_=>absurd h (by omega)
 | k + 1,h,o,hl=>by
  show ((putF fs piv val k).set (piv k) (val k))[piv i]? = _
  by_cases e:i = k
  ·rw [e,List.getElem?_set_self (by rw [putF_len,← e]; exact hl)]
  ·have:=o i k (by omega) (by omega)
   rw [List.getElem?_set_ne (by omega),putF_at (by omega) (fun a b x y=>o a b x (by omega)) hl]
theorem flk_rep {H:Hp} {p:Addr} {f:Int × Int} (h:SqT K H p [.int f.1,.int f.2]):∀ n:Nat,FLK K H (List.replicate n [V.ref p]).flatten (List.replicate n f)
 | 0=>.nil
 | n + 1=>.cons h (flk_rep h n)
def numF (rs:List Row) (j i:Nat):Int × Int:=Ac.lw ((rowAt rs i).1.getD j 0) (rowAt rs i).2
theorem num_at {rs:List Row} {i j wd:Nat} {H:Hp} {xs:List V} (fr:FRs H xs (rs.map rep)) (hi:i < rs.length) (hb:∀ r ∈ rs,0 < r.2∧r.1.length = wd) (hj:j < wd):∃ la ya pg,xs[i]? = some (V.ref la)∧H la = some (.lst ya)∧ya[j]? = some (V.ref pg)∧H pg = some (.tup [.int (numF rs j i).1,.int (numF rs j i).2]):=by
 obtain ⟨la,ya,ea,hla,fa,_⟩:=fr.get (i:=i) (by rw [List.length_map]; exact hi)
 rw [fAt_map hi] at fa
 have br:=hb _ (rowAt_in hi)
 obtain ⟨vn,hv⟩ : ∃ v,ya[j]? = some v:=⟨_,List.getElem?_eq_getElem (by rw [fa.length]; unfold rep; rw [List.length_map,br.2]; omega)⟩
 obtain ⟨pg,g,rfl,hg,hpg⟩:=fa.get hv
 have et:(rowAt rs i).1[j]? = some ((rowAt rs i).1.getD j 0):=by rw [List.getD_eq_getElem?_getD,List.getElem?_eq_getElem (by rw [br.2]; omega)]; rfl
 have eg:(rep (rowAt rs i))[j]? = some (numF rs j i):=by
  unfold rep numF
  rw [List.getElem?_map,et]; rfl
 rw [eg] at hg
 cases hg
 exact ⟨la,ya,pg,ea,hla,hv,hpg⟩
theorem piv_at {p k:Nat} {piv:Nat→Nat} {x:V} (hk:((List.range p).map fun i=>V.int (piv i))[k]? = some x):k < p∧x = .int (piv k):=by
 have kn:k < p:=by
  have:=(List.getElem?_eq_some_iff.mp hk).1
  rwa [List.length_map,List.length_range] at this
 rw [List.getElem?_map,List.getElem?_range kn] at hk
 exact ⟨kn,(Option.some.inj hk).symm⟩
theorem ixN_nat {n k:Nat} (h:k < n):ixN n (k:Int) = some k:=by
 unfold ixN
 rw [if_pos (by omega),if_pos (by omega),Int.toNat_natCast]
def sp_answer16 (K:PySem.W.Frag):Sp:=fun vs H Q _=>∃ (l b:Addr) (xs:List V) (rs:List Row) (n p:Nat) (piv:Nat→Nat),vs = [.ref l,.ref b,.int n]∧H l = some (.lst xs)∧FRs H xs (rs.map rep)∧(∀ r ∈ rs,0 < r.2∧r.1.length = n + 1)∧rs.length ≤ 20∧p ≤ rs.length∧(∀ i,i < p→piv i < n)∧n ≤ 20∧H b = some (.lst ((List.range p).map fun i=>V.int (piv i))) ∧
 ∀ a zs H',Same H H'→H a = none→H' a = some (.lst zs)→FLK K H' zs (putF (List.replicate n (0,1)) piv (numF rs n) p)→Q (.ref a) H'
theorem ok_answer16 {f:Addr} {fd:FuncData} (F:Fun K nm_answer_of nm_answer_of s_answer_of f fd) (T:Txt K mg D):FnOk P w K mg base CX0 1 f fd ps_answer_of (sp_answer16 K):=by
 refine F.ok sc_answer_of (fun vs H Q E h=>?_) (fun cdv A outer s H vs Q E hr h=>?_)
 ·obtain ⟨l,b,xs,rs,n,p,piv,rfl,_⟩:=h
  rfl
 ·obtain ⟨l,b,xs,rs,n,p,piv,rfl,hl,fr,hb,hn,hp,hpv,h20,hbl,q⟩:=h
  refine ⟨_,(pss_cons (ps_set (i:=3) sc_answer_of.nd rfl (Or.inl rfl) (pe_op op_rep (pe_lst (pa_cons (pe_globT (by rfl) T.c_NOUGHT) pa_nil)) (pv 2)))
   (pss_cons (ps_for PassesOwn.never rfl (pi_enum (by rfl) T.b_enumerate (pa_cons (pv 1) pa_nil).mono) (pg_tupH (n:=2) rfl (pgs_cons (pg_name (i:=4) sc_answer_of.nd rfl (Or.inl rfl)) (pgs_cons (pg_name (i:=5) sc_answer_of.nd rfl (Or.inl rfl)) pgs_nil)))
    (pss_one (ps_asg (pe_ix ix_listH (pe_ix ix_listH (pv 0) (pv 4) (fun _ _=>rfl)) (pv 2) (fun _ _=>rfl)) (pg_sub (pv 3) (pv 5) set_list))))
   (pss_one (ps_ret (pv 3))))),?_⟩
  refine ⟨line1,fun p1 hp1=>⟨_,rfl,p1,n,_,rfl,rfl,upd_same,by omega,by omega,?_,fun a ha=>seq_of (tFor_enumM ?_)⟩⟩
  ·rw [Int.toNat_natCast]
   exact Nat.le_trans (show 1 * n ≤ 64 by omega) (by decide)
  have S0:Same H (upd H p1 (.lst [.ref D.NOUGHT])):=Same.upd hp1
  have haH:H a = none:=S0.free ha
  rw [Int.toNat_natCast]
  have S1:=S0.trans (Same.upd (o:=.lst (List.replicate n [V.ref D.NOUGHT]).flatten) ha)
  have c1:upd (upd H p1 (.lst [.ref D.NOUGHT])) a (.lst (List.replicate n [V.ref D.NOUGHT]).flatten) a = some (.lst (List.replicate n [V.ref D.NOUGHT]).flatten):=upd_same
  generalize upd (upd H p1 (.lst [.ref D.NOUGHT])) a (.lst (List.replicate n [V.ref D.NOUGHT]).flatten) = H1 at S1 c1 ⊢
  refine ⟨_,rfl,b,_,rfl,S1 _ _ hbl,fun k σ H'=>∃ zs u v,σ = [some (.ref l),some (.ref b),some (.int n),some (.ref a),u,v]∧Same H H'∧H' a = some (.lst zs)∧FLK K H' zs (putF (List.replicate n (0,1)) piv (numF rs n) k),⟨_,none,none,rfl,S1,c1,flk_rep (f:=(0,1)) (T.kt_NOUGHT _) n⟩,?_,?_⟩
  ·rintro k x σ' H2 t hk ⟨zs,u,v,rfl,S2,c2,fl⟩ hb2 ht
   obtain ⟨kp,rfl⟩:=piv_at hk
   have T3:Same H2 (upd H2 t (.tup [.int k,.int (piv k)])):=Same.upd ht
   have e3:upd H2 t (.tup [.int k,.int (piv k)]) t = some (.tup [.int k,.int (piv k)]):=upd_same
   generalize upd H2 t (.tup [.int k,.int (piv k)]) = H3 at T3 e3 ⊢
   have S3:=S2.trans T3
   obtain ⟨la,ya,pg,ea,hla,hv,hpg⟩:=num_at (j:=n) fr (show k < rs.length by omega) hb (by omega)
   have c3:=T3 _ _ c2
   have na:∀ c o,H c = some o→c ≠ a:=fun c o e=>ne_of_none e haH
   have zl:zs.length = n:=by rw [fl.length,putF_len,List.length_replicate]
   refine ⟨t,_,rfl,e3,rfl,_,_,rfl,_,_,rfl,rfl,_,rfl,_,rfl,l,xs,k,_,rfl,rfl,S3 _ _ hl,atI_nat ea,_,rfl,la,ya,n,_,rfl,rfl,S3 _ _ hla,atI_nat hv,_,rfl,_,rfl,a,zs,piv k,piv k,rfl,rfl,c3,ixN_nat (by rw [zl]; exact hpv k kp),(upd_ne (na _ _ hbl)).trans (T3 _ _ hb2),_,_,_,rfl,same_upd haH S3,upd_same,?_⟩
   exact FLK.set (.inl (.of ((upd_ne (na _ _ hpg)).trans (S3 _ _ hpg)))) (piv k) ((fl.same T3).updL c3)
  ·rintro σ' H2 ⟨zs,u,v,rfl,S2,c2,fl⟩ _
   rw [List.length_map,List.length_range] at fl
   exact ⟨_,rfl,q a zs H2 S2 haH c2 fl⟩
open Rw
def negF (rs:List Row) (j i:Nat):Int × Int:=Ac.lw (-(rowAt rs i).1.getD j 0) (rowAt rs i).2
theorem op_of16 {r:R2} {ta tb:TE} {σ:L2.St} {H:Hp} {Q:VK} (h:ta σ H fun x H1=>tb σ H1 fun y H2=>r x y H2 Q):tOp r ta tb σ H Q:=h
theorem neg_lw {t b z o:Int} (hb:0 < b) (ho:0 < o) (g:Int.gcd z o = 1) (e:z * (1 * (Ac.lw t b).2) = (0 * (Ac.lw t b).2 - (Ac.lw t b).1 * 1) * o):z = (Ac.lw (-t) b).1∧o = (Ac.lw (-t) b).2:=by
  have lp:=Ac.lw_pos (t:=t) hb
  have le:=Ac.lw_eq (t:=t) hb
  generalize Ac.lw t b = x at *
  rw [Int.one_mul,Int.zero_mul,Int.mul_one,Int.zero_sub] at e
  refine Ac.is_lw hb ho g (Int.eq_of_mul_eq_mul_right (Int.ne_of_gt lp) ?_)
  calc z * b * x.2 = (z * x.2) * b:=by ac_rfl
    _ = -x.1 * o * b:=by rw [e]
    _ = -(x.1 * b) * o:=by rw [Int.neg_mul,Int.neg_mul,Int.neg_mul]; congr 1; ac_rfl
    _ = -(t * x.2) * o:=by rw [le]
    _ = -t * o * x.2:=by rw [Int.neg_mul,Int.neg_mul,Int.neg_mul]; congr 1; ac_rfl
theorem inV_piv {p c:Nat} {piv:Nat→Nat} : inV (.int c) ((List.range p).map fun i=>V.int (piv i)) = true ↔ ∃ i,i < p∧piv i = c:=by
 unfold inV
 rw [List.any_map,List.any_eq_true]
 constructor
 ·rintro ⟨i,hi,e⟩
  have e:((piv i:Int) == (c:Int)) = true:=e
  exact ⟨i,List.mem_range.mp hi,by have:=beq_iff_eq.mp e; omega⟩
 ·rintro ⟨i,hi,e⟩
  refine ⟨i,List.mem_range.mpr hi,?_⟩
  show ((piv i:Int) == (c:Int)) = true
  rw [e]; exact beq_self_eq_true _
def sp_blank (K:PySem.W.Frag):Sp:=fun vs H Q _=>∃ (l b:Addr) (xs:List V) (rs:List Row) (n p:Nat) (piv:Nat→Nat),vs = [.ref l,.ref b,.int n]∧H l = some (.lst xs)∧FRs H xs (rs.map rep)∧(∀ r ∈ rs,Big NN r∧r.1.length = n + 1)∧rs.length ≤ 20∧p ≤ rs.length∧p < n∧(∀ i,i < p→piv i < n)∧(∀ i j,i < j→j < p→piv i < piv j)∧n ≤ 20∧H b = some (.lst ((List.range p).map fun i=>V.int (piv i))) ∧
 ∀ a zs H' fr,fr < n→(∀ i,i < p→piv i ≠ fr)→Same H H'→H a = none→H' a = some (.lst zs)→FLK K H' zs (putF ((List.replicate n (0,1)).set fr (1,1)) piv (negF rs fr) p)→Q (.ref a) H'
theorem ok_blank {f:Addr} {fd:FuncData} (F:Fun K nm_blank_of nm_blank_of s_blank_of f fd) (T:Txt K mg D) (G_minus:OkF P w K mg base 3 nm_minus ps_minus (sp_minus15 K)):FnOk P w K mg base CX0 4 f fd ps_blank_of (sp_blank K):=by
 refine F.ok sc_blank_of (fun vs H Q E h=>?_) (fun cdv A outer s H vs Q E hr h=>?_)
 ·obtain ⟨l,b,xs,rs,n,p,piv,rfl,_⟩:=h
  rfl
 ·obtain ⟨l,b,xs,rs,n,p,piv,rfl,hl,fr,hb,hn,hp,pn,hpv,ord,h20,hbl,q⟩:=h
  refine ⟨_,(pss_cons (ps_set (i:=3) sc_blank_of.nd rfl (Or.inl rfl) (pe_ix ix_listH (pe_compGF (defScope s_blank_of) ["end", "begins", "wide", "free", "blank", "row", "column"] ["end", "begins", "wide", "free", "blank", "row", "?column"] ["column"] rfl rfl rfl (by decide +kernel) (by decide +kernel) rfl (by decide +kernel) (by decide +kernel) (by decide +kernel) (by decide +kernel) (by decide +kernel) (pi_range1 (by rfl) T.b_range (pa_cons (pv 2) pa_nil).mono) (fun _ _ _ _ _=>(pg_name (i:=0) (show List.Nodup (["column", "end", "begins", "wide", "free", "blank", "row", "?column"] : List Str) from by decide +kernel) rfl (Or.inl rfl) (Or.inr rfl))) (fun _ _ _ _ _=>(pts_one (pt_cmpR (show OpR _ _ (rIn K true) from op_notIn_seq) (pv 0) (pv 2) rfl))) (fun _ _ _ _ _=>(pv 0))) pe_int (fun _ _=>rfl)))
   (pss_cons (ps_set (i:=4) sc_blank_of.nd rfl (Or.inl rfl) (pe_op op_rep (pe_lst (pa_cons (pe_globT (by rfl) T.c_NOUGHT) pa_nil)) (pv 2)))
   (pss_cons (ps_asg (pe_globT (by rfl) T.c_ONE) (pg_sub (pv 4) (pv 3) set_list))
   (pss_cons (ps_for PassesOwn.never rfl (pi_enum (by rfl) T.b_enumerate (pa_cons (pv 1) pa_nil).mono) (pg_tupH (n:=2) rfl (pgs_cons (pg_name (i:=5) sc_blank_of.nd rfl (Or.inl rfl)) (pgs_cons (pg_name (i:=6) sc_blank_of.nd rfl (Or.inl rfl)) pgs_nil)))
    (pss_one (ps_asg (pe_callF G_minus (hr.mono (by decide)) (by rfl) (pa_cons (pe_globT (by rfl) T.c_NOUGHT) (pa_cons (pe_ix ix_listH (pe_ix ix_listH (pv 0) (pv 5) (fun _ _=>rfl)) (pv 3) (fun _ _=>rfl)) pa_nil))) (pg_sub (pv 4) (pv 6) set_list))))
   (pss_one (ps_ret (pv 4))))))),?_⟩
  have S00:∀ r ∈ rs,0 < r.2∧r.1.length = n + 1:=fun r hr=>⟨(hb r hr).1.pos,(hb r hr).2⟩
  refine seq_asg (op_of16 (tCompG1_rngC ?_))
  refine ⟨_,rfl,n,rfl,by omega,fun D1 hD=>⟨fun k ys Hc=>Same H Hc∧Hc D1 = some (.lst ys)∧ys = ((List.range k).filter fun c:Nat=>!inV (.int c) ((List.range p).map fun i=>V.int (piv i))).map fun c:Nat=>V.int c,⟨Same.upd hD,upd_same,rfl⟩,?_,?_⟩⟩
  ·rintro k ys Hc hk ⟨S1,c1,rfl⟩ hyl
   refine ⟨_,rfl,_,rfl,b,_,rfl,.inl (.inl (.of (S1 _ _ hbl))),rfl,?_,_,rfl,?_⟩
   ·rw [List.all_map]; exact List.all_eq_true.mpr fun _ _=>rfl
   ·have en:List.range (k + 1) = List.range k ++ [k]:=List.range_succ
    rw [if_pos rfl]
    cases e:inV (.int k) ((List.range p).map fun i=>V.int (piv i)) with
    | true =>
     refine ⟨S1,c1,?_⟩
     rw [en,List.filter_append,List.filter_cons_of_neg (by rw [e]; decide),List.filter_nil,List.append_nil]
    | false =>
     refine ⟨_,rfl,c1,same_upd hD S1,upd_same,?_⟩
     rw [en,List.filter_append,List.filter_cons_of_pos (by rw [e]; rfl),List.filter_nil,List.map_append]; rfl
  ·rintro ys Hc ⟨S1,c1,rfl⟩ hyl
   obtain ⟨c0,hc0,nc0⟩:=free_col pn ord
   obtain ⟨c,rest,ec⟩ : ∃ c rest,(List.range n).filter (fun c:Nat=>!inV (.int c) ((List.range p).map fun i=>V.int (piv i))) = c :: rest:=by
    cases e:(List.range n).filter (fun c:Nat=>!inV (.int c) ((List.range p).map fun i=>V.int (piv i))) with
    | cons c rest=>exact ⟨c,rest,rfl⟩
    | nil =>
     have:=List.filter_eq_nil_iff.mp e c0 (List.mem_range.mpr hc0)
     refine absurd ?_ this
     rw [Bool.not_eq_true']
     refine Bool.eq_false_iff.mpr fun z=>?_
     obtain ⟨i,hi,ei⟩:=inV_piv.mp z
     exact nc0 i hi ei
   have cm:c ∈ (List.range n).filter (fun c:Nat=>!inV (.int c) ((List.range p).map fun i=>V.int (piv i))):=by rw [ec]; exact List.mem_cons_self
   obtain ⟨cn,cp⟩:=List.mem_filter.mp cm
   have cn:=List.mem_range.mp cn
   have cp:∀ i,i < p→piv i ≠ c:=fun i hi e=>by
    rw [inV_piv.mpr ⟨i,hi,e⟩] at cp
    exact absurd cp (by decide)
   rw [ec] at c1
   refine ⟨D1,_,0,_,rfl,rfl,c1,atI_0,line1,fun p1 hp1=>⟨_,rfl,p1,n,_,rfl,rfl,upd_same,by omega,by omega,?_,fun a ha=>?_⟩⟩
   ·rw [Int.toNat_natCast]
    exact Nat.le_trans (show 1 * n ≤ 64 by omega) (by decide)
   have S0:Same H (upd Hc p1 (.lst [.ref D.NOUGHT])):=S1.trans (Same.upd hp1)
   have haH:H a = none:=S0.free ha
   rw [Int.toNat_natCast]
   have S2:=S0.trans (Same.upd (o:=.lst (List.replicate n [V.ref D.NOUGHT]).flatten) ha)
   have c2:upd (upd Hc p1 (.lst [.ref D.NOUGHT])) a (.lst (List.replicate n [V.ref D.NOUGHT]).flatten) a = some (.lst (List.replicate n [V.ref D.NOUGHT]).flatten):=upd_same
   generalize upd (upd Hc p1 (.lst [.ref D.NOUGHT])) a (.lst (List.replicate n [V.ref D.NOUGHT]).flatten) = H1 at S2 c2 ⊢
   have f1:FLK K H1 (List.replicate n [V.ref D.NOUGHT]).flatten (List.replicate n (0,1)):=flk_rep (f:=(0,1)) (T.kt_NOUGHT _) n
   refine ⟨_,rfl,_,rfl,a,_,c,c,rfl,rfl,c2,ixN_nat (by rw [f1.length,List.length_replicate]; exact cn),seq_of (tFor_enumM ?_)⟩
   have S3:=same_upd (o:=.lst ((List.replicate n [V.ref D.NOUGHT]).flatten.set c (.ref D.ONE))) haH S2
   have f2:FLK K (upd H1 a (.lst ((List.replicate n [V.ref D.NOUGHT]).flatten.set c (.ref D.ONE)))) ((List.replicate n [V.ref D.NOUGHT]).flatten.set c (.ref D.ONE)) ((List.replicate n (0,1)).set c (1,1)):=FLK.set (f:=(1,1)) (T.kt_ONE _) c (f1.updL c2)
   refine ⟨_,rfl,b,_,rfl,S3 _ _ hbl,fun k σ H'=>∃ zs u v,σ = [some (.ref l),some (.ref b),some (.int n),some (.int c),some (.ref a),u,v]∧Same H H'∧H' a = some (.lst zs)∧FLK K H' zs (putF ((List.replicate n (0,1)).set c (1,1)) piv (negF rs c) k),⟨_,none,none,rfl,S3,upd_same,f2⟩,?_,?_⟩
   ·rintro k x σ' H2 t hk ⟨zs,u,v,rfl,S4,c4,fl⟩ hb2 ht
    obtain ⟨kp,rfl⟩:=piv_at hk
    have T3:Same H2 (upd H2 t (.tup [.int k,.int (piv k)])):=Same.upd ht
    have e3:upd H2 t (.tup [.int k,.int (piv k)]) t = some (.tup [.int k,.int (piv k)]):=upd_same
    generalize upd H2 t (.tup [.int k,.int (piv k)]) = H3 at T3 e3 ⊢
    have S5:=S4.trans T3
    have kr:k < rs.length:=by omega
    obtain ⟨la,ya,pg,ea,hla,hv,hpg⟩:=num_at (j:=c) fr kr S00 (by omega)
    have bk:=(hb _ (rowAt_in kr)).1
    have tb:((rowAt rs k).1.getD c 0).natAbs ≤ NN:=by
     refine bk.top _ ?_
     rw [List.getD_eq_getElem?_getD,List.getElem?_eq_getElem (by rw [(hb _ (rowAt_in kr)).2]; omega)]
     exact List.getElem_mem _
    have l1:(numF rs c k).1.natAbs ≤ NN:=Nat.le_trans (Ac.lw_b1 _ _) tb
    have l2:(numF rs c k).2.natAbs ≤ NN:=Nat.le_trans (Ac.lw_b2 _ _) bk.bot
    have lp:0 < (numF rs c k).2:=Ac.lw_pos bk.pos
    have c5:=T3 _ _ c4
    have na:∀ c o,H c = some o→c ≠ a:=fun c o e=>ne_of_none e haH
    have zl:zs.length = n:=by rw [fl.length,putF_len,List.length_set,List.length_replicate]
    refine ⟨t,_,rfl,e3,rfl,_,_,rfl,_,_,rfl,rfl,_,rfl,_,rfl,l,xs,k,_,rfl,rfl,S5 _ _ hl,atI_nat ea,_,rfl,la,ya,c,_,rfl,rfl,S5 _ _ hla,atI_nat hv,_,pg,0,1,(numF rs c k).1,(numF rs c k).2,rfl,T.kt_NOUGHT _,.inl (.of (S5 _ _ hpg)),bdN (by decide +kernel),bdN (by decide +kernel),bdN l1,bdN l2,by decide,lp,by rw [Int.one_mul]; exact bdN l2,fun q' z o lo hq=>?_⟩
    have T6:Same H3 (upd H3 q' (.tup [.int z,.int o])):=Same.upd hq
    have e6:upd H3 q' (.tup [.int z,.int o]) q' = some (.tup [.int z,.int o]):=upd_same
    generalize upd H3 q' (.tup [.int z,.int o]) = H4 at T6 e6 ⊢
    have c6:=T6 _ _ c5
    obtain ⟨ez,eo⟩:=neg_lw bk.pos lo.pos lo.gcd lo.eq
    refine ⟨_,rfl,_,rfl,a,zs,piv k,piv k,rfl,rfl,c6,ixN_nat (by rw [zl]; exact hpv k kp),(upd_ne (na _ _ hbl)).trans (T6 _ _ (T3 _ _ hb2)),_,_,_,rfl,same_upd haH (S5.trans T6),upd_same,?_⟩
    refine FLK.set (f:=negF rs c k) (.inl (.of ((upd_ne (ne_of e6 c6 (by intro z; cases z))).trans ?_))) (piv k) ((fl.same (T3.trans T6)).updL c6)
    unfold negF
    rw [← ez,← eo]
    exact e6
   ·rintro σ' H2 ⟨zs,u,v,rfl,S4,c4,fl⟩ _
    rw [List.length_map,List.length_range] at fl
    exact ⟨_,rfl,q a zs H2 c cn cp S4 haH c4 fl⟩
open Rw
def sp_odd16 (K:PySem.W.Frag):Sp:=fun vs H Q _=>∃ (l b:Addr) (xs ys:List V) (rs:List Row) (n:Nat),vs = [.ref l,.ref b,.int n]∧H l = some (.lst xs)∧FRs H xs (rs.map rep)∧(∀ r ∈ rs,0 < r.2∧r.1.length = n + 1)∧rs.length ≤ 20∧n ≤ 20∧H b = some (.lst ys)∧ys.length ≤ rs.length ∧
 (∀ i H',ys.length ≤ i→i < rs.length→(rowAt rs i).1.getD n 0 ≠ 0→Same H H'→Q (.int i) H')∧((∀ i,ys.length ≤ i→i < rs.length→(rowAt rs i).1.getD n 0 = 0)→∀ H',Same H H'→Q .non H')
theorem ok_odd16 {f:Addr} {fd:FuncData} (F:Fun K nm_odd_row nm_odd_row s_odd_row f fd) (T:Txt K mg D):FnOk P w K mg base CX0 1 f fd ps_odd_row (sp_odd16 K):=by
 refine F.ok sc_odd_row (fun vs H Q E h=>?_) (fun cdv A outer s H vs Q E hr h=>?_)
 ·obtain ⟨l,b,xs,ys,rs,n,rfl,_⟩:=h
  rfl
 ·obtain ⟨l,b,xs,ys,rs,n,rfl,hl,fr,hb,hn,h20,hbl,hy,q1,q2⟩:=h
  refine ⟨_,(pss_cons (ps_for PassesOwn.never rfl (pi_range2 (by rfl) T.b_range (pa_cons (pe_callB call_lenL (by rfl) T.b_len PySem.boot_len (pa_cons (pv 1) pa_nil)) (pa_cons (pe_callB call_lenL (by rfl) T.b_len PySem.boot_len (pa_cons (pv 0) pa_nil)) pa_nil)).mono) (pg_name (i:=3) sc_odd_row.nd rfl (Or.inl rfl))
    (pss_one (ps_if (pt_cmpR (op_neKK (K:=K) rfl hr.units) (pe_ix ix_listH (pe_ix ix_listH (pv 0) (pv 3) (fun _ _=>rfl)) (pv 2) (fun _ _=>rfl)) (pe_globT (by rfl) T.c_NOUGHT) (nomark _))
     (pss_one (ps_ret (pv 3)))
     pss_nil)))
   (pss_one (ps_ret pe_non))),?_⟩
  have hx:xs.length = rs.length:=by rw [fr.len,List.length_map]
  refine seq_of (tFor_rng2M ?_)
  refine ⟨_,rfl,b,ys,rfl,hbl,_,rfl,l,xs,rfl,hl,_,_,rs.length - ys.length,rfl,by omega,by omega,by omega,fun k σ' H'=>(∃ u,σ' = [some (.ref l),some (.ref b),some (.int n),u])∧Same H H'∧∀ i,ys.length ≤ i→i < ys.length + k→(rowAt rs i).1.getD n 0 = 0,⟨⟨none,rfl⟩,Same.refl _,fun i h1 h2=>by omega⟩,fun k σ' H' hk=>?_,fun σ' H' e=>?_⟩
  ·rintro ⟨⟨u,rfl⟩,S,z⟩
   have hi:ys.length + k < rs.length:=by omega
   obtain ⟨la,ya,pg,ea,hla,hv,hpg⟩:=num_at (j:=n) fr hi hb (by omega)
   have e1:=atI_nat ea
   rw [Int.natCast_add] at e1
   have br:=hb _ (rowAt_in hi)
   refine ⟨_,rfl,_,rfl,l,xs,_,_,rfl,rfl,S _ _ hl,e1,_,rfl,la,ya,n,_,rfl,rfl,S _ _ hla,atI_nat hv,_,_,.tup (.inl (.of (S _ _ hpg))) (.cons (.int _) (.cons (.int _) .nil)),.tup (T.kt_NOUGHT _) (.cons (.int _) (.cons (.int _) .nil)),rfl,rfl,_,rfl,ite2 (fun h=>⟨_,rfl,?_⟩) fun h=>⟨⟨_,rfl⟩,S,fun i h1 h2=>?_⟩⟩
   ·have h0:(rowAt rs (ys.length + k)).1.getD n 0 ≠ 0:=fun e=>by
     have:=(Ac.lw_nought (t:=(rowAt rs (ys.length + k)).1.getD n 0) br.1).mpr e
     rw [if_pos rfl,eqv_two] at h
     unfold numF at h
     rw [this.1,this.2] at h
     exact absurd h (by decide)
    have:=q1 (ys.length + k) H' (by omega) hi h0 S
    rw [Int.natCast_add] at this
    exact this
   ·by_cases e:i = ys.length + k
    ·rw [e]
     refine (Ac.lw_nought br.1).mp ?_
     rw [if_pos rfl,eqv_two] at h
     have h:((numF rs n (ys.length + k)).1 == 0 && (numF rs n (ys.length + k)).2 == 1) = true:=by simpa using h
     obtain ⟨h1,h2⟩:=Bool.and_eq_true_iff.mp h
     exact ⟨beq_iff_eq.mp h1,beq_iff_eq.mp h2⟩
    ·exact z i h1 (by omega)
  ·obtain ⟨⟨u,rfl⟩,S,z⟩:=e
   exact q2 (fun i h1 h2=>z i h1 (by omega)) H' S
open Rw
def sp_width16:Sp:=fun vs H Q _=>∃ (l:Addr) (xs:List V) (fss:List (List (Int × Int))) (wd:Nat),vs = [.ref l]∧H l = some (.lst xs)∧FRs H xs fss∧(∀ fs ∈ fss,fs.length = wd)∧(fss.length = 0→wd = 0)∧Q (.int wd) H
theorem ok_width16 {f:Addr} {fd:FuncData} (F:Fun K nm_width_of nm_width_of s_width_of f fd) (T:Txt K mg D):FnOk P w K mg base CX0 1 f fd ps_width_of sp_width16:=by
 refine F.ok sc_width_of (fun vs H Q E h=>?_) (fun cdv A outer s H vs Q E hr h=>?_)
 ·obtain ⟨l,xs,fss,wd,rfl,_⟩:=h
  rfl
 ·obtain ⟨l,xs,fss,wd,rfl,hl,fr,hw,h0,q⟩:=h
  refine ⟨_,(pss_cons (ps_if (pt_cmpR op_eq (pe_callB call_lenL (by rfl) T.b_len PySem.boot_len (pa_cons (pv 0) pa_nil)) pe_int (nomark _))
    (pss_one (ps_ret pe_int))
    pss_nil)
   (pss_one (ps_ret (pe_callB call_lenL (by rfl) T.b_len PySem.boot_len (pa_cons (pe_ix ix_listH (pv 0) pe_int (fun _ _=>rfl)) pa_nil))))),?_⟩
  have hx:=fr.len
  refine ⟨_,rfl,l,xs,rfl,hl,rfl,_,rfl,ite2 (fun z=>?_) fun z=>?_⟩
  ·have e:xs.length = 0:=by have:=V.int.inj (of_decide_eq_true z); omega
   have:=h0 (by omega)
   subst this
   exact q
  ·have e:0 < xs.length:=by
    by_cases y:xs.length = 0
    ·exact absurd (decide_eq_true (by rw [y]; rfl)) z
    ·omega
   obtain ⟨v,hv⟩ : ∃ v,xs[0]? = some v:=⟨_,List.getElem?_eq_getElem e⟩
   obtain ⟨l1,y1,rfl,h1,fl1⟩:=fr.at_ 0 v hv
   have ly:y1.length = wd:=by
    rw [fl1.length]
    refine hw _ ?_
    rw [List.getD_eq_getElem?_getD,List.getElem?_eq_getElem (by omega)]; exact List.getElem_mem _
   refine ⟨_,rfl,l,xs,0,_,rfl,rfl,hl,atI_nat (j:=0) hv,l1,y1,rfl,h1,?_⟩
   rw [ly]
   exact q
def colF (fss:List (List (Int × Int))) (j:Nat):List (Int × Int):=fss.map fun fs=>fs.getD j (0,1)
def sp_column (K:PySem.W.Frag):Sp:=fun vs H Q _=>∃ (l:Addr) (xs:List V) (fss:List (List (Int × Int))) (j:Nat),vs = [.ref l,.int j]∧H l = some (.lst xs)∧FRsK K H xs fss∧(∀ fs ∈ fss,j < fs.length)∧fss.length ≤ 20∧∀ p zs H',Same H H'→H p = none→H' p = some (.lst zs)→FLK K H' zs (colF fss j)→Q (.ref p) H'
theorem ok_column {f:Addr} {fd:FuncData} (F:Fun K nm_column nm_column s_column f fd) (T:Txt K mg D):FnOk P w K mg base CX0 1 f fd ps_column (sp_column K):=by
 refine F.ok sc_column (fun vs H Q E h=>?_) (fun cdv A outer s H vs Q E hr h=>?_)
 ·obtain ⟨l,xs,fss,j,rfl,_⟩:=h
  rfl
 ·obtain ⟨l,xs,fss,j,rfl,hl,fr,hj,hn,q⟩:=h
  refine ⟨_,(pss_one (ps_ret (pe_compGF (defScope s_column) ["_law_rows", "_law_at"] ["_law_rows", "_law_at"] ["_law_row"] rfl rfl rfl (by decide +kernel) (by decide +kernel) rfl (by decide +kernel) (by decide +kernel) (by decide +kernel) (by decide +kernel) (by decide +kernel) (pi_list ((pv 0)).mono) (fun _ _ _ _ _=>(pg_name (i:=0) (show List.Nodup (["_law_row", "_law_rows", "_law_at"] : List Str) from by decide +kernel) rfl (Or.inl rfl) (Or.inr rfl))) (fun _ _ _ _ _=>pts_nil) (fun _ _ _ _ _=>(pe_ix ix_listH (pv 0) (pv 2) (fun _ _=>rfl)))))),?_⟩
  refine ret_of (tCompG1_list ?_)
  refine ⟨_,rfl,l,xs,rfl,hl,by rw [fr.len]; exact Nat.le_trans hn (by decide),fun D1 hD=>⟨fun k zs Hc=>Same H Hc∧Hc D1 = some (.lst zs)∧FLK K Hc zs ((colF fss j).take k),⟨Same.upd hD,upd_same,.nil⟩,?_,?_⟩⟩
  ·rintro k v zs Hc hk ⟨S1,c1,fl⟩ hzl hlc
   have kf:k < fss.length:=by rw [← fr.len]; exact (List.getElem?_eq_some_iff.mp hk).1
   obtain ⟨l1,ys,rfl,h1,f1⟩:=fr.at_ k v hk
   have ef:fss[k]? = some fss[k]:=List.getElem?_eq_getElem kf
   have hm:=List.getElem_mem kf
   rw [List.getD_eq_getElem?_getD,ef] at f1
   have f1:FLK K H ys fss[k]:=f1
   have jl:=hj _ hm
   obtain ⟨x,hx⟩ : ∃ x,ys[j]? = some x:=⟨_,List.getElem?_eq_getElem (by rw [f1.length]; exact jl)⟩
   obtain ⟨pg,g,rfl,hg,hpg⟩:=f1.get hx
   have en:(colF fss j)[k]? = some g:=by
    unfold colF
    rw [List.getElem?_map,ef]
    show some (fss[k].getD j (0,1)) = _
    rw [List.getD_eq_getElem?_getD,hg]; rfl
   refine ⟨_,rfl,_,rfl,l1,ys,j,_,rfl,rfl,S1 _ _ h1,atI_nat hx,c1,hlc,same_upd hD S1,upd_same,?_⟩
   rw [take_next en]
   exact (fl.updL c1).append (.cons ((S1.tup hpg).updO c1 (fun _ z=>by cases z) fun _ _ z=>by cases z) .nil)
  ·rintro zs Hc ⟨S1,c1,fl⟩ hzl
   rw [fr.len,List.take_of_length_le (by unfold colF; rw [List.length_map]; exact Nat.le_refl _)] at fl
   exact q D1 zs Hc S1 hD c1 fl
open Rw
theorem col_len {fss:List (List (Int × Int))} {j:Nat} : (colF fss j).length = fss.length:=List.length_map _
theorem nn1:1 ≤ NN:=by decide +kernel
theorem col_sz {fss:List (List (Int × Int))} {j:Nat} (h:∀ fs ∈ fss,Sz fs) (hj:∀ fs ∈ fss,j < fs.length):Sz (colF fss j):=fun f hf=>by
 obtain ⟨fs,hm,rfl⟩:=List.mem_map.mp hf
 refine h fs hm _ ?_
 rw [List.getD_eq_getElem?_getD,List.getElem?_eq_getElem (hj fs hm)]; exact List.getElem_mem _
theorem Lo.sz {fs:List (Int × Int)} (h:∀ f ∈ fs,Lo f):Sz fs:=fun f hf=>⟨(h f hf).pos,(h f hf).sa,(h f hf).sb⟩
structure NoneP (fss:List (List (Int × Int))) (rts:List (Int × Int)) (n:Nat) (ofs:List (Int × Int)):Prop where
 len:ofs.length = fss.length
 lo:∀ f ∈ ofs,Lo f
 one:(prF ofs rts (0,1)).1 = (prF ofs rts (0,1)).2
 zero:∀ j,j < n→(prF ofs (colF fss j) (0,1)).1 = 0
structure RowsP (fss:List (List (Int × Int))) (rts:List (Int × Int)) (n:Nat) (as:List (Int × Int)):Prop where
 len:as.length = n
 lo:∀ f ∈ as,Lo f
 rows:∀ (i:Nat) fs r,fss[i]? = some fs→rts[i]? = some r→(prF fs as (0,1)).1 * r.2 = r.1 * (prF fs as (0,1)).2
structure ManyP (fss:List (List (Int × Int))) (rts:List (Int × Int)) (n:Nat) (as bs:List (Int × Int)):Prop where
 ans:RowsP fss rts n as
 len:bs.length = n
 lo:∀ f ∈ bs,Lo f
 some_:∃ f ∈ bs,f.1 ≠ 0
 zero:∀ fs ∈ fss,(prF fs bs (0,1)).1 = 0
structure OneP (fss:List (List (Int × Int))) (rts:List (Int × Int)) (n:Nat) (as:List (Int × Int)) (lss:List (List (Int × Int))):Prop where
 ans:RowsP fss rts n as
 len:lss.length = n
 wd:∀ ls ∈ lss,ls.length = fss.length∧∀ f ∈ ls,Lo f
 unit:∀ (k j:Nat) ls,lss[k]? = some ls→j < n→(prF ls (colF fss j) (0,1)).1 = (if j = k then 1 else 0) * (prF ls (colF fss j) (0,1)).2
inductive Paper16 (K:PySem.W.Frag) (H:Hp) (t:Addr) (fss:List (List (Int × Int))) (rts:List (Int × Int)) (n:Nat):Prop
 | one (a b:Addr) (zs us:List V) (as:List (Int × Int)) (lss:List (List (Int × Int))):H t = some (.tup [.str "one",.ref a,.ref b])→H a = some (.lst zs)→FLK K H zs as→H b = some (.lst us)→FRs H us lss→OneP fss rts n as lss→Paper16 K H t fss rts n
 | many (a b:Addr) (zs us:List V) (as bs:List (Int × Int)):H t = some (.tup [.str "many",.ref a,.ref b])→H a = some (.lst zs)→FLK K H zs as→H b = some (.lst us)→FLK K H us bs→ManyP fss rts n as bs→Paper16 K H t fss rts n
 | none (o:Addr) (zs:List V) (ofs:List (Int × Int)):H t = some (.tup [.str "none",.ref o])→H o = some (.lst zs)→FLK K H zs ofs→NoneP fss rts n ofs→Paper16 K H t fss rts n
open Rw
theorem step_pos {rs:List Row} {s:Stp} (h:∀ r ∈ rs,0 < r.2) (ok:StpN rs.length s):∀ r ∈ stepR rs s,0 < r.2:=fun r hr=>by
 obtain ⟨k,hk,rfl⟩:=mem_rowAt hr
 rw [stepR_length] at hk
 cases s with
 | swap i j =>
  rw [swap_at ok.1 ok.2]
  split
  ·exact h _ (rowAt_in ok.1)
  ·split
   ·exact h _ (rowAt_in ok.2)
   ·exact h _ (rowAt_in hk)
 | times i c =>
  obtain ⟨hi,fn⟩:=ok
  have at_:rowAt (stepR rs (.times i c)) k = if k = i then redR (timesR (rowAt rs i) c) else rowAt rs k:=rowAt_set hi
  rw [at_]
  split
  ·have p:0 < (timesR (rowAt rs i) c).2:=Int.mul_pos (h _ (rowAt_in hi)) fn.pos
   exact Int.ediv_pos_of_pos_of_dvd p (Int.le_of_lt (gcL_pos p)) gcL_dvd.1
  ·exact h _ (rowAt_in hk)
 | add i j c =>
  obtain ⟨hi,hj,fn⟩:=ok
  have at_:rowAt (stepR rs (.add i j c)) k = if k = i then redR (plusR (rowAt rs i) (rowAt rs j) c) else rowAt rs k:=rowAt_set hi
  rw [at_]
  split
  ·have hB:=Int.mul_pos (h _ (rowAt_in hj)) fn.pos
   have p:0 < (plusR (rowAt rs i) (rowAt rs j) c).2:=Int.mul_pos (h _ (rowAt_in hi)) (Int.ediv_pos_of_pos_of_dvd hB (Int.le_of_lt (Ac.gpos hB)) (Int.gcd_dvd_right _ _))
   exact Int.ediv_pos_of_pos_of_dvd p (Int.le_of_lt (gcL_pos p)) gcL_dvd.1
  ·exact h _ (rowAt_in hk)
theorem step_low {rs:List Row} {s:Stp} (h:∀ r ∈ rs,0 < r.2) (g:∀ r ∈ rs,gcL r.1 r.2 = 1) (ok:StpN rs.length s):∀ r ∈ stepR rs s,gcL r.1 r.2 = 1:=fun r hr=>by
 obtain ⟨k,hk,rfl⟩:=mem_rowAt hr
 rw [stepR_length] at hk
 cases s with
 | swap i j =>
  rw [swap_at ok.1 ok.2]
  split
  ·exact g _ (rowAt_in ok.1)
  ·split
   ·exact g _ (rowAt_in ok.2)
   ·exact g _ (rowAt_in hk)
 | times i c =>
  obtain ⟨hi,fn⟩:=ok
  have at_:rowAt (stepR rs (.times i c)) k = if k = i then redR (timesR (rowAt rs i) c) else rowAt rs k:=rowAt_set hi
  rw [at_]
  split
  ·exact gcL_red (r:=timesR (rowAt rs i) c) (Int.mul_pos (h _ (rowAt_in hi)) fn.pos)
  ·exact g _ (rowAt_in hk)
 | add i j c =>
  obtain ⟨hi,hj,fn⟩:=ok
  have at_:rowAt (stepR rs (.add i j c)) k = if k = i then redR (plusR (rowAt rs i) (rowAt rs j) c) else rowAt rs k:=rowAt_set hi
  rw [at_]
  split
  ·have hB:=Int.mul_pos (h _ (rowAt_in hj)) fn.pos
   exact gcL_red (r:=plusR (rowAt rs i) (rowAt rs j) c) (Int.mul_pos (h _ (rowAt_in hi)) (Int.ediv_pos_of_pos_of_dvd hB (Int.le_of_lt (Ac.gpos hB)) (Int.gcd_dvd_right _ _)))
  ·exact g _ (rowAt_in hk)
theorem run_posL:∀ {ss:List Stp} {rs:List Row},(∀ r ∈ rs,0 < r.2∧gcL r.1 r.2 = 1)→(∀ s ∈ ss,StpN rs.length s)→(∀ r ∈ runR rs ss,0 < r.2∧gcL r.1 r.2 = 1)∧(runR rs ss).map rep = runF (rs.map rep) ss
 | [],_,h,_=>⟨h,rfl⟩
 | s :: ss,rs,h,ok=>by
  have h0:∀ r ∈ rs,0 < r.2:=fun r hr=>(h r hr).1
  have ok0:=ok s List.mem_cons_self
  have p1:=step_pos h0 ok0
  have p2:=step_low h0 (fun r hr=>(h r hr).2) ok0
  obtain ⟨a,b⟩:=run_posL (ss:=ss) (rs:=stepR rs s) (fun r hr=>⟨p1 r hr,p2 r hr⟩) fun z hz=>by rw [stepR_length]; exact ok z (List.mem_cons_of_mem _ hz)
  refine ⟨a,?_⟩
  show (runR (stepR rs s) ss).map rep = runF (stepF (rs.map rep) s) ss
  rw [b,step_rep h0 ok0]
theorem drop_all {es zs:List Row} {w wd' N:Nat} {ss:List Stp} (he:∀ r ∈ es,0 < r.2∧gcL r.1 r.2 = 1) (hd:(zs.map rep).map (List.drop w) = es.map rep) (ab:AllB N wd' zs ss) (ok:∀ s ∈ ss,StpN zs.length s):AllB N (wd' - w) es ss:=fun k r hr=>by
 have hl:zs.length = es.length:=by have:=congrArg List.length hd; simpa using this
 have okk:∀ s ∈ ss.take k,StpN es.length s:=fun s hs=>by rw [← hl]; exact ok s (List.mem_of_mem_take hs)
 obtain ⟨a,b⟩:=run_posL he okk
 have abk:AllB N wd' zs (ss.take k):=by
  have:=ab
  rw [← List.take_append_drop k ss] at this
  exact this.pre
 have c:=run_rep abk fun s hs=>ok s (List.mem_of_mem_take hs)
 rw [← hd,← runF_drop,← c] at b
 obtain ⟨i,hi,rfl⟩:=mem_rowAt hr
 rw [run_length] at hi
 have hz:i < (runR zs (ss.take k)).length:=by rw [run_length,hl]; exact hi
 have hi':i < (runR es (ss.take k)).length:=by rw [run_length]; exact hi
 have er:∀ {xs:List Row},i < xs.length→xs[i]? = some (rowAt xs i):=fun {xs} hx=>by unfold rowAt; rw [List.getD_eq_getElem?_getD,List.getElem?_eq_getElem hx]; rfl
 have e:=congrArg (fun l:List (List (Int × Int))=>l[i]?) b
 simp only [List.getElem?_map,er hz,er hi',Option.map_some] at e
 have e:rep (rowAt (runR es (ss.take k)) i) = (rep (rowAt (runR zs (ss.take k)) i)).drop w:=Option.some.inj e
 have bz:=ab k _ (rowAt_in hz)
 obtain ⟨p0,g0⟩:=a _ (rowAt_in hi')
 generalize rowAt (runR es (ss.take k)) i = x at *
 generalize rowAt (runR zs (ss.take k)) i = z at *
 have ln:x.1.length = wd' - w:=by
  have:=congrArg List.length e
  unfold rep at this
  rw [List.length_map,List.length_drop,List.length_map,bz.2] at this
  exact this
 refine ⟨least (s:=(z.1.drop w,z.2)) p0 g0 ⟨by rw [ln,List.length_drop,bz.2],fun j a b ha hb=>?_⟩ ⟨bz.1.pos,bz.1.bot,fun t ht=>bz.1.top t (List.mem_of_mem_drop ht)⟩,ln⟩
 have hb:(z.1.drop w)[j]? = some b:=hb
 have e2:=congrArg (fun l:List (Int × Int)=>l[j]?) e
 unfold rep at e2
 rw [← List.map_drop] at e2
 simp only [List.getElem?_map,ha,hb,Option.map_some] at e2
 exact lw_cross p0 bz.1.pos (Option.some.inj e2)
open Rw
theorem ker_step {rs:List Row} {s:Stp} {wd:Nat} {y:Nat→Int} (hb:∀ r ∈ rs,0 < r.2∧r.1.length = wd) (ok:StpN rs.length s) (h:KerR rs y):KerR (stepR rs s) y:=by
 have red:∀ r:Row,0 < r.2→dotF r.1 y = 0→dotF (redR r).1 y = 0:=fun r p z=>by
  have e:=dot_div (g:=gcL r.1 r.2) (ts:=r.1) (y:=y) gcL_dvd.2
  rw [z] at e
  exact (Int.mul_eq_zero.mp e).resolve_right (Int.ne_of_gt (gcL_pos p))
 intro k hk
 rw [stepR_length] at hk
 cases s with
 | swap i j =>
  rw [swap_at ok.1 ok.2]
  split
  ·exact h _ ok.1
  ·split
   ·exact h _ ok.2
   ·exact h _ hk
 | times i c =>
  obtain ⟨hi,fn⟩:=ok
  have at_:rowAt (stepR rs (.times i c)) k = if k = i then redR (timesR (rowAt rs i) c) else rowAt rs k:=rowAt_set hi
  rw [at_]
  split
  ·refine red _ (Int.mul_pos (hb _ (rowAt_in hi)).1 fn.pos) ?_
   show dotF ((rowAt rs i).1.map fun t=>t * c.1) y = 0
   rw [dot_mul,h i hi,Int.zero_mul]
  ·exact h _ hk
 | add i j c =>
  obtain ⟨hi,hj,fn⟩:=ok
  have at_:rowAt (stepR rs (.add i j c)) k = if k = i then redR (plusR (rowAt rs i) (rowAt rs j) c) else rowAt rs k:=rowAt_set hi
  rw [at_]
  split
  ·have bi:=hb _ (rowAt_in hi)
   have bj:=hb _ (rowAt_in hj)
   have hB:=Int.mul_pos bj.1 fn.pos
   refine red _ (Int.mul_pos bi.1 (Int.ediv_pos_of_pos_of_dvd hB (Int.le_of_lt (Ac.gpos hB)) (Int.gcd_dvd_right _ _))) ?_
   show dotF (List.zipWith (fun a b=>a * ((rowAt rs j).2 * c.2 / ((Int.gcd (rowAt rs i).2 ((rowAt rs j).2 * c.2):Nat):Int)) + b * ((rowAt rs i).2 / ((Int.gcd (rowAt rs i).2 ((rowAt rs j).2 * c.2):Nat):Int) * c.1)) (rowAt rs i).1 (rowAt rs j).1) y = 0
   rw [dot_zip (by rw [bi.2,bj.2]),h i hi,h j hj,Int.zero_mul,Int.zero_mul]; rfl
  ·exact h _ hk
theorem ker_run {N wd:Nat} {y:Nat→Int} : ∀ {ss:List Stp} {rs:List Row},AllB N wd rs ss→(∀ s ∈ ss,StpN rs.length s)→KerR rs y→KerR (runR rs ss) y
 | [],_,_,_,h=>h
 | s :: ss,rs,ab,ok,h=>ker_run (ss:=ss) (rs:=stepR rs s) (fun k=>ab (k + 1)) (fun z hz=>by rw [stepR_length]; exact ok z (List.mem_cons_of_mem _ hz)) (ker_step (fun r hr=>⟨(ab 0 r hr).1.pos,(ab 0 r hr).2⟩) (ok s List.mem_cons_self) h)
def yJ (fss:List (List (Int × Int))) (w j:Nat) (i:Nat):Int:=if i = j then (lvB (colF fss j):Nat) else if i < w then 0 else -(lvT (colF fss j)).getD (i - w) 0
def augF (fss:List (List (Int × Int))):List (List (Int × Int)):=List.zipWith (fun fs us=>fs ++ us) fss (unitF fss.length)
theorem augF_at {fss:List (List (Int × Int))} {i:Nat} (h:i < fss.length):(augF fss)[i]? = some (fAt fss i ++ (List.range fss.length).map fun j=>oneF i j):=by
 unfold augF unitF fAt
 rw [List.getElem?_zipWith,List.getElem?_map,List.getElem?_range h,List.getD_eq_getElem?_getD,List.getElem?_eq_getElem h]; rfl
theorem augF_len {fss:List (List (Int × Int))} : (augF fss).length = fss.length:=by
 unfold augF unitF
 rw [List.length_zipWith,List.length_map,List.length_range,Nat.min_self]
theorem fAt_mem {fss:List (List (Int × Int))} {i:Nat} (h:i < fss.length):fAt fss i ∈ fss:=by
 unfold fAt
 rw [List.getD_eq_getElem?_getD,List.getElem?_eq_getElem h]; exact List.getElem_mem h
theorem one_fq (i j:Nat):(oneF i j).2 = 1:=by unfold oneF; split <;> rfl
theorem lvB_app {fs us:List (Int × Int)} (h:∀ u ∈ us,u.2 = 1):lvB (fs ++ us) = lvB fs:=by
 unfold lvB botN
 refine Nat.dvd_antisymm (Lv.lcmL_dvd.mpr fun b hb=>?_) (Lv.lcmL_dvd.mpr fun b hb=>Lv.lcmL_dvd.mp (Nat.dvd_refl _) b ?_)
 ·rw [List.map_append] at hb
  rcases List.mem_append.mp hb with y | y
  ·exact Lv.lcmL_dvd.mp (Nat.dvd_refl _) b y
  ·obtain ⟨u,hu,rfl⟩:=List.mem_map.mp y
   rw [h u hu]
   exact Nat.one_dvd _
 ·rw [List.map_append]
  exact List.mem_append_left _ hb
theorem lvR_app {fs us:List (Int × Int)} (h:∀ u ∈ us,u.2 = 1):lvR (fs ++ us) = ((lvR fs).1 ++ us.map fun u=>u.1 * ((lvB fs:Nat):Int),(lvR fs).2):=by
 unfold lvR
 refine Prod.ext ?_ (by show ((lvB (fs ++ us):Nat):Int) = _; rw [lvB_app h])
 show lvT (fs ++ us) = _
 unfold lvT
 rw [lvB_app h,List.map_append]
 congr 1
 refine List.map_congr_left fun u hu=>?_
 rw [h u hu,Int.ediv_one]
theorem aug_big {fs us:List (Int × Int)} {N:Nat} (h:∀ u ∈ us,u = (1,1)∨u = (0,1)) (hb:Big N (lvR fs)):Big N (lvR (fs ++ us)):=by
 rw [lvR_app fun u hu=>by rcases h u hu with e | e <;> rw [e]]
 refine ⟨hb.pos,hb.bot,fun t ht=>?_⟩
 rcases List.mem_append.mp ht with y | y
 ·exact hb.top t y
 ·obtain ⟨u,hu,rfl⟩:=List.mem_map.mp y
  rcases h u hu with e | e
  ·rw [e,Int.one_mul]; exact hb.bot
  ·rw [e,Int.zero_mul]; exact Nat.zero_le _
open Rw
theorem dot_app:∀ {ts us:List Int} {y:Nat→Int},dotF (ts ++ us) y = dotF ts y + dotF us fun i=>y (i + ts.length)
 | [],us,y=>by show dotF us y = 0 + dotF us fun i=>y (i + 0); rw [Int.zero_add]; rfl
 | t :: ts,us,y=>by
  show t * y 0 + dotF (ts ++ us) (fun i=>y (i + 1)) = t * y 0 + dotF ts (fun i=>y (i + 1)) + dotF us fun i=>y (i + (ts.length + 1))
  rw [dot_app,Int.add_assoc]; rfl
theorem dot_congr:∀ {ts:List Int} {y z:Nat→Int},(∀ i,i < ts.length→y i = z i)→dotF ts y = dotF ts z
 | [],_,_,_=>rfl
 | t :: ts,y,z,h=>by
  show t * y 0 + dotF ts (fun i=>y (i + 1)) = t * z 0 + dotF ts fun i=>z (i + 1)
  rw [h 0 (Nat.zero_lt_succ _),dot_congr fun i hi=>h (i + 1) (Nat.succ_lt_succ hi)]
theorem dot_neg:∀ {ts:List Int} {y:Nat→Int},(dotF ts fun i=>-y i) = -dotF ts y
 | [],_=>rfl
 | t :: ts,y=>by
  show t * -y 0 + dotF ts (fun i=>-y (i + 1)) = -(t * y 0 + dotF ts fun i=>y (i + 1))
  rw [dot_neg (y:=fun i=>y (i + 1)),Int.mul_neg]
  omega
theorem yJ_j {fss:List (List (Int × Int))} {w j:Nat} : yJ fss w j j = (lvB (colF fss j):Nat):=if_pos rfl
theorem yJ_lt {fss:List (List (Int × Int))} {w j i:Nat} (h:i ≠ j) (hi:i < w):yJ fss w j i = 0:=by unfold yJ; rw [if_neg h,if_pos hi]
theorem yJ_ge {fss:List (List (Int × Int))} {w j i:Nat} (hj:j < w):yJ fss w j (i + w) = -(lvT (colF fss j)).getD i 0:=by unfold yJ; rw [if_neg (by omega),if_neg (by omega),Nat.add_sub_cancel]
theorem col_fq {fss:List (List (Int × Int))} {w j:Nat} (hw:∀ fs ∈ fss,fs.length = w) (hq:∀ fs ∈ fss,∀ f ∈ fs,Fq f) (hj:j < w):∀ f ∈ colF fss j,Fq f:=fun f hf=>by
 obtain ⟨fs,hm,rfl⟩:=List.mem_map.mp hf
 refine hq fs hm _ ?_
 rw [List.getD_eq_getElem?_getD,List.getElem?_eq_getElem (by rw [hw fs hm]; exact hj)]; exact List.getElem_mem _
theorem aug_row {fss:List (List (Int × Int))} {w j:Nat} {z:Row} {aj:Int} (hw:∀ fs ∈ fss,fs.length = w) (hq:∀ fs ∈ fss,∀ f ∈ fs,Fq f) (hj:j < w) (p:0 < z.2) (zl:z.1.length = w + fss.length) (ha:z.1[j]? = some aj) (ker:dotF z.1 (yJ fss w j) = 0) :
    (prF ((rep z).drop w) (colF fss j) (0,1)).1 * z.2 = (prF ((rep z).drop w) (colF fss j) (0,1)).2 * aj:=by
  have cq:=col_fq hw hq hj
  have L0:=lvB_pos cq
  have tl:(z.1.take w).length = w:=by rw [List.length_take,zl]; omega
  rw [← List.take_append_drop w z.1,dot_app,tl] at ker
  have d1:dotF (z.1.take w) (yJ fss w j) = aj * (lvB (colF fss j):Nat):=by
    have e:(z.1.take w)[j]? = some aj:=by rw [List.getElem?_take_of_lt hj]; exact ha
    rw [dot_one e fun i u ne hu=>?_,yJ_j]
    have:=(List.getElem?_eq_some_iff.mp hu).1
    rw [yJ_lt ne (by omega),Int.mul_zero]
  have d2:(dotF (z.1.drop w) fun i=>yJ fss w j (i + w)) = -dotF (z.1.drop w) fun i=>(lvT (colF fss j)).getD i 0:=by
    rw [← dot_neg]
    exact dot_congr fun i _=>yJ_ge hj
  rw [d1,d2] at ker
  have cl:(colF fss j).length = fss.length:=col_len
  have v:=prF_val (S:=z.2 * (lvB (colF fss j):Nat)) (as:=(rep z).drop w) (bs:=colF fss j) (us:=z.1.drop w) (y:=fun i=>(lvT (colF fss j)).getD i 0) (z:=(0,1)) (by rw [List.length_drop]; unfold rep; rw [List.length_map,zl,cl]; omega) (by rw [List.length_drop,List.length_drop]; unfold rep; rw [List.length_map]) (fun i a b u h1 h2 h3=>?_) (fun a h=>?_) fun b h=>(cq b h).pos
  · generalize prF ((rep z).drop w) (colF fss j) (0,1) = x at *
    generalize (dotF (z.1.drop w) fun i=>(lvT (colF fss j)).getD i 0) = dd at *
    have v:x.1 * 1 * (z.2 * (lvB (colF fss j):Nat)) = x.2 * (0 * (z.2 * (lvB (colF fss j):Nat)) + 1 * dd):=v
    rw [Int.mul_one,Int.zero_mul,Int.zero_add,Int.one_mul] at v
    have ed:dd = aj * (lvB (colF fss j):Nat):=by omega
    rw [ed] at v
    refine Int.eq_of_mul_eq_mul_right (a:=((lvB (colF fss j):Nat):Int)) (by omega) ?_
    calc x.1 * z.2 * (lvB (colF fss j):Nat) = x.1 * (z.2 * (lvB (colF fss j):Nat)):=by ac_rfl
      _ = x.2 * (aj * (lvB (colF fss j):Nat)):=v
      _ = x.2 * aj * (lvB (colF fss j):Nat):=by ac_rfl
  · have bq:=cq b (List.mem_of_getElem? h2)
    unfold rep at h1
    rw [← List.map_drop,List.getElem?_map,h3] at h1
    have h1:Ac.lw u z.2 = a:=Option.some.inj h1
    have e1:=Ac.lw_eq (t:=u) p
    rw [h1] at e1
    have e2:(lvT (colF fss j)).getD i 0 = b.1 * ((lvB (colF fss j):Nat) / b.2):=by
      unfold lvT
      rw [List.getD_eq_getElem?_getD,List.getElem?_map,h2]; rfl
    have e3:b.2 * (((lvB (colF fss j):Nat):Int) / b.2) = (lvB (colF fss j):Nat):=Int.mul_ediv_cancel' (dvd_lvB (List.mem_of_getElem? h2) bq)
    show u * (lvT (colF fss j)).getD i 0 * (a.2 * b.2) = _
    rw [e2]
    generalize (((lvB (colF fss j):Nat):Int) / b.2) = m at *
    calc u * (b.1 * m) * (a.2 * b.2) = (u * a.2) * b.1 * (b.2 * m):=by ac_rfl
      _ = a.1 * z.2 * b.1 * (lvB (colF fss j):Nat):=by rw [← e1,e3]
      _ = z.2 * (lvB (colF fss j):Nat) * (a.1 * b.1):=by ac_rfl
  · have h:=List.mem_of_mem_drop h
    unfold rep at h
    obtain ⟨t,_,rfl⟩:=List.mem_map.mp h
    exact Ac.lw_pos p
open Rw
theorem one_or (i j:Nat):oneF i j = (1,1)∨oneF i j = (0,1):=by unfold oneF; split <;> simp
theorem aug_ker {fss:List (List (Int × Int))} {w j:Nat} (hw:∀ fs ∈ fss,fs.length = w) (hq:∀ fs ∈ fss,∀ f ∈ fs,Fq f) (hj:j < w):KerR ((augF fss).map lvR) (yJ fss w j):=by
 intro i hi
 rw [List.length_map,augF_len] at hi
 have hm:=fAt_mem hi
 have er:rowAt ((augF fss).map lvR) i = lvR (fAt fss i ++ (List.range fss.length).map fun j=>oneF i j):=by
  unfold rowAt
  rw [List.getD_eq_getElem?_getD,List.getElem?_map,augF_at hi]; rfl
 have h1:∀ u ∈ (List.range fss.length).map fun j=>oneF i j,u.2 = 1:=fun u hu=>by
  obtain ⟨k,_,rfl⟩:=List.mem_map.mp hu
  exact one_fq i k
 rw [er,lvR_app h1]
 show dotF ((lvR (fAt fss i)).1 ++ _) _ = 0
 have wl:=hw _ hm
 have fl:(lvR (fAt fss i)).1.length = w:=by rw [lvR_len,wl]
 obtain ⟨f,hf⟩ : ∃ f,(fAt fss i)[j]? = some f:=⟨_,List.getElem?_eq_getElem (by rw [wl]; exact hj)⟩
 have fq:=hq _ hm f (List.mem_of_getElem? hf)
 have et:(lvR (fAt fss i)).1[j]? = some (f.1 * ((lvB (fAt fss i):Nat) / f.2)):=by
  show (lvT (fAt fss i))[j]? = _
  unfold lvT
  rw [List.getElem?_map,hf]; rfl
 have d1:dotF (lvR (fAt fss i)).1 (yJ fss w j) = f.1 * ((lvB (fAt fss i):Nat) / f.2) * (lvB (colF fss j):Nat):=by
  rw [dot_one et fun k u ne hu=>?_,yJ_j]
  have:=(List.getElem?_eq_some_iff.mp hu).1
  rw [yJ_lt ne (by omega),Int.mul_zero]
 have ec:(colF fss j)[i]? = some f:=by
  unfold colF
  rw [List.getElem?_map,List.getElem?_eq_getElem hi]
  show some (fss[i].getD j (0,1)) = _
  have:fAt fss i = fss[i]:=by unfold fAt; rw [List.getD_eq_getElem?_getD,List.getElem?_eq_getElem hi]; rfl
  rw [← this,List.getD_eq_getElem?_getD,hf]; rfl
 have eu:(((List.range fss.length).map fun j=>oneF i j).map fun u=>u.1 * ((lvB (fAt fss i):Nat):Int))[i]? = some ((lvB (fAt fss i):Nat):Int):=by
  rw [List.getElem?_map,List.getElem?_map,List.getElem?_range hi]
  show some ((oneF i i).1 * _) = _
  unfold oneF
  rw [if_pos rfl,Int.one_mul]
 have d2:(dotF (((List.range fss.length).map fun j=>oneF i j).map fun u=>u.1 * ((lvB (fAt fss i):Nat):Int)) fun k=>yJ fss w j (k + w)) = (lvB (fAt fss i):Nat) * -(f.1 * ((lvB (colF fss j):Nat) / f.2)):=by
  rw [dot_one eu fun k u ne hu=>?_,yJ_ge hj]
  ·congr 2
   unfold lvT
   rw [List.getD_eq_getElem?_getD,List.getElem?_map,ec]; rfl
  ·have hk:=(List.getElem?_eq_some_iff.mp hu).1
   rw [List.length_map,List.length_map,List.length_range] at hk
   rw [List.getElem?_map,List.getElem?_map,List.getElem?_range hk] at hu
   have hu:(oneF i k).1 * ((lvB (fAt fss i):Nat):Int) = u:=Option.some.inj hu
   unfold oneF at hu
   rw [if_neg ne,Int.zero_mul] at hu
   rw [← hu,Int.zero_mul]
 rw [dot_app,fl,d1,d2]
 have e1:f.2 * (((lvB (fAt fss i):Nat):Int) / f.2) = (lvB (fAt fss i):Nat):=Int.mul_ediv_cancel' (dvd_lvB (List.mem_of_getElem? hf) fq)
 have e2:f.2 * (((lvB (colF fss j):Nat):Int) / f.2) = (lvB (colF fss j):Nat):=Int.mul_ediv_cancel' (dvd_lvB (List.mem_of_getElem? ec) fq)
 generalize ((lvB (fAt fss i):Nat):Int) / f.2 = a at *
 generalize ((lvB (colF fss j):Nat):Int) / f.2 = b at *
 rw [← e1,← e2,Int.mul_neg]
 have:f.1 * a * (f.2 * b) = f.2 * a * (f.1 * b):=by ac_rfl
 omega
theorem unit_low {m:Nat} : ∀ r ∈ (unitF m).map lvR,0 < r.2∧gcL r.1 r.2 = 1:=fun r hr=>by
 obtain ⟨us,hu,rfl⟩:=List.mem_map.mp hr
 unfold unitF at hu
 obtain ⟨i,_,rfl⟩:=List.mem_map.mp hu
 have h1:∀ u ∈ (List.range m).map fun j=>oneF i j,u.2 = 1:=fun u hu=>by
  obtain ⟨k,_,rfl⟩:=List.mem_map.mp hu
  exact one_fq i k
 have e:(lvR ((List.range m).map fun j=>oneF i j)).2 = 1:=by
  have:=lvR_app (fs:=[]) h1
  rw [List.nil_append] at this
  rw [this]; rfl
 rw [e]
 have d:=(gcL_dvd (ts:=(lvR ((List.range m).map fun j=>oneF i j)).1) (b:=1)).1
 have p:=gcL_pos (ts:=(lvR ((List.range m).map fun j=>oneF i j)).1) (b:=1) (by decide)
 have:=Int.le_of_dvd (by decide) d
 exact ⟨by decide,by omega⟩
theorem fq_one (i j:Nat):Fq (oneF i j):=by
 rcases one_or i j with e | e <;> rw [e] <;> exact ⟨by decide,by decide,by decide +kernel,by decide +kernel⟩
open Rw
theorem TK.mono {w w':Nat} {rs zs:List Row} (h:TK w rs zs) (hw:w' ≤ w):TK w' rs zs:=by
 have f:∀ l:List (List (Int × Int)),(l.map (List.take w)).map (List.take w') = l.map (List.take w'):=fun l=>by
  rw [List.map_map]
  refine List.map_congr_left fun x _=>?_
  show (x.take w).take w' = _
  rw [List.take_take,Nat.min_eq_left hw]
 have e:=congrArg (List.map (List.take w')) h
 rw [f,f] at e
 exact e
theorem unit_fq {m:Nat} : ∀ us ∈ unitF m,us.length = m∧∀ u ∈ us,Fq u:=fun us hu=>by
 unfold unitF at hu
 obtain ⟨i,_,rfl⟩:=List.mem_map.mp hu
 refine ⟨by rw [List.length_map,List.length_range],fun u hu=>?_⟩
 obtain ⟨k,_,rfl⟩:=List.mem_map.mp hu
 exact fq_one i k
theorem unit_len {m:Nat} : (unitF m).length = m:=by unfold unitF; rw [List.length_map,List.length_range]
theorem rep_all {fss:List (List (Int × Int))} (hq:∀ fs ∈ fss,∀ f ∈ fs,Fq f):(fss.map lvR).map rep = fss:=by
  rw [List.map_map]
  calc _ = fss.map id:=List.map_congr_left fun fs h=>lvR_rep (hq fs h)
    _ = fss:=List.map_id fss
theorem aug_fq {fss:List (List (Int × Int))} (hq:∀ fs ∈ fss,∀ f ∈ fs,Fq f):∀ gs ∈ augF fss,∀ f ∈ gs,Fq f:=fun gs hg f hf=>by
 obtain ⟨i,hi,rfl⟩:=List.mem_iff_getElem.mp hg
 have h:i < fss.length:=by rw [augF_len] at hi; exact hi
 have e:=augF_at h
 rw [List.getElem?_eq_getElem hi] at e
 rw [Option.some.inj e] at hf
 rcases List.mem_append.mp hf with y | y
 ·exact hq _ (fAt_mem h) f y
 ·obtain ⟨k,_,rfl⟩:=List.mem_map.mp y
  exact fq_one i k
theorem aug_take {fss:List (List (Int × Int))} {w:Nat} (hw:∀ fs ∈ fss,fs.length = w):(augF fss).map (List.take w) = fss.map (List.take w):=by
 refine List.ext_getElem? fun i=>?_
 by_cases h:i < fss.length
 ·rw [List.getElem?_map,List.getElem?_map,augF_at h,List.getElem?_eq_getElem h]
  have e:fAt fss i = fss[i]:=by unfold fAt; rw [List.getD_eq_getElem?_getD,List.getElem?_eq_getElem h]; rfl
  show some ((fAt fss i ++ _).take w) = some (fss[i].take w)
  rw [e,List.take_append_of_le_length (by rw [hw _ (List.getElem_mem h)]; exact Nat.le_refl _)]
 ·rw [List.getElem?_eq_none (by rw [List.length_map,augF_len]; omega),List.getElem?_eq_none (by rw [List.length_map]; omega)]
theorem aug_drop {fss:List (List (Int × Int))} {w:Nat} (hw:∀ fs ∈ fss,fs.length = w):(augF fss).map (List.drop w) = unitF fss.length:=by
 refine List.ext_getElem? fun i=>?_
 by_cases h:i < fss.length
 ·rw [List.getElem?_map,augF_at h]
  unfold unitF
  rw [List.getElem?_map,List.getElem?_range h]
  show some ((fAt fss i ++ _).drop w) = some _
  rw [List.drop_left' (hw _ (fAt_mem h))]
 ·rw [List.getElem?_eq_none (by rw [List.length_map,augF_len]; omega),List.getElem?_eq_none (by rw [unit_len]; omega)]
theorem aug_all17 {fss:List (List (Int × Int))} {w wide N j:Nat} {ss:List Stp} (hw:∀ fs ∈ fss,fs.length = w) (hq:∀ fs ∈ fss,∀ f ∈ fs,Fq f) (hb:∀ fs ∈ fss,Big N (lvR fs)) (h1:1 ≤ N) (hwi:wide ≤ w) (ph:Ph17 (fss.map lvR) wide j ss) (all:AllB NN w (fss.map lvR) ss) (ok:∀ s ∈ ss,StpN fss.length s) (hg:MB fss.length N ≤ NN):AllB NN (w + fss.length) ((augF fss).map lvR) ss:=by
 have lz:((augF fss).map lvR).length = fss.length:=by rw [List.length_map,augF_len]
 have lr:(fss.map lvR).length = fss.length:=List.length_map _
 have bz:∀ z ∈ (augF fss).map lvR,Big N z∧z.1.length = w + fss.length:=fun z hz=>by
  obtain ⟨gs,hg,rfl⟩:=List.mem_map.mp hz
  obtain ⟨i,hi,rfl⟩:=List.mem_iff_getElem.mp hg
  have h:i < fss.length:=by rw [augF_len] at hi; exact hi
  have e:=augF_at h
  rw [List.getElem?_eq_getElem hi] at e
  rw [Option.some.inj e]
  refine ⟨aug_big (fun u hu=>?_) (hb _ (fAt_mem h)),by rw [lvR_len,List.length_append,hw _ (fAt_mem h),List.length_map,List.length_range]⟩
  obtain ⟨k,_,rfl⟩:=List.mem_map.mp hu
  exact one_or i k
 have tk:TK w (fss.map lvR) ((augF fss).map lvR):=by
  unfold TK
  rw [rep_all hq,rep_all (aug_fq hq),aug_take hw]
 have ok1:∀ s ∈ ss,StpN (fss.map lvR).length s:=fun s hs=>by rw [lr]; exact ok s hs
 have ok2:∀ s ∈ ss,StpN ((augF fss).map lvR).length s:=fun s hs=>by rw [lz]; exact ok s hs
 exact (ph17_aug hwi (by omega) (by rw [lz,lr]) (tk.mono hwi) bz h1 ph all ok1).2.le (by rw [lz]; exact hg)
theorem unit_from {fss:List (List (Int × Int))} {w:Nat} {ss:List Stp} (hw:∀ fs ∈ fss,fs.length = w) (hq:∀ fs ∈ fss,∀ f ∈ fs,Fq f) (all:AllB NN w (fss.map lvR) ss) (ok:∀ s ∈ ss,StpN fss.length s) (ab:AllB NN (w + fss.length) ((augF fss).map lvR) ss) :
    AllB NN fss.length ((unitF fss.length).map lvR) ss∧∀ i,i < fss.length→∀ c,c < w →
      (prF (rep (rowAt (runR ((unitF fss.length).map lvR) ss) i)) (colF fss c) (0,1)).1 * (rowAt (runR (fss.map lvR) ss) i).2 = (prF (rep (rowAt (runR ((unitF fss.length).map lvR) ss) i)) (colF fss c) (0,1)).2 * (rowAt (runR (fss.map lvR) ss) i).1.getD c 0:=by
  have lz:((augF fss).map lvR).length = fss.length:=by rw [List.length_map,augF_len]
  have lr:(fss.map lvR).length = fss.length:=List.length_map _
  have tk:TK w (fss.map lvR) ((augF fss).map lvR):=by
    unfold TK
    rw [rep_all hq,rep_all (aug_fq hq),aug_take hw]
  have ok1:∀ s ∈ ss,StpN (fss.map lvR).length s:=fun s hs=>by rw [lr]; exact ok s hs
  have ok2:∀ s ∈ ss,StpN ((augF fss).map lvR).length s:=fun s hs=>by rw [lz]; exact ok s hs
  have hd:(((augF fss).map lvR).map rep).map (List.drop w) = ((unitF fss.length).map lvR).map rep:=by
    rw [rep_all (aug_fq hq),aug_drop hw,rep_all fun us hu=>(unit_fq us hu).2]
  have au:=drop_all unit_low hd ab ok2
  rw [Nat.add_sub_cancel_left] at au
  refine ⟨au,fun i hi c hc=>?_⟩
  have okU:∀ s ∈ ss,StpN ((unitF fss.length).map lvR).length s:=fun s hs=>by rw [List.length_map,unit_len]; exact ok s hs
  have e:=(run_posL unit_low okU).2
  rw [← hd,← runF_drop,← run_rep ab ok2] at e
  have iU:i < (runR ((unitF fss.length).map lvR) ss).length:=by rw [run_length,List.length_map,unit_len]; exact hi
  have iZ:i < (runR ((augF fss).map lvR) ss).length:=by rw [run_length,lz]; exact hi
  have iR:i < (runR (fss.map lvR) ss).length:=by rw [run_length,lr]; exact hi
  have er:∀ {xs:List Row},i < xs.length→xs[i]? = some (rowAt xs i):=fun {xs} hx=>by unfold rowAt; rw [List.getD_eq_getElem?_getD,List.getElem?_eq_getElem hx]; rfl
  have e:=congrArg (fun l:List (List (Int × Int))=>l[i]?) e
  simp only [List.getElem?_map,er iZ,er iU,Option.map_some] at e
  have e:rep (rowAt (runR ((unitF fss.length).map lvR) ss) i) = (rep (rowAt (runR ((augF fss).map lvR) ss) i)).drop w:=Option.some.inj e
  have zb:=ab.end_ _ (rowAt_in iZ)
  have rb:=all.end_ _ (rowAt_in iR)
  obtain ⟨az,haz⟩:=get_in zb.2 (show c < w + fss.length by omega)
  have har:(rowAt (runR (fss.map lvR) ss) i).1[c]? = some ((rowAt (runR (fss.map lvR) ss) i).1.getD c 0):=by rw [List.getD_eq_getElem?_getD,List.getElem?_eq_getElem (by rw [rb.2]; exact hc)]; rfl
  have cr:=(tk_run all ab (by rw [lz,lr]) ok1 tk).at_ iR iZ hc rb.1.pos zb.1.pos har haz
  have k0:=ker_run ab ok2 (aug_ker hw hq hc) i iZ
  have m:=aug_row hw hq hc zb.1.pos zb.2 haz k0
  rw [e]
  generalize prF ((rep (rowAt (runR ((augF fss).map lvR) ss) i)).drop w) (colF fss c) (0,1) = x at *
  generalize rowAt (runR ((augF fss).map lvR) ss) i = z at *
  generalize rowAt (runR (fss.map lvR) ss) i = r at *
  refine Int.eq_of_mul_eq_mul_right (Int.ne_of_gt zb.1.pos) ?_
  calc x.1 * r.2 * z.2 = (x.1 * z.2) * r.2:=by ac_rfl
    _ = x.2 * az * r.2:=by rw [m]
    _ = x.2 * (az * r.2):=by ac_rfl
    _ = x.2 * (r.1.getD c 0 * z.2):=by rw [cr]
    _ = x.2 * r.1.getD c 0 * z.2:=by ac_rfl
open Rw
def gY (piv:Nat→Nat) (g d:Nat→Int):Nat→Nat→Int
 | 0,c=>d c
 | k + 1,c=>if c = piv k then g k else gY piv g d k c
theorem gY_else {piv:Nat→Nat} {g d:Nat→Int} {c:Nat} : ∀ {p:Nat},(∀ i,i < p→piv i ≠ c)→gY piv g d p c = d c
 | 0,_=>rfl
 | p + 1,h=>by
  show (if c = piv p then g p else gY piv g d p c) = d c
  rw [if_neg (fun z=>h p (by omega) z.symm),gY_else fun i hi=>h i (by omega)]
theorem gY_at {piv:Nat→Nat} {g d:Nat→Int} {i:Nat} : ∀ {p:Nat},i < p→(∀ a b,a < b→b < p→piv a < piv b)→gY piv g d p (piv i) = g i
 | 0,h,_=>absurd h (by omega)
 | p + 1,h,o=>by
  show (if piv i = piv p then g p else gY piv g d p (piv i)) = g i
  by_cases e:i = p
  ·rw [e,if_pos rfl]
  ·have:=o i p (by omega) (by omega)
   rw [if_neg (by omega),gY_at (by omega) fun a b x y=>o a b x (by omega)]
theorem piv_or {piv:Nat→Nat} {p c:Nat} : (∃ i,i < p∧piv i = c)∨∀ i,i < p→piv i ≠ c:=by
 induction p with
 | zero=>exact .inr fun i h=>absurd h (by omega)
 | succ p ih =>
  rcases ih with ⟨i,hi,e⟩ | h
  ·exact .inl ⟨i,by omega,e⟩
  ·by_cases e:piv p = c
   ·exact .inl ⟨p,by omega,e⟩
   ·refine .inr fun i hi=>?_
    by_cases z:i = p
    ·rw [z]; exact e
    ·exact h i (by omega)
def ansY (rs:List Row) (piv:Nat→Nat) (p q:Nat) (s:Int):Nat→Int:=gY piv (fun i=>s * (rowAt rs i).1.getD q 0 * (prodB (fun i=>(rowAt rs i).2) p / (rowAt rs i).2)) (fun c=>if c = q then -s * prodB (fun i=>(rowAt rs i).2) p else 0) p
theorem ans_ker {rs:List Row} {n p q:Nat} {piv:Nat→Nat} {s:Int} (fm:Form rs p n piv) (hl:∀ r ∈ rs,0 < r.2∧r.1.length = n + 1) (hp:p ≤ rs.length) (hq:q ≤ n) (nq:∀ i,i < p→piv i ≠ q) (hz:∀ i,p ≤ i→i < rs.length→(rowAt rs i).1.getD q 0 = 0):KerR rs (ansY rs piv p q s):=by
 intro i hi
 have li:=(hl _ (rowAt_in hi)).2
 have tq:(rowAt rs i).1[q]? = some ((rowAt rs i).1.getD q 0):=by rw [List.getD_eq_getElem?_getD,List.getElem?_eq_getElem (by omega)]; rfl
 have yq:ansY rs piv p q s q = -s * prodB (fun i=>(rowAt rs i).2) p:=by
  unfold ansY
  rw [gY_else nq,if_pos rfl]
 by_cases ip:i < p
 ·obtain ⟨b1,b2,b3,b4⟩:=fm.head i ip
  have yp:ansY rs piv p q s (piv i) = s * (rowAt rs i).1.getD q 0 * (prodB (fun i=>(rowAt rs i).2) p / (rowAt rs i).2):=gY_at ip fm.ord
  rw [dot_two (nq i ip) b3 tq fun j u h1 h2 hu=>?_,yp,yq]
  ·have d:(rowAt rs i).2 * (prodB (fun i=>(rowAt rs i).2) p / (rowAt rs i).2) = prodB (fun i=>(rowAt rs i).2) p:=Int.mul_ediv_cancel' (prodB_dvd (b:=fun i=>(rowAt rs i).2) ip)
   generalize prodB (fun i=>(rowAt rs i).2) p / (rowAt rs i).2 = m at *
   rw [← d]
   generalize (rowAt rs i).1.getD q 0 = t
   have:(rowAt rs i).2 * (s * t * m) = t * (s * ((rowAt rs i).2 * m)):=by ac_rfl
   rw [this,Int.neg_mul,Int.mul_neg]
   omega
  ·rcases piv_or (piv:=piv) (p:=p) (c:=j) with ⟨k,hk,e⟩ | h
   ·have:=(fm.head k hk).2.2.2 i hi (fun z=>h1 (by rw [z,e]))
    rw [e,hu] at this
    rw [Option.some.inj this,Int.zero_mul]
   ·unfold ansY
    rw [gY_else h,if_neg h2,Int.mul_zero]
 ·refine dot_zero fun j u hu=>?_
  have jl:=(List.getElem?_eq_some_iff.mp hu).1
  by_cases jn:j < n
  ·have:=fm.rest i (by omega) hi j jn
   rw [hu] at this
   rw [Option.some.inj this,Int.zero_mul]
  ·have ej:j = n:=by omega
   by_cases e:q = n
   ·have:=hz i (by omega) hi
    rw [List.getD_eq_getElem?_getD,e,← ej,hu] at this
    have this:u = 0:=this
    rw [this,Int.zero_mul]
   ·unfold ansY
    rw [gY_else fun k hk z=>?_,if_neg (by omega),Int.mul_zero]
    have:=(fm.head k hk).1
    omega
theorem ans_frac {rs:List Row} {n p q c:Nat} {piv:Nat→Nat} {s:Int} {fs:List (Int × Int)} {f:Int × Int} (fm:Form rs p n piv) (hl:∀ r ∈ rs,0 < r.2) (hp:p ≤ rs.length) (hc:c < n) (fl:fs.length = n) (h0:fs[c]? = some (if c = q then (-s,1) else (0,1)))
    (hf:(putF fs piv (fun i=>Ac.lw (s * (rowAt rs i).1.getD q 0) (rowAt rs i).2) p)[c]? = some f):ansY rs piv p q s c * f.2 = f.1 * prodB (fun i=>(rowAt rs i).2) p:=by
  rcases piv_or (piv:=piv) (p:=p) (c:=c) with ⟨i,hi,rfl⟩ | h
  · rw [putF_at hi fm.ord (by rw [fl]; exact (fm.head i hi).1)] at hf
    have e:Ac.lw (s * (rowAt rs i).1.getD q 0) (rowAt rs i).2 = f:=Option.some.inj hf
    have b0:=hl _ (rowAt_in (show i < rs.length by omega))
    have le:=Ac.lw_eq (t:=s * (rowAt rs i).1.getD q 0) b0
    rw [e] at le
    have d:(rowAt rs i).2 * (prodB (fun i=>(rowAt rs i).2) p / (rowAt rs i).2) = prodB (fun i=>(rowAt rs i).2) p:=Int.mul_ediv_cancel' (prodB_dvd (b:=fun i=>(rowAt rs i).2) hi)
    have yp:ansY rs piv p q s (piv i) = s * (rowAt rs i).1.getD q 0 * (prodB (fun i=>(rowAt rs i).2) p / (rowAt rs i).2):=gY_at hi fm.ord
    rw [yp]
    generalize prodB (fun i=>(rowAt rs i).2) p / (rowAt rs i).2 = m at *
    rw [← d]
    calc s * (rowAt rs i).1.getD q 0 * m * f.2 = (s * (rowAt rs i).1.getD q 0 * f.2) * m:=by ac_rfl
      _ = f.1 * (rowAt rs i).2 * m:=by rw [le]
      _ = f.1 * ((rowAt rs i).2 * m):=by ac_rfl
  · rw [putF_else h,h0] at hf
    have e:=Option.some.inj hf
    unfold ansY
    rw [gY_else h]
    split at e
    · rename_i z
      rw [if_pos z,← e,Int.mul_one]
    · rename_i z
      rw [if_neg z,← e,Int.zero_mul,Int.zero_mul]
open Rw
theorem row_pr {fs as:List (Int × Int)} {r:Int × Int} {y:Nat→Int} {B:Int} (hq:∀ f ∈ fs ++ [r],Fq f) (hl:as.length = fs.length) (ha:∀ a ∈ as,0 < a.2) (h:∀ (c:Nat) a,as[c]? = some a→y c * a.2 = a.1 * B) (ker:dotF (lvR (fs ++ [r])).1 y = 0) :
    (prF fs as (0,1)).1 * r.2 * B = -(y fs.length) * r.1 * (prF fs as (0,1)).2:=by
  have b0:=lvB_pos hq
  have er:(lvR (fs ++ [r])).1 = (fs.map fun f=>f.1 * (((lvB (fs ++ [r]):Nat):Int) / f.2)) ++ [r.1 * (((lvB (fs ++ [r]):Nat):Int) / r.2)]:=by
    show lvT (fs ++ [r]) = _
    unfold lvT
    rw [List.map_append]; rfl
  rw [er,dot_app,List.length_map] at ker
  have d1:(dotF [r.1 * (((lvB (fs ++ [r]):Nat):Int) / r.2)] fun i=>y (i + fs.length)) = r.1 * (((lvB (fs ++ [r]):Nat):Int) / r.2) * y fs.length:=by
    show r.1 * (((lvB (fs ++ [r]):Nat):Int) / r.2) * y (0 + fs.length) + 0 = _
    rw [Nat.zero_add,Int.add_zero]
  rw [d1] at ker
  have rq:=hq r (List.mem_append_right _ List.mem_cons_self)
  have dr:r.2 * (((lvB (fs ++ [r]):Nat):Int) / r.2) = (lvB (fs ++ [r]):Nat):=Int.mul_ediv_cancel' (dvd_lvB (List.mem_append_right _ List.mem_cons_self) rq)
  have df:∀ f ∈ fs,f.2 * (((lvB (fs ++ [r]):Nat):Int) / f.2) = (lvB (fs ++ [r]):Nat):=fun f hf=>Int.mul_ediv_cancel' (dvd_lvB (List.mem_append_left _ hf) (hq f (List.mem_append_left _ hf)))
  have b1:0 < ((lvB (fs ++ [r]):Nat):Int):=by omega
  generalize ((lvB (fs ++ [r]):Nat):Int) = b at *
  have v:=prF_val (S:=b * B) (as:=fs) (bs:=as) (us:=fs.map fun f=>f.1 * (b / f.2)) (y:=y) (z:=(0,1)) hl.symm (by rw [List.length_map]) (fun c f a u h1 h2 h3=>?_) (fun f hf=>(hq f (List.mem_append_left _ hf)).pos) ha
  · generalize prF fs as (0,1) = x at *
    generalize dotF (fs.map fun f=>f.1 * (b / f.2)) y = dd at *
    have v:x.1 * 1 * (b * B) = x.2 * (0 * (b * B) + 1 * dd):=v
    rw [Int.mul_one,Int.zero_mul,Int.zero_add,Int.one_mul] at v
    generalize b / r.2 = m at *
    have ed:dd = -(r.1 * m * y fs.length):=by omega
    rw [ed] at v
    refine Int.eq_of_mul_eq_mul_right (a:=b) (Int.ne_of_gt b1) ?_
    calc x.1 * r.2 * B * b = x.1 * (b * B) * r.2:=by ac_rfl
      _ = x.2 * -(r.1 * m * y fs.length) * r.2:=by rw [v]
      _ = -(y fs.length) * r.1 * x.2 * (r.2 * m):=by rw [Int.mul_neg,Int.neg_mul,Int.neg_mul,Int.neg_mul,Int.neg_mul]; congr 1; ac_rfl
      _ = -(y fs.length) * r.1 * x.2 * b:=by rw [dr]
  · have fm:=List.mem_of_getElem? h1
    rw [List.getElem?_map,h1] at h3
    have h3:f.1 * (b / f.2) = u:=Option.some.inj h3
    have e1:=df f fm
    have e2:=h c a h2
    rw [← h3]
    generalize b / f.2 = m at *
    calc f.1 * m * y c * (f.2 * a.2) = f.1 * (f.2 * m) * (y c * a.2):=by ac_rfl
      _ = f.1 * b * (a.1 * B):=by rw [e1,e2]
      _ = b * B * (f.1 * a.1):=by ac_rfl
open Rw
def withR (fss:List (List (Int × Int))) (rts:List (Int × Int)):List (List (Int × Int)):=List.zipWith (fun fs r=>fs ++ [r]) fss rts
theorem with_at {fss:List (List (Int × Int))} {rts:List (Int × Int)} {i:Nat} {fs:List (Int × Int)} {r:Int × Int} (h1:fss[i]? = some fs) (h2:rts[i]? = some r):(withR fss rts)[i]? = some (fs ++ [r]):=by
 unfold withR
 rw [List.getElem?_zipWith,h1,h2]
structure Done16 (fss:List (List (Int × Int))) (rts:List (Int × Int)) (n:Nat) (new:List Stp) (rs:List Row) (p:Nat) (piv:Nat→Nat):Prop where
 er:rs = runR ((withR fss rts).map lvR) new
 wd:∀ fs ∈ fss,fs.length = n
 len:rts.length = fss.length
 fq:∀ gs ∈ withR fss rts,∀ f ∈ gs,Fq f
 all:AllB NN (n + 1) ((withR fss rts).map lvR) new
 good:∀ s ∈ new,StpG fss.length s
 form:Form rs p n piv
 pl:p ≤ rs.length
theorem with_len {fss:List (List (Int × Int))} {rts:List (Int × Int)} (h:rts.length = fss.length):(withR fss rts).length = fss.length:=by unfold withR; rw [List.length_zipWith,h,Nat.min_self]
theorem Done16.big {fss:List (List (Int × Int))} {rts:List (Int × Int)} {n p:Nat} {new:List Stp} {rs:List Row} {piv:Nat→Nat} (d:Done16 fss rts n new rs p piv):∀ r ∈ rs,Big NN r∧r.1.length = n + 1:=by rw [d.er]; exact d.all.end_
theorem Done16.rows {fss:List (List (Int × Int))} {rts:List (Int × Int)} {n p:Nat} {new:List Stp} {rs:List Row} {piv:Nat→Nat} (d:Done16 fss rts n new rs p piv):rs.length = fss.length:=by rw [d.er,run_length,List.length_map,with_len d.len]
theorem Done16.ker {fss:List (List (Int × Int))} {rts:List (Int × Int)} {n p q:Nat} {new:List Stp} {rs:List Row} {piv:Nat→Nat} {s:Int} (d:Done16 fss rts n new rs p piv) (hq:q ≤ n) (nq:∀ i,i < p→piv i ≠ q) (hz:∀ i,p ≤ i→i < rs.length→(rowAt rs i).1.getD q 0 = 0) {as:List (Int × Int)} (al:as.length = n) (ap:∀ a ∈ as,0 < a.2) (ha:∀ (c:Nat) a,as[c]? = some a→ansY rs piv p q s c * a.2 = a.1 * prodB (fun i=>(rowAt rs i).2) p) {i:Nat} {fs:List (Int × Int)} {r:Int × Int} (h1:fss[i]? = some fs) (h2:rts[i]? = some r) :
  (prF fs as (0,1)).1 * r.2 * prodB (fun i=>(rowAt rs i).2) p = -(ansY rs piv p q s n) * r.1 * (prF fs as (0,1)).2:=by
 have bs:∀ r ∈ rs,0 < r.2∧r.1.length = n + 1:=fun r hr=>⟨(d.big r hr).1.pos,(d.big r hr).2⟩
 have k0:=ans_ker (s:=s) d.form bs d.pl hq nq hz
 have k1:KerR ((withR fss rts).map lvR) (ansY rs piv p q s):=run_ker d.all (fun s hs=>by rw [List.length_map,with_len d.len]; exact d.good s hs) (by rw [← d.er]; exact k0)
 have hi:i < fss.length:=(List.getElem?_eq_some_iff.mp h1).1
 have eg:=with_at h1 h2
 have k2:=k1 i (by rw [List.length_map,with_len d.len]; exact hi)
 have er:rowAt ((withR fss rts).map lvR) i = lvR (fs ++ [r]):=by
  unfold rowAt
  rw [List.getD_eq_getElem?_getD,List.getElem?_map,eg]; rfl
 rw [er] at k2
 have fl:=d.wd fs (List.mem_of_getElem? h1)
 have:=row_pr (d.fq _ (List.mem_of_getElem? eg)) (by rw [al,fl]) ap ha k2
 rw [fl] at this
 exact this
theorem lo_lw {t b:Int} (hb:0 < b) (ht:t.natAbs ≤ NN) (h:b.natAbs ≤ NN):Lo (Ac.lw t b):=⟨Ac.lw_pos hb,Ac.lw_gcd hb,Nat.le_trans (Ac.lw_b1 _ _) ht,Nat.le_trans (Ac.lw_b2 _ _) h⟩
theorem lo_01:Lo (0,1):=⟨by decide,by decide,Nat.zero_le _,nn1⟩
theorem lo_11:Lo (1,1):=⟨by decide,by decide,nn1,nn1⟩
theorem putF_lo {fs:List (Int × Int)} {piv:Nat→Nat} {val:Nat→Int × Int} (h:∀ f ∈ fs,Lo f):∀ {k:Nat},(∀ i,i < k→Lo (val i))→∀ f ∈ putF fs piv val k,Lo f
 | 0,_=>h
 | k + 1,hv=>fun f hf=>by
  have hf:f ∈ (putF fs piv val k).set (piv k) (val k):=hf
  rcases List.mem_or_eq_of_mem_set hf with y | y
  ·exact putF_lo h (fun i hi=>hv i (by omega)) f y
  ·rw [y]; exact hv k (by omega)
theorem top_nn {r:Row} {q:Nat} (h:Big NN r):(r.1.getD q 0).natAbs ≤ NN:=by
 rw [List.getD_eq_getElem?_getD]
 cases e:r.1[q]? with
 | none=>exact Nat.zero_le _
 | some t=>exact h.top t (List.mem_of_getElem? e)
theorem rows_p {fss:List (List (Int × Int))} {rts:List (Int × Int)} {n p:Nat} {new:List Stp} {rs:List Row} {piv:Nat→Nat} (d:Done16 fss rts n new rs p piv) (hz:∀ i,p ≤ i→i < rs.length→(rowAt rs i).1.getD n 0 = 0):RowsP fss rts n (putF (List.replicate n (0,1)) piv (numF rs n) p):=by
 have hp:=d.pl
 have lo:∀ f ∈ putF (List.replicate n (0,1)) piv (numF rs n) p,Lo f:=putF_lo (fun f hf=>by rw [List.eq_of_mem_replicate hf]; exact lo_01) fun i hi=>by
  have b:=d.big _ (rowAt_in (show i < rs.length by omega))
  exact lo_lw b.1.pos (top_nn b.1) b.1.bot
 have al:(putF (List.replicate n (0,1)) piv (numF rs n) p).length = n:=by rw [putF_len,List.length_replicate]
 have nq:∀ i,i < p→piv i ≠ n:=fun i hi=>by have:=(d.form.head i hi).1; omega
 refine ⟨al,lo,fun i fs r h1 h2=>?_⟩
 have ev:numF rs n = fun i=>Ac.lw (1 * (rowAt rs i).1.getD n 0) (rowAt rs i).2:=funext fun i=>by rw [Int.one_mul]; rfl
 have k:=d.ker (s:=1) (Nat.le_refl n) nq hz al (fun a ha=>(lo a ha).pos) (fun c a hc=>?_) h1 h2
 ·have B0:0 < prodB (fun i=>(rowAt rs i).2) p:=prodB_pos fun i hi=>(d.big _ (rowAt_in (show i < rs.length by omega))).1.pos
  have yn:ansY rs piv p n 1 n = -1 * prodB (fun i=>(rowAt rs i).2) p:=by
   unfold ansY
   rw [gY_else nq,if_pos rfl]
  rw [yn] at k
  generalize prF fs (putF (List.replicate n (0,1)) piv (numF rs n) p) (0,1) = x at *
  generalize prodB (fun i=>(rowAt rs i).2) p = B at *
  refine Int.eq_of_mul_eq_mul_right (Int.ne_of_gt B0) ?_
  have e : -(-1 * B) = B:=by omega
  rw [k,e]
  ac_rfl
 ·have cn:c < n:=by rw [← al]; exact (List.getElem?_eq_some_iff.mp hc).1
  rw [ev] at hc
  exact ans_frac d.form (fun r hr=>(d.big r hr).1.pos) hp cn (List.length_replicate ..) (by rw [if_neg (by omega),List.getElem?_replicate,if_pos cn]) hc
theorem many_p {fss:List (List (Int × Int))} {rts:List (Int × Int)} {n p fr:Nat} {new:List Stp} {rs:List Row} {piv:Nat→Nat} (d:Done16 fss rts n new rs p piv) (hz:∀ i,p ≤ i→i < rs.length→(rowAt rs i).1.getD n 0 = 0) (hf:fr < n) (nf:∀ i,i < p→piv i ≠ fr) :
  ManyP fss rts n (putF (List.replicate n (0,1)) piv (numF rs n) p) (putF ((List.replicate n (0,1)).set fr (1,1)) piv (negF rs fr) p):=by
 have hp:=d.pl
 have lo:∀ f ∈ putF ((List.replicate n (0,1)).set fr (1,1)) piv (negF rs fr) p,Lo f:=putF_lo (fun f hf=>by
  rcases List.mem_or_eq_of_mem_set hf with y | y
  ·rw [List.eq_of_mem_replicate y]; exact lo_01
  ·rw [y]; exact lo_11) fun i hi=>by
  have b:=d.big _ (rowAt_in (show i < rs.length by omega))
  exact lo_lw b.1.pos (by rw [Int.natAbs_neg]; exact top_nn b.1) b.1.bot
 have al:(putF ((List.replicate n (0,1)).set fr (1,1)) piv (negF rs fr) p).length = n:=by rw [putF_len,List.length_set,List.length_replicate]
 have ev:negF rs fr = fun i=>Ac.lw (-1 * (rowAt rs i).1.getD fr 0) (rowAt rs i).2:=funext fun i=>by rw [Int.neg_mul,Int.one_mul]; rfl
 refine ⟨rows_p d hz,al,lo,⟨(1,1),?_,by decide⟩,fun fs hm=>?_⟩
 ·refine List.mem_of_getElem? (i:=fr) ?_
  rw [putF_else nf,List.getElem?_set_self (by rw [List.length_replicate]; exact hf)]
 ·obtain ⟨i,hi,rfl⟩:=List.mem_iff_getElem.mp hm
  have h1:fss[i]? = some fss[i]:=List.getElem?_eq_getElem hi
  have h2:rts[i]? = some (rts[i]'(by rw [d.len]; exact hi)):=List.getElem?_eq_getElem _
  have k:=d.ker (s:=-1) (q:=fr) (by omega) nf (fun i a b=>?_) al (fun a ha=>(lo a ha).pos) (fun c a hc=>?_) h1 h2
  ·have B0:0 < prodB (fun i=>(rowAt rs i).2) p:=prodB_pos fun i hi=>(d.big _ (rowAt_in (show i < rs.length by omega))).1.pos
   have yn:ansY rs piv p fr (-1) n = 0:=by
    unfold ansY
    rw [gY_else fun i hi z=>?_,if_neg (by omega)]
    have:=(d.form.head i hi).1
    omega
   have r0:=(d.fq _ (List.mem_of_getElem? (with_at h1 h2)) _ (List.mem_append_right _ List.mem_cons_self)).pos
   rw [yn,Int.neg_zero,Int.zero_mul,Int.zero_mul] at k
   rcases Int.mul_eq_zero.mp k with y | y
   ·rcases Int.mul_eq_zero.mp y with y | y
    ·exact y
    ·omega
   ·omega
  ·have:=d.form.rest i a b fr hf
   rw [List.getD_eq_getElem?_getD,this]; rfl
  ·have cn:c < n:=by rw [← al]; exact (List.getElem?_eq_some_iff.mp hc).1
   rw [ev] at hc
   refine ans_frac d.form (fun r hr=>(d.big r hr).1.pos) hp cn (by rw [List.length_set,List.length_replicate]) ?_ hc
   by_cases e:c = fr
   ·rw [if_pos e,e,List.getElem?_set_self (by rw [List.length_replicate]; exact hf)]; rfl
   ·rw [if_neg e,List.getElem?_set_ne (fun z=>e z.symm),List.getElem?_replicate,if_pos cn]
open Rw
theorem col_with {fss:List (List (Int × Int))} {rts:List (Int × Int)} {n j:Nat} (hw:∀ fs ∈ fss,fs.length = n) (hl:rts.length = fss.length) (hj:j < n):colF (withR fss rts) j = colF fss j:=by
 unfold colF
 refine List.ext_getElem? fun i=>?_
 rw [List.getElem?_map,List.getElem?_map]
 by_cases h:i < fss.length
 ·have h1:fss[i]? = some fss[i]:=List.getElem?_eq_getElem h
  have h2:rts[i]? = some (rts[i]'(by rw [hl]; exact h)):=List.getElem?_eq_getElem _
  rw [with_at h1 h2,h1]
  show some ((fss[i] ++ _).getD j (0,1)) = some (fss[i].getD j (0,1))
  rw [List.getD_eq_getElem?_getD,List.getD_eq_getElem?_getD,List.getElem?_append_left (by rw [hw _ (List.getElem_mem h)]; exact hj)]
 ·rw [List.getElem?_eq_none (by rw [with_len hl]; omega),List.getElem?_eq_none (by omega)]
theorem col_rts {fss:List (List (Int × Int))} {rts:List (Int × Int)} {n:Nat} (hw:∀ fs ∈ fss,fs.length = n) (hl:rts.length = fss.length):colF (withR fss rts) n = rts:=by
 unfold colF
 refine List.ext_getElem? fun i=>?_
 rw [List.getElem?_map]
 by_cases h:i < fss.length
 ·have h1:fss[i]? = some fss[i]:=List.getElem?_eq_getElem h
  have h2:rts[i]? = some (rts[i]'(by rw [hl]; exact h)):=List.getElem?_eq_getElem _
  rw [with_at h1 h2,h2]
  show some ((fss[i] ++ [_]).getD n (0,1)) = some _
  rw [List.getD_eq_getElem?_getD,List.getElem?_append_right (by rw [hw _ (List.getElem_mem h)]; exact Nat.le_refl _),hw _ (List.getElem_mem h),Nat.sub_self]; rfl
 ·rw [List.getElem?_eq_none (by rw [with_len hl]; omega),List.getElem?_eq_none (by rw [hl]; omega)]; rfl
theorem with_wd {fss:List (List (Int × Int))} {rts:List (Int × Int)} {n:Nat} (hw:∀ fs ∈ fss,fs.length = n) (hl:rts.length = fss.length):∀ gs ∈ withR fss rts,gs.length = n + 1:=fun gs hg=>by
 unfold withR at hg
 obtain ⟨k,hk,rfl⟩:=List.mem_iff_getElem.mp hg
 rw [List.getElem_zipWith,List.length_append,hw _ (List.getElem_mem _)]; rfl
theorem rep_lo {r:Row} (h:Big NN r):∀ f ∈ rep r,Lo f:=fun f hf=>by
 obtain ⟨t,ht,rfl⟩:=List.mem_map.mp hf
 exact lo_lw h.pos (h.top t ht) h.bot
abbrev often (m:Nat) (new:List Stp):List (List (Int × Int)):=(runR ((unitF m).map lvR) new).map rep
theorem one_p {fss:List (List (Int × Int))} {rts:List (Int × Int)} {n:Nat} {new:List Stp} {rs:List Row} {piv:Nat→Nat} (d:Done16 fss rts n new rs n piv) (hz:∀ i,n ≤ i→i < rs.length→(rowAt rs i).1.getD n 0 = 0) (ab:AllB NN (n + 1 + fss.length) ((augF (withR fss rts)).map lvR) new) :
  OneP fss rts n (putF (List.replicate n (0,1)) piv (numF rs n) n) ((often fss.length new).take n):=by
 have wl:=with_len (fss:=fss) d.len
 have hp:=d.pl
 have hr:=d.rows
 obtain ⟨au,sm⟩:=unit_from (with_wd d.wd d.len) d.fq d.all (fun s hs=>by rw [wl]; exact (d.good s hs).n) (by rw [wl]; exact ab)
 rw [wl] at au sm
 have ul:(often fss.length new).length = fss.length:=by rw [List.length_map,run_length,List.length_map,unit_len]
 have id':=piv_id d.form.ord fun i hi=>(d.form.head i hi).1
 refine ⟨rows_p d hz,by rw [List.length_take,ul]; omega,fun ls hls=>?_,fun k j ls hk hj=>?_⟩
 ·obtain ⟨r,hr',rfl⟩:=List.mem_map.mp (List.mem_of_mem_take hls)
  have b:=au.end_ r hr'
  exact ⟨by unfold rep; rw [List.length_map,b.2],rep_lo b.1⟩
 ·have kn:k < n:=by
   have:=(List.getElem?_eq_some_iff.mp hk).1
   rw [List.length_take] at this
   omega
  have km:k < fss.length:=by omega
  rw [List.getElem?_take_of_lt kn,List.getElem?_map] at hk
  have ku:k < (runR ((unitF fss.length).map lvR) new).length:=by rw [run_length,List.length_map,unit_len]; exact km
  have er:(runR ((unitF fss.length).map lvR) new)[k]? = some (rowAt (runR ((unitF fss.length).map lvR) new) k):=by unfold rowAt; rw [List.getD_eq_getElem?_getD,List.getElem?_eq_getElem ku]; rfl
  rw [er] at hk
  have hk:rep (rowAt (runR ((unitF fss.length).map lvR) new) k) = ls:=Option.some.inj hk
  have m:=sm k km j (by omega)
  rw [hk,col_with d.wd d.len hj,← d.er] at m
  have b0:=(d.big _ (rowAt_in (show k < rs.length by omega))).1.pos
  have tj:(rowAt rs k).1.getD j 0 = (if j = k then 1 else 0) * (rowAt rs k).2:=by
   have a:=d.form.head j hj
   rw [id' j hj] at a
   by_cases e:j = k
   ·rw [if_pos e,Int.one_mul,List.getD_eq_getElem?_getD,← e,a.2.2.1]; rfl
   ·rw [if_neg e,Int.zero_mul,List.getD_eq_getElem?_getD,a.2.2.2 k (by omega) (fun z=>e z.symm)]; rfl
  rw [tj] at m
  generalize prF ls (colF fss j) (0,1) = x at *
  refine Int.eq_of_mul_eq_mul_right (Int.ne_of_gt b0) ?_
  rw [m]
  ac_rfl
open Rw
theorem times_all {rs:List Row} {ss:List Stp} {wd o k:Nat} {c:Int × Int} {t:Int} (ab:AllB NN wd rs ss) (ho:o < rs.length) (ht:(rowAt (runR rs ss) o).1[k]? = some t) (t0:t ≠ 0) (hc:0 < c.2) (e:c.1 * t = c.2 * (rowAt (runR rs ss) o).2) :
  AllB NN wd rs (ss ++ [.times o c])∧rowAt (runR rs (ss ++ [.times o c])) o = redR (timesR (rowAt (runR rs ss) o) c):=by
 have l1:o < (runR rs ss).length:=by rw [run_length]; exact ho
 have bp:=ab.end_ _ (rowAt_in l1)
 obtain ⟨g1,g2⟩:=begin_big (c:=c) bp.1 ht t0 hc e
 have at_:∀ i,rowAt (stepR (runR rs ss) (.times o c)) i = if i = o then redR (timesR (rowAt (runR rs ss) o) c) else rowAt (runR rs ss) i:=fun i=>rowAt_set l1
 refine ⟨ab.snoc fun r hr=>?_,by rw [runR_snoc,at_,if_pos rfl]⟩
 obtain ⟨i,hi,rfl⟩:=mem_rowAt hr
 rw [stepR_length] at hi
 rw [at_]
 split
 ·refine ⟨g1,?_⟩
  rw [red_len]
  unfold timesR
  rw [List.length_map]
  exact bp.2
 ·exact ab.end_ _ (rowAt_in hi)
theorem none_p {fss:List (List (Int × Int))} {rts:List (Int × Int)} {n p o:Nat} {new:List Stp} {rs:List Row} {piv:Nat→Nat} {c:Int × Int} (d:Done16 fss rts n new rs p piv) (ab:AllB NN (n + 1 + fss.length) ((augF (withR fss rts)).map lvR) new) (hpo:p ≤ o) (ho:o < fss.length) (t0:(rowAt rs o).1.getD n 0 ≠ 0) (fn:Fn c) (key:c.1 * (rowAt rs o).1.getD n 0 = c.2 * (rowAt rs o).2) :
    AllB NN fss.length ((unitF fss.length).map lvR) (new ++ [.times o c])∧NoneP fss rts n (rep (rowAt (runR ((unitF fss.length).map lvR) (new ++ [.times o c])) o)):=by
  have wl:=with_len (fss:=fss) d.len
  have hr:=d.rows
  have lw':((withR fss rts).map lvR).length = fss.length:=by rw [List.length_map,wl]
  have la:((augF (withR fss rts)).map lvR).length = fss.length:=by rw [List.length_map,augF_len,wl]
  have ww:=with_wd d.wd d.len
  have ok0:∀ s ∈ new,StpN (withR fss rts).length s:=fun s hs=>by rw [wl]; exact (d.good s hs).n
  have br:=d.big _ (rowAt_in (show o < rs.length by omega))
  have et:(rowAt rs o).1[n]? = some ((rowAt rs o).1.getD n 0):=by rw [List.getD_eq_getElem?_getD,List.getElem?_eq_getElem (by rw [br.2]; omega)]; rfl
  have iZ:o < (runR ((augF (withR fss rts)).map lvR) new).length:=by rw [run_length,la]; exact ho
  have bz:=ab.end_ _ (rowAt_in iZ)
  obtain ⟨t',et'⟩:=get_in bz.2 (show n < n + 1 + fss.length by omega)
  have tk:TK (n + 1) ((withR fss rts).map lvR) ((augF (withR fss rts)).map lvR):=by
    unfold TK
    rw [rep_all d.fq,rep_all (aug_fq d.fq),aug_take ww]
  have tk2:=tk_run d.all ab (by rw [la,lw']) (fun s hs=>by rw [List.length_map]; exact ok0 s hs) tk
  rw [← d.er] at tk2
  have cr:=tk2.at_ (show o < rs.length by omega) iZ (show n < n + 1 by omega) br.1.pos bz.1.pos et et'
  have t1:t' ≠ 0:=fun z=>by
    rw [z,Int.zero_mul] at cr
    rcases Int.mul_eq_zero.mp cr with y | y
    · exact t0 y
    · have:=bz.1.pos; omega
  have key':c.1 * t' = c.2 * (rowAt (runR ((augF (withR fss rts)).map lvR) new) o).2:=by
    generalize rowAt (runR ((augF (withR fss rts)).map lvR) new) o = z at *
    generalize (rowAt rs o).1.getD n 0 = t at *
    refine Int.eq_of_mul_eq_mul_right (Int.ne_of_gt br.1.pos) ?_
    calc c.1 * t' * (rowAt rs o).2 = c.1 * (t' * (rowAt rs o).2):=by ac_rfl
      _ = c.1 * (t * z.2):=by rw [cr]
      _ = (c.1 * t) * z.2:=by ac_rfl
      _ = c.2 * (rowAt rs o).2 * z.2:=by rw [key]
      _ = c.2 * z.2 * (rowAt rs o).2:=by ac_rfl
  obtain ⟨all',eR⟩:=times_all (c:=c) d.all (by rw [lw']; exact ho) (by rw [← d.er]; exact et) t0 fn.pos (by rw [← d.er]; exact key)
  obtain ⟨ab',_⟩:=times_all (c:=c) ab (by rw [la]; exact ho) et' t1 fn.pos key'
  have ok':∀ s ∈ new ++ [.times o c],StpN (withR fss rts).length s:=fun s hs=>by
    rcases List.mem_append.mp hs with y | y
    · exact ok0 s y
    · rw [List.mem_singleton.mp y,wl]; exact ⟨ho,fn⟩
  obtain ⟨au,sm⟩:=unit_from ww d.fq all' ok' (by rw [wl]; exact ab')
  rw [wl] at au sm
  refine ⟨au,?_⟩
  have iU:o < (runR ((unitF fss.length).map lvR) (new ++ [.times o c])).length:=by rw [run_length,List.length_map,unit_len]; exact ho
  have bu:=au.end_ _ (rowAt_in iU)
  have sm:=sm o ho
  rw [eR,← d.er] at sm
  have p1:0 < (timesR (rowAt rs o) c).2:=Int.mul_pos br.1.pos fn.pos
  have p2:0 < (redR (timesR (rowAt rs o) c)).2:=Int.ediv_pos_of_pos_of_dvd p1 (Int.le_of_lt (gcL_pos p1)) gcL_dvd.1
  refine ⟨by unfold rep; rw [List.length_map,bu.2],rep_lo bu.1,?_,fun j hj=>?_⟩
  · have m:=sm n (by omega)
    obtain ⟨_,g2⟩:=begin_big (c:=c) br.1 et t0 fn.pos key
    rw [col_rts d.wd d.len,List.getD_eq_getElem?_getD,g2] at m
    exact Int.eq_of_mul_eq_mul_right (Int.ne_of_gt p2) m
  · have m:=sm j (by omega)
    have z:=z_red (z_times (c:=c) (d.form.rest o hpo (by omega) j hj))
    rw [col_with d.wd d.len hj,List.getD_eq_getElem?_getD,z] at m
    have m:_ * (redR (timesR (rowAt rs o) c)).2 = _ * 0:=m
    rw [Int.mul_zero] at m
    exact (Int.mul_eq_zero.mp m).resolve_right (Int.ne_of_gt p2)
open Rw
theorem FRs.take16 {H:Hp} {xs:List V} {fss:List (List (Int × Int))} (h:FRs H xs fss) (n:Nat):FRs H (xs.take n) (fss.take n):=by
 refine ⟨by rw [List.length_take,List.length_take,h.len],fun k v e=>?_⟩
 have kn:k < n:=by
  have:=(List.getElem?_eq_some_iff.mp e).1
  rw [List.length_take] at this
  omega
 rw [List.getElem?_take_of_lt kn] at e
 rw [List.getD_eq_getElem?_getD,List.getElem?_take_of_lt kn,← List.getD_eq_getElem?_getD]
 exact h.at_ k v e
theorem piv_lo {piv:Nat→Nat} {p:Nat} (o:∀ a b,a < b→b < p→piv a < piv b):∀ i,i < p→i ≤ piv i:=fun i=>by
 induction i with
 | zero=>exact fun _=>Nat.zero_le _
 | succ i ih =>
  intro hi
  have:=ih (by omega)
  have:=o i (i + 1) (by omega) hi
  omega
theorem cut_list16 {ys:List V} {n:Nat} (h:n ≤ ys.length):cutV ys none (some (n:Int)) = ys.take n:=by
 unfold cutV
 rw [HT.sIx_nat,Nat.min_eq_left h]
 show ((ys.drop 0).take (n - 0)) = _
 rw [List.drop_zero,Nat.sub_zero]
def PList (H:Hp) (t:Addr) (ls:List Addr):Prop:=∃ x,H t = some (.tup (.str x :: ls.map V.ref))
def Frsh (H H':Hp) (t:Addr):Prop:=∀ a b us,H' t = some (.tup [.str "one",.ref a,.ref b])→H' b = some (.lst us)→∀ (j:Nat) c,us[j]? = some (V.ref c)→H c = none
theorem frsh_not {H H':Hp} {t:Addr} {x:Str} {ls:List V} (e:H' t = some (.tup (.str x :: ls))) (h:x ≠ "one"):Frsh H H' t:=fun a b us e2=>by
 rw [e] at e2
 injection e2 with e2
 injection e2 with e2
 injection e2 with e2 _
 injection e2 with e2
 exact absurd e2 h
def sp_solved (K:PySem.W.Frag):Sp:=fun vs H Q _=>∃ (l r:Addr) (xs ys:List V) (fss:List (List (Int × Int))) (rts:List (Int × Int)) (n N:Nat),vs = [.ref l,.ref r]∧H l = some (.lst xs)∧FRs H xs fss∧H r = some (.lst ys)∧FL H ys rts∧rts.length = fss.length∧fss.length ≤ 8∧n ≤ 8∧(∀ fs ∈ fss,fs.length = n)∧(fss.length = 0→n = 0)∧(∀ gs ∈ withR fss rts,(∀ f ∈ gs,Fq f)∧Big N (lvR gs))∧1 ≤ N∧MB fss.length N ≤ NN ∧
 ∀ t H' ls,Same H H'→Paper16 K H' t fss rts n→H t = none→PList H' t ls→(∀ a ∈ ls,H a = none)→Frsh H H' t→Q (.ref t) H'
theorem ok_solved {f:Addr} {fd:FuncData} (F:Fun K nm_solved nm_solved s_solved f fd) (T:Txt K mg D) (G_width_of:OkF P w K mg base 1 nm_width_of ps_width_of sp_width16) (G_with_rights:OkF P w K mg base 1 nm_with_rights ps_with_rights sp_with_rights) (G_reduced:OkF P w K mg base 7 nm_reduced ps_reduced sp_reduced) (G_begins_of:OkF P w K mg base 1 nm_begins_of ps_begins_of (sp_begins_of K)) (G_odd_row:OkF P w K mg base 1 nm_odd_row ps_odd_row (sp_odd16 K)) (G_over:OkF P w K mg base 3 nm_over ps_over (sp_over15 K)) (G_single_rows:OkF P w K mg base 1 nm_single_rows ps_single_rows (sp_single K)) (G_walked:OkF P w K mg base 5 nm_walked ps_walked (sp_walked16 K)) (G_answer_of:OkF P w K mg base 1 nm_answer_of ps_answer_of (sp_answer16 K)) (G_blank_of:OkF P w K mg base 4 nm_blank_of ps_blank_of (sp_blank K)):FnOk P w K mg base CX0 8 f fd ps_solved (sp_solved K):=by
  refine F.ok sc_solved (fun vs H Q E h=>?_) (fun cdv A outer s H vs Q E hr h=>?_)
  · obtain ⟨l,r,xs,ys,fss,rts,n,N,rfl,_⟩:=h
    rfl
  · obtain ⟨l,r,xs,ys,fss,rts,n,N,rfl,hl,fr,hr',fl,hln,m8,n8,hw,h0,hg,h1,hN,q⟩:=h
    refine ⟨_,(pss_cons (ps_set (i:=2) sc_solved.nd rfl (Or.inl rfl) (pe_callF G_width_of (hr.mono (by decide)) (by rfl) (pa_cons (pv 0) pa_nil)))
      (pss_cons (ps_set (i:=3) sc_solved.nd rfl (Or.inl rfl) (pe_callF G_reduced (hr.mono (by decide)) (by rfl) (pa_cons (pe_callF G_with_rights (hr.mono (by decide)) (by rfl) (pa_cons (pv 0) (pa_cons (pv 1) pa_nil))) (pa_cons (pv 2) pa_nil))))
      (pss_cons (ps_set (i:=4) sc_solved.nd rfl (Or.inl rfl) (pe_ix ix_tupH (pv 3) pe_int (fun _ _=>rfl)))
      (pss_cons (ps_set (i:=5) sc_solved.nd rfl (Or.inl rfl) (pe_ix ix_tupH (pv 3) pe_int (fun _ _=>rfl)))
      (pss_cons (ps_set (i:=6) sc_solved.nd rfl (Or.inl rfl) (pe_callF G_begins_of (hr.mono (by decide)) (by rfl) (pa_cons (pv 5) (pa_cons (pv 2) pa_nil))))
      (pss_cons (ps_set (i:=7) sc_solved.nd rfl (Or.inl rfl) (pe_callF G_odd_row (hr.mono (by decide)) (by rfl) (pa_cons (pv 5) (pa_cons (pv 6) (pa_cons (pv 2) pa_nil)))))
      (pss_cons (ps_if (pt_cmpR op_notN (pv 7) pe_non (nomark _))
        (pss_cons (ps_set (i:=9) sc_solved.nd rfl (Or.inl rfl) (pe_tup (pa_cons pe_str (pa_cons (pv 7) (pa_cons (pe_callF G_over (hr.mono (by decide)) (by rfl) (pa_cons (pe_globT (by rfl) T.c_ONE) (pa_cons (pe_ix ix_listH (pe_ix ix_listH (pv 5) (pv 7) (fun _ _=>rfl)) (pv 2) (fun _ _=>rfl)) pa_nil))) pa_nil)))))
        (pss_one (ps_ret (pe_tup (pa_cons pe_str (pa_cons (pe_ix ix_listH (pe_callF G_walked (hr.mono (by decide)) (by rfl) (pa_cons (pe_callF G_single_rows (hr.mono (by decide)) (by rfl) (pa_cons (pe_callB call_lenL (by rfl) T.b_len PySem.boot_len (pa_cons (pv 0) pa_nil)) pa_nil)) (pa_cons (pe_op op_cat (pv 4) (pe_lst (pa_cons (pv 9) pa_nil))) pa_nil))) (pv 7) (fun _ _=>rfl)) pa_nil))))))
        pss_nil)
      (pss_cons (ps_set (i:=8) sc_solved.nd rfl (Or.inl rfl) (pe_callF G_answer_of (hr.mono (by decide)) (by rfl) (pa_cons (pv 5) (pa_cons (pv 6) (pa_cons (pv 2) pa_nil)))))
      (pss_cons (ps_if (pt_cmpR op_lt (pe_callB call_lenL (by rfl) T.b_len PySem.boot_len (pa_cons (pv 6) pa_nil)) (pv 2) (nomark _))
        (pss_one (ps_ret (pe_tup (pa_cons pe_str (pa_cons (pv 8) (pa_cons (pe_callF G_blank_of (hr.mono (by decide)) (by rfl) (pa_cons (pv 5) (pa_cons (pv 6) (pa_cons (pv 2) pa_nil)))) pa_nil))))))
        pss_nil)
      (pss_one (ps_ret (pe_tup (pa_cons pe_str (pa_cons (pv 8) (pa_cons (pe_slice sl_list (pe_callF G_walked (hr.mono (by decide)) (by rfl) (pa_cons (pe_callF G_single_rows (hr.mono (by decide)) (by rfl) (pa_cons (pe_callB call_lenL (by rfl) T.b_len PySem.boot_len (pa_cons (pv 0) pa_nil)) pa_nil)) (pa_cons (pv 4) pa_nil))) po_none (po_some (pv 2))) pa_nil))))))))))))))),?_⟩
    have gl:(withR fss rts).length = fss.length:=with_len hln
    have gw:=with_wd hw hln
    have hx:xs.length = fss.length:=fr.len
    refine ⟨_,rfl,l,xs,fss,n,rfl,hl,fr,hw,h0,_,rfl,_,rfl,l,r,xs,ys,fss,rts,rfl,hl,fr,hr',fl,hln.symm,by omega,fun fs h=>by rw [hw fs h]; omega,fun p1 z1 H1 S1 c1 f1=>⟨_,rfl,p1,z1,withR fss rts,n,n + 1,N,rfl,c1,f1,fun gs h=>⟨gw gs h,hg gs h⟩,h1,by rw [gl]; exact hN,by omega,by omega,by omega,fun t ls p ys' zs' H2 new pl piv td=>?_⟩⟩
    have S2:=S1.trans td.same
    have pln:=td.pln
    rw [gl] at pln
    have good:∀ s ∈ new,StpG fss.length s:=fun s hs=>by rw [← gl]; exact td.good s hs
    have fq:∀ gs ∈ withR fss rts,∀ f ∈ gs,Fq f:=fun gs h=>(hg gs h).1
    have ab:=aug_all17 gw fq (fun gs h=>(hg gs h).2) h1 (Nat.le_succ n) td.ph td.all (fun s hs=>by rw [gl]; exact (good s hs).n) (by rw [gl]; exact hN)
    rw [gl] at ab
    have el:=td.len
    rw [gl] at el
    have fm:=td.form
    have tfr:=td.fr
    have many:=td.many
    rw [gl] at many
    have nm:new.length ≤ 200:=Nat.le_trans many (Nat.le_trans (Nat.mul_le_mul (Nat.mul_le_mul (Nat.le_refl 3) m8) m8) (by decide))
    generalize hE:runR ((withR fss rts).map lvR) new = rsE at *
    have d:Done16 fss rts n new rsE pl piv:=⟨hE.symm,hw,hln,fq,td.all,good,fm,by omega⟩
    have bnd:∀ r ∈ rsE,0 < r.2∧r.1.length = n + 1:=fun r hr=>⟨(d.big r hr).1.pos,(d.big r hr).2⟩
    refine ⟨_,rfl,t,_,0,_,rfl,rfl,td.tup,atI_0,_,rfl,t,_,1,_,rfl,rfl,td.tup,atI_1,_,rfl,_,rfl,p,zs',rsE,n,n + 1,pl,piv,rfl,td.hp,tfr,bnd,by omega,by omega,by omega,fm,by omega,fun b H3 S3 hb=>?_⟩
    have bl:((List.range pl).map fun i=>V.int (piv i)).length = pl:=by rw [List.length_map,List.length_range]
    have S23:=S2.trans S3
    refine ⟨_,rfl,_,rfl,_,rfl,p,b,zs',_,rsE,n,rfl,S3 _ _ td.hp,tfr.same S3,bnd,by omega,by omega,hb,by rw [bl]; omega,fun o H4 ho1 ho2 t0 S4=>?_,fun hz H4 S4=>?_⟩
    · rw [bl] at ho1
      have S34:=S23.trans S4
      have om:o < fss.length:=by rw [← d.rows]; exact ho2
      obtain ⟨la,ya,pg,ea,hla,hv,hpg⟩:=num_at (j:=n) tfr ho2 bnd (by omega)
      have T34:=S3.trans S4
      have br:=(d.big _ (rowAt_in ho2)).1
      have lp:0 < (numF rsE n o).2:=Ac.lw_pos br.pos
      have le:(numF rsE n o).1 * (rowAt rsE o).2 = (rowAt rsE o).1.getD n 0 * (numF rsE n o).2:=Ac.lw_eq br.pos
      have l1:(numF rsE n o).1.natAbs ≤ NN:=Nat.le_trans (Ac.lw_b1 _ _) (top_nn br)
      have l2:(numF rsE n o).2.natAbs ≤ NN:=Nat.le_trans (Ac.lw_b2 _ _) br.bot
      have u0:(numF rsE n o).1 ≠ 0:=fun z=>by
        rw [z,Int.zero_mul] at le
        rcases Int.mul_eq_zero.mp le.symm with y | y
        · exact t0 y
        · omega
      refine ⟨_,rfl,rfl,_,rfl,ite2 (fun _=>?_) fun h=>absurd rfl h⟩
      refine ⟨_,rfl,_,rfl,_,rfl,p,zs',o,_,rfl,rfl,T34 _ _ td.hp,atI_nat ea,_,rfl,la,ya,n,_,rfl,rfl,T34 _ _ hla,atI_nat hv,_,pg,1,1,(numF rsE n o).1,(numF rsE n o).2,rfl,T.kt_ONE _,.inl (.of (T34 _ _ hpg)),bdN (by decide +kernel),bdN (by decide +kernel),bdN l1,bdN l2,by rw [Int.one_mul]; exact u0,by rw [Int.one_mul]; exact bdN l1,fun a z o' lo ha=>⟨line3,fun t2 ht2=>?_⟩⟩
      generalize (numF rsE n o).1 = u at *
      generalize (numF rsE n o).2 = v at *
      have zz:=lo.eq
      rw [Int.one_mul,Int.one_mul] at zz
      have fn:Fn (z,o'):=⟨lo.pos,Nat.le_trans lo.lx (by rw [Int.one_mul]; exact l2),Nat.le_trans lo.ly (by rw [Int.one_mul]; exact l1)⟩
      have key:z * (rowAt rsE o).1.getD n 0 = o' * (rowAt rsE o).2:=by
        generalize (rowAt rsE o).1.getD n 0 = tt at *
        refine Int.eq_of_mul_eq_mul_right (Int.ne_of_gt lp) ?_
        calc z * tt * v = z * (tt * v):=by ac_rfl
          _ = z * (u * (rowAt rsE o).2):=by rw [← le]
          _ = (z * u) * (rowAt rsE o).2:=by ac_rfl
          _ = v * o' * (rowAt rsE o).2:=by rw [zz]
          _ = o' * (rowAt rsE o).2 * v:=by ac_rfl
      obtain ⟨au,np⟩:=none_p (c:=(z,o')) d ab ho1 om t0 fn key
      have T5:Same H4 (upd H4 a (.tup [.int z,.int o'])):=Same.upd ha
      have e5:upd H4 a (.tup [.int z,.int o']) a = some (.tup [.int z,.int o']):=upd_same
      generalize upd H4 a (.tup [.int z,.int o']) = H5 at T5 e5 ht2 ⊢
      have T6:Same H5 (upd H5 t2 (.tup [.str (Str.ofString "times"),.int o,.ref a])):=Same.upd ht2
      have e6:upd H5 t2 (.tup [.str (Str.ofString "times"),.int o,.ref a]) t2 = some (.tup [.str (Str.ofString "times"),.int o,.ref a]):=upd_same
      generalize upd H5 t2 (.tup [.str (Str.ofString "times"),.int o,.ref a]) = H6 at T6 e6 ⊢
      have T26:=(T34.trans T5).trans T6
      have S06:=S2.trans T26
      refine ⟨_,rfl,l,xs,rfl,S06 _ _ hl,fss.length,by rw [hx],by omega,fun p7 z7 H7 S7 hp7 c7 f7=>⟨_,rfl,_,rfl,line1,fun p8 hp8=>?_⟩⟩
      have T8:Same H7 (upd H7 p8 (.lst [.ref t2])):=Same.upd hp8
      have e8:upd H7 p8 (.lst [.ref t2]) p8 = some (.lst [.ref t2]):=upd_same
      generalize upd H7 p8 (.lst [.ref t2]) = H8 at T8 e8 ⊢
      have T28:=T26.trans (S7.trans T8)
      refine ⟨ls,p8,ys',[.ref t2],rfl,rfl,T28 _ _ td.hls,e8,?_,fun p9 hp9=>?_⟩
      · rw [td.st.len]
        exact Nat.le_trans (show new.length + 1 ≤ 201 by omega) (by decide)
      have T9:Same H8 (upd H8 p9 (.lst (ys' ++ [.ref t2]))):=Same.upd hp9
      have e9:upd H8 p9 (.lst (ys' ++ [.ref t2])) p9 = some (.lst (ys' ++ [.ref t2])):=upd_same
      generalize upd H8 p9 (.lst (ys' ++ [.ref t2])) = H9 at T9 e9 ⊢
      have T29:=T28.trans T9
      have T69:=(S7.trans T8).trans T9
      refine ⟨p7,p9,z7,_,unitF fss.length,new ++ [.times o (z,o')],fss.length,rfl,T9 _ _ (T8 _ _ c7),f7.same (T8.trans T9),e9,(td.st.imp fun t us e=>T29 _ _ e).snoc (s:=.times o (z,o')) ⟨t2,a,rfl,T69 _ _ e6,T69 _ _ (T6 _ _ e5)⟩,fun s hs=>?_,unit_fq,au,by omega,by rw [unit_len]; omega,by rw [List.length_append]; exact Nat.le_trans (show new.length + 1 ≤ 201 by omega) (by decide),fun p10 z10 H10 S10 hp10 c10 f10 nw=>?_⟩
      · rw [unit_len]
        rcases List.mem_append.mp hs with y | y
        · exact (good s y).n
        · rw [List.mem_singleton.mp y]; exact ⟨om,fn⟩
      obtain ⟨lc,yc,ec,hlc,fc,_⟩:=f10.get (i:=o) (by rw [List.length_map,run_len,List.length_map,unit_len]; exact om)
      rw [fAt_map (by rw [run_len,List.length_map,unit_len]; exact om)] at fc
      refine ⟨_,rfl,p10,z10,o,_,rfl,rfl,c10,atI_nat ec,line2,fun t11 ht11=>?_⟩
      have T11:Same H10 (upd H10 t11 (.tup [.str (Str.ofString "none"),.ref lc])):=Same.upd ht11
      have e11:upd H10 t11 (.tup [.str (Str.ofString "none"),.ref lc]) t11 = some (.tup [.str (Str.ofString "none"),.ref lc]):=upd_same
      generalize upd H10 t11 (.tup [.str (Str.ofString "none"),.ref lc]) = H11 at T11 e11 ⊢
      have S09:=S06.trans T69
      refine q t11 H11 [lc] (S09.trans (S10.trans T11)) (.none lc yc _ e11 (T11 _ _ hlc) (flk_of (fc.same T11)) np) ((S09.trans S10).free ht11) ⟨_,e11⟩ (fun x hx'=>?_) (frsh_not e11 (by decide +kernel))
      rw [List.mem_singleton.mp hx']
      exact S09.free (nw o lc ec).1
    · rw [bl] at hz
      have S34:=S23.trans S4
      refine ⟨_,rfl,rfl,_,rfl,ite2 (fun h=>absurd h (by decide)) fun _=>⟨_,rfl,_,rfl,_,rfl,p,b,zs',rsE,n,pl,piv,rfl,S4 _ _ (S3 _ _ td.hp),tfr.same (S3.trans S4),bnd,by omega,by omega,fun i hi=>(fm.head i hi).1,by omega,S4 _ _ hb,fun a za H5 S5 ha c5 f5=>?_⟩⟩
      have S25:=S34.trans S5
      have haH:H a = none:=S34.free ha
      refine ⟨_,rfl,b,_,rfl,S5 _ _ (S4 _ _ hb),_,rfl,_,_,rfl,rfl,_,rfl,ite2 (fun h=>?_) fun h=>?_⟩
      · have pn:pl < n:=by
          have:=of_decide_eq_true h
          rw [bl] at this
          omega
        refine ⟨_,rfl,_,rfl,_,rfl,_,rfl,p,b,zs',rsE,n,pl,piv,rfl,S5 _ _ (S4 _ _ (S3 _ _ td.hp)),tfr.same ((S3.trans S4).trans S5),d.big,by omega,by omega,pn,fun i hi=>(fm.head i hi).1,fm.ord,by omega,S5 _ _ (S4 _ _ hb),fun a2 z2 H6 fr6 hf6 nf6 S6 ha2 c6 f6=>⟨line3,fun t7 ht7=>?_⟩⟩
        have T7:Same H6 (upd H6 t7 (.tup [.str (Str.ofString "many"),.ref a,.ref a2])):=Same.upd ht7
        have e7:upd H6 t7 (.tup [.str (Str.ofString "many"),.ref a,.ref a2]) t7 = some (.tup [.str (Str.ofString "many"),.ref a,.ref a2]):=upd_same
        generalize upd H6 t7 (.tup [.str (Str.ofString "many"),.ref a,.ref a2]) = H7 at T7 e7 ⊢
        have S67:=S6.trans T7
        refine q t7 H7 [a,a2] (S25.trans S67) (.many a a2 za z2 _ _ e7 (S67 _ _ c5) (f5.same S67) (T7 _ _ c6) (f6.same T7) (many_p d hz hf6 nf6)) ((S25.trans S6).free ht7) ⟨_,e7⟩ (fun x hx'=>?_) (frsh_not e7 (by decide +kernel))
        rcases List.mem_cons.mp hx' with y | y
        · rw [y]; exact haH
        · rw [List.mem_singleton.mp y]; exact S25.free ha2
      · have pn:pl = n:=by
          have a1:¬ pl < n:=fun z=>h (decide_eq_true (by rw [bl]; omega))
          by_cases e:n < pl
          · have:=piv_lo fm.ord n e
            have:=(fm.head n e).1
            omega
          · omega
        subst pn
        have okm:∀ s ∈ new,StpN (withR fss rts).length s:=fun s hs=>by rw [gl]; exact (good s hs).n
        have au:=(unit_from gw fq td.all okm (by rw [gl]; exact ab)).1
        rw [gl] at au
        refine ⟨_,rfl,_,rfl,l,xs,rfl,S25 _ _ hl,fss.length,by rw [hx],by omega,fun p6 z6 H6 S6 hp6 c6 f6=>⟨_,rfl,p6,ls,z6,ys',unitF fss.length,new,fss.length,rfl,c6,f6,S6 _ _ (S5 _ _ (S4 _ _ (S3 _ _ td.hls))),td.st.imp fun t us e=>S6 _ _ (S5 _ _ (S4 _ _ (S3 _ _ e))),fun s hs=>by rw [unit_len]; exact (good s hs).n,unit_fq,au,by omega,by rw [unit_len]; omega,by omega,fun p7 z7 H7 S7 hp7 c7 f7 nw7=>⟨_,rfl,_,rfl,p7,z7,rfl,.inl (.of c7),fun p8 hp8=>⟨line3,fun t9 ht9=>?_⟩⟩⟩⟩
        have zl:pl ≤ z7.length:=by rw [f7.len,List.length_map,run_len,List.length_map,unit_len]; omega
        rw [cut_list16 zl] at ht9 ⊢
        have T8:Same H7 (upd H7 p8 (.lst (z7.take pl))):=Same.upd hp8
        have e8:upd H7 p8 (.lst (z7.take pl)) p8 = some (.lst (z7.take pl)):=upd_same
        generalize upd H7 p8 (.lst (z7.take pl)) = H8 at T8 e8 ht9 ⊢
        have T9:Same H8 (upd H8 t9 (.tup [.str (Str.ofString "one"),.ref a,.ref p8])):=Same.upd ht9
        have e9:upd H8 t9 (.tup [.str (Str.ofString "one"),.ref a,.ref p8]) t9 = some (.tup [.str (Str.ofString "one"),.ref a,.ref p8]):=upd_same
        generalize upd H8 t9 (.tup [.str (Str.ofString "one"),.ref a,.ref p8]) = H9 at T9 e9 ⊢
        have S57:=S6.trans S7
        have S59:=(S57.trans T8).trans T9
        refine q t9 H9 [a,p8] (S25.trans S59) (.one a p8 za _ _ _ e9 (S59 _ _ c5) (f5.same S59) (T9 _ _ e8) ((f7.take16 pl).same (T8.trans T9)) (one_p d hz ab)) ((S25.trans (S57.trans T8)).free ht9) ⟨_,e9⟩ (fun x hx'=>?_) (fun a' b' us' e1' e2' j' c' hc'=>?_)
        rotate_left
        · rw [e9] at e1'
          cases e1'
          rw [T9 _ _ e8] at e2'
          cases e2'
          have jl:j' < pl:=by
            have:=(List.getElem?_eq_some_iff.mp hc').1
            rw [List.length_take] at this
            omega
          rw [List.getElem?_take_of_lt jl] at hc'
          exact (S25.trans S6).free (nw7 j' c' hc').1
        rcases List.mem_cons.mp hx' with y | y
        · rw [y]; exact haH
        · rw [List.mem_singleton.mp y]; exact (S25.trans S57).free hp8
open Rw
theorem cp_body {σ:L2.St} {H:Hp} {R:Addr→Hp→Prop} {lR:Addr} {xs:List V} {fss:List (List (Int × Int))} (hR:H lR = some (.lst xs)) (fr:FRs H xs fss) (h4:fss.length ≤ 20)
  (q:∀ D (as:List Addr) Hc,Same H Hc→H D = none→Hc D = some (.lst (as.map V.ref))→FRs Hc (as.map V.ref) fss→(∀ a ∈ as,H a = none∧a ≠ D)→as.Nodup→R D Hc) :
  ∃ a ys,V.ref lR = V.ref a∧H a = some (.lst ys)∧ys.length ≤ sizeLine∧∀ D,H D = none→∃ J:Nat→List V→Hp→Prop,J 0 [] (upd H D (.lst [])) ∧
   (∀ k x zs Hc,ys[k]? = some x→J k zs Hc→zs.length = k→Hc a = some (.lst ys)→tCB rListH (tCons (tVar 0) tNil) (some x :: σ) Hc fun y H2=>H2 D = some (.lst zs)∧H2 a = some (.lst ys)∧J (k + 1) (zs ++ [y]) (upd H2 D (.lst (zs ++ [y])))) ∧
   ∀ zs Hc,J ys.length zs Hc→zs.length = ys.length→R D Hc:=by
 refine ⟨lR,xs,rfl,hR,by rw [fr.len]; exact Nat.le_trans h4 (by decide),fun D hD=>⟨fun k zs Hc=>Same H Hc∧Hc D = some (.lst zs)∧∃ as:List Addr,zs = as.map V.ref∧FRs Hc zs (fss.take k)∧(∀ a ∈ as,H a = none∧a ≠ D∧Hc a ≠ none)∧as.Nodup,⟨Same.upd hD,upd_same,[],rfl,⟨rfl,fun k v e=>by simp at e⟩,by simp,.nil⟩,?_,?_⟩⟩
 ·rintro k x zs Hc hk ⟨S,c1,as,rfl,fr',hn,nd⟩ _ hc
  have hkf:k < fss.length:=by rw [← fr.len]; exact (List.getElem?_eq_some_iff.mp hk).1
  obtain ⟨l,ys,e,hl,fl,_⟩:=fr.get hkf
  rw [hk] at e
  cases e
  refine ⟨_,rfl,l,ys,rfl,S _ _ hl,fun D2 hD2=>?_⟩
  have T:Same Hc (upd Hc D2 (.lst ys)):=Same.upd hD2
  have e2:upd Hc D2 (.lst ys) D2 = some (.lst ys):=upd_same
  have nD:D ≠ D2:=ne_of_none c1 hD2
  generalize upd Hc D2 (.lst ys) = H2 at T e2 ⊢
  refine ⟨T _ _ c1,T _ _ hc,same_upd hD (S.trans T),upd_same,as ++ [D2],by rw [List.map_append]; rfl,?_,?_,?_⟩
  ·have ek:fss[k]? = some (fAt fss k):=by unfold fAt; rw [List.getD_eq_getElem?_getD,List.getElem?_eq_getElem hkf]; rfl
   rw [take_next ek]
   refine FRs.snoc (FRs.updL (T _ _ c1) (fr'.same T) fun j' l' e'=>?_) ((upd_ne nD.symm).trans e2) ((fl.same (S.trans T)).updL (T _ _ c1))
   rw [List.getElem?_map] at e'
   cases ek:as[j']? with
   | none=>rw [ek] at e'; cases e'
   | some z=>rw [ek] at e'; cases e'; exact (hn _ (List.mem_of_getElem? ek)).2.1
  ·intro x hx
   rcases List.mem_append.mp hx with hx | hx
   ·obtain ⟨a1,a2,a3⟩:=hn x hx
    refine ⟨a1,a2,?_⟩
    rw [upd_ne a2]
    cases eo:Hc x with
    | none=>exact absurd eo a3
    | some o=>rw [T _ _ eo]; exact Option.some_ne_none _
   ·rw [List.mem_singleton.mp hx]
    refine ⟨S.free hD2,nD.symm,?_⟩
    rw [upd_ne nD.symm,e2]; exact Option.some_ne_none _
  ·refine List.nodup_append.mpr ⟨nd,by simp,fun x hx y hy=>?_⟩
   rw [List.mem_singleton.mp hy]
   intro z
   exact (hn x hx).2.2 (z ▸ hD2)
 ·rintro zs Hc ⟨S,c1,as,rfl,fr',hn,nd⟩ _
  rw [fr.len,List.take_length] at fr'
  exact q D as Hc S hD c1 fr' (fun a ha=>⟨(hn a ha).1,(hn a ha).2.1⟩) nd
theorem cp_rows15 {K:PySem.W.Frag} {j:Nat} {σ:L2.St} {H:Hp} {Q:VK} {lR:Addr} {xs:List V} {fss:List (List (Int × Int))} (hv:σ[j]? = some (some (.ref lR))) (hR:H lR = some (.lst xs)) (fr:FRs H xs fss) (h4:fss.length ≤ 20)
  (q:∀ D (as:List Addr) Hc,Same H Hc→H D = none→Hc D = some (.lst (as.map V.ref))→FRs Hc (as.map V.ref) fss→(∀ a ∈ as,H a = none∧a ≠ D)→as.Nodup→Q (.ref D) Hc):tCompG (iList K (tM (tVar j))) 1 (tMG (gName 0)) (tMT tYes) (tM (tCB rListH (tCons (tVar 0) tNil))) σ H Q :=
 tCompG1_list ⟨_,hv,cp_body (R:=fun D Hc=>Q (.ref D) Hc) hR fr h4 q⟩
open Rw
def vl (f:Int × Int):Rat:=(f.1:Rat) / (f.2:Rat)
def dotQ:List (Int × Int)→List (Int × Int)→Rat
 | a :: as,b :: bs=>vl a * vl b + dotQ as bs
 | _,_=>0
def sumQ (f:Nat→Rat):Nat→Rat
 | 0=>0
 | n + 1=>sumQ f n + f n
theorem ne_cast {x:Int} (h:0 < x):(x:Rat) ≠ 0:=fun z=>by
 have:=Rat.intCast_inj.mp (z.trans Rat.intCast_zero.symm)
 omega
theorem vl_eq {x y:Int × Int} (hx:0 < x.2) (hy:0 < y.2) (h:x.1 * y.2 = y.1 * x.2):vl x = vl y:=by
 have e:(x.1:Rat) * (y.2:Rat) = (y.1:Rat) * (x.2:Rat):=by rw [← Rat.intCast_mul,← Rat.intCast_mul,h]
 have:=ne_cast hx
 have:=ne_cast hy
 unfold vl
 grind
theorem vl_cross {x y:Int × Int} (hx:0 < x.2) (hy:0 < y.2) (h:vl x = vl y):x.1 * y.2 = y.1 * x.2:=by
 have h1:=ne_cast hx
 have h2:=ne_cast hy
 unfold vl at h
 refine Rat.intCast_inj.mp ?_
 rw [Rat.intCast_mul,Rat.intCast_mul]
 grind
theorem vl_inj {x y:Int × Int} (hx:Lo x) (hy:Lo y) (h:vl x = vl y):x = y:=by
 have e:=vl_cross hx.pos hy.pos h
 have k:=lw_congr (n:=x.1) (d:=x.2) (n':=y.1) (d':=y.2) hx.pos hy.pos e
 rwa [lw_of_low hx.pos hx.gcd,lw_of_low hy.pos hy.gcd] at k
theorem prF_dot:∀ {as bs:List (Int × Int)} {z:Int × Int},(∀ a ∈ as,0 < a.2)→(∀ b ∈ bs,0 < b.2)→0 < z.2→vl (prF as bs z) = vl z + dotQ as bs
 | [],_,z,_,_,_=>by show vl z = vl z + 0; rw [Rat.add_zero]
 | _ :: _,[],z,_,_,_=>by show vl z = vl z + 0; rw [Rat.add_zero]
 | a :: as,b :: bs,z,ha,hb,hz=>by
  have a0:=ha a List.mem_cons_self
  have b0:=hb b List.mem_cons_self
  show vl (prF as bs (z.1 * a.2 * b.2 + a.1 * b.1 * z.2,z.2 * a.2 * b.2)) = vl z + (vl a * vl b + dotQ as bs)
  rw [prF_dot (fun x hx=>ha x (List.mem_cons_of_mem _ hx)) (fun x hx=>hb x (List.mem_cons_of_mem _ hx)) (Int.mul_pos (Int.mul_pos hz a0) b0),← Rat.add_assoc]
  congr 1
  have h1:=ne_cast a0
  have h2:=ne_cast b0
  have h3:=ne_cast hz
  unfold vl
  simp only [Rat.intCast_add,Rat.intCast_mul]
  grind
theorem prF_row {fs as:List (Int × Int)} {r:Int × Int} (hf:∀ a ∈ fs,0 < a.2) (ha:∀ b ∈ as,0 < b.2) (hr:0 < r.2) (h:(prF fs as (0,1)).1 * r.2 = r.1 * (prF fs as (0,1)).2):dotQ fs as = vl r:=by
 have e:=prF_dot hf ha (z:=(0,1)) (by decide)
 have z:vl (0,1) = 0:=by unfold vl; grind
 rw [z,Rat.zero_add] at e
 rw [← e]
 exact vl_eq (prF_pos hf ha (by decide)) hr h
theorem sumQ_add (f g:Nat→Rat):∀ n,sumQ (fun j=>f j + g j) n = sumQ f n + sumQ g n
 | 0=>by unfold sumQ; grind
 | n + 1=>by unfold sumQ; rw [sumQ_add f g n]; grind
theorem sumQ_mul (c:Rat) (f:Nat→Rat):∀ n,sumQ (fun j=>c * f j) n = c * sumQ f n
 | 0=>by unfold sumQ; grind
 | n + 1=>by unfold sumQ; rw [sumQ_mul c f n]; grind
theorem sumQ_congr {f g:Nat→Rat} : ∀ {n},(∀ j,j < n→f j = g j)→sumQ f n = sumQ g n
 | 0,_=>rfl
 | n + 1,h=>by unfold sumQ; rw [sumQ_congr fun j hj=>h j (by omega),h n (by omega)]
theorem sumQ_zero:∀ n,sumQ (fun _=>0) n = 0
 | 0=>rfl
 | n + 1=>by unfold sumQ; rw [sumQ_zero n]; grind
theorem sumQ_one {v:Nat→Rat} {k:Nat} : ∀ {n},sumQ (fun j=>(if j = k then 1 else 0) * v j) n = if k < n then v k else 0
 | 0=>by rw [if_neg (by omega)]; rfl
 | n + 1=>by
  unfold sumQ
  rw [sumQ_one]
  by_cases h:k < n
  ·rw [if_pos h,if_neg (by omega),if_pos (by omega)]; grind
  ·by_cases e:n = k
   ·subst e; rw [if_neg h,if_pos rfl,if_pos (by omega)]; grind
   ·rw [if_neg h,if_neg e,if_neg (by omega)]; grind
theorem sumQ_comm (f:Nat→Nat→Rat) (m:Nat):∀ n,sumQ (fun k=>sumQ (fun l=>f k l) m) n = sumQ (fun l=>sumQ (fun k=>f k l) n) m
 | 0=>by
  show (0:Rat) = sumQ (fun _=>0) m
  rw [sumQ_zero]
 | n + 1=>by
  show sumQ (fun k=>sumQ (fun l=>f k l) m) n + sumQ (fun l=>f n l) m = sumQ (fun l=>sumQ (fun k=>f k l) n + f n l) m
  rw [sumQ_add,sumQ_comm f m n]
theorem sumQ_front (f:Nat→Rat):∀ n,sumQ f (n + 1) = f 0 + sumQ (fun j=>f (j + 1)) n
 | 0=>by unfold sumQ sumQ; grind
 | n + 1=>by
  have:=sumQ_front f n
  show sumQ f (n + 1) + f (n + 1) = f 0 + (sumQ (fun j=>f (j + 1)) n + f (n + 1))
  rw [this]; grind
theorem dotQ_sum:∀ {as bs:List (Int × Int)},as.length = bs.length→dotQ as bs = sumQ (fun j=>vl (as.getD j (0,1)) * vl (bs.getD j (0,1))) as.length
 | [],[],_=>rfl
 | a :: as,b :: bs,h=>by
  show vl a * vl b + dotQ as bs = sumQ _ (as.length + 1)
  rw [sumQ_front,dotQ_sum (by simpa using h)]; rfl
theorem mixed {as:List (Int × Int)} : ∀ {fss:List (List (Int × Int))} {ls rts:List (Int × Int)},ls.length = fss.length→rts.length = fss.length→(∀ fs ∈ fss,fs.length = as.length)→(∀ (i:Nat) fs r,fss[i]? = some fs→rts[i]? = some r→dotQ fs as = vl r) →
  sumQ (fun j=>dotQ ls (colF fss j) * vl (as.getD j (0,1))) as.length = dotQ ls rts
 | [],[],[],_,_,_,_=>by
  rw [sumQ_congr (g:=fun _=>0) fun j _=>by show (0:Rat) * _ = 0; grind,sumQ_zero]; rfl
 | fs :: fss,l :: ls,r :: rts,h1,h2,hw,h=>by
  have e0:=h 0 fs r rfl rfl
  have ih:=mixed (as:=as) (fss:=fss) (ls:=ls) (rts:=rts) (by simpa using h1) (by simpa using h2) (fun x hx=>hw x (List.mem_cons_of_mem _ hx)) fun i gs q a b=>h (i + 1) gs q (by simpa using a) (by simpa using b)
  show _ = vl l * vl r + dotQ ls rts
  rw [← ih,← e0,dotQ_sum (hw fs List.mem_cons_self),hw fs List.mem_cons_self,← sumQ_mul,← sumQ_add]
  refine sumQ_congr fun j _=>?_
  show (vl l * vl (fs.getD j (0,1)) + dotQ ls (colF fss j)) * _ = _
  grind
structure SysP (fss:List (List (Int × Int))) (rts:List (Int × Int)) (n:Nat):Prop where
 wd:∀ fs ∈ fss,fs.length = n∧∀ f ∈ fs,0 < f.2
 len:rts.length = fss.length
 rt:∀ r ∈ rts,0 < r.2
theorem col_pos {fss:List (List (Int × Int))} {j:Nat} (h:∀ fs ∈ fss,∀ f ∈ fs,0 < f.2):∀ f ∈ colF fss j,0 < f.2:=fun f hf=>by
 obtain ⟨fs,hs,rfl⟩:=List.mem_map.mp hf
 rw [List.getD_eq_getElem?_getD]
 cases e:fs[j]? with
 | none=>decide
 | some g=>exact h fs hs g (List.mem_of_getElem? e)
theorem RowsP.dot {fss:List (List (Int × Int))} {rts as:List (Int × Int)} {n:Nat} (s:SysP fss rts n) (h:RowsP fss rts n as) {ls:List (Int × Int)} (hl:ls.length = fss.length):sumQ (fun j=>dotQ ls (colF fss j) * vl (as.getD j (0,1))) n = dotQ ls rts:=by
 have:=mixed (as:=as) hl s.len (fun fs hf=>by rw [h.len]; exact (s.wd fs hf).1) fun i fs r h1 h2=>prF_row (s.wd fs (List.mem_of_getElem? h1)).2 (fun b hb=>(h.lo b hb).pos) (s.rt r (List.mem_of_getElem? h2)) (h.rows i fs r h1 h2)
 rwa [h.len] at this
theorem vl_01:vl (0,1) = 0:=by unfold vl; grind
theorem vl_one:vl (1,1) = 1:=by unfold vl; grind
theorem none_rows {fss:List (List (Int × Int))} {rts as ofs:List (Int × Int)} {n:Nat} (s:SysP fss rts n) (h:RowsP fss rts n as) (o:NoneP fss rts n ofs):False:=by
 have k:=h.dot s o.len
 have e1:dotQ ofs rts = vl (1,1):=prF_row (fun f hf=>(o.lo f hf).pos) s.rt (by decide) (by rw [o.one,Int.mul_one,Int.one_mul])
 rw [e1,vl_one,sumQ_congr (g:=fun _=>0) fun j hj=>?_,sumQ_zero] at k
 ·exact absurd k (by decide)
 ·have:dotQ ofs (colF fss j) = vl (0,1):=prF_row (fun f hf=>(o.lo f hf).pos) (col_pos fun fs hf=>(s.wd fs hf).2) (by decide) (by rw [o.zero j hj,Int.zero_mul,Int.zero_mul])
  rw [this,vl_01]; grind
theorem one_unit {fss:List (List (Int × Int))} {rts as:List (Int × Int)} {lss:List (List (Int × Int))} {n:Nat} (s:SysP fss rts n) (o:OneP fss rts n as lss) {k:Nat} {ls:List (Int × Int)} (hk:lss[k]? = some ls) {v:Nat→Rat} (kn:k < n):sumQ (fun j=>dotQ ls (colF fss j) * v j) n = v k:=by
 obtain ⟨hl,lo⟩:=o.wd ls (List.mem_of_getElem? hk)
 rw [sumQ_congr (g:=fun j=>(if j = k then 1 else 0) * v j) fun j hj=>?_,sumQ_one,if_pos kn]
 have u:=o.unit k j ls hk hj
 have:dotQ ls (colF fss j) = vl ((if j = k then 1 else 0),1):=prF_row (fun f hf=>(lo f hf).pos) (col_pos fun fs hf=>(s.wd fs hf).2) (show (0:Int) < 1 by decide) (by rw [u,Int.mul_one])
 rw [this]
 by_cases e:j = k
 ·rw [if_pos e,if_pos e,vl_one]
 ·rw [if_neg e,if_neg e,vl_01]
theorem one_only {fss:List (List (Int × Int))} {rts as bs:List (Int × Int)} {lss:List (List (Int × Int))} {n:Nat} (s:SysP fss rts n) (o:OneP fss rts n as lss) (h:RowsP fss rts n bs):bs = as:=by
 refine List.ext_getElem? fun k=>?_
 by_cases kn:k < n
 ·obtain ⟨ls,hk⟩ : ∃ ls,lss[k]? = some ls:=⟨_,List.getElem?_eq_getElem (by rw [o.len]; exact kn)⟩
  have hl:=(o.wd ls (List.mem_of_getElem? hk)).1
  have a:=o.ans.dot s hl
  have b:=h.dot s hl
  rw [one_unit s o hk kn] at a b
  have ea:as[k]? = some (as.getD k (0,1)):=by rw [List.getD_eq_getElem?_getD,List.getElem?_eq_getElem (by rw [o.ans.len]; exact kn)]; rfl
  have eb:bs[k]? = some (bs.getD k (0,1)):=by rw [List.getD_eq_getElem?_getD,List.getElem?_eq_getElem (by rw [h.len]; exact kn)]; rfl
  rw [ea,eb,vl_inj (h.lo _ (List.mem_of_getElem? eb)) (o.ans.lo _ (List.mem_of_getElem? ea)) (b.trans a.symm)]
 ·rw [List.getElem?_eq_none (by rw [h.len]; omega),List.getElem?_eq_none (by rw [o.ans.len]; omega)]
theorem one_ker {fss:List (List (Int × Int))} {rts as cs:List (Int × Int)} {lss:List (List (Int × Int))} {n:Nat} (s:SysP fss rts n) (o:OneP fss rts n as lss) (hl:cs.length = n) (hp:∀ c ∈ cs,0 < c.2) (hz:∀ fs ∈ fss,(prF fs cs (0,1)).1 = 0) {k:Nat} (kn:k < n):vl (cs.getD k (0,1)) = 0:=by
 obtain ⟨ls,hk'⟩ : ∃ ls,lss[k]? = some ls:=⟨_,List.getElem?_eq_getElem (by rw [o.len]; exact kn)⟩
 have hl':=(o.wd ls (List.mem_of_getElem? hk')).1
 have m:=mixed (as:=cs) (fss:=fss) (ls:=ls) (rts:=fss.map fun _=>(0,1)) hl' (by rw [List.length_map]) (fun fs hf=>by rw [hl]; exact (s.wd fs hf).1) fun i fs r h1 h2=>by
  rw [List.getElem?_map,h1] at h2
  cases h2
  exact prF_row (s.wd fs (List.mem_of_getElem? h1)).2 hp (show (0:Int) < 1 by decide) (by rw [hz fs (List.mem_of_getElem? h1),Int.zero_mul,Int.zero_mul])
 have z:∀ (ls:List (Int × Int)) (fss:List (List (Int × Int))),dotQ ls (fss.map fun _=>(0,1)) = 0:=fun ls=>by
  induction ls with
  | nil=>intro fss; rfl
  | cons l ls ih =>
   intro fss
   cases fss with
   | nil=>rfl
   | cons _ fss=>show vl l * vl (0,1) + dotQ ls (fss.map fun _=>(0,1)) = 0; rw [ih,vl_01]; grind
 rwa [z,hl,one_unit s o hk' kn] at m
open Rw
def dq (g x:Nat→Rat) (m:Nat):Rat:=sumQ (fun j=>g j * x j) m
theorem dq_lin (a c:Rat) (g h x:Nat→Rat) (m:Nat):dq (fun j=>a * g j + c * h j) x m = a * dq g x m + c * dq h x m:=by
 unfold dq
 rw [← sumQ_mul,← sumQ_mul,← sumQ_add]
 exact sumQ_congr fun j _=>by grind
theorem dq_linR (a c:Rat) (g x y:Nat→Rat) (m:Nat):dq g (fun j=>a * x j + c * y j) m = a * dq g x m + c * dq g y m:=by
 unfold dq
 rw [← sumQ_mul,← sumQ_mul,← sumQ_add]
 exact sumQ_congr fun j _=>by grind
theorem dq_congr {g g' x x':Nat→Rat} {m:Nat} (h:∀ j,j < m→g j = g' j) (k:∀ j,j < m→x j = x' j):dq g x m = dq g' x' m:=sumQ_congr fun j hj=>by rw [h j hj,k j hj]
structure InvQ (m:Nat) (G:Nat→Nat→Rat):Prop where
 inj:∀ x:Nat→Rat,(∀ i,i < m→dq (G i) x m = 0)→∀ k,k < m→x k = 0
 rinv:∃ B:Nat→Nat→Rat,∀ i k,i < m→k < m→dq (G i) (fun j=>B j k) m = if i = k then 1 else 0
theorem InvQ.congr {m:Nat} {G G':Nat→Nat→Rat} (h:InvQ m G) (e:∀ i j,i < m→j < m→G i j = G' i j):InvQ m G':=by
 refine ⟨fun x hx=>h.inj x fun i hi=>by rw [← hx i hi]; exact dq_congr (fun j hj=>e i j hi hj) fun _ _=>rfl,?_⟩
 obtain ⟨B,hB⟩:=h.rinv
 exact ⟨B,fun i k hi hk=>by rw [← hB i k hi hk]; exact dq_congr (fun j hj=>(e i j hi hj).symm) fun _ _=>rfl⟩
theorem InvQ.unit (m:Nat):InvQ m (fun i j=>if j = i then 1 else 0):=by
 have d:∀ i,i < m→∀ x:Nat→Rat,dq (fun j=>if j = i then 1 else 0) x m = x i:=fun i hi x=>by
  unfold dq
  rw [sumQ_one,if_pos hi]
 refine ⟨fun x hx k hk=>by rw [← d k hk x]; exact hx k hk,fun j k=>if j = k then 1 else 0,fun i k hi hk=>by rw [d i hi]⟩
theorem InvQ.swap {m:Nat} {G:Nat→Nat→Rat} (h:InvQ m G) {p q:Nat} (hp:p < m) (hq:q < m):InvQ m (fun i=>G (sw p q i)):=by
 have sm:∀ i,i < m→sw p q i < m:=fun i hi=>sw_lt hp hq hi
 have ss:∀ i,sw p q (sw p q i) = i:=fun i=>by
  unfold sw
  by_cases e1:i = p
  ·rw [if_pos e1]
   by_cases e2:q = p
   ·rw [if_pos e2,e1,e2]
   ·rw [if_neg e2,if_pos rfl,e1]
  ·rw [if_neg e1]
   by_cases e2:i = q
   ·rw [if_pos e2,if_pos rfl,e2]
   ·rw [if_neg e2,if_neg e1,if_neg e2]
 refine ⟨fun x hx=>h.inj x fun i hi=>?_,?_⟩
 ·have:=hx (sw p q i) (sm i hi)
  rw [ss] at this
  exact this
 ·obtain ⟨B,hB⟩:=h.rinv
  refine ⟨fun j k=>B j (sw p q k),fun i k hi hk=>?_⟩
  rw [hB _ _ (sm i hi) (sm k hk)]
  by_cases e:i = k
  ·rw [if_pos e,if_pos (by rw [e])]
  ·rw [if_neg e,if_neg fun z=>e (by rw [← ss i,z,ss])]
theorem InvQ.op {m:Nat} {G:Nat→Nat→Rat} (h:InvQ m G) {p q:Nat} (hp:p < m) (hq:q < m) {a c:Rat} (a0:a ≠ 0) (ne:p ≠ q∨c = 0):InvQ m (fun i j=>if i = p then a * G p j + c * G q j else G i j):=by
 have row:∀ x:Nat→Rat,dq (fun j=>if p = p then a * G p j + c * G q j else G p j) x m = a * dq (G p) x m + c * dq (G q) x m:=fun x=>by
  rw [← dq_lin]
  exact dq_congr (fun j _=>if_pos rfl) fun _ _=>rfl
 have oth:∀ i,i ≠ p→∀ x:Nat→Rat,dq (fun j=>if i = p then a * G p j + c * G q j else G i j) x m = dq (G i) x m:=fun i hi x=>dq_congr (fun j _=>if_neg hi) fun _ _=>rfl
 refine ⟨fun x hx=>h.inj x fun i hi=>?_,?_⟩
 ·by_cases e:i = p
  ·have r:=hx p hp
   rw [row] at r
   rw [e]
   rcases ne with ne | ne
   ·have q0:=hx q hq
    rw [oth q (fun z=>ne z.symm)] at q0
    rw [q0] at r
    grind
   ·rw [ne] at r
    grind
  ·rw [← oth i e]; exact hx i hi
 ·obtain ⟨B,hB⟩:=h.rinv
  refine ⟨fun j k=>if k = p then a⁻¹ * B j p + 0 * B j p else if k = q then 1 * B j q + (-(c * a⁻¹)) * B j p else B j k,fun i k hi hk=>?_⟩
  have col:∀ i,i < m→dq (G i) (fun j=>if k = p then a⁻¹ * B j p + 0 * B j p else if k = q then 1 * B j q + (-(c * a⁻¹)) * B j p else B j k) m = if k = p then a⁻¹ * (if i = p then 1 else 0) else if k = q then (if i = q then 1 else 0) - c * a⁻¹ * (if i = p then 1 else 0) else if i = k then 1 else 0:=fun i hi=>by
   by_cases e1:k = p
   ·rw [if_pos e1,dq_congr (fun _ _=>rfl) (fun j _=>if_pos e1),dq_linR,hB i p hi hp]; grind
   ·rw [if_neg e1]
    by_cases e2:k = q
    ·rw [if_pos e2,dq_congr (fun _ _=>rfl) (fun j _=>by rw [if_neg e1,if_pos e2]),dq_linR,hB i q hi hq,hB i p hi hp]; grind
    ·rw [if_neg e2,dq_congr (fun _ _=>rfl) (fun j _=>by rw [if_neg e1,if_neg e2]),hB i k hi hk]
  by_cases e:i = p
  ·subst e
   rw [row,col i hp,col q hq]
   clear row oth col hB h
   grind
  ·rw [oth i e,col i hi]
   clear row oth col hB h
   grind
theorem InvQ.both {m:Nat} {G L:Nat→Nat→Rat} (h:InvQ m G) (hl:∀ k j,k < m→j < m→sumQ (fun i=>L k i * G i j) m = if j = k then 1 else 0):∀ i j,i < m→j < m→dq (G i) (fun k=>L k j) m = if i = j then 1 else 0:=by
 obtain ⟨B,hB⟩:=h.rinv
 have e:∀ k j,k < m→j < m→L k j = B k j:=fun k j hk hj=>by
  have x:sumQ (fun i=>L k i * dq (G i) (fun l=>B l j) m) m = L k j:=by
   rw [sumQ_congr (g:=fun i=>(if i = j then 1 else 0) * L k i) fun i hi=>by rw [hB i j hi hj]; grind,sumQ_one,if_pos hj]
  have y:sumQ (fun i=>L k i * dq (G i) (fun l=>B l j) m) m = B k j:=by
   unfold dq
   rw [sumQ_congr (g:=fun i=>sumQ (fun l=>L k i * G i l * B l j) m) fun i _=>by rw [← sumQ_mul]; exact sumQ_congr fun l _=>by grind,sumQ_comm,sumQ_congr (g:=fun l=>(if l = k then 1 else 0) * B l j) fun l hl'=>?_,sumQ_one,if_pos hk]
   rw [sumQ_congr (g:=fun i=>B l j * (L k i * G i l)) fun i _=>by grind,sumQ_mul,hl k l hk hl']; grind
  rw [← x,y]
 intro i j hi hj
 rw [← hB i j hi hj]
 exact dq_congr (fun _ _=>rfl) fun k hk=>e k j hk hj
open Rw
theorem lw_level {p q L S:Int} (hq:0 < q) (hL:0 < L) (e:p * L = S * q):0 < (Ac.lw p q).2∧Int.gcd (Ac.lw p q).1 (Ac.lw p q).2 = 1∧(Ac.lw p q).2 ∣ L∧(Ac.lw p q).1 * (L / (Ac.lw p q).2) = S:=by
  have rp:=Ac.lw_pos (t:=p) hq
  have rg:=Ac.lw_gcd (t:=p) hq
  have re:=Ac.lw_eq (t:=p) hq
  generalize Ac.lw p q = r at *
  have k1:r.1 * L = S * r.2:=by
    refine Int.eq_of_mul_eq_mul_right (Int.ne_of_gt hq) ?_
    calc r.1 * L * q = r.1 * q * L:=by ac_rfl
      _ = p * r.2 * L:=by rw [re]
      _ = p * L * r.2:=by ac_rfl
      _ = S * q * r.2:=by rw [e]
      _ = S * r.2 * q:=by ac_rfl
  have d:r.2 ∣ L:=by
    have k:r.2 ∣ r.1 * L:=⟨S,by rw [k1,Int.mul_comm]⟩
    have k:=Int.natAbs_dvd_natAbs.mpr k
    rw [Int.natAbs_mul,Nat.mul_comm] at k
    have c:Nat.Coprime r.2.natAbs r.1.natAbs:=by
      show Nat.gcd r.2.natAbs r.1.natAbs = 1
      rw [Nat.gcd_comm]; exact rg
    exact Int.natAbs_dvd_natAbs.mp (c.dvd_of_dvd_mul_right k)
  refine ⟨rp,rg,d,?_⟩
  obtain ⟨m,hm⟩:=d
  rw [hm,Int.mul_ediv_cancel_left _ (Int.ne_of_gt rp)]
  rw [hm] at k1
  refine Int.eq_of_mul_eq_mul_right (Int.ne_of_gt rp) ?_
  rw [← k1]; ac_rfl
structure FrL (L:Int) (M:Nat) (f:Int × Int):Prop where
 pos:0 < f.2
 gcd:Int.gcd f.1 f.2 = 1
 dvd:f.2 ∣ L
 top:(f.1 * (L / f.2)).natAbs ≤ M
theorem FrL.whole {L:Int} {M:Nat} {f:Int × Int} (h:FrL L M f):∃ s:Int,f.1 * L = s * f.2∧s.natAbs ≤ M:=by
 obtain ⟨m,hm⟩:=h.dvd
 refine ⟨f.1 * m,by rw [hm]; ac_rfl,?_⟩
 have:=h.top
 rwa [hm,Int.mul_ediv_cancel_left _ (Int.ne_of_gt h.pos)] at this
theorem frl_lw {p q L S:Int} {M:Nat} (hq:0 < q) (hL:0 < L) (e:p * L = S * q) (hS:S.natAbs ≤ M):FrL L M (Ac.lw p q):=by
 obtain ⟨a,b,c,d⟩:=lw_level hq hL e
 exact ⟨a,b,c,by rw [d]; exact hS⟩
theorem FrL.up {L:Int} {M:Nat} {f:Int × Int} (h:FrL L M f) (hL:0 < L) {n:Int} (hn:0 < n) {M':Nat} (hM:n.natAbs * M ≤ M'):FrL (n * L) M' f:=by
 obtain ⟨m,hm⟩:=h.dvd
 refine ⟨h.pos,h.gcd,⟨n * m,by rw [hm]; ac_rfl⟩,?_⟩
 have t:=h.top
 rw [hm,Int.mul_ediv_cancel_left _ (Int.ne_of_gt h.pos)] at t
 rw [hm,show n * (f.2 * m) = f.2 * (n * m) by ac_rfl,Int.mul_ediv_cancel_left _ (Int.ne_of_gt h.pos),show f.1 * (n * m) = n * (f.1 * m) by ac_rfl,Int.natAbs_mul]
 exact Nat.le_trans (Nat.mul_le_mul (Nat.le_refl _) t) hM
theorem FrL.size {L:Int} {M:Nat} {f:Int × Int} (h:FrL L M f) (hL:0 < L):f.1.natAbs ≤ M∧f.2.natAbs ≤ L.natAbs:=by
 obtain ⟨m,hm⟩:=h.dvd
 have t:=h.top
 rw [hm,Int.mul_ediv_cancel_left _ (Int.ne_of_gt h.pos),Int.natAbs_mul] at t
 have m0:0 < m:=Int.pos_of_mul_pos_right (by rw [← hm]; exact hL) h.pos
 refine ⟨Nat.le_trans (Nat.le_mul_of_pos_right _ (by omega)) t,?_⟩
 have:=Int.le_of_dvd hL h.dvd
 have:=h.pos
 omega
structure Shr (c:Int × Int):Prop where
 pos:0 < c.2
 gcd:Int.gcd c.1 c.2 = 1
 d60:c.2 ∣ 60
 lo : -9 ≤ c.1
 hi:c.1 ≤ 9
theorem Shr.whole {c:Int × Int} (h:Shr c):∃ s:Int,c.1 * 60 = s * c.2∧s.natAbs ≤ 540:=by
 obtain ⟨m,hm⟩:=h.d60
 refine ⟨c.1 * m,by rw [hm]; ac_rfl,?_⟩
 have h1:=h.lo
 have h2:=h.hi
 have h3:=h.pos
 have md:m ∣ (60:Int):=⟨c.2,by rw [hm,Int.mul_comm]⟩
 have mb:m.natAbs ≤ (60:Int).natAbs:=Nat.le_of_dvd (by decide) (Int.natAbs_dvd_natAbs.mpr md)
 rw [Int.natAbs_mul]
 exact Nat.le_trans (Nat.mul_le_mul (show c.1.natAbs ≤ 9 by omega) mb) (by decide)
abbrev addF (c f g:Int × Int):Int × Int:=Ac.lw (f.1 * (g.2 * c.2) + g.1 * c.1 * f.2) (f.2 * (g.2 * c.2))
theorem add_frl {L:Int} {M M':Nat} {f g c:Int × Int} (hL:0 < L) (hf:FrL L M f) (hg:FrL L M g) (hc:Shr c) (hM:600 * M ≤ M'):FrL (60 * L) M' (addF c f g):=by
  obtain ⟨s,es,bs⟩:=hf.whole
  obtain ⟨t,et,bt⟩:=hg.whole
  obtain ⟨u,eu,bu⟩:=hc.whole
  refine frl_lw (S:=60 * s + u * t) (Int.mul_pos hf.pos (Int.mul_pos hg.pos hc.pos)) (by omega) ?_ ?_
  · rw [Int.add_mul,Int.add_mul]
    congr 1
    · calc f.1 * (g.2 * c.2) * (60 * L) = 60 * (f.1 * L) * (g.2 * c.2):=by ac_rfl
        _ = 60 * (s * f.2) * (g.2 * c.2):=by rw [es]
        _ = 60 * s * (f.2 * (g.2 * c.2)):=by ac_rfl
    · calc g.1 * c.1 * f.2 * (60 * L) = (c.1 * 60) * (g.1 * L) * f.2:=by ac_rfl
        _ = u * c.2 * (t * g.2) * f.2:=by rw [eu,et]
        _ = u * t * (f.2 * (g.2 * c.2)):=by ac_rfl
  · have b2:(u * t).natAbs ≤ 540 * M:=by rw [Int.natAbs_mul]; exact Nat.mul_le_mul bu bt
    omega
theorem times_frl {L:Int} {M M':Nat} {f c:Int × Int} (hL:0 < L) (hf:FrL L M f) (hc:Shr c) (hM:600 * M ≤ M'):FrL (60 * L) M' (Ac.lw (f.1 * c.1) (f.2 * c.2)):=by
  obtain ⟨s,es,bs⟩:=hf.whole
  obtain ⟨u,eu,bu⟩:=hc.whole
  refine frl_lw (S:=u * s) (Int.mul_pos hf.pos hc.pos) (by omega) ?_ ?_
  · calc f.1 * c.1 * (60 * L) = (c.1 * 60) * (f.1 * L):=by ac_rfl
      _ = u * c.2 * (s * f.2):=by rw [eu,es]
      _ = u * s * (f.2 * c.2):=by ac_rfl
  · rw [Int.natAbs_mul]
    exact Nat.le_trans (Nat.mul_le_mul bu bs) (by omega)
theorem vl_lw {t b:Int} (hb:0 < b):vl (Ac.lw t b) = (t:Rat) / (b:Rat):=by
 have:=vl_eq (x:=Ac.lw t b) (y:=(t,b)) (Ac.lw_pos hb) hb (Ac.lw_eq hb)
 rw [this]; rfl
theorem vl_add {c f g:Int × Int} (hf:0 < f.2) (hg:0 < g.2) (hc:0 < c.2):vl (addF c f g) = vl f + vl c * vl g:=by
 rw [vl_lw (Int.mul_pos hf (Int.mul_pos hg hc))]
 have h1:=ne_cast hf
 have h2:=ne_cast hg
 have h3:=ne_cast hc
 unfold vl
 simp only [Rat.intCast_add,Rat.intCast_mul]
 grind
theorem vl_times {c f:Int × Int} (hf:0 < f.2) (hc:0 < c.2):vl (Ac.lw (f.1 * c.1) (f.2 * c.2)) = vl c * vl f:=by
 rw [vl_lw (Int.mul_pos hf hc)]
 have h1:=ne_cast hf
 have h3:=ne_cast hc
 unfold vl
 simp only [Rat.intCast_mul]
 grind
theorem shr_lw {a b:Int} (a1 : -9 ≤ a) (a2:a ≤ 9) (b1:1 ≤ b) (b2:b ≤ 6):Shr (Ac.lw a b):=by
 have p:=Ac.lw_pos (t:=a) (b:=b) (by omega)
 have e:=Ac.lw_b1 a b
 have d:(Ac.lw a b).2 ∣ b:=⟨((Int.gcd a b:Nat):Int),(Int.ediv_mul_cancel (Int.gcd_dvd_right a b)).symm⟩
 refine ⟨p,Ac.lw_gcd (by omega),Int.dvd_trans d ?_,by omega,by omega⟩
 obtain rfl | rfl | rfl | rfl | rfl | rfl:b = 1∨b = 2∨b = 3∨b = 4∨b = 5∨b = 6:=by omega
 all_goals decide
open Rw
def sp_unit17:Sp:=fun vs H Q _=>∃ n:Nat,vs = [.int n]∧n ≤ 20∧∀ p zs H',Same H H'→H p = none→H' p = some (.lst zs)→FRs H' zs (unitF n)→(∀ (j:Nat) (a:Addr),zs[j]? = some (V.ref a)→a ≠ p)→Q (.ref p) H'
theorem ok_unit {f:Addr} {fd:FuncData} (F:Fun K nm_unit nm_unit s_unit f fd) (T:Txt K mg D):FnOk P w K mg base CX0 1 f fd ps_unit sp_unit17:=by
 refine F.ok sc_unit (fun vs H Q E h=>?_) (fun cdv A outer s H vs Q E hr h=>?_)
 ·obtain ⟨n,rfl,_⟩:=h
  rfl
 ·obtain ⟨n,rfl,hn,q⟩:=h
  refine ⟨_,(pss_one (ps_ret (pe_compGCF (defScope s_unit) ["_law_many"] ["_law_many"] "_law_k" rfl rfl rfl (by decide +kernel) (by decide +kernel) rfl (fun _ _=>rfl) (fun _=>rfl) (by decide +kernel) (by decide +kernel) (by decide +kernel) (by decide +kernel) (by decide +kernel) (pi_range1 (by rfl) T.b_range (pa_cons (pv 0) pa_nil).mono) (fun _ _ _ _ _=>(pg_name (i:=0) (show List.Nodup (["_law_k", "_law_many"] : List Str) from by decide +kernel) rfl (Or.inr rfl) (Or.inl (beq_self_eq_true _)))) (fun _ _ _ _ _=>pts_nil) (fun _ _ _ _ _=>(pe_compGF2C (defScope s_unit) ["_law_k", "_law_many"] ["_law_k", "_law_many"] ["_law_j"] rfl rfl rfl (by decide +kernel) (by decide +kernel) rfl (by decide +kernel) (by decide +kernel) (by decide +kernel) (by decide +kernel) (by decide +kernel) (pi_range1 (by rfl) T.b_range (pa_cons (pv 1) pa_nil).mono) (fun _ _ _ _ _=>(pg_name (i:=0) (show List.Nodup (["_law_j", "_law_k", "_law_many"] : List Str) from by decide +kernel) rfl (Or.inl rfl) (Or.inr rfl))) (fun _ _ _ _ _=>pts_nil) (fun _ _ _ _ _=>(pe_tup (pa_cons (pe_callTy call_int1 (by rfl) T.b_int boot_int (pa_cons (pe_cmpR op_eq (pv 1) (pv 0) (nomark _)) pa_nil)) (pa_cons pe_int pa_nil))))))))),?_⟩
  refine ret_of (tCompG1_rng ?_)
  refine ⟨_,rfl,n,rfl,by omega,fun D1 hD=>⟨fun k zs Hc=>Same H Hc∧Hc D1 = some (.lst zs)∧FRs Hc zs ((unitF n).take k)∧∀ (j:Nat) (a:Addr),zs[j]? = some (V.ref a)→a ≠ D1,⟨Same.upd hD,upd_same,⟨rfl,fun k v e=>by simp at e⟩,by simp⟩,?_,?_⟩⟩
  ·rintro k zs Hc hk ⟨S1,c1,fz,nz⟩ hzl
   refine tCompG1_rng ?_
   refine ⟨_,rfl,n,rfl,by omega,fun D2 hD2=>⟨jDn D2 Hc ((List.range n).map fun j=>oneF k j),⟨Same.upd hD2,upd_same,.nil⟩,?_,?_⟩⟩
   ·rintro j ys H2 hj J hyl
    have en:((List.range n).map fun j=>oneF k j)[j]? = some (oneF k j):=by rw [List.getElem?_map,List.getElem?_range hj]; rfl
    refine ⟨_,rfl,_,rfl,rfl,.inr ⟨_,rfl,line2,fun r hr=>?_⟩⟩
    have ed:(if decide (V.int (k:Int) = V.int (j:Int)) = true then (1:Int) else 0) = (oneF k j).1:=by
     unfold oneF
     by_cases e:j = k
     ·rw [if_pos e,if_pos (decide_eq_true (by rw [e]))]
     ·rw [if_neg e,if_neg (fun z=>e (by have:=V.int.inj (of_decide_eq_true z); omega))]
    have e1:(1:Int) = (oneF k j).2:=by unfold oneF; split <;> rfl
    rw [ed,e1]
    exact ⟨(upd_ne (ne_of_none J.2.1 hr)).trans J.2.1,jDn.next hD2 J en hr⟩
   ·rintro ys H2 ⟨S2,c2,fl⟩ hyl
    rw [List.take_of_length_le (by rw [List.length_map,List.length_range]; exact Nat.le_refl _)] at fl
    have eu:(unitF n)[k]? = some ((List.range n).map fun j=>oneF k j):=by unfold unitF; rw [List.getElem?_map,List.getElem?_range hk]; rfl
    have nD:D1 ≠ D2:=ne_of_none c1 hD2
    have d1:=S2 _ _ c1
    refine ⟨d1,same_upd hD (S1.trans S2),upd_same,?_,fun j a e=>?_⟩
    ·rw [take_next eu]
     exact FRs.snoc (FRs.updL d1 (fz.same S2) nz) ((upd_ne nD.symm).trans c2) (fl.updL d1)
    ·by_cases hj:j < zs.length
     ·rw [List.getElem?_append_left hj] at e
      exact nz j a e
     ·rw [List.getElem?_append_right (by omega)] at e
      have e0:j - zs.length = 0:=by
       cases z:j - zs.length with
       | zero=>rfl
       | succ m=>rw [z] at e; simp at e
      rw [e0,List.getElem?_cons_zero] at e
      cases e
      exact nD.symm
  ·rintro zs Hc ⟨S1,c1,fz,nz⟩ hzl
   rw [List.take_of_length_le (by unfold unitF; rw [List.length_map,List.length_range]; exact Nat.le_refl _)] at fz
   exact q D1 zs Hc S1 hD c1 fz nz
open Rw
def Nn (f:Int × Int):Prop:=0 < f.2∧f.1.natAbs ≤ NN∧f.2.natAbs ≤ NN
def sp_added17:Sp:=fun vs H Q _=>∃ (l c:Addr) (xs:List V) (fss:List (List (Int × Int))) (i j:Nat) (cc:Int × Int),vs = [.ref l,.int i,.int j,.ref c]∧H l = some (.lst xs)∧FRs H xs fss∧i < fss.length∧j < fss.length∧H c = some (.tup [.int cc.1,.int cc.2])∧Nn cc∧(fAt fss i).length = (fAt fss j).length∧(fAt fss i).length ≤ 20∧(∀ f ∈ fAt fss i,Nn f)∧(∀ f ∈ fAt fss j,Nn f) ∧
 ∀ p zs H',Same H H'→H p = none→H' p = some (.lst zs)→FL H' zs (List.zipWith (addF cc) (fAt fss i) (fAt fss j))→Q (.ref p) H'
theorem ok_added {f:Addr} {fd:FuncData} (F:Fun K nm_added nm_added s_added f fd) (T:Txt K mg D) (G_lratio:OkF P w K mg base 2 nm_lratio ps_lratio sp_lratio):FnOk P w K mg base CX0 3 f fd ps_added sp_added17:=by
 refine F.ok sc_added (fun vs H Q E h=>?_) (fun cdv A outer s H vs Q E hr h=>?_)
 ·obtain ⟨l,c,xs,fss,i,j,cc,rfl,_⟩:=h
  rfl
 ·obtain ⟨l,c,xs,fss,i,j,cc,rfl,hl,fr,hi,hj,hc,sc,wij,w20,si,sj,q⟩:=h
  refine ⟨_,(pss_cons (ps_set (i:=4) sc_added.nd rfl (Or.inl rfl) (pe_lst pa_nil))
   (pss_cons (ps_for PassesOwn.never rfl (pi_zip (by rfl) T.b_zip (pa_cons (pe_ix ix_listH (pv 0) (pv 1) (fun _ _=>rfl)) (pa_cons (pe_ix ix_listH (pv 0) (pv 2) (fun _ _=>rfl)) pa_nil)).mono) (pg_tupH (n:=2) rfl (pgs_cons (pg_name (i:=5) sc_added.nd rfl (Or.inl rfl)) (pgs_cons (pg_name (i:=6) sc_added.nd rfl (Or.inl rfl)) pgs_nil)))
    (pss_cons (ps_set (i:=7) sc_added.nd rfl (Or.inl rfl) (pe_op op_mulB (pe_ix ix_tupH (pv 6) pe_int (fun _ _=>rfl)) (pe_ix ix_tupH (pv 3) pe_int (fun _ _=>rfl))))
    (pss_cons (ps_set (i:=8) sc_added.nd rfl (Or.inl rfl) (pe_op op_add (pe_op op_mulB (pe_ix ix_tupH (pv 5) pe_int (fun _ _=>rfl)) (pv 7)) (pe_op op_mulB (pe_op op_mulB (pe_ix ix_tupH (pv 6) pe_int (fun _ _=>rfl)) (pe_ix ix_tupH (pv 3) pe_int (fun _ _=>rfl))) (pe_ix ix_tupH (pv 5) pe_int (fun _ _=>rfl)))))
    (pss_one (ps_expr (pe_app (pv 4) (pa_cons (pe_callF G_lratio (hr.mono (by decide)) (by rfl) (pa_cons (pv 8) (pa_cons (pe_op op_mulB (pe_ix ix_tupH (pv 5) pe_int (fun _ _=>rfl)) (pv 7)) pa_nil))) pa_nil)))))))
   (pss_one (ps_ret (pv 4))))),?_⟩
  obtain ⟨la,ya,ea,ha,fa,_⟩:=fr.get hi
  obtain ⟨lb,yb,eb,hb,fb,_⟩:=fr.get hj
  generalize fAt fss i = fs at *
  generalize fAt fss j = gs at *
  refine ⟨Nat.zero_le _,fun p hp=>seq_of (tFor_zipM ?_)⟩
  have S1:Same H (upd H p (.lst [])):=Same.upd hp
  have e1:upd H p (.lst []) p = some (.lst []):=upd_same
  generalize upd H p (.lst []) = H1 at S1 e1 ⊢
  refine ⟨_,rfl,_,rfl,l,xs,i,_,rfl,rfl,S1 _ _ hl,atI_nat ea,_,rfl,_,rfl,l,xs,j,_,rfl,rfl,S1 _ _ hl,atI_nat eb,la,lb,ya,yb,rfl,S1 _ _ ha,S1 _ _ hb,by rw [fa.length,fb.length,wij],fun k σ H'=>∃ u v b t,σ = [some (.ref l),some (.int i),some (.int j),some (.ref c),some (.ref p),u,v,b,t]∧∃ ys,jDn p H (List.zipWith (addF cc) fs gs) k ys H',⟨none,none,none,none,rfl,[],S1,e1,.nil⟩,?_,?_⟩
  ·rintro k x y σ' H2 t hx hy ⟨u,v,b0,t0,rfl,ys,J⟩ c1 c2 ht
   obtain ⟨pa,a,rfl,ea',ha'⟩:=fa.get hx
   obtain ⟨pb,b,rfl,eb',hb'⟩:=fb.get hy
   have T3:Same H2 (upd H2 t (.tup [.ref pa,.ref pb])):=Same.upd ht
   have e3:upd H2 t (.tup [.ref pa,.ref pb]) t = some (.tup [.ref pa,.ref pb]):=upd_same
   generalize upd H2 t (.tup [.ref pa,.ref pb]) = H3 at T3 e3 ⊢
   have S3:=J.1.trans T3
   have pa3:=S3 _ _ ha'
   have pb3:=S3 _ _ hb'
   have c3:=S3 _ _ hc
   have p3:=T3 _ _ J.2.1
   obtain ⟨a0,a1,a2⟩:=si a (List.mem_of_getElem? ea')
   obtain ⟨b1',b1,b2⟩:=sj b (List.mem_of_getElem? eb')
   obtain ⟨s0,s1,s2⟩:=sc
   have m1:=mul_le b2 s2
   have m2:=mul_le b1 s1
   have m3:(a.2 * (b.2 * cc.2)).natAbs ≤ NN * NN * NN:=by rw [Nat.mul_assoc]; exact mul_le a2 m1
   have yl:ys.length ≤ 20:=by
    rw [J.2.2.length,List.length_take,List.length_zipWith]
    have:=fa.length
    omega
   have en:(List.zipWith (addF cc) fs gs)[k]? = some (addF cc a b):=by rw [List.getElem?_zipWith,ea',eb']
   refine ⟨t,_,rfl,e3,rfl,_,_,rfl,_,_,rfl,rfl,_,rfl,pb,_,1,_,rfl,rfl,pb3,atI_1,_,rfl,c,_,1,_,rfl,rfl,c3,atI_1,_,_,rfl,rfl,⟨bdN b2,bdN s2⟩,?_⟩
   refine ⟨_,rfl,pa,_,0,_,rfl,rfl,pa3,atI_0,_,rfl,_,_,rfl,rfl,⟨bdN a1,bdN2 m1⟩,_,rfl,pb,_,0,_,rfl,rfl,pb3,atI_0,_,rfl,c,_,0,_,rfl,rfl,c3,atI_0,_,_,rfl,rfl,⟨bdN b1,bdN s1⟩,_,rfl,pa,_,1,_,rfl,rfl,pa3,atI_1,_,_,rfl,rfl,⟨bdN2 m2,bdN a2⟩,_,_,rfl,rfl,?_⟩
   refine ⟨_,rfl,p,ys,rfl,p3,_,rfl,_,rfl,pa,_,1,_,rfl,rfl,pa3,atI_1,_,rfl,_,_,rfl,rfl,⟨bdN a2,bdN2 m1⟩,_,_,rfl,Int.mul_pos a0 (Int.mul_pos b1' s0),bdN3 m3,fun r hr=>?_⟩
   have T4:Same H3 (upd H3 r (.tup [.int (addF cc a b).1,.int (addF cc a b).2])):=Same.upd hr
   have p4:=T4 _ _ p3
   have c14:=T4 _ _ (T3 _ _ c1)
   have c24:=T4 _ _ (T3 _ _ c2)
   refine ⟨_,ys,rfl,p4,Nat.lt_of_le_of_lt yl (by decide),?_⟩
   have np:la ≠ p:=fun z=>by rw [z,hp] at ha; cases ha
   have nq:lb ≠ p:=fun z=>by rw [z,hp] at hb; cases hb
   exact ⟨(upd_ne np).trans c14,(upd_ne nq).trans c24,_,_,_,_,rfl,_,jDn.next hp ⟨J.1.trans T3,p3,J.2.2.same T3⟩ en hr⟩
  ·rintro σ' H2 ⟨u,v,b0,t0,rfl,ys,J⟩ _ _
   have fl:=J.2.2
   rw [List.take_of_length_le (by rw [List.length_zipWith,fa.length]; exact Nat.min_le_left _ _)] at fl
   exact ⟨_,rfl,q p ys H2 J.1 hp J.2.1 fl⟩
open Rw
def GQ (fss:List (List (Int × Int))) (i j:Nat):Rat:=vl ((fAt fss i).getD j (0,1))
structure Made (m k:Nat) (fss:List (List (Int × Int))):Prop where
 len:fss.length = m
 row:∀ fs ∈ fss,fs.length = m∧∀ f ∈ fs,FrL (60 ^ k) (600 ^ k) f
 inv:InvQ m (GQ fss)
theorem fAt_set {fss:List (List (Int × Int))} {i k:Nat} {gs:List (Int × Int)} (hi:i < fss.length):fAt (fss.set i gs) k = if k = i then gs else fAt fss k:=by
 unfold fAt
 rw [List.getD_eq_getElem?_getD,List.getD_eq_getElem?_getD,List.getElem?_set]
 by_cases e:i = k
 ·rw [if_pos e,if_pos (by omega),if_pos e.symm]; rfl
 ·rw [if_neg e,if_neg fun z=>e z.symm]
theorem Made.zero (m:Nat):Made m 0 (unitF m):=by
 refine ⟨by unfold unitF; rw [List.length_map,List.length_range],fun fs hf=>?_,(InvQ.unit m).congr fun i j hi hj=>?_⟩
 ·unfold unitF at hf
  obtain ⟨i,_,rfl⟩:=List.mem_map.mp hf
  refine ⟨by rw [List.length_map,List.length_range],fun f hf=>?_⟩
  obtain ⟨j,_,rfl⟩:=List.mem_map.mp hf
  unfold oneF
  split
  ·exact ⟨by decide,by decide,⟨1,rfl⟩,by decide⟩
  ·exact ⟨by decide,by decide,⟨1,rfl⟩,by decide⟩
 ·have e:fAt (unitF m) i = (List.range m).map fun j=>oneF i j:=by
   unfold fAt unitF
   rw [List.getD_eq_getElem?_getD,List.getElem?_map,List.getElem?_range hi]; rfl
  unfold GQ
  rw [e]
  rw [List.getD_eq_getElem?_getD,List.getElem?_map,List.getElem?_range hj]
  show _ = vl (oneF i j)
  unfold oneF
  by_cases e:j = i
  ·rw [if_pos e,if_pos e,vl_one]
  ·rw [if_neg e,if_neg e,vl_01]
theorem p60 (k:Nat):(0:Int) < 60 ^ k:=Int.pow_pos (by decide)
theorem frl_up {k:Nat} {f:Int × Int} (h:FrL (60 ^ k) (600 ^ k) f):FrL (60 ^ (k + 1)) (600 ^ (k + 1)) f:=by
 have:=h.up (p60 k) (n:=60) (by decide) (M':=600 ^ (k + 1)) (by rw [Nat.pow_succ,Nat.mul_comm]; exact Nat.mul_le_mul (Nat.le_refl _) (by decide))
 rw [← Int.pow_succ'] at this
 exact this
theorem Made.up {m k:Nat} {fss:List (List (Int × Int))} (h:Made m k fss):Made m (k + 1) fss:=⟨h.len,fun fs hf=>⟨(h.row fs hf).1,fun f hff=>frl_up ((h.row fs hf).2 f hff)⟩,h.inv⟩
theorem Made.swap {m k:Nat} {fss:List (List (Int × Int))} (h:Made m k fss) {i j:Nat} (hi:i < m) (hj:j < m):Made m (k + 1) ((fss.set i (fAt fss j)).set j (fAt fss i)):=by
 have ln:=h.len
 refine ⟨by rw [List.length_set,List.length_set]; exact ln,fun fs hf=>?_,(h.inv.swap hi hj).congr fun x y _ _=>?_⟩
 ·have hm:fs ∈ fss:=by
   rcases List.mem_or_eq_of_mem_set hf with hf | rfl
   ·rcases List.mem_or_eq_of_mem_set hf with hf | rfl
    ·exact hf
    ·exact fAt_mem (by omega)
   ·exact fAt_mem (by omega)
  exact h.up.row fs hm
 ·unfold GQ
  rw [fAt_set (by rw [List.length_set]; omega),fAt_set (by omega)]
  unfold sw
  by_cases e1:x = i
  ·subst e1
   by_cases e2:x = j
   ·subst e2; rw [if_pos rfl,if_pos rfl]
   ·rw [if_pos rfl,if_neg e2,if_pos rfl]
  ·by_cases e2:x = j
   ·subst e2; rw [if_neg e1,if_pos rfl,if_pos rfl]
   ·rw [if_neg e1,if_neg e2,if_neg e2,if_neg e1]
theorem Made.add {m k:Nat} {fss:List (List (Int × Int))} (h:Made m k fss) {i j:Nat} (hi:i < m) (hj:j < m) (ne:i ≠ j) {c:Int × Int} (sc:Shr c):Made m (k + 1) (fss.set i (List.zipWith (addF c) (fAt fss i) (fAt fss j))):=by
 have ln:=h.len
 have ri:=h.row _ (fAt_mem (show i < fss.length by omega))
 have rj:=h.row _ (fAt_mem (show j < fss.length by omega))
 refine ⟨by rw [List.length_set]; exact ln,fun fs hf=>?_,(h.inv.op hi hj (a:=1) (c:=vl c) (by decide) (.inl ne)).congr fun x y hx hy=>?_⟩
 ·rcases List.mem_or_eq_of_mem_set hf with hf | rfl
  ·exact h.up.row fs hf
  ·refine ⟨by rw [List.length_zipWith,ri.1,rj.1,Nat.min_self],fun f hf=>?_⟩
   obtain ⟨n,hn,rfl⟩:=List.mem_iff_getElem.mp hf
   rw [List.length_zipWith] at hn
   rw [List.getElem_zipWith]
   have:=add_frl (p60 k) (ri.2 _ (List.getElem_mem (show n < (fAt fss i).length by omega))) (rj.2 _ (List.getElem_mem (show n < (fAt fss j).length by omega))) sc (M':=600 ^ (k + 1)) (by rw [Nat.pow_succ,Nat.mul_comm]; exact Nat.le_refl _)
   rw [← Int.pow_succ'] at this
   exact this
 ·unfold GQ
  rw [fAt_set (by omega)]
  by_cases e:x = i
  ·rw [if_pos e,if_pos e]
   have yi:y < (fAt fss i).length:=by rw [ri.1]; exact hy
   have yj:y < (fAt fss j).length:=by rw [rj.1]; exact hy
   have ei:(fAt fss i)[y]? = some (fAt fss i)[y]:=List.getElem?_eq_getElem yi
   have ej:(fAt fss j)[y]? = some (fAt fss j)[y]:=List.getElem?_eq_getElem yj
   rw [List.getD_eq_getElem?_getD,List.getD_eq_getElem?_getD,List.getD_eq_getElem?_getD,List.getElem?_zipWith,ei,ej]
   show _ = vl (addF c (fAt fss i)[y] (fAt fss j)[y])
   rw [vl_add (ri.2 _ (List.getElem_mem yi)).pos (rj.2 _ (List.getElem_mem yj)).pos sc.pos]
   show 1 * vl (fAt fss i)[y] + vl c * vl (fAt fss j)[y] = _
   grind
  ·rw [if_neg e,if_neg e]
theorem Made.times {m k:Nat} {fss:List (List (Int × Int))} (h:Made m k fss) {i:Nat} (hi:i < m) {c:Int × Int} (sc:Shr c) (c0:c.1 ≠ 0):Made m (k + 1) (fss.set i ((fAt fss i).map fun f=>Ac.lw (f.1 * c.1) (f.2 * c.2))):=by
 have ln:=h.len
 have ri:=h.row _ (fAt_mem (show i < fss.length by omega))
 have v0:vl c ≠ 0:=fun z=>by
  have:=vl_cross sc.pos (show (0:Int) < 1 by decide) (z.trans vl_01.symm)
  rw [Int.mul_one,Int.zero_mul] at this
  exact c0 this
 refine ⟨by rw [List.length_set]; exact ln,fun fs hf=>?_,(h.inv.op hi hi (a:=vl c) (c:=0) v0 (.inr rfl)).congr fun x y hx hy=>?_⟩
 ·rcases List.mem_or_eq_of_mem_set hf with hf | rfl
  ·exact h.up.row fs hf
  ·refine ⟨by rw [List.length_map,ri.1],fun f hf=>?_⟩
   obtain ⟨g,hg,rfl⟩:=List.mem_map.mp hf
   have:=times_frl (p60 k) (ri.2 g hg) sc (M':=600 ^ (k + 1)) (by rw [Nat.pow_succ,Nat.mul_comm]; exact Nat.le_refl _)
   rw [← Int.pow_succ'] at this
   exact this
 ·unfold GQ
  rw [fAt_set (by omega)]
  by_cases e:x = i
  ·rw [if_pos e,if_pos e]
   have yi:y < (fAt fss i).length:=by rw [ri.1]; exact hy
   have ei:(fAt fss i)[y]? = some (fAt fss i)[y]:=List.getElem?_eq_getElem yi
   rw [List.getD_eq_getElem?_getD,List.getD_eq_getElem?_getD,List.getElem?_map,ei]
   show vl c * vl (fAt fss i)[y] + 0 * vl (fAt fss i)[y] = vl (Ac.lw ((fAt fss i)[y].1 * c.1) ((fAt fss i)[y].2 * c.2))
   rw [vl_times (ri.2 _ (List.getElem_mem yi)).pos sc.pos]
   grind
  ·rw [if_neg e,if_neg e]
theorem made_nn {m:Nat} {k:Nat} (hk:k ≤ 12) {fss:List (List (Int × Int))} (h:Made m k fss):∀ fs ∈ fss,∀ f ∈ fs,Nn f:=fun fs hf f hff=>by
 have q:=(h.row fs hf).2 f hff
 obtain ⟨a,b⟩:=q.size (p60 k)
 refine ⟨q.pos,Nat.le_trans a (Nat.le_trans (Nat.pow_le_pow_right (by decide) hk) (by decide +kernel)),Nat.le_trans b ?_⟩
 rw [Int.natAbs_pow]
 exact Nat.le_trans (Nat.pow_le_pow_right (by decide) hk) (by decide +kernel)
theorem fm_nat (x:Int) {n:Nat} (h:1 ≤ n):∃ i:Nat,i < n∧x.fmod n = i:=by
 have h1:=Int.fmod_nonneg_of_pos x (show (0:Int) < n by omega)
 have h2:=Int.fmod_lt_of_pos x (show (0:Int) < n by omega)
 exact ⟨(x.fmod n).toNat,by omega,by omega⟩
theorem ix_nat {n i:Nat} (h:i < n):ixN n (i:Int) = some i:=by
 unfold ixN
 rw [if_pos (by omega),if_pos (by omega)]
 congr 1
theorem max1 (m:Nat):∃ mm:Nat,1 ≤ mm∧(if (m:Int) > 1 then (m:Int) else 1) = mm∧(1 ≤ m→mm = m):=by
 by_cases e:(m:Int) > 1
 ·exact ⟨m,by omega,if_pos e,fun _=>rfl⟩
 ·exact ⟨1,Nat.le_refl _,if_neg e,fun _=>by omega⟩
theorem nx_set {p:Addr} {zs:List V} {v:V} {i:Nat} {b:Addr} (n:∀ (j:Nat) (b:Addr),zs[j]? = some (V.ref b)→b ≠ p) (hv:v = .ref b) (hb:b ≠ p):∀ (j:Nat) (b:Addr),(zs.set i v)[j]? = some (V.ref b)→b ≠ p:=fun j b' e=>by
 rw [List.getElem?_set] at e
 by_cases h:i = j
 ·rw [if_pos h] at e
  by_cases h2:i < zs.length
  ·rw [if_pos h2,hv] at e
   cases e
   exact hb
  ·rw [if_neg h2] at e; cases e
 ·rw [if_neg h] at e
  exact n j b' e
def sp_made17 (K:PySem.W.Frag) (a:Addr) (ns:List Int):Sp:=fun vs H Q _=>∃ m:Nat,vs = [.ref a,.int m]∧SqL K H a (ns.map V.int)∧ns.length ≤ 63∧m ≤ 6∧∀ p zs H' fss,Same H H'→H p = none→H' p = some (.lst zs)→FRs H' zs fss→Made m 12 fss→Q (.ref p) H'
theorem ok_made {f:Addr} {fd:FuncData} (F:Fun K nm_made nm_made s_made f fd) (T:Txt K mg D) (a:Addr) (ns:List Int) (G_stream:OkF P w K mg base 2 nm_stream ps_stream (sp_stream14 K a ns)) (G_unit:OkF P w K mg base 1 nm_unit ps_unit sp_unit17) (G_lratio:OkF P w K mg base 2 nm_lratio ps_lratio sp_lratio) (G_added:OkF P w K mg base 3 nm_added ps_added sp_added17):FnOk P w K mg base CX0 4 f fd ps_made (sp_made17 K a ns):=by
 refine F.ok sc_made (fun vs H Q E h=>?_) (fun cdv A outer s H vs Q E hr h=>?_)
 ·obtain ⟨m,rfl,_⟩:=h
  rfl
 ·obtain ⟨m,rfl,hs,hl,m6,q⟩:=h
  refine ⟨_,(pss_cons (ps_set (i:=2) sc_made.nd rfl (Or.inl rfl) (pe_callF G_unit (hr.mono (by decide)) (by rfl) (pa_cons (pv 1) pa_nil)))
   (pss_cons (ps_set (i:=3) sc_made.nd rfl (Or.inl rfl) (pe_callF G_stream (hr.mono (by decide)) (by rfl) (pa_cons (pv 0) (pa_cons pe_int (pa_cons pe_int pa_nil)))))
   (pss_cons (ps_for PassesOwn.never rfl (pi_range1 (by rfl) T.b_range (pa_cons pe_int pa_nil).mono) (pg_name (i:=4) sc_made.nd rfl (Or.inl rfl))
    (pss_cons (ps_set (i:=5) sc_made.nd rfl (Or.inl rfl) (pe_op op_modN (pe_ix ix_listH (pv 3) (pe_op op_mulB pe_int (pv 4)) (fun _ _=>rfl)) (pe_callB (call_maxB rfl) (by rfl) T.b_max boot_max (pa_cons pe_int (pa_cons (pv 1) pa_nil)))))
    (pss_cons (ps_set (i:=6) sc_made.nd rfl (Or.inl rfl) (pe_op op_modN (pe_op op_fdivB (pe_ix ix_listH (pv 3) (pe_op op_mulB pe_int (pv 4)) (fun _ _=>rfl)) pe_int) (pe_callB (call_maxB rfl) (by rfl) T.b_max boot_max (pa_cons pe_int (pa_cons (pv 1) pa_nil)))))
    (pss_cons (ps_set (i:=7) sc_made.nd rfl (Or.inr rfl) (pe_callF G_lratio (hr.mono (by decide)) (by rfl) (pa_cons (pe_op op_sub (pe_op op_mod (pe_ix ix_listH (pv 3) (pe_op op_add (pe_op op_mulB pe_int (pv 4)) pe_int) (fun _ _=>rfl)) pe_int) pe_int) (pa_cons (pe_op op_add pe_int (pe_op op_mod (pe_op op_fdivB (pe_ix ix_listH (pv 3) (pe_op op_add (pe_op op_mulB pe_int (pv 4)) pe_int) (fun _ _=>rfl)) pe_int) pe_int)) pa_nil))))
    (pss_one (ps_if (pw_and (pt_cmpR op_ne (pv 5) (pv 6) (nomark _)) (pw_and1 (pt_cmpR op_eq (pe_op op_mod (pe_op op_fdivB (pe_ix ix_listH (pv 3) (pe_op op_mulB pe_int (pv 4)) (fun _ _=>rfl)) pe_int) pe_int) pe_int (nomark _)))).pt
     (pss_cons (ps_set (i:=8) sc_made.nd rfl (Or.inl rfl) (pe_ix ix_listH (pv 2) (pv 5) (fun _ _=>rfl)))
     (pss_cons (ps_asg (pe_ix ix_listH (pv 2) (pv 6) (fun _ _=>rfl)) (pg_sub (pv 2) (pv 5) set_list))
     (pss_one (ps_asg (pv 8) (pg_sub (pv 2) (pv 6) set_list)))))
     (pss_one (ps_if (pt_cmpR op_ne (pv 5) (pv 6) (nomark _))
      (pss_one (ps_asg (pe_callF G_added (hr.mono (by decide)) (by rfl) (pa_cons (pv 2) (pa_cons (pv 5) (pa_cons (pv 6) (pa_cons (pv 7) pa_nil))))) (pg_sub (pv 2) (pv 5) set_list)))
      (pss_one (ps_if (pw_and (pt_cmpR op_gt (pv 1) pe_int (nomark _)) (pw_and1 (pt_cmpR op_ne (pe_ix ix_tupH (pv 7) pe_int (fun _ _=>rfl)) pe_int (nomark _)))).pt
       (pss_one (ps_asg (pe_compGF (defScope s_made) ["_law_script", "_law_many", "_law_rows", "_law_numbers", "_law_k", "_law_one", "_law_two", "_law_share", "_law_kept"] ["_law_script", "_law_many", "_law_rows", "_law_numbers", "_law_k", "_law_one", "_law_two", "_law_share", "_law_kept"] ["_law_top", "_law_bottom"] rfl rfl rfl (by decide +kernel) (by decide +kernel) rfl (by decide +kernel) (by decide +kernel) (by decide +kernel) (by decide +kernel) (by decide +kernel) (pi_list ((pe_ix ix_listH (pv 2) (pv 5) (fun _ _=>rfl))).mono) (fun _ _ _ _ _=>(pg_tupH (n:=2) rfl (pgs_cons (pg_name (i:=0) (show List.Nodup (["_law_top", "_law_bottom", "_law_script", "_law_many", "_law_rows", "_law_numbers", "_law_k", "_law_one", "_law_two", "_law_share", "_law_kept"] : List Str) from by decide +kernel) rfl (Or.inl rfl) (Or.inr rfl)) (pgs_cons (pg_name (i:=1) (show List.Nodup (["_law_top", "_law_bottom", "_law_script", "_law_many", "_law_rows", "_law_numbers", "_law_k", "_law_one", "_law_two", "_law_share", "_law_kept"] : List Str) from by decide +kernel) rfl (Or.inl rfl) (Or.inr rfl)) pgs_nil)))) (fun _ _ _ _ _=>pts_nil) (fun _ _ _ _ _=>(pe_callF G_lratio (hr.mono (by decide)) (by rfl) (pa_cons (pe_op op_mulB (pv 0) (pe_ix ix_tupH (pv 9) pe_int (fun _ _=>rfl))) (pa_cons (pe_op op_mulB (pv 1) (pe_ix ix_tupH (pv 9) pe_int (fun _ _=>rfl))) pa_nil))))) (pg_sub (pv 2) (pv 5) set_list)))
       pss_nil))))))))))
   (pss_one (ps_ret (pv 2)))))),?_⟩
  refine ⟨_,rfl,m,rfl,by omega,fun p z0 H1 S1 hp c1 f1 n1=>?_⟩
  refine ⟨_,rfl,2,24,rfl,Same.sql S1 hs,hl,by decide,by decide,fun lN xs H2 S2 hN c2 xl xr=>?_⟩
  have S12:=S1.trans S2
  refine seq_of (tFor_rngM ?_)
  refine ⟨12,rfl,by decide,fun k σ H'=>∃ u5 u6 u7 u8 u4 zs fss,σ = [some (.ref a),some (.int m),some (.ref p),some (.ref lN),u4,u5,u6,u7,u8]∧Same H H'∧H' p = some (.lst zs)∧FRs H' zs fss∧Made m k fss∧(∀ (j:Nat) (b:Addr),zs[j]? = some (V.ref b)→b ≠ p)∧H' lN = some (.lst (xs.map V.int)),⟨none,none,none,none,none,z0,unitF m,rfl,S12,S2 _ _ c1,f1.same S2,Made.zero m,n1,c2⟩,?_,?_⟩
  ·rintro k σ' H3 hk ⟨u5,u6,u7,u8,u4,zs,fss,rfl,S3,c3,f3,md,n3,cN⟩
   have bk:Bd (k:Int):=Bd.sm (by omega)
   have b2:Bd 2:=Bd.sm (by decide)
   have p19:(0:Int) < 19:=by decide
   have p6:(0:Int) < 6:=by decide
   have p5:(0:Int) < 5:=by decide
   have d16:(16:Int) ≠ 0∧Bd 16:=⟨by decide,Bd.sm (by decide)⟩
   have d19:(19:Int) ≠ 0∧Bd 19:=⟨by decide,Bd.sm (by decide)⟩
   have d256:(256:Int) ≠ 0∧Bd 256:=⟨by decide,Bd.sm (by decide)⟩
   have ix:∀ n:Nat,n < 24→∃ x,atI (xs.map V.int) (n:Int) = some (V.int x)∧0 ≤ x:=fun n hn=>⟨xs[n],atI_nat (by rw [List.getElem?_map,List.getElem?_eq_getElem (by omega)]; rfl),(xr _ (List.getElem_mem _)).1⟩
   obtain ⟨x1,ex1,x10⟩:=ix (2 * k) (by omega)
   rw [Int.natCast_mul] at ex1
   obtain ⟨x2,ex2,x20⟩:=ix (2 * k + 1) (by omega)
   rw [Int.natCast_add,Int.natCast_mul] at ex2
   obtain ⟨mm,mm1,eM,em⟩:=max1 m
   obtain ⟨i,hi,ei⟩:=fm_nat x1 mm1
   obtain ⟨j,hj,ej⟩:=fm_nat (x1.fdiv 16) mm1
   have n0:(if (m:Int) > 1 then (m:Int) else 1) ≠ 0:=by rw [eM]; omega
   refine ⟨_,rfl,_,rfl,2,_,rfl,rfl,⟨b2,bk⟩,lN,_,_,_,rfl,rfl,cN,ex1,_,rfl,1,_,rfl,_,_,rfl,rfl,n0,?_⟩
   refine ⟨_,rfl,_,rfl,2,_,rfl,rfl,⟨b2,bk⟩,lN,_,_,_,rfl,rfl,cN,ex1,_,16,rfl,rfl,d16,_,rfl,1,_,rfl,_,_,rfl,rfl,n0,?_⟩
   rw [eM]
   dsimp only
   rw [ei,ej]
   refine ⟨_,rfl,_,rfl,2,_,rfl,rfl,⟨b2,bk⟩,_,1,rfl,rfl,lN,_,_,_,rfl,rfl,cN,ex2,_,19,rfl,rfl,p19,_,9,rfl,rfl,_,rfl,_,rfl,2,_,rfl,rfl,⟨b2,bk⟩,_,1,rfl,rfl,lN,_,_,_,rfl,rfl,cN,ex2,_,19,rfl,rfl,d19,_,6,rfl,rfl,p6,1,_,rfl,rfl,_,_,rfl,by omega,Bd.sm (by omega),fun r hr'=>?_⟩
   have sc:Shr (Ac.lw (x2 % 19 - 9) (1 + x2.fdiv 19 % 6)):=shr_lw (by omega) (by omega) (by omega) (by omega)
   generalize Ac.lw (x2 % 19 - 9) (1 + x2.fdiv 19 % 6) = cc at sc ⊢
   have T4:Same H3 (upd H3 r (.tup [.int cc.1,.int cc.2])):=Same.upd hr'
   have e4:upd H3 r (.tup [.int cc.1,.int cc.2]) r = some (.tup [.int cc.1,.int cc.2]):=upd_same
   generalize upd H3 r (.tup [.int cc.1,.int cc.2]) = H4 at T4 e4 ⊢
   have S4:=S3.trans T4
   have c4:=T4 _ _ c3
   have f4:=f3.same T4
   have N4:=T4 _ _ cN
   have zl:zs.length = m:=by rw [f3.len,md.len]
   have ccn:Nn cc:=by
    have h1:=sc.lo
    have h2:=sc.hi
    have h3:=sc.pos
    have h4:=Int.le_of_dvd (by decide) sc.d60
    exact ⟨sc.pos,Nat.le_trans (show cc.1.natAbs ≤ 9 by omega) (by decide +kernel),Nat.le_trans (show cc.2.natAbs ≤ 60 by omega) (by decide +kernel)⟩
   have pN:p ≠ lN:=fun z=>by rw [← z,c1] at hN; cases hN
   by_cases e:i = j
   ·have ne:¬ (!decide (V.int (i:Int) = V.int (j:Int))) = true:=by rw [e]; simp
    refine ⟨_,rfl,_,rfl,rfl,_,rfl,ite2 (fun h=>absurd h ne) fun _=>ite2 (fun z=>by cases z) fun _=>⟨_,rfl,_,rfl,rfl,_,rfl,ite2 (fun h=>absurd h ne) fun _=>?_⟩⟩
    refine ⟨_,rfl,_,_,rfl,rfl,_,rfl,ite2 (fun h1=>⟨_,rfl,r,_,0,_,rfl,rfl,e4,atI_0,rfl,_,rfl,ite2 (fun h2=>?_) fun _=>⟨_,_,_,_,_,zs,fss,rfl,S4,c4,f4,md.up,n3,N4⟩⟩) fun _=>ite2 (fun z=>by cases z) fun _=>⟨_,_,_,_,_,zs,fss,rfl,S4,c4,f4,md.up,n3,N4⟩⟩
    have m0:1 ≤ m:=by
     have:(0:Int) < m:=of_decide_eq_true h1
     omega
    have c0:cc.1 ≠ 0:=fun z=>by rw [z] at h2; simp at h2
    have him:i < m:=by rw [em m0] at hi; exact hi
    obtain ⟨li,yi,ey,hli,fi,mi⟩:=f4.get (i:=i) (by rw [md.len]; exact him)
    have wi:=(md.row _ mi).1
    have sn:=made_nn (by omega) md _ mi
    have mt:=md.times him sc c0
    generalize fAt fss i = fs at *
    refine asg_of (tCompG_list ?_)
    refine ⟨_,rfl,_,rfl,p,zs,i,_,rfl,rfl,c4,atI_nat ey,li,yi,rfl,hli,by rw [fi.length,wi]; exact Nat.le_trans m6 (by decide),fun D2 hD2=>⟨jDn D2 H4 (fs.map fun f=>Ac.lw (f.1 * cc.1) (f.2 * cc.2)),⟨Same.upd hD2,upd_same,.nil⟩,?_,?_⟩⟩
    ·rintro n x5 ys Hc hn J hyl hlc pre hpre
     obtain ⟨v0,v1,rfl⟩:=two_of hpre
     obtain ⟨pf,f0,rfl,hf,hpf⟩:=fi.get hn
     obtain ⟨q0,q1,q2⟩:=sn f0 (List.mem_of_getElem? hf)
     have T5:=J.1
     have c5:=J.2.1
     have en:(fs.map fun f=>Ac.lw (f.1 * cc.1) (f.2 * cc.2))[n]? = some (Ac.lw (f0.1 * cc.1) (f0.2 * cc.2)):=by rw [List.getElem?_map,hf]; rfl
     refine ⟨pf,_,rfl,T5 _ _ hpf,rfl,_,_,rfl,_,_,rfl,rfl,[some (.int f0.1),some (.int f0.2)],rfl,rfl,?_⟩
     exact ⟨_,rfl,_,rfl,r,_,0,_,rfl,rfl,T5 _ _ e4,atI_0,_,_,rfl,rfl,⟨bdN q1,bdN ccn.2.1⟩,_,rfl,_,rfl,r,_,1,_,rfl,rfl,T5 _ _ e4,atI_1,_,_,rfl,rfl,⟨bdN q2,bdN ccn.2.2⟩,_,_,rfl,Int.mul_pos q0 sc.pos,bdN2 (mul_le q2 ccn.2.2),fun t ht=>⟨(upd_ne (ne_of_none c5 ht)).trans c5,(upd_ne (ne_of_none hlc ht)).trans hlc,jDn.next hD2 J en ht⟩⟩
    ·rintro ys Hc ⟨T5,c5,fl⟩ hyl
     rw [List.take_of_length_le (by rw [List.length_map,fi.length]; exact Nat.le_refl _)] at fl
     have nD:D2 ≠ p:=(ne_of_none c4 hD2).symm
     exact ⟨_,rfl,_,rfl,p,zs,i,i,rfl,rfl,T5 _ _ c4,ix_nat (by rw [zl]; exact him),_,_,_,_,_,_,_,rfl,same_upd hp (S4.trans T5),upd_same,FRs.set (FRs.updL (T5 _ _ c4) (f4.same T5) n3) (by rw [md.len]; exact him) ((upd_ne nD).trans c5) (fl.updL (T5 _ _ c4)),mt,nx_set n3 rfl nD,(upd_ne pN.symm).trans (T5 _ _ N4)⟩
   ·have ne:(!decide (V.int (i:Int) = V.int (j:Int))) = true:=by
     rw [decide_eq_false fun z=>e (by have:=V.int.inj z; omega)]; rfl
    have m0:1 ≤ m:=by
     by_cases z:1 ≤ m
     ·exact z
     ·have:mm = 1:=by
       have z:m = 0:=by omega
       rw [z] at eM
       have eM:(1:Int) = mm:=eM
       omega
      omega
    have him:i < m:=by rw [em m0] at hi; exact hi
    have hjm:j < m:=by rw [em m0] at hj; exact hj
    have hif:i < fss.length:=by rw [md.len]; exact him
    have hjf:j < fss.length:=by rw [md.len]; exact hjm
    obtain ⟨li,yi,ey,hli,fi,mi⟩:=f4.get hif
    obtain ⟨lj,yj,ey2,hlj,fj,mj⟩:=f4.get hjf
    have nli:=n3 i li ey
    have nlj:=n3 j lj ey2
    refine ⟨_,rfl,_,rfl,rfl,_,rfl,ite2 (fun _=>⟨_,rfl,_,rfl,2,_,rfl,rfl,⟨b2,bk⟩,lN,_,_,_,rfl,rfl,N4,ex1,_,256,rfl,rfl,d256,_,5,rfl,rfl,p5,rfl,_,rfl,ite2 (fun _=>?_) fun _=>⟨_,rfl,_,rfl,rfl,_,rfl,ite2 (fun _=>?_) fun h=>absurd ne h⟩⟩) fun h=>absurd ne h⟩
    ·refine ⟨_,rfl,_,rfl,p,zs,i,_,rfl,rfl,c4,atI_nat ey,_,rfl,_,rfl,p,zs,j,_,rfl,rfl,c4,atI_nat ey2,_,rfl,_,rfl,p,zs,i,i,rfl,rfl,c4,ix_nat (by rw [zl]; exact him),?_⟩
     refine ⟨_,rfl,_,rfl,_,rfl,p,_,j,j,rfl,rfl,upd_same,ix_nat (by rw [List.length_set,zl]; exact hjm),_,_,_,_,_,_,_,rfl,same_upd hp (same_upd hp S4),upd_same,?_,md.swap him hjm,nx_set (nx_set n3 rfl nlj) rfl nli,(upd_ne pN.symm).trans ((upd_ne pN.symm).trans N4)⟩
     have f5:FRs (upd H4 p (.lst (zs.set i (.ref lj)))) (zs.set i (.ref lj)) (fss.set i (fAt fss j)):=FRs.set (FRs.updL c4 f4 n3) hif ((upd_ne nlj).trans hlj) (fj.updL c4)
     refine FRs.set (FRs.updL upd_same f5 (nx_set n3 rfl nlj)) (by rw [List.length_set]; exact hjf) ((upd_ne nli).trans ((upd_ne nli).trans hli)) ((fi.updL c4).updL upd_same)
    ·refine ⟨_,rfl,_,rfl,_,rfl,_,rfl,p,r,zs,fss,i,j,cc,rfl,c4,f4,hif,hjf,e4,ccn,by rw [(md.row _ mi).1,(md.row _ mj).1],by rw [(md.row _ mi).1]; omega,made_nn (by omega) md _ mi,made_nn (by omega) md _ mj,fun D2 ys H5 T5 hD2 c5 fl=>?_⟩
     have nD:D2 ≠ p:=(ne_of_none c4 hD2).symm
     exact ⟨_,rfl,_,rfl,p,zs,i,i,rfl,rfl,T5 _ _ c4,ix_nat (by rw [zl]; exact him),_,_,_,_,_,_,_,rfl,same_upd hp (S4.trans T5),upd_same,FRs.set (FRs.updL (T5 _ _ c4) (f4.same T5) n3) hif ((upd_ne nD).trans c5) (fl.updL (T5 _ _ c4)),md.add him hjm e sc,nx_set n3 rfl nD,(upd_ne pN.symm).trans (T5 _ _ N4)⟩
  ·rintro σ' H3 ⟨u5,u6,u7,u8,u4,zs,fss,rfl,S3,c3,f3,md,n3,cN⟩
   exact ⟨_,rfl,q p zs H3 fss S3 hp c3 f3 md⟩
open Rw
def Ans17 (m:Nat) (as:List (Int × Int)):Prop:=as.length = m∧∃ B:Int,0 < B∧B ≤ 10 ^ 6∧∀ f ∈ as,FrL (60 * B) (6 * 10 ^ 13) f
theorem shr_frl {c:Int × Int} (h:Shr c) {B:Int} (b0:0 < B) (b6:B ≤ 10 ^ 6):FrL (60 * B) (6 * 10 ^ 13) c:=by
 obtain ⟨m,hm⟩:=h.d60
 have k:FrL 60 540 c:=by
  obtain ⟨s,e,b⟩:=h.whole
  refine ⟨h.pos,h.gcd,h.d60,?_⟩
  have:c.1 * (60 / c.2) = s:=by
   rw [hm,Int.mul_ediv_cancel_left _ (Int.ne_of_gt h.pos)]
   rw [hm] at e
   refine Int.eq_of_mul_eq_mul_right (Int.ne_of_gt h.pos) ?_
   rw [← e]; ac_rfl
  rw [this]; exact b
 have:=k.up (by decide) b0 (M':=6 * 10 ^ 13) (by omega)
 rw [Int.mul_comm] at this
 exact this
theorem far_frl {t b:Int} (ht:t.natAbs ≤ 10 ^ 12) (b1:1 ≤ b) (b6:b ≤ 10 ^ 6):0 < (Ac.lw t b).2∧(Ac.lw t b).2 ≤ 10 ^ 6∧FrL (60 * (Ac.lw t b).2) (6 * 10 ^ 13) (Ac.lw t b):=by
 have p:=Ac.lw_pos (t:=t) (b:=b) (by omega)
 have g:=Ac.lw_gcd (t:=t) (b:=b) (by omega)
 have e1:=Ac.lw_b1 t b
 have e2:=Ac.lw_b2 t b
 generalize Ac.lw t b = f at *
 refine ⟨p,by omega,p,g,⟨60,Int.mul_comm _ _⟩,?_⟩
 rw [Int.mul_ediv_cancel _ (Int.ne_of_gt p),Int.natAbs_mul]
 exact Nat.le_trans (Nat.mul_le_mul (Nat.le_trans e1 ht) (Nat.le_refl _)) (by decide)
def sp_answer17 (K:PySem.W.Frag) (a:Addr) (ns:List Int):Sp:=fun vs H Q _=>∃ m:Nat,vs = [.ref a,.int m]∧SqL K H a (ns.map V.int)∧ns.length ≤ 63∧m ≤ 6∧∀ p zs H' as,Same H H'→H p = none→H' p = some (.lst zs)→FL H' zs as→Ans17 m as→Q (.ref p) H'
theorem ok_answer {f:Addr} {fd:FuncData} (F:Fun K nm_answer nm_answer s_answer f fd) (T:Txt K mg D) (a:Addr) (ns:List Int) (G_cell:OkF P w K mg base 1 nm_cell ps_cell (sp_cell K a ns)) (G_stream:OkF P w K mg base 2 nm_stream ps_stream (sp_stream14 K a ns)) (G_lratio:OkF P w K mg base 2 nm_lratio ps_lratio sp_lratio):FnOk P w K mg base CX0 3 f fd ps_answer (sp_answer17 K a ns):=by
 refine F.ok sc_answer (fun vs H Q E h=>?_) (fun cdv A outer s H vs Q E hr h=>?_)
 ·obtain ⟨m,rfl,_⟩:=h
  rfl
 ·obtain ⟨m,rfl,hs,hl,m6,q⟩:=h
  refine ⟨_,(pss_cons (ps_set (i:=2) sc_answer.nd rfl (Or.inl rfl) (pe_callF G_stream (hr.mono (by decide)) (by rfl) (pa_cons (pv 0) (pa_cons pe_int (pa_cons (pv 1) pa_nil)))))
   (pss_cons (ps_compGF (defScope s_answer) ["_law_script", "_law_many", "_law_numbers", "_law_found", "_law_far"] ["_law_script", "_law_many", "_law_numbers", "_law_found", "_law_far"] ["_law_number"] rfl rfl rfl (by decide +kernel) (by decide +kernel) rfl (by decide +kernel) (by decide +kernel) (by decide +kernel) (by decide +kernel) (by decide +kernel) (pi_list ((pv 2)).mono) (fun _ _ _ _ _=>(pg_name (i:=0) (show List.Nodup (["_law_number", "_law_script", "_law_many", "_law_numbers", "_law_found", "_law_far"] : List Str) from by decide +kernel) rfl (Or.inl rfl) (Or.inr rfl))) (fun _ _ _ _ _=>pts_nil) (fun _ _ _ _ _=>(pe_callF G_lratio (hr.mono (by decide)) (by rfl) (pa_cons (pe_op op_sub (pe_op op_mod (pv 0) pe_int) pe_int) (pa_cons (pe_op op_add pe_int (pe_op op_mod (pe_op op_fdivB (pv 0) pe_int) pe_int)) pa_nil)))) (pg_name (i:=3) sc_answer.nd rfl (Or.inl rfl)))
   (pss_cons (ps_if (pw_and (pt_cmpR op_gt (pv 1) pe_int (nomark _)) (pw_and1 (pt_cmpR op_eq (pe_op op_mod (pe_callF G_cell (hr.mono (by decide)) (by rfl) (pa_cons (pv 0) (pa_cons pe_int pa_nil))) pe_int) pe_int (nomark _)))).pt
    (pss_cons (ps_set (i:=4) sc_answer.nd rfl (Or.inl rfl) (pe_op op_sub (pe_op op_mod (pe_callF G_cell (hr.mono (by decide)) (by rfl) (pa_cons (pv 0) (pa_cons pe_int pa_nil))) (pe_op op_pow pe_int pe_int)) (pe_op op_pow pe_int pe_int)))
    (pss_one (ps_asg (pe_callF G_lratio (hr.mono (by decide)) (by rfl) (pa_cons (pv 4) (pa_cons (pe_op op_add pe_int (pe_op op_mod (pe_callF G_cell (hr.mono (by decide)) (by rfl) (pa_cons (pv 0) (pa_cons pe_int pa_nil))) (pe_op op_pow pe_int pe_int))) pa_nil))) (pg_sub (pv 3) (pe_op op_modN (pe_ix ix_listH (pv 2) pe_int (fun _ _=>rfl)) (pv 1)) set_list))))
    pss_nil)
   (pss_one (ps_ret (pv 3)))))),?_⟩
  have p19:(0:Int) < 19:=by decide
  have p6:(0:Int) < 6:=by decide
  have p4:(0:Int) < 4:=by decide
  have d19:(19:Int) ≠ 0∧Bd 19:=⟨by decide,Bd.sm (by decide)⟩
  refine ⟨_,rfl,_,rfl,26,m,rfl,hs,hl,by decide,by omega,fun lN xs H1 S1 hN c1 xl xr=>?_⟩
  refine seq_asg (tCompG1_list ?_)
  refine ⟨_,rfl,lN,_,rfl,c1,by rw [List.length_map,xl]; exact Nat.le_trans m6 (by decide),fun D1 hD=>⟨fun k ys Hc=>Same H1 Hc∧Hc D1 = some (.lst ys)∧∃ fs:List (Int × Int),FL Hc ys fs∧fs.length = k∧∀ f ∈ fs,Shr f,⟨Same.upd hD,upd_same,[],.nil,rfl,by simp⟩,?_,?_⟩⟩
  ·rintro k x ys Hc hk ⟨S2,c2,fs,fl,fk,sf⟩ hyl hlc
   obtain ⟨x1,hx1,rfl⟩ : ∃ m,m ∈ xs∧V.int m = x:=List.mem_map.mp (List.mem_of_getElem? hk)
   have x0:=(xr x1 hx1).1
   refine ⟨_,rfl,_,19,rfl,rfl,p19,_,9,rfl,rfl,_,rfl,_,19,rfl,rfl,d19,_,6,rfl,rfl,p6,1,_,rfl,rfl,_,_,rfl,by omega,Bd.sm (by omega),fun r hr'=>?_⟩
   have sc:Shr (Ac.lw (x1 % 19 - 9) (1 + x1.fdiv 19 % 6)):=shr_lw (by omega) (by omega) (by omega) (by omega)
   generalize Ac.lw (x1 % 19 - 9) (1 + x1.fdiv 19 % 6) = cc at sc ⊢
   have T3:Same Hc (upd Hc r (.tup [.int cc.1,.int cc.2])):=Same.upd hr'
   have e3:upd Hc r (.tup [.int cc.1,.int cc.2]) r = some (.tup [.int cc.1,.int cc.2]):=upd_same
   generalize upd Hc r (.tup [.int cc.1,.int cc.2]) = H3 at T3 e3 ⊢
   refine ⟨T3 _ _ c2,T3 _ _ hlc,same_upd hD (S2.trans T3),upd_same,fs ++ [cc],((fl.same T3).append (.cons e3 .nil)).updL (T3 _ _ c2),by rw [List.length_append,fk]; rfl,fun f hf=>?_⟩
   rcases List.mem_append.mp hf with y | y
   ·exact sf f y
   ·rw [List.mem_singleton.mp y]; exact sc
  ·rintro zs H2 ⟨S2,c2,fs,fl,fk,sf⟩ hyl
   rw [List.length_map,xl] at fk
   have S12:=S1.trans S2
   have fD:=S1.free hD
   have stay:Ans17 m fs:=⟨fk,1,by decide,by decide,fun f hf=>shr_frl (sf f hf) (by decide) (by decide)⟩
   have fin:=q D1 zs H2 fs S12 fD c2 fl stay
   refine ⟨_,rfl,_,_,rfl,rfl,_,rfl,ite2 (fun h=>⟨_,rfl,1,rfl,Same.sql S12 hs,hl,by decide,_,4,rfl,rfl,p4,rfl,_,rfl,ite2 (fun _=>?_) fun _=>⟨_,rfl,fin⟩⟩) fun _=>ite2 (fun z=>by cases z) fun _=>⟨_,rfl,fin⟩⟩
   have m1:1 ≤ m:=by
    have:(0:Int) < m:=of_decide_eq_true h
    omega
   have c12:CPow 10 12:=by constructor <;> decide
   have c11:CPow 10 11:=by constructor <;> decide
   have c6:CPow 10 6:=by constructor <;> decide
   have t12:(0:Int) < 10 ^ (12:Int).toNat:=by decide
   have t6:(0:Int) < 10 ^ (6:Int).toNat:=by decide
   have k26:(cell ns 26 % 10 ^ (12:Int).toNat - 10 ^ (11:Int).toNat).natAbs ≤ 10 ^ 12:=by
    have e12:(10:Int) ^ (12:Int).toNat = 1000000000000:=by decide
    have e11:(10:Int) ^ (11:Int).toNat = 100000000000:=by decide
    rw [e12,e11]
    omega
   have k27:1 ≤ 1 + cell ns 27 % 10 ^ (6:Int).toNat∧1 + cell ns 27 % 10 ^ (6:Int).toNat ≤ 10 ^ 6:=by
    have e6:(10:Int) ^ (6:Int).toNat = 1000000:=by decide
    rw [e6]
    omega
   refine ⟨_,rfl,26,rfl,Same.sql S12 hs,hl,by decide,10,12,rfl,rfl,c12,_,_,rfl,rfl,t12,10,11,rfl,rfl,c11,_,_,rfl,rfl,?_⟩
   refine ⟨_,rfl,_,rfl,27,rfl,Same.sql S12 hs,hl,by decide,10,6,rfl,rfl,c6,_,_,rfl,rfl,t6,1,_,rfl,rfl,_,_,rfl,by omega,Bd.sm (by omega),fun r hr'=>?_⟩
   obtain ⟨B0,B6,ff⟩:=far_frl (t:=cell ns 26 % 10 ^ (12:Int).toNat - 10 ^ (11:Int).toNat) (b:=1 + cell ns 27 % 10 ^ (6:Int).toNat) k26 k27.1 k27.2
   generalize Ac.lw (cell ns 26 % 10 ^ (12:Int).toNat - 10 ^ (11:Int).toNat) (1 + cell ns 27 % 10 ^ (6:Int).toNat) = cc at B0 B6 ff ⊢
   have T3:Same H2 (upd H2 r (.tup [.int cc.1,.int cc.2])):=Same.upd hr'
   have e3:upd H2 r (.tup [.int cc.1,.int cc.2]) r = some (.tup [.int cc.1,.int cc.2]):=upd_same
   generalize upd H2 r (.tup [.int cc.1,.int cc.2]) = H3 at T3 e3 ⊢
   have x0:atI (xs.map V.int) 0 = some (V.int (xs[0]'(by omega))):=atI_nat (j:=0) (by rw [List.getElem?_map,List.getElem?_eq_getElem (by omega)]; rfl)
   obtain ⟨i,hi,ei⟩:=fm_nat (xs[0]'(by omega)) m1
   have zl:zs.length = m:=by rw [hyl,List.length_map,xl]
   refine ⟨_,rfl,_,rfl,lN,_,0,_,rfl,rfl,T3 _ _ (S2 _ _ c1),x0,_,rfl,_,_,rfl,rfl,by omega,D1,zs,_,i,rfl,rfl,T3 _ _ c2,by rw [ei]; exact ix_nat (by rw [zl]; exact hi),_,rfl,?_⟩
   refine q D1 _ _ (fs.set i cc) (same_upd fD (S12.trans T3)) fD upd_same ((FL.set e3 i (fl.same T3)).updL (T3 _ _ c2)) ⟨by rw [List.length_set]; exact fk,cc.2,B0,B6,fun f hf=>?_⟩
   rcases List.mem_or_eq_of_mem_set hf with y | y
   ·exact shr_frl (sf f y) B0 B6
   ·rw [y]; exact ff
def sp_many_by (K:PySem.W.Frag) (a:Addr) (ns:List Int):Sp:=fun vs H Q _=>vs = [.ref a]∧SqL K H a (ns.map V.int)∧ns.length ≤ 63∧∀ m:Nat,m ≤ 6→Q (.int m) H
theorem ok_many_by {f:Addr} {fd:FuncData} (F:Fun K nm_many_by nm_many_by s_many_by f fd) (T:Txt K mg D) (a:Addr) (ns:List Int) (G_cell:OkF P w K mg base 1 nm_cell ps_cell (sp_cell K a ns)):FnOk P w K mg base CX0 2 f fd ps_many_by (sp_many_by K a ns):=by
 refine F.ok sc_many_by (fun vs H Q E h=>?_) (fun cdv A outer s H vs Q E hr h=>?_)
 ·obtain ⟨rfl,_⟩:=h
  rfl
 ·obtain ⟨rfl,hs,hl,q⟩:=h
  refine ⟨_,(pss_cons (ps_set (i:=1) sc_many_by.nd rfl (Or.inl rfl) (pe_op op_mod (pe_callF G_cell (hr.mono (by decide)) (by rfl) (pa_cons (pv 0) (pa_cons pe_int pa_nil))) pe_int))
   (pss_cons (ps_if (pt_cmpR op_eq (pe_op op_mod (pe_op op_fdivB (pe_op op_mod (pe_callF G_cell (hr.mono (by decide)) (by rfl) (pa_cons (pv 0) (pa_cons pe_int pa_nil))) pe_int) pe_int) pe_int) pe_int (nomark _))
    (pss_one (ps_set (i:=1) sc_many_by.nd rfl (Or.inl rfl) pe_int))
    pss_nil)
   (pss_one (ps_ret (pv 1))))),?_⟩
  have p6:(0:Int) < 6:=by decide
  have p8:(0:Int) < 8:=by decide
  have pn:(0:Int) < 1000003:=by decide
  have d6:(6:Int) ≠ 0∧Bd 6:=⟨by decide,Bd.sm (by decide)⟩
  obtain ⟨n,hn⟩ : ∃ n:Nat,cell ns 0 % 6 = n:=⟨(cell ns 0 % 6).toNat,by omega⟩
  have q':=q n (by omega)
  rw [← hn] at q'
  exact ⟨_,rfl,0,rfl,hs,hl,by decide,_,6,rfl,rfl,p6,_,rfl,0,rfl,hs,hl,by decide,_,1000003,rfl,rfl,pn,_,6,rfl,rfl,d6,_,8,rfl,rfl,p8,rfl,_,rfl,ite2 (fun _=>⟨_,rfl,q 6 (Nat.le_refl _)⟩) fun _=>⟨_,rfl,q'⟩⟩
open Rw
theorem FLK.shows {H:Hp} : ∀ {xs:List V} {fs:List (Int × Int)},FLK K H xs fs→ShowsAllK K H xs (fs.map frD)
 | _,_,.nil=>.nil
 | _,_,.cons e t=>.cons (.tup e (.cons (.int _) (.cons (.int _) .nil))) (FLK.shows t)
def sp_tells17 (K:PySem.W.Frag):Sp:=fun vs H Q _=>∃ (t l a b:Addr) (zs ys:List V) (as:List (Int × Int)),vs = [.ref t,.ref l]∧H t = some (.tup [.str "one",.ref a,.ref b])∧H a = some (.lst zs)∧FLK K H zs as∧H l = some (.lst ys)∧FL H ys as∧as.length ≤ 20∧(∀ f ∈ as,Lo f)∧∀ H',Same H H'→Q (.bl true) H'
theorem ok_tells {f:Addr} {fd:FuncData} (F:Fun K nm_tells nm_tells s_tells f fd) (T:Txt K mg D) (G_fractions:OkF P w K mg base 3 nm_fractions ps_fractions (sp_fractions14 K)):FnOk P w K mg base CX0 4 f fd ps_tells (sp_tells17 K):=by
 refine F.ok sc_tells (fun vs H Q E h=>?_) (fun cdv A outer s H vs Q E hr h=>?_)
 ·obtain ⟨t,l,a,b,zs,ys,as,rfl,_⟩:=h
  rfl
 ·obtain ⟨t,l,a,b,zs,ys,as,rfl,ht,ha,fa,hl,fl,a20,lo,q⟩:=h
  refine ⟨_,(pss_cons (ps_if (pw_or (pt_not (pt_tru (pe_callB call_isi (by rfl) T.b_isinstance boot_isinstance (pa_cons (pv 0) (pa_cons (pe_bltn (v:=.ty "tuple") (by rfl) T.b_tuple boot_tuple rfl) pa_nil))) (fun _=>rfl))) (pw_or (pt_cmpR op_ne (pe_callB call_lenT (by rfl) T.b_len PySem.boot_len (pa_cons (pv 0) pa_nil)) pe_int (nomark _)) (pw_or1 (pt_cmpR op_ne (pe_ix ix_tupH (pv 0) pe_int (fun _ _=>rfl)) pe_str (nomark _))))).pt
    (pss_one (ps_ret pe_bl))
    pss_nil)
   (pss_one (ps_ret (pe_and (pe_callF G_fractions (hr.mono (by decide)) (by rfl) (pa_cons (pe_ix ix_tupH (pv 0) pe_int (fun _ _=>rfl)) (pa_cons (pe_callB call_lenL (by rfl) T.b_len PySem.boot_len (pa_cons (pv 1) pa_nil)) pa_nil))) (pe_one (pe_cmpR (op_eqKK (K:=K) rfl hr.units) (pe_ix ix_tupH (pv 0) pe_int (fun _ _=>rfl)) (pv 1) (nomark _))))))),?_⟩
  have mT : "tuple" ∈ ["bool", "int", "str", "list", "tuple", "dict"]:=by decide
  have l3:¬ (!decide (V.int ((3:Nat):Int) = V.int 3)) = true:=by decide
  have w1:¬ (!decide (V.str (Str.ofString "one") = V.str (Str.ofString "one"))) = true:=by simp
  have yl:ys.length = as.length:=fl.length
  refine ⟨_,rfl,_, "tuple",_,rfl,mT,tyS_tup ht,_,rfl,ite2 (fun z=>absurd z (by decide)) fun _=>⟨_,rfl,t,_,rfl,ht,rfl,_,rfl,ite2 (fun z=>absurd z l3) fun _=>⟨_,rfl,t,_,0,_,rfl,rfl,ht,atI_0,rfl,_,rfl,ite2 (fun z=>absurd z w1) fun _=>?_⟩⟩⟩
  refine ⟨_,rfl,t,_,1,_,rfl,rfl,ht,atI_1,_,rfl,l,ys,rfl,hl,a,zs,as,ys.length,rfl,ha,fa,yl.symm,by omega,lo,fun H' S'=>⟨_,rfl,?_⟩⟩
  rw [if_pos rfl]
  have fin:=q H' S'
  rw [← eqv_frs as] at fin
  exact ⟨_,rfl,t,_,1,_,rfl,rfl,S' _ _ ht,atI_1,_,rfl,_,_,.lst (S' _ _ ha) (fa.same S').shows,.lst (S' _ _ hl) ((flk_of fl).same S').shows,shaped_frs as,shaped_frs as,fin⟩
def sp_word17:Sp:=fun vs H Q _=>∃ (t:Addr) (x:Str) (rest:List V),vs = [.ref t,.str x]∧H t = some (.tup (.str x :: rest))∧rest.length ≤ 5∧Q (.bl true) H
theorem ok_word {f:Addr} {fd:FuncData} (F:Fun K nm_word nm_word s_word f fd) (T:Txt K mg D):FnOk P w K mg base CX0 1 f fd ps_word sp_word17:=by
 refine F.ok sc_word (fun vs H Q E h=>?_) (fun cdv A outer s H vs Q E hr h=>?_)
 ·obtain ⟨t,x,rest,rfl,_⟩:=h
  rfl
 ·obtain ⟨t,x,rest,rfl,ht,hr5,q⟩:=h
  refine ⟨_,(pss_one (ps_ret (pe_and (pe_callB call_isi (by rfl) T.b_isinstance boot_isinstance (pa_cons (pv 0) (pa_cons (pe_bltn (v:=.ty "tuple") (by rfl) T.b_tuple boot_tuple rfl) pa_nil))) (pe_and (pe_cmpR op_gt (pe_callB call_lenT (by rfl) T.b_len PySem.boot_len (pa_cons (pv 0) pa_nil)) pe_int (nomark _)) (pe_one (pe_cmpR op_eq (pe_ix ix_tupH (pv 0) pe_int (fun _ _=>rfl)) (pv 1) (nomark _))))))),?_⟩
  have mT : "tuple" ∈ ["bool", "int", "str", "list", "tuple", "dict"]:=by decide
  have lp:decide ((0:Int) < ((V.str x :: rest).length:Nat)) = true:=decide_eq_true (by rw [List.length_cons]; omega)
  have fin:Q (.bl (decide (V.str x = V.str x))) H:=by rw [decide_eq_true rfl]; exact q
  refine ⟨_,rfl,_, "tuple",_,rfl,mT,tyS_tup ht,_,rfl,?_⟩
  rw [if_pos (by decide)]
  refine ⟨_,rfl,t,_,rfl,ht,_,_,rfl,rfl,_,rfl,?_⟩
  rw [if_pos lp]
  exact ⟨_,rfl,t,_,0,_,rfl,rfl,ht,atI_0,_,rfl,rfl,fin⟩
theorem next_of {D:Ends} {σ:L2.St} {H:Hp} (h:D.nx σ H):tNext D σ H:=h
theorem ifnot_all {te:TE} {r:List V→Hp→VK→Prop} {t u:TS} {D:Ends} {σ:L2.St} {H:Hp} (h:te σ H fun x H1=>r [x] H1 fun y H2=>∃ k,truB y = some k∧if (!k) = true then t D σ H2 else u D σ H2):tIfS (tNot (tTru (tCB r (tCons te tNil)))) t u D σ H:=h
def sp_both17 (K:PySem.W.Frag):Sp:=fun vs H Q _=>∃ (l b:Addr) (xs us:List V) (fss lss:List (List (Int × Int))) (m:Nat),vs = [.ref l,.ref b]∧H l = some (.lst xs)∧FRs H xs fss∧H b = some (.lst us)∧FRs H us lss∧fss.length = m∧lss.length = m∧m ≤ 8∧(∀ fs ∈ fss,fs.length = m∧Sz fs)∧(∀ ls ∈ lss,ls.length = m∧∀ f ∈ ls,Lo f)∧(∀ k j,k < m→j < m→(prF (fAt fss k) (colF lss j) (0,1)).1 = (if j = k then 1 else 0) * (prF (fAt fss k) (colF lss j) (0,1)).2)∧∀ H',Same H H'→Q (.bl true) H'
theorem ok_both_ways {f:Addr} {fd:FuncData} (F:Fun K nm_both_ways nm_both_ways s_both_ways f fd) (T:Txt K mg D) (G_fractions:OkF P w K mg base 3 nm_fractions ps_fractions (sp_fractions14 K)) (G_comes:OkF P w K mg base 2 nm_comes ps_comes (sp_comes K)) (G_column:OkF P w K mg base 1 nm_column ps_column (sp_column K)):FnOk P w K mg base CX0 4 f fd ps_both_ways (sp_both17 K):=by
 refine F.ok sc_both_ways (fun vs H Q E h=>?_) (fun cdv A outer s H vs Q E hr h=>?_)
 ·obtain ⟨l,b,xs,us,fss,lss,m,rfl,_⟩:=h
  rfl
 ·obtain ⟨l,b,xs,us,fss,lss,m,rfl,hl,fr,hb,fb,fm,lm,m8,hf,hls,key,q⟩:=h
  refine ⟨_,(pss_cons (ps_if (pw_or (pt_not (pt_tru (pe_callB call_isi (by rfl) T.b_isinstance boot_isinstance (pa_cons (pv 1) (pa_cons (pe_bltn (v:=.ty "list") (by rfl) T.b_list boot_list rfl) pa_nil))) (fun _=>rfl))) (pw_or1 (pt_cmpR op_ne (pe_callB call_lenL (by rfl) T.b_len PySem.boot_len (pa_cons (pv 1) pa_nil)) (pe_callB call_lenL (by rfl) T.b_len PySem.boot_len (pa_cons (pv 0) pa_nil)) (nomark _)))).pt
    (pss_one (ps_ret pe_bl))
    pss_nil)
   (pss_cons (ps_if (pt_not (pt_tru (pe_callB (call_allH rfl) (by rfl) T.b_all boot_all (pa_cons (pe_compGF (defScope s_both_ways) ["_law_rows", "_law_left", "_law_k", "_law_j"] ["_law_rows", "_law_left", "_law_k", "_law_j"] ["_law_some"] rfl rfl rfl (by decide +kernel) (by decide +kernel) rfl (by decide +kernel) (by decide +kernel) (by decide +kernel) (by decide +kernel) (by decide +kernel) (pi_list ((pv 1)).mono) (fun _ _ _ _ _=>(pg_name (i:=0) (show List.Nodup (["_law_some", "_law_rows", "_law_left", "_law_k", "_law_j"] : List Str) from by decide +kernel) rfl (Or.inl rfl) (Or.inr rfl))) (fun _ _ _ _ _=>pts_nil) (fun _ _ _ _ _=>(pe_callF G_fractions (hr.mono (by decide)) (by rfl) (pa_cons (pv 0) (pa_cons (pe_callB call_lenL (by rfl) T.b_len PySem.boot_len (pa_cons (pv 1) pa_nil)) pa_nil))))) pa_nil)) (fun _=>rfl)))
    (pss_one (ps_ret pe_bl))
    pss_nil)
   (pss_cons (ps_for PassesOwn.never rfl (pi_range1 (by rfl) T.b_range (pa_cons (pe_callB call_lenL (by rfl) T.b_len PySem.boot_len (pa_cons (pv 0) pa_nil)) pa_nil).mono) (pg_name (i:=2) sc_both_ways.nd rfl (Or.inl rfl))
    (pss_one (ps_for PassesOwn.never rfl (pi_range1 (by rfl) T.b_range (pa_cons (pe_callB call_lenL (by rfl) T.b_len PySem.boot_len (pa_cons (pv 0) pa_nil)) pa_nil).mono) (pg_name (i:=3) sc_both_ways.nd rfl (Or.inl rfl))
     (pss_one (ps_if (pt_not (pt_tru (pe_callF G_comes (hr.mono (by decide)) (by rfl) (pa_cons (pe_ix ix_listH (pv 0) (pv 2) (fun _ _=>rfl)) (pa_cons (pe_callF G_column (hr.mono (by decide)) (by rfl) (pa_cons (pv 1) (pa_cons (pv 3) pa_nil))) (pa_cons (pe_tup (pa_cons (pe_callTy call_int1 (by rfl) T.b_int boot_int (pa_cons (pe_cmpR op_eq (pv 3) (pv 2) (nomark _)) pa_nil)) (pa_cons pe_int pa_nil))) pa_nil)))) (fun _=>rfl)))
      (pss_one (ps_ret pe_bl))
      pss_nil)))))
   (pss_one (ps_ret pe_bl))))),?_⟩
  have mL : "list" ∈ ["bool", "int", "str", "list", "tuple", "dict"]:=by decide
  have nt:¬ (!true) = true:=by decide
  have xl:xs.length = m:=by rw [fr.len,fm]
  have ul:us.length = m:=by rw [fb.len,lm]
  have n0:(0:Int).natAbs ≤ NN:=Nat.zero_le _
  have e1:¬ (!decide (V.int (us.length:Int) = V.int (xs.length:Int))) = true:=by rw [xl,ul]; simp
  refine ⟨_,rfl,_, "list",_,rfl,mL,tyS_lst hb,_,rfl,ite2 (fun z=>absurd z (by decide)) fun _=>⟨_,rfl,b,us,rfl,hb,_,rfl,l,xs,rfl,hl,rfl,_,rfl,ite2 (fun z=>absurd z e1) fun _=>?_⟩⟩
  refine next_of (seq_of (ifnot_all (tCompG1_list ?_)))
  refine ⟨_,rfl,b,us,rfl,hb,by rw [ul]; exact Nat.le_trans m8 (by decide),fun D1 hD=>⟨fun k zs' Hc=>Same H Hc∧Hc D1 = some (.lst zs')∧zs' = (List.replicate k true).map V.bl,⟨Same.upd hD,upd_same,rfl⟩,?_,?_⟩⟩
  ·rintro k x zs' Hc hk ⟨S1,c1,rfl⟩ _ hlc
   have kl:k < lss.length:=by rw [lm,← ul]; exact (List.getElem?_eq_some_iff.mp hk).1
   obtain ⟨lb,yb,eb,hlb,f1,m1⟩:=fb.get kl
   rw [hk] at eb
   cases eb
   obtain ⟨w1,lo1⟩:=hls _ m1
   refine ⟨_,rfl,_,rfl,l,xs,rfl,S1 _ _ hl,lb,yb,_,xs.length,rfl,S1 _ _ hlb,flk_of (f1.same S1),by rw [w1,xl],by omega,lo1,fun H3 T3=>⟨T3 _ _ c1,T3 _ _ hlc,same_upd hD (S1.trans T3),upd_same,?_⟩⟩
   rw [List.replicate_succ',List.map_append]; rfl
  ·rintro zs' Hc ⟨S1,c1,rfl⟩ _
   refine ⟨D1,List.replicate us.length true,rfl,c1,_,rfl,?_⟩
   rw [show (List.replicate us.length true).all id = true by simp]
   refine ite2 (fun z=>absurd z nt) fun _=>next_of (seq_of (tFor_rngM ?_))
   refine ⟨_,rfl,l,xs,rfl,S1 _ _ hl,xs.length,rfl,by omega,fun k σ H'=>(∃ u v,σ = [some (.ref l),some (.ref b),u,v])∧Same H H',⟨⟨none,none,rfl⟩,S1⟩,?_,?_⟩
   ·rintro k σ' H2 hk ⟨⟨u,v,rfl⟩,S2⟩
    have km:k < m:=by omega
    refine tFor_rngM ?_
    refine ⟨_,rfl,l,xs,rfl,S2 _ _ hl,xs.length,rfl,by omega,fun j σ H'=>(∃ v,σ = [some (.ref l),some (.ref b),some (.int k),v])∧Same H H',⟨⟨_,rfl⟩,S2⟩,?_,?_⟩
    ·rintro j σ' H4 hj ⟨⟨v,rfl⟩,S4⟩
     have jm:j < m:=by omega
     obtain ⟨la,ya,ea,hla,fa,ma⟩:=fr.get (i:=k) (by omega)
     have ky:=key k j km jm
     obtain ⟨wa,sa⟩:=hf _ ma
     generalize fAt fss k = fs at *
     refine ⟨_,rfl,_,rfl,l,xs,k,_,rfl,rfl,S4 _ _ hl,atI_nat ea,_,rfl,_,rfl,b,us,lss,j,rfl,S4 _ _ hb,frk_of (fb.same S4),fun ls h=>by rw [(hls ls h).1]; exact jm,by omega,fun p5 z5 H5 T5 _ c5 f5=>⟨_,rfl,_,rfl,rfl,.inr ⟨_,rfl,line2,fun p6 hp6=>?_⟩⟩⟩
     have ed:(if decide (V.int (j:Int) = V.int (k:Int)) = true then (1:Int) else 0) = if j = k then 1 else 0:=by
      by_cases e:j = k
      ·rw [if_pos e,if_pos (decide_eq_true (by rw [e]))]
      ·rw [if_neg e,if_neg (fun z=>e (by have:=V.int.inj (of_decide_eq_true z); omega))]
     rw [ed]
     have T6:Same H5 (upd H5 p6 (.tup [.int (if j = k then 1 else 0),.int 1])):=Same.upd hp6
     have e6:upd H5 p6 (.tup [.int (if j = k then 1 else 0),.int 1]) p6 = some (.tup [.int (if j = k then 1 else 0),.int 1]):=upd_same
     generalize upd H5 p6 (.tup [.int (if j = k then 1 else 0),.int 1]) = H6 at T6 e6 ⊢
     have S6:=S4.trans (T5.trans T6)
     refine ⟨la,p5,p6,ya,z5,fs,colF lss j,(if j = k then 1 else 0,1),rfl,S6 _ _ hla,flk_of (fa.same S6),T6 _ _ c5,f5.same T6,by rw [wa,col_len,lm],by omega,sa,col_sz (fun ls h=>Lo.sz (hls ls h).2) (fun ls h=>by rw [(hls ls h).1]; exact jm),e6,by show (if j = k then (1:Int) else 0).natAbs ≤ NN; split; exact nn1; exact n0,nn1,fun H7 T7=>⟨_,rfl,?_⟩⟩
     rw [decide_eq_true (by show (prF fs (colF lss j) (0,1)).1 * 1 = (if j = k then 1 else 0) * (prF fs (colF lss j) (0,1)).2; rw [Int.mul_one]; exact ky)]
     exact ite2 (fun z=>absurd z nt) fun _=>⟨⟨_,rfl⟩,S6.trans T7⟩
    ·rintro σ' H4 ⟨⟨v,rfl⟩,S4⟩
     exact ⟨⟨_,_,rfl⟩,S4⟩
   ·rintro σ' H2 ⟨⟨u,v,rfl⟩,S2⟩
    exact q H2 S2
open Rw
def RN (N:Nat) (fs:List (Int × Int)):Prop:=∃ L:Int,0 < L∧L.natAbs ≤ N∧∀ f ∈ fs,Fq f∧f.2 ∣ L∧(f.1 * (L / f.2)).natAbs ≤ N
theorem RN.big {N:Nat} {fs:List (Int × Int)} (h:RN N fs):Big N (lvR fs):=by
 obtain ⟨L,hL,bL,hf⟩:=h
 have hq:∀ f ∈ fs,Fq f:=fun f h=>(hf f h).1
 have p:=lvB_pos hq
 have d:((lvB fs:Nat):Int) ∣ L:=by
  obtain ⟨n,rfl⟩ : ∃ n:Nat,L = n:=⟨L.toNat,by omega⟩
  refine Int.natCast_dvd_natCast.mpr (Lv.lcmL_dvd.mpr fun b hb=>?_)
  obtain ⟨f,h,rfl⟩:=List.mem_map.mp hb
  have:=Int.natAbs_dvd_natAbs.mpr (hf f h).2.1
  simpa using this
 have le:=Int.le_of_dvd hL d
 refine ⟨by show (0:Int) < (lvB fs:Nat); omega,?_,fun t ht=>?_⟩
 ·show (((lvB fs:Nat):Int)).natAbs ≤ N
  omega
 ·obtain ⟨f,h,rfl⟩:=List.mem_map.mp ht
  obtain ⟨q,dL,bd⟩:=hf f h
  obtain ⟨u,hu⟩:=dvd_lvB h q
  obtain ⟨v,hv⟩:=d
  have e1:((lvB fs:Nat):Int) / f.2 = u:=by rw [hu,Int.mul_ediv_cancel_left _ (Int.ne_of_gt q.pos)]
  have e2:L / f.2 = u * v:=by rw [hv,hu,Int.mul_assoc,Int.mul_ediv_cancel_left _ (Int.ne_of_gt q.pos)]
  have v0:0 < v:=Int.pos_of_mul_pos_right (by rw [← hv]; exact hL) (show (0:Int) < (lvB fs:Nat) by omega)
  show (f.1 * (((lvB fs:Nat):Int) / f.2)).natAbs ≤ N
  rw [e2,← Int.mul_assoc,Int.natAbs_mul] at bd
  rw [e1]
  exact Nat.le_trans (Nat.le_mul_of_pos_right _ (by omega)) bd
open Rw
theorem dot_dq {fs as:List (Int × Int)} {n:Nat} (h:fs.length = n) (h2:as.length = n):dotQ fs as = dq (fun j=>vl (fs.getD j (0,1))) (fun j=>vl (as.getD j (0,1))) n:=by
 rw [dotQ_sum (by rw [h,h2]),h]; rfl
def InjF (fss:List (List (Int × Int))) (n:Nat):Prop:=∀ x:Nat→Rat,(∀ fs ∈ fss,dq (fun j=>vl (fs.getD j (0,1))) x n = 0)→∀ k,k < n→x k = 0
theorem prF_zero {fs as:List (Int × Int)} (hf:∀ a ∈ fs,0 < a.2) (ha:∀ b ∈ as,0 < b.2):dotQ fs as = 0 ↔ (prF fs as (0,1)).1 = 0:=by
 have e:=prF_dot hf ha (z:=(0,1)) (by decide)
 rw [vl_01,Rat.zero_add] at e
 rw [← e]
 refine ⟨fun z=>?_,fun z=>?_⟩
 ·have:=vl_cross (prF_pos hf ha (by decide)) (show (0:Int) < 1 by decide) (z.trans vl_01.symm)
  rw [Int.mul_one,Int.zero_mul] at this
  exact this
 ·unfold vl
  rw [z,Rat.intCast_zero]
  grind
theorem many_inj {fss:List (List (Int × Int))} {rts bs cs:List (Int × Int)} {n:Nat} (s:SysP fss rts n) (m:ManyP fss rts n bs cs) (inj:InjF fss n):False:=by
 obtain ⟨f,hf,f0⟩:=m.some_
 obtain ⟨k,hk,rfl⟩:=List.mem_iff_getElem.mp hf
 have z:=inj (fun j=>vl (cs.getD j (0,1))) (fun fs hfs=>by
  rw [← dot_dq (s.wd fs hfs).1 m.len]
  exact (prF_zero (s.wd fs hfs).2 fun c hc=>(m.lo c hc).pos).mpr (m.zero fs hfs)) k (by rw [← m.len]; exact hk)
 have z:vl (cs.getD k (0,1)) = 0:=z
 rw [List.getD_eq_getElem?_getD,List.getElem?_eq_getElem hk,← vl_01] at z
 have:=vl_cross (m.lo _ (List.getElem_mem hk)).pos (show (0:Int) < 1 by decide) z
 rw [Int.mul_one,Int.zero_mul] at this
 exact f0 this
theorem must_one {H:Hp} {t:Addr} {fss:List (List (Int × Int))} {rts as:List (Int × Int)} {n:Nat} (pp:Paper16 K H t fss rts n) (s:SysP fss rts n) (r:RowsP fss rts n as) (inj:InjF fss n) :
  ∃ a b zs us lss,H t = some (.tup [.str "one",.ref a,.ref b])∧H a = some (.lst zs)∧FLK K H zs as∧H b = some (.lst us)∧FRs H us lss∧OneP fss rts n as lss:=by
 cases pp with
 | one a b zs us as' lss h1 h2 h3 h4 h5 h6 =>
  have:=one_only s h6 r
  subst this
  exact ⟨a,b,zs,us,lss,h1,h2,h3,h4,h5,h6⟩
 | many a b zs us as' bs h1 h2 h3 h4 h5 h6=>exact absurd (many_inj s h6 inj) id
 | none o zs ofs h1 h2 h3 h4=>exact absurd (none_rows s r h4) id
theorem one_kerQ {fss:List (List (Int × Int))} {rts as:List (Int × Int)} {lss:List (List (Int × Int))} {n:Nat} (s:SysP fss rts n) (o:OneP fss rts n as lss) {x:Nat→Rat} (hx:∀ fs ∈ fss,dq (fun j=>vl (fs.getD j (0,1))) x n = 0) {k:Nat} (kn:k < n):x k = 0:=by
 have cl:((List.range n).map fun j=>((x j).num,((x j).den:Int))).length = n:=by rw [List.length_map,List.length_range]
 have cp:∀ c ∈ (List.range n).map fun j=>((x j).num,((x j).den:Int)),0 < c.2:=fun c hc=>by
  obtain ⟨j,_,rfl⟩:=List.mem_map.mp hc
  show (0:Int) < ((x j).den:Nat)
  have:=(x j).den_pos
  omega
 have cv:∀ j,j < n→vl (((List.range n).map fun j=>((x j).num,((x j).den:Int))).getD j (0,1)) = x j:=fun j hj=>by
  rw [List.getD_eq_getElem?_getD,List.getElem?_map,List.getElem?_range hj]
  show ((x j).num:Rat) / (((x j).den:Int):Rat) = x j
  rw [← Rat.divInt_eq_div]
  exact Rat.num_divInt_den (x j)
 have:=one_ker s o cl cp (fun fs hf=>(prF_zero (s.wd fs hf).2 cp).mp (by
  rw [dot_dq (s.wd fs hf).1 cl,← hx fs hf]
  exact dq_congr (fun _ _=>rfl) cv)) kn
 rwa [cv k kn] at this
theorem must_many {H:Hp} {t:Addr} {fss:List (List (Int × Int))} {rts as:List (Int × Int)} {n:Nat} (pp:Paper16 K H t fss rts n) (s:SysP fss rts n) (r:RowsP fss rts n as) {x:Nat→Rat} (hx:∀ fs ∈ fss,dq (fun j=>vl (fs.getD j (0,1))) x n = 0) {k:Nat} (kn:k < n) (x0:x k ≠ 0) :
  ∃ a b,H t = some (.tup [.str "many",.ref a,.ref b]):=by
 cases pp with
 | one a b zs us as' lss h1 h2 h3 h4 h5 h6=>exact absurd (one_kerQ s h6 hx kn) x0
 | many a b zs us as' bs h1 h2 h3 h4 h5 h6=>exact ⟨a,b,h1⟩
 | none o zs ofs h1 h2 h3 h4=>exact absurd (none_rows s r h4) id
theorem must_none {H:Hp} {t:Addr} {fss:List (List (Int × Int))} {rts:List (Int × Int)} {n:Nat} (pp:Paper16 K H t fss rts n) (no:∀ as,¬ RowsP fss rts n as):∃ o,H t = some (.tup [.str "none",.ref o]):=by
 cases pp with
 | one a b zs us as' lss h1 h2 h3 h4 h5 h6=>exact absurd h6.ans (no _)
 | many a b zs us as' bs h1 h2 h3 h4 h5 h6=>exact absurd h6.ans (no _)
 | none o zs ofs h1 h2 h3 h4=>exact ⟨o,h1⟩
theorem Made.injF {m k:Nat} {fss:List (List (Int × Int))} (h:Made m k fss):InjF fss m:=fun x hx=>h.inv.inj x fun i hi=>hx _ (fAt_mem (by rw [h.len]; exact hi))
theorem InjF.more {m:Nat} {fss:List (List (Int × Int))} {g:List (Int × Int)} (h:InjF fss m):InjF (fss ++ [g]) m:=fun x hx=>h x fun fs hf=>hx fs (List.mem_append_left _ hf)
theorem Made.kernel {m k:Nat} {fss:List (List (Int × Int))} (h:Made m k fss) (m1:1 ≤ m):∃ (x:Nat→Rat) (k:Nat),k < m∧x k ≠ 0∧∀ i,i < m - 1→dq (fun j=>vl ((fAt fss i).getD j (0,1))) x m = 0:=by
 obtain ⟨B,hB⟩:=h.inv.rinv
 have last:=hB (m - 1) (m - 1) (by omega) (by omega)
 rw [if_pos rfl] at last
 by_cases e:∀ k,k < m→B k (m - 1) = 0
 ·exfalso
  have:dq (GQ fss (m - 1)) (fun j=>B j (m - 1)) m = 0:=by
   unfold dq
   rw [sumQ_congr (g:=fun _=>0) fun j hj=>by show _ * B j (m - 1) = 0; rw [e j hj]; grind,sumQ_zero]
  rw [this] at last
  exact absurd last (by decide)
 ·obtain ⟨k,hk⟩:=Classical.not_forall.mp e
  obtain ⟨k1,k2⟩:=Classical.not_imp.mp hk
  refine ⟨fun j=>B j (m - 1),k,k1,k2,fun i hi=>?_⟩
  have:=hB i (m - 1) (by omega) (by omega)
  rw [if_neg (by omega)] at this
  exact this
theorem Made.both {m k:Nat} {fss lss:List (List (Int × Int))} {rts as:List (Int × Int)} (h:Made m k fss) (s:SysP fss rts m) (o:OneP fss rts m as lss):∀ k j,k < m→j < m→(prF (fAt fss k) (colF lss j) (0,1)).1 = (if j = k then 1 else 0) * (prF (fAt fss k) (colF lss j) (0,1)).2:=by
 have ln:=h.len
 have cg:∀ (qss:List (List (Int × Int))) (j i:Nat),i < qss.length→(colF qss j).getD i (0,1) = (fAt qss i).getD j (0,1):=fun qss j i hi=>by
  unfold colF fAt
  rw [List.getD_eq_getElem?_getD,List.getElem?_map,List.getD_eq_getElem?_getD (l:=qss),List.getElem?_eq_getElem hi]; rfl
 have hl:∀ k j,k < m→j < m→sumQ (fun i=>vl ((fAt lss k).getD i (0,1)) * GQ fss i j) m = if j = k then 1 else 0:=fun k j hk hj=>by
  have kl:k < lss.length:=by rw [o.len]; exact hk
  have ek:lss[k]? = some (fAt lss k):=by unfold fAt; rw [List.getD_eq_getElem?_getD,List.getElem?_eq_getElem kl]; rfl
  obtain ⟨w1,lo1⟩:=o.wd _ (List.mem_of_getElem? ek)
  have u:=o.unit k j _ ek hj
  have d:dotQ (fAt lss k) (colF fss j) = vl ((if j = k then 1 else 0),1):=prF_row (fun f hf=>(lo1 f hf).pos) (col_pos fun fs hf=>(s.wd fs hf).2) (show (0:Int) < 1 by decide) (by rw [u,Int.mul_one])
  rw [dot_dq (n:=m) (by rw [w1,ln]) (by rw [col_len,ln])] at d
  have e:vl ((if j = k then 1 else 0),1) = if j = k then 1 else 0:=by
   by_cases z:j = k
   ·rw [if_pos z,if_pos z,vl_one]
   ·rw [if_neg z,if_neg z,vl_01]
  rw [← e,← d]
  exact sumQ_congr fun i hi=>by
   show _ * vl ((fAt fss i).getD j (0,1)) = _
   rw [← cg fss j i (by rw [ln]; exact hi)]
 have bt:=h.inv.both (L:=fun k i=>vl ((fAt lss k).getD i (0,1))) hl
 intro k j hk hj
 have rk:=s.wd _ (fAt_mem (show k < fss.length by omega))
 have lp:∀ c ∈ colF lss j,0 < c.2:=col_pos fun ls hls f hf=>((o.wd ls hls).2 f hf).pos
 have d:dotQ (fAt fss k) (colF lss j) = vl ((if j = k then 1 else 0),1):=by
  rw [dot_dq (n:=m) rk.1 (by rw [col_len,o.len])]
  have e:vl ((if j = k then 1 else 0),1) = if k = j then 1 else 0:=by
   by_cases z:j = k
   ·rw [if_pos z,if_pos z.symm,vl_one]
   ·rw [if_neg z,if_neg fun y=>z y.symm,vl_01]
  rw [e,← bt k j hk hj]
  exact dq_congr (fun _ _=>rfl) fun i hi=>by rw [cg lss j i (by rw [o.len]; exact hi)]
 have e:=prF_dot rk.2 lp (z:=(0,1)) (by decide)
 rw [vl_01,Rat.zero_add,d] at e
 have:=vl_cross (prF_pos rk.2 lp (by decide)) (show (0:Int) < 1 by decide) e
 rw [Int.mul_one] at this
 exact this
theorem pr_frl {L La:Int} {M Ma:Nat} : ∀ {fs as:List (Int × Int)} {z:Int × Int} {s:Int} {b:Nat},fs.length = as.length→(∀ f ∈ fs,FrL L M f)→(∀ a ∈ as,FrL La Ma a)→z.1 * (L * La) = s * z.2→s.natAbs ≤ b →
    ∃ S:Int,(prF fs as z).1 * (L * La) = S * (prF fs as z).2∧S.natAbs ≤ b + fs.length * (M * Ma)
  | [],[],z,s,b,_,_,_,e,hb=>⟨s,e,by simpa using hb⟩
  | f :: fs,a :: as,z,s,b,hl,hf,ha,e,hb=>by
    obtain ⟨u,eu,bu⟩:=(hf f List.mem_cons_self).whole
    obtain ⟨v,ev,bv⟩:=(ha a List.mem_cons_self).whole
    have e2:(z.1 * f.2 * a.2 + f.1 * a.1 * z.2) * (L * La) = (s + u * v) * (z.2 * f.2 * a.2):=by
      rw [Int.add_mul,Int.add_mul]
      congr 1
      · calc z.1 * f.2 * a.2 * (L * La) = z.1 * (L * La) * (f.2 * a.2):=by ac_rfl
          _ = s * z.2 * (f.2 * a.2):=by rw [e]
          _ = s * (z.2 * f.2 * a.2):=by ac_rfl
      · calc f.1 * a.1 * z.2 * (L * La) = (f.1 * L) * (a.1 * La) * z.2:=by ac_rfl
          _ = u * f.2 * (v * a.2) * z.2:=by rw [eu,ev]
          _ = u * v * (z.2 * f.2 * a.2):=by ac_rfl
    have b2:(u * v).natAbs ≤ M * Ma:=by rw [Int.natAbs_mul]; exact Nat.mul_le_mul bu bv
    obtain ⟨S,h1,h2⟩:=pr_frl (L:=L) (La:=La) (M:=M) (Ma:=Ma) (fs:=fs) (as:=as) (z:=(z.1 * f.2 * a.2 + f.1 * a.1 * z.2,z.2 * f.2 * a.2)) (s:=s + u * v) (b:=b + M * Ma) (by simpa using hl) (fun x hx=>hf x (List.mem_cons_of_mem _ hx)) (fun x hx=>ha x (List.mem_cons_of_mem _ hx)) e2 (by omega)
    refine ⟨S,h1,Nat.le_trans h2 ?_⟩
    rw [List.length_cons,Nat.add_mul,Nat.one_mul]
    omega
theorem frl_fq {L:Int} {M:Nat} {f:Int × Int} (h:FrL L M f) (hL:0 < L) (l5:L.natAbs ≤ 10 ^ 50) (m5:M ≤ 10 ^ 50):Fq f∧f.2 ∣ L∧(f.1 * (L / f.2)).natAbs ≤ 10 ^ 50:=by
 obtain ⟨a,b⟩:=h.size hL
 exact ⟨⟨h.pos,h.gcd,Nat.le_trans a (Nat.le_trans m5 (by decide)),Nat.le_trans b (Nat.le_trans l5 (by decide))⟩,h.dvd,Nat.le_trans h.top m5⟩
theorem rn17 {m:Nat} {fs as:List (Int × Int)} (hf:∀ f ∈ fs,FrL (60 ^ 12) (2 * 600 ^ 12) f) (ha:Ans17 m as) (hl:fs.length = m) (m6:m ≤ 6) :
  RN (10 ^ 50) (fs ++ [Ac.lw (prF fs as (0,1)).1 (prF fs as (0,1)).2])∧RN (10 ^ 50) (fs ++ [Ac.lw ((prF fs as (0,1)).1 + (prF fs as (0,1)).2) (prF fs as (0,1)).2]):=by
 obtain ⟨al,B,B0,B6,hA⟩:=ha
 have l12:(60:Int) ^ 12 = 2176782336000000000000:=by decide
 have m12:2 * 600 ^ 12 = 4353564672000000000000000000000000:=by decide
 rw [l12,m12] at hf
 obtain ⟨S,e,b⟩:=pr_frl (fs:=fs) (as:=as) (z:=(0,1)) (s:=0) (b:=0) (by rw [hl,al]) hf hA (by simp) (by simp)
 have qp:0 < (prF fs as (0,1)).2:=prF_pos (fun f h=>(hf f h).pos) (fun a h=>(hA a h).pos) (by decide)
 have S6:S.natAbs ≤ 2 * 10 ^ 48:=by
  have:=Nat.mul_le_mul (show fs.length ≤ 6 by omega) (Nat.le_refl (4353564672000000000000000000000000 * (6 * 10 ^ 13)))
  omega
 generalize prF fs as (0,1) = x at *
 have L0:(0:Int) < 2176782336000000000000 * (60 * B):=by omega
 have L5:(2176782336000000000000 * (60 * B)).natAbs ≤ 10 ^ 50:=by omega
 have up:∀ f ∈ fs,Fq f∧f.2 ∣ 2176782336000000000000 * (60 * B)∧(f.1 * (2176782336000000000000 * (60 * B) / f.2)).natAbs ≤ 10 ^ 50:=fun f h=>by
  have:=(hf f h).up (by decide) (n:=60 * B) (by omega) (M':=10 ^ 50) (by omega)
  rw [Int.mul_comm] at this
  exact frl_fq this L0 L5 (Nat.le_refl _)
 refine ⟨⟨_,L0,L5,fun g hg=>?_⟩,⟨_,L0,L5,fun g hg=>?_⟩⟩
 ·rcases List.mem_append.mp hg with y | y
  ·exact up g y
  ·rw [List.mem_singleton.mp y]
   exact frl_fq (frl_lw qp L0 e S6) L0 L5 (by decide)
 ·rcases List.mem_append.mp hg with y | y
  ·exact up g y
  ·rw [List.mem_singleton.mp y]
   refine frl_fq (frl_lw (S:=S + 2176782336000000000000 * (60 * B)) (M:=10 ^ 49) qp L0 ?_ ?_) L0 L5 (by decide)
   ·rw [Int.add_mul,Int.add_mul,e,Int.mul_comm x.2]
   ·omega
open Rw
theorem args2_of {sp:Sp} {ta tb:TE} {g:TG} {u:TS} {D:Ends} {σ:L2.St} {H:Hp} (h:ta σ H fun x H1=>tb σ H1 fun y H2=>sp [x,y] H2 (fun v H3=>g v σ H3 (u D)) E0):tSeq (tAsg (tCallF sp (tCons ta (tCons tb tNil))) g) u D σ H:=h
theorem cut_init {ys:List V} (h:1 ≤ ys.length):cutV ys none (some (-1)) = ys.take (ys.length - 1):=by
 unfold cutV
 have e:HT.sIx ys.length ys.length (some (-1)) = ys.length - 1:=by
  show (if (-1:Int) < 0 then ((-1:Int) + (ys.length:Int)).toNat else min (-1:Int).toNat ys.length) = _
  rw [if_pos (by decide)]
  omega
 rw [e]
 show (ys.drop 0).take (ys.length - 1 - 0) = _
 rw [List.drop_zero,Nat.sub_zero]
theorem FL.take {H:Hp} : ∀ {xs:List V} {fs:List (Int × Int)} (n:Nat),FL H xs fs→FL H (xs.take n) (fs.take n)
 | _,_,0,_=>by rw [List.take_zero,List.take_zero]; exact .nil
 | _,_,_ + 1,.nil=>.nil
 | _,_,n + 1,.cons e t=>.cons e (FL.take n t)
def rtF (fss:List (List (Int × Int))) (as:List (Int × Int)):List (Int × Int):=fss.map fun fs=>Ac.lw (prF fs as (0,1)).1 (prF fs as (0,1)).2
structure Mk17 (m:Nat) (fss:List (List (Int × Int))) (as:List (Int × Int)):Prop where
 wd:∀ fs ∈ fss,fs.length = m∧∀ f ∈ fs,FrL (60 ^ 12) (2 * 600 ^ 12) f
 ans:Ans17 m as
 m6:m ≤ 6
theorem Ans17.lo {m:Nat} {as:List (Int × Int)} (h:Ans17 m as):∀ f ∈ as,Lo f:=fun f hf=>by
 obtain ⟨_,B,B0,B6,k⟩:=h
 have q:=k f hf
 obtain ⟨a,b⟩:=q.size (by omega)
 exact ⟨q.pos,q.gcd,Nat.le_trans a (by decide +kernel),Nat.le_trans b (Nat.le_trans (show (60 * B).natAbs ≤ 60 * 10 ^ 6 by omega) (by decide +kernel))⟩
theorem Mk17.pos {m:Nat} {fss:List (List (Int × Int))} {as:List (Int × Int)} (h:Mk17 m fss as) {fs:List (Int × Int)} (hf:fs ∈ fss):0 < (prF fs as (0,1)).2:=prF_pos (fun f hff=>((h.wd fs hf).2 f hff).pos) (fun a ha=>(h.ans.lo a ha).pos) (by decide)
theorem Mk17.rows {m:Nat} {fss:List (List (Int × Int))} {as:List (Int × Int)} (h:Mk17 m fss as):RowsP fss (rtF fss as) m as:=by
 refine ⟨h.ans.1,h.ans.lo,fun i fs r e1 e2=>?_⟩
 unfold rtF at e2
 rw [List.getElem?_map,e1] at e2
 cases e2
 exact (Ac.lw_eq (h.pos (List.mem_of_getElem? e1))).symm
theorem Mk17.sys {m:Nat} {fss:List (List (Int × Int))} {as:List (Int × Int)} (h:Mk17 m fss as):SysP fss (rtF fss as) m:=by
 refine ⟨fun fs hf=>⟨(h.wd fs hf).1,fun f hff=>((h.wd fs hf).2 f hff).pos⟩,List.length_map _,fun r hr=>?_⟩
 obtain ⟨fs,hf,rfl⟩:=List.mem_map.mp hr
 exact Ac.lw_pos (h.pos hf)
theorem with_mem {fss:List (List (Int × Int))} {rts gs:List (Int × Int)} (h:gs ∈ withR fss rts):∃ (i:Nat) (fs:List (Int × Int)) (r:Int × Int),fss[i]? = some fs∧rts[i]? = some r∧gs = fs ++ [r]:=by
 unfold withR at h
 obtain ⟨i,hi,rfl⟩:=List.mem_iff_getElem.mp h
 rw [List.length_zipWith] at hi
 rw [List.getElem_zipWith]
 exact ⟨i,_,_,List.getElem?_eq_getElem (by omega),List.getElem?_eq_getElem (by omega),rfl⟩
theorem rn_ok {gs:List (Int × Int)} (h:RN (10 ^ 50) gs):(∀ f ∈ gs,Fq f)∧Big (10 ^ 50) (lvR gs):=⟨fun f hf=>let ⟨_,_,_,k⟩:=h; (k f hf).1,h.big⟩
theorem Mk17.big {m:Nat} {fss:List (List (Int × Int))} {as:List (Int × Int)} (h:Mk17 m fss as):∀ gs ∈ withR fss (rtF fss as),(∀ f ∈ gs,Fq f)∧Big (10 ^ 50) (lvR gs):=fun gs hg=>by
 obtain ⟨i,fs,r,e1,e2,rfl⟩:=with_mem hg
 unfold rtF at e2
 rw [List.getElem?_map,e1] at e2
 cases e2
 have hf:=List.mem_of_getElem? e1
 exact rn_ok (rn17 (h.wd fs hf).2 h.ans (h.wd fs hf).1 h.m6).1
theorem mb7 {m:Nat} (h:m ≤ 7):MB m (10 ^ 50) ≤ NN:=by
 cases m with
 | zero=>decide +kernel
 | succ m=>exact Nat.le_trans (mm_le (m:=7) (by decide) h) (by decide +kernel)
theorem frl_two {L:Int} {M:Nat} {f:Int × Int} (h:FrL L M f):FrL L (2 * M) f:=⟨h.pos,h.gcd,h.dvd,Nat.le_trans h.top (by omega)⟩
theorem Made.mk17 {m:Nat} {fss:List (List (Int × Int))} {as:List (Int × Int)} (h:Made m 12 fss) (ha:Ans17 m as) (m6:m ≤ 6):Mk17 m fss as:=⟨fun fs hf=>⟨(h.row fs hf).1,fun f hff=>frl_two ((h.row fs hf).2 f hff)⟩,ha,m6⟩
theorem nn_sz {fs:List (Int × Int)} (h:∀ f ∈ fs,FrL (60 ^ 12) (2 * 600 ^ 12) f):Sz fs:=fun f hf=>by
 have q:=h f hf
 obtain ⟨a,b⟩:=q.size (by decide)
 exact ⟨q.pos,Nat.le_trans a (by decide +kernel),Nat.le_trans b (by decide +kernel)⟩
theorem pr_bd17 {m:Nat} {fs as:List (Int × Int)} (hf:∀ f ∈ fs,FrL (60 ^ 12) (2 * 600 ^ 12) f) (ha:Ans17 m as) (h6:fs.length ≤ 6):Bd (prF fs as (0,1)).2:=by
 obtain ⟨_,B,B0,B6,hA⟩:=ha
 obtain ⟨_,e⟩:=prF_size (M:=10 ^ 50) (as:=fs) (bs:=as) (z:=(0,1)) (B:=1) (fun f h=>by
  obtain ⟨a,b⟩:=(hf f h).size (by decide)
  exact ⟨Nat.le_trans a (by decide),Nat.le_trans b (by decide)⟩) (fun a h=>by
  obtain ⟨a',b⟩:=(hA a h).size (by omega)
  exact ⟨Nat.le_trans a' (by decide),Nat.le_trans b (Nat.le_trans (show (60 * B).natAbs ≤ 60 * 10 ^ 6 by omega) (by decide))⟩) (by decide) (by decide) (by decide)
 refine Nat.lt_of_le_of_lt e ?_
 have:(2 * (10 ^ 50 * 10 ^ 50)) ^ fs.length ≤ (2 * (10 ^ 50 * 10 ^ 50)) ^ 6:=Nat.pow_le_pow_right (by decide) h6
 rw [Nat.one_mul]
 exact Nat.lt_of_le_of_lt this (by decide +kernel)
theorem jDn.nextS {D2:Addr} {H:Hp} {gs:List (Int × Int)} {k:Nat} {ys:List V} {Hc H':Hp} (hD:H D2 = none) (h:jDn D2 H gs k ys Hc) {g:Int × Int} (e:gs[k]? = some g) (S:Same Hc H') {r:Addr} (hr:H' r = some (.tup [.int g.1,.int g.2])):jDn D2 H gs (k + 1) (ys ++ [.ref r]) (upd H' D2 (.lst (ys ++ [.ref r]))):=by
 obtain ⟨T,c,fl⟩:=h
 refine ⟨same_upd hD (T.trans S),upd_same,?_⟩
 rw [take_next e]
 exact ((fl.same S).append (.cons hr .nil)).updL (S _ _ c)
theorem ifnot_call {sp sp2:Sp} {ta tb tc:TE} {t u:TS} {D:Ends} {σ:L2.St} {H:Hp} (h:ta σ H fun x H1=>tb σ H1 fun y H2=>sp2 [x,y] H2 (fun v H3=>tc σ H3 fun c H4=>sp [v,c] H4 (fun y H5=>∃ k,truB y = some k∧if (!k) = true then t D σ H5 else u D σ H5) E0) E0):tIfS (tNot (tTru (tCallF sp (tCons (tCallF sp2 (tCons ta (tCons tb tNil))) (tCons tc tNil))))) t u D σ H:=h
theorem seq_cat {r:R2} {ta tb:TE} {g:TG} {u:TS} {D:Ends} {σ:L2.St} {H:Hp} (h:ta σ H fun x H1=>tb σ H1 fun y H2=>r x y H2 (fun v H3=>g v σ H3 (u D))):tSeq (tAsg (tOp r ta tb) g) u D σ H:=h
theorem add11 {f g:Int × Int} (hf:FrL (60 ^ 12) (600 ^ 12) f) (hg:FrL (60 ^ 12) (600 ^ 12) g):FrL (60 ^ 12) (2 * 600 ^ 12) (addF (1,1) f g):=by
  obtain ⟨s,es,bs⟩:=hf.whole
  obtain ⟨t,et,bt⟩:=hg.whole
  refine frl_lw (S:=s + t) (Int.mul_pos hf.pos (Int.mul_pos hg.pos (by decide))) (by decide) ?_ (by omega)
  show (f.1 * (g.2 * 1) + g.1 * 1 * f.2) * 60 ^ 12 = (s + t) * (f.2 * (g.2 * 1))
  rw [Int.mul_one,Int.mul_one,Int.add_mul,Int.add_mul]
  congr 1
  · calc f.1 * g.2 * 60 ^ 12 = f.1 * 60 ^ 12 * g.2:=by ac_rfl
      _ = s * f.2 * g.2:=by rw [es]
      _ = s * (f.2 * g.2):=by ac_rfl
  · calc g.1 * f.2 * 60 ^ 12 = g.1 * 60 ^ 12 * f.2:=by ac_rfl
      _ = t * g.2 * f.2:=by rw [et]
      _ = t * (f.2 * g.2):=by ac_rfl
theorem Mk17.take {m:Nat} {fss:List (List (Int × Int))} {as:List (Int × Int)} (h:Mk17 m fss as) (n:Nat):Mk17 m (fss.take n) as:=⟨fun fs hf=>h.wd fs (List.mem_of_mem_take hf),h.ans,h.m6⟩
theorem Mk17.more {m:Nat} {fss:List (List (Int × Int))} {as g:List (Int × Int)} (h:Mk17 m fss as) (hg:g.length = m∧∀ f ∈ g,FrL (60 ^ 12) (2 * 600 ^ 12) f):Mk17 m (fss ++ [g]) as:=⟨fun fs hf=>by
 rcases List.mem_append.mp hf with y | y
 ·exact h.wd fs y
 ·rw [List.mem_singleton.mp y]; exact hg,h.ans,h.m6⟩
theorem rtF_more {fss:List (List (Int × Int))} {as g:List (Int × Int)} : rtF (fss ++ [g]) as = rtF fss as ++ [Ac.lw (prF g as (0,1)).1 (prF g as (0,1)).2]:=by
 unfold rtF
 rw [List.map_append]; rfl
theorem no_rows {m:Nat} {fss:List (List (Int × Int))} {as g:List (Int × Int)} (mk:Mk17 m fss as) (hg:g.length = m∧∀ f ∈ g,FrL (60 ^ 12) (2 * 600 ^ 12) f) (inj:InjF fss m):∀ bs,¬ RowsP (fss ++ [g]) (rtF fss as ++ [Ac.lw ((prF g as (0,1)).1 + (prF g as (0,1)).2) (prF g as (0,1)).2]) m bs:=fun bs h=>by
 have mk2:=mk.more hg
 have gp:∀ f ∈ g,0 < f.2:=fun f hf=>(hg.2 f hf).pos
 have ap:∀ f ∈ as,0 < f.2:=fun f hf=>(mk.ans.lo f hf).pos
 have bp:∀ f ∈ bs,0 < f.2:=fun f hf=>(h.lo f hf).pos
 have qp:0 < (prF g as (0,1)).2:=prF_pos gp ap (by decide)
 have rl:(rtF fss as).length = fss.length:=List.length_map _
 have same:∀ k,k < m→vl (bs.getD k (0,1)) - vl (as.getD k (0,1)) = 0:=inj (fun k=>vl (bs.getD k (0,1)) - vl (as.getD k (0,1))) fun fs hf=>by
  obtain ⟨i,hi,rfl⟩:=List.mem_iff_getElem.mp hf
  have w:=mk.wd _ hf
  have fp:∀ f ∈ fss[i],0 < f.2:=fun f hff=>(w.2 f hff).pos
  have e1:(fss ++ [g])[i]? = some fss[i]:=by rw [List.getElem?_append_left hi,List.getElem?_eq_getElem hi]
  have e2:(rtF fss as)[i]? = some (Ac.lw (prF fss[i] as (0,1)).1 (prF fss[i] as (0,1)).2):=by unfold rtF; rw [List.getElem?_map,List.getElem?_eq_getElem hi]; rfl
  have d1:=prF_row fp bp (Ac.lw_pos (mk.pos hf)) (h.rows i _ _ e1 (by rw [List.getElem?_append_left (by rw [rl]; exact hi)]; exact e2))
  have d2:=prF_row fp ap (Ac.lw_pos (mk.pos hf)) (mk.rows.rows i _ _ (List.getElem?_eq_getElem hi) e2)
  rw [dot_dq w.1 h.len] at d1
  rw [dot_dq w.1 mk.ans.1] at d2
  have l:=dq_linR 1 (-1) (fun j=>vl (fss[i].getD j (0,1))) (fun j=>vl (bs.getD j (0,1))) (fun j=>vl (as.getD j (0,1))) m
  rw [d1,d2] at l
  rw [dq_congr (x':=fun j=>1 * vl (bs.getD j (0,1)) + (-1) * vl (as.getD j (0,1))) (fun _ _=>rfl) fun j _=>by grind,l]
  grind
 have last:=prF_row gp bp (Ac.lw_pos qp) (h.rows fss.length g _ (by rw [List.getElem?_append_right (Nat.le_refl _),Nat.sub_self]; rfl) (by rw [List.getElem?_append_right (by rw [rl]; exact Nat.le_refl _),rl,Nat.sub_self]; rfl))
 have la:=prF_dot gp ap (z:=(0,1)) (by decide)
 rw [vl_01,Rat.zero_add,dot_dq hg.1 mk.ans.1] at la
 rw [dot_dq hg.1 h.len,dq_congr (x':=fun j=>vl (as.getD j (0,1))) (fun _ _=>rfl) (fun j hj=>by have:=same j hj; grind),← la,vl_lw qp] at last
 have q0:=ne_cast qp
 unfold vl at last
 rw [Rat.intCast_add] at last
 grind
theorem big_more {m:Nat} {fss:List (List (Int × Int))} {as g:List (Int × Int)} (mk:Mk17 m fss as) (hg:g.length = m∧∀ f ∈ g,FrL (60 ^ 12) (2 * 600 ^ 12) f):∀ gs ∈ withR (fss ++ [g]) (rtF fss as ++ [Ac.lw ((prF g as (0,1)).1 + (prF g as (0,1)).2) (prF g as (0,1)).2]),(∀ f ∈ gs,Fq f)∧Big (10 ^ 50) (lvR gs):=fun gs hgs=>by
 have rl:(rtF fss as).length = fss.length:=List.length_map _
 obtain ⟨i,fs,r,e1,e2,rfl⟩:=with_mem hgs
 by_cases hi:i < fss.length
 ·rw [List.getElem?_append_left hi] at e1
  rw [List.getElem?_append_left (by rw [rl]; exact hi)] at e2
  unfold rtF at e2
  rw [List.getElem?_map,e1] at e2
  cases e2
  have hf:=List.mem_of_getElem? e1
  exact rn_ok (rn17 (mk.wd fs hf).2 mk.ans (mk.wd fs hf).1 mk.m6).1
 ·rw [List.getElem?_append_right (by omega)] at e1
  rw [List.getElem?_append_right (by rw [rl]; omega),rl] at e2
  have e0:i - fss.length = 0:=by
   cases z:i - fss.length with
   | zero=>rfl
   | succ n=>rw [z] at e1; simp at e1
  rw [e0,List.getElem?_cons_zero] at e1 e2
  cases e1
  cases e2
  exact rn_ok (rn17 hg.2 mk.ans hg.1 mk.m6).2
theorem at_last {xs:List V} {v:V} : atI (xs ++ [v]) (-1) = some v:=by
 unfold atI ixN
 rw [if_neg (by decide),if_pos (by rw [List.length_append,List.length_singleton]; omega)]
 show (xs ++ [v])[(-1 + ((xs ++ [v]).length:Int)).toNat]? = _
 rw [List.length_append,List.length_singleton,show (-1 + ((xs.length + 1:Nat):Int)).toNat = xs.length by omega,List.getElem?_append_right (Nat.le_refl _),Nat.sub_self]; rfl
theorem ok_law {f:Addr} {fd:FuncData} (F:Fun K nm_law nm_law s_law f fd) (T:Txt K mg D) (G_many_by:∀ a ns,OkF P w K mg base 2 nm_many_by ps_many_by (sp_many_by K a ns)) (G_made:∀ a ns,OkF P w K mg base 4 nm_made ps_made (sp_made17 K a ns)) (G_answer:∀ a ns,OkF P w K mg base 3 nm_answer ps_answer (sp_answer17 K a ns)) (G_products:OkF P w K mg base 1 nm_products ps_products (sp_products K)) (G_lratio:OkF P w K mg base 2 nm_lratio ps_lratio sp_lratio) (G_added:OkF P w K mg base 3 nm_added ps_added sp_added17) (G_solved:OkF P w K mg base 8 nm_solved ps_solved (sp_solved K)) (G_tells:OkF P w K mg base 4 nm_tells ps_tells (sp_tells17 K)) (G_both_ways:OkF P w K mg base 4 nm_both_ways ps_both_ways (sp_both17 K)) (G_word:OkF P w K mg base 1 nm_word ps_word sp_word17):FnOk P w K mg base CX0 9 f fd ps_law (spLaw K):=by
 refine F.ok sc_law (fun vs H Q E h=>?_) (fun cdv A outer s H vs Q E hr h=>?_)
 ·obtain ⟨a,ns,rfl,_⟩:=h
  rfl
 ·obtain ⟨a,ns,rfl,hs,hl,q⟩:=h
  have G_many_by:=G_many_by a ns
  have G_made:=G_made a ns
  have G_answer:=G_answer a ns
  refine ⟨_,(pss_cons (ps_set (i:=1) sc_law.nd rfl (Or.inl rfl) (pe_callF G_many_by (hr.mono (by decide)) (by rfl) (pa_cons (pv 0) pa_nil)))
   (pss_cons (ps_set (i:=2) sc_law.nd rfl (Or.inl rfl) (pe_callF G_made (hr.mono (by decide)) (by rfl) (pa_cons (pv 0) (pa_cons (pv 1) pa_nil))))
   (pss_cons (ps_set (i:=3) sc_law.nd rfl (Or.inr rfl) (pe_callF G_answer (hr.mono (by decide)) (by rfl) (pa_cons (pv 0) (pa_cons (pv 1) pa_nil))))
   (pss_cons (ps_compGF (defScope s_law) ["_law_script", "_law_many", "_law_rows", "_law_answer_here", "_law_sums", "_law_rights", "_law_found", "_law_more", "_law_top", "_law_bottom"] ["_law_script", "_law_many", "_law_rows", "_law_answer_here", "_law_sums", "_law_rights", "_law_found", "_law_more", "_law_top", "_law_bottom"] ["_law_row"] rfl rfl rfl (by decide +kernel) (by decide +kernel) rfl (by decide +kernel) (by decide +kernel) (by decide +kernel) (by decide +kernel) (by decide +kernel) (pi_list ((pv 2)).mono) (fun _ _ _ _ _=>(pg_name (i:=0) (show List.Nodup (["_law_row", "_law_script", "_law_many", "_law_rows", "_law_answer_here", "_law_sums", "_law_rights", "_law_found", "_law_more", "_law_top", "_law_bottom"] : List Str) from by decide +kernel) rfl (Or.inl rfl) (Or.inr rfl))) (fun _ _ _ _ _=>pts_nil) (fun _ _ _ _ _=>(pe_callF G_products (hr.mono (by decide)) (by rfl) (pa_cons (pv 0) (pa_cons (pv 4) pa_nil)))) (pg_name (i:=4) sc_law.nd rfl (Or.inl rfl)))
   (pss_cons (ps_compGF (defScope s_law) ["_law_script", "_law_many", "_law_rows", "_law_answer_here", "_law_sums", "_law_rights", "_law_found", "_law_more", "_law_top", "_law_bottom"] ["_law_script", "_law_many", "_law_rows", "_law_answer_here", "_law_sums", "_law_rights", "_law_found", "_law_more", "?_law_top", "?_law_bottom"] ["_law_top", "_law_bottom"] rfl rfl rfl (by decide +kernel) (by decide +kernel) rfl (by decide +kernel) (by decide +kernel) (by decide +kernel) (by decide +kernel) (by decide +kernel) (pi_list ((pv 4)).mono) (fun _ _ _ _ _=>(pg_tupH (n:=2) rfl (pgs_cons (pg_name (i:=0) (show List.Nodup (["_law_top", "_law_bottom", "_law_script", "_law_many", "_law_rows", "_law_answer_here", "_law_sums", "_law_rights", "_law_found", "_law_more", "?_law_top", "?_law_bottom"] : List Str) from by decide +kernel) rfl (Or.inl rfl) (Or.inr rfl)) (pgs_cons (pg_name (i:=1) (show List.Nodup (["_law_top", "_law_bottom", "_law_script", "_law_many", "_law_rows", "_law_answer_here", "_law_sums", "_law_rights", "_law_found", "_law_more", "?_law_top", "?_law_bottom"] : List Str) from by decide +kernel) rfl (Or.inl rfl) (Or.inr rfl)) pgs_nil)))) (fun _ _ _ _ _=>pts_nil) (fun _ _ _ _ _=>(pe_callF G_lratio (hr.mono (by decide)) (by rfl) (pa_cons (pv 0) (pa_cons (pv 1) pa_nil)))) (pg_name (i:=5) sc_law.nd rfl (Or.inl rfl)))
   (pss_cons (ps_set (i:=6) sc_law.nd rfl (Or.inl rfl) (pe_callF G_solved (hr.mono (by decide)) (by rfl) (pa_cons (pe_compGF (defScope s_law) ["_law_script", "_law_many", "_law_rows", "_law_answer_here", "_law_sums", "_law_rights", "_law_found", "_law_more", "_law_top", "_law_bottom"] ["_law_script", "_law_many", "_law_rows", "_law_answer_here", "_law_sums", "_law_rights", "_law_found", "_law_more", "_law_top", "_law_bottom"] ["_law_row"] rfl rfl rfl (by decide +kernel) (by decide +kernel) rfl (by decide +kernel) (by decide +kernel) (by decide +kernel) (by decide +kernel) (by decide +kernel) (pi_list ((pv 2)).mono) (fun _ _ _ _ _=>(pg_name (i:=0) (show List.Nodup (["_law_row", "_law_script", "_law_many", "_law_rows", "_law_answer_here", "_law_sums", "_law_rights", "_law_found", "_law_more", "_law_top", "_law_bottom"] : List Str) from by decide +kernel) rfl (Or.inl rfl) (Or.inr rfl))) (fun _ _ _ _ _=>pts_nil) (fun _ _ _ _ _=>(pe_callTy call_listH (by rfl) T.b_list boot_list (pa_cons (pv 0) pa_nil)))) (pa_cons (pe_callTy call_listH (by rfl) T.b_list boot_list (pa_cons (pv 5) pa_nil)) pa_nil))))
   (pss_cons (ps_if (pw_or (pt_not (pt_tru (pe_callF G_tells (hr.mono (by decide)) (by rfl) (pa_cons (pv 6) (pa_cons (pv 3) pa_nil))) (fun _=>rfl))) (pw_or1 (pt_not (pt_tru (pe_callF G_both_ways (hr.mono (by decide)) (by rfl) (pa_cons (pv 2) (pa_cons (pe_ix ix_tupH (pv 6) pe_int (fun _ _=>rfl)) pa_nil))) (fun _=>rfl))))).pt
    (pss_one (ps_ret pe_bl))
    pss_nil)
   (pss_cons (ps_if (pt_cmpR op_lt (pv 1) pe_int (nomark _))
    (pss_one (ps_ret pe_bl))
    pss_nil)
   (pss_cons (ps_if (pt_not (pt_tru (pe_callF G_word (hr.mono (by decide)) (by rfl) (pa_cons (pe_callF G_solved (hr.mono (by decide)) (by rfl) (pa_cons (pe_compGF (defScope s_law) ["_law_script", "_law_many", "_law_rows", "_law_answer_here", "_law_sums", "_law_rights", "_law_found", "_law_more", "_law_top", "_law_bottom"] ["_law_script", "_law_many", "_law_rows", "_law_answer_here", "_law_sums", "_law_rights", "_law_found", "_law_more", "_law_top", "_law_bottom"] ["_law_row"] rfl rfl rfl (by decide +kernel) (by decide +kernel) rfl (by decide +kernel) (by decide +kernel) (by decide +kernel) (by decide +kernel) (by decide +kernel) (pi_list ((pe_slice sl_list (pv 2) po_none (po_some (pe_un un_neg pe_int)))).mono) (fun _ _ _ _ _=>(pg_name (i:=0) (show List.Nodup (["_law_row", "_law_script", "_law_many", "_law_rows", "_law_answer_here", "_law_sums", "_law_rights", "_law_found", "_law_more", "_law_top", "_law_bottom"] : List Str) from by decide +kernel) rfl (Or.inl rfl) (Or.inr rfl))) (fun _ _ _ _ _=>pts_nil) (fun _ _ _ _ _=>(pe_callTy call_listH (by rfl) T.b_list boot_list (pa_cons (pv 0) pa_nil)))) (pa_cons (pe_slice sl_list (pv 5) po_none (po_some (pe_un un_neg pe_int))) pa_nil))) (pa_cons pe_str pa_nil))) (fun _=>rfl)))
    (pss_one (ps_ret pe_bl))
    pss_nil)
   (pss_cons (ps_set (i:=7) sc_law.nd rfl (Or.inl rfl) (pe_op op_cat (pe_compGF (defScope s_law) ["_law_script", "_law_many", "_law_rows", "_law_answer_here", "_law_sums", "_law_rights", "_law_found", "_law_more", "_law_top", "_law_bottom"] ["_law_script", "_law_many", "_law_rows", "_law_answer_here", "_law_sums", "_law_rights", "_law_found", "_law_more", "_law_top", "_law_bottom"] ["_law_row"] rfl rfl rfl (by decide +kernel) (by decide +kernel) rfl (by decide +kernel) (by decide +kernel) (by decide +kernel) (by decide +kernel) (by decide +kernel) (pi_list ((pv 2)).mono) (fun _ _ _ _ _=>(pg_name (i:=0) (show List.Nodup (["_law_row", "_law_script", "_law_many", "_law_rows", "_law_answer_here", "_law_sums", "_law_rights", "_law_found", "_law_more", "_law_top", "_law_bottom"] : List Str) from by decide +kernel) rfl (Or.inl rfl) (Or.inr rfl))) (fun _ _ _ _ _=>pts_nil) (fun _ _ _ _ _=>(pe_callTy call_listH (by rfl) T.b_list boot_list (pa_cons (pv 0) pa_nil)))) (pe_lst (pa_cons (pe_callF G_added (hr.mono (by decide)) (by rfl) (pa_cons (pv 2) (pa_cons pe_int (pa_cons (pe_op op_sub (pv 1) pe_int) (pa_cons (pe_tup (pa_cons pe_int (pa_cons pe_int pa_nil))) pa_nil))))) pa_nil))))
   (pss_cons (ps_asg (pe_callF G_products (hr.mono (by decide)) (by rfl) (pa_cons (pe_ix ix_listH (pv 7) (pe_un un_neg pe_int) (fun _ _=>rfl)) (pa_cons (pv 3) pa_nil))) (pg_tupH (n:=2) rfl (pgs_cons (pg_name (i:=8) sc_law.nd rfl (Or.inl rfl)) (pgs_cons (pg_name (i:=9) sc_law.nd rfl (Or.inl rfl)) pgs_nil))))
   (pss_cons (ps_set (i:=6) sc_law.nd rfl (Or.inl rfl) (pe_callF G_solved (hr.mono (by decide)) (by rfl) (pa_cons (pv 7) (pa_cons (pe_op op_cat (pv 5) (pe_lst (pa_cons (pe_callF G_lratio (hr.mono (by decide)) (by rfl) (pa_cons (pv 8) (pa_cons (pv 9) pa_nil))) pa_nil))) pa_nil))))
   (pss_cons (ps_if (pt_not (pt_tru (pe_callF G_tells (hr.mono (by decide)) (by rfl) (pa_cons (pv 6) (pa_cons (pv 3) pa_nil))) (fun _=>rfl)))
    (pss_one (ps_ret pe_bl))
    pss_nil)
   (pss_one (ps_ret (pe_callF G_word (hr.mono (by decide)) (by rfl) (pa_cons (pe_callF G_solved (hr.mono (by decide)) (by rfl) (pa_cons (pv 7) (pa_cons (pe_op op_cat (pv 5) (pe_lst (pa_cons (pe_callF G_lratio (hr.mono (by decide)) (by rfl) (pa_cons (pe_op op_add (pv 8) (pv 9)) (pa_cons (pv 9) pa_nil))) pa_nil))) pa_nil))) (pa_cons pe_str pa_nil)))))))))))))))))),?_⟩
  have nt:¬ (!true) = true:=by decide
  refine ⟨_,rfl,rfl,hs,hl,fun m m6=>?_⟩
  refine ⟨_,rfl,_,rfl,m,rfl,hs,hl,m6,fun lR xs H1 fss S1 hRn hR1 fR1 md=>?_⟩
  refine ⟨_,rfl,_,rfl,m,rfl,Same.sql S1 hs,hl,m6,fun lA za H2 as S2 hAn hA fA an=>?_⟩
  have hR:=S2 _ _ hR1
  have fR:=fR1.same S2
  have mk:=md.mk17 an m6
  have xl:xs.length = m:=by rw [fR.len,md.len]
  have al:=an.1
  clear hR1 fR1 hRn S1 S2 hAn
  refine seq_asg (tCompG1_list ⟨_,rfl,lR,xs,rfl,hR,by rw [xl]; exact Nat.le_trans m6 (by decide),fun D3 hD3=>⟨jDn D3 H2 (fss.map fun fs=>prF fs as (0,1)),⟨Same.upd hD3,upd_same,.nil⟩,?_,?_⟩⟩)
  ·rintro k x ys Hc hk J hyl' hlc
   have kf:k < fss.length:=by rw [md.len,← xl]; exact (List.getElem?_eq_some_iff.mp hk).1
   obtain ⟨l2,y2,e5,h2,fl2,m2⟩:=fR.get kf
   rw [hk] at e5
   cases e5
   have T5:=J.1
   have c5:=J.2.1
   have ek:fss[k]? = some (fAt fss k):=by unfold fAt; rw [List.getD_eq_getElem?_getD,List.getElem?_eq_getElem kf]; rfl
   obtain ⟨w2,r2⟩:=mk.wd _ m2
   generalize fAt fss k = fs at *
   have en:(fss.map fun fs=>prF fs as (0,1))[k]? = some (prF fs as (0,1)):=by rw [List.getElem?_map,ek]; rfl
   exact ⟨_,rfl,_,rfl,l2,lA,y2,za,fs,as,rfl,T5 _ _ h2,flk_of (fl2.same T5),T5 _ _ hA,flk_of (fA.same T5),by omega,by omega,nn_sz r2,Lo.sz an.lo,fun p H' S' hp hp'=>⟨S' _ _ c5,S' _ _ hlc,jDn.nextS hD3 J en S' hp'⟩⟩
  rintro z3 H3 ⟨T3,c3,fl3⟩ hyl3
  rw [List.take_of_length_le (by rw [List.length_map,xl,md.len]; exact Nat.le_refl _)] at fl3
  refine seq_asg (tCompG_list ⟨_,rfl,D3,z3,rfl,c3,by rw [hyl3,xl]; exact Nat.le_trans m6 (by decide),fun D4 hD4=>⟨jDn D4 H3 (rtF fss as),⟨Same.upd hD4,upd_same,.nil⟩,?_,?_⟩⟩)
  ·rintro k x5 ys Hc hk J hyl' hlc pre hpre
   obtain ⟨u0,u1,rfl⟩:=two_of hpre
   obtain ⟨p,f0,rfl,hf,hp⟩:=fl3.get hk
   have T2':=J.1
   have c2:=J.2.1
   rw [List.getElem?_map] at hf
   cases ef:fss[k]? with
   | none=>rw [ef] at hf; cases hf
   | some fs =>
    rw [ef] at hf
    cases hf
    have mf:=List.mem_of_getElem? ef
    obtain ⟨w2,r2⟩:=mk.wd fs mf
    have b2:=pr_bd17 r2 an (by omega)
    have b3:=mk.pos mf
    have en:(rtF fss as)[k]? = some (Ac.lw (prF fs as (0,1)).1 (prF fs as (0,1)).2):=by unfold rtF; rw [List.getElem?_map,ef]; rfl
    have hp:H3 p = some (.tup [.int (prF fs as (0,1)).1,.int (prF fs as (0,1)).2]):=hp
    generalize prF fs as (0,1) = f0 at *
    refine ⟨p,_,rfl,T2' _ _ hp,rfl,_,_,rfl,_,_,rfl,rfl,[some (.int f0.1),some (.int f0.2)],rfl,rfl,?_⟩
    exact ⟨_,rfl,_,rfl,f0.1,f0.2,rfl,b3,b2,fun r hr=>⟨(upd_ne (ne_of_none c2 hr)).trans c2,(upd_ne (ne_of_none hlc hr)).trans hlc,jDn.next hD4 J en hr⟩⟩
  rintro ys H4 ⟨T4,c4,fT4⟩ hyl4
  rw [List.take_of_length_le (by unfold rtF; rw [List.length_map,hyl3,xl,md.len]; exact Nat.le_refl _)] at fT4
  have S24:=T3.trans T4
  have hR4:=S24 _ _ hR
  have fR4:=fR.same S24
  have hA4:=S24 _ _ hA
  have fA4:=fA.same S24
  have rl:(rtF fss as).length = fss.length:=List.length_map _
  have hw:∀ fs ∈ fss,fs.length = m:=fun fs h=>(mk.wd fs h).1
  have ln:=md.len
  have yl:ys.length = m:=by rw [fT4.length,rl,ln]
  clear T3 T4 S24 fl3 c3 hA fA fR hR hyl4 hyl3
  refine args2_of (cp_rows15 rfl hR4 fR4 (by omega) fun h1 ah1 H5 S5 _ c5 f5 _ _=>?_)
  refine ⟨_,rfl,D4,ys,rfl,S5 _ _ c4,fun d1 hd1=>?_⟩
  have T6:Same H5 (upd H5 d1 (.lst ys)):=Same.upd hd1
  have e6:upd H5 d1 (.lst ys) d1 = some (.lst ys):=upd_same
  generalize upd H5 d1 (.lst ys) = H6 at T6 e6 ⊢
  have S6:=S5.trans T6
  refine ⟨h1,d1,ah1.map V.ref,ys,fss,rtF fss as,m,10 ^ 50,rfl,T6 _ _ c5,f5.same T6,e6,fT4.same S6,rl,by omega,by omega,hw,fun z=>by omega,mk.big,by decide,mb7 (by omega),fun t H7 ls S7 pp ht pl fl fz=>?_⟩
  obtain ⟨a1,b1,zs1,us1,lss,o1,o2,o3,o4,o5,o6⟩:=must_one pp mk.sys mk.rows md.injF
  have S47:=S6.trans S7
  refine ⟨_,rfl,_,rfl,t,lA,a1,b1,zs1,za,as,rfl,o1,o2,o3,S47 _ _ hA4,fA4.same S47,by omega,an.lo,fun H8 S8=>⟨_,rfl,ite2 (fun z=>absurd z nt) fun _=>⟨_,rfl,_,rfl,t,_,2,_,rfl,rfl,S8 _ _ o1,atI_nat (j:=2) rfl,lR,b1,xs,us1,fss,lss,m,rfl,S8 _ _ (S47 _ _ hR4),(fR4.same S47).same S8,S8 _ _ o4,o5.same S8,ln,o6.len,by omega,fun fs h=>⟨hw fs h,nn_sz (mk.wd fs h).2⟩,fun ls h=>⟨by rw [(o6.wd ls h).1,ln],(o6.wd ls h).2⟩,md.both mk.sys o6,fun H9 S9=>⟨_,rfl,ite2 (fun z=>absurd z nt) fun _=>?_⟩⟩⟩⟩
  refine ⟨_,rfl,_,_,rfl,rfl,_,rfl,ite2 (fun _=>q.2 _) fun h=>?_⟩
  have m2:2 ≤ m:=by
   have:¬ (m:Int) < 2:=fun z=>h (decide_eq_true z)
   omega
  have S49:=(S47.trans S8).trans S9
  have hR9:=S49 _ _ hR4
  have fR9:=fR4.same S49
  have hA9:=S49 _ _ hA4
  have fA9:=fA4.same S49
  have hT9:=S49 _ _ c4
  have fT9:=fT4.same S49
  clear hR4 fR4 hA4 fA4 c4 fT4 S49 S9 S8 S47 S7 S6 S5 T6 e6 c5 f5 o1 o2 o3 o4 o5 o6 pp
  refine next_of (seq_of (ifnot_call (tCompG1_list ?_)))
  refine ⟨_,rfl,1,rfl,_,rfl,lR,xs,rfl,.inl (.of hR9),fun p10 hp10=>?_⟩
  have ex:cutV xs none (some (-1)) = xs.take (m - 1):=by rw [cut_init (by omega),xl]
  have ey:cutV ys none (some (-1)) = ys.take (m - 1):=by rw [cut_init (by omega),yl]
  have T10:Same H9 (upd H9 p10 (.lst (cutV xs none (some (-1))))):=Same.upd hp10
  have e10:upd H9 p10 (.lst (cutV xs none (some (-1)))) p10 = some (.lst (xs.take (m - 1))):=by rw [ex]; exact upd_same
  dsimp only
  generalize upd H9 p10 (.lst (cutV xs none (some (-1)))) = H10 at T10 e10 ⊢
  have tl:(fss.take (m - 1)).length = m - 1:=by rw [List.length_take]; omega
  refine cp_body e10 ((fR9.take16 (m - 1)).same T10) (by omega) fun h2 ah2 H11 S11 _ c11 f11 _ _=>?_
  have S911:=T10.trans S11
  refine ⟨_,rfl,1,rfl,_,rfl,D4,ys,rfl,.inl (.of (S911 _ _ hT9)),fun d2 hd2=>?_⟩
  have T12:Same H11 (upd H11 d2 (.lst (cutV ys none (some (-1))))):=Same.upd hd2
  have e12:upd H11 d2 (.lst (cutV ys none (some (-1)))) d2 = some (.lst (ys.take (m - 1))):=by rw [ey]; exact upd_same
  dsimp only
  generalize upd H11 d2 (.lst (cutV ys none (some (-1)))) = H12 at T12 e12 ⊢
  have S912:=S911.trans T12
  have mkt:=mk.take (m - 1)
  have et:rtF (fss.take (m - 1)) as = (rtF fss as).take (m - 1):=by unfold rtF; rw [List.map_take]
  refine ⟨h2,d2,ah2.map V.ref,ys.take (m - 1),fss.take (m - 1),rtF (fss.take (m - 1)) as,m,10 ^ 50,rfl,T12 _ _ c11,f11.same T12,e12,by rw [et]; exact (FL.take (m - 1) fT9).same S912,List.length_map _,by omega,by omega,fun fs h=>hw fs (List.mem_of_mem_take h),fun z=>by omega,mkt.big,by decide,mb7 (by omega),fun t2 H13 ls2 S13 pp2 ht2 pl2 fl2 fz2=>?_⟩
  obtain ⟨x,kx,kn,x0,hx0⟩:=md.kernel (by omega)
  obtain ⟨a2,b2,w2⟩:=must_many pp2 mkt.sys mkt.rows (x:=x) (fun fs hf=>by
   obtain ⟨i,hi,rfl⟩:=List.mem_iff_getElem.mp hf
   have hi':i < m - 1:=by omega
   have:=hx0 i hi'
   have e:(fss.take (m - 1))[i] = fAt fss i:=by
    rw [List.getElem_take]
    unfold fAt
    rw [List.getD_eq_getElem?_getD,List.getElem?_eq_getElem (by omega)]; rfl
   rw [e]
   exact this) kn x0
  have S913:=S912.trans S13
  refine ⟨t2, "many",[.ref a2,.ref b2],rfl,w2,by simp,_,rfl,ite2 (fun z=>absurd z nt) fun _=>?_⟩
  have hR13:=S913 _ _ hR9
  have fR13:=fR9.same S913
  have hA13:=S913 _ _ hA9
  have fA13:=fA9.same S913
  have hT13:=S913 _ _ hT9
  have fT13:=fT9.same S913
  clear hR9 fR9 hA9 fA9 hT9 fT9 S913 S912 S911 T10 T12 S13 S11 e10 e12 c11 f11 w2 pp2
  refine next_of (seq_cat (cp_rows15 rfl hR13 fR13 (by omega) fun h3 ah3 H14 S14 hh3 c14 f14 nh3 _=>?_))
  refine ⟨_,rfl,_,rfl,_,1,rfl,rfl,line2,fun cT hcT=>?_⟩
  have T15:Same H14 (upd H14 cT (.tup [.int 1,.int 1])):=Same.upd hcT
  have e15:upd H14 cT (.tup [.int 1,.int 1]) cT = some (.tup [.int 1,.int 1]):=upd_same
  generalize upd H14 cT (.tup [.int 1,.int 1]) = H15 at T15 e15 ⊢
  have S15:=S14.trans T15
  have f0:0 < fss.length:=by omega
  have fm:m - 1 < fss.length:=by omega
  have r0:=md.row _ (fAt_mem f0)
  have rm:=md.row _ (fAt_mem fm)
  refine ⟨lR,cT,xs,fss,0,m - 1,(1,1),by rw [show ((m - 1:Nat):Int) = (m:Int) - 1 by omega]; rfl,S15 _ _ hR13,fR13.same S15,f0,fm,e15,⟨by decide,by decide +kernel,by decide +kernel⟩,by rw [r0.1,rm.1],by rw [r0.1]; omega,made_nn (Nat.le_refl _) md _ (fAt_mem f0),made_nn (Nat.le_refl _) md _ (fAt_mem fm),fun pA zA H16 S16 hpA cA fG=>?_⟩
  have gk:(List.zipWith (addF (1,1)) (fAt fss 0) (fAt fss (m - 1))).length = m∧∀ f ∈ List.zipWith (addF (1,1)) (fAt fss 0) (fAt fss (m - 1)),FrL (60 ^ 12) (2 * 600 ^ 12) f:=by
   refine ⟨by rw [List.length_zipWith,r0.1,rm.1,Nat.min_self],fun f hf=>?_⟩
   obtain ⟨n,hn,rfl⟩:=List.mem_iff_getElem.mp hf
   rw [List.length_zipWith] at hn
   rw [List.getElem_zipWith]
   exact add11 (r0.2 _ (List.getElem_mem _)) (rm.2 _ (List.getElem_mem _))
  generalize List.zipWith (addF (1,1)) (fAt fss 0) (fAt fss (m - 1)) = g at gk fG
  refine ⟨line1,fun pL hpL=>?_⟩
  have T17:Same H16 (upd H16 pL (.lst [.ref pA])):=Same.upd hpL
  have e17:upd H16 pL (.lst [.ref pA]) pL = some (.lst [.ref pA]):=upd_same
  generalize upd H16 pL (.lst [.ref pA]) = H17 at T17 e17 ⊢
  have S1417:=(T15.trans S16).trans T17
  have al3:(ah3.map V.ref).length = m:=by rw [f14.len,ln]
  refine ⟨h3,pL,_,_,rfl,rfl,S1417 _ _ c14,e17,by rw [al3]; exact Nat.le_trans (show m + 1 ≤ 7 by omega) (by decide),fun pM hpM=>?_⟩
  have fM17:FRs H17 (ah3.map V.ref ++ [.ref pA]) (fss ++ [g]):=FRs.snoc (f14.same S1417) (T17 _ _ cA) (fG.same T17)
  have T18:Same H17 (upd H17 pM (.lst (ah3.map V.ref ++ [.ref pA]))):=Same.upd hpM
  have e18:upd H17 pM (.lst (ah3.map V.ref ++ [.ref pA])) pM = some (.lst (ah3.map V.ref ++ [.ref pA])):=upd_same
  generalize upd H17 pM (.lst (ah3.map V.ref ++ [.ref pA])) = H18 at T18 e18 ⊢
  have S18:=S14.trans (S1417.trans T18)
  have fM:=fM17.same T18
  have cA18:=T18 _ _ (T17 _ _ cA)
  have fG18:=(fG.same T17).same T18
  have hA18:=S18 _ _ hA13
  have fA18:=fA13.same S18
  have hT18:=S18 _ _ hT13
  have fT18:=fT13.same S18
  have mkm:=mk.more gk
  clear hR13 fR13 hA13 fA13 hT13 fT13 S18 S1417 S15 S14 T15 e15 T17 e17 fM17 c14 f14 cA fG
  have b3:=pr_bd17 gk.2 an (by omega)
  have b4:0 < (prF g as (0,1)).2:=prF_pos (fun f hf=>(gk.2 f hf).pos) (fun f hf=>(an.lo f hf).pos) (by decide)
  refine ⟨_,rfl,1,rfl,pM,_,-1,_,rfl,rfl,e18,at_last,_,rfl,pA,lA,zA,za,g,as,rfl,cA18,flk_of fG18,hA18,flk_of fA18,by omega,by omega,nn_sz gk.2,Lo.sz an.lo,fun pT H19 S19 hpT cP=>⟨pT,_,rfl,cP,rfl,_,_,rfl,_,_,rfl,rfl,?_⟩⟩
  have nor:=no_rows mk gk md.injF
  have bgm:=big_more mk gk
  have rm1:=rtF_more (fss:=fss) (as:=as) (g:=g)
  generalize hx:prF g as (0,1) = px at *
  refine ⟨_,rfl,_,rfl,_,rfl,_,rfl,px.1,px.2,rfl,b4,b3,fun r1 hr1=>⟨line1,fun pq hpq=>?_⟩⟩
  have T20:Same H19 (upd H19 r1 (.tup [.int (Ac.lw px.1 px.2).1,.int (Ac.lw px.1 px.2).2])):=Same.upd hr1
  have e20:upd H19 r1 (.tup [.int (Ac.lw px.1 px.2).1,.int (Ac.lw px.1 px.2).2]) r1 = some (.tup [.int (Ac.lw px.1 px.2).1,.int (Ac.lw px.1 px.2).2]):=upd_same
  generalize upd H19 r1 (.tup [.int (Ac.lw px.1 px.2).1,.int (Ac.lw px.1 px.2).2]) = H20 at T20 e20 hpq ⊢
  have T21:Same H20 (upd H20 pq (.lst [.ref r1])):=Same.upd hpq
  have e21:upd H20 pq (.lst [.ref r1]) pq = some (.lst [.ref r1]):=upd_same
  generalize upd H20 pq (.lst [.ref r1]) = H21 at T21 e21 ⊢
  have S1821:=S19.trans (T20.trans T21)
  refine ⟨D4,pq,_,_,rfl,rfl,S1821 _ _ hT18,e21,by rw [yl]; exact Nat.le_trans (show m + 1 ≤ 7 by omega) (by decide),fun pR hpR=>?_⟩
  have T22:Same H21 (upd H21 pR (.lst (ys ++ [.ref r1]))):=Same.upd hpR
  have e22:upd H21 pR (.lst (ys ++ [.ref r1])) pR = some (.lst (ys ++ [.ref r1])):=upd_same
  generalize upd H21 pR (.lst (ys ++ [.ref r1])) = H22 at T22 e22 ⊢
  have S1822:=S1821.trans T22
  have ml:(fss ++ [g]).length = m + 1:=by rw [List.length_append,ln]; rfl
  have hwm:∀ fs ∈ fss ++ [g],fs.length = m:=fun fs h=>(mkm.wd fs h).1
  refine ⟨pM,pR,_,_,fss ++ [g],rtF (fss ++ [g]) as,m,10 ^ 50,rfl,S1822 _ _ e18,fM.same S1822,e22,by rw [rm1]; exact (fT18.same S1822).append (.cons (T22 _ _ (T21 _ _ e20)) .nil),List.length_map _,by omega,by omega,hwm,fun z=>by omega,mkm.big,by decide,mb7 (by omega),fun t3 H23 ls3 S23 pp3 ht3 pl3 fl3 fz3=>?_⟩
  obtain ⟨a3,b3',zs3,us3,lss3,w1,w2,w3,_⟩:=must_one pp3 mkm.sys mkm.rows md.injF.more
  have S1823:=S1822.trans S23
  refine ⟨_,rfl,_,rfl,t3,lA,a3,b3',zs3,za,as,rfl,w1,w2,w3,S1823 _ _ hA18,fA18.same S1823,by omega,an.lo,fun H24 S24=>⟨_,rfl,ite2 (fun z=>absurd z nt) fun _=>?_⟩⟩
  have S1824:=S1823.trans S24
  refine ⟨_,rfl,_,rfl,_,rfl,_,rfl,_,_,rfl,rfl,_,rfl,px.1 + px.2,px.2,rfl,b4,b3,fun r2 hr2=>⟨line1,fun pq2 hpq2=>?_⟩⟩
  have T25:Same H24 (upd H24 r2 (.tup [.int (Ac.lw (px.1 + px.2) px.2).1,.int (Ac.lw (px.1 + px.2) px.2).2])):=Same.upd hr2
  have e25:upd H24 r2 (.tup [.int (Ac.lw (px.1 + px.2) px.2).1,.int (Ac.lw (px.1 + px.2) px.2).2]) r2 = some (.tup [.int (Ac.lw (px.1 + px.2) px.2).1,.int (Ac.lw (px.1 + px.2) px.2).2]):=upd_same
  generalize upd H24 r2 (.tup [.int (Ac.lw (px.1 + px.2) px.2).1,.int (Ac.lw (px.1 + px.2) px.2).2]) = H25 at T25 e25 hpq2 ⊢
  have T26:Same H25 (upd H25 pq2 (.lst [.ref r2])):=Same.upd hpq2
  have e26:upd H25 pq2 (.lst [.ref r2]) pq2 = some (.lst [.ref r2]):=upd_same
  generalize upd H25 pq2 (.lst [.ref r2]) = H26 at T26 e26 ⊢
  have S1826:=S1824.trans (T25.trans T26)
  refine ⟨D4,pq2,_,_,rfl,rfl,S1826 _ _ hT18,e26,by rw [yl]; exact Nat.le_trans (show m + 1 ≤ 7 by omega) (by decide),fun pR2 hpR2=>?_⟩
  have T27:Same H26 (upd H26 pR2 (.lst (ys ++ [.ref r2]))):=Same.upd hpR2
  have e27:upd H26 pR2 (.lst (ys ++ [.ref r2])) pR2 = some (.lst (ys ++ [.ref r2])):=upd_same
  generalize upd H26 pR2 (.lst (ys ++ [.ref r2])) = H27 at T27 e27 ⊢
  have S1827:=S1826.trans T27
  refine ⟨pM,pR2,_,_,fss ++ [g],rtF fss as ++ [Ac.lw (px.1 + px.2) px.2],m,10 ^ 50,rfl,S1827 _ _ e18,fM.same S1827,e27,(fT18.same S1827).append (.cons (T27 _ _ (T26 _ _ e25)) .nil),by rw [List.length_append,rl,ml,ln]; rfl,by omega,by omega,hwm,fun z=>by omega,bgm,by decide,mb7 (by omega),fun t4 H28 ls4 S28 pp4 ht4 pl4 fl4 fz4=>?_⟩
  obtain ⟨o4,w4⟩:=must_none pp4 nor
  exact ⟨t4, "none",[.ref o4],rfl,w4,by simp,q.2 _⟩
end
theorem law_fn {l:PySem.W.OpenLaw} {w:World} {K:PySem.W.Frag} {mg:Str→Option Value} (T0:∃ D,Txt K mg D) (base:Heap) (f:Addr) (fd:FuncData) (F:Fun K nm_law nm_law s_law f fd) :
  FnOk l.prog w K mg base CX0 9 f fd ps_law (spLaw K):=by
 obtain ⟨D,T⟩:=T0
 have G_cell:∀ a ns,OkF l.prog w K mg base 1 nm_cell ps_cell (sp_cell K a ns):=fun a ns=>T.f_cell.ok fun _ _ F=>ok_cell F a ns
 have G_whole:OkF l.prog w K mg base 1 nm_whole ps_whole sp_whole:=T.f_whole.ok fun _ _ F=>ok_whole F T
 have G_is_whole:OkF l.prog w K mg base 1 nm_is_whole ps_is_whole sp_whole:=T.f_is_whole.ok fun _ _ F=>ok_is_whole F T
 have G_gcd:OkF l.prog w K mg base 1 nm_gcd ps_gcd sp_gcd:=T.f_gcd.ok fun _ _ F=>ok_gcd F T
 have G_divisor:OkF l.prog w K mg base 1 nm_divisor ps_divisor sp_divisor:=T.f_divisor.ok fun _ _ F=>ok_divisor F T
 have G_ratio:OkF l.prog w K mg base 2 nm_ratio ps_ratio sp_ratio:=T.f_ratio.ok fun _ _ F=>ok_ratio F T G_is_whole G_divisor
 have G_over:OkF l.prog w K mg base 3 nm_over ps_over (sp_over15 K):=T.f_over.ok fun _ _ F=>ok_over15 F G_ratio
 have G_minus:OkF l.prog w K mg base 3 nm_minus ps_minus (sp_minus15 K):=T.f_minus.ok fun _ _ F=>ok_minus15 F G_ratio
 have G_levelK:OkF l.prog w K mg base 2 nm_level ps_level (sp_levelK K):=T.f_level.ok fun _ _ F=>ok_levelK F G_divisor
 have G_level:OkF l.prog w K mg base 2 nm_level ps_level sp_level:=T.f_level.ok fun _ _ F=>(ok_levelK F G_divisor).imp fun _ _ _ _ h=>level_of h
 have G_lowest:OkF l.prog w K mg base 2 nm_lowest ps_lowest sp_plow:=T.f_lowest.ok fun _ _ F=>ok_plow F T G_divisor
 have G_row_times:OkF l.prog w K mg base 3 nm_row_times ps_row_times sp_row_times15:=T.f_row_times.ok fun _ _ F=>ok_row_times15 F T G_lowest
 have G_row_plus:OkF l.prog w K mg base 3 nm_row_plus ps_row_plus sp_row_plus15:=T.f_row_plus.ok fun _ _ F=>ok_row_plus15 F T G_divisor G_lowest
 have G_take_step:OkF l.prog w K mg base 4 nm_take_step ps_take_step sp_take_step15:=T.f_take_step.ok fun _ _ F=>ok_take_step15 F T G_row_times G_row_plus
 have G_number_at:OkF l.prog w K mg base 3 nm_number_at ps_number_at sp_number_at:=T.f_number_at.ok fun _ _ F=>ok_number_at F T G_ratio
 have G_fractions_of:OkF l.prog w K mg base 3 nm_fractions_of ps_fractions_of sp_fractions_of:=T.f_fractions_of.ok fun _ _ F=>ok_fractions_of F T G_ratio
 have G_first_from:OkF l.prog w K mg base 1 nm_first_from ps_first_from sp_first_from:=T.f_first_from.ok fun _ _ F=>ok_first_from F T
 have G_go_on:OkF l.prog w K mg base 5 nm_go_on ps_go_on sp_go_on:=T.f_go_on.ok fun _ _ F=>ok_go_on F T G_take_step
 have G_begin_row:OkF l.prog w K mg base 6 nm_begin_row ps_begin_row sp_begin_row:=T.f_begin_row.ok fun _ _ F=>ok_begin_row F T G_go_on G_number_at G_over
 have G_clear_column:OkF l.prog w K mg base 6 nm_clear_column ps_clear_column sp_clear_column:=T.f_clear_column.ok fun _ _ F=>ok_clear_column F T G_go_on G_number_at G_minus
 have G_reduced:OkF l.prog w K mg base 7 nm_reduced ps_reduced sp_reduced:=T.f_reduced.ok fun _ _ F=>ok_reduced F T G_level G_first_from G_begin_row G_clear_column G_fractions_of
 have G_walked:OkF l.prog w K mg base 5 nm_walked ps_walked (sp_walked16 K):=T.f_walked.ok fun _ _ F=>ok_walked16 F T G_levelK G_take_step G_fractions_of
 have G_width_of:OkF l.prog w K mg base 1 nm_width_of ps_width_of sp_width16:=T.f_width_of.ok fun _ _ F=>ok_width16 F T
 have G_with_rights:OkF l.prog w K mg base 1 nm_with_rights ps_with_rights sp_with_rights:=T.f_with_rights.ok fun _ _ F=>ok_with_rights F T
 have G_begins_of:OkF l.prog w K mg base 1 nm_begins_of ps_begins_of (sp_begins_of K):=T.f_begins_of.ok fun _ _ F=>ok_begins_of F T
 have G_odd_row:OkF l.prog w K mg base 1 nm_odd_row ps_odd_row (sp_odd16 K):=T.f_odd_row.ok fun _ _ F=>ok_odd16 F T
 have G_single_rows:OkF l.prog w K mg base 1 nm_single_rows ps_single_rows (sp_single K):=T.f_single_rows.ok fun _ _ F=>ok_single F T
 have G_answer_of:OkF l.prog w K mg base 1 nm_answer_of ps_answer_of (sp_answer16 K):=T.f_answer_of.ok fun _ _ F=>ok_answer16 F T
 have G_blank_of:OkF l.prog w K mg base 4 nm_blank_of ps_blank_of (sp_blank K):=T.f_blank_of.ok fun _ _ F=>ok_blank F T G_minus
 have G_solved:OkF l.prog w K mg base 8 nm_solved ps_solved (sp_solved K):=T.f_solved.ok fun _ _ F=>ok_solved F T G_width_of G_with_rights G_reduced G_begins_of G_odd_row G_over G_single_rows G_walked G_answer_of G_blank_of
 have G_stream:∀ a ns,OkF l.prog w K mg base 2 nm_stream ps_stream (sp_stream14 K a ns):=fun a ns=>T.f_stream.ok fun _ _ F=>ok_stream F T a ns (G_cell a ns)
 have G_lratio:OkF l.prog w K mg base 2 nm_lratio ps_lratio sp_lratio:=T.f_lratio.ok fun _ _ F=>ok_lratio F G_gcd
 have G_is_fraction:OkF l.prog w K mg base 2 nm_is_fraction ps_is_fraction (sp_is_fraction K):=T.f_is_fraction.ok fun _ _ F=>ok_is_fraction F T G_whole G_gcd
 have G_fractions:OkF l.prog w K mg base 3 nm_fractions ps_fractions (sp_fractions14 K):=T.f_fractions.ok fun _ _ F=>ok_fractions F T G_is_fraction
 have G_products:OkF l.prog w K mg base 1 nm_products ps_products (sp_products K):=T.f_products.ok fun _ _ F=>ok_products F T
 have G_comes:OkF l.prog w K mg base 2 nm_comes ps_comes (sp_comes K):=T.f_comes.ok fun _ _ F=>ok_comes F T G_products
 have G_column:OkF l.prog w K mg base 1 nm_column ps_column (sp_column K):=T.f_column.ok fun _ _ F=>ok_column F T
 have G_unit:OkF l.prog w K mg base 1 nm_unit ps_unit sp_unit17:=T.f_unit.ok fun _ _ F=>ok_unit F T
 have G_added:OkF l.prog w K mg base 3 nm_added ps_added sp_added17:=T.f_added.ok fun _ _ F=>ok_added F T G_lratio
 have G_made:∀ a ns,OkF l.prog w K mg base 4 nm_made ps_made (sp_made17 K a ns):=fun a ns=>T.f_made.ok fun _ _ F=>ok_made F T a ns (G_stream a ns) G_unit G_lratio G_added
 have G_answer:∀ a ns,OkF l.prog w K mg base 3 nm_answer ps_answer (sp_answer17 K a ns):=fun a ns=>T.f_answer.ok fun _ _ F=>ok_answer F T a ns (G_cell a ns) (G_stream a ns) G_lratio
 have G_many_by:∀ a ns,OkF l.prog w K mg base 2 nm_many_by ps_many_by (sp_many_by K a ns):=fun a ns=>T.f_many_by.ok fun _ _ F=>ok_many_by F T a ns (G_cell a ns)
 have G_tells:OkF l.prog w K mg base 4 nm_tells ps_tells (sp_tells17 K):=T.f_tells.ok fun _ _ F=>ok_tells F T G_fractions
 have G_word:OkF l.prog w K mg base 1 nm_word ps_word sp_word17:=T.f_word.ok fun _ _ F=>ok_word F T
 have G_both_ways:OkF l.prog w K mg base 4 nm_both_ways ps_both_ways (sp_both17 K):=T.f_both_ways.ok fun _ _ F=>ok_both_ways F T G_fractions G_comes G_column
 exact ok_law F T G_many_by G_made G_answer G_products G_lratio G_added G_solved G_tells G_both_ways G_word
theorem txt_mk {K:PySem.W.Frag} {h:Heap} {mg:Str→Option Value} {a_NoNumber a_NOUGHT a_ONE:Addr} (X:K.In h) (G:h.Ns mainGlobals mg) (c_NOUGHT:PySem.W.nsIn K mainGlobals "NOUGHT" = some (some (.ref a_NOUGHT))) (c_NoNumber:PySem.W.nsIn K mainGlobals "NoNumber" = some (some (.ref a_NoNumber))) (c_ONE:PySem.W.nsIn K mainGlobals "ONE" = some (some (.ref a_ONE))) (x_NoNumber:PySem.W.excIn K a_NoNumber [.type "ValueError",.type "Exception",.type "BaseException",.type "object"] "ValueError.__new__" = true) (kt_NOUGHT:∃ d n sl,∃ t0 t1,K.lookup a_NOUGHT = some ⟨.type "tuple",d,.seq #[.int 0 t0,.int 1 t1] n,sl⟩) (kt_ONE:∃ d n sl,∃ t0 t1,K.lookup a_ONE = some ⟨.type "tuple",d,.seq #[.int 1 t0,.int 1 t1] n,sl⟩) (z0:PySem.W.nsIn K mainGlobals "abs" = some none) (z1:PySem.W.nsIn K mainGlobals "all" = some none) (z2:PySem.W.nsIn K mainGlobals "bool" = some none) (z3:PySem.W.nsIn K mainGlobals "enumerate" = some none) (z4:PySem.W.nsIn K mainGlobals "int" = some none) (z5:PySem.W.nsIn K mainGlobals "isinstance" = some none) (z6:PySem.W.nsIn K mainGlobals "len" = some none) (z7:PySem.W.nsIn K mainGlobals "list" = some none) (z8:PySem.W.nsIn K mainGlobals "max" = some none) (z9:PySem.W.nsIn K mainGlobals "range" = some none) (z10:PySem.W.nsIn K mainGlobals "sorted" = some none) (z11:PySem.W.nsIn K mainGlobals "tuple" = some none) (z12:PySem.W.nsIn K mainGlobals "zip" = some none) (f0:HasF K mg nm_is_whole s_is_whole ps_is_whole) (f1:HasF K mg nm_divisor s_divisor ps_divisor) (f2:HasF K mg nm_ratio s_ratio ps_ratio) (f3:HasF K mg nm_minus s_minus ps_minus) (f4:HasF K mg nm_over s_over ps_over) (f5:HasF K mg nm_level s_level ps_level) (f6:HasF K mg nm_lowest s_lowest ps_lowest) (f7:HasF K mg nm_row_times s_row_times ps_row_times) (f8:HasF K mg nm_row_plus s_row_plus ps_row_plus) (f9:HasF K mg nm_take_step s_take_step ps_take_step) (f10:HasF K mg nm_number_at s_number_at ps_number_at) (f11:HasF K mg nm_fractions_of s_fractions_of ps_fractions_of) (f12:HasF K mg nm_walked s_walked ps_walked) (f13:HasF K mg nm_first_from s_first_from ps_first_from) (f14:HasF K mg nm_go_on s_go_on ps_go_on) (f15:HasF K mg nm_begin_row s_begin_row ps_begin_row) (f16:HasF K mg nm_clear_column s_clear_column ps_clear_column) (f17:HasF K mg nm_reduced s_reduced ps_reduced) (f18:HasF K mg nm_width_of s_width_of ps_width_of) (f19:HasF K mg nm_with_rights s_with_rights ps_with_rights) (f20:HasF K mg nm_begins_of s_begins_of ps_begins_of) (f21:HasF K mg nm_odd_row s_odd_row ps_odd_row) (f22:HasF K mg nm_answer_of s_answer_of ps_answer_of) (f23:HasF K mg nm_blank_of s_blank_of ps_blank_of) (f24:HasF K mg nm_single_rows s_single_rows ps_single_rows) (f25:HasF K mg nm_solved s_solved ps_solved) (f26:HasF K mg nm_cell s_cell ps_cell) (f27:HasF K mg nm_stream s_stream ps_stream) (f28:HasF K mg nm_gcd s_gcd ps_gcd) (f29:HasF K mg nm_lratio s_lratio ps_lratio) (f30:HasF K mg nm_unit s_unit ps_unit) (f31:HasF K mg nm_added s_added ps_added) (f32:HasF K mg nm_made s_made ps_made) (f33:HasF K mg nm_answer s_answer ps_answer) (f34:HasF K mg nm_many_by s_many_by ps_many_by) (f35:HasF K mg nm_whole s_whole ps_whole) (f36:HasF K mg nm_is_fraction s_is_fraction ps_is_fraction) (f37:HasF K mg nm_fractions s_fractions ps_fractions) (f38:HasF K mg nm_products s_products ps_products) (f39:HasF K mg nm_comes s_comes ps_comes) (f40:HasF K mg nm_column s_column ps_column) (f41:HasF K mg nm_both_ways s_both_ways ps_both_ways) (f42:HasF K mg nm_tells s_tells ps_tells) (f43:HasF K mg nm_word s_word ps_word):Txt K mg ⟨a_NoNumber,a_NOUGHT,a_ONE⟩ :=
 ⟨PySem.W.mg_of X G c_NOUGHT,PySem.W.mg_of X G c_NoNumber,PySem.W.mg_of X G c_ONE,x_NoNumber,fun H=>let ⟨d,n,sl,t0,t1,l⟩:=kt_NOUGHT; .inr ⟨_,_,_,l,rfl,rfl,(by show 2 ≤ sizeLine; decide),.cons ⟨_,rfl⟩ (.cons ⟨_,rfl⟩ (.nil))⟩,fun H=>let ⟨d,n,sl,t0,t1,l⟩:=kt_ONE; .inr ⟨_,_,_,l,rfl,rfl,(by show 2 ≤ sizeLine; decide),.cons ⟨_,rfl⟩ (.cons ⟨_,rfl⟩ (.nil))⟩,PySem.W.mg_none_of X G z0,PySem.W.mg_none_of X G z1,PySem.W.mg_none_of X G z2,PySem.W.mg_none_of X G z3,PySem.W.mg_none_of X G z4,PySem.W.mg_none_of X G z5,PySem.W.mg_none_of X G z6,PySem.W.mg_none_of X G z7,PySem.W.mg_none_of X G z8,PySem.W.mg_none_of X G z9,PySem.W.mg_none_of X G z10,PySem.W.mg_none_of X G z11,PySem.W.mg_none_of X G z12,f0,f1,f2,f3,f4,f5,f6,f7,f8,f9,f10,f11,f12,f13,f14,f15,f16,f17,f18,f19,f20,f21,f22,f23,f24,f25,f26,f27,f28,f29,f30,f31,f32,f33,f34,f35,f36,f37,f38,f39,f40,f41,f42,f43⟩
end K17
namespace H17
open PySem PySem.W L2 L2.Once K17
abbrev p:Program:=PySem.Challenge.pw_chancehall_k17_only_answers
noncomputable def KH:Params→PySem.W.Frag:=fun P=>(
 (nat_lit 2,⟨.none,none,(.dict (List.toArray ([])) 0),List.toArray ([])⟩) ::
 (nat_lit 3,⟨(.type "dict"),none,(.dict (List.toArray (⟨PyData.keyHash P "__name__",(.str "__name__" 165),(.str "law_chancehall_k17_only_answers" 453)⟩ :: ⟨PyData.keyHash P "__doc__",(.str "__doc__" 166),.none⟩ :: ⟨PyData.keyHash P "__package__",(.str "__package__" 167),.none⟩ :: ⟨PyData.keyHash P "__loader__",(.str "__loader__" 168),(.builtin "__main__.__loader__#opaque")⟩ :: ⟨PyData.keyHash P "__spec__",(.str "__spec__" 169),.none⟩ :: ⟨PyData.keyHash P "__annotations__",(.str "__annotations__" 170),(.ref 6)⟩ :: ⟨PyData.keyHash P "__builtins__",(.str "__builtins__" 171),(.ref 4)⟩ :: ⟨PyData.keyHash P "__file__",(.str "__file__" 173),(.str "/claim/cut.py" 172)⟩ :: ⟨PyData.keyHash P "__cached__",(.str "__cached__" 174),.none⟩ :: ⟨PyData.keyHash P "HallError",(.str "HallError" 206),(.ref 24)⟩ :: ⟨PyData.keyHash P "NoNumber",(.str "NoNumber" 222),(.ref 37)⟩ :: ⟨PyData.keyHash P "is_whole",(.str "is_whole" 231),(.ref 46)⟩ :: ⟨PyData.keyHash P "divisor",(.str "divisor" 242),(.ref 53)⟩ :: ⟨PyData.keyHash P "NOUGHT",(.str "NOUGHT" 247),(.ref 54)⟩ :: ⟨PyData.keyHash P "ONE",(.str "ONE" 250),(.ref 55)⟩ :: ⟨PyData.keyHash P "ratio",(.str "ratio" 259),(.ref 62)⟩ :: ⟨PyData.keyHash P "minus",(.str "minus" 267),(.ref 69)⟩ :: ⟨PyData.keyHash P "over",(.str "over" 275),(.ref 76)⟩ :: ⟨PyData.keyHash P "level",(.str "level" 283),(.ref 81)⟩ :: ⟨PyData.keyHash P "lowest",(.str "lowest" 291),(.ref 86)⟩ :: ⟨PyData.keyHash P "row_times",(.str "row_times" 297),(.ref 91)⟩ :: ⟨PyData.keyHash P "row_plus",(.str "row_plus" 303),(.ref 96)⟩ :: ⟨PyData.keyHash P "take_step",(.str "take_step" 312),(.ref 103)⟩ :: ⟨PyData.keyHash P "number_at",(.str "number_at" 320),(.ref 110)⟩ :: ⟨PyData.keyHash P "fractions_of",(.str "fractions_of" 326),(.ref 115)⟩ :: ⟨PyData.keyHash P "walked",(.str "walked" 332),(.ref 120)⟩ :: ⟨PyData.keyHash P "first_from",(.str "first_from" 342),(.ref 127)⟩ :: ⟨PyData.keyHash P "go_on",(.str "go_on" 351),(.ref 134)⟩ :: ⟨PyData.keyHash P "begin_row",(.str "begin_row" 363),(.ref 141)⟩ :: ⟨PyData.keyHash P "clear_column",(.str "clear_column" 375),(.ref 148)⟩ :: ⟨PyData.keyHash P "reduced",(.str "reduced" 381),(.ref 153)⟩ :: ⟨PyData.keyHash P "width_of",(.str "width_of" 390),(.ref 160)⟩ :: ⟨PyData.keyHash P "with_rights",(.str "with_rights" 396),(.ref 165)⟩ :: ⟨PyData.keyHash P "begins_of",(.str "begins_of" 402),(.ref 170)⟩ :: ⟨PyData.keyHash P "odd_row",(.str "odd_row" 412),(.ref 177)⟩ :: ⟨PyData.keyHash P "answer_of",(.str "answer_of" 424),(.ref 184)⟩ :: ⟨PyData.keyHash P "blank_of",(.str "blank_of" 430),(.ref 189)⟩ :: ⟨PyData.keyHash P "single_rows",(.str "single_rows" 436),(.ref 194)⟩ :: ⟨PyData.keyHash P "solved",(.str "solved" 452),(.ref 201)⟩ :: ⟨PyData.keyHash P "_law_cell",(.str "_law_cell" 462),(.ref 208)⟩ :: ⟨PyData.keyHash P "_law_stream",(.str "_law_stream" 474),(.ref 215)⟩ :: ⟨PyData.keyHash P "_law_gcd",(.str "_law_gcd" 484),(.ref 222)⟩ :: ⟨PyData.keyHash P "_law_ratio",(.str "_law_ratio" 493),(.ref 229)⟩ :: ⟨PyData.keyHash P "_law_unit",(.str "_law_unit" 499),(.ref 234)⟩ :: ⟨PyData.keyHash P "_law_added",(.str "_law_added" 514),(.ref 241)⟩ :: ⟨PyData.keyHash P "_law_made",(.str "_law_made" 520),(.ref 246)⟩ :: ⟨PyData.keyHash P "_law_answer",(.str "_law_answer" 526),(.ref 251)⟩ :: ⟨PyData.keyHash P "_law_many_by",(.str "_law_many_by" 534),(.ref 258)⟩ :: ⟨PyData.keyHash P "_law_whole",(.str "_law_whole" 541),(.ref 265)⟩ :: ⟨PyData.keyHash P "_law_is_fraction",(.str "_law_is_fraction" 548),(.ref 272)⟩ :: ⟨PyData.keyHash P "_law_fractions",(.str "_law_fractions" 554),(.ref 277)⟩ :: ⟨PyData.keyHash P "_law_products",(.str "_law_products" 566),(.ref 284)⟩ :: ⟨PyData.keyHash P "_law_comes",(.str "_law_comes" 577),(.ref 291)⟩ :: ⟨PyData.keyHash P "_law_column",(.str "_law_column" 583),(.ref 296)⟩ :: ⟨PyData.keyHash P "_law_both_ways",(.str "_law_both_ways" 589),(.ref 301)⟩ :: ⟨PyData.keyHash P "_law_tells",(.str "_law_tells" 597),(.ref 308)⟩ :: ⟨PyData.keyHash P "_law_word",(.str "_law_word" 605),(.ref 315)⟩ :: ⟨PyData.keyHash P "law",(.str "law" 611),(.ref 320)⟩ :: [])) 58),List.toArray ([])⟩) ::
 (nat_lit 15,⟨(.type "tuple"),none,(.seq (List.toArray ((.type "ValueError") :: [])) 0),List.toArray ([])⟩) ::
 (nat_lit 22,⟨(.type "tuple"),none,(.seq (List.toArray ([])) 0),List.toArray ([])⟩) ::
 (nat_lit 23,⟨(.type "dict"),none,(.dict (List.toArray (⟨PyData.keyHash P "__module__",(.str "__module__" 196),(.str "chancehall.errors" 187)⟩ :: ⟨PyData.keyHash P "__firstlineno__",(.str "__firstlineno__" 200),(.int 2 199)⟩ :: ⟨PyData.keyHash P "__static_attributes__",(.str "__static_attributes__" 201),(.ref 22)⟩ :: ⟨PyData.keyHash P "__weakref__",(.str "__weakref__" 203),(.ref 25)⟩ :: ⟨PyData.keyHash P "__doc__",(.str "__doc__" 204),.none⟩ :: [])) 3),List.toArray ([])⟩) ::
 (nat_lit 24,⟨(.type "type"),none,(.cls ⟨"HallError",[(.type "ValueError")],[(.ref 24),(.type "ValueError"),(.type "Exception"),(.type "BaseException"),(.type "object")],23, "HallError",true,[],[(.ref 37)],false,none,false⟩),List.toArray ((some (.ref 15)) :: none :: (some (.str "HallError" 189)) :: (some (.str "HallError" 197)) :: (some (.builtin "ValueError.__new__")) :: (some (.bool true)) :: [])⟩) ::
 (nat_lit 25,⟨(.type "getset_descriptor"),none,(.fields (List.toArray ((.str "__weakref__" 202) :: (.ref 24) :: (.builtin "ExceptionGroup.__weakref__") :: .none :: []))),List.toArray ([])⟩) ::
 (nat_lit 28,⟨(.type "tuple"),none,(.seq (List.toArray ((.ref 24) :: [])) 0),List.toArray ([])⟩) ::
 (nat_lit 35,⟨(.type "tuple"),none,(.seq (List.toArray ([])) 0),List.toArray ([])⟩) ::
 (nat_lit 36,⟨(.type "dict"),none,(.dict (List.toArray (⟨PyData.keyHash P "__module__",(.str "__module__" 214),(.str "chancehall.errors" 187)⟩ :: ⟨PyData.keyHash P "__firstlineno__",(.str "__firstlineno__" 218),(.int 4 217)⟩ :: ⟨PyData.keyHash P "__static_attributes__",(.str "__static_attributes__" 219),(.ref 35)⟩ :: ⟨PyData.keyHash P "__doc__",(.str "__doc__" 220),.none⟩ :: [])) 2),List.toArray ([])⟩) ::
 (nat_lit 37,⟨(.type "type"),none,(.cls ⟨"NoNumber",[(.ref 24)],[(.ref 37),(.ref 24),(.type "ValueError"),(.type "Exception"),(.type "BaseException"),(.type "object")],36, "NoNumber",true,[],[],false,none,false⟩),List.toArray ((some (.ref 28)) :: none :: (some (.str "NoNumber" 207)) :: (some (.str "NoNumber" 215)) :: (some (.builtin "ValueError.__new__")) :: (some (.bool true)) :: [])⟩) ::
 (nat_lit 40,⟨(.type "tuple"),none,(.seq (List.toArray ([])) 0),List.toArray ([])⟩) ::
 (nat_lit 42,⟨(.type "tuple"),none,(.seq (List.toArray ((.str "thing" 228) :: [])) 0),List.toArray ([])⟩) ::
 (nat_lit 43,⟨(.type "tuple"),none,(.seq (List.toArray ([])) 0),List.toArray ([])⟩) ::
 (nat_lit 45,⟨(.type "code"),none,(.fields (List.toArray ((.str "is_whole" 225) :: (.str "is_whole" 226) :: (.str "/claim/cut.py" 227) :: (.int 7 0) :: (.int 1 0) :: (.int 0 0) :: (.int 0 0) :: (.int 3 0) :: (.ref 40) :: (.bool true) :: (.int 181 0) :: (.ref 41) :: .none :: (.ref 42) :: (.ref 43) :: (.ref 44) :: (.int 229 0) :: (.int 7 0) :: (.str "/claim/cut.py" 230) :: []))),List.toArray ([])⟩) ::
 (nat_lit 46,⟨(.type "function"),none,(.func (fnOf "is_whole" "is_whole" (defArgs (top 4)) (defBody (top 4)) (defScope (top 4)) .none .none .none (.str "chancehall.wholes" 223) none (.ref 45) .none)),List.toArray ([])⟩) ::
 (nat_lit 47,⟨(.type "tuple"),none,(.seq (List.toArray ([])) 0),List.toArray ([])⟩) ::
 (nat_lit 49,⟨(.type "tuple"),none,(.seq (List.toArray ((.str "one" 235) :: (.str "other" 236) :: (.str "left" 237) :: (.str "right" 238) :: (.str "rest" 239) :: [])) 0),List.toArray ([])⟩) ::
 (nat_lit 50,⟨(.type "tuple"),none,(.seq (List.toArray ([])) 0),List.toArray ([])⟩) ::
 (nat_lit 52,⟨(.type "code"),none,(.fields (List.toArray ((.str "divisor" 232) :: (.str "divisor" 233) :: (.str "/claim/cut.py" 234) :: (.int 9 0) :: (.int 2 0) :: (.int 0 0) :: (.int 0 0) :: (.int 3 0) :: (.ref 47) :: (.bool true) :: (.int 181 0) :: (.ref 48) :: .none :: (.ref 49) :: (.ref 50) :: (.ref 51) :: (.int 240 0) :: (.int 9 0) :: (.str "/claim/cut.py" 241) :: []))),List.toArray ([])⟩) ::
 (nat_lit 53,⟨(.type "function"),none,(.func (fnOf "divisor" "divisor" (defArgs (top 5)) (defBody (top 5)) (defScope (top 5)) .none .none .none (.str "chancehall.wholes" 223) none (.ref 52) .none)),List.toArray ([])⟩) ::
 (nat_lit 54,⟨(.type "tuple"),none,(.seq (List.toArray ((.int 0 245) :: (.int 1 246) :: [])) 0),List.toArray ([])⟩) ::
 (nat_lit 55,⟨(.type "tuple"),none,(.seq (List.toArray ((.int 1 248) :: (.int 1 249) :: [])) 0),List.toArray ([])⟩) ::
 (nat_lit 56,⟨(.type "tuple"),none,(.seq (List.toArray ([])) 0),List.toArray ([])⟩) ::
 (nat_lit 58,⟨(.type "tuple"),none,(.seq (List.toArray ((.str "top" 254) :: (.str "bottom" 255) :: (.str "common" 256) :: [])) 0),List.toArray ([])⟩) ::
 (nat_lit 59,⟨(.type "tuple"),none,(.seq (List.toArray ([])) 0),List.toArray ([])⟩) ::
 (nat_lit 61,⟨(.type "code"),none,(.fields (List.toArray ((.str "ratio" 251) :: (.str "ratio" 252) :: (.str "/claim/cut.py" 253) :: (.int 20 0) :: (.int 2 0) :: (.int 0 0) :: (.int 0 0) :: (.int 3 0) :: (.ref 56) :: (.bool true) :: (.int 181 0) :: (.ref 57) :: .none :: (.ref 58) :: (.ref 59) :: (.ref 60) :: (.int 257 0) :: (.int 20 0) :: (.str "/claim/cut.py" 258) :: []))),List.toArray ([])⟩) ::
 (nat_lit 62,⟨(.type "function"),none,(.func (fnOf "ratio" "ratio" (defArgs (top 9)) (defBody (top 9)) (defScope (top 9)) .none .none .none (.str "chancehall.ratios" 243) none (.ref 61) .none)),List.toArray ([])⟩) ::
 (nat_lit 63,⟨(.type "tuple"),none,(.seq (List.toArray ([])) 0),List.toArray ([])⟩) ::
 (nat_lit 65,⟨(.type "tuple"),none,(.seq (List.toArray ((.str "one" 263) :: (.str "other" 264) :: [])) 0),List.toArray ([])⟩) ::
 (nat_lit 66,⟨(.type "tuple"),none,(.seq (List.toArray ([])) 0),List.toArray ([])⟩) ::
 (nat_lit 68,⟨(.type "code"),none,(.fields (List.toArray ((.str "minus" 260) :: (.str "minus" 261) :: (.str "/claim/cut.py" 262) :: (.int 29 0) :: (.int 2 0) :: (.int 0 0) :: (.int 0 0) :: (.int 3 0) :: (.ref 63) :: (.bool true) :: (.int 181 0) :: (.ref 64) :: .none :: (.ref 65) :: (.ref 66) :: (.ref 67) :: (.int 265 0) :: (.int 29 0) :: (.str "/claim/cut.py" 266) :: []))),List.toArray ([])⟩) ::
 (nat_lit 69,⟨(.type "function"),none,(.func (fnOf "minus" "minus" (defArgs (top 10)) (defBody (top 10)) (defScope (top 10)) .none .none .none (.str "chancehall.ratios" 243) none (.ref 68) .none)),List.toArray ([])⟩) ::
 (nat_lit 70,⟨(.type "tuple"),none,(.seq (List.toArray ([])) 0),List.toArray ([])⟩) ::
 (nat_lit 72,⟨(.type "tuple"),none,(.seq (List.toArray ((.str "one" 271) :: (.str "other" 272) :: [])) 0),List.toArray ([])⟩) ::
 (nat_lit 73,⟨(.type "tuple"),none,(.seq (List.toArray ([])) 0),List.toArray ([])⟩) ::
 (nat_lit 75,⟨(.type "code"),none,(.fields (List.toArray ((.str "over" 268) :: (.str "over" 269) :: (.str "/claim/cut.py" 270) :: (.int 31 0) :: (.int 2 0) :: (.int 0 0) :: (.int 0 0) :: (.int 3 0) :: (.ref 70) :: (.bool true) :: (.int 181 0) :: (.ref 71) :: .none :: (.ref 72) :: (.ref 73) :: (.ref 74) :: (.int 273 0) :: (.int 31 0) :: (.str "/claim/cut.py" 274) :: []))),List.toArray ([])⟩) ::
 (nat_lit 76,⟨(.type "function"),none,(.func (fnOf "over" "over" (defArgs (top 11)) (defBody (top 11)) (defScope (top 11)) .none .none .none (.str "chancehall.ratios" 243) none (.ref 75) .none)),List.toArray ([])⟩) ::
 (nat_lit 77,⟨(.type "tuple"),none,(.seq (List.toArray ([])) 0),List.toArray ([])⟩) ::
 (nat_lit 80,⟨(.type "code"),none,(.fields (List.toArray ((.str "level" 278) :: (.str "level" 279) :: (.str "/claim/cut.py" 280) :: (.int 34 0) :: (.int 1 0) :: (.int 0 0) :: (.int 0 0) :: (.int 3 0) :: (.ref 77) :: (.bool true) :: (.int 181 0) :: (.ref 78) :: .none :: .none :: .none :: (.ref 79) :: (.int 281 0) :: (.int 34 0) :: (.str "/claim/cut.py" 282) :: []))),List.toArray ([])⟩) ::
 (nat_lit 81,⟨(.type "function"),none,(.func (fnOf "level" "level" (defArgs (top 13)) (defBody (top 13)) (defScope (top 13)) .none .none .none (.str "chancehall.levels" 276) none (.ref 80) .none)),List.toArray ([])⟩) ::
 (nat_lit 82,⟨(.type "tuple"),none,(.seq (List.toArray ([])) 0),List.toArray ([])⟩) ::
 (nat_lit 85,⟨(.type "code"),none,(.fields (List.toArray ((.str "lowest" 286) :: (.str "lowest" 287) :: (.str "/claim/cut.py" 288) :: (.int 40 0) :: (.int 2 0) :: (.int 0 0) :: (.int 0 0) :: (.int 3 0) :: (.ref 82) :: (.bool true) :: (.int 181 0) :: (.ref 83) :: .none :: .none :: .none :: (.ref 84) :: (.int 289 0) :: (.int 40 0) :: (.str "/claim/cut.py" 290) :: []))),List.toArray ([])⟩) ::
 (nat_lit 86,⟨(.type "function"),none,(.func (fnOf "lowest" "lowest" (defArgs (top 15)) (defBody (top 15)) (defScope (top 15)) .none .none .none (.str "chancehall.papers" 284) none (.ref 85) .none)),List.toArray ([])⟩) ::
 (nat_lit 87,⟨(.type "tuple"),none,(.seq (List.toArray ([])) 0),List.toArray ([])⟩) ::
 (nat_lit 90,⟨(.type "code"),none,(.fields (List.toArray ((.str "row_times" 292) :: (.str "row_times" 293) :: (.str "/claim/cut.py" 294) :: (.int 45 0) :: (.int 2 0) :: (.int 0 0) :: (.int 0 0) :: (.int 3 0) :: (.ref 87) :: (.bool true) :: (.int 181 0) :: (.ref 88) :: .none :: .none :: .none :: (.ref 89) :: (.int 295 0) :: (.int 45 0) :: (.str "/claim/cut.py" 296) :: []))),List.toArray ([])⟩) ::
 (nat_lit 91,⟨(.type "function"),none,(.func (fnOf "row_times" "row_times" (defArgs (top 16)) (defBody (top 16)) (defScope (top 16)) .none .none .none (.str "chancehall.papers" 284) none (.ref 90) .none)),List.toArray ([])⟩) ::
 (nat_lit 92,⟨(.type "tuple"),none,(.seq (List.toArray ([])) 0),List.toArray ([])⟩) ::
 (nat_lit 95,⟨(.type "code"),none,(.fields (List.toArray ((.str "row_plus" 298) :: (.str "row_plus" 299) :: (.str "/claim/cut.py" 300) :: (.int 47 0) :: (.int 3 0) :: (.int 0 0) :: (.int 0 0) :: (.int 3 0) :: (.ref 92) :: (.bool true) :: (.int 181 0) :: (.ref 93) :: .none :: .none :: .none :: (.ref 94) :: (.int 301 0) :: (.int 47 0) :: (.str "/claim/cut.py" 302) :: []))),List.toArray ([])⟩) ::
 (nat_lit 96,⟨(.type "function"),none,(.func (fnOf "row_plus" "row_plus" (defArgs (top 17)) (defBody (top 17)) (defScope (top 17)) .none .none .none (.str "chancehall.papers" 284) none (.ref 95) .none)),List.toArray ([])⟩) ::
 (nat_lit 97,⟨(.type "tuple"),none,(.seq (List.toArray ([])) 0),List.toArray ([])⟩) ::
 (nat_lit 99,⟨(.type "tuple"),none,(.seq (List.toArray ((.str "leveled" 307) :: (.str "step" 308) :: (.str "row" 309) :: [])) 0),List.toArray ([])⟩) ::
 (nat_lit 100,⟨(.type "tuple"),none,(.seq (List.toArray ([])) 0),List.toArray ([])⟩) ::
 (nat_lit 102,⟨(.type "code"),none,(.fields (List.toArray ((.str "take_step" 304) :: (.str "take_step" 305) :: (.str "/claim/cut.py" 306) :: (.int 54 0) :: (.int 2 0) :: (.int 0 0) :: (.int 0 0) :: (.int 3 0) :: (.ref 97) :: (.bool true) :: (.int 181 0) :: (.ref 98) :: .none :: (.ref 99) :: (.ref 100) :: (.ref 101) :: (.int 310 0) :: (.int 54 0) :: (.str "/claim/cut.py" 311) :: []))),List.toArray ([])⟩) ::
 (nat_lit 103,⟨(.type "function"),none,(.func (fnOf "take_step" "take_step" (defArgs (top 18)) (defBody (top 18)) (defScope (top 18)) .none .none .none (.str "chancehall.papers" 284) none (.ref 102) .none)),List.toArray ([])⟩) ::
 (nat_lit 104,⟨(.type "tuple"),none,(.seq (List.toArray ([])) 0),List.toArray ([])⟩) ::
 (nat_lit 106,⟨(.type "tuple"),none,(.seq (List.toArray ((.str "row" 316) :: (.str "column" 317) :: [])) 0),List.toArray ([])⟩) ::
 (nat_lit 107,⟨(.type "tuple"),none,(.seq (List.toArray ([])) 0),List.toArray ([])⟩) ::
 (nat_lit 109,⟨(.type "code"),none,(.fields (List.toArray ((.str "number_at" 313) :: (.str "number_at" 314) :: (.str "/claim/cut.py" 315) :: (.int 63 0) :: (.int 2 0) :: (.int 0 0) :: (.int 0 0) :: (.int 3 0) :: (.ref 104) :: (.bool true) :: (.int 181 0) :: (.ref 105) :: .none :: (.ref 106) :: (.ref 107) :: (.ref 108) :: (.int 318 0) :: (.int 63 0) :: (.str "/claim/cut.py" 319) :: []))),List.toArray ([])⟩) ::
 (nat_lit 110,⟨(.type "function"),none,(.func (fnOf "number_at" "number_at" (defArgs (top 19)) (defBody (top 19)) (defScope (top 19)) .none .none .none (.str "chancehall.papers" 284) none (.ref 109) .none)),List.toArray ([])⟩) ::
 (nat_lit 111,⟨(.type "tuple"),none,(.seq (List.toArray ([])) 0),List.toArray ([])⟩) ::
 (nat_lit 114,⟨(.type "code"),none,(.fields (List.toArray ((.str "fractions_of" 321) :: (.str "fractions_of" 322) :: (.str "/claim/cut.py" 323) :: (.int 65 0) :: (.int 1 0) :: (.int 0 0) :: (.int 0 0) :: (.int 3 0) :: (.ref 111) :: (.bool true) :: (.int 181 0) :: (.ref 112) :: .none :: .none :: .none :: (.ref 113) :: (.int 324 0) :: (.int 65 0) :: (.str "/claim/cut.py" 325) :: []))),List.toArray ([])⟩) ::
 (nat_lit 115,⟨(.type "function"),none,(.func (fnOf "fractions_of" "fractions_of" (defArgs (top 20)) (defBody (top 20)) (defScope (top 20)) .none .none .none (.str "chancehall.papers" 284) none (.ref 114) .none)),List.toArray ([])⟩) ::
 (nat_lit 116,⟨(.type "tuple"),none,(.seq (List.toArray ([])) 0),List.toArray ([])⟩) ::
 (nat_lit 119,⟨(.type "code"),none,(.fields (List.toArray ((.str "walked" 327) :: (.str "walked" 328) :: (.str "/claim/cut.py" 329) :: (.int 67 0) :: (.int 2 0) :: (.int 0 0) :: (.int 0 0) :: (.int 3 0) :: (.ref 116) :: (.bool true) :: (.int 181 0) :: (.ref 117) :: .none :: .none :: .none :: (.ref 118) :: (.int 330 0) :: (.int 67 0) :: (.str "/claim/cut.py" 331) :: []))),List.toArray ([])⟩) ::
 (nat_lit 120,⟨(.type "function"),none,(.func (fnOf "walked" "walked" (defArgs (top 21)) (defBody (top 21)) (defScope (top 21)) .none .none .none (.str "chancehall.papers" 284) none (.ref 119) .none)),List.toArray ([])⟩) ::
 (nat_lit 121,⟨(.type "tuple"),none,(.seq (List.toArray ([])) 0),List.toArray ([])⟩) ::
 (nat_lit 123,⟨(.type "tuple"),none,(.seq (List.toArray ((.str "leveled" 336) :: (.str "place" 337) :: (.str "column" 338) :: (.str "row" 339) :: [])) 0),List.toArray ([])⟩) ::
 (nat_lit 124,⟨(.type "tuple"),none,(.seq (List.toArray ([])) 0),List.toArray ([])⟩) ::
 (nat_lit 126,⟨(.type "code"),none,(.fields (List.toArray ((.str "first_from" 333) :: (.str "first_from" 334) :: (.str "/claim/cut.py" 335) :: (.int 72 0) :: (.int 3 0) :: (.int 0 0) :: (.int 0 0) :: (.int 3 0) :: (.ref 121) :: (.bool true) :: (.int 181 0) :: (.ref 122) :: .none :: (.ref 123) :: (.ref 124) :: (.ref 125) :: (.int 340 0) :: (.int 72 0) :: (.str "/claim/cut.py" 341) :: []))),List.toArray ([])⟩) ::
 (nat_lit 127,⟨(.type "function"),none,(.func (fnOf "first_from" "first_from" (defArgs (top 22)) (defBody (top 22)) (defScope (top 22)) .none .none .none (.str "chancehall.papers" 284) none (.ref 126) .none)),List.toArray ([])⟩) ::
 (nat_lit 128,⟨(.type "tuple"),none,(.seq (List.toArray ([])) 0),List.toArray ([])⟩) ::
 (nat_lit 130,⟨(.type "tuple"),none,(.seq (List.toArray ((.str "leveled" 346) :: (.str "steps" 347) :: (.str "step" 348) :: [])) 0),List.toArray ([])⟩) ::
 (nat_lit 131,⟨(.type "tuple"),none,(.seq (List.toArray ([])) 0),List.toArray ([])⟩) ::
 (nat_lit 133,⟨(.type "code"),none,(.fields (List.toArray ((.str "go_on" 343) :: (.str "go_on" 344) :: (.str "/claim/cut.py" 345) :: (.int 77 0) :: (.int 3 0) :: (.int 0 0) :: (.int 0 0) :: (.int 3 0) :: (.ref 128) :: (.bool true) :: (.int 181 0) :: (.ref 129) :: .none :: (.ref 130) :: (.ref 131) :: (.ref 132) :: (.int 349 0) :: (.int 77 0) :: (.str "/claim/cut.py" 350) :: []))),List.toArray ([])⟩) ::
 (nat_lit 134,⟨(.type "function"),none,(.func (fnOf "go_on" "go_on" (defArgs (top 23)) (defBody (top 23)) (defScope (top 23)) .none .none .none (.str "chancehall.papers" 284) none (.ref 133) .none)),List.toArray ([])⟩) ::
 (nat_lit 135,⟨(.type "tuple"),none,(.seq (List.toArray ([])) 0),List.toArray ([])⟩) ::
 (nat_lit 137,⟨(.type "tuple"),none,(.seq (List.toArray ((.str "leveled" 355) :: (.str "steps" 356) :: (.str "place" 357) :: (.str "found" 358) :: (.str "column" 359) :: (.str "first" 360) :: [])) 0),List.toArray ([])⟩) ::
 (nat_lit 138,⟨(.type "tuple"),none,(.seq (List.toArray ([])) 0),List.toArray ([])⟩) ::
 (nat_lit 140,⟨(.type "code"),none,(.fields (List.toArray ((.str "begin_row" 352) :: (.str "begin_row" 353) :: (.str "/claim/cut.py" 354) :: (.int 80 0) :: (.int 5 0) :: (.int 0 0) :: (.int 0 0) :: (.int 3 0) :: (.ref 135) :: (.bool true) :: (.int 181 0) :: (.ref 136) :: .none :: (.ref 137) :: (.ref 138) :: (.ref 139) :: (.int 361 0) :: (.int 80 0) :: (.str "/claim/cut.py" 362) :: []))),List.toArray ([])⟩) ::
 (nat_lit 141,⟨(.type "function"),none,(.func (fnOf "begin_row" "begin_row" (defArgs (top 24)) (defBody (top 24)) (defScope (top 24)) .none .none .none (.str "chancehall.papers" 284) none (.ref 140) .none)),List.toArray ([])⟩) ::
 (nat_lit 142,⟨(.type "tuple"),none,(.seq (List.toArray ([])) 0),List.toArray ([])⟩) ::
 (nat_lit 144,⟨(.type "tuple"),none,(.seq (List.toArray ((.str "leveled" 367) :: (.str "steps" 368) :: (.str "place" 369) :: (.str "column" 370) :: (.str "row" 371) :: (.str "often" 372) :: [])) 0),List.toArray ([])⟩) ::
 (nat_lit 145,⟨(.type "tuple"),none,(.seq (List.toArray ([])) 0),List.toArray ([])⟩) ::
 (nat_lit 147,⟨(.type "code"),none,(.fields (List.toArray ((.str "clear_column" 364) :: (.str "clear_column" 365) :: (.str "/claim/cut.py" 366) :: (.int 86 0) :: (.int 4 0) :: (.int 0 0) :: (.int 0 0) :: (.int 3 0) :: (.ref 142) :: (.bool true) :: (.int 181 0) :: (.ref 143) :: .none :: (.ref 144) :: (.ref 145) :: (.ref 146) :: (.int 373 0) :: (.int 86 0) :: (.str "/claim/cut.py" 374) :: []))),List.toArray ([])⟩) ::
 (nat_lit 148,⟨(.type "function"),none,(.func (fnOf "clear_column" "clear_column" (defArgs (top 25)) (defBody (top 25)) (defScope (top 25)) .none .none .none (.str "chancehall.papers" 284) none (.ref 147) .none)),List.toArray ([])⟩) ::
 (nat_lit 149,⟨(.type "tuple"),none,(.seq (List.toArray ([])) 0),List.toArray ([])⟩) ::
 (nat_lit 152,⟨(.type "code"),none,(.fields (List.toArray ((.str "reduced" 376) :: (.str "reduced" 377) :: (.str "/claim/cut.py" 378) :: (.int 91 0) :: (.int 2 0) :: (.int 0 0) :: (.int 0 0) :: (.int 3 0) :: (.ref 149) :: (.bool true) :: (.int 181 0) :: (.ref 150) :: .none :: .none :: .none :: (.ref 151) :: (.int 379 0) :: (.int 91 0) :: (.str "/claim/cut.py" 380) :: []))),List.toArray ([])⟩) ::
 (nat_lit 153,⟨(.type "function"),none,(.func (fnOf "reduced" "reduced" (defArgs (top 26)) (defBody (top 26)) (defScope (top 26)) .none .none .none (.str "chancehall.papers" 284) none (.ref 152) .none)),List.toArray ([])⟩) ::
 (nat_lit 154,⟨(.type "tuple"),none,(.seq (List.toArray ([])) 0),List.toArray ([])⟩) ::
 (nat_lit 156,⟨(.type "tuple"),none,(.seq (List.toArray ((.str "rows" 387) :: [])) 0),List.toArray ([])⟩) ::
 (nat_lit 157,⟨(.type "tuple"),none,(.seq (List.toArray ([])) 0),List.toArray ([])⟩) ::
 (nat_lit 159,⟨(.type "code"),none,(.fields (List.toArray ((.str "width_of" 384) :: (.str "width_of" 385) :: (.str "/claim/cut.py" 386) :: (.int 103 0) :: (.int 1 0) :: (.int 0 0) :: (.int 0 0) :: (.int 3 0) :: (.ref 154) :: (.bool true) :: (.int 181 0) :: (.ref 155) :: .none :: (.ref 156) :: (.ref 157) :: (.ref 158) :: (.int 388 0) :: (.int 103 0) :: (.str "/claim/cut.py" 389) :: []))),List.toArray ([])⟩) ::
 (nat_lit 160,⟨(.type "function"),none,(.func (fnOf "width_of" "width_of" (defArgs (top 28)) (defBody (top 28)) (defScope (top 28)) .none .none .none (.str "chancehall.solving" 382) none (.ref 159) .none)),List.toArray ([])⟩) ::
 (nat_lit 161,⟨(.type "tuple"),none,(.seq (List.toArray ([])) 0),List.toArray ([])⟩) ::
 (nat_lit 164,⟨(.type "code"),none,(.fields (List.toArray ((.str "with_rights" 391) :: (.str "with_rights" 392) :: (.str "/claim/cut.py" 393) :: (.int 107 0) :: (.int 2 0) :: (.int 0 0) :: (.int 0 0) :: (.int 3 0) :: (.ref 161) :: (.bool true) :: (.int 181 0) :: (.ref 162) :: .none :: .none :: .none :: (.ref 163) :: (.int 394 0) :: (.int 107 0) :: (.str "/claim/cut.py" 395) :: []))),List.toArray ([])⟩) ::
 (nat_lit 165,⟨(.type "function"),none,(.func (fnOf "with_rights" "with_rights" (defArgs (top 29)) (defBody (top 29)) (defScope (top 29)) .none .none .none (.str "chancehall.solving" 382) none (.ref 164) .none)),List.toArray ([])⟩) ::
 (nat_lit 166,⟨(.type "tuple"),none,(.seq (List.toArray ([])) 0),List.toArray ([])⟩) ::
 (nat_lit 169,⟨(.type "code"),none,(.fields (List.toArray ((.str "begins_of" 397) :: (.str "begins_of" 398) :: (.str "/claim/cut.py" 399) :: (.int 109 0) :: (.int 2 0) :: (.int 0 0) :: (.int 0 0) :: (.int 3 0) :: (.ref 166) :: (.bool true) :: (.int 181 0) :: (.ref 167) :: .none :: .none :: .none :: (.ref 168) :: (.int 400 0) :: (.int 109 0) :: (.str "/claim/cut.py" 401) :: []))),List.toArray ([])⟩) ::
 (nat_lit 170,⟨(.type "function"),none,(.func (fnOf "begins_of" "begins_of" (defArgs (top 30)) (defBody (top 30)) (defScope (top 30)) .none .none .none (.str "chancehall.solving" 382) none (.ref 169) .none)),List.toArray ([])⟩) ::
 (nat_lit 171,⟨(.type "tuple"),none,(.seq (List.toArray ([])) 0),List.toArray ([])⟩) ::
 (nat_lit 173,⟨(.type "tuple"),none,(.seq (List.toArray ((.str "end" 406) :: (.str "begins" 407) :: (.str "wide" 408) :: (.str "row" 409) :: [])) 0),List.toArray ([])⟩) ::
 (nat_lit 174,⟨(.type "tuple"),none,(.seq (List.toArray ([])) 0),List.toArray ([])⟩) ::
 (nat_lit 176,⟨(.type "code"),none,(.fields (List.toArray ((.str "odd_row" 403) :: (.str "odd_row" 404) :: (.str "/claim/cut.py" 405) :: (.int 116 0) :: (.int 3 0) :: (.int 0 0) :: (.int 0 0) :: (.int 3 0) :: (.ref 171) :: (.bool true) :: (.int 181 0) :: (.ref 172) :: .none :: (.ref 173) :: (.ref 174) :: (.ref 175) :: (.int 410 0) :: (.int 116 0) :: (.str "/claim/cut.py" 411) :: []))),List.toArray ([])⟩) ::
 (nat_lit 177,⟨(.type "function"),none,(.func (fnOf "odd_row" "odd_row" (defArgs (top 31)) (defBody (top 31)) (defScope (top 31)) .none .none .none (.str "chancehall.solving" 382) none (.ref 176) .none)),List.toArray ([])⟩) ::
 (nat_lit 178,⟨(.type "tuple"),none,(.seq (List.toArray ([])) 0),List.toArray ([])⟩) ::
 (nat_lit 180,⟨(.type "tuple"),none,(.seq (List.toArray ((.str "end" 416) :: (.str "begins" 417) :: (.str "wide" 418) :: (.str "answer" 419) :: (.str "row" 420) :: (.str "column" 421) :: [])) 0),List.toArray ([])⟩) ::
 (nat_lit 181,⟨(.type "tuple"),none,(.seq (List.toArray ([])) 0),List.toArray ([])⟩) ::
 (nat_lit 183,⟨(.type "code"),none,(.fields (List.toArray ((.str "answer_of" 413) :: (.str "answer_of" 414) :: (.str "/claim/cut.py" 415) :: (.int 121 0) :: (.int 3 0) :: (.int 0 0) :: (.int 0 0) :: (.int 3 0) :: (.ref 178) :: (.bool true) :: (.int 181 0) :: (.ref 179) :: .none :: (.ref 180) :: (.ref 181) :: (.ref 182) :: (.int 422 0) :: (.int 121 0) :: (.str "/claim/cut.py" 423) :: []))),List.toArray ([])⟩) ::
 (nat_lit 184,⟨(.type "function"),none,(.func (fnOf "answer_of" "answer_of" (defArgs (top 32)) (defBody (top 32)) (defScope (top 32)) .none .none .none (.str "chancehall.solving" 382) none (.ref 183) .none)),List.toArray ([])⟩) ::
 (nat_lit 185,⟨(.type "tuple"),none,(.seq (List.toArray ([])) 0),List.toArray ([])⟩) ::
 (nat_lit 188,⟨(.type "code"),none,(.fields (List.toArray ((.str "blank_of" 425) :: (.str "blank_of" 426) :: (.str "/claim/cut.py" 427) :: (.int 126 0) :: (.int 3 0) :: (.int 0 0) :: (.int 0 0) :: (.int 3 0) :: (.ref 185) :: (.bool true) :: (.int 181 0) :: (.ref 186) :: .none :: .none :: .none :: (.ref 187) :: (.int 428 0) :: (.int 126 0) :: (.str "/claim/cut.py" 429) :: []))),List.toArray ([])⟩) ::
 (nat_lit 189,⟨(.type "function"),none,(.func (fnOf "blank_of" "blank_of" (defArgs (top 33)) (defBody (top 33)) (defScope (top 33)) .none .none .none (.str "chancehall.solving" 382) none (.ref 188) .none)),List.toArray ([])⟩) ::
 (nat_lit 190,⟨(.type "tuple"),none,(.seq (List.toArray ([])) 0),List.toArray ([])⟩) ::
 (nat_lit 193,⟨(.type "code"),none,(.fields (List.toArray ((.str "single_rows" 431) :: (.str "single_rows" 432) :: (.str "/claim/cut.py" 433) :: (.int 133 0) :: (.int 1 0) :: (.int 0 0) :: (.int 0 0) :: (.int 3 0) :: (.ref 190) :: (.bool true) :: (.int 181 0) :: (.ref 191) :: .none :: .none :: .none :: (.ref 192) :: (.int 434 0) :: (.int 133 0) :: (.str "/claim/cut.py" 435) :: []))),List.toArray ([])⟩) ::
 (nat_lit 194,⟨(.type "function"),none,(.func (fnOf "single_rows" "single_rows" (defArgs (top 34)) (defBody (top 34)) (defScope (top 34)) .none .none .none (.str "chancehall.solving" 382) none (.ref 193) .none)),List.toArray ([])⟩) ::
 (nat_lit 195,⟨(.type "tuple"),none,(.seq (List.toArray ([])) 0),List.toArray ([])⟩) ::
 (nat_lit 197,⟨(.type "tuple"),none,(.seq (List.toArray ((.str "rows" 440) :: (.str "rights" 441) :: (.str "wide" 442) :: (.str "done" 443) :: (.str "steps" 444) :: (.str "end" 445) :: (.str "begins" 446) :: (.str "odd" 447) :: (.str "last" 448) :: (.str "answer" 449) :: [])) 0),List.toArray ([])⟩) ::
 (nat_lit 198,⟨(.type "tuple"),none,(.seq (List.toArray ([])) 0),List.toArray ([])⟩) ::
 (nat_lit 200,⟨(.type "code"),none,(.fields (List.toArray ((.str "solved" 437) :: (.str "solved" 438) :: (.str "/claim/cut.py" 439) :: (.int 135 0) :: (.int 2 0) :: (.int 0 0) :: (.int 0 0) :: (.int 3 0) :: (.ref 195) :: (.bool true) :: (.int 181 0) :: (.ref 196) :: .none :: (.ref 197) :: (.ref 198) :: (.ref 199) :: (.int 450 0) :: (.int 135 0) :: (.str "/claim/cut.py" 451) :: []))),List.toArray ([])⟩) ::
 (nat_lit 201,⟨(.type "function"),none,(.func (fnOf "solved" "solved" (defArgs (top 35)) (defBody (top 35)) (defScope (top 35)) .none .none .none (.str "chancehall.solving" 382) none (.ref 200) .none)),List.toArray ([])⟩) ::
 (nat_lit 202,⟨(.type "tuple"),none,(.seq (List.toArray ([])) 0),List.toArray ([])⟩) ::
 (nat_lit 204,⟨(.type "tuple"),none,(.seq (List.toArray ((.str "_law_script" 458) :: (.str "_law_k" 459) :: [])) 0),List.toArray ([])⟩) ::
 (nat_lit 205,⟨(.type "tuple"),none,(.seq (List.toArray ([])) 0),List.toArray ([])⟩) ::
 (nat_lit 207,⟨(.type "code"),none,(.fields (List.toArray ((.str "_law_cell" 455) :: (.str "_law_cell" 456) :: (.str "/claim/cut.py" 457) :: (.int 150 0) :: (.int 2 0) :: (.int 0 0) :: (.int 0 0) :: (.int 3 0) :: (.ref 202) :: (.bool true) :: (.int 181 0) :: (.ref 203) :: .none :: (.ref 204) :: (.ref 205) :: (.ref 206) :: (.int 460 0) :: (.int 150 0) :: (.str "/claim/cut.py" 461) :: []))),List.toArray ([])⟩) ::
 (nat_lit 208,⟨(.type "function"),none,(.func (fnOf "_law_cell" "_law_cell" (defArgs (top 37)) (defBody (top 37)) (defScope (top 37)) .none .none .none (.str "law_chancehall_k17_only_answers" 453) none (.ref 207) .none)),List.toArray ([])⟩) ::
 (nat_lit 209,⟨(.type "tuple"),none,(.seq (List.toArray ([])) 0),List.toArray ([])⟩) ::
 (nat_lit 211,⟨(.type "tuple"),none,(.seq (List.toArray ((.str "_law_script" 466) :: (.str "_law_start" 467) :: (.str "_law_many" 468) :: (.str "_law_found" 469) :: (.str "_law_number" 470) :: (.str "_law_k" 471) :: [])) 0),List.toArray ([])⟩) ::
 (nat_lit 212,⟨(.type "tuple"),none,(.seq (List.toArray ([])) 0),List.toArray ([])⟩) ::
 (nat_lit 214,⟨(.type "code"),none,(.fields (List.toArray ((.str "_law_stream" 463) :: (.str "_law_stream" 464) :: (.str "/claim/cut.py" 465) :: (.int 152 0) :: (.int 3 0) :: (.int 0 0) :: (.int 0 0) :: (.int 3 0) :: (.ref 209) :: (.bool true) :: (.int 181 0) :: (.ref 210) :: .none :: (.ref 211) :: (.ref 212) :: (.ref 213) :: (.int 472 0) :: (.int 152 0) :: (.str "/claim/cut.py" 473) :: []))),List.toArray ([])⟩) ::
 (nat_lit 215,⟨(.type "function"),none,(.func (fnOf "_law_stream" "_law_stream" (defArgs (top 38)) (defBody (top 38)) (defScope (top 38)) .none .none .none (.str "law_chancehall_k17_only_answers" 453) none (.ref 214) .none)),List.toArray ([])⟩) ::
 (nat_lit 216,⟨(.type "tuple"),none,(.seq (List.toArray ([])) 0),List.toArray ([])⟩) ::
 (nat_lit 218,⟨(.type "tuple"),none,(.seq (List.toArray ((.str "_law_one" 478) :: (.str "_law_other" 479) :: (.str "_law_low" 480) :: (.str "_law_high" 481) :: [])) 0),List.toArray ([])⟩) ::
 (nat_lit 219,⟨(.type "tuple"),none,(.seq (List.toArray ([])) 0),List.toArray ([])⟩) ::
 (nat_lit 221,⟨(.type "code"),none,(.fields (List.toArray ((.str "_law_gcd" 475) :: (.str "_law_gcd" 476) :: (.str "/claim/cut.py" 477) :: (.int 159 0) :: (.int 2 0) :: (.int 0 0) :: (.int 0 0) :: (.int 3 0) :: (.ref 216) :: (.bool true) :: (.int 181 0) :: (.ref 217) :: .none :: (.ref 218) :: (.ref 219) :: (.ref 220) :: (.int 482 0) :: (.int 159 0) :: (.str "/claim/cut.py" 483) :: []))),List.toArray ([])⟩) ::
 (nat_lit 222,⟨(.type "function"),none,(.func (fnOf "_law_gcd" "_law_gcd" (defArgs (top 39)) (defBody (top 39)) (defScope (top 39)) .none .none .none (.str "law_chancehall_k17_only_answers" 453) none (.ref 221) .none)),List.toArray ([])⟩) ::
 (nat_lit 223,⟨(.type "tuple"),none,(.seq (List.toArray ([])) 0),List.toArray ([])⟩) ::
 (nat_lit 225,⟨(.type "tuple"),none,(.seq (List.toArray ((.str "_law_top" 488) :: (.str "_law_bottom" 489) :: (.str "_law_common" 490) :: [])) 0),List.toArray ([])⟩) ::
 (nat_lit 226,⟨(.type "tuple"),none,(.seq (List.toArray ([])) 0),List.toArray ([])⟩) ::
 (nat_lit 228,⟨(.type "code"),none,(.fields (List.toArray ((.str "_law_ratio" 485) :: (.str "_law_ratio" 486) :: (.str "/claim/cut.py" 487) :: (.int 164 0) :: (.int 2 0) :: (.int 0 0) :: (.int 0 0) :: (.int 3 0) :: (.ref 223) :: (.bool true) :: (.int 181 0) :: (.ref 224) :: .none :: (.ref 225) :: (.ref 226) :: (.ref 227) :: (.int 491 0) :: (.int 164 0) :: (.str "/claim/cut.py" 492) :: []))),List.toArray ([])⟩) ::
 (nat_lit 229,⟨(.type "function"),none,(.func (fnOf "_law_ratio" "_law_ratio" (defArgs (top 40)) (defBody (top 40)) (defScope (top 40)) .none .none .none (.str "law_chancehall_k17_only_answers" 453) none (.ref 228) .none)),List.toArray ([])⟩) ::
 (nat_lit 230,⟨(.type "tuple"),none,(.seq (List.toArray ([])) 0),List.toArray ([])⟩) ::
 (nat_lit 233,⟨(.type "code"),none,(.fields (List.toArray ((.str "_law_unit" 494) :: (.str "_law_unit" 495) :: (.str "/claim/cut.py" 496) :: (.int 167 0) :: (.int 1 0) :: (.int 0 0) :: (.int 0 0) :: (.int 3 0) :: (.ref 230) :: (.bool true) :: (.int 181 0) :: (.ref 231) :: .none :: .none :: .none :: (.ref 232) :: (.int 497 0) :: (.int 167 0) :: (.str "/claim/cut.py" 498) :: []))),List.toArray ([])⟩) ::
 (nat_lit 234,⟨(.type "function"),none,(.func (fnOf "_law_unit" "_law_unit" (defArgs (top 41)) (defBody (top 41)) (defScope (top 41)) .none .none .none (.str "law_chancehall_k17_only_answers" 453) none (.ref 233) .none)),List.toArray ([])⟩) ::
 (nat_lit 235,⟨(.type "tuple"),none,(.seq (List.toArray ([])) 0),List.toArray ([])⟩) ::
 (nat_lit 237,⟨(.type "tuple"),none,(.seq (List.toArray ((.str "_law_rows" 503) :: (.str "_law_one" 504) :: (.str "_law_two" 505) :: (.str "_law_share" 506) :: (.str "_law_found" 507) :: (.str "_law_mine" 508) :: (.str "_law_more" 509) :: (.str "_law_bottom" 510) :: (.str "_law_top" 511) :: [])) 0),List.toArray ([])⟩) ::
 (nat_lit 238,⟨(.type "tuple"),none,(.seq (List.toArray ([])) 0),List.toArray ([])⟩) ::
 (nat_lit 240,⟨(.type "code"),none,(.fields (List.toArray ((.str "_law_added" 500) :: (.str "_law_added" 501) :: (.str "/claim/cut.py" 502) :: (.int 169 0) :: (.int 4 0) :: (.int 0 0) :: (.int 0 0) :: (.int 3 0) :: (.ref 235) :: (.bool true) :: (.int 181 0) :: (.ref 236) :: .none :: (.ref 237) :: (.ref 238) :: (.ref 239) :: (.int 512 0) :: (.int 169 0) :: (.str "/claim/cut.py" 513) :: []))),List.toArray ([])⟩) ::
 (nat_lit 241,⟨(.type "function"),none,(.func (fnOf "_law_added" "_law_added" (defArgs (top 42)) (defBody (top 42)) (defScope (top 42)) .none .none .none (.str "law_chancehall_k17_only_answers" 453) none (.ref 240) .none)),List.toArray ([])⟩) ::
 (nat_lit 242,⟨(.type "tuple"),none,(.seq (List.toArray ([])) 0),List.toArray ([])⟩) ::
 (nat_lit 245,⟨(.type "code"),none,(.fields (List.toArray ((.str "_law_made" 515) :: (.str "_law_made" 516) :: (.str "/claim/cut.py" 517) :: (.int 176 0) :: (.int 2 0) :: (.int 0 0) :: (.int 0 0) :: (.int 3 0) :: (.ref 242) :: (.bool true) :: (.int 181 0) :: (.ref 243) :: .none :: .none :: .none :: (.ref 244) :: (.int 518 0) :: (.int 176 0) :: (.str "/claim/cut.py" 519) :: []))),List.toArray ([])⟩) ::
 (nat_lit 246,⟨(.type "function"),none,(.func (fnOf "_law_made" "_law_made" (defArgs (top 43)) (defBody (top 43)) (defScope (top 43)) .none .none .none (.str "law_chancehall_k17_only_answers" 453) none (.ref 245) .none)),List.toArray ([])⟩) ::
 (nat_lit 247,⟨(.type "tuple"),none,(.seq (List.toArray ([])) 0),List.toArray ([])⟩) ::
 (nat_lit 250,⟨(.type "code"),none,(.fields (List.toArray ((.str "_law_answer" 521) :: (.str "_law_answer" 522) :: (.str "/claim/cut.py" 523) :: (.int 192 0) :: (.int 2 0) :: (.int 0 0) :: (.int 0 0) :: (.int 3 0) :: (.ref 247) :: (.bool true) :: (.int 181 0) :: (.ref 248) :: .none :: .none :: .none :: (.ref 249) :: (.int 524 0) :: (.int 192 0) :: (.str "/claim/cut.py" 525) :: []))),List.toArray ([])⟩) ::
 (nat_lit 251,⟨(.type "function"),none,(.func (fnOf "_law_answer" "_law_answer" (defArgs (top 44)) (defBody (top 44)) (defScope (top 44)) .none .none .none (.str "law_chancehall_k17_only_answers" 453) none (.ref 250) .none)),List.toArray ([])⟩) ::
 (nat_lit 252,⟨(.type "tuple"),none,(.seq (List.toArray ([])) 0),List.toArray ([])⟩) ::
 (nat_lit 254,⟨(.type "tuple"),none,(.seq (List.toArray ((.str "_law_script" 530) :: (.str "_law_many" 531) :: [])) 0),List.toArray ([])⟩) ::
 (nat_lit 255,⟨(.type "tuple"),none,(.seq (List.toArray ([])) 0),List.toArray ([])⟩) ::
 (nat_lit 257,⟨(.type "code"),none,(.fields (List.toArray ((.str "_law_many_by" 527) :: (.str "_law_many_by" 528) :: (.str "/claim/cut.py" 529) :: (.int 199 0) :: (.int 1 0) :: (.int 0 0) :: (.int 0 0) :: (.int 3 0) :: (.ref 252) :: (.bool true) :: (.int 181 0) :: (.ref 253) :: .none :: (.ref 254) :: (.ref 255) :: (.ref 256) :: (.int 532 0) :: (.int 199 0) :: (.str "/claim/cut.py" 533) :: []))),List.toArray ([])⟩) ::
 (nat_lit 258,⟨(.type "function"),none,(.func (fnOf "_law_many_by" "_law_many_by" (defArgs (top 45)) (defBody (top 45)) (defScope (top 45)) .none .none .none (.str "law_chancehall_k17_only_answers" 453) none (.ref 257) .none)),List.toArray ([])⟩) ::
 (nat_lit 259,⟨(.type "tuple"),none,(.seq (List.toArray ([])) 0),List.toArray ([])⟩) ::
 (nat_lit 261,⟨(.type "tuple"),none,(.seq (List.toArray ((.str "_law_found" 538) :: [])) 0),List.toArray ([])⟩) ::
 (nat_lit 262,⟨(.type "tuple"),none,(.seq (List.toArray ([])) 0),List.toArray ([])⟩) ::
 (nat_lit 264,⟨(.type "code"),none,(.fields (List.toArray ((.str "_law_whole" 535) :: (.str "_law_whole" 536) :: (.str "/claim/cut.py" 537) :: (.int 204 0) :: (.int 1 0) :: (.int 0 0) :: (.int 0 0) :: (.int 3 0) :: (.ref 259) :: (.bool true) :: (.int 181 0) :: (.ref 260) :: .none :: (.ref 261) :: (.ref 262) :: (.ref 263) :: (.int 539 0) :: (.int 204 0) :: (.str "/claim/cut.py" 540) :: []))),List.toArray ([])⟩) ::
 (nat_lit 265,⟨(.type "function"),none,(.func (fnOf "_law_whole" "_law_whole" (defArgs (top 46)) (defBody (top 46)) (defScope (top 46)) .none .none .none (.str "law_chancehall_k17_only_answers" 453) none (.ref 264) .none)),List.toArray ([])⟩) ::
 (nat_lit 266,⟨(.type "tuple"),none,(.seq (List.toArray ([])) 0),List.toArray ([])⟩) ::
 (nat_lit 268,⟨(.type "tuple"),none,(.seq (List.toArray ((.str "_law_found" 545) :: [])) 0),List.toArray ([])⟩) ::
 (nat_lit 269,⟨(.type "tuple"),none,(.seq (List.toArray ([])) 0),List.toArray ([])⟩) ::
 (nat_lit 271,⟨(.type "code"),none,(.fields (List.toArray ((.str "_law_is_fraction" 542) :: (.str "_law_is_fraction" 543) :: (.str "/claim/cut.py" 544) :: (.int 206 0) :: (.int 1 0) :: (.int 0 0) :: (.int 0 0) :: (.int 3 0) :: (.ref 266) :: (.bool true) :: (.int 181 0) :: (.ref 267) :: .none :: (.ref 268) :: (.ref 269) :: (.ref 270) :: (.int 546 0) :: (.int 206 0) :: (.str "/claim/cut.py" 547) :: []))),List.toArray ([])⟩) ::
 (nat_lit 272,⟨(.type "function"),none,(.func (fnOf "_law_is_fraction" "_law_is_fraction" (defArgs (top 47)) (defBody (top 47)) (defScope (top 47)) .none .none .none (.str "law_chancehall_k17_only_answers" 453) none (.ref 271) .none)),List.toArray ([])⟩) ::
 (nat_lit 273,⟨(.type "tuple"),none,(.seq (List.toArray ([])) 0),List.toArray ([])⟩) ::
 (nat_lit 276,⟨(.type "code"),none,(.fields (List.toArray ((.str "_law_fractions" 549) :: (.str "_law_fractions" 550) :: (.str "/claim/cut.py" 551) :: (.int 212 0) :: (.int 2 0) :: (.int 0 0) :: (.int 0 0) :: (.int 3 0) :: (.ref 273) :: (.bool true) :: (.int 181 0) :: (.ref 274) :: .none :: .none :: .none :: (.ref 275) :: (.int 552 0) :: (.int 212 0) :: (.str "/claim/cut.py" 553) :: []))),List.toArray ([])⟩) ::
 (nat_lit 277,⟨(.type "function"),none,(.func (fnOf "_law_fractions" "_law_fractions" (defArgs (top 48)) (defBody (top 48)) (defScope (top 48)) .none .none .none (.str "law_chancehall_k17_only_answers" 453) none (.ref 276) .none)),List.toArray ([])⟩) ::
 (nat_lit 278,⟨(.type "tuple"),none,(.seq (List.toArray ([])) 0),List.toArray ([])⟩) ::
 (nat_lit 280,⟨(.type "tuple"),none,(.seq (List.toArray ((.str "_law_some" 558) :: (.str "_law_others" 559) :: (.str "_law_top" 560) :: (.str "_law_bottom" 561) :: (.str "_law_one" 562) :: (.str "_law_other" 563) :: [])) 0),List.toArray ([])⟩) ::
 (nat_lit 281,⟨(.type "tuple"),none,(.seq (List.toArray ([])) 0),List.toArray ([])⟩) ::
 (nat_lit 283,⟨(.type "code"),none,(.fields (List.toArray ((.str "_law_products" 555) :: (.str "_law_products" 556) :: (.str "/claim/cut.py" 557) :: (.int 216 0) :: (.int 2 0) :: (.int 0 0) :: (.int 0 0) :: (.int 3 0) :: (.ref 278) :: (.bool true) :: (.int 181 0) :: (.ref 279) :: .none :: (.ref 280) :: (.ref 281) :: (.ref 282) :: (.int 564 0) :: (.int 216 0) :: (.str "/claim/cut.py" 565) :: []))),List.toArray ([])⟩) ::
 (nat_lit 284,⟨(.type "function"),none,(.func (fnOf "_law_products" "_law_products" (defArgs (top 49)) (defBody (top 49)) (defScope (top 49)) .none .none .none (.str "law_chancehall_k17_only_answers" 453) none (.ref 283) .none)),List.toArray ([])⟩) ::
 (nat_lit 285,⟨(.type "tuple"),none,(.seq (List.toArray ([])) 0),List.toArray ([])⟩) ::
 (nat_lit 287,⟨(.type "tuple"),none,(.seq (List.toArray ((.str "_law_some" 570) :: (.str "_law_others" 571) :: (.str "_law_due" 572) :: (.str "_law_top" 573) :: (.str "_law_bottom" 574) :: [])) 0),List.toArray ([])⟩) ::
 (nat_lit 288,⟨(.type "tuple"),none,(.seq (List.toArray ([])) 0),List.toArray ([])⟩) ::
 (nat_lit 290,⟨(.type "code"),none,(.fields (List.toArray ((.str "_law_comes" 567) :: (.str "_law_comes" 568) :: (.str "/claim/cut.py" 569) :: (.int 223 0) :: (.int 3 0) :: (.int 0 0) :: (.int 0 0) :: (.int 3 0) :: (.ref 285) :: (.bool true) :: (.int 181 0) :: (.ref 286) :: .none :: (.ref 287) :: (.ref 288) :: (.ref 289) :: (.int 575 0) :: (.int 223 0) :: (.str "/claim/cut.py" 576) :: []))),List.toArray ([])⟩) ::
 (nat_lit 291,⟨(.type "function"),none,(.func (fnOf "_law_comes" "_law_comes" (defArgs (top 50)) (defBody (top 50)) (defScope (top 50)) .none .none .none (.str "law_chancehall_k17_only_answers" 453) none (.ref 290) .none)),List.toArray ([])⟩) ::
 (nat_lit 292,⟨(.type "tuple"),none,(.seq (List.toArray ([])) 0),List.toArray ([])⟩) ::
 (nat_lit 295,⟨(.type "code"),none,(.fields (List.toArray ((.str "_law_column" 578) :: (.str "_law_column" 579) :: (.str "/claim/cut.py" 580) :: (.int 226 0) :: (.int 2 0) :: (.int 0 0) :: (.int 0 0) :: (.int 3 0) :: (.ref 292) :: (.bool true) :: (.int 181 0) :: (.ref 293) :: .none :: .none :: .none :: (.ref 294) :: (.int 581 0) :: (.int 226 0) :: (.str "/claim/cut.py" 582) :: []))),List.toArray ([])⟩) ::
 (nat_lit 296,⟨(.type "function"),none,(.func (fnOf "_law_column" "_law_column" (defArgs (top 51)) (defBody (top 51)) (defScope (top 51)) .none .none .none (.str "law_chancehall_k17_only_answers" 453) none (.ref 295) .none)),List.toArray ([])⟩) ::
 (nat_lit 297,⟨(.type "tuple"),none,(.seq (List.toArray ([])) 0),List.toArray ([])⟩) ::
 (nat_lit 300,⟨(.type "code"),none,(.fields (List.toArray ((.str "_law_both_ways" 584) :: (.str "_law_both_ways" 585) :: (.str "/claim/cut.py" 586) :: (.int 228 0) :: (.int 2 0) :: (.int 0 0) :: (.int 0 0) :: (.int 3 0) :: (.ref 297) :: (.bool true) :: (.int 181 0) :: (.ref 298) :: .none :: .none :: .none :: (.ref 299) :: (.int 587 0) :: (.int 228 0) :: (.str "/claim/cut.py" 588) :: []))),List.toArray ([])⟩) ::
 (nat_lit 301,⟨(.type "function"),none,(.func (fnOf "_law_both_ways" "_law_both_ways" (defArgs (top 52)) (defBody (top 52)) (defScope (top 52)) .none .none .none (.str "law_chancehall_k17_only_answers" 453) none (.ref 300) .none)),List.toArray ([])⟩) ::
 (nat_lit 302,⟨(.type "tuple"),none,(.seq (List.toArray ([])) 0),List.toArray ([])⟩) ::
 (nat_lit 304,⟨(.type "tuple"),none,(.seq (List.toArray ((.str "_law_found" 593) :: (.str "_law_answer_here" 594) :: [])) 0),List.toArray ([])⟩) ::
 (nat_lit 305,⟨(.type "tuple"),none,(.seq (List.toArray ([])) 0),List.toArray ([])⟩) ::
 (nat_lit 307,⟨(.type "code"),none,(.fields (List.toArray ((.str "_law_tells" 590) :: (.str "_law_tells" 591) :: (.str "/claim/cut.py" 592) :: (.int 238 0) :: (.int 2 0) :: (.int 0 0) :: (.int 0 0) :: (.int 3 0) :: (.ref 302) :: (.bool true) :: (.int 181 0) :: (.ref 303) :: .none :: (.ref 304) :: (.ref 305) :: (.ref 306) :: (.int 595 0) :: (.int 238 0) :: (.str "/claim/cut.py" 596) :: []))),List.toArray ([])⟩) ::
 (nat_lit 308,⟨(.type "function"),none,(.func (fnOf "_law_tells" "_law_tells" (defArgs (top 53)) (defBody (top 53)) (defScope (top 53)) .none .none .none (.str "law_chancehall_k17_only_answers" 453) none (.ref 307) .none)),List.toArray ([])⟩) ::
 (nat_lit 309,⟨(.type "tuple"),none,(.seq (List.toArray ([])) 0),List.toArray ([])⟩) ::
 (nat_lit 311,⟨(.type "tuple"),none,(.seq (List.toArray ((.str "_law_found" 601) :: (.str "_law_word_here" 602) :: [])) 0),List.toArray ([])⟩) ::
 (nat_lit 312,⟨(.type "tuple"),none,(.seq (List.toArray ([])) 0),List.toArray ([])⟩) ::
 (nat_lit 314,⟨(.type "code"),none,(.fields (List.toArray ((.str "_law_word" 598) :: (.str "_law_word" 599) :: (.str "/claim/cut.py" 600) :: (.int 242 0) :: (.int 2 0) :: (.int 0 0) :: (.int 0 0) :: (.int 3 0) :: (.ref 309) :: (.bool true) :: (.int 181 0) :: (.ref 310) :: .none :: (.ref 311) :: (.ref 312) :: (.ref 313) :: (.int 603 0) :: (.int 242 0) :: (.str "/claim/cut.py" 604) :: []))),List.toArray ([])⟩) ::
 (nat_lit 315,⟨(.type "function"),none,(.func (fnOf "_law_word" "_law_word" (defArgs (top 54)) (defBody (top 54)) (defScope (top 54)) .none .none .none (.str "law_chancehall_k17_only_answers" 453) none (.ref 314) .none)),List.toArray ([])⟩) ::
 (nat_lit 316,⟨(.type "tuple"),none,(.seq (List.toArray ([])) 0),List.toArray ([])⟩) ::
 (nat_lit 319,⟨(.type "code"),none,(.fields (List.toArray ((.str "law" 606) :: (.str "law" 607) :: (.str "/claim/cut.py" 608) :: (.int 244 0) :: (.int 1 0) :: (.int 0 0) :: (.int 0 0) :: (.int 3 0) :: (.ref 316) :: (.bool true) :: (.int 181 0) :: (.ref 317) :: .none :: .none :: .none :: (.ref 318) :: (.int 609 0) :: (.int 244 0) :: (.str "/claim/cut.py" 610) :: []))),List.toArray ([])⟩) ::
 (nat_lit 320,⟨(.type "function"),none,(.func (fnOf "law" "law" (defArgs (top 55)) (defBody (top 55)) (defScope (top 55)) .none .none .none (.str "law_chancehall_k17_only_answers" 453) none (.ref 319) .none)),List.toArray ([])⟩) ::
 ([] : List (Nat × Obj)))
abbrev asH:List Nat:=[2,3,15,22,23,24,25,28,35,36,37,40,42,43,45,46,47,49,50,52,53,54,55,56,58,59,61,62,63,65,66,68,69,70,72,73,75,76,77,80,81,82,85,86,87,90,91,92,95,96,97,99,100,102,103,104,106,107,109,110,111,114,115,116,119,120,121,123,124,126,127,128,130,131,133,134,135,137,138,140,141,142,144,145,147,148,149,152,153,154,156,157,159,160,161,164,165,166,169,170,171,173,174,176,177,178,180,181,183,184,185,188,189,190,193,194,195,197,198,200,201,202,204,205,207,208,209,211,212,214,215,216,218,219,221,222,223,225,226,228,229,230,233,234,235,237,238,240,241,242,245,246,247,250,251,252,254,255,257,258,259,261,262,264,265,266,268,269,271,272,273,276,277,278,280,281,283,284,285,287,288,290,291,292,295,296,297,300,301,302,304,305,307,308,309,311,312,314,315,316,319,320]
def qv:Program:=view p [1,2,4,5,7,8,9,10,11,13,15,16,17,18,19,20,21,22,23,24,25,26,28,29,30,31,32,33,34,35,37,38,39,40,41,42,43,44,45,46,47,48,49,50,51,52,53,54,55]
abbrev R:RowW:=PySem.Challenge.rw_chancehall_k17_only_answers.row.toRowW
def Xt (s:Shared):Bool:=xlAt qv [] s && recOk R.records s
def e:Pos:=⟨244,0,262,112⟩
set_option maxHeartbeats 0
theorem asK:∀ P,asH = (KH P).map (·.1):=fun _=>by kernel_rfl
theorem pre (w:World):(fun os=>topGo treeTable p w 11 ann 12 (S0 w os) (topStub p)) = fun os=>some (Sa w os,⟨denote treeTable (cE p),cE p,z,B⟩):=by
 rw [Fast.te15667345088766844465,Fast.te14364793385576792824,Fast.te11892475500146522536]; kernel_rfl
theorem block (w:World):(fun os=>segRun treeTable p w 11 ann 1 1 (Sa w os) (blockOf (behindTheImports p) (env p) (cE p) z B)) = fun os=>some (.next,(Sb w os).abs,cE p,z):=by
 rw [Fast.te14374325043358763698,Fast.te14364793385576792824]; kernel_rfl
theorem big (w:World):(fun os=>(segRunT treeTable p w 11 ann 1 100000 (Sb w os) (piecesOf (behindTheImports p) (env p) (cE p) z B)).map fun r =>
  (r.1,r.2.2.1,r.2.2.2,(topRun treeTable p w 11 ann 2 r.2.1.abs ⟨doneF .next,cE p,e,B⟩).map fun s =>
   (staticsOk (importedModules p.main.body) (boot_heap w.params) s.heap && namesBound p s.heap && gensDone s && laidKept (boot_heap w.params) s.heap,openSeen qv [] (importedModules p.main.body) Xt true s,asH.map s.heap.get?))) =
  fun _=>some (.next,cE p,e,some (true,openGood qv [],(KH w.params).map fun p=>some p.2)):=by
 rw [Fast.te10110043849684766642,Fast.te14364793385576792824,Fast.te14082659384304107361,Fast.te4187177175401517315,Fast.te5923862056798008813]; kernel_rfl
theorem left:LeftO p qv [] Xt (fun s=>asH.map s.heap.get?) (fun w=>(KH w.params).map fun p=>some p.2) 200000 :=
 left_once (boot_open rfl rfl fun _=>rfl) pre block big rfl
theorem hX (s:Shared) (h:Xt s = true):XL qv [] (s.heap.nsMap mainGlobals) s.heap:=xl_of s (Bool.and_eq_true_iff.mp h).1
theorem hR (s:Shared) (h:Xt s = true):RecFacts R.records s.heap:=recFacts_of (Bool.and_eq_true_iff.mp h).2
end H17
open PySem PySem.W PyProof.Rows
set_option maxRecDepth 100000 in
set_option maxHeartbeats 0 in
theorem PySem.Challenge.cw_chancehall_k17_only_answers_holds : PySem.Challenge.rw_chancehall_k17_only_answers.Holds := by
 w_on
 refine holds_law (by kernel_rfl) fun said=>?_
 refine holds_open (q:=H17.qv) (loose:=[]) (XP:=XL H17.qv []) (YP:=InK H17.KH) H17.left (InK.of H17.asK) InK.keeps H17.hX XL.keeps (by rfl) (by rfl) (by rfl) H17.hR (by rfl) said (by decide +kernel) ⟨rfl,rfl,rfl,rfl,rfl,by decide +kernel⟩ ?hw ?hc
 (case hw=>w_witness2)
 k_fill
 refine L2.walkF (l:=PySem.Challenge.rw_chancehall_k17_only_answers) (k:=9) (x := "_law_script") rfl rfl ⟨rfl,by decide,by decide⟩ (fun w h Y=>(show (H17.KH w.params).In h from Y)) ?F
 case F =>
  intro w mg fa h KX G hmg
  refine ⟨K17.s_law,?_,fun base f fd F=>K17.law_fn ?T base f fd F⟩
  ·(refine' L2.hasF_mk KX G ?a ?l ?c ?k (fun _ _ _ _ _ _ us hl=>match us,hl with | [_],_=>rfl); (case a=>k_is); (case l=>k_is); (case c=>k_is); (case k=>k_is))
  case T =>
   refine' ⟨_,K17.txt_mk KX G ?c_NOUGHT ?c_NoNumber ?c_ONE ?x_NoNumber ?kt_NOUGHT ?kt_ONE ?z0 ?z1 ?z2 ?z3 ?z4 ?z5 ?z6 ?z7 ?z8 ?z9 ?z10 ?z11 ?z12 ?f0 ?f1 ?f2 ?f3 ?f4 ?f5 ?f6 ?f7 ?f8 ?f9 ?f10 ?f11 ?f12 ?f13 ?f14 ?f15 ?f16 ?f17 ?f18 ?f19 ?f20 ?f21 ?f22 ?f23 ?f24 ?f25 ?f26 ?f27 ?f28 ?f29 ?f30 ?f31 ?f32 ?f33 ?f34 ?f35 ?f36 ?f37 ?f38 ?f39 ?f40 ?f41 ?f42 ?f43⟩
   case c_NOUGHT=>k_is
   case c_NoNumber=>k_is
   case c_ONE=>k_is
   case x_NoNumber=>k_exc
   case kt_NOUGHT=>exact ⟨_,_,_,_,_,(by k_is)⟩
   case kt_ONE=>exact ⟨_,_,_,_,_,(by k_is)⟩
   case z0=>k_is
   case z1=>k_is
   case z2=>k_is
   case z3=>k_is
   case z4=>k_is
   case z5=>k_is
   case z6=>k_is
   case z7=>k_is
   case z8=>k_is
   case z9=>k_is
   case z10=>k_is
   case z11=>k_is
   case z12=>k_is
   case f0=>(refine' L2.hasF_mk KX G ?a ?l ?c ?k (fun _ _ _ _ _ _ us hl=>match us,hl with | [_],_=>rfl); (case a=>k_is); (case l=>k_is); (case c=>k_is); (case k=>k_is))
   case f1=>(refine' L2.hasF_mk KX G ?a ?l ?c ?k (fun _ _ _ _ _ _ us hl=>match us,hl with | [_,_],_=>rfl); (case a=>k_is); (case l=>k_is); (case c=>k_is); (case k=>k_is))
   case f2=>(refine' L2.hasF_mk KX G ?a ?l ?c ?k (fun _ _ _ _ _ _ us hl=>match us,hl with | [_,_],_=>rfl); (case a=>k_is); (case l=>k_is); (case c=>k_is); (case k=>k_is))
   case f3=>(refine' L2.hasF_mk KX G ?a ?l ?c ?k (fun _ _ _ _ _ _ us hl=>match us,hl with | [_,_],_=>rfl); (case a=>k_is); (case l=>k_is); (case c=>k_is); (case k=>k_is))
   case f4=>(refine' L2.hasF_mk KX G ?a ?l ?c ?k (fun _ _ _ _ _ _ us hl=>match us,hl with | [_,_],_=>rfl); (case a=>k_is); (case l=>k_is); (case c=>k_is); (case k=>k_is))
   case f5=>(refine' L2.hasF_mk KX G ?a ?l ?c ?k (fun _ _ _ _ _ _ us hl=>match us,hl with | [_],_=>rfl); (case a=>k_is); (case l=>k_is); (case c=>k_is); (case k=>k_is))
   case f6=>(refine' L2.hasF_mk KX G ?a ?l ?c ?k (fun _ _ _ _ _ _ us hl=>match us,hl with | [_,_],_=>rfl); (case a=>k_is); (case l=>k_is); (case c=>k_is); (case k=>k_is))
   case f7=>(refine' L2.hasF_mk KX G ?a ?l ?c ?k (fun _ _ _ _ _ _ us hl=>match us,hl with | [_,_],_=>rfl); (case a=>k_is); (case l=>k_is); (case c=>k_is); (case k=>k_is))
   case f8=>(refine' L2.hasF_mk KX G ?a ?l ?c ?k (fun _ _ _ _ _ _ us hl=>match us,hl with | [_,_,_],_=>rfl); (case a=>k_is); (case l=>k_is); (case c=>k_is); (case k=>k_is))
   case f9=>(refine' L2.hasF_mk KX G ?a ?l ?c ?k (fun _ _ _ _ _ _ us hl=>match us,hl with | [_,_],_=>rfl); (case a=>k_is); (case l=>k_is); (case c=>k_is); (case k=>k_is))
   case f10=>(refine' L2.hasF_mk KX G ?a ?l ?c ?k (fun _ _ _ _ _ _ us hl=>match us,hl with | [_,_],_=>rfl); (case a=>k_is); (case l=>k_is); (case c=>k_is); (case k=>k_is))
   case f11=>(refine' L2.hasF_mk KX G ?a ?l ?c ?k (fun _ _ _ _ _ _ us hl=>match us,hl with | [_],_=>rfl); (case a=>k_is); (case l=>k_is); (case c=>k_is); (case k=>k_is))
   case f12=>(refine' L2.hasF_mk KX G ?a ?l ?c ?k (fun _ _ _ _ _ _ us hl=>match us,hl with | [_,_],_=>rfl); (case a=>k_is); (case l=>k_is); (case c=>k_is); (case k=>k_is))
   case f13=>(refine' L2.hasF_mk KX G ?a ?l ?c ?k (fun _ _ _ _ _ _ us hl=>match us,hl with | [_,_,_],_=>rfl); (case a=>k_is); (case l=>k_is); (case c=>k_is); (case k=>k_is))
   case f14=>(refine' L2.hasF_mk KX G ?a ?l ?c ?k (fun _ _ _ _ _ _ us hl=>match us,hl with | [_,_,_],_=>rfl); (case a=>k_is); (case l=>k_is); (case c=>k_is); (case k=>k_is))
   case f15=>(refine' L2.hasF_mk KX G ?a ?l ?c ?k (fun _ _ _ _ _ _ us hl=>match us,hl with | [_,_,_,_,_],_=>rfl); (case a=>k_is); (case l=>k_is); (case c=>k_is); (case k=>k_is))
   case f16=>(refine' L2.hasF_mk KX G ?a ?l ?c ?k (fun _ _ _ _ _ _ us hl=>match us,hl with | [_,_,_,_],_=>rfl); (case a=>k_is); (case l=>k_is); (case c=>k_is); (case k=>k_is))
   case f17=>(refine' L2.hasF_mk KX G ?a ?l ?c ?k (fun _ _ _ _ _ _ us hl=>match us,hl with | [_,_],_=>rfl); (case a=>k_is); (case l=>k_is); (case c=>k_is); (case k=>k_is))
   case f18=>(refine' L2.hasF_mk KX G ?a ?l ?c ?k (fun _ _ _ _ _ _ us hl=>match us,hl with | [_],_=>rfl); (case a=>k_is); (case l=>k_is); (case c=>k_is); (case k=>k_is))
   case f19=>(refine' L2.hasF_mk KX G ?a ?l ?c ?k (fun _ _ _ _ _ _ us hl=>match us,hl with | [_,_],_=>rfl); (case a=>k_is); (case l=>k_is); (case c=>k_is); (case k=>k_is))
   case f20=>(refine' L2.hasF_mk KX G ?a ?l ?c ?k (fun _ _ _ _ _ _ us hl=>match us,hl with | [_,_],_=>rfl); (case a=>k_is); (case l=>k_is); (case c=>k_is); (case k=>k_is))
   case f21=>(refine' L2.hasF_mk KX G ?a ?l ?c ?k (fun _ _ _ _ _ _ us hl=>match us,hl with | [_,_,_],_=>rfl); (case a=>k_is); (case l=>k_is); (case c=>k_is); (case k=>k_is))
   case f22=>(refine' L2.hasF_mk KX G ?a ?l ?c ?k (fun _ _ _ _ _ _ us hl=>match us,hl with | [_,_,_],_=>rfl); (case a=>k_is); (case l=>k_is); (case c=>k_is); (case k=>k_is))
   case f23=>(refine' L2.hasF_mk KX G ?a ?l ?c ?k (fun _ _ _ _ _ _ us hl=>match us,hl with | [_,_,_],_=>rfl); (case a=>k_is); (case l=>k_is); (case c=>k_is); (case k=>k_is))
   case f24=>(refine' L2.hasF_mk KX G ?a ?l ?c ?k (fun _ _ _ _ _ _ us hl=>match us,hl with | [_],_=>rfl); (case a=>k_is); (case l=>k_is); (case c=>k_is); (case k=>k_is))
   case f25=>(refine' L2.hasF_mk KX G ?a ?l ?c ?k (fun _ _ _ _ _ _ us hl=>match us,hl with | [_,_],_=>rfl); (case a=>k_is); (case l=>k_is); (case c=>k_is); (case k=>k_is))
   case f26=>(refine' L2.hasF_mk KX G ?a ?l ?c ?k (fun _ _ _ _ _ _ us hl=>match us,hl with | [_,_],_=>rfl); (case a=>k_is); (case l=>k_is); (case c=>k_is); (case k=>k_is))
   case f27=>(refine' L2.hasF_mk KX G ?a ?l ?c ?k (fun _ _ _ _ _ _ us hl=>match us,hl with | [_,_,_],_=>rfl); (case a=>k_is); (case l=>k_is); (case c=>k_is); (case k=>k_is))
   case f28=>(refine' L2.hasF_mk KX G ?a ?l ?c ?k (fun _ _ _ _ _ _ us hl=>match us,hl with | [_,_],_=>rfl); (case a=>k_is); (case l=>k_is); (case c=>k_is); (case k=>k_is))
   case f29=>(refine' L2.hasF_mk KX G ?a ?l ?c ?k (fun _ _ _ _ _ _ us hl=>match us,hl with | [_,_],_=>rfl); (case a=>k_is); (case l=>k_is); (case c=>k_is); (case k=>k_is))
   case f30=>(refine' L2.hasF_mk KX G ?a ?l ?c ?k (fun _ _ _ _ _ _ us hl=>match us,hl with | [_],_=>rfl); (case a=>k_is); (case l=>k_is); (case c=>k_is); (case k=>k_is))
   case f31=>(refine' L2.hasF_mk KX G ?a ?l ?c ?k (fun _ _ _ _ _ _ us hl=>match us,hl with | [_,_,_,_],_=>rfl); (case a=>k_is); (case l=>k_is); (case c=>k_is); (case k=>k_is))
   case f32=>(refine' L2.hasF_mk KX G ?a ?l ?c ?k (fun _ _ _ _ _ _ us hl=>match us,hl with | [_,_],_=>rfl); (case a=>k_is); (case l=>k_is); (case c=>k_is); (case k=>k_is))
   case f33=>(refine' L2.hasF_mk KX G ?a ?l ?c ?k (fun _ _ _ _ _ _ us hl=>match us,hl with | [_,_],_=>rfl); (case a=>k_is); (case l=>k_is); (case c=>k_is); (case k=>k_is))
   case f34=>(refine' L2.hasF_mk KX G ?a ?l ?c ?k (fun _ _ _ _ _ _ us hl=>match us,hl with | [_],_=>rfl); (case a=>k_is); (case l=>k_is); (case c=>k_is); (case k=>k_is))
   case f35=>(refine' L2.hasF_mk KX G ?a ?l ?c ?k (fun _ _ _ _ _ _ us hl=>match us,hl with | [_],_=>rfl); (case a=>k_is); (case l=>k_is); (case c=>k_is); (case k=>k_is))
   case f36=>(refine' L2.hasF_mk KX G ?a ?l ?c ?k (fun _ _ _ _ _ _ us hl=>match us,hl with | [_],_=>rfl); (case a=>k_is); (case l=>k_is); (case c=>k_is); (case k=>k_is))
   case f37=>(refine' L2.hasF_mk KX G ?a ?l ?c ?k (fun _ _ _ _ _ _ us hl=>match us,hl with | [_,_],_=>rfl); (case a=>k_is); (case l=>k_is); (case c=>k_is); (case k=>k_is))
   case f38=>(refine' L2.hasF_mk KX G ?a ?l ?c ?k (fun _ _ _ _ _ _ us hl=>match us,hl with | [_,_],_=>rfl); (case a=>k_is); (case l=>k_is); (case c=>k_is); (case k=>k_is))
   case f39=>(refine' L2.hasF_mk KX G ?a ?l ?c ?k (fun _ _ _ _ _ _ us hl=>match us,hl with | [_,_,_],_=>rfl); (case a=>k_is); (case l=>k_is); (case c=>k_is); (case k=>k_is))
   case f40=>(refine' L2.hasF_mk KX G ?a ?l ?c ?k (fun _ _ _ _ _ _ us hl=>match us,hl with | [_,_],_=>rfl); (case a=>k_is); (case l=>k_is); (case c=>k_is); (case k=>k_is))
   case f41=>(refine' L2.hasF_mk KX G ?a ?l ?c ?k (fun _ _ _ _ _ _ us hl=>match us,hl with | [_,_],_=>rfl); (case a=>k_is); (case l=>k_is); (case c=>k_is); (case k=>k_is))
   case f42=>(refine' L2.hasF_mk KX G ?a ?l ?c ?k (fun _ _ _ _ _ _ us hl=>match us,hl with | [_,_],_=>rfl); (case a=>k_is); (case l=>k_is); (case c=>k_is); (case k=>k_is))
   case f43=>(refine' L2.hasF_mk KX G ?a ?l ?c ?k (fun _ _ _ _ _ _ us hl=>match us,hl with | [_,_],_=>rfl); (case a=>k_is); (case l=>k_is); (case c=>k_is); (case k=>k_is))
#print axioms PySem.Challenge.cw_chancehall_k17_only_answers_holds
