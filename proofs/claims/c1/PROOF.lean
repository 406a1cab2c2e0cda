import PyProof.Rows.All
import Wide.All
import OpenK.AllK
import Wide.FinOn
import PyProof.EqAt
import PyProof.EqKinds
import PyProof.TupleCall
import KE.BitLaws
import Open.SpecLaws
import KE.OsHead
import KE.OsGo
import KE.KDictSum
import KE.KRevIter
import PyProof.ZipIter
import PySem.Challenge.RW_grownwords_s01_answers
set_option Elab.async false
set_option linter.all false
set_option maxRecDepth 100000
set_option maxHeartbeats 4000000
section
namespace L2
open PySem PySem.Spec PyProof.Rows
abbrev Key := Sum Int Str
def keyIs : Key → Value → Bool
 | .inl k, v => Value.isInt k v
 | .inr x, v => Value.isStrOf x v
def keyH (w : World) : Key → Int
 | .inl k => hashInt k
 | .inr x => hashStr w x
theorem keyIs_shape : ∀ {k : Key} {v : Value}, keyIs k v = true → (∃ i t, k = Sum.inl i ∧ v = Value.int i t) ∨ (∃ x t, k = Sum.inr x ∧ v = Value.str x t)
 | .inl i, v, h => by
  obtain ⟨t, e⟩ := Value.isInt_shape (k := i) (v := v) h
  exact .inl ⟨i, t, rfl, e⟩
 | .inr x, v, h => by
  obtain ⟨t, e⟩ := Value.isStrOf_shape (x := x) (v := v) h
  exact .inr ⟨x, t, rfl, e⟩
theorem keyIs_int (i : Int) (t : Tok) : keyIs (.inl i) (.int i t) = true := by simp [keyIs, Value.isInt]
theorem keyIs_str (x : Str) (t : Tok) : keyIs (.inr x) (.str x t) = true := by simp [keyIs, Value.isStrOf]
theorem key_ll (a b : Int) : decide ((Sum.inl a : Key) = Sum.inl b) = (a == b) := by
 by_cases e : a = b
 ·subst e; simp
 ·have h : ¬ (Sum.inl a : Key) = Sum.inl b := fun q => e (Sum.inl.inj q)
  rw [decide_eq_false h]
  exact (beq_eq_false_iff_ne.mpr e).symm
theorem key_rr (a b : Str) : decide ((Sum.inr a : Key) = Sum.inr b) = decide (a = b) := by
 by_cases e : a = b
 ·subst e; simp
 ·have h : ¬ (Sum.inr a : Key) = Sum.inr b := fun q => e (Sum.inr.inj q)
  rw [decide_eq_false h, decide_eq_false e]
theorem key_lr (a : Int) (b : Str) : decide ((Sum.inl a : Key) = Sum.inr b) = false := decide_eq_false (fun q => nomatch q)
theorem key_rl (a : Str) (b : Int) : decide ((Sum.inr a : Key) = Sum.inl b) = false := decide_eq_false (fun q => nomatch q)
def mixKind (prog : Program) (w : World) : PySem.KeyKind prog w Key where
 is := keyIs
 hash := keyH w
 inj := fun v a b ha hb => by
  rcases keyIs_shape ha with ⟨i, t, rfl, rfl⟩ | ⟨x, t, rfl, rfl⟩
  ·rcases keyIs_shape hb with ⟨j, u, rfl, e⟩ | ⟨y, u, rfl, e⟩
   ·injection e with e1 _; rw [e1]
   ·exact nomatch e
  ·rcases keyIs_shape hb with ⟨j, u, rfl, e⟩ | ⟨y, u, rfl, e⟩
   ·exact nomatch e
   ·injection e with e1 _; rw [e1]
 byValue := fun k v h => by
  rcases keyIs_shape h with ⟨i, t, rfl, rfl⟩ | ⟨x, t, rfl, rfl⟩ <;> rfl
 pyHash := fun hv h => by
  rcases keyIs_shape hv with ⟨i, t, rfl, rfl⟩ | ⟨x, t, rfl, rfl⟩
  ·exact wpAny_pyHash_int h
  ·exact wpAny_pyHash_str h
 eqBool := fun hu hv h => by
  rcases keyIs_shape hu with ⟨i, t, rfl, rfl⟩ | ⟨x, t, rfl, rfl⟩
  ·rcases keyIs_shape hv with ⟨j, u, rfl, rfl⟩ | ⟨y, u, rfl, rfl⟩
   ·rw [key_ll] at h; exact wpAny_eqBool_int h
   ·rw [key_lr] at h; exact SeqAt.EqAt.int_str i t y u _ _ _ _ h
  ·rcases keyIs_shape hv with ⟨j, u, rfl, rfl⟩ | ⟨y, u, rfl, rfl⟩
   ·rw [key_rl] at h; exact SeqAt.EqAt.str_int x t j u _ _ _ _ h
   ·rw [key_rr] at h; exact wpAny_eqBool_str h
 «strs» := fun k x t v h => by
  rcases keyIs_shape h with ⟨i, u, rfl, e⟩ | ⟨y, u, rfl, e⟩
  ·exact nomatch e
  ·injection e with e1 _
   subst e1
   cases v <;> rfl
theorem mixKind_int (prog : Program) (w : World) (i : Int) (t : Tok) : (mixKind prog w).is (.inl i) (.int i t) = true := keyIs_int i t
theorem mixKind_str (prog : Program) (w : World) (x : Str) (t : Tok) : (mixKind prog w).is (.inr x) (.str x t) = true := keyIs_str x t
end L2
namespace L2
open PySem PySem.Spec PyProof.Rows
inductive V where
 | non | bl (b : Bool) | int (i : Int) | str (x : Str) | byt (b : Array UInt8) | flt (b : UInt64) | ref (a : Addr) | ty (n : String)
 deriving DecidableEq
def RelV : V → Value → Prop
 | .non, u => u = Value.none
 | .bl b, u => u = Value.bool b
 | .int i, u => ∃ t, u = Value.int i t
 | .str x, u => ∃ t, u = Value.str x t
 | .byt b, u => ∃ t, u = Value.bytes b t
 | .flt b, u => ∃ t, u = Value.float b t
 | .ref a, u => u = Value.ref a
 | .ty n, u => u = Value.type n
abbrev Vals : List V → List Value → Prop := Paired RelV
theorem Vals.length {xs : List V} {us : List Value} (r : Vals xs us) : xs.length = us.length := Paired.length r
theorem Vals.get : ∀ {xs : List V} {us : List Value} {i : Nat} {x : V}, Vals xs us → xs[i]? = some x → ∃ u, us[i]? = some u ∧ RelV x u
 | _, _, _, _, .nil, e => by simp at e
 | _, _, 0, _, .cons r _, e => by simp at e; subst e; exact ⟨_, rfl, r⟩
 | _, _, i + 1, x, .cons _ t, e => by
  obtain ⟨u, h1, h2⟩ := Vals.get (i := i) (x := x) t (by simpa using e)
  exact ⟨u, by simpa using h1, h2⟩
theorem Vals.set {x : V} {u : Value} (r : RelV x u) : ∀ {xs : List V} {us : List Value} (i : Nat), Vals xs us → Vals (xs.set i x) (us.set i u)
 | _, _, _, .nil => .nil
 | _, _, 0, .cons _ t => .cons r t
 | _, _, i + 1, .cons q t => .cons q (Vals.set r i t)
theorem Vals.append : ∀ {xs ys : List V} {us ws : List Value}, Vals xs us → Vals ys ws → Vals (xs ++ ys) (us ++ ws)
 | _, _, _, _, .nil, s => s
 | _, _, _, _, .cons r t, s => .cons r (Vals.append t s)
theorem Vals.take : ∀ {xs : List V} {us : List Value} (n : Nat), Vals xs us → Vals (xs.take n) (us.take n)
 | _, _, 0, _ => .nil
 | _, _, _ + 1, .nil => .nil
 | _, _, n + 1, .cons r t => .cons r (Vals.take n t)
theorem Vals.drop : ∀ {xs : List V} {us : List Value} (n : Nat), Vals xs us → Vals (xs.drop n) (us.drop n)
 | _, _, 0, r => r
 | _, _, _ + 1, .nil => .nil
 | _, _, n + 1, .cons _ t => Vals.drop n t
def RelO : Option V → Option Value → Prop
 | some v, some u => RelV v u
 | none, none => True
 | _, _ => False
def KV {κ : Type} : List (κ × V) → List (κ × Value) → Prop := Paired fun (p : κ × V) (q : κ × Value) => p.1 = q.1 ∧ RelV p.2 q.2
def kV : Key → V
 | .inl i => .int i
 | .inr x => .str x
inductive HO where
  | lst (xs : List V)
  | tup (xs : List V)
  | dK (kvs : List (Key × V)) | dT (kvs : List (List Key × V))
  | set (S : Int → Bool) (n : Nat)
  | ins (C dx : Addr) (fs : List (Str × V))
  | own (x : Addr)
  | xd (fs : List (Str × V))
  | met (f x : Addr)
  | rng (lo hi : Int)
  | frz (o : Obj) (u : HO)
  | tbl (ps : Array Value)
  | ext (φ : Heap → Prop)
abbrev Hp := Addr → Option HO
def upd (H : Hp) (a : Addr) (o : HO) : Hp := fun b => if b = a then some o else H b
theorem upd_same {H : Hp} {a : Addr} {o : HO} : upd H a o a = some o := by unfold upd; rw [if_pos rfl]
theorem upd_ne {H : Hp} {a b : Addr} {o : HO} (h : b ≠ a) : upd H a o b = H b := by unfold upd; rw [if_neg h]
theorem upd_upd {H : Hp} {a : Addr} {o u : HO} : upd (upd H a o) a u = upd H a u := by
 funext b; unfold upd; split <;> rfl
theorem ne_of {H : Hp} {a b : Addr} {o u : HO} (h : H a = some o) (h' : H b = some u) (d : o ≠ u) : a ≠ b := by
 intro e; subst e; rw [h] at h'; exact d (Option.some.inj h')
theorem ne_of_none {H : Hp} {a b : Addr} {o : HO} (h : H a = some o) (h' : H b = none) : a ≠ b := by
 intro e; subst e; rw [h] at h'; cases h'
section
variable (P : Program) (w : World)
def ObjOk (H : Hp) (h : Heap) (a : Addr) : HO → Prop
 | .lst xs => xs.length ≤ sizeLine ∧ ∃ (its : List Value) (n : Nat), Vals xs its ∧ h.get? a = some { cls := .type "list", data := .seq its.toArray n }
 | .tup xs => xs.length ≤ sizeLine ∧ ∃ its : List Value, Vals xs its ∧ IsTup h a its.toArray
 | .dK kvs => kvs.length ≤ sizeLine ∧ (a == sysModules) = false ∧ ∃ vs, KV kvs vs ∧ h.DictOf (mixKind P w) a vs
 | .dT kvs => kvs.length ≤ sizeLine ∧ (a == sysModules) = false ∧ ∃ xs : List (List Key × Addr × Value),
   Paired (fun (p : List Key × V) (q : List Key × Addr × Value) => p.1 = q.1 ∧ H q.2.1 = some (.tup (p.1.map kV)) ∧ RelV p.2 q.2.2) kvs xs ∧
   ∃ o es ep, h.get? a = some o ∧ o.ExactDict ∧ o.data = .dict es ep ∧ es.toList = xs.map (entryOfKey (tupleKind (mixKind P w))) ∧ (xs.map (·.1)).Nodup
 | .set S n => h.SetOf (intKind P w) a S n
 | .ins C dx fs => H dx = some (.own a) ∧ fs.length ≤ 1000 ∧ dx ≠ a ∧ h.get? a = some (PySem.W.instObj C dx) ∧
   ∃ mA, h.Ns1 dx mA ∧ (∀ f, RelO (fs.lookup f) (mA f)) ∧ PySem.Within mA (fs.map (·.1))
 | .own _ => ∃ o, h.get? a = some o
 | .xd fs => ∃ mA, h.Ns1 a mA ∧ ∀ f, RelO (fs.lookup f) (mA f)
 | .rng lo hi => ∃ t u v, h.get? a = some { cls := .type "range", data := .fields #[.int lo t, .int hi u, .int 1 v] }
 | .frz o u => h.get? a = some o ∧ ObjOk H h a u
 | .tbl ps => h.get? a = some { cls := .none, data := .fields ps }
 | .met f x => h.get? a = some (PySem.W.methodObj (.ref f) (.ref x))
 | .ext φ => φ h ∧ (∃ o, h.get? a = some o) ∧ ∀ h1 h2 : Heap, φ h1 → (∀ o, h1.get? a = some o → h2.get? a = some o) → φ h2
def HOk (H : Hp) (h : Heap) : Prop := ∀ a o, H a = some o → ObjOk P w H h a o
end
section
variable {P : Program} {w : World} {H H' : Hp} {h h' : Heap} {a : Addr} {o : HO}
theorem ObjOk.lt (x : ObjOk P w H h a o) : a < h.objs.size := by
 cases o with
 | lst xs => obtain ⟨_, _, _, _, e⟩ := x; exact Heap.lt_size e
 | tup xs => obtain ⟨_, _, _, p⟩ := x; exact p.lt
 | dK kvs => obtain ⟨_, _, _, _, o, _, _, e, _⟩ := x; exact Heap.lt_size e
 | dT kvs => obtain ⟨_, _, _, _, o, _, _, e, _⟩ := x; exact Heap.lt_size e
 | set S n => obtain ⟨o, _, _, _, e, _⟩ := x; exact Heap.lt_size e
 | ins C dx fs => obtain ⟨_, _, _, e, _⟩ := x; exact Heap.lt_size e
 | own y => obtain ⟨_, e⟩ := x; exact Heap.lt_size e
 | xd fs => obtain ⟨_, ⟨_, _, _, e, _⟩, _⟩ := x; exact Heap.lt_size e
 | rng lo hi => obtain ⟨_, _, _, e⟩ := x; exact Heap.lt_size e
 | frz ob u => obtain ⟨e, _⟩ := x; exact Heap.lt_size e
 | tbl ps => exact Heap.lt_size (show h.get? a = some _ from x)
 | met f y => exact Heap.lt_size (show h.get? a = some _ from x)
 | ext φ => obtain ⟨_, ⟨_, e⟩, _⟩ := x; exact Heap.lt_size e
theorem Paired.mapP {α β : Type} {F G : α → β → Prop} : ∀ {l₁ : List α} {l₂ : List β}, Paired F l₁ l₂ → (∀ a b, F a b → G a b) → Paired G l₁ l₂
 | _, _, .nil, _ => .nil
 | _, _, .cons r t, f => .cons (f _ _ r) (Paired.mapP t f)
theorem ObjOk.stay (x : ObjOk P w H h a o) (k : ∀ b u, (b = a ∨ H b = some (.own a)) → h.get? b = some u → h'.get? b = some u)
  (ho : ∀ b, H b = some (.own a) → H' b = some (.own a)) (ht : ∀ b xs, H b = some (.tup xs) → H' b = some (.tup xs)) : ObjOk P w H' h' a o := by
 induction o with
 | lst xs => obtain ⟨z, its, n, r, e⟩ := x; exact ⟨z, its, n, r, k _ _ (.inl rfl) e⟩
 | tup xs => obtain ⟨z, its, r, ob, e, c⟩ := x; exact ⟨z, its, r, ob, k _ _ (.inl rfl) e, c⟩
 | dK kvs => obtain ⟨z, y, vs, r, ob, es, ep, e, c⟩ := x; exact ⟨z, y, vs, r, ob, es, ep, k _ _ (.inl rfl) e, c⟩
 | dT kvs =>
  obtain ⟨z, y, xs, r, ob, es, ep, e, c⟩ := x
  exact ⟨z, y, xs, Paired.mapP r fun p q z => ⟨z.1, ht _ _ z.2.1, z.2.2⟩, ob, es, ep, k _ _ (.inl rfl) e, c⟩
 | set S n => obtain ⟨ob, es, ep, t, e, c⟩ := x; exact ⟨ob, es, ep, t, k _ _ (.inl rfl) e, c⟩
 | ins C dx fs =>
  obtain ⟨d, z, ne, e, mA, ⟨od, es, ep, e2, c⟩, r⟩ := x
  exact ⟨ho _ d, z, ne, k _ _ (.inl rfl) e, mA, ⟨od, es, ep, k _ _ (.inr d) e2, c⟩, r⟩
 | own y => obtain ⟨ob, e⟩ := x; exact ⟨ob, k _ _ (.inl rfl) e⟩
 | xd fs => obtain ⟨mA, ⟨od, es, ep, e, c⟩, r⟩ := x; exact ⟨mA, ⟨od, es, ep, k _ _ (.inl rfl) e, c⟩, r⟩
 | rng lo hi => obtain ⟨t, u, v, e⟩ := x; exact ⟨t, u, v, k _ _ (.inl rfl) e⟩
 | frz ob u ih => obtain ⟨e, q⟩ := x; exact ⟨k _ _ (.inl rfl) e, ih q⟩
 | tbl ps =>
  have e : h.get? a = some { cls := .none, data := .fields ps } := x
  show h'.get? a = some { cls := .none, data := .fields ps }
  exact k a _ (.inl rfl) e
 | met f y =>
  have e : h.get? a = some (PySem.W.methodObj (.ref f) (.ref y)) := x
  show h'.get? a = some (PySem.W.methodObj (.ref f) (.ref y))
  exact k a _ (.inl rfl) e
 | ext φ => obtain ⟨p, ⟨o, e⟩, st⟩ := x; exact ⟨st _ _ p fun o q => k _ _ (.inl rfl) q, ⟨o, k _ _ (.inl rfl) e⟩, st⟩
theorem HOk.lt (x : HOk P w H h) (e : H a = some o) : a < h.objs.size := (x a o e).lt
theorem HOk.fresh (x : HOk P w H h) (e : h.objs.size ≤ a) : H a = none := by
 cases q : H a with
 | none => rfl
 | some u => exact absurd (Nat.lt_of_lt_of_le (x.lt q) e) (Nat.lt_irrefl _)
theorem HOk.kept (x : HOk P w H h) (k : ∀ b u, h.get? b = some u → h'.get? b = some u) : HOk P w H h' := fun a o e =>
 (x a o e).stay (fun b u _ q => k b u q) (fun _ q => q) fun _ _ q => q
theorem HOk.laid (x : HOk P w H h) (k : ∀ b u, h.get? b = some u → h'.get? b = some u) (hp : h.objs.size ≤ a) (new : ObjOk P w (upd H a o) h' a o) : HOk P w (upd H a o) h' := fun b u e => by
 have hn := x.fresh hp
 by_cases hb : b = a
 ·subst hb; rw [upd_same] at e; cases e; exact new
 ·rw [upd_ne hb] at e
  exact (x b u e).stay (fun c v _ q => k c v q) (fun c q => by rw [upd_ne (ne_of_none q hn)]; exact q) fun c xs q => by rw [upd_ne (ne_of_none q hn)]; exact q
end
def Rd (H : Hp) (a : Addr) (u : HO) : Prop := H a = some u ∨ ∃ o, H a = some (.frz o u)
theorem Rd.ok {P : Program} {w : World} {H : Hp} {h : Heap} {a : Addr} {u : HO} (r : Rd H a u) (x : HOk P w H h) : ObjOk P w H h a u := by
 rcases r with r | ⟨o, r⟩
 ·exact x a u r
 ·obtain ⟨_, q⟩ := x a _ r
  exact q
def Mut : Option HO → Prop
 | some (.lst _) => True
 | some (.dK _) => True
 | some (.dT _) => True
 | some (.set _ _) => True
 | some (.ins _ _ _) => True
 | some (.ext _) => True
 | _ => False
section
variable {P : Program} {w : World} {H : Hp} {h h' : Heap} {x e : Addr} {o' : HO}
theorem HOk.write (ok : HOk P w H h) (mu : Mut (H x)) (he : e = x ∨ H e = some (.own x)) (k : ∀ b u, b ≠ e → h.get? b = some u → h'.get? b = some u) (heo : ∃ u, h'.get? e = some u)
  (new : ObjOk P w (upd H x o') h' x o') : HOk P w (upd H x o') h' := fun b u q => by
 have nown : ∀ c y, H c = some (.own y) → c ≠ x := fun c y r z => by subst z; rw [r] at mu; exact mu
 have ntup : ∀ c xs, H c = some (.tup xs) → c ≠ x := fun c xs r z => by subst z; rw [r] at mu; exact mu
 by_cases hb : b = x
 ·subst hb; rw [upd_same] at q; cases q; exact new
 ·rw [upd_ne hb] at q
  by_cases hbe : b = e
  ·have q' : H b = some (.own x) := by
    rcases he with z | z
    ·exact absurd (hbe.trans z) hb
    ·rw [hbe]; exact z
   rw [q] at q'; cases q'
   obtain ⟨v, hv⟩ := heo
   exact ⟨v, by rw [hbe]; exact hv⟩
  ·refine (ok b u q).stay (fun c v hc r => k c v ?_ r) (fun c r => by rw [upd_ne (nown c b r)]; exact r) fun c xs r => by rw [upd_ne (ntup c xs r)]; exact r
   rcases hc with rfl | hc
   ·exact hbe
   ·rintro rfl
    rcases he with z | z
    ·exact nown c b hc z
    ·rw [hc] at z; cases z; exact hb rfl
end
structure Un (fs ex : List Addr) (H H' : Hp) (h h' : Heap) : Prop where
 keep : ∀ b o, h.get? b = some o → H b = none → b ∉ fs → b ∉ ex → h'.get? b = some o
 slot : ∀ b o, h.get? b = some o → H b = none → b ∈ fs → b ∉ ex → ∃ sl, h'.get? b = some { o with slots := sl }
 free : ∀ b o, h.get? b = some o → H b = none → b ∉ ex → H' b = none
 there : ∀ b o, h.get? b = some o → b ∉ ex → ∃ o', h'.get? b = some o'
 tups : ∀ b xs, H b = some (.tup xs) → H' b = some (.tup xs)
 frzs : ∀ b o u, H b = some (.frz o u) → H' b = some (.frz o u)
 tbls : ∀ b ps, H b = some (.tbl ps) → ∃ more, H' b = some (.tbl (ps ++ more))
section
variable {fs fs' ex ex' : List Addr} {H H1 H2 : Hp} {h h1 h2 h' : Heap} {a x e : Addr} {o : HO}
theorem Un.any (u : Un fs ex H H1 h h1) {b : Addr} {ob : Obj} (q : h.get? b = some ob) (n : H b = none) (hx : b ∉ ex) : ∃ sl, h1.get? b = some { ob with slots := sl } := by
 by_cases hb : b ∈ fs
 ·exact u.slot b ob q n hb hx
 ·exact ⟨ob.slots, u.keep b ob q n hb hx⟩
theorem Un.kept (k : ∀ b u, h.get? b = some u → h'.get? b = some u) : Un fs ex H H h h' :=
 ⟨fun b ob q _ _ _ => k b ob q, fun b ob q _ _ _ => ⟨ob.slots, k b ob q⟩, fun _ _ _ n _ => n, fun b ob q _ => ⟨ob, k b ob q⟩, fun _ _ q => q, fun _ _ _ q => q, fun _ ps q => ⟨#[], by rw [q]; simp⟩⟩
theorem Un.refl : Un fs ex H H h h := Un.kept fun _ _ q => q
theorem Un.laid (k : ∀ b u, h.get? b = some u → h'.get? b = some u) (hp : h.objs.size ≤ a) (hn : H a = none) : Un fs ex H (upd H a o) h h' where
 keep := fun b u q _ _ _ => k b u q
 slot := fun b u q _ _ _ => ⟨u.slots, k b u q⟩
 free := fun b u q n _ => by rw [upd_ne (Nat.ne_of_lt (Nat.lt_of_lt_of_le (Heap.lt_size q) hp))]; exact n
 there := fun b u q _ => ⟨u, k b u q⟩
 tups := fun b xs q => by rw [upd_ne (ne_of_none q hn)]; exact q
 frzs := fun b u xs q => by rw [upd_ne (ne_of_none q hn)]; exact q
 tbls := fun b ps q => ⟨#[], by rw [upd_ne (ne_of_none q hn), q]; simp⟩
theorem Un.write (mu : Mut (H x)) (he : e = x ∨ H e = some (.own x)) (k : ∀ b u, b ≠ e → h.get? b = some u → h'.get? b = some u) (heo : ∃ u, h'.get? e = some u) : Un fs ex H (upd H x o) h h' := by
 have hx : ∀ b, H b = none → b ≠ x := fun b n z => by subst z; rw [n] at mu; exact mu
 have hb : ∀ b, H b = none → b ≠ e := fun b n z => by
  subst z
  rcases he with r | r
  ·exact hx b n r
  ·rw [n] at r; cases r
 have hm : ∀ b u, H b = some u → ¬ Mut (some u) → b ≠ x := fun b u q nm z => by subst z; rw [q] at mu; exact nm mu
 refine ⟨fun b u q n _ _ => k b u (hb b n) q, fun b u q n _ _ => ⟨u.slots, k b u (hb b n) q⟩, fun b u q n _ => by rw [upd_ne (hx b n)]; exact n, fun b u q _ => ?_,
  fun b xs q => by rw [upd_ne (hm b _ q fun z => z)]; exact q, fun b u xs q => by rw [upd_ne (hm b _ q fun z => z)]; exact q, fun b ps q => ⟨#[], by rw [upd_ne (hm b _ q fun z => z), q]; simp⟩⟩
 by_cases hbe : b = e
 ·subst hbe; exact heo
 ·exact ⟨u, k b u hbe q⟩
end
def trk (h : Heap) (H : Hp) : List Addr := (List.range h.objs.size).filter fun a => (H a).isSome
def hidT (h : Heap) (H : Hp) : Heap := PySem.W.hideAll h (trk h H)
theorem hidT_size (h : Heap) (H : Hp) : (hidT h H).objs.size = h.objs.size := PySem.W.hideAll_size _ _
theorem hidT_get {h : Heap} {H : Hp} {b : Addr} {o : Obj} (e : h.get? b = some o) (n : H b = none) : (hidT h H).get? b = some o :=
 PySem.W.hideAll_get _ e fun hm => by
  have q : (H b).isSome = true := (List.mem_filter.mp hm).2
  rw [n] at q; simp at q
theorem of_hidT {h : Heap} {H : Hp} {b : Addr} {o : Obj} (e : (hidT h H).get? b = some o) : h.get? b = some o ∧ H b = none := by
 have e' : h.get? b = some o := PySem.W.of_hideAll (trk h H) e
 refine ⟨e', ?_⟩
 cases q : H b with
 | none => rfl
 | some x =>
  have hm : b ∈ trk h H := List.mem_filter.mpr ⟨List.mem_range.mpr (Heap.lt_size e'), by simp [q]⟩
  have z : (hidT h H).get? b = none := PySem.W.hideAll_none (trk h H) hm
  rw [z] at e; cases e
end L2
namespace L2
open PySem PySem.Spec PyProof.Rows
structure Mod (K : PySem.W.Frag) (mg : Str → Option Value) (base : Heap) : Prop where
 kin : K.In base
 glob : base.Ns mainGlobals mg
 blt : ∃ mb, base.Ns builtinsNs mb ∧ ∀ x : Str, x ≠ "__name__" → mb x = bootBuiltins x
 nolimit : base.NoLimit
structure Cx where
 prog : Program
 w : World
 K : PySem.W.Frag
 mg : Str → Option Value
 base : Heap
 A : Around
 N : List Str
 s_0 : Shared
 H_0 : Hp
 env : Env
 outer : List Env
 stack : List Env
 ex : List Addr
 fn : Str → Bool
 calm : Bool
 pn : List (Addr × Obj)
 xe : Value → Shared → Prop
def frs (l : List Env) : List Addr := l.filterMap (·.frame)
abbrev Cx.fs (X : Cx) : List Addr := frs X.outer
def Vis (sc : Scope) (x : Str) : Prop := sc.names.lookup x = some .local ∨ sc.names.lookup x = some .cell ∨ sc.names.lookup x = some .free
def Loc (sc : Scope) (x : Str) : Prop := sc.names.lookup x = some .local ∨ sc.names.lookup x = some .cell
def Look (env : Env) (h : Heap) (m : Str → Option Value) (x : Str) (u : Value) : Prop :=
 (env.kindOf x = some .local ∧ m x = some u) ∨ ((env.kindOf x = some .cell ∨ env.kindOf x = some .free) ∧ ∃ c, env.cells.lookup x = some c ∧ h.IsCell c (some u))
structure Cx.Ok (X : Cx) : Prop where
 mod : Mod X.K X.mg X.base
 kind : X.env.scope.kind = .function
 glob : X.env.globals = mainGlobals
 blt : X.env.builtins = builtinsNs
 above : X.s_0.heap.objs.size ≤ X.env.locals
 inj : ∀ x y c, X.env.cells.lookup x = some c → X.env.cells.lookup y = some c → x = y
 has : ∀ x, (X.env.kindOf x = some .cell ∨ X.env.kindOf x = some .free) → ∃ c, X.env.cells.lookup x = some c
 cab : ∀ x c, X.fn x = true → X.env.cells.lookup x = some c → X.s_0.heap.objs.size ≤ c
 hd : X.calm = true → X.A.handled = none
 frames : X.A.frames = some X.stack
 stk : X.stack = X.outer ∨ (X.stack = X.env :: X.outer ∧ X.env.frame = some X.env.locals)
 exf : ∀ b ∈ X.ex, b ≠ X.env.locals ∧ ∀ x c, X.env.cells.lookup x = some c → c ≠ b
 bs : ∀ b o, X.base.get? b = some o → X.s_0.heap.get? b = some o ∧ X.H_0 b = none
 bsz : X.base.objs.size ≤ X.s_0.heap.objs.size
 noex : ∀ b o, X.base.get? b = some o → b ∉ X.ex
 exfs : ∀ b ∈ X.ex, b ∉ X.fs
 funs : X.s_0.heap.FunFrames X.base X.outer
 frf : ∀ b ∈ X.fs, X.H_0 b = none
structure Inv (X : Cx) (pins : List (Addr × Obj)) (σ : List (Option V)) (H : Hp) (s : Shared) : Prop where
 ok : X.Ok
 os : s.os = X.s_0.os
 bare : AllBare s.gens
 base : Un X.fs X.ex X.H_0 H X.s_0.heap s.heap
 loc : ∃ m, s.heap.Ns X.env.locals m ∧ ∀ (i : Nat) (x : Str) (v : V), X.N[i]? = some x → σ[i]? = some (some v) → Vis X.env.scope x → ∃ u, RelV v u ∧ Look X.env s.heap m x u
 cell : ∀ x c, X.env.cells.lookup x = some c → ∃ v, s.heap.IsCell c v
 free : H X.env.locals = none
 freeC : ∀ x c, X.env.cells.lookup x = some c → H c = none
 pin : ∀ p ∈ X.pn ++ pins, s.heap.get? p.1 = some p.2 ∧ H p.1 = none ∧ p.1 ≠ X.env.locals ∧ p.1 ∉ X.fs ∧ ∀ v, p.2.data ≠ .cell v
 hok : HOk X.prog X.w H s.heap
 len : σ.length = X.N.length
section
variable {X : Cx} {pins : List (Addr × Obj)} {σ : List (Option V)} {H H' : Hp} {s : Shared} {h' : Heap}
theorem Cx.Ok.nofr (ok : X.Ok) {b : Addr} {o : Obj} (e : X.base.get? b = some o) : b ∉ X.fs := fun hb => by
 have := (ok.funs.mem hb).1
 rw [e] at this; cases this
theorem Inv.bs (I : Inv X pins σ H s) : ∀ b o, X.base.get? b = some o → s.heap.get? b = some o ∧ H b = none := fun b o e =>
 ⟨I.base.keep b o (I.ok.bs b o e).1 (I.ok.bs b o e).2 (I.ok.nofr e) (I.ok.noex b o e), I.base.free b o (I.ok.bs b o e).1 (I.ok.bs b o e).2 (I.ok.noex b o e)⟩
theorem Inv.bk (I : Inv X pins σ H s) : ∀ b o, X.base.get? b = some o → s.heap.get? b = some o := fun b o e => (I.bs b o e).1
theorem Inv.mod (I : Inv X pins σ H s) : Mod X.K X.mg X.base := I.ok.mod
theorem Inv.kIn (I : Inv X pins σ H s) : X.K.In s.heap := I.ok.mod.kin.keeps I.bk
theorem Inv.lt (I : Inv X pins σ H s) : X.env.locals < s.heap.objs.size := let ⟨_, hn, _⟩ := I.loc; hn.lt
theorem Inv.sz (I : Inv X pins σ H s) : X.s_0.heap.objs.size ≤ s.heap.objs.size := Nat.le_trans I.ok.above (Nat.le_of_lt I.lt)
theorem Inv.nofs (I : Inv X pins σ H s) {a : Addr} (h : s.heap.objs.size ≤ a) : a ∉ X.fs := fun hb => by
 obtain ⟨_, o, ho, _⟩ := I.ok.funs.mem hb
 exact absurd (Nat.lt_of_lt_of_le (Heap.lt_size ho) (Nat.le_trans I.sz h)) (Nat.lt_irrefl _)
theorem Inv.cne (I : Inv X pins σ H s) : ∀ x c, X.env.cells.lookup x = some c → c ≠ X.env.locals := fun x c e z => by
 obtain ⟨v, o, ho, hd⟩ := I.cell x c e
 obtain ⟨m, ⟨o', es, ep, ho', hd', _⟩, _⟩ := I.loc
 rw [z, ho'] at ho; cases ho; rw [hd'] at hd; cases hd
theorem Inv.funs (I : Inv X pins σ H s) : s.heap.FunFrames X.base X.outer := by
 have all : ∀ (l : List Env), (∀ b ∈ frs l, b ∈ X.fs) → X.s_0.heap.FunFrames X.base l → s.heap.FunFrames X.base l := by
  intro l
  induction l with
  | nil => intro _ _; trivial
  | cons env r ih =>
   intro hs hl
   obtain ⟨hk, ⟨L, o, hf, hn, ho, hd⟩, hr⟩ := hl
   have hL : L ∈ X.fs := hs L (by unfold frs; rw [List.filterMap_cons, hf]; exact List.mem_cons_self)
   obtain ⟨sl, e⟩ := I.base.slot L o ho (I.ok.frf L hL) hL fun z => I.ok.exfs L z hL
   exact ⟨hk, ⟨L, _, hf, hn, e, hd⟩, ih (fun b hb => hs b (by unfold frs; rw [List.filterMap_cons, hf]; exact List.mem_cons_of_mem _ hb)) hr⟩
 exact all X.outer (fun _ hb => hb) I.ok.funs
theorem Inv.stack (I : Inv X pins σ H s) : s.heap.FunFrames X.base X.stack := by
 rcases I.ok.stk with e | ⟨e, hf⟩
 ·rw [e]; exact I.funs
 ·rw [e]
  obtain ⟨m, hn, _⟩ := I.loc
  refine .cons (by rw [I.ok.kind]; decide) hf hn ?_ I.funs
  exact Heap.get?_none_of_le (Nat.le_trans I.ok.bsz I.ok.above)
theorem Inv.stkSub (I : Inv X pins σ H s) : ∀ b ∈ frs X.stack, b ∈ X.env.locals :: X.fs := fun b hb => by
 rcases I.ok.stk with e | ⟨e, hf⟩
 ·rw [e] at hb; exact List.mem_cons_of_mem _ hb
 ·rw [e] at hb
  unfold frs at hb
  rw [List.filterMap_cons, hf] at hb
  exact hb
theorem Inv.stkFree (I : Inv X pins σ H s) : ∀ b ∈ frs X.stack, H b = none := fun b hb => by
 rcases List.mem_cons.mp (I.stkSub b hb) with e | hb
 ·rw [e]; exact I.free
 ·obtain ⟨_, o, ho, _⟩ := I.ok.funs.mem hb
  exact I.base.free b o ho (I.ok.frf b hb) fun z => I.ok.exfs b z hb
theorem Inv.step {g' : Array GenState} {t' : Nat} {d' : Drawn} {ch : List Addr} (I : Inv X pins σ H s)
  (hch : ∀ b ∈ ch, (b ∈ X.ex ∨ X.s_0.heap.objs.size ≤ b) ∧ b ≠ X.env.locals ∧ (∀ x c, X.env.cells.lookup x = some c → c ≠ b) ∧ ∀ p ∈ X.pn ++ pins, p.1 ≠ b)
  (keep : ∀ b o, b ≠ X.env.locals → b ∉ X.fs → b ∉ ch → s.heap.get? b = some o → H b = none → h'.get? b = some o)
  (slot : ∀ b o, b ≠ X.env.locals → b ∈ X.fs → b ∉ ch → s.heap.get? b = some o → H b = none → ∃ sl, h'.get? b = some { o with slots := sl }) (free : ∀ b o, b ∉ ch → s.heap.get? b = some o → H b = none → H' b = none)
  (there : ∀ b o, b ∉ ch → s.heap.get? b = some o → ∃ o', h'.get? b = some o')
  (tups : ∀ b xs, H b = some (.tup xs) → H' b = some (.tup xs)) (frzs : ∀ b o u, H b = some (.frz o u) → H' b = some (.frz o u)) (tbls : ∀ b ps, H b = some (.tbl ps) → ∃ more, H' b = some (.tbl (ps ++ more)))
  (ns : ∀ m, s.heap.Ns X.env.locals m → h'.Ns X.env.locals m) (hok : HOk X.prog X.w H' h') (hg : AllBare g') :
  Inv X pins σ H' { s with heap := h', gens := g', drawn := d', toks := t' } := by
 have neL : ∀ b o, X.s_0.heap.get? b = some o → b ≠ X.env.locals := fun b o e => Nat.ne_of_lt (Nat.lt_of_lt_of_le (Heap.lt_size e) I.ok.above)
 have neC : ∀ b o, X.s_0.heap.get? b = some o → b ∉ X.ex → b ∉ ch := fun b o e hx hb => by
  rcases (hch b hb).1 with z | z
  ·exact hx z
  ·exact absurd (Nat.lt_of_lt_of_le (Heap.lt_size e) z) (Nat.lt_irrefl _)
 have cellK : ∀ x c, X.env.cells.lookup x = some c → ∀ v, s.heap.IsCell c v → h'.IsCell c v := fun x c e v ⟨o, ho, hd⟩ => by
  have nch : c ∉ ch := fun z => (hch c z).2.2.1 x c e rfl
  by_cases hc : c ∈ X.fs
  ·obtain ⟨sl, q⟩ := slot c o (I.cne x c e) hc nch ho (I.freeC x c e)
   exact ⟨_, q, hd⟩
  ·exact ⟨o, keep c o (I.cne x c e) hc nch ho (I.freeC x c e), hd⟩
 refine ⟨I.ok, I.os, hg, ⟨fun b o e n hb hx => ?_, fun b o e n hb hx => ?_, fun b o e n hx => ?_, fun b o e hx => ?_, fun b xs e => tups b xs (I.base.tups b xs e), fun b o xs e => frzs b o xs (I.base.frzs b o xs e), fun b ps e => ?_⟩, ?_, fun x c e => ?_, ?_, fun x c e => ?_, fun p hp => ?_, hok, I.len⟩
 ·exact keep b o (neL b o e) hb (neC b o e hx) (I.base.keep b o e n hb hx) (I.base.free b o e n hx)
 ·obtain ⟨sl, e1⟩ := I.base.slot b o e n hb hx
  obtain ⟨sl', e2⟩ := slot b _ (neL b o e) hb (neC b o e hx) e1 (I.base.free b o e n hx)
  exact ⟨sl', e2⟩
 ·obtain ⟨o', e1⟩ := I.base.there b o e hx
  exact free b o' (neC b o e hx) e1 (I.base.free b o e n hx)
 ·obtain ⟨o', e1⟩ := I.base.there b o e hx
  exact there b o' (neC b o e hx) e1
 ·obtain ⟨m1, e1⟩ := I.base.tbls b ps e
  obtain ⟨m2, e2⟩ := tbls b _ e1
  exact ⟨m1 ++ m2, by rw [e2, Array.append_assoc]⟩
 ·obtain ⟨m, hn, hl⟩ := I.loc
  refine ⟨m, ns m hn, fun i x v e1 e2 e3 => ?_⟩
  obtain ⟨u, r, l⟩ := hl i x v e1 e2 e3
  refine ⟨u, r, ?_⟩
  rcases l with l | ⟨k, c, e, z⟩
  ·exact .inl l
  ·exact .inr ⟨k, c, e, cellK x c e _ z⟩
 ·obtain ⟨v, z⟩ := I.cell x c e
  exact ⟨v, cellK x c e v z⟩
 ·obtain ⟨m, ⟨o, _, _, ho, _⟩, _⟩ := I.loc
  exact free _ o (fun z => (hch _ z).2.1 rfl) ho I.free
 ·obtain ⟨v, o, ho, hd⟩ := I.cell x c e
  exact free c o (fun z => (hch c z).2.2.1 x c e rfl) ho (I.freeC x c e)
 ·obtain ⟨e, n, ne, nf, d⟩ := I.pin p hp
  have nch : p.1 ∉ ch := fun z => (hch p.1 z).2.2.2 p hp rfl
  exact ⟨keep p.1 p.2 ne nf nch e n, free p.1 p.2 nch e n, ne, nf, d⟩
theorem Inv.un {t' : Nat} (I : Inv X pins σ H s) (u : Un X.fs [] H H' s.heap h') (hok : HOk X.prog X.w H' h') : Inv X pins σ H' { s with heap := h', toks := t' } := by
 obtain ⟨m, ⟨o, es, ep, ho, r⟩, _⟩ := id I.loc
 obtain ⟨sl, hL⟩ := u.any ho I.free (by simp)
 exact I.step (g' := s.gens) (d' := s.drawn) (ch := []) (fun _ z => nomatch z) (fun b o _ hb _ e n => u.keep b o e n hb (by simp)) (fun b o _ hb _ e n => u.slot b o e n hb (by simp)) (fun b o _ e n => u.free b o e n (by simp)) (fun b o _ e => u.there b o e (by simp)) u.tups u.frzs u.tbls (fun m' hm => by
  obtain ⟨o', es', ep', ho', r'⟩ := hm
  rw [ho] at ho'; cases ho'
  exact ⟨_, es', ep', hL, r'⟩) hok I.bare
theorem Inv.call {g' : Array GenState} {t' : Nat} {d' : Drawn} {ch : List Addr} (I : Inv X pins σ H s) (u : Un (frs X.stack) ch H H' s.heap h') (hok : HOk X.prog X.w H' h') (hg : AllBare g')
  (hch : ∀ b ∈ ch, (b ∈ X.ex ∨ X.s_0.heap.objs.size ≤ b) ∧ b ≠ X.env.locals ∧ (∀ x c, X.env.cells.lookup x = some c → c ≠ b) ∧ ∀ p ∈ X.pn ++ pins, p.1 ≠ b) :
  Inv X pins σ H' { s with heap := h', gens := g', drawn := d', toks := t' } := by
 obtain ⟨m, ⟨o, es, ep, ho, r⟩, _⟩ := id I.loc
 obtain ⟨sl, hL⟩ := u.any ho I.free fun z => (hch _ z).2.1 rfl
 exact I.step (ch := ch) hch (fun b o hL hb hc e n => u.keep b o e n (fun z => (List.mem_cons.mp (I.stkSub b z)).elim hL hb) hc) (fun b o _ _ hc e n => u.any e n hc) (fun b o hc e n => u.free b o e n hc) (fun b o hc e => u.there b o e hc) u.tups u.frzs u.tbls (fun m' hm => by
  obtain ⟨o', es', ep', ho', r'⟩ := hm
  rw [ho] at ho'; cases ho'
  exact ⟨_, es', ep', hL, r'⟩) hok hg
theorem Inv.turned {t' : Nat} {it : Addr} (I : Inv X pins σ H s) (k : ∀ b o, b ≠ it → s.heap.get? b = some o → h'.get? b = some o) (hn : H it = none) (hL : it ≠ X.env.locals)
  (h1 : it ∈ X.ex ∨ X.s_0.heap.objs.size ≤ it) (h2 : ∀ x c, X.env.cells.lookup x = some c → c ≠ it) (h3 : ∀ p ∈ X.pn ++ pins, p.1 ≠ it) : Inv X pins σ H { s with heap := h', toks := t' } := by
 have nit : ∀ b u, H b = some u → b ≠ it := fun b u e z => by rw [z, hn] at e; cases e
 refine I.step (g' := s.gens) (d' := s.drawn) (ch := [it]) (fun b hb => ?_) (fun b o _ _ hc e _ => k b o (fun z => hc (by simp [z])) e) (fun b o _ _ hc e _ => ⟨o.slots, k b o (fun z => hc (by simp [z])) e⟩) (fun _ _ _ _ n => n)
  (fun b o hc e => ⟨o, k b o (fun z => hc (by simp [z])) e⟩) (fun _ _ e => e) (fun _ _ _ e => e) (fun b ps e => ⟨#[], by rw [e]; simp⟩) (fun m hm => ?_) (fun b u e => ?_) I.bare
 ·have e : b = it := by simpa using hb
  subst e
  exact ⟨h1, hL, h2, h3⟩
 ·obtain ⟨o, es, ep, ho, r⟩ := hm
  exact ⟨o, es, ep, k _ o (Ne.symm hL) ho, r⟩
 ·refine (I.hok b u e).stay (fun c v hc q => k c v ?_ q) (fun _ q => q) fun _ _ q => q
  rcases hc with z | z
  ·rw [z]; exact nit b u e
  ·exact nit c _ z
theorem Inv.tok (I : Inv X pins σ H s) (t : Nat) : Inv X pins σ H { s with toks := t } := I.un (h' := s.heap) (t' := t) Un.refl I.hok
theorem Inv.kept {t' : Nat} (I : Inv X pins σ H s) (k : ∀ b u, s.heap.get? b = some u → h'.get? b = some u) : Inv X pins σ H { s with heap := h', toks := t' } := I.un (Un.kept k) (I.hok.kept k)
theorem Inv.laid {a : Addr} {o : HO} {t' : Nat} (I : Inv X pins σ H s) (k : ∀ b u, s.heap.get? b = some u → h'.get? b = some u) (hp : s.heap.objs.size ≤ a) (new : ObjOk X.prog X.w (upd H a o) h' a o) :
  Inv X pins σ (upd H a o) { s with heap := h', toks := t' } := I.un (Un.laid k hp (I.hok.fresh hp)) (I.hok.laid k hp new)
theorem Inv.write {x e : Addr} {o : HO} {t' : Nat} (I : Inv X pins σ H s) (mu : Mut (H x)) (he : e = x ∨ H e = some (.own x)) (k : ∀ b u, b ≠ e → s.heap.get? b = some u → h'.get? b = some u) (heo : ∃ u, h'.get? e = some u)
  (new : ObjOk X.prog X.w (upd H x o) h' x o) : Inv X pins σ (upd H x o) { s with heap := h', toks := t' } := I.un (Un.write mu he k heo) (I.hok.write mu he k heo new)
theorem Inv.weak {σ' : List (Option V)} (I : Inv X pins σ H s) (hl : σ'.length = σ.length) (w : ∀ (i : Nat) v, σ'[i]? = some (some v) → σ[i]? = some (some v)) : Inv X pins σ' H s :=
 ⟨I.ok, I.os, I.bare, I.base, let ⟨m, hn, hl'⟩ := I.loc; ⟨m, hn, fun i x v e1 e2 e3 => hl' i x v e1 (w i v e2) e3⟩, I.cell, I.free, I.freeC, I.pin, I.hok, hl.trans I.len⟩
theorem Inv.pins_of {pins' : List (Addr × Obj)} (I : Inv X pins σ H s) (h : ∀ p ∈ pins', s.heap.get? p.1 = some p.2 ∧ H p.1 = none ∧ p.1 ≠ X.env.locals ∧ p.1 ∉ X.fs ∧ ∀ v, p.2.data ≠ .cell v) : Inv X pins' σ H s :=
 ⟨I.ok, I.os, I.bare, I.base, I.loc, I.cell, I.free, I.freeC, fun p hp => (List.mem_append.mp hp).elim (fun z => I.pin p (List.mem_append_left _ z)) (h p), I.hok, I.len⟩
theorem nodup_ix {N : List Str} (hN : N.Nodup) {i j : Nat} {x : Str} (a : N[i]? = some x) (b : N[j]? = some x) : i = j := by
 obtain ⟨h1, e1⟩ := List.getElem?_eq_some_iff.mp a
 obtain ⟨h2, e2⟩ := List.getElem?_eq_some_iff.mp b
 exact (List.getElem_inj hN).mp (e1.trans e2.symm)
theorem store_ok2 {M : Model} {A : Around} {E : Value → Shared → Prop} {i : Nat} {x : Str} {v : V} {u : Value} {Q : Unit → Shared → Prop} (I : Inv X pins σ H s) (hN : X.N.Nodup) (hi : X.N[i]? = some x) (hx : Loc X.env.scope x) (r : RelV v u)
  (h : ∀ s', Inv X pins (σ.set i (some v)) H s' → (∃ a, Heap.SameBut a s.heap s'.heap ∧ (a = X.env.locals ∨ X.env.cells.lookup x = some a)) → Q () s') (hf : X.fn x = true ∨ X.env.scope.names.lookup x = some .local := by first | exact .inl rfl | exact .inr rfl | assumption) : wpAny M A (storeName X.env x u) Q E s := by
 obtain ⟨m, hn, hl⟩ := id I.loc
 have hcls : (X.env.scope.kind == .class || (X.env.scope.kind == .module && X.env.locals != X.env.globals)) = false := by rw [I.ok.kind]; rfl
 have hiσ : i < σ.length := by rw [I.len]; exact (List.getElem?_eq_some_iff.mp hi).1
 have cne := I.cne
 have tracked : ∀ {a : Addr} {h' : Heap}, (∃ o, s.heap.get? a = some o ∧ H a = none) → Heap.SameBut a s.heap h' → HOk X.prog X.w H h' := fun {a h'} ha hs b ob e => by
  obtain ⟨_, _, hfree⟩ := ha
  refine (I.hok b ob e).stay (fun c w' hc q => (hs.2 c ?_).trans q) (fun _ q => q) fun _ _ q => q
  rintro rfl
  rcases hc with rfl | hc
  ·rw [hfree] at e; cases e
  ·rw [hfree] at hc; cases hc
 rcases hx with hk | hk
 ·refine wpAny_storeName_local hk hn (fun h' hn' hs => ?_) hcls
  obtain ⟨oL, _, _, hoL, _⟩ := id hn
  refine h _ ⟨I.ok, I.os, I.bare, ⟨fun b o e n hb hx => ?_, fun b o e n hb hx => ?_, I.base.free, fun b o e hx => ?_, I.base.tups, I.base.frzs, I.base.tbls⟩, ⟨_, hn', fun j y v' e1 e2 e3 => ?_⟩, fun y c e => ?_, I.free, I.freeC, fun p hp => ?_, tracked ⟨oL, hoL, I.free⟩ hs, by simpa using I.len⟩ ⟨_, hs, .inl rfl⟩
  ·exact (hs.2 b (Nat.ne_of_lt (Nat.lt_of_lt_of_le (Heap.lt_size e) I.ok.above))).trans (I.base.keep b o e n hb hx)
  ·obtain ⟨sl, e1⟩ := I.base.slot b o e n hb hx
   exact ⟨sl, (hs.2 b (Nat.ne_of_lt (Nat.lt_of_lt_of_le (Heap.lt_size e) I.ok.above))).trans e1⟩
  ·obtain ⟨o', e1⟩ := I.base.there b o e hx
   exact ⟨o', (hs.2 b (Nat.ne_of_lt (Nat.lt_of_lt_of_le (Heap.lt_size e) I.ok.above))).trans e1⟩
  ·by_cases hj : j = i
   ·subst hj
    rw [hi] at e1; cases e1
    rw [List.getElem?_set_self hiσ] at e2
    cases e2
    exact ⟨u, r, .inl ⟨hk, by simp⟩⟩
   ·rw [List.getElem?_set_ne (Ne.symm hj)] at e2
    obtain ⟨u', r', q⟩ := hl j y v' e1 e2 e3
    refine ⟨u', r', ?_⟩
    rcases q with ⟨k, e⟩ | ⟨k, c, e, z⟩
    ·refine .inl ⟨k, ?_⟩
     have : y ≠ x := fun e => hj (nodup_ix hN e1 (e ▸ hi))
     simp [this, e]
    ·exact .inr ⟨k, c, e, z.sameBut hs (cne y c e)⟩
  ·obtain ⟨w', z⟩ := I.cell y c e
   exact ⟨w', z.sameBut hs (cne y c e)⟩
  ·obtain ⟨e, n, ne, nf, d⟩ := I.pin p hp
   exact ⟨(hs.2 p.1 ne).trans e, n, ne, nf, d⟩
 ·have hfn : X.fn x = true := by
   rcases hf with z | z
   ·exact z
   ·rw [z] at hk; cases hk
  obtain ⟨c, hc⟩ := I.ok.has x (.inl hk)
  obtain ⟨w', z⟩ := I.cell x c hc
  refine wpAny_storeName_cell I.ok.kind hk hc z (fun h' hc' hs => ?_)
  obtain ⟨oc, hoc, hocd⟩ := id z
  refine h { s with heap := h' } ⟨I.ok, I.os, I.bare, ⟨fun b o e n hb hx => ?_, fun b o e n hb hx => ?_, I.base.free, fun b o e hx => ?_, I.base.tups, I.base.frzs, I.base.tbls⟩, ⟨m, hn.sameBut hs (Ne.symm (cne x c hc)), fun j y v' e1 e2 e3 => ?_⟩, fun y c' e => ?_, I.free, I.freeC, fun p hp => ?_, tracked ⟨oc, hoc, I.freeC x c hc⟩ hs, by simpa using I.len⟩ ⟨c, hs, .inr hc⟩
  ·exact (hs.2 b (Nat.ne_of_lt (Nat.lt_of_lt_of_le (Heap.lt_size e) (I.ok.cab x c hfn hc)))).trans (I.base.keep b o e n hb hx)
  ·obtain ⟨sl, e1⟩ := I.base.slot b o e n hb hx
   exact ⟨sl, (hs.2 b (Nat.ne_of_lt (Nat.lt_of_lt_of_le (Heap.lt_size e) (I.ok.cab x c hfn hc)))).trans e1⟩
  ·obtain ⟨o', e1⟩ := I.base.there b o e hx
   exact ⟨o', (hs.2 b (Nat.ne_of_lt (Nat.lt_of_lt_of_le (Heap.lt_size e) (I.ok.cab x c hfn hc)))).trans e1⟩
  ·by_cases hj : j = i
   ·subst hj
    rw [hi] at e1; cases e1
    rw [List.getElem?_set_self hiσ] at e2
    cases e2
    exact ⟨u, r, .inr ⟨.inl hk, c, hc, hc'⟩⟩
   ·rw [List.getElem?_set_ne (Ne.symm hj)] at e2
    obtain ⟨u', r', q⟩ := hl j y v' e1 e2 e3
    refine ⟨u', r', ?_⟩
    rcases q with q | ⟨k, c', e, z'⟩
    ·exact .inl q
    ·refine .inr ⟨k, c', e, z'.sameBut hs ?_⟩
     rintro rfl
     exact hj (nodup_ix hN e1 (I.ok.inj _ _ _ e hc ▸ hi))
  ·by_cases hcc : c' = c
   ·subst hcc; exact ⟨_, hc'⟩
   ·obtain ⟨w2, z2⟩ := I.cell y c' e
    exact ⟨w2, z2.sameBut hs hcc⟩
  ·obtain ⟨e, n, ne, nf, d⟩ := I.pin p hp
   refine ⟨(hs.2 p.1 ?_).trans e, n, ne, nf, d⟩
   intro q
   rw [q, hoc] at e
   have q' : oc = p.2 := Option.some.inj e
   exact d w' (by rw [← q']; exact hocd)
theorem store_ok {M : Model} {A : Around} {E : Value → Shared → Prop} {i : Nat} {x : Str} {v : V} {u : Value} {Q : Unit → Shared → Prop} (I : Inv X pins σ H s) (hN : X.N.Nodup) (hi : X.N[i]? = some x) (hx : Loc X.env.scope x) (r : RelV v u)
  (h : ∀ s', Inv X pins (σ.set i (some v)) H s' → Q () s') (hf : X.fn x = true ∨ X.env.scope.names.lookup x = some .local := by first | exact .inl rfl | exact .inr rfl | assumption) : wpAny M A (storeName X.env x u) Q E s :=
 store_ok2 I hN hi hx r (fun s' I' _ => h s' I') hf
theorem Inv.call' {s' : Shared} {ch : List Addr} (I : Inv X pins σ H s) (ho : s'.os = s.os) (u : Un (frs X.stack) ch H H' s.heap s'.heap) (hok : HOk X.prog X.w H' s'.heap) (hg : AllBare s'.gens)
  (hch : ∀ b ∈ ch, (b ∈ X.ex ∨ X.s_0.heap.objs.size ≤ b) ∧ b ≠ X.env.locals ∧ (∀ x c, X.env.cells.lookup x = some c → c ≠ b) ∧ ∀ p ∈ X.pn ++ pins, p.1 ≠ b) : Inv X pins σ H' s' := by
 obtain ⟨h', g', d', t', o'⟩ := s'
 have e : o' = s.os := ho
 subst e
 exact I.call (g' := g') (t' := t') (d' := d') u hok hg hch
end
abbrev XK := Value → Option Addr → Hp → Prop
abbrev St := List (Option V)
abbrev VK := V → Hp → Prop
abbrev TE := St → Hp → VK → Prop
abbrev TT := St → Hp → (Bool → Hp → Prop) → Prop
abbrev TA := St → Hp → (List V → Hp → Prop) → Prop
structure Ends where
 nx : St → Hp → Prop
 rt : VK
 bk : St → Hp → Prop := fun _ _ => False
 ct : St → Hp → Prop := fun _ _ => False
abbrev TS := Ends → St → Hp → Prop
def EP (X : Cx) (pins : List (Addr × Obj)) (σ : St) (Q : VK) (u : Value) (s' : Shared) : Prop := ∃ v H', Inv X pins σ H' s' ∧ RelV v u ∧ Q v H'
def TP (X : Cx) (pins : List (Addr × Obj)) (σ : St) (Q : Bool → Hp → Prop) (b : Bool) (s' : Shared) : Prop := ∃ H', Inv X pins σ H' s' ∧ Q b H'
def AP (X : Cx) (pins : List (Addr × Obj)) (σ : St) (Q : List V → Hp → Prop) (us : List Value) (s' : Shared) : Prop := ∃ vs H', Inv X pins σ H' s' ∧ Vals vs us ∧ Q vs H'
def SP (X : Cx) (pins : List (Addr × Obj)) (D : Ends) (f : Flow) (s' : Shared) : Prop :=
 match f with
 | .next => ∃ σ' H', Inv X pins σ' H' s' ∧ D.nx σ' H'
 | .brk => ∃ σ' H', Inv X pins σ' H' s' ∧ D.bk σ' H'
 | .cont => ∃ σ' H', Inv X pins σ' H' s' ∧ D.ct σ' H'
 | .ret u => ∃ v σ' H', Inv X pins σ' H' s' ∧ RelV v u ∧ D.rt v H'
def PE (X : Cx) (e : Expr) (t : TE) : Prop :=
 ∀ (pins : List (Addr × Obj)) (s : Shared) (σ : St) (H : Hp) (Q : VK), Inv X pins σ H s → t σ H Q → wpAny (model X.prog X.w) X.A (eval e X.env) (EP X pins σ Q) X.xe s
def PT (X : Cx) (e : Expr) (t : TT) : Prop :=
 ∀ (pins : List (Addr × Obj)) (s : Shared) (σ : St) (H : Hp) (Q : Bool → Hp → Prop), Inv X pins σ H s → t σ H Q → wpAny (model X.prog X.w) X.A (isTrue e X.env (eval e X.env)) (TP X pins σ Q) X.xe s
def PW (X : Cx) (e : Expr) (t : TT) : Prop :=
 ∀ (whole : Sem Value) (pins : List (Addr × Obj)) (s : Shared) (σ : St) (H : Hp) (Q : Bool → Hp → Prop), Inv X pins σ H s → t σ H Q → wpAny (model X.prog X.w) X.A (isTrue e X.env whole) (TP X pins σ Q) X.xe s
theorem PW.pt {X : Cx} {e : Expr} {t : TT} (h : PW X e t) : PT X e t := h _
def PA (X : Cx) (es : List Expr) (t : TA) : Prop :=
 ∀ (pos : Pos) (pins : List (Addr × Obj)) (s : Shared) (σ : St) (H : Hp) (Q : List V → Hp → Prop), Inv X pins σ H s → t σ H Q → wpAny (model X.prog X.w) X.A (spliced (backTo pos (starEach es X.env))) (AP X pins σ Q) X.xe s
def PS (X : Cx) (st : Stmt) (t : TS) : Prop :=
 ∀ (pins : List (Addr × Obj)) (s : Shared) (σ : St) (H : Hp) (D : Ends), Inv X pins σ H s → t D σ H → wpAny (model X.prog X.w) X.A (exec st X.env) (SP X pins D) X.xe s
def PSs (X : Cx) (st : List Stmt) (t : TS) : Prop :=
 ∀ (pins : List (Addr × Obj)) (s : Shared) (σ : St) (H : Hp) (D : Ends), Inv X pins σ H s → t D σ H → wpAny (model X.prog X.w) X.A (execs st X.env) (SP X pins D) X.xe s
theorem thn {α : Type} {t : Sem α} {Q Q' : α → Shared → Prop} {M : Model} {A : Around} {E : Value → Shared → Prop} {s : Shared} (h : wpAny M A t Q E s) (hQ : ∀ a s, Q a s → Q' a s) : wpAny M A t Q' E s := wpAny_mono h hQ fun _ _ x => x
end L2
namespace L2
open PySem PySem.Spec PyProof.Rows
section
variable {X : Cx}
def tVar (i : Nat) : TE := fun σ H Q => ∃ v, σ[i]? = some (some v) ∧ Q v H
def tC (v : V) : TE := fun _ H Q => Q v H
theorem pe_var {i : Nat} {x : Str} {pos : Pos} (hN : X.N[i]? = some x) (hv : Vis X.env.scope x) (hd : (x == ("__debug__" : Str)) = false := by decide) (hcd : (x == ("__classdict__" : Str)) = false := by decide) : PE X (.Name x pos) (tVar i) := by
 intro pins s σ H Q I h
 obtain ⟨v, e, h⟩ := h
 obtain ⟨m, hn, hl⟩ := I.loc
 obtain ⟨u, r, l⟩ := hl i x v hN e hv
 have fin : EP X pins σ Q u s := ⟨v, H, I, r, h⟩
 rcases l with ⟨hk, hm⟩ | ⟨hk, c, hc, hcell⟩
 ·exact wpAny_Name (wpAny_loadName_local I.ok.kind hk hn hm fin) hd
 ·rcases hk with hk | hk
  ·exact wpAny_Name (wpAny_loadName_cell I.ok.kind hk hc hcell fin) hd
  ·exact wpAny_Name (wpAny_loadName_free I.ok.kind hk hc hcell fin hcd) hd
theorem pe_int {i j pos} : PE X (.Constant (.int i) j pos) (tC (.int i)) := fun _ _ _ H _ I h => wpAny_Constant_int ⟨.int i, H, I.tok _, ⟨_, rfl⟩, h⟩
theorem pe_bl {b j pos} : PE X (.Constant (.bool b) j pos) (tC (.bl b)) := fun _ _ _ H _ I h => Constant_bool ⟨.bl b, H, I, rfl, h⟩
theorem pe_non {j pos} : PE X (.Constant .none j pos) (tC .non) := fun _ _ _ H _ I h => Constant_none ⟨.non, H, I, rfl, h⟩
theorem pe_str {x j pos} : PE X (.Constant (.str x) j pos) (tC (.str x)) := fun _ _ _ H _ I h => Calls.Constant_str ⟨.str x, H, I.tok _, ⟨_, rfl⟩, h⟩
def Gl (X : Cx) (x : Str) : Prop := X.env.kindOf x = some .globalImplicit
theorem ld_glob {E : Value → Shared → Prop} {pins : List (Addr × Obj)} {s : Shared} {σ : St} {H : Hp} {x : Str} {u : Value} {pos : Pos} {Q : Value → Shared → Prop} (I : Inv X pins σ H s) (hg : Gl X x) (hm : X.mg x = some u) (h : Q u s)
  (hd : (x == ("__debug__" : Str)) = false := by decide) : wpAny (model X.prog X.w) X.A (eval (.Name x pos) X.env) Q E s :=
 Calls.Name_function_global I.ok.kind hg (Calls.loadGlobal_global (by rw [I.ok.glob]; exact I.mod.glob.keeps I.bk) hm h) hd
theorem ld_blt {E : Value → Shared → Prop} {pins : List (Addr × Obj)} {s : Shared} {σ : St} {H : Hp} {x : Str} {u : Value} {pos : Pos} {Q : Value → Shared → Prop} (I : Inv X pins σ H s) (hg : Gl X x) (hm : X.mg x = none) (hv : bootBuiltins x = some u) (h : Q u s)
  (hn : x ≠ "__name__" := by decide) (hd : (x == ("__debug__" : Str)) = false := by decide) : wpAny (model X.prog X.w) X.A (eval (.Name x pos) X.env) Q E s := by
 obtain ⟨mb, h1, h2⟩ := I.mod.blt
 exact Calls.Name_function_global I.ok.kind hg (Calls.loadGlobal_builtin (by rw [I.ok.glob]; exact I.mod.glob.keeps I.bk) hm (by rw [I.ok.blt]; exact h1.keeps I.bk) ((h2 x hn).trans hv) h) hd
theorem pe_glob {x : Str} {v : V} {u : Value} {pos : Pos} (hg : Gl X x) (hm : X.mg x = some u) (r : RelV v u) (hd : (x == ("__debug__" : Str)) = false := by decide) : PE X (.Name x pos) (tC v) :=
 fun _ _ _ H _ I h => ld_glob I hg hm ⟨v, H, I, r, h⟩ hd
variable {a b : Expr} {ta tb : TE} {pos : Pos}
def PC (X : Cx) (op : CmpOp) (a b : Expr) (t : TE) : Prop :=
 ∀ (pins : List (Addr × Obj)) (s : Shared) (σ : St) (H : Hp) (Q : VK), Inv X pins σ H s → t σ H Q →
  wpAny (model X.prog X.w) X.A (eval a X.env) (fun v s₁ => wpAny (model X.prog X.w) X.A (eval b X.env) (fun u s₂ => wpAny (model X.prog X.w) X.A (compareOp op v u) (EP X pins σ Q) X.xe s₂) X.xe s₁) X.xe s
def tB (t : TE) : TT := fun σ H Q => t σ H fun x H1 => ∃ c, x = .bl c ∧ Q c H1
theorem pt_cmp {op : CmpOp} {t : TE} (h : PC X op a b t) (h1 : behindInMarks op b = false := by first | exact nobehind _ (by decide) (by decide) | rfl) : PT X (.Compare a [op] [b] pos) (tB t) := by
 intro pins s σ H Q I hw
 refine wpAny_isTrue_Compare1 (thn (h pins s σ H _ I hw) fun v s1 h1 => thn h1 fun u s2 h2 => thn h2 fun c s3 ⟨x, H1, I1, r1, q1⟩ => ?_) h1
 obtain ⟨d, rfl, q⟩ := q1
 cases r1
 exact wpAny_truthy_bool ⟨H1, I1, q⟩
theorem pt_val {e : Expr} {t : TE} (h : PE X e t) (he : ∀ whole, isTrue e X.env whole = (do let v ← whole; standAt e.pos; holding [v] (truthy v)) := by intro _; rfl) : PT X e (tB t) := by
 intro pins s σ H Q I hw
 refine isTrue_plain (thn (h pins s σ H _ I hw) fun v s1 ⟨x, H1, I1, r1, q1⟩ => ?_) (he _)
 obtain ⟨d, rfl, q⟩ := q1
 cases r1
 exact wpAny_truthy_bool ⟨H1, I1, q⟩
variable {tA tB' : TT} {rest : List Expr}
def tAnd (t u : TT) : TT := fun σ H Q => t σ H fun c H1 => if c = true then u σ H1 Q else Q false H1
def tOr (t u : TT) : TT := fun σ H Q => t σ H fun c H1 => if c = true then Q true H1 else u σ H1 Q
def tNot (t : TT) : TT := fun σ H Q => t σ H fun c H1 => Q (!c) H1
theorem pw_and1 (ha : PT X a tA) : PW X (.BoolOp .And [a] pos) tA := by
 intro wh pins s σ H Q I h
 refine isTrue_and (thn (ha pins s σ H Q I h) fun c s1 e => ?_)
 cases c with
 | true => exact isTrue_and_nil e
 | false => exact e
theorem pw_or1 (ha : PT X a tA) : PW X (.BoolOp .Or [a] pos) tA := by
 intro wh pins s σ H Q I h
 refine isTrue_or (thn (ha pins s σ H Q I h) fun c s1 e => ?_)
 cases c with
 | false => exact isTrue_or_nil e
 | true => exact e
theorem pw_and (ha : PT X a tA) (hb : PW X (.BoolOp .And (b :: rest) pos) tB') : PW X (.BoolOp .And (a :: b :: rest) pos) (tAnd tA tB') := by
 intro wh pins s σ H Q I h
 refine isTrue_and (thn (ha pins s σ H _ I h) fun c s1 ⟨H1, I1, q1⟩ => ?_)
 cases c with
 | true => exact hb wh pins s1 σ H1 Q I1 q1
 | false => exact ⟨H1, I1, q1⟩
theorem pw_or (ha : PT X a tA) (hb : PW X (.BoolOp .Or (b :: rest) pos) tB') : PW X (.BoolOp .Or (a :: b :: rest) pos) (tOr tA tB') := by
 intro wh pins s σ H Q I h
 refine isTrue_or (thn (ha pins s σ H _ I h) fun c s1 ⟨H1, I1, q1⟩ => ?_)
 cases c with
 | true => exact ⟨H1, I1, q1⟩
 | false => exact hb wh pins s1 σ H1 Q I1 q1
theorem pt_not (ha : PT X a tA) : PT X (.UnaryOp .Not a pos) (tNot tA) := by
 intro pins s σ H Q I h
 exact isTrue_not (ha pins s σ H (fun c H1 => Q (!c) H1) I h)
def tAndV (ta tb : TE) : TE := fun σ H Q => ta σ H fun x H1 => ∃ c, x = .bl c ∧ if c = true then tb σ H1 Q else Q (.bl false) H1
def tOrV (ta tb : TE) : TE := fun σ H Q => ta σ H fun x H1 => ∃ c, x = .bl c ∧ if c = true then Q (.bl true) H1 else tb σ H1 Q
theorem pe_one {op} {t : TE} (h : PE X a t) : PE X (.BoolOp op [a] pos) t := fun pins s σ H Q I hw => BoolOp_one (h pins s σ H Q I hw)
theorem pe_and (ha : PE X a ta) (hb : PE X (.BoolOp .And (b :: rest) pos) tb) : PE X (.BoolOp .And (a :: b :: rest) pos) (tAndV ta tb) := by
 intro pins s σ H Q I h
 refine BoolOp_and (thn (ha pins s σ H _ I h) fun v s1 ⟨x, H1, I1, r1, q1⟩ => ?_)
 obtain ⟨c, rfl, q1⟩ := q1
 cases r1
 refine wpAny_truthy_bool ?_
 cases c with
 | true => exact hb pins s1 σ H1 Q I1 q1
 | false => exact ⟨.bl false, H1, I1, rfl, q1⟩
theorem pe_or (ha : PE X a ta) (hb : PE X (.BoolOp .Or (b :: rest) pos) tb) : PE X (.BoolOp .Or (a :: b :: rest) pos) (tOrV ta tb) := by
 intro pins s σ H Q I h
 refine BoolOp_or (thn (ha pins s σ H _ I h) fun v s1 ⟨x, H1, I1, r1, q1⟩ => ?_)
 obtain ⟨c, rfl, q1⟩ := q1
 cases r1
 refine wpAny_truthy_bool ?_
 cases c with
 | false => exact hb pins s1 σ H1 Q I1 q1
 | true => exact ⟨.bl true, H1, I1, rfl, q1⟩
def tIf (t : TT) (ta tb : TE) : TE := fun σ H Q => t σ H fun c H1 => if c = true then ta σ H1 Q else tb σ H1 Q
theorem pe_ifExp {c : Expr} (hc : PT X c tA) (ha : PE X a ta) (hb : PE X b tb) : PE X (.IfExp c a b pos) (tIf tA ta tb) := by
 intro pins s σ H Q I h
 refine wpAny_IfExp (thn (hc pins s σ H _ I h) fun d s1 ⟨H1, I1, q1⟩ => ?_)
 cases d with
 | true => exact ha pins s1 σ H1 Q I1 q1
 | false => exact hb pins s1 σ H1 Q I1 q1
end
end L2
namespace L2
open PySem PySem.Spec PyProof.Rows
def SqL (K : PySem.W.Frag) (H : Hp) (a : Addr) (xs : List V) : Prop :=
 Rd H a (.lst xs) ∨
  ∃ (o : Obj) (its : Array Value) (n : Nat), K.lookup a = some o ∧ o.cls = .type "list" ∧ o.dict = none ∧ o.data = .seq its n ∧ its.size ≤ sizeLine ∧ Vals xs its.toList
def SqT (K : PySem.W.Frag) (H : Hp) (a : Addr) (xs : List V) : Prop :=
 Rd H a (.tup xs) ∨
  ∃ (o : Obj) (its : Array Value) (n : Nat), K.lookup a = some o ∧ o.cls = .type "tuple" ∧ o.data = .seq its n ∧ its.size ≤ sizeLine ∧ Vals xs its.toList
def absV : Value → Option V
 | .none => some .non
 | .bool b => some (.bl b)
 | .int i _ => some (.int i)
 | .str x _ => some (.str x)
 | .bytes b _ => some (.byt b)
 | .float b _ => some (.flt b)
 | .ref a => some (.ref a)
 | .type n => some (.ty n)
 | _ => none
theorem RelV.abs {x : V} {u : Value} (r : RelV x u) : absV u = some x := by
 cases x with
 | non => cases r; rfl
 | bl _ => cases r; rfl
 | int _ => obtain ⟨t, rfl⟩ := r; rfl
 | str _ => obtain ⟨t, rfl⟩ := r; rfl
 | byt _ => obtain ⟨t, rfl⟩ := r; rfl
 | flt _ => obtain ⟨t, rfl⟩ := r; rfl
 | ref _ => cases r; rfl
 | ty _ => cases r; rfl
theorem RelV.inj {x y : V} {u : Value} (r : RelV x u) (q : RelV y u) : x = y := Option.some.inj (r.abs.symm.trans q.abs)
theorem Vals.inj : ∀ {xs ys : List V} {us : List Value}, Vals xs us → Vals ys us → xs = ys
 | _, _, _, .nil, .nil => rfl
 | _, _, _, .cons r t, .cons r' t' => by rw [r.inj r', Vals.inj t t']
section
variable {X : Cx} {pins : List (Addr × Obj)} {σ : St} {H : Hp} {s : Shared} {a : Addr} {xs ys : List V}
theorem SqL.of {K : PySem.W.Frag} (h : H a = some (.lst xs)) : SqL K H a xs := .inl (.inl h)
theorem SqT.of {K : PySem.W.Frag} (h : H a = some (.tup xs)) : SqT K H a xs := .inl (.inl h)
theorem Inv.list (I : Inv X pins σ H s) (h : SqL X.K H a xs) : ∃ its : List Value, Vals xs its ∧ PlainL s.heap a its.toArray ∧ xs.length ≤ sizeLine := by
 rcases h with h | ⟨o, its, n, hk, hc, hd, hs, hz, r⟩
 ·obtain ⟨z, its, n, r, e⟩ := h.ok I.hok
  exact ⟨its, r, ⟨_, n, e, rfl, rfl, rfl⟩, z⟩
 ·refine ⟨its.toList, r, ⟨o, n, I.kIn a o hk, hc, hd, by simpa using hs⟩, ?_⟩
  have e := r.length
  simp only [Array.length_toList] at e
  omega
theorem Inv.tuple (I : Inv X pins σ H s) (h : SqT X.K H a xs) : ∃ its : List Value, Vals xs its ∧ IsTup s.heap a its.toArray ∧ xs.length ≤ sizeLine := by
 rcases h with h | ⟨o, its, n, hk, hc, hs, hz, r⟩
 ·obtain ⟨z, its, r, p⟩ := h.ok I.hok
  exact ⟨its, r, p, z⟩
 ·refine ⟨its.toList, r, ⟨o, I.kIn a o hk, hc, n, by simpa using hs⟩, ?_⟩
  have e := r.length
  simp only [Array.length_toList] at e
  omega
theorem Inv.list_inj (I : Inv X pins σ H s) (h : SqL X.K H a xs) (h' : SqL X.K H a ys) : xs = ys := by
 obtain ⟨its, r, ⟨o, n, e, _, _, d⟩, _⟩ := I.list h
 obtain ⟨its', r', ⟨o', n', e', _, _, d'⟩, _⟩ := I.list h'
 rw [e] at e'; cases e'
 rw [d] at d'
 injection d' with d1 _
 have : its = its' := by simpa using congrArg Array.toList d1
 subst this
 exact r.inj r'
theorem Inv.tuple_inj (I : Inv X pins σ H s) (h : SqT X.K H a xs) (h' : SqT X.K H a ys) : xs = ys := by
 obtain ⟨its, r, ⟨o, e, _, n, d⟩, _⟩ := I.tuple h
 obtain ⟨its', r', ⟨o', e', _, n', d'⟩, _⟩ := I.tuple h'
 rw [e] at e'; cases e'
 rw [d] at d'
 injection d' with d1 _
 have : its = its' := by simpa using congrArg Array.toList d1
 subst this
 exact r.inj r'
end
abbrev Cx.wish (X : Cx) (E : Value → Shared → Prop) : Cx := { X with xe := E }
abbrev Cx.nox (X : Cx) : Cx := X.wish fun _ _ => False
theorem Cx.Ok.wish {X : Cx} (ok : X.Ok) (E : Value → Shared → Prop) : (X.wish E).Ok :=
 ⟨ok.mod, ok.kind, ok.glob, ok.blt, ok.above, ok.inj, ok.has, ok.cab, ok.hd, ok.frames, ok.stk, ok.exf, ok.bs, ok.bsz, ok.noex, ok.exfs, ok.funs, ok.frf⟩
theorem Cx.Ok.unwish {X : Cx} {E : Value → Shared → Prop} (ok : (X.wish E).Ok) : X.Ok :=
 ⟨ok.mod, ok.kind, ok.glob, ok.blt, ok.above, ok.inj, ok.has, ok.cab, ok.hd, ok.frames, ok.stk, ok.exf, ok.bs, ok.bsz, ok.noex, ok.exfs, ok.funs, ok.frf⟩
section
variable {X : Cx} {pins : List (Addr × Obj)} {σ : St} {H : Hp} {s : Shared} {E : Value → Shared → Prop}
theorem Inv.wish (I : Inv X pins σ H s) (E : Value → Shared → Prop) : Inv (X.wish E) pins σ H s := ⟨I.ok.wish E, I.os, I.bare, I.base, I.loc, I.cell, I.free, I.freeC, I.pin, I.hok, I.len⟩
theorem Inv.unwish (I : Inv (X.wish E) pins σ H s) : Inv X pins σ H s := ⟨I.ok.unwish, I.os, I.bare, I.base, I.loc, I.cell, I.free, I.freeC, I.pin, I.hok, I.len⟩
theorem SP.unwish {D : Ends} {f : Flow} {s' : Shared} (h : SP (X.wish E) pins D f s') : SP X pins D f s' := by
 cases f with
 | next => obtain ⟨σ', H', I, q⟩ := h; exact ⟨σ', H', I.unwish, q⟩
 | brk => obtain ⟨σ', H', I, q⟩ := h; exact ⟨σ', H', I.unwish, q⟩
 | cont => obtain ⟨σ', H', I, q⟩ := h; exact ⟨σ', H', I.unwish, q⟩
 | ret u => obtain ⟨v, σ', H', I, r, q⟩ := h; exact ⟨v, σ', H', I.unwish, r, q⟩
theorem PSs.nox {st : List Stmt} {t : TS} (h : PSs X.nox st t) : PSs X st t := fun pins s σ H D I hw =>
 wpAny_mono (h pins s σ H D (I.wish _) hw) (fun _ _ q => q.unwish) fun _ _ z => False.elim z
end
section
variable {X : Cx} {st : Stmt} {rest : List Stmt} {t u : TS} {e : Expr} {te : TE} {pos : Pos}
def tNext : TS := fun D σ H => D.nx σ H
def tSeq (t u : TS) : TS := fun D σ H => t { D with nx := u D } σ H
theorem pss_nil : PSs X [] tNext := fun _ _ σ H _ I h => wpAny_execs_nil ⟨σ, H, I, h⟩
theorem pss_cons (h1 : PS X st t) (h2 : PSs X rest u) : PSs X (st :: rest) (tSeq t u) := by
 intro pins s σ H D I h
 refine wpAny_execs_cons (thn (h1 pins s σ H { D with nx := u D } I h) fun f s1 q => ?_)
 cases f with
 | next =>
  obtain ⟨σ', H', I', q⟩ := q
  exact h2 pins s1 σ' H' D I' q
 | ret v => exact q
 | brk => exact q
 | cont => exact q
theorem pss_one (h1 : PS X st t) : PSs X [st] t := by
 intro pins s σ H D I h
 refine wpAny_execs_cons (thn (h1 pins s σ H D I h) fun f s1 q => ?_)
 cases f with
 | next => exact wpAny_execs_nil q
 | ret v => exact q
 | brk => exact q
 | cont => exact q
theorem Inv.quiet {pins : List (Addr × Obj)} {σ : St} {H : Hp} {s : Shared} (I : Inv X pins σ H s) : interactive X.env = false := by simp [interactive, I.ok.kind]
def tDrop (te : TE) : TS := fun D σ H => te σ H fun _ H1 => D.nx σ H1
theorem ps_expr (he : PE X e te) (hs : swapsWith e none pos.line X.env = pure false := by rfl) : PS X (.Expr e pos) (tDrop te) := by
 intro pins s σ H D I h
 exact wpAny_Expr_any (thn (he pins s σ H _ I h) fun v s1 ⟨x, H1, I1, r1, q1⟩ => ⟨σ, H1, I1, q1⟩) I.quiet hs
def tRet (te : TE) : TS := fun D σ H => te σ H D.rt
theorem ps_ret (he : PE X e te) : PS X (.Return (some e) pos) (tRet te) := by
 intro pins s σ H D I h
 exact wpAny_Return_some (thn (he pins s σ H _ I h) fun v s1 ⟨x, H1, I1, r1, q1⟩ => ⟨x, σ, H1, I1, r1, q1⟩)
def tIfS (c : TT) (t u : TS) : TS := fun D σ H => c σ H fun b H1 => if b = true then t D σ H1 else u D σ H1
theorem ps_if {c : Expr} {a b : List Stmt} {tc : TT} (hc : PT X c tc) (ha : PSs X a t) (hb : PSs X b u) : PS X (.If c a b pos) (tIfS tc t u) := by
 intro pins s σ H D I h
 refine wpAny_If (thn (hc pins s σ H _ I h) fun d s1 ⟨H1, I1, q1⟩ => ?_)
 cases d with
 | true => exact ha pins s1 σ H1 D I1 q1
 | false => exact hb pins s1 σ H1 D I1 q1
def tNever : TS := fun _ _ _ => False
theorem pss_never {sts : List Stmt} : PSs X sts tNever := fun _ _ _ _ _ _ h => h.elim
end
abbrev TG := V → St → Hp → (St → Hp → Prop) → Prop
abbrev TGs := List V → St → Hp → (St → Hp → Prop) → Prop
def PG (X : Cx) (target : Expr) (t : TG) : Prop :=
 ∀ (pins : List (Addr × Obj)) (s : Shared) (σ : St) (H : Hp) (v : V) (u : Value) (Q : St → Hp → Prop), Inv X pins σ H s → RelV v u → t v σ H Q →
  wpAny (model X.prog X.w) X.A (assign target X.env u) (fun _ s' => ∃ σ' H', Inv X pins σ' H' s' ∧ Q σ' H') X.xe s
def PGs (X : Cx) (ts : List Expr) (t : TGs) : Prop :=
 ∀ (pins : List (Addr × Obj)) (s : Shared) (σ : St) (H : Hp) (vs : List V) (us : List Value) (Q : St → Hp → Prop), Inv X pins σ H s → Vals vs us → t vs σ H Q →
  wpAny (model X.prog X.w) X.A (assignInOrder ((assignEach ts X.env).map (·.2)) us) (fun _ s' => ∃ σ' H', Inv X pins σ' H' s' ∧ Q σ' H') X.xe s
abbrev TSet := V → V → V → Hp → (Hp → Prop) → Prop
def PSet (X : Cx) (t : TSet) : Prop :=
 ∀ (pins : List (Addr × Obj)) (s : Shared) (σ : St) (H : Hp) (o i v : V) (ov iv u : Value) (Q : Hp → Prop), Inv X pins σ H s → RelV o ov → RelV i iv → RelV v u → t o i v H Q →
  wpAny (model X.prog X.w) X.A (setItem ov iv u) (fun _ s' => ∃ H', Inv X pins σ H' s' ∧ Q H') X.xe s
abbrev TIp := V → V → Hp → VK → Prop
def PIp (X : Cx) (op : Operator) (t : TIp) : Prop :=
 ∀ (pins : List (Addr × Obj)) (s : Shared) (σ : St) (H : Hp) (x y : V) (v u : Value) (Q : VK), Inv X pins σ H s → RelV x v → RelV y u → t x y H Q →
  wpAny (model X.prog X.w) X.A (inplaceOp op v u) (EP X pins σ Q) X.xe s
section
variable {X : Cx} {pos : Pos}
def gName (i : Nat) : TG := fun v σ H Q => Q (σ.set i (some v)) H
theorem pg_name {i : Nat} {x : Str} (hN : X.N.Nodup) (hi : X.N[i]? = some x) (hx : Loc X.env.scope x) (hf : X.fn x = true ∨ X.env.scope.names.lookup x = some .local := by first | exact .inl rfl | exact .inr rfl | assumption) : PG X (.Name x pos) (gName i) := by
 intro pins s σ H v u Q I r h
 exact wpAny_assign_Name (store_ok I hN hi hx r (fun s' I' => ⟨_, H, I', h⟩) hf)
def gNil : TGs := fun vs σ H Q => vs = [] ∧ Q σ H
def gCons (t : TG) (u : TGs) : TGs := fun vs σ H Q => ∃ v r, vs = v :: r ∧ t v σ H fun σ' H' => u r σ' H' Q
theorem pgs_nil : PGs X [] gNil := by
 intro pins s σ H vs us Q I r h
 obtain ⟨e, h⟩ := h
 subst e
 cases r
 exact assignInOrder_nil ⟨σ, H, I, h⟩
theorem pgs_cons {e : Expr} {es : List Expr} {t : TG} {u : TGs} (h1 : PG X e t) (h2 : PGs X es u)
  (hs : (assignEach (e :: es) X.env).map (·.2) = assign e X.env :: (assignEach es X.env).map (·.2) := by rfl) : PGs X (e :: es) (gCons t u) := by
 intro pins s σ H vs us Q I r h
 obtain ⟨v, vr, e1, h⟩ := h
 subst e1
 cases r with
 | cons r rr =>
  rw [hs]
  refine assignInOrder_cons (thn (h1 pins s σ H _ _ _ I r h) fun _ s1 ⟨σ1, H1, I1, q1⟩ => ?_)
  exact h2 pins s1 σ1 H1 _ _ Q I1 rr q1
def gTup (K : PySem.W.Frag) (n : Nat) (t : TGs) : TG := fun v σ H Q => ∃ a xs, v = .ref a ∧ SqT K H a xs ∧ xs.length = n ∧ t xs σ H Q
theorem pg_tup {es : List Expr} {k : Nat} {t : TGs} {n : Nat} (hc : X.calm = true) (h : PGs X es t)
  (hn : (assignEach es X.env).length = n := by rfl) (hst : (assignEach es X.env).findIdx? (·.1) = none := by rfl) : PG X (.Tuple es k pos) (gTup X.K n t) := by
 intro pins s σ H v u Q I r hw
 obtain ⟨a, xs, e1, hq, hl, hw⟩ := hw
 subst e1
 cases r
 obtain ⟨its, rv, ht, hz⟩ := I.tuple hq
 refine assign_Tuple_tuple (I.ok.hd hc) ht (by simp [hn, ← hl, rv.length]) hst fun h' hx => ?_
 have I1 : Inv X pins σ H { s with heap := h' } := I.kept (t' := s.toks) fun b o e => hx b o (Nat.ne_of_lt (Heap.lt_size e)) e
 exact h pins _ σ H xs _ Q I1 (by simpa using rv) hw
def gSub (to ti : TE) (t : TSet) : TG := fun v σ H Q => to σ H fun o H1 => ti σ H1 fun i H2 => t o i v H2 fun H3 => Q σ H3
theorem pg_sub {o i : Expr} {to ti : TE} {t : TSet} (ho : PE X o to) (hi : PE X i ti) (hs : PSet X t)
  (ha : ∀ v, assign (.Subscript o i pos) X.env v = (do
   let ov ← holding [v] (eval o X.env)
   let iv ← holding [v, ov] (eval i X.env)
   standAt pos
   holding [v, ov, iv] (setItem ov iv v)
   release [v, ov, iv] []) := by intro _; rfl) : PG X (.Subscript o i pos) (gSub to ti t) := by
 intro pins s σ H v u Q I r h
 rw [ha]
 refine wpAny_bind (wpAny_holding (thn (ho pins s σ H _ I h) fun ov s1 ⟨x, H1, I1, r1, q1⟩ => ?_))
 refine wpAny_bind (wpAny_holding (thn (hi pins s1 σ H1 _ I1 q1) fun iv s2 ⟨y, H2, I2, r2, q2⟩ => ?_))
 refine wpAny_bind (wpAny_standAt (wpAny_bind (wpAny_holding (thn (hs pins s2 σ H2 x y v ov iv u _ I2 r1 r2 r q2) fun _ s3 ⟨H3, I3, q3⟩ => ?_))))
 exact wpAny_release ⟨σ, H3, I3, q3⟩
def tAsg (te : TE) (g : TG) : TS := fun D σ H => te σ H fun x H1 => g x σ H1 D.nx
theorem ps_asg {tg e : Expr} {te : TE} {g : TG} (he : PE X e te) (hg : PG X tg g) (hs : swapsWithSole [tg] e pos.line X.env = pure false := by rfl) (hw : swappedStores [tg] e X.env = pure none := by rfl)
  (h1 : (assignEach [tg] X.env).map (·.2) = [assign tg X.env] := by rfl) : PS X (.Assign [tg] e pos) (tAsg te g) := by
 intro pins s σ H D I h
 refine wpAny_Assign_stores (thn (he pins s σ H _ I h) fun v s1 ⟨x, H1, I1, r1, q1⟩ => ?_) hs hw
 rw [h1]
 exact thn (hg pins s1 σ H1 x v _ I1 r1 q1) fun _ s2 q => q
theorem ps_set {i : Nat} {x : Str} {e : Expr} {te : TE} {pos' : Pos} (hN : X.N.Nodup) (hi : X.N[i]? = some x) (hx : Loc X.env.scope x) (he : PE X e te) (hs : swapsWith e (some (.Name x pos')) pos.line X.env = pure false := by rfl) (hf : X.fn x = true ∨ X.env.scope.names.lookup x = some .local := by first | exact .inl rfl | exact .inr rfl | assumption) :
  PS X (.Assign [.Name x pos'] e pos) (tAsg te (gName i)) := by
 intro pins s σ H D I h
 refine wpAny_Assign_Name (thn (he pins s σ H _ I h) fun v s1 ⟨y, H1, I1, r1, q1⟩ => ?_) hs
 exact store_ok I1 hN hi hx r1 (fun s2 I2 => ⟨_, H1, I2, q1⟩) hf
def tAug (i : Nat) (te : TE) (ti : TIp) : TS := fun D σ H => ∃ x, σ[i]? = some (some x) ∧ te σ H fun y H1 => ti x y H1 fun z H2 => D.nx (σ.set i (some z)) H2
theorem ps_aug {i : Nat} {x : Str} {e : Expr} {te : TE} {op : Operator} {ti : TIp} {pos' : Pos} (hN : X.N.Nodup) (hi : X.N[i]? = some x) (hx : Loc X.env.scope x) (he : PE X e te) (ho : PIp X op ti) (hf : X.fn x = true ∨ X.env.scope.names.lookup x = some .local := by first | exact .inl rfl | exact .inr rfl | assumption) :
  PS X (.AugAssign (.Name x pos') op e pos) (tAug i te ti) := by
 intro pins s σ H D I h
 obtain ⟨v, e1, h⟩ := h
 obtain ⟨m, hn, hl⟩ := I.loc
 have vis : Vis X.env.scope x := by rcases hx with k | k; exact .inl k; exact .inr (.inl k)
 obtain ⟨u, r, l⟩ := hl i x v hi e1 vis
 refine wpAny_AugAssign_Name ?_
 have go : wpAny (model X.prog X.w) X.A (eval e X.env) (fun w s₂ => wpAny (model X.prog X.w) X.A (inplaceOp op u w) (fun r s₃ => wpAny (model X.prog X.w) X.A (storeName X.env x r) (fun _ => SP X pins D .next) X.xe s₃) X.xe s₂) X.xe s := by
  refine thn (he pins s σ H _ I h) fun w s1 ⟨y, H1, I1, r1, q1⟩ => ?_
  refine thn (ho pins s1 σ H1 v y u w _ I1 r r1 q1) fun z s2 ⟨zv, H2, I2, r2, q2⟩ => ?_
  exact store_ok I2 hN hi hx r2 (fun s3 I3 => ⟨_, H2, I3, q2⟩) hf
 rcases l with ⟨hk, hm⟩ | ⟨hk, c, hc, hcell⟩
 ·exact wpAny_loadName_local I.ok.kind hk hn hm go
 ·rcases hk with hk | hk
  ·exact wpAny_loadName_cell I.ok.kind hk hc hcell go
  ·rcases hx with k | k
   ·have : X.env.scope.names.lookup x = some .free := hk
    rw [k] at this; cases this
   ·have : X.env.scope.names.lookup x = some .free := hk
    rw [k] at this; cases this
def ipI (f : Int → Int → Int) : TIp := fun x y H Q => ∃ i j, x = .int i ∧ y = .int j ∧ Q (.int (f i j)) H
theorem ip_add : PIp X .Add (ipI fun i j => i + j) := by
 intro pins s σ H x y v u Q I r1 r2 h
 obtain ⟨i, j, e1, e2, q⟩ := h
 subst e1; subst e2
 obtain ⟨t, rfl⟩ := r1
 obtain ⟨t', rfl⟩ := r2
 exact iadd_int ⟨.int _, H, I.tok _, ⟨_, rfl⟩, q⟩
theorem ip_sub : PIp X .Sub (ipI fun i j => i - j) := by
 intro pins s σ H x y v u Q I r1 r2 h
 obtain ⟨i, j, e1, e2, q⟩ := h
 subst e1; subst e2
 obtain ⟨t, rfl⟩ := r1
 obtain ⟨t', rfl⟩ := r2
 exact isub_int ⟨.int _, H, I.tok _, ⟨_, rfl⟩, q⟩
end
section
variable {X : Cx} {pos : Pos}
def tWhile (c : TT) (tb : TS) : TS := fun D σ H => ∃ W : Nat → St → Hp → Prop, (∃ m, W m σ H) ∧ ∀ m σ H, W m σ H →
 c σ H fun b H1 => if b = true then ∃ N : St → Hp → Prop, (∀ σ' H', N σ' H' → ∃ m', m' < m ∧ W m' σ' H') ∧ tb { D with nx := N, ct := N, bk := D.nx } σ H1 else D.nx σ H1
theorem ps_while {c : Expr} {body : List Stmt} {tc : TT} {tb : TS} (hp : PassesOwn (model X.prog X.w) X.A X.env X.xe) (hc : PT X c tc) (hb : PSs X body tb) : PS X (.While c body [] pos) (tWhile tc tb) := by
 intro pins s σ H D I h
 obtain ⟨W, ⟨m0, w0⟩, turn⟩ := h
 refine wpAny_While (codeAny_whileLoop (fun n s' => ∃ σ' H', Inv X pins σ' H' s' ∧ W n σ' H') ?_ m0 ⟨σ, H, I, w0⟩)
 rintro n s1 ⟨σ1, H1, I1, w1⟩
 refine wpAny_passesOwn hp (thn (hc pins s1 σ1 H1 _ I1 (turn n σ1 H1 w1)) fun b s2 ⟨H2, I2, q2⟩ => ?_)
 cases b with
 | true =>
  obtain ⟨N, hN, q2⟩ := q2
  rw [if_pos rfl]
  refine wpAny_passesOwn hp (thn (hb pins s2 σ1 H2 _ I2 q2) fun f s3 q3 => ?_)
  cases f with
  | next =>
   obtain ⟨σ3, H3, I3, n3⟩ := q3
   obtain ⟨m', hm, w3⟩ := hN σ3 H3 n3
   exact ⟨m', hm, σ3, H3, I3, w3⟩
  | cont =>
   obtain ⟨σ3, H3, I3, n3⟩ := q3
   obtain ⟨m', hm, w3⟩ := hN σ3 H3 n3
   exact ⟨m', hm, σ3, H3, I3, w3⟩
  | brk => exact q3
  | ret v => exact q3
 | false =>
  rw [if_neg Bool.false_ne_true]
  exact wpAny_execs_nil ⟨σ1, H2, I2, q2⟩
end
structure It where
 go : Nat → Hp → Prop
 yld : Nat → Hp → V → Hp → Prop
 stop : Nat → Hp → Prop
def FpOk (X : Cx) (pins : List (Addr × Obj)) (H : Hp) (b : Addr) : Prop :=
 H b = none ∧ b ≠ X.env.locals ∧ b ∉ X.fs ∧ (b ∈ X.ex ∨ X.s_0.heap.objs.size ≤ b) ∧ (∀ x c, X.env.cells.lookup x = some c → c ≠ b) ∧ ∀ p ∈ X.pn ++ pins, p.1 ≠ b
theorem Inv.fpOk {X : Cx} {pins : List (Addr × Obj)} {σ : St} {H H' : Hp} {s : Shared} {b : Addr} (I : Inv X pins σ H s) (hb : s.heap.objs.size ≤ b) (hn : H' b = none) : FpOk X pins H' b := by
 refine ⟨hn, Nat.ne_of_gt (Nat.lt_of_lt_of_le I.lt hb), I.nofs hb, .inr (Nat.le_trans I.sz hb), fun x c e z => ?_, fun p hp z => ?_⟩
 ·obtain ⟨v, q⟩ := I.cell x c e
  exact absurd (Nat.lt_of_lt_of_le q.lt (by rw [z]; exact hb)) (Nat.lt_irrefl _)
 ·exact absurd (Nat.lt_of_lt_of_le (Heap.lt_size (I.pin p hp).1) (by rw [z]; exact hb)) (Nat.lt_irrefl _)
structure Turn (P : Program) (w : World) (K : PySem.W.Frag) (tg : Expr) (J : It) (fp : List Addr) (it : Addr) (tn : Nat → Heap → Prop) : Prop where
 mem : it ∈ fp
 obj : ∀ i h, tn i h → ∀ b ∈ fp, ∃ o, h.get? b = some o ∧ ∀ v, o.data ≠ .cell v
 keep : ∀ i h h', tn i h → (∀ b ∈ fp, ∀ o, h.get? b = some o → h'.get? b = some o) → tn i h'
 item : ∀ (X : Cx), X.prog = P → X.w = w → X.K = K → X.calm = true → ∀ (i : Nat) (pins : List (Addr × Obj)) (s : Shared) (σ : St) (H : Hp) (E : Value → Shared → Prop), Inv X pins σ H s → (∀ b ∈ fp, FpOk X pins H b) → tn i s.heap → J.go i H →
  wpAny (model P w) X.A (pyNext (.ref it)) (fun r s1 => ∃ u, r = some u ∧
   wpAny (model P w) X.A (letOwnedTupleGo tg (.ref it) u) (fun _ s2 => ∃ x H', Inv X pins σ H' s2 ∧ RelV x u ∧ J.yld i H x H' ∧ tn (i + 1) s2.heap ∧ ∀ b ∈ fp, H' b = none) E s1) E s
 done : ∀ (X : Cx), X.prog = P → X.w = w → X.K = K → X.calm = true → ∀ (i : Nat) (pins : List (Addr × Obj)) (s : Shared) (σ : St) (H : Hp) (E : Value → Shared → Prop), Inv X pins σ H s → (∀ b ∈ fp, FpOk X pins H b) → tn i s.heap → J.stop i H →
  wpAny (model P w) X.A (pyNext (.ref it)) (fun r s1 => r = none ∧ Inv X pins σ H s1) E s
 self : ∀ (A : Around) (i : Nat) (s : Shared) (Q : Value → Shared → Prop) (E : Value → Shared → Prop), tn i s.heap → Q (.ref it) s → wpAny (model P w) A (pyIter (.ref it)) Q E s
abbrev TI := St → Hp → (It → Hp → Prop) → Prop
def PIE (X : Cx) (pins : List (Addr × Obj)) (σ : St) (tg : Expr) (R : It → Hp → Prop) (itv : Value) (s2 : Shared) : Prop :=
 ∃ (it : Addr) (fp : List Addr) (tn : Nat → Heap → Prop) (J : It) (H' : Hp), itv = .ref it ∧ Inv X pins σ H' s2 ∧ Turn X.prog X.w X.K tg J fp it tn ∧ tn 0 s2.heap ∧ (∀ b ∈ fp, FpOk X pins H' b) ∧ R J H'
def PI (X : Cx) (tg iter : Expr) (wi : TI) : Prop :=
 ∀ (pins : List (Addr × Obj)) (s : Shared) (σ : St) (H : Hp) (R : It → Hp → Prop), Inv X pins σ H s → wi σ H R →
  wpAny (model X.prog X.w) X.A (eval iter X.env) (fun v s1 => wpAny (model X.prog X.w) X.A (pyIter v) (PIE X pins σ tg R) X.xe s1) X.xe s
theorem go_of {M : Model} {A : Around} {E : Value → Shared → Prop} {s : Shared} {tg : Expr} {it : Addr} {u : Value} {o : Obj} {n : String} {vs : Array Value} {Q : Unit → Shared → Prop} (ho : s.heap.get? it = some o) (hc : o.cls = .type n) (hd : o.data = .fields vs)
  (hn : ["enumerate", "zip", "dict_itemiterator", "dict_reverseitemiterator", "odict_iterator", "itertools.zip_longest", "itertools.pairwise"].contains n = false) (hQ : Q () s) : wpAny M A (letOwnedTupleGo tg (.ref it) u) Q E s := by
 unfold letOwnedTupleGo
 cases tg <;> first
  | exact wpAny_pure hQ
  | (cases u <;> first
    | exact wpAny_pure hQ
    | (refine wpAny_bind (wpAny_load ho ?_)
       rw [hc, hd]
       show wpAny M A (if (["enumerate", "zip", "dict_itemiterator", "dict_reverseitemiterator", "odict_iterator", "itertools.zip_longest", "itertools.pairwise"].contains n && vs[0]? == some (rawInt _)) = true then _ else _) Q E s
       rw [if_neg (by intro h; rw [hn, Bool.false_and] at h; cases h)]
       exact wpAny_pure hQ))
def Itl (K : PySem.W.Frag) (a : Addr) : It :=
 ⟨fun i H => ∃ xs x, SqL K H a xs ∧ xs[i]? = some x, fun i H x H' => H' = H ∧ ∀ xs, SqL K H a xs → xs[i]? = some x, fun i H => ∃ xs, SqL K H a xs ∧ xs.length ≤ i⟩
def Itt (K : PySem.W.Frag) (a : Addr) : It :=
 ⟨fun i H => ∃ xs x, SqT K H a xs ∧ xs[i]? = some x, fun i H x H' => H' = H ∧ ∀ xs, SqT K H a xs → xs[i]? = some x, fun i H => ∃ xs, SqT K H a xs ∧ xs.length ≤ i⟩
def Itr (lo : Int) (n : Nat) : It := ⟨fun i _ => i < n, fun i H x H' => H' = H ∧ x = .int (lo + i), fun i _ => n ≤ i⟩
theorem turn_list {P : Program} {w : World} {K : PySem.W.Frag} {tg : Expr} (a it : Addr) : Turn P w K tg (Itl K a) [it] it (fun i h => h.IsListIter it a i) where
 mem := by simp
 obj := fun i h st b hb => by
  have e : b = it := by simpa using hb
  subst e
  obtain ⟨o, e, c, d⟩ := st
  exact ⟨o, e, fun v z => by rw [d] at z; cases z⟩
 keep := fun i h h' st k => st.at fun o e => k it (by simp) o e
 item := by
  intro X hP hw hK hc i pins s σ H E I hf st hg
  subst hP hw hK
  obtain ⟨xs, x, hq, hx⟩ := hg
  obtain ⟨its, rv, p, hz⟩ := I.list hq
  obtain ⟨u, hu, ru⟩ := rv.get hx
  obtain ⟨f0, f1, f2, f3, f4, f5⟩ := hf it (by simp)
  refine wpAny_pyNext_list_item st p.isList (x := u) (by simpa using hu) fun h' st' sb => ?_
  have I1 : Inv X pins σ H { s with heap := h' } := I.turned (t' := s.toks) (fun b o hb e => (sb.2 b hb).trans e) f0 f1 f3 f4 f5
  obtain ⟨o, e, c, d⟩ := id st'
  exact ⟨u, rfl, go_of (s := { s with heap := h' }) e c d (by decide) ⟨x, H, I1, ru, ⟨rfl, fun ys hy => by rw [I.list_inj hy hq]; exact hx⟩, st', fun b hb => (hf b hb).1⟩⟩
 done := by
  intro X hP hw hK hc i pins s σ H E I hf st hg
  subst hP hw hK
  obtain ⟨xs, hq, hx⟩ := hg
  obtain ⟨its, rv, p, hz⟩ := I.list hq
  obtain ⟨f0, f1, f2, f3, f4, f5⟩ := hf it (by simp)
  have hl := rv.length
  exact wpAny_pyNext_list_end (I.ok.hd hc) st p.isList (by simp; omega) fun h' eb => ⟨rfl, I.turned (t' := s.toks) (fun b o hb e => eb b o hb e) f0 f1 f3 f4 f5⟩
 self := fun _ _ _ _ _ st h => wpAny_pyIter_listiter st h
theorem turn_tuple {P : Program} {w : World} {K : PySem.W.Frag} {tg : Expr} (a it : Addr) : Turn P w K tg (Itt K a) [it] it (fun i h => h.IsTupleIter it a i) where
 mem := by simp
 obj := fun i h st b hb => by
  have e : b = it := by simpa using hb
  subst e
  obtain ⟨o, e, c, d⟩ := st
  exact ⟨o, e, fun v z => by rw [d] at z; cases z⟩
 keep := fun i h h' st k => st.at fun o e => k it (by simp) o e
 item := by
  intro X hP hw hK hc i pins s σ H E I hf st hg
  subst hP hw hK
  obtain ⟨xs, x, hq, hx⟩ := hg
  obtain ⟨its, rv, p, hz⟩ := I.tuple hq
  obtain ⟨u, hu, ru⟩ := rv.get hx
  obtain ⟨f0, f1, f2, f3, f4, f5⟩ := hf it (by simp)
  refine wpAny_pyNext_tuple_item st (show s.heap.IsTuple a its.toArray from p) (x := u) (by simpa using hu) fun h' st' sb => ?_
  have I1 : Inv X pins σ H { s with heap := h' } := I.turned (t' := s.toks) (fun b o hb e => (sb.2 b hb).trans e) f0 f1 f3 f4 f5
  obtain ⟨o, e, c, d⟩ := id st'
  exact ⟨u, rfl, go_of (s := { s with heap := h' }) e c d (by decide) ⟨x, H, I1, ru, ⟨rfl, fun ys hy => by rw [I.tuple_inj hy hq]; exact hx⟩, st', fun b hb => (hf b hb).1⟩⟩
 done := by
  intro X hP hw hK hc i pins s σ H E I hf st hg
  subst hP hw hK
  obtain ⟨xs, hq, hx⟩ := hg
  obtain ⟨its, rv, p, hz⟩ := I.tuple hq
  obtain ⟨f0, f1, f2, f3, f4, f5⟩ := hf it (by simp)
  have hl := rv.length
  exact wpAny_pyNext_tuple_end (I.ok.hd hc) st (show s.heap.IsTuple a its.toArray from p) (by simp; omega) fun h' eb => ⟨rfl, I.turned (t' := s.toks) (fun b o hb e => eb b o hb e) f0 f1 f3 f4 f5⟩
 self := fun _ _ _ _ _ st h => wpAny_pyIter_tupleiter st h
theorem turn_range {P : Program} {w : World} {K : PySem.W.Frag} {tg : Expr} (it : Addr) (lo : Int) (n : Nat) : Turn P w K tg (Itr lo n) [it] it (fun i h => IsRangeIter h it (lo + (i : Nat) * 1) ((n : Int) - (i : Nat)) 1) where
 mem := by simp
 obj := fun i h st b hb => by
  have e : b = it := by simpa using hb
  subst e
  exact ⟨_, st, fun v z => by
   have z' : Data.fields _ = Data.cell v := z
   cases z'⟩
 keep := fun i h h' st k => k it (by simp) _ st
 item := by
  intro X hP hw hK hc i pins s σ H E I hf st hg
  subst hP hw hK
  obtain ⟨f0, f1, f2, f3, f4, f5⟩ := hf it (by simp)
  have W := Walks.range (prog := X.prog) (w := X.w) (I.ok.hd hc) it lo 1 n
  refine W.item i s _ _ hg st fun v h' tk hv st' kk => ?_
  obtain ⟨t, rfl⟩ := hv
  have I1 : Inv X pins σ H { s with heap := h', toks := tk } := I.turned (fun b o hb e => kk b o (by simpa using hb) e) f0 f1 f3 f4 f5
  refine ⟨_, rfl, go_of (s := { s with heap := h', toks := tk }) (n := "range_iterator") st' rfl rfl (by decide) ⟨.int (lo + i), H, I1, ⟨t, ?_⟩, ⟨rfl, rfl⟩, st', fun b hb => (hf b hb).1⟩⟩
  rw [Int.mul_one]
 done := by
  intro X hP hw hK hc i pins s σ H E I hf st hg
  subst hP hw hK
  obtain ⟨f0, f1, f2, f3, f4, f5⟩ := hf it (by simp)
  exact wpAny_pyNext_range_end (I.ok.hd hc) st (by have : n ≤ i := hg; omega) fun h' eb => ⟨rfl, I.turned (t' := s.toks) (fun b o hb e => eb b o hb e) f0 f1 f3 f4 f5⟩
 self := fun _ _ _ _ _ st h => wpAny_pyIter_rangeiter st h
end L2
namespace L2
open PySem PySem.Spec PyProof.Rows
section
variable {X : Cx} {tg : Expr}
def iList (K : PySem.W.Frag) (tl : TE) : TI := fun σ H R => tl σ H fun x H1 => ∃ a, x = .ref a ∧ (∃ xs, SqL K H1 a xs) ∧ R (Itl K a) H1
def iTup (K : PySem.W.Frag) (tl : TE) : TI := fun σ H R => tl σ H fun x H1 => ∃ a, x = .ref a ∧ (∃ xs, SqT K H1 a xs) ∧ R (Itt K a) H1
theorem pi_list {l : Expr} {tl : TE} (hl : PE X l tl) : PI X tg l (iList X.K tl) := by
 intro pins s σ H R I h
 refine thn (hl pins s σ H _ I h) fun v s1 ⟨x, H1, I1, r1, q1⟩ => ?_
 obtain ⟨a, e, ⟨xs, hq⟩, q⟩ := q1
 subst e
 cases r1
 obtain ⟨its, rv, p, hz⟩ := I1.list hq
 refine wpAny_pyIter_list p.isList ?_
 refine ⟨s1.heap.objs.size, [s1.heap.objs.size], _, _, H1, rfl, I1.kept (t' := s1.toks) fun b o e => Heap.get?_push_of_some _ e, turn_list a _, ⟨_, Heap.get?_push_size _ rfl, rfl, rfl⟩, fun b hb => ?_, q⟩
 have e : b = s1.heap.objs.size := by simpa using hb
 subst e
 exact I1.fpOk (Nat.le_refl _) (I1.hok.fresh (Nat.le_refl _))
theorem pi_tup {l : Expr} {tl : TE} (hl : PE X l tl) : PI X tg l (iTup X.K tl) := by
 intro pins s σ H R I h
 refine thn (hl pins s σ H _ I h) fun v s1 ⟨x, H1, I1, r1, q1⟩ => ?_
 obtain ⟨a, e, ⟨xs, hq⟩, q⟩ := q1
 subst e
 cases r1
 obtain ⟨its, rv, p, hz⟩ := I1.tuple hq
 refine wpAny_pyIter_tuple (show s1.heap.IsTuple a its.toArray from p) ?_
 refine ⟨s1.heap.objs.size, [s1.heap.objs.size], _, _, H1, rfl, I1.kept (t' := s1.toks) fun b o e => Heap.get?_push_of_some _ e, turn_tuple a _, ⟨_, Heap.get?_push_size _ rfl, rfl, rfl⟩, fun b hb => ?_, q⟩
 have e : b = s1.heap.objs.size := by simpa using hb
 subst e
 exact I1.fpOk (Nat.le_refl _) (I1.hok.fresh (Nat.le_refl _))
theorem range_it {pins : List (Addr × Obj)} {σ : St} {H : Hp} {s : Shared} {R : It → Hp → Prop} {E : Value → Shared → Prop} {lo hi : Int} {t u v : Tok} {tk : Nat} (I : Inv X pins σ H s) (h1 : -(2 ^ 62) ≤ lo) (h2 : lo < 2 ^ 62) (h3 : -(2 ^ 62) ≤ hi) (h4 : hi < 2 ^ 62)
  (q : R (Itr lo (hi - lo).toNat) H) : wpAny (model X.prog X.w) X.A (pyIter (.ref s.heap.objs.size)) (PIE X pins σ tg R) E { s with heap := s.heap.push { cls := .type "range", data := .fields #[.int lo t, .int hi u, .int 1 v] }, toks := tk } := by
 refine wpAny_pyIter_range (IsRange.new ..) (small_one h1 h2 h3 h4) ?_
 have I1 : Inv X pins σ H { s with heap := s.heap.push { cls := .type "range", data := .fields #[.int lo t, .int hi u, .int 1 v] }, toks := tk } := I.kept fun b o e => Heap.get?_push_of_some _ e
 refine ⟨(s.heap.push { cls := .type "range", data := .fields #[.int lo t, .int hi u, .int 1 v] }).objs.size, [(s.heap.push { cls := .type "range", data := .fields #[.int lo t, .int hi u, .int 1 v] }).objs.size], _, _, H, rfl,
  I1.kept (t' := tk) fun b o e => Heap.get?_push_of_some _ e, turn_range _ lo (hi - lo).toNat, ?_, fun b hb => ?_, q⟩
 ·have e1 : lo + ((0 : Nat) : Int) * 1 = lo := by simp
  have e2 : (((hi - lo).toNat : Nat) : Int) - ((0 : Nat) : Int) = Builtin.Range.rangeSize lo hi 1 := by rw [rangeSize_one]; split <;> omega
  show IsRangeIter _ _ (lo + ((0 : Nat) : Int) * 1) ((((hi - lo).toNat : Nat) : Int) - ((0 : Nat) : Int)) 1
  rw [e1, e2]
  exact Heap.get?_push_size _ rfl
 ·have e : b = (s.heap.push { cls := .type "range", data := .fields #[.int lo t, .int hi u, .int 1 v] }).objs.size := by simpa using hb
  subst e
  exact I1.fpOk (Nat.le_refl _) (I1.hok.fresh (Nat.le_refl _))
def iRng1 (ta : TA) : TI := fun σ H R => ta σ H fun vs H1 => ∃ j : Int, vs = [.int j] ∧ -(2 ^ 62) ≤ j ∧ j < 2 ^ 62 ∧ R (Itr 0 j.toNat) H1
def iRng2 (ta : TA) : TI := fun σ H R => ta σ H fun vs H1 => ∃ i j : Int, vs = [.int i, .int j] ∧ (-(2 ^ 62) ≤ i ∧ i < 2 ^ 62 ∧ -(2 ^ 62) ≤ j ∧ j < 2 ^ 62) ∧ R (Itr i (j - i).toNat) H1
theorem pi_range1 {a : Expr} {ta : TA} {p pos : Pos} (hg : Gl X "range") (hm : X.mg "range" = none) (ha : PA X [a] ta) (hs : starEach [a] X.env = [(false, eval a X.env)] := by rfl) : PI X tg (.Call (.Name "range" p) [a] [] pos) (iRng1 ta) := by
 intro pins s σ H R I h
 refine Call_ (ld_blt I hg hm boot_range (PyProof.Rows.callWith_type1 (thn (ha pos pins s σ H _ I h) fun us s1 ⟨vs, H1, I1, r1, q1⟩ => ?_) hs rfl))
 obtain ⟨j, e, q1, q2, q⟩ := q1
 subst e
 cases r1 with
 | cons r rr =>
  cases rr
  obtain ⟨t, rfl⟩ := r
  exact call_range_1 (range_it I1 (by omega) (by omega) q1 q2 (by simpa using q))
theorem pi_range2 {a b : Expr} {ta : TA} {p pos : Pos} (hg : Gl X "range") (hm : X.mg "range" = none) (ha : PA X [a, b] ta) (hs : starEach [a, b] X.env = [(false, eval a X.env), (false, eval b X.env)] := by rfl) (hs2 : starEach [b] X.env = [(false, eval b X.env)] := by rfl) :
  PI X tg (.Call (.Name "range" p) [a, b] [] pos) (iRng2 ta) := by
 intro pins s σ H R I h
 refine Call_ (ld_blt I hg hm boot_range (PyProof.Rows.callWith_type1 (thn (ha pos pins s σ H _ I h) fun us s1 ⟨vs, H1, I1, r1, q1⟩ => ?_) (by rw [hs, hs2]) (by rw [hs2]; rfl)))
 obtain ⟨i, j, e, ⟨q1, q2, q3, q4⟩, q⟩ := q1
 subst e
 cases r1 with
 | cons r rr =>
  cases rr with
  | cons r' rr =>
   cases rr
   obtain ⟨t, rfl⟩ := r
   obtain ⟨t', rfl⟩ := r'
   exact call_range_2 (range_it I1 q1 q2 q3 q4 q)
def tFor (wi : TI) (g : TG) (tb : TS) : TS := fun D σ H => wi σ H fun J H1 => ∃ W : Nat → Nat → St → Hp → Prop, (∃ m, W 0 m σ H1) ∧ ∀ i m σ H, W i m σ H →
 (J.stop i H ∧ D.nx σ H) ∨ (J.go i H ∧ ∃ N : St → Hp → Prop, (∀ σ' H', N σ' H' → ∃ m', m' < m ∧ W (i + 1) m' σ' H') ∧ ∀ x H', J.yld i H x H' → g x σ H' fun σ2 H2 => tb { D with nx := N, ct := N, bk := D.nx } σ2 H2)
def pinsAt (fp : List Addr) (h : Heap) : List (Addr × Obj) := fp.filterMap fun b => (h.get? b).map fun o => (b, o)
theorem mem_pinsAt {fp : List Addr} {h : Heap} {b : Addr} {o : Obj} (hb : b ∈ fp) (e : h.get? b = some o) : (b, o) ∈ pinsAt fp h := List.mem_filterMap.mpr ⟨b, hb, by rw [e]; rfl⟩
theorem of_pinsAt {fp : List Addr} {h : Heap} {p : Addr × Obj} (hp : p ∈ pinsAt fp h) : p.1 ∈ fp ∧ h.get? p.1 = some p.2 := by
 obtain ⟨b, hb, e⟩ := List.mem_filterMap.mp hp
 cases q : h.get? b with
 | none => rw [q] at e; cases e
 | some o =>
  rw [q] at e
  have e' : (b, o) = p := Option.some.inj e
  subst e'
  exact ⟨hb, q⟩
theorem Inv.pinned {pins : List (Addr × Obj)} {σ : St} {H : Hp} {s : Shared} {fp : List Addr} (I : Inv X pins σ H s) (hf : ∀ b ∈ fp, FpOk X pins H b) (ho : ∀ b ∈ fp, ∃ o, s.heap.get? b = some o ∧ ∀ v, o.data ≠ .cell v) : Inv X (pins ++ pinsAt fp s.heap) σ H s :=
 I.pins_of fun p hp => (List.mem_append.mp hp).elim (fun z => I.pin p (List.mem_append_right _ z)) fun z => by
  obtain ⟨hb, e⟩ := of_pinsAt z
  obtain ⟨f0, f1, f2, _⟩ := hf p.1 hb
  obtain ⟨o, e', d⟩ := ho p.1 hb
  rw [e] at e'; cases e'
  exact ⟨e, f0, f1, f2, d⟩
theorem Inv.unpinned {pins pl : List (Addr × Obj)} {σ : St} {H : Hp} {s : Shared} (I : Inv X (pins ++ pl) σ H s) : Inv X pins σ H s := I.pins_of fun p hp => I.pin p (List.mem_append_right _ (List.mem_append_left _ hp))
theorem ps_for {iter : Expr} {body : List Stmt} {wi : TI} {g : TG} {tb : TS} {pos : Pos} (hp : PassesOwn (model X.prog X.w) X.A X.env X.xe) (hc : X.calm = true) (hi : PI X tg iter wi) (hg : PG X tg g) (hb : PSs X body tb)
  (hs : ∀ x, foldedSetIterable iter X.env x = pure x := by intro _; rfl) : PS X (.For tg iter body [] pos) (tFor wi g tb) := by
 intro pins s σ H D I h
 refine wpAny_For (thn (hi pins s σ H _ I h) fun v s1 h1 => thn h1 fun itv s2 h2 => ?_) hs
 obtain ⟨it, fp, tn, J, H2, e, I2, T, st2, f2, W, ⟨m0, w0⟩, turn⟩ := h2
 subst e
 have stat : ∀ {H' : Hp}, (∀ b ∈ fp, H' b = none) → ∀ b ∈ fp, FpOk X pins H' b := fun hn b hb => ⟨hn b hb, (f2 b hb).2⟩
 refine codeAny_forLoop_any (fun n s' => ∃ i σ' H', Inv X pins σ' H' s' ∧ tn i s'.heap ∧ (∀ b ∈ fp, H' b = none) ∧ W i n σ' H') ?_ m0 ⟨0, σ, H2, I2, st2, fun b hb => (f2 b hb).1, w0⟩
 rintro n s3 ⟨i, σ3, H3, I3, st3, fr3, w3⟩
 rcases turn i n σ3 H3 w3 with ⟨stop, qn⟩ | ⟨go, N, hN, step⟩
 ·refine wpAny_passesOwn hp (thn (T.done X rfl rfl rfl hc i pins s3 σ3 H3 X.xe I3 (stat fr3) st3 stop) fun r s4 ⟨hr, I4⟩ => ?_)
  subst hr
  exact wpAny_execs_nil ⟨σ3, H3, I4, qn⟩
 ·refine wpAny_passesOwn hp (thn (T.item X rfl rfl rfl hc i pins s3 σ3 H3 X.xe I3 (stat fr3) st3 go) fun r s4 ⟨u, hr, h4⟩ => ?_)
  subst hr
  refine wpAny_passesOwn hp (thn h4 fun _ s5 ⟨x, H5, I5, r5, y5, st5, fr5⟩ => ?_)
  have I5' := I5.pinned (stat fr5) (T.obj _ _ st5)
  refine wpAny_passesOwn hp (thn (hg _ s5 σ3 H5 x u _ I5' r5 (step x H5 y5)) fun _ s6 ⟨σ6, H6, I6, q6⟩ => ?_)
  refine wpAny_passesOwn hp (thn (hb _ s6 σ6 H6 _ I6 q6) fun f s7 q7 => ?_)
  have again : ∀ {σ7 : St} {H7 : Hp}, Inv X (pins ++ pinsAt fp s5.heap) σ7 H7 s7 → N σ7 H7 → ∃ m, m < n ∧ ∃ i σ' H', Inv X pins σ' H' s7 ∧ tn i s7.heap ∧ (∀ b ∈ fp, H' b = none) ∧ W i m σ' H' := fun {σ7 H7} I7 n7 => by
   obtain ⟨m', hm, w7⟩ := hN σ7 H7 n7
   refine ⟨m', hm, i + 1, σ7, H7, I7.unpinned, T.keep _ _ _ st5 fun b hb o e => (I7.pin (b, o) (List.mem_append_right _ (List.mem_append_right _ (mem_pinsAt hb e)))).1, fun b hb => ?_, w7⟩
   obtain ⟨o, e, d⟩ := T.obj _ _ st5 b hb
   exact (I7.pin (b, o) (List.mem_append_right _ (List.mem_append_right _ (mem_pinsAt hb e)))).2.1
  cases f with
  | next => obtain ⟨σ7, H7, I7, n7⟩ := q7; exact again I7 n7
  | cont => obtain ⟨σ7, H7, I7, n7⟩ := q7; exact again I7 n7
  | brk => obtain ⟨σ7, H7, I7, q7⟩ := q7; exact ⟨σ7, H7, I7.unpinned, q7⟩
  | ret v => obtain ⟨x7, σ7, H7, I7, r7, q7⟩ := q7; exact ⟨x7, σ7, H7, I7.unpinned, r7, q7⟩
end
theorem for_list {K : PySem.W.Frag} {a : Addr} {xs : List V} {g : TG} {tb : TS} {D : Ends} {σ : St} {H : Hp} (Pv : Nat → St → Hp → Prop) (h0 : Pv 0 σ H) (hl : ∀ i σ H, i ≤ xs.length → Pv i σ H → SqL K H a xs)
  (hs : ∀ i x σ H, xs[i]? = some x → Pv i σ H → g x σ H fun σ2 H2 => tb { D with nx := Pv (i + 1), ct := Pv (i + 1), bk := D.nx } σ2 H2) (hd : ∀ σ H, Pv xs.length σ H → D.nx σ H) :
  ∃ W : Nat → Nat → St → Hp → Prop, (∃ m, W 0 m σ H) ∧ ∀ i m σ H, W i m σ H →
   ((Itl K a).stop i H ∧ D.nx σ H) ∨ ((Itl K a).go i H ∧ ∃ N : St → Hp → Prop, (∀ σ' H', N σ' H' → ∃ m', m' < m ∧ W (i + 1) m' σ' H') ∧ ∀ x H', (Itl K a).yld i H x H' → g x σ H' fun σ2 H2 => tb { D with nx := N, ct := N, bk := D.nx } σ2 H2) := by
 refine ⟨fun i m σ H => m = xs.length - i ∧ i ≤ xs.length ∧ Pv i σ H, ⟨xs.length, by simp, Nat.zero_le _, h0⟩, ?_⟩
 rintro i m σ H ⟨rfl, hi, p⟩
 have q := hl i σ H hi p
 by_cases hlt : i < xs.length
 ·refine .inr ⟨⟨xs, xs[i], q, by simp [hlt]⟩, Pv (i + 1), fun σ' H' p' => ⟨xs.length - (i + 1), by omega, rfl, hlt, p'⟩, fun x H' y => ?_⟩
  obtain ⟨e, y⟩ := y
  subst e
  exact hs i x σ _ (y xs q) p
 ·have e : i = xs.length := by omega
  subst e
  exact .inl ⟨⟨xs, q, Nat.le_refl _⟩, hd σ H p⟩
theorem for_range {lo : Int} {n : Nat} {g : TG} {tb : TS} {D : Ends} {σ : St} {H : Hp} (Pv : Nat → St → Hp → Prop) (h0 : Pv 0 σ H)
  (hs : ∀ i σ H, i < n → Pv i σ H → g (.int (lo + i)) σ H fun σ2 H2 => tb { D with nx := Pv (i + 1), ct := Pv (i + 1), bk := D.nx } σ2 H2) (hd : ∀ σ H, Pv n σ H → D.nx σ H) :
  ∃ W : Nat → Nat → St → Hp → Prop, (∃ m, W 0 m σ H) ∧ ∀ i m σ H, W i m σ H →
   ((Itr lo n).stop i H ∧ D.nx σ H) ∨ ((Itr lo n).go i H ∧ ∃ N : St → Hp → Prop, (∀ σ' H', N σ' H' → ∃ m', m' < m ∧ W (i + 1) m' σ' H') ∧ ∀ x H', (Itr lo n).yld i H x H' → g x σ H' fun σ2 H2 => tb { D with nx := N, ct := N, bk := D.nx } σ2 H2) := by
 refine ⟨fun i m σ H => m = n - i ∧ i ≤ n ∧ Pv i σ H, ⟨n, by simp, Nat.zero_le _, h0⟩, ?_⟩
 rintro i m σ H ⟨rfl, hi, p⟩
 by_cases hlt : i < n
 ·refine .inr ⟨hlt, Pv (i + 1), fun σ' H' p' => ⟨n - (i + 1), by omega, rfl, hlt, p'⟩, fun x H' y => ?_⟩
  obtain ⟨e, y⟩ := y
  subst e y
  exact hs i σ _ hlt p
 ·have e : i = n := by omega
  subst e
  exact .inl ⟨Nat.le_refl _, hd σ H p⟩
end L2
namespace L2
open PySem PySem.Spec PyProof.Rows
abbrev R2 := V → V → Hp → VK → Prop
def OpR (X : Cx) (f : Value → Value → Sem Value) (r : R2) : Prop :=
 ∀ (pins : List (Addr × Obj)) (s : Shared) (σ : St) (H : Hp) (x y : V) (v u : Value) (Q : VK), Inv X pins σ H s → RelV x v → RelV y u → r x y H Q →
  wpAny (model X.prog X.w) X.A (f v u) (EP X pins σ Q) X.xe s
def UnR (X : Cx) (f : Value → Sem Value) (r : V → Hp → VK → Prop) : Prop :=
 ∀ (pins : List (Addr × Obj)) (s : Shared) (σ : St) (H : Hp) (x : V) (v : Value) (Q : VK), Inv X pins σ H s → RelV x v → r x H Q →
  wpAny (model X.prog X.w) X.A (f v) (EP X pins σ Q) X.xe s
def CallR (X : Cx) (f : Value) (r : List V → Hp → VK → Prop) : Prop :=
 ∀ (pins : List (Addr × Obj)) (s : Shared) (σ : St) (H : Hp) (xs : List V) (us : List Value) (Q : VK), Inv X pins σ H s → Vals xs us → r xs H Q →
  wpAny (model X.prog X.w) X.A (call f us) (EP X pins σ Q) X.xe s
def tOp (r : R2) (ta tb : TE) : TE := fun σ H Q => ta σ H fun x H1 => tb σ H1 fun y H2 => r x y H2 Q
def tUn (r : V → Hp → VK → Prop) (ta : TE) : TE := fun σ H Q => ta σ H fun x H1 => r x H1 Q
def rI (C : Int → Int → Prop) (g : Int → Int → V) : R2 := fun x y H Q => ∃ i j, x = .int i ∧ y = .int j ∧ C i j ∧ Q (g i j) H
def rI0 (g : Int → Int → V) : R2 := fun x y H Q => ∃ i j, x = .int i ∧ y = .int j ∧ Q (g i j) H
def rU (g : Int → V) : V → Hp → VK → Prop := fun x H Q => ∃ i, x = .int i ∧ Q (g i) H
section
variable {X : Cx} {a b c : Expr} {ta tb tc : TE} {pos : Pos}
theorem binT (ha : PE X a ta) (hb : PE X b tb) {pins : List (Addr × Obj)} {s : Shared} {σ : St} {H : Hp} {R : V → V → Hp → Prop} (I : Inv X pins σ H s)
  (h : ta σ H fun x H1 => tb σ H1 fun y H2 => R x y H2) {Q : Value → Shared → Prop} {f : Value → Value → Sem Value}
  (hf : ∀ v u s2 x y H2, Inv X pins σ H2 s2 → RelV x v → RelV y u → R x y H2 → wpAny (model X.prog X.w) X.A (f v u) Q X.xe s2) :
  wpAny (model X.prog X.w) X.A (eval a X.env) (fun v s₁ => wpAny (model X.prog X.w) X.A (eval b X.env) (fun u s₂ => wpAny (model X.prog X.w) X.A (f v u) Q X.xe s₂) X.xe s₁) X.xe s := by
 refine thn (ha pins s σ H _ I h) fun v s1 ⟨x, H1, I1, r1, q1⟩ => ?_
 refine thn (hb pins s1 σ H1 _ I1 q1) fun u s2 ⟨y, H2, I2, r2, q2⟩ => ?_
 exact hf v u s2 x y H2 I2 r1 r2 q2
theorem pe_op {op : Operator} {r : R2} (ho : OpR X (binaryOp op) r) (ha : PE X a ta) (hb : PE X b tb) : PE X (.BinOp a op b pos) (tOp r ta tb) := by
 intro pins s σ H Q I h
 exact wpAny_BinOp (binT ha hb I h fun v u s2 x y H2 I2 rx ry q => ho pins s2 σ H2 x y v u Q I2 rx ry q)
theorem pe_un {op : UnaryOp} {r : V → Hp → VK → Prop} (ho : UnR X (unaryOp op) r) (ha : PE X a ta) : PE X (.UnaryOp op a pos) (tUn r ta) := by
 intro pins s σ H Q I h
 exact UnaryOp_ (thn (ha pins s σ H _ I h) fun v s1 ⟨x, H1, I1, r1, q1⟩ => ho pins s1 σ H1 x v Q I1 r1 q1)
theorem opI {f : Value → Value → Sem Value} {C : Int → Int → Prop} {g : Int → Int → Int}
  (rule : ∀ (i j : Int) (t u : Tok) (s : Shared) (Q : Value → Shared → Prop) (E : Value → Shared → Prop), C i j → Q (.int (g i j) s.toks) { s with toks := s.toks + 1 } → wpAny (model X.prog X.w) X.A (f (.int i t) (.int j u)) Q E s) :
  OpR X f (rI C fun i j => .int (g i j)) := by
 intro pins s σ H x y v u Q I rx ry h
 obtain ⟨i, j, rfl, rfl, hc, q⟩ := h
 obtain ⟨t, rfl⟩ := rx
 obtain ⟨t', rfl⟩ := ry
 exact rule i j t t' s _ _ hc ⟨.int (g i j), H, I.tok _, ⟨_, rfl⟩, q⟩
theorem opI0 {f : Value → Value → Sem Value} {g : Int → Int → Int}
  (rule : ∀ (i j : Int) (t u : Tok) (s : Shared) (Q : Value → Shared → Prop) (E : Value → Shared → Prop), Q (.int (g i j) s.toks) { s with toks := s.toks + 1 } → wpAny (model X.prog X.w) X.A (f (.int i t) (.int j u)) Q E s) :
  OpR X f (rI0 fun i j => .int (g i j)) := by
 intro pins s σ H x y v u Q I rx ry h
 obtain ⟨i, j, rfl, rfl, q⟩ := h
 obtain ⟨t, rfl⟩ := rx
 obtain ⟨t', rfl⟩ := ry
 exact rule i j t t' s _ _ ⟨.int (g i j), H, I.tok _, ⟨_, rfl⟩, q⟩
theorem opB0 {f : Value → Value → Sem Value} {g : Int → Int → Bool}
  (rule : ∀ (i j : Int) (t u : Tok) (s : Shared) (Q : Value → Shared → Prop) (E : Value → Shared → Prop), Q (.bool (g i j)) s → wpAny (model X.prog X.w) X.A (f (.int i t) (.int j u)) Q E s) :
  OpR X f (rI0 fun i j => .bl (g i j)) := by
 intro pins s σ H x y v u Q I rx ry h
 obtain ⟨i, j, rfl, rfl, q⟩ := h
 obtain ⟨t, rfl⟩ := rx
 obtain ⟨t', rfl⟩ := ry
 exact rule i j t t' s _ _ ⟨.bl (g i j), H, I, rfl, q⟩
def CDiv (i j : Int) : Prop := 0 < j ∧ j < 1073741824
def CMul (i j : Int) : Prop := (-(2 ^ 64) < i ∧ i < 2 ^ 64) ∨ (-(2 ^ 64) < j ∧ j < 2 ^ 64)
theorem CMul.ok {i j : Int} (h : CMul i j) : IntMulOk i j := by
 rcases h with ⟨h1, h2⟩ | ⟨h1, h2⟩
 ·exact .of_left (intBits_le_64 h1 h2)
 ·exact .of_right (intBits_le_64 h1 h2)
theorem op_add : OpR X (binaryOp .Add) (rI0 fun i j => .int (i + j)) := opI0 fun _ _ _ _ _ _ _ q => add_int q
theorem op_sub : OpR X (binaryOp .Sub) (rI0 fun i j => .int (i - j)) := opI0 fun _ _ _ _ _ _ _ q => sub_int q
theorem op_mul : OpR X (binaryOp .Mult) (rI CMul fun i j => .int (i * j)) := opI fun _ _ _ _ _ _ _ hc q => mul_int q hc.ok
theorem op_fdiv : OpR X (binaryOp .FloorDiv) (rI CDiv fun i j => .int (i / j)) := opI fun i j _ _ _ _ _ hc q => by
 have h1 : (0 : Int) < j := hc.1
 have h2 : j < 1073741824 := hc.2
 exact floordiv_int (by omega) (by rw [Int.fdiv_eq_ediv_of_nonneg i (by omega)]; exact q) (.inl (PyProof.noPylong_small (by omega)))
theorem op_mod : OpR X (binaryOp .Mod) (rI (fun _ j => 0 < j) fun i j => .int (i % j)) := opI fun i j _ _ _ _ _ hc q => by
 have h1 : (0 : Int) < j := hc
 exact mod_int' (by omega) (by rw [Int.fmod_eq_emod_of_nonneg i (by omega)]; exact q)
theorem unI {f : Value → Sem Value} {g : Int → Int}
  (rule : ∀ (i : Int) (t : Tok) (s : Shared) (Q : Value → Shared → Prop) (E : Value → Shared → Prop), Q (.int (g i) s.toks) { s with toks := s.toks + 1 } → wpAny (model X.prog X.w) X.A (f (.int i t)) Q E s) :
  UnR X f (rU fun i => .int (g i)) := by
 intro pins s σ H x v Q I rx h
 obtain ⟨i, rfl, q⟩ := h
 obtain ⟨t, rfl⟩ := rx
 exact rule i t s _ _ ⟨.int (g i), H, I.tok _, ⟨_, rfl⟩, q⟩
theorem un_neg : UnR X (unaryOp .USub) (rU fun i => .int (-i)) := unI fun _ _ _ _ _ q => neg_int q
end
def scal : V → V → Bool
 | .non, .non => true | .non, .int _ => true | .int _, .non => true | .non, .bl _ => true | .bl _, .non => true | .non, .str _ => true | .str _, .non => true
 | .int _, .int _ => true | .bl _, .bl _ => true | .str _, .str _ => true | .byt _, .byt _ => true
 | .int _, .str _ => true | .str _, .int _ => true | .bl _, .str _ => true | .str _, .bl _ => true
 | _, _ => false
def rEq : R2 := fun x y H Q => scal x y = true ∧ Q (.bl (decide (x = y))) H
theorem dec_int {i j : Int} : decide (V.int i = V.int j) = (i == j) := by
 rw [Bool.eq_iff_iff]
 simp
theorem dec_bl {i j : Bool} : decide (V.bl i = V.bl j) = (i == j) := by
 rw [Bool.eq_iff_iff]
 simp
theorem dec_str {i j : Str} : decide (V.str i = V.str j) = (i == j) := by
 rw [Bool.eq_iff_iff]
 simp
theorem dec_byt {i j : Array UInt8} : decide (V.byt i = V.byt j) = (i.toList == j.toList) := by
 rw [Bool.eq_iff_iff]
 cases i
 cases j
 simp
section
variable {X : Cx} {a b c : Expr} {ta tb tc : TE} {pos : Pos}
theorem fin_bl {pins : List (Addr × Obj)} {σ : St} {H : Hp} {s : Shared} {Q : VK} {k k' : Bool} (I : Inv X pins σ H s) (q : Q (.bl k) H) (e : k = k') : EP X pins σ Q (.bool k') s := by
 subst e
 exact ⟨.bl k, H, I, rfl, q⟩
theorem op_eq : OpR X (compareOp .Eq) rEq := by
 intro pins s σ H x y v u Q I rx ry h
 obtain ⟨hs, q⟩ := h
 cases x with
 | non =>
  cases rx
  cases y with
  | non => cases ry; exact PySem.EqNone.eq_none_none (fin_bl I q (by simp))
  | bl j => cases ry; exact PySem.EqNone.eq_none_bool (fin_bl I q (by simp))
  | int j => obtain ⟨t', rfl⟩ := ry; exact PySem.EqNone.eq_none_int (fin_bl I q (by simp))
  | str j => obtain ⟨t', rfl⟩ := ry; exact PySem.EqNone.eq_none_str (fin_bl I q (by simp))
  | _ => exact absurd (show false = true from hs) Bool.false_ne_true
 | bl i =>
  cases rx
  cases y with
  | non => cases ry; exact PySem.EqNone.eq_bool_none (fin_bl I q (by simp))
  | bl j => cases ry; exact eq_bool (fin_bl I q dec_bl)
  | str j => obtain ⟨t', rfl⟩ := ry; exact PySem.EqMixed.eq_bool_str (fin_bl I q (by simp))
  | _ => exact absurd (show false = true from hs) Bool.false_ne_true
 | int i =>
  obtain ⟨t, rfl⟩ := rx
  cases y with
  | non => cases ry; exact PySem.EqNone.eq_int_none (fin_bl I q (by simp))
  | int j => obtain ⟨t', rfl⟩ := ry; exact eq_int (fin_bl I q dec_int)
  | str j => obtain ⟨t', rfl⟩ := ry; exact PySem.EqMixed.eq_int_str (fin_bl I q (by simp))
  | _ => exact absurd (show false = true from hs) Bool.false_ne_true
 | str i =>
  obtain ⟨t, rfl⟩ := rx
  cases y with
  | non => cases ry; exact PySem.EqNone.eq_str_none (fin_bl I q (by simp))
  | bl j => cases ry; exact PySem.EqMixed.eq_str_bool (fin_bl I q (by simp))
  | int j => obtain ⟨t', rfl⟩ := ry; exact PySem.EqMixed.eq_str_int (fin_bl I q (by simp))
  | str j => obtain ⟨t', rfl⟩ := ry; exact eq_str (fin_bl I q dec_str)
  | _ => exact absurd (show false = true from hs) Bool.false_ne_true
 | byt i =>
  obtain ⟨t, rfl⟩ := rx
  cases y with
  | byt j => obtain ⟨t', rfl⟩ := ry; exact PySem.W.eq_bytes (fin_bl I q dec_byt)
  | _ => exact absurd (show false = true from hs) Bool.false_ne_true
 | _ => cases y <;> exact absurd (show false = true from hs) Bool.false_ne_true
theorem op_lt : OpR X (compareOp .Lt) (rI0 fun i j => .bl (decide (i < j))) := opB0 fun _ _ _ _ _ _ _ q => lt_int q
theorem op_le : OpR X (compareOp .LtE) (rI0 fun i j => .bl (decide (i ≤ j))) := opB0 fun _ _ _ _ _ _ _ q => le_int q
theorem op_gt : OpR X (compareOp .Gt) (rI0 fun i j => .bl (decide (j < i))) := opB0 fun _ _ _ _ _ _ _ q => gt_int q
theorem op_ge : OpR X (compareOp .GtE) (rI0 fun i j => .bl (decide (j ≤ i))) := opB0 fun _ _ _ _ _ _ _ q => ge_int q
theorem op_isN : OpR X (compareOp .Is) (fun x y H Q => y = .non ∧ Q (.bl (decide (x = .non))) H) := by
 intro pins s σ H x y v u Q I rx ry h
 obtain ⟨rfl, q⟩ := h
 cases ry
 refine is_none_gen (fin_bl I q ?_)
 cases x <;> first
  | (cases rx; rfl)
  | (obtain ⟨t, rfl⟩ := rx; rfl)
theorem nomark (b : Expr) {op : CmpOp} (h : op ≠ .In := by decide) (h2 : op ≠ .NotIn := by decide) : behindInMarks op b = false := by
 have e1 : (op == CmpOp.In) = false := by cases op <;> first | rfl | exact absurd rfl h
 have e2 : (op == CmpOp.NotIn) = false := by cases op <;> first | rfl | exact absurd rfl h2
 cases b <;> simp [behindInMarks, e1, e2]
theorem pe_cmpR {op : CmpOp} {r : R2} (ho : OpR X (compareOp op) r) (ha : PE X a ta) (hb : PE X b tb) (hm : behindInMarks op b = false) : PE X (.Compare a [op] [b] pos) (tOp r ta tb) := by
 intro pins s σ H Q I h
 exact wpAny_Compare1 (binT ha hb I h fun v u s2 x y H2 I2 rx ry q => ho pins s2 σ H2 x y v u Q I2 rx ry q) hm
def tTest (t : TE) : TT := fun σ H Q => t σ H fun x H' => ∃ k, x = .bl k ∧ Q k H'
theorem pt_cmpR {op : CmpOp} {r : R2} (ho : OpR X (compareOp op) r) (ha : PE X a ta) (hb : PE X b tb) (hm : behindInMarks op b = false) : PT X (.Compare a [op] [b] pos) (tTest (tOp r ta tb)) := by
 intro pins s σ H Q I h
 refine wpAny_isTrue_Compare1 (thn (ha pins s σ H _ I h) fun v s1 ⟨x, H1, I1, r1, q1⟩ => thn (hb pins s1 σ H1 _ I1 q1) fun u s2 ⟨y, H2, I2, r2, q2⟩ =>
  thn (ho pins s2 σ H2 x y v u _ I2 r1 r2 q2) fun c s3 ⟨z, H3, I3, r3, k, e, q3⟩ => ?_) hm
 subst e
 cases r3
 exact wpAny_truthy_bool ⟨H3, I3, q3⟩
def tChain (r r' : R2) (ta tb tc : TE) : TE := fun σ H Q => ta σ H fun x H1 => tb σ H1 fun y H2 => r x y H2 fun z H3 => ∃ k, z = .bl k ∧
 (if k = true then tc σ H3 fun w' H4 => r' y w' H4 Q else Q (.bl false) H3)
theorem pe_chain {op op' : CmpOp} {r r' : R2} (ho : OpR X (compareOp op) r) (ho' : OpR X (compareOp op') r') (ha : PE X a ta) (hb : PE X b tb) (hc : PE X c tc)
  (hm : lastMarks [op, op'] [b, c] = false := by with_unfolding_all rfl) : PE X (.Compare a [op, op'] [b, c] pos) (tChain r r' ta tb tc) := by
 intro pins s σ H Q I h
 refine Compare_chain (thn (ha pins s σ H _ I h) fun v s1 ⟨x, H1, I1, r1, q1⟩ => chain_link (thn (hb pins s1 σ H1 _ I1 q1) fun u s2 ⟨y, H2, I2, r2, q2⟩ =>
  thn (ho pins s2 σ H2 x y v u _ I2 r1 r2 q2) fun d s3 ⟨z, H3, I3, r3, k, e, q3⟩ => ?_)) hm
 subst e
 cases r3
 refine wpAny_truthy_bool ?_
 cases k with
 | false => exact ite_ff ⟨.bl false, H3, I3, rfl, q3⟩
 | true => exact ite_tt (chain_last (thn (hc pins s3 σ H3 _ I3 q3) fun w' s4 ⟨z', H4, I4, r4, q4⟩ => ho' pins s4 σ H4 y z' u w' Q I4 r2 r4 q4))
theorem pt_chain {op op' : CmpOp} {r r' : R2} (ho : OpR X (compareOp op) r) (ho' : OpR X (compareOp op') r') (ha : PE X a ta) (hb : PE X b tb) (hc : PE X c tc)
  (hm : lastMarks [op, op'] [b, c] = false := by with_unfolding_all rfl) : PT X (.Compare a [op, op'] [b, c] pos) (tTest (tChain r r' ta tb tc)) := by
 intro pins s σ H Q I h
 refine isTrue_chain (thn (ha pins s σ H _ I h) fun v s1 ⟨x, H1, I1, r1, q1⟩ => test_link (thn (hb pins s1 σ H1 _ I1 q1) fun u s2 ⟨y, H2, I2, r2, q2⟩ =>
  thn (ho pins s2 σ H2 x y v u _ I2 r1 r2 q2) fun d s3 ⟨z, H3, I3, r3, k, e, q3⟩ => ?_)) hm
 subst e
 cases r3
 refine wpAny_truthy_bool ?_
 cases k with
 | false =>
  obtain ⟨k', e', q'⟩ := q3
  cases e'
  exact ite_ff ⟨H3, I3, q'⟩
 | true =>
  refine ite_tt (test_last (thn (hc pins s3 σ H3 _ I3 q3) fun w' s4 ⟨z', H4, I4, r4, q4⟩ => thn (ho' pins s4 σ H4 y z' u w' _ I4 r2 r4 q4) fun d' s5 ⟨z2, H5, I5, r5, k2, e2, q5⟩ => ?_))
  subst e2
  cases r5
  exact wpAny_truthy_bool ⟨H5, I5, q5⟩
theorem line63 : (sizeLine : Nat) < 2 ^ 63 := by rw [sizeLine_eq]; decide
theorem vals1 {x : V} {us : List Value} (r : Vals [x] us) : ∃ u, us = [u] ∧ RelV x u := by
 cases r with
 | cons r1 r2 => cases r2; exact ⟨_, rfl, r1⟩
theorem vals2 {x y : V} {us : List Value} (r : Vals [x, y] us) : ∃ u w', us = [u, w'] ∧ RelV x u ∧ RelV y w' := by
 cases r with
 | cons r1 r2 =>
  cases r2 with
  | cons r3 r4 => cases r4; exact ⟨_, _, rfl, r1, r3⟩
theorem call_max2 (hc : X.calm = true) : CallR X (.builtin "max") (fun xs H Q => ∃ i j, xs = [.int i, .int j] ∧ Q (.int (if j > i then j else i)) H) := by
 intro pins s σ H xs us Q I r h
 obtain ⟨i, j, rfl, q⟩ := h
 obtain ⟨u, w', rfl, ⟨t, rfl⟩, ⟨t', rfl⟩⟩ := vals2 r
 refine max_two_ints (I.ok.hd hc) fun h' tk k => ⟨_, H, I.kept k, ?_, q⟩
 by_cases hj : j > i
 ·rw [if_pos hj, if_pos hj]; exact ⟨_, rfl⟩
 ·rw [if_neg hj, if_neg hj]; exact ⟨_, rfl⟩
theorem call_ord : CallR X (.builtin "ord") (fun xs H Q => ∃ x, xs = [.str x] ∧ x.length = 1 ∧ Q (.int (x.cps.getD 0 0 : Nat)) H) := by
 intro pins s σ H xs us Q I r h
 obtain ⟨x, rfl, hz, q⟩ := h
 obtain ⟨u, rfl, t, rfl⟩ := vals1 r
 exact ord_of_one hz ⟨.int _, H, I.tok _, ⟨_, rfl⟩, q⟩
end
end L2
namespace L2
open PySem PySem.Spec PyProof.Rows
structure ObjM (h : Heap) (x dx C : Addr) (mA : Str → Option Value) : Prop where
 obj : h.get? x = some (PySem.W.instObj C dx)
 ns : h.Ns1 dx mA
 ne : dx ≠ x
theorem lookIn_ns {h : Heap} {dx : Addr} {mA : Str → Option Value} (n : h.Ns1 dx mA) : ∃ od, h.get? dx = some od ∧ ∀ name, PySem.W.lookIn name od = some (mA name) := by
 obtain ⟨o, es, ep, ho, hd, hk, _, hm⟩ := n
 refine ⟨o, ho, fun name => ?_⟩
 have e := hm name
 unfold nsFind findBy at e
 rw [← Array.find?_toList] at e
 unfold PySem.W.lookIn
 rw [hd]
 dsimp only
 split
 ·rename_i y q
  rw [q] at e
  exact congrArg some e
 ·rename_i q
  rw [q] at e
  have a : es.toList.any (·.refKey) = false := by
   rw [List.any_eq_false]
   intro y hy
   obtain ⟨z, t, hkey⟩ := hk y (Array.mem_toList_iff.mp hy)
   simp [DictEntry.refKey, hkey]
  have a' : ¬ es.toList.any (·.refKey) = true := by rw [a]; exact Bool.false_ne_true
  rw [if_neg a']
  exact congrArg some e
theorem ObjM.look {h : Heap} {x dx C : Addr} {mA : Str → Option Value} (I : ObjM h x dx C mA) : ∃ od, PySem.W.InstAt h x (PySem.W.instObj C dx) C (some od) ∧ ∀ name, PySem.W.lookIn name od = some (mA name) :=
 let ⟨od, ho, hl⟩ := lookIn_ns I.ns
 ⟨od, ⟨I.obj, rfl, rfl, ho⟩, hl⟩
section
variable {prog : Program} {w : World} {A : Around} {E : Value → Shared → Prop} {s : Shared} {K : PySem.W.Frag} {x dx C f : Addr} {mA : Str → Option Value} {name : Str} {v : Value}
theorem get_map {expr : Bool} {Q : Value → Shared → Prop} (X : K.In s.heap) (I : ObjM s.heap x dx C mA) (hg : PySem.W.plainGet K C name = true) (hh : PySem.W.hasDictIn K C = true)
  (ha : PySem.W.findIn K (.ref C) name = some none) (hv : mA name = some v) (hv' : PySem.W.handedIn v = true) (h : Q v { s with toks := s.toks + 1 }) :
  wpAny (model prog w) A (getAttr (.ref x) name expr) Q E s := by
 obtain ⟨od, J, hl⟩ := I.look
 exact PySem.W.get_value X J (PySem.W.plainGet_of hg).1 (PySem.W.findObj_own hh ha rfl (by rw [hl, hv])) hv' h
theorem get_meth {pl : Sem Bool} {Q : Value × List Value → Shared → Prop} (X : K.In s.heap) (I : ObjM s.heap x dx C mA) (hg : PySem.W.plainGet K C name = true)
  (hf : PySem.W.findIn K (.ref C) name = some (some (.ref f))) (ht : PySem.W.isFn K (.ref f) = true) (hv : mA name = none) (h : Q (.ref f, [.ref x]) s) :
  wpAny (model prog w) A (getMethod (.ref x) name pl) Q E s := by
 obtain ⟨od, J, hl⟩ := I.look
 exact PySem.W.method_fn X J (PySem.W.plainGet_of hg).1 (PySem.W.plainGet_of hg).2 hf (beq_iff_eq.mp ht) (by show (PySem.W.lookIn name od).map (·.isSome) = some false; rw [hl, hv]; rfl) h
theorem set_map {ns : List Str} {Q : Unit → Shared → Prop} (X : K.In s.heap) (I : ObjM s.heap x dx C mA)
  (hs : PySem.W.findIn K (.ref C) "__setattr__" = some (some (.builtin "object.__setattr__"))) (hp : PySem.W.plainOver K C = true) (ht : PySem.W.takerIn K C name = some none) (hh : PySem.W.hasDictIn K C = true)
  (hw : PySem.Within mA ns) (hsz : ns.length ≤ sizeLine)
  (h : ∀ h', ObjM h' x dx C (fun y => if y = name then some v else mA y) → Heap.SameBut dx s.heap h' → Q () { s with heap := h', toks := s.toks + 2 }) :
  wpAny (model prog w) A (setAttr (.ref x) name v) Q E s := by
 obtain ⟨od, J, hl⟩ := I.look
 refine PySem.W.set_plain X J hs (PySem.W.osa_open (s := { s with toks := s.toks + 1 }) (r := none) X J hp ht fun b => ?_)
 obtain ⟨cd, hc, hd'⟩ := PySem.W.any_some hh
 have hx : s.heap.get? x = some ⟨.ref C, some dx, .plain, #[]⟩ := I.obj
 refine wpAny_bind (wpAny_pure (wpAny_bind (wpAny_bind (wpAny_loadPart hx (wpAny_bind (PySem.W.Looks.here (s := { s with toks := s.toks + 1 }) (PySem.W.looks_clsIn X hc) ?_))))))
 rw [hd']
 refine wpAny_pure (a := some dx) (wpAny_bind (wpAny_pure (wpAny_bind ?_)))
 refine wpAny_nsSet1 (s := { s with toks := s.toks + 1 }) I.ns fun h' hn2 hs2 => ?_
 obtain ⟨oD, esD, epD, hoD, hdD, hcD⟩ := hn2.count (PySem.Within.cons name v hw)
 refine wpAny_bind (wpAny_lookBehind hoD (by rw [hdD]; exact pastItsLine_dict (Nat.le_trans hcD (by rw [List.length_cons]; omega))) ?_)
 exact wpAny_pure (h _ ⟨(hs2.2 _ (Ne.symm I.ne)).trans I.obj, hn2, I.ne⟩ hs2)
theorem make_map {R : Result → Shared → Prop} {vs : List Value} {kw : List (Str × Value)} (X : K.In s.heap) (hm : PySem.W.makesIn K C = true)
  (hi : PySem.W.findIn K (.ref C) "__init__" = some (some (.ref f))) (hf : PySem.W.typeIn K (.ref f) = some (.type "function"))
  (h : codeAny (model prog w) (A.under (.builtin "type.__call__" ⟨.ref C :: vs, kw⟩)) (.call (.ref f) ⟨.ref (s.heap.objs.size + 1) :: vs, kw⟩) (PySem.W.InitBack (s.heap.objs.size + 1) R)
   { s with heap := (s.heap.push PySem.W.emptyDict).push (PySem.W.instObj C s.heap.objs.size) }) :
  codeAny (model prog w) A (.call (.ref C) ⟨vs, kw⟩) R s := by
 obtain ⟨hh, g, d, t, os⟩ := s
 exact PySem.W.make_core (PySem.W.makes_of X hm) (PySem.W.looks_findIn X hi) (fun self => PySem.W.bind_fn X self hf) (.inl rfl) h
end
def putF (f : Str) (v : V) : List (Str × V) → List (Str × V)
 | [] => [(f, v)]
 | (g, x) :: r => if g = f then (g, v) :: r else (g, x) :: putF f v r
theorem lookup_putF (f g : Str) (v : V) : ∀ fs : List (Str × V), (putF f v fs).lookup g = if g = f then some v else fs.lookup g
 | [] => by
  show List.lookup g [(f, v)] = _
  by_cases h : g = f
  ·have hb : (g == f) = true := beq_iff_eq.mpr h
   simp only [List.lookup, hb, if_pos h]
  ·have hb : (g == f) = false := beq_eq_false_iff_ne.mpr h
   simp only [List.lookup, hb, if_neg h]
 | (k, x) :: r => by
  have ih := lookup_putF f g v r
  rw [show putF f v ((k, x) :: r) = (if k = f then (k, v) :: r else (k, x) :: putF f v r) from rfl]
  by_cases hk : k = f
  ·rw [if_pos hk]
   by_cases h : g = k
   ·have hb : (g == k) = true := beq_iff_eq.mpr h
    simp only [List.lookup, hb, if_pos (h.trans hk)]
   ·have hb : (g == k) = false := beq_eq_false_iff_ne.mpr h
    simp only [List.lookup, hb, if_neg (fun e : g = f => h (e.trans hk.symm))]
  ·rw [if_neg hk]
   by_cases h : g = k
   ·have hb : (g == k) = true := beq_iff_eq.mpr h
    simp only [List.lookup, hb, if_neg (fun e : g = f => hk (h.symm.trans e))]
   ·have hb : (g == k) = false := beq_eq_false_iff_ne.mpr h
    simp only [List.lookup, hb]
    exact ih
theorem keys_putF (f : Str) (v : V) : ∀ fs : List (Str × V), f ∈ (putF f v fs).map (·.1) ∧ ∀ g, g ∈ fs.map (·.1) → g ∈ (putF f v fs).map (·.1)
 | [] => ⟨by simp [putF], fun g h => by simp at h⟩
 | (k, x) :: r => by
  obtain ⟨i1, i2⟩ := keys_putF f v r
  rw [show putF f v ((k, x) :: r) = (if k = f then (k, v) :: r else (k, x) :: putF f v r) from rfl]
  by_cases hk : k = f
  ·rw [if_pos hk]
   subst hk
   exact ⟨by simp, fun g h => by simpa using h⟩
  ·rw [if_neg hk]
   refine ⟨?_, fun g h => ?_⟩
   ·rw [List.map_cons]
    exact List.mem_cons_of_mem _ i1
   ·rw [List.map_cons] at h ⊢
    rcases List.mem_cons.mp h with e | e
    ·exact List.mem_cons.mpr (.inl e)
    ·exact List.mem_cons_of_mem _ (i2 g e)
theorem length_putF (f : Str) (v : V) : ∀ fs : List (Str × V), (putF f v fs).length ≤ fs.length + 1
 | [] => by simp [putF]
 | (k, x) :: r => by
  have ih := length_putF f v r
  rw [show putF f v ((k, x) :: r) = (if k = f then (k, v) :: r else (k, x) :: putF f v r) from rfl]
  by_cases hk : k = f
  ·rw [if_pos hk, List.length_cons, List.length_cons]; omega
  ·rw [if_neg hk, List.length_cons, List.length_cons]; omega
theorem RelO.some_of {v : V} {o : Option Value} (r : RelO (some v) o) : ∃ u, o = some u ∧ RelV v u := by
 cases o with
 | none => exact (show False from r).elim
 | some u => exact ⟨u, rfl, r⟩
theorem RelO.none_of {o : Option Value} (r : RelO none o) : o = none := by
 cases o with
 | none => rfl
 | some u => exact (show False from r).elim
theorem handed_of {v : V} {u : Value} (r : RelV v u) : PySem.W.handedIn u = true := by
 cases v with
 | non => cases (show u = Value.none from r); rfl
 | bl b => cases (show u = Value.bool b from r); rfl
 | int i => obtain ⟨t, e⟩ := (show ∃ t, u = Value.int i t from r); cases e; rfl
 | str x => obtain ⟨t, e⟩ := (show ∃ t, u = Value.str x t from r); cases e; rfl
 | byt b => obtain ⟨t, e⟩ := (show ∃ t, u = Value.bytes b t from r); cases e; rfl
 | flt b => obtain ⟨t, e⟩ := (show ∃ t, u = Value.float b t from r); cases e; rfl
 | ref a => cases (show u = Value.ref a from r); rfl
 | ty n => cases (show u = Value.type n from r); rfl
section
variable {P : Program} {w : World} {H H' : Hp} {h h' : Heap} {a C dx : Addr} {fs fs' : List (Str × V)}
theorem ins_get (hok : HOk P w H h) (e : H a = some (.ins C dx fs)) : ∃ mA, ObjM h a dx C mA ∧ (∀ f, RelO (fs.lookup f) (mA f)) ∧ PySem.Within mA (fs.map (·.1)) ∧ fs.length ≤ 1000 ∧ H dx = some (.own a) := by
 obtain ⟨d, z, ne, ob, mA, n, r, q⟩ := (show ObjOk P w H h a (.ins C dx fs) from hok a _ e)
 exact ⟨mA, ⟨ob, n, ne⟩, r, q, z, d⟩
end
structure Cls (K : PySem.W.Frag) (C : Addr) : Prop where
 pg : PySem.W.plainGet K C Str.empty = true
 hd : PySem.W.hasDictIn K C = true
 po : PySem.W.plainOver K C = true
 sa : PySem.W.findIn K (.ref C) "__setattr__" = some (some (.builtin "object.__setattr__"))
theorem Cls.get {K : PySem.W.Frag} {C : Addr} (c : Cls K C) (f : Str) : PySem.W.plainGet K C f = true := c.pg
def NoAttr (K : PySem.W.Frag) (C : Addr) (f : Str) : Prop := PySem.W.findIn K (.ref C) f = some none
theorem NoAttr.taker {K : PySem.W.Frag} {C : Addr} {f : Str} (n : NoAttr K C f) : PySem.W.takerIn K C f = some none := by
 unfold PySem.W.takerIn
 rw [show PySem.W.findIn K (.ref C) f = some none from n]
 rfl
structure Meth (K : PySem.W.Frag) (C : Addr) (m : Str) (f : Addr) : Prop where
 at_ : PySem.W.findIn K (.ref C) m = some (some (.ref f))
 fn : PySem.W.isFn K (.ref f) = true
 kp : PySem.W.keepIn K (.ref f) = true
section
variable {X : Cx} {pins : List (Addr × Obj)} {σ : St} {H : Hp} {s : Shared} {a C dx : Addr} {fs : List (Str × V)} {f : Str} {v : V} {A : Around} {E : Value → Shared → Prop}
theorem getattr_ok {b : Bool} {Q : Value → Shared → Prop} (I : Inv X pins σ H s) (e : H a = some (.ins C dx fs)) (c : Cls X.K C) (n : NoAttr X.K C f) (l : fs.lookup f = some v)
  (h : ∀ u s', Inv X pins σ H s' → RelV v u → Q u s') : wpAny (model X.prog X.w) A (getAttr (.ref a) f b) Q E s := by
 obtain ⟨mA, O, r, _, _, _⟩ := ins_get I.hok e
 obtain ⟨u, hu, ru⟩ := RelO.some_of (v := v) (o := mA f) (by rw [← l]; exact r f)
 exact get_map I.kIn O (c.get f) c.hd n hu (handed_of ru) (h u _ (I.tok _) ru)
theorem getmeth_ok {m : Str} {g : Addr} {pl : Sem Bool} {Q : Value × List Value → Shared → Prop} (I : Inv X pins σ H s) (e : H a = some (.ins C dx fs)) (c : Cls X.K C) (k : Meth X.K C m g) (l : fs.lookup m = none)
  (h : Q (.ref g, [.ref a]) s) : wpAny (model X.prog X.w) A (getMethod (.ref a) m pl) Q E s := by
 obtain ⟨mA, O, r, _, _, _⟩ := ins_get I.hok e
 have hn : mA m = none := RelO.none_of (by rw [← l]; exact r m)
 exact get_meth I.kIn O (c.get m) k.at_ k.fn hn h
theorem setattr_ok {y : V} {u : Value} {Q : Unit → Shared → Prop} (I : Inv X pins σ H s) (e : H a = some (.ins C dx fs)) (c : Cls X.K C) (n : NoAttr X.K C f) (hl : fs.length < 1000) (ry : RelV y u)
  (h : ∀ s', Inv X pins σ (upd H a (.ins C dx (putF f y fs))) s' → Q () s') : wpAny (model X.prog X.w) A (setAttr (.ref a) f u) Q E s := by
 obtain ⟨mA, O, r, wi, _, ho⟩ := ins_get I.hok e
 have hz : (fs.map (·.1)).length ≤ sizeLine := by rw [List.length_map, sizeLine_eq]; omega
 refine set_map I.kIn O c.sa c.po n.taker c.hd wi hz fun h' O' sb => h _ ?_
 have hd : ∃ o, h'.get? dx = some o := let ⟨o, _, _, e', _⟩ := O'.ns; ⟨o, e'⟩
 refine I.write (x := a) (e := dx) (by rw [e]; exact True.intro) (.inr ho) (fun b q hb z => (sb.2 b hb).trans z) hd ?_
 refine ⟨by rw [upd_ne O.ne]; exact ho, ?_, O.ne, O'.obj, _, O'.ns, fun g => ?_, fun g hg => ?_⟩
 ·have := length_putF f y fs; omega
 ·show RelO ((putF f y fs).lookup g) (if g = f then some u else mA g)
  rw [lookup_putF]
  by_cases q : g = f
  ·rw [if_pos q, if_pos q]; exact ry
  ·rw [if_neg q, if_neg q]; exact r g
 ·by_cases q : g = f
  ·rw [q]; exact (keys_putF f y fs).1
  ·refine (keys_putF f y fs).2 g (wi g fun z => hg ?_)
   show (if g = f then some u else mA g) = none
   rw [if_neg q]; exact z
theorem Inv.made (I : Inv X pins σ H s) : Inv X pins σ (upd (upd H s.heap.objs.size (.own (s.heap.objs.size + 1))) (s.heap.objs.size + 1) (.ins C s.heap.objs.size []))
  { s with heap := (s.heap.push PySem.W.emptyDict).push (PySem.W.instObj C s.heap.objs.size) } := by
 have e1 : (s.heap.push PySem.W.emptyDict).get? s.heap.objs.size = some PySem.W.emptyDict := Heap.get?_push_size s.heap rfl
 have e2 : ((s.heap.push PySem.W.emptyDict).push (PySem.W.instObj C s.heap.objs.size)).get? (s.heap.objs.size + 1) = some (PySem.W.instObj C s.heap.objs.size) := by
  have := Heap.get?_push_size (s.heap.push PySem.W.emptyDict) (o := PySem.W.instObj C s.heap.objs.size) rfl
  rwa [Heap.size_push] at this
 have e3 : (s.heap.push PySem.W.emptyDict).Ns s.heap.objs.size (fun _ => none) := ⟨PySem.W.emptyDict, #[], _, e1, rfl, (fun e he => absurd he (by simp)), fun _ => rfl⟩
 have I1 := I.laid (a := s.heap.objs.size) (o := .own (s.heap.objs.size + 1)) (h' := s.heap.push PySem.W.emptyDict) (t' := s.toks) (fun b u q => Heap.get?_push_of_some _ q) (Nat.le_refl _) ⟨_, e1⟩
 refine I1.laid (a := s.heap.objs.size + 1) (o := .ins C s.heap.objs.size []) (t' := s.toks) (fun b u q => Heap.get?_push_of_some _ q) (Nat.le_of_eq (Heap.size_push _ _)) ?_
 have ne : s.heap.objs.size ≠ s.heap.objs.size + 1 := Nat.ne_of_lt (Nat.lt_succ_self _)
 refine ⟨by rw [upd_ne ne, upd_same], Nat.zero_le _, ne, e2, fun _ => none, (Heap.Ns1.of_empty e3).at fun o q => Heap.get?_push_of_some _ q, fun _ => True.intro, fun y hy => absurd rfl hy⟩
theorem attr_of {prog : Program} {w : World} {env : Env} {e : Expr} {f : Str} {pos : Pos} {s : Shared} {Q : Value → Shared → Prop} (hb : attributeBase e f env (eval e env) = eval e env)
  (h : wpAny (model prog w) A (eval e env) (fun o s₁ => wpAny (model prog w) A (getAttr o f true) Q E s₁) E s) : wpAny (model prog w) A (eval (.Attribute e f pos) env) Q E s :=
 Attribute_any_ h (by rw [arm_eval_Attribute, hb])
end
def tFld (K : PySem.W.Frag) (ta : TE) (f : Str) : TE := fun σ H Q => ta σ H fun x H1 => ∃ a C dx fs v, x = .ref a ∧ H1 a = some (.ins C dx fs) ∧ Cls K C ∧ NoAttr K C f ∧ fs.lookup f = some v ∧ Q v H1
def sFld (K : PySem.W.Frag) (ta tv : TE) (f : Str) : TS := fun D σ H => tv σ H fun y H1 => ta σ H1 fun x H2 => ∃ a C dx fs, x = .ref a ∧ H2 a = some (.ins C dx fs) ∧ Cls K C ∧ NoAttr K C f ∧ fs.length < 1000 ∧
 D.nx σ (upd H2 a (.ins C dx (putF f y fs)))
section
variable {X : Cx} {o e value : Expr} {f : Str} {pos pos' tpos : Pos} {ta tv : TE}
theorem pe_fld (he : PE X e ta) (hb : attributeBase e f X.env (eval e X.env) = eval e X.env) : PE X (.Attribute e f pos) (tFld X.K ta f) := by
 intro pins s σ H Q I h
 refine attr_of hb (thn (he pins s σ H _ I h) fun u s1 ⟨x, H1, I1, rx, a, C, dx, fs, v, ex, ea, c, n, l, q⟩ => ?_)
 subst ex
 obtain rfl : u = Value.ref a := rx
 exact getattr_ok I1 ea c n l fun u' s2 I2 ru => ⟨v, H1, I2, ru, q⟩
theorem ps_fld (ha : PE X o ta) (hv : PE X value tv) (hs : swapsWith value (some (.Attribute o f pos')) pos.line X.env = pure false) : PS X (.Assign [.Attribute o f pos'] value pos) (sFld X.K ta tv f) := by
 intro pins s σ H D I h
 refine plainObj_wpAny_Assign_Attribute (thn (hv pins s σ H _ I h) fun u s1 ⟨y, H1, I1, ry, q⟩ => thn (ha pins s1 σ H1 _ I1 q) fun ov s2 ⟨x, H2, I2, rx, a, C, dx, fs, ex, ea, c, n, l, q2⟩ => ?_) hs
 subst ex
 obtain rfl : ov = Value.ref a := rx
 exact setattr_ok I2 ea c n l ry fun s3 I3 => ⟨σ, _, I3, q2⟩
end
section
variable {X : Cx} {pins : List (Addr × Obj)} {σ : St} {H : Hp} {s : Shared} {A : Around} {E : Value → Shared → Prop} {Q : Value → Shared → Prop} {c : Value} {b : Bool}
end
end L2
namespace L2
open PySem PySem.Spec PyProof.Rows
structure Room (k : Nat) (A : Around) : Prop where
 hd : A.handled = none
 dp : A.depth + 3 * k + 5 < recursionLimit
 un : A.units + 16 * k + 200 < cLine
theorem Room.mono {j k : Nat} {A : Around} (r : Room k A) (h : j ≤ k) : Room j A := ⟨r.hd, by have := r.dp; omega, by have := r.un; omega⟩
theorem Room.deeper {k : Nat} {A : Around} (r : Room (k + 1) A) (env : Env) : Room k (A.deeper env) :=
 ⟨r.hd, by have := r.dp; show A.depth + 1 + 3 * k + 5 < _; omega, by have := r.un; show A.units + 3 + 16 * k + 200 < _; omega⟩
theorem make_depth {A : Around} {C : Addr} {us : List Value} {kw : List (Str × Value)} : (A.under (.builtin "type.__call__" ⟨.ref C :: us, kw⟩)).depth = A.depth + 1 := by
 first | rfl | simp [Around.under, Code.weight, Code.isCreation, Code.isGuard, Code.isCaller, Code.frames, Code.isFrame, guardIds]
theorem make_units {A : Around} {C : Addr} {us : List Value} {kw : List (Str × Value)} : (A.under (.builtin "type.__call__" ⟨.ref C :: us, kw⟩)).units = A.units + 1 := by
 first | rfl | simp [Around.under, Code.cUnits, Code.frames, Code.isFrame]
theorem Room.make {k : Nat} {A : Around} (r : Room (k + 1) A) (C : Addr) (us : List Value) (kw : List (Str × Value)) : Room k (A.under (.builtin "type.__call__" ⟨.ref C :: us, kw⟩)) :=
 ⟨r.hd, by have := r.dp; rw [make_depth]; omega, by have := r.un; rw [make_units]; omega⟩
theorem Room.depth {k : Nat} {A : Around} (r : Room k A) : A.depth < recursionLimit := by have := r.dp; omega
theorem Room.units {k : Nat} {A : Around} (r : Room k A) : A.units + 64 < cLine := by have := r.un; omega
def tNil : TA := fun _ H Q => Q [] H
def tCons (ta : TE) (tr : TA) : TA := fun σ H Q => ta σ H fun x H1 => tr σ H1 fun xs H2 => Q (x :: xs) H2
section
variable {X : Cx} {e : Expr} {es : List Expr} {te : TE} {t : TA} {pos : Pos}
theorem pa_nil : PA X [] tNil := fun _ _ _ _ H Q I h => Calls.spliced_nil ⟨[], H, I, .nil, h⟩
theorem pa_cons (ha : PE X e te) (hr : PA X es t) (hs : starEach (e :: es) X.env = (false, eval e X.env) :: starEach es X.env := by rfl) : PA X (e :: es) (tCons te t) := by
 intro pos pins s σ H Q I h
 rw [hs]
 show wpAny _ _ (spliced ((false, eval e X.env) :: backTo pos (starEach es X.env))) _ _ s
 refine Calls.spliced_cons (thn (ha pins s σ H _ I h) fun u s1 ⟨x, H1, I1, r1, q1⟩ => ?_)
 exact thn (hr pos pins s1 σ H1 _ I1 q1) fun us s2 ⟨xs, H2, I2, r2, q2⟩ => ⟨x :: xs, H2, I2, .cons r1 r2, q2⟩
def tTup (t : TA) : TE := fun σ H Q => t σ H fun xs H1 => xs.length ≤ sizeLine ∧ ∀ p, H1 p = none → Q (.ref p) (upd H1 p (.tup xs))
def tLst (t : TA) : TE := fun σ H Q => t σ H fun xs H1 => xs.length ≤ sizeLine ∧ ∀ p, H1 p = none → Q (.ref p) (upd H1 p (.lst xs))
theorem pe_tup {x1} (h : PA X es t) : PE X (.Tuple es x1 pos) (tTup t) := by
 intro pins s σ H Q I hq
 refine wpAny_Tuple_spliced (thn (h pos pins s σ H _ I hq) fun us s1 ⟨xs, H1, I1, r, z, q⟩ => ⟨by rw [← r.length]; exact z, ?_⟩)
 have hf : H1 s1.heap.objs.size = none := I1.hok.fresh (Nat.le_refl _)
 refine ⟨.ref s1.heap.objs.size, upd H1 s1.heap.objs.size (.tup xs), I1.laid (t' := s1.toks) (fun b u e => Heap.get?_push_of_some _ e) (Nat.le_refl _) ?_, rfl, q _ hf⟩
 exact ⟨z, us, r, ⟨_, Heap.get?_push_size _ rfl, rfl, _, rfl⟩⟩
theorem pe_lst (h : PA X es t) : PE X (.List es pos) (tLst t) := by
 intro pins s σ H Q I hq
 refine wpAny_List_spliced (thn (h pos pins s σ H _ I hq) fun us s1 ⟨xs, H1, I1, r, z, q⟩ => ⟨by rw [← r.length]; exact z, ?_⟩)
 have hf : H1 s1.heap.objs.size = none := I1.hok.fresh (Nat.le_refl _)
 refine ⟨.ref s1.heap.objs.size, upd H1 s1.heap.objs.size (.lst xs), I1.laid (t' := s1.toks) (fun b u e => Heap.get?_push_of_some _ e) (Nat.le_refl _) ?_, rfl, q _ hf⟩
 exact ⟨z, us, 0, r, Heap.get?_push_size _ rfl⟩
end
abbrev Sp := List V → Hp → VK → XK → Prop
abbrev CXT := List Env → Hp → Shared → XK → Value → Shared → Prop
structure Env0 (P : Program) (w : World) (K : PySem.W.Frag) (mg : Str → Option Value) (base : Heap) (A : Around) (outer : List Env) (s : Shared) (H : Hp) : Prop where
 frames : A.frames = some outer
 mod : Mod K mg base
 bs : ∀ b o, base.get? b = some o → s.heap.get? b = some o ∧ H b = none
 bsz : base.objs.size ≤ s.heap.objs.size
 funs : s.heap.FunFrames base outer
 frf : ∀ b ∈ frs outer, H b = none
 hok : HOk P w H s.heap
 bare : AllBare s.gens
def CE (outer : List Env) (P : Program) (w : World) (H : Hp) (s : Shared) (Q : VK) (u : Value) (s' : Shared) : Prop :=
 ∃ v H', s'.os = s.os ∧ AllBare s'.gens ∧ Un (frs outer) [] H H' s.heap s'.heap ∧ HOk P w H' s'.heap ∧ RelV v u ∧ Q v H'
def CR (CX : CXT) (outer : List Env) (P : Program) (w : World) (H : Hp) (s : Shared) (Q : VK) (E : XK) (r : Result) (s' : Shared) : Prop :=
 match r with
 | .ok (.ret u) => CE outer P w H s Q u s'
 | .ok _ => False
 | .error e => CX outer H s E e s'
structure FnOk (P : Program) (w : World) (K : PySem.W.Frag) (mg : Str → Option Value) (base : Heap) (CX : CXT) (k : Nat) (f : Addr) (fd : FuncData) (ps : List Str) (sp : Sp) : Prop where
 len : ∀ vs H Q E, sp vs H Q E → vs.length = ps.length
 run : ∀ (A : Around) (outer : List Env) (s : Shared) (H : Hp) (args : Args) (us : List Value) (vs : List V) (Q : VK) (E : XK), Room k A → Env0 P w K mg base A outer s H → BindsTo s fd args (ps.zip us) → Vals vs us → sp vs H Q E →
  codeAny (model P w) A (.call (.ref f) args) (CR CX outer P w H s Q E) s
theorem FnOk.imp {P : Program} {w : World} {K : PySem.W.Frag} {mg : Str → Option Value} {base : Heap} {CX : CXT} {k : Nat} {f : Addr} {fd : FuncData} {ps : List Str} {sp sp' : Sp} (F : FnOk P w K mg base CX k f fd ps sp)
  (h : ∀ vs H Q E, sp' vs H Q E → sp vs H Q E) : FnOk P w K mg base CX k f fd ps sp' :=
 ⟨fun vs H Q E q => F.len vs H Q E (h _ _ _ _ q), fun A outer s H args us vs Q E hr he hb hv hs => F.run A outer s H args us vs Q E hr he hb hv (h _ _ _ _ hs)⟩
theorem Env0.make {P : Program} {w : World} {K : PySem.W.Frag} {mg : Str → Option Value} {base : Heap} {A : Around} {outer : List Env} {s : Shared} {H : Hp} (e : Env0 P w K mg base A outer s H) (C : Addr) (us : List Value) (kw : List (Str × Value)) :
  Env0 P w K mg base (A.under (.builtin "type.__call__" ⟨.ref C :: us, kw⟩)) outer s H := ⟨by first | exact e.frames | (simpa [Around.under, Code.envs, Code.isFrame, pushEnvs] using e.frames), e.mod, e.bs, e.bsz, e.funs, e.frf, e.hok, e.bare⟩
section
variable {X : Cx} {pins : List (Addr × Obj)} {σ : St} {H : Hp} {s s' : Shared}
theorem Inv.env0 (I : Inv X pins σ H s) : Env0 X.prog X.w X.K X.mg X.base X.A X.stack s H :=
 ⟨I.ok.frames, I.ok.mod, I.bs, Nat.le_trans I.ok.bsz I.sz, I.stack, I.stkFree, I.hok, I.bare⟩
theorem Inv.after {Q : VK} {u : Value} (I : Inv X pins σ H s) (h : CE X.stack X.prog X.w H s Q u s') : EP X pins σ Q u s' := by
 obtain ⟨v, H', os, bare, un, hok, r, q⟩ := h
 obtain ⟨hh, g, d, t, os'⟩ := s'
 obtain rfl : os' = s.os := os
 exact ⟨v, H', I.call (h' := hh) (g' := g) (d' := d) (t' := t) (ch := []) un hok bare (fun b z => absurd z (by simp)), r, q⟩
end
def tCall (sp : Sp) (dvs : List V) (E : XK) (t : TA) : TE := fun σ H Q => t σ H fun vs H1 => sp (vs ++ dvs) H1 Q E
def tMeth (C : Addr) (m : Str) (sp : Sp) (dvs : List V) (E : XK) (ta : TE) (t : TA) : TE := fun σ H Q => ta σ H fun x H1 => ∃ a dx fs, x = .ref a ∧ H1 a = some (.ins C dx fs) ∧ fs.lookup m = none ∧
 t σ H1 fun vs H2 => sp (x :: (vs ++ dvs)) H2 Q E
def tMake (C : Addr) (sp : Sp) (dvs : List V) (E : XK) (t : TA) : TE := fun σ H Q => t σ H fun vs H1 => ∀ x dx, H1 x = none → H1 dx = none → dx ≠ x →
 sp (.ref x :: (vs ++ dvs)) (upd (upd H1 dx (.own x)) x (.ins C dx [])) (fun v H2 => v = .non ∧ Q (.ref x) H2) E
def Binds (K : PySem.W.Frag) (fd : FuncData) (ps : List Str) (ds : List Value) : Prop :=
 ∀ (s : Shared) (us : List Value), K.In s.heap → (us ++ ds).length = ps.length → BindsTo s fd ⟨us, []⟩ (ps.zip (us ++ ds))
theorem Binds.all {K : PySem.W.Frag} {fd : FuncData} {ps : List Str} (h : ∀ us : List Value, us.length = ps.length → bindArgs fd ⟨us, []⟩ = pure (ps.zip us)) : Binds K fd ps [] := fun s us _ hl => by
 rw [List.append_nil] at hl ⊢
 exact .of_eq (h us hl)
def Passes (CX : CXT) (X : Cx) (E : XK) : Prop := ∀ (pins : List (Addr × Obj)) (σ : St) (H : Hp) (s : Shared) (e : Value) (s' : Shared), Inv X pins σ H s → CX X.stack H s E e s' → X.xe e s'
section
variable {X : Cx} {CX : CXT} {k : Nat} {f C : Addr} {fd : FuncData} {ps : List Str} {sp : Sp} {dvs : List V} {ds : List Value} {E : XK} {x m : Str} {p pos apos : Pos} {e o : Expr} {es : List Expr} {ta : TE} {t : TA}
theorem run_fn {pins : List (Addr × Obj)} {σ : St} {H : Hp} {s : Shared} {Q : VK} {us : List Value} {vs : List V} (F : FnOk X.prog X.w X.K X.mg X.base CX k f fd ps sp) (hr : Room k X.A) (hb : Binds X.K fd ps ds) (hd : Vals dvs ds) (hx : Passes CX X E)
  (I : Inv X pins σ H s) (r : Vals vs us) (h : sp (vs ++ dvs) H Q E) : wpAny (model X.prog X.w) X.A (call (.ref f) us) (EP X pins σ Q) X.xe s := by
 have r2 : Vals (vs ++ dvs) (us ++ ds) := r.append hd
 have hl : (us ++ ds).length = ps.length := by rw [← r2.length]; exact F.len _ _ _ _ h
 refine wpAny_call (codeAny_mono (F.run X.A X.stack s H ⟨us, []⟩ (us ++ ds) (vs ++ dvs) Q E hr I.env0 (hb s us I.kIn hl) r2 h) fun r s' hq => ?_)
 cases r with
 | error e => exact hx pins σ H s e s' I hq
 | ok fl =>
  cases fl with
  | ret u => exact I.after hq
  | next => exact False.elim hq
  | brk => exact False.elim hq
  | cont => exact False.elim hq
theorem pe_call (F : FnOk X.prog X.w X.K X.mg X.base CX k f fd ps sp) (hr : Room k X.A) (hg : Gl X x) (hm : X.mg x = some (.ref f)) (hk : PySem.W.keepIn X.K (.ref f) = true) (hb : Binds X.K fd ps ds) (hd : Vals dvs ds) (hx : Passes CX X E)
  (ha : PA X (e :: es) t) (hdb : (x == ("__debug__" : Str)) = false := by decide) (he : starEach (e :: es) X.env = (false, eval e X.env) :: starEach es X.env := by rfl) (hpl : (backTo pos (starEach es X.env)).any (·.1) = false := by rfl) :
  PE X (.Call (.Name x p) (e :: es) [] pos) (tCall sp dvs E t) := by
 intro pins s σ H Q I h
 refine wpAny_Call_Name_kw (ld_glob I hg hm ?_ hdb)
 refine PySem.W.callWith_K (h₀ := X.base) I.ok.mod.kin hk (thn (ha pos pins s σ H _ I h) fun us s1 ⟨vs, H1, I1, r, q⟩ => ⟨I1.kIn, ?_⟩) he hpl
 exact run_fn F hr hb hd hx I1 r q
theorem pe_call0 (F : FnOk X.prog X.w X.K X.mg X.base CX k f fd ps sp) (hr : Room k X.A) (hg : Gl X x) (hm : X.mg x = some (.ref f)) (hk : PySem.W.keepIn X.K (.ref f) = true) (hb : Binds X.K fd ps ds) (hd : Vals dvs ds) (hx : Passes CX X E)
  (hdb : (x == ("__debug__" : Str)) = false := by decide) : PE X (.Call (.Name x p) [] [] pos) (tCall sp dvs E tNil) := by
 intro pins s σ H Q I h
 refine wpAny_Call_Name_kw (ld_glob I hg hm ?_ hdb)
 exact PySem.W.callWith_K0 I.kIn hk (run_fn (us := []) F hr hb hd hx I .nil h)
theorem pe_meth {pl : Sem Bool} (he : PE X o ta) (c : Cls X.K C) (hm : Meth X.K C m f) (F : FnOk X.prog X.w X.K X.mg X.base CX k f fd ps sp) (hr : Room k X.A) (hb : Binds X.K fd ps ds) (hd : Vals dvs ds) (hx : Passes CX X E) (ha : PA X (e :: es) t)
  (hst : starEach (e :: es) X.env = (false, eval e X.env) :: starEach es X.env := by rfl) (hpl : (backTo pos (starEach es X.env)).any (·.1) = false := by rfl)
  (ht : eval (.Call (.Attribute o m apos) (e :: es) [] pos) X.env = (do
   let ov ← eval o X.env
   standAt apos.atName
   let (f, first) ← holding [ov] (getMethod ov m pl)
   callWith pos f first (backTo pos (starEach (e :: es) X.env)) (backToKw pos (keywordEach [] X.env))) := by rfl) :
  PE X (.Call (.Attribute o m apos) (e :: es) [] pos) (tMeth C m sp dvs E ta t) := by
 intro pins s σ H Q I h
 refine PySem.W.methodCall_KW (pl := pl) (thn (he pins s σ H _ I h) fun u s1 ⟨x, H1, I1, rx, a, dx, fs, ex, ea, l, q⟩ => ?_) ht
 subst ex
 obtain rfl : u = Value.ref a := rx
 refine getmeth_ok I1 ea c hm l ?_
 refine PySem.W.callWith_K (first := [.ref a]) (h₀ := X.base) I.ok.mod.kin hm.kp (thn (ha pos pins s1 σ H1 _ I1 q) fun us s2 ⟨vs, H2, I2, r, q2⟩ => ⟨I2.kIn, ?_⟩) hst hpl
 exact run_fn (us := .ref a :: us) (vs := .ref a :: vs) F hr hb hd hx I2 (.cons rfl r) q2
theorem pe_meth0 {pl : Sem Bool} (he : PE X o ta) (c : Cls X.K C) (hm : Meth X.K C m f) (F : FnOk X.prog X.w X.K X.mg X.base CX k f fd ps sp) (hr : Room k X.A) (hb : Binds X.K fd ps ds) (hd : Vals dvs ds) (hx : Passes CX X E)
  (ht : eval (.Call (.Attribute o m apos) [] [] pos) X.env = (do
   let ov ← eval o X.env
   standAt apos.atName
   let (f, first) ← holding [ov] (getMethod ov m pl)
   callWith pos f first (backTo pos (starEach [] X.env)) (backToKw pos (keywordEach [] X.env))) := by rfl) :
  PE X (.Call (.Attribute o m apos) [] [] pos) (tMeth C m sp dvs E ta tNil) := by
 intro pins s σ H Q I h
 refine PySem.W.methodCall_KW (pl := pl) (thn (he pins s σ H _ I h) fun u s1 ⟨x, H1, I1, rx, a, dx, fs, ex, ea, l, q⟩ => ?_) ht
 subst ex
 obtain rfl : u = Value.ref a := rx
 refine getmeth_ok I1 ea c hm l ?_
 exact PySem.W.callWith_K0 (first := [.ref a]) I1.kIn hm.kp (run_fn (us := [.ref a]) (vs := [.ref a]) F hr hb hd hx I1 (.cons rfl .nil) q)
structure Mk (K : PySem.W.Frag) (C f : Addr) : Prop where
 makes : PySem.W.makesIn K C = true
 init : PySem.W.findIn K (.ref C) "__init__" = some (some (.ref f))
 fn : PySem.W.isFn K (.ref f) = true
 kp : PySem.W.keepIn K (.ref C) = true
theorem run_make {pins : List (Addr × Obj)} {σ : St} {H : Hp} {s : Shared} {Q : VK} {us : List Value} {vs : List V} (M : Mk X.K C f) (F : FnOk X.prog X.w X.K X.mg X.base CX k f fd ps sp) (hr : Room (k + 1) X.A) (hb : Binds X.K fd ps ds) (hd : Vals dvs ds)
  (hx : Passes CX X E) (I : Inv X pins σ H s) (r : Vals vs us)
  (h : ∀ x dx, H x = none → H dx = none → dx ≠ x → sp (.ref x :: (vs ++ dvs)) (upd (upd H dx (.own x)) x (.ins C dx [])) (fun v H2 => v = .non ∧ Q (.ref x) H2) E) :
  wpAny (model X.prog X.w) X.A (call (.ref C) us) (EP X pins σ Q) X.xe s := by
 have hq := h (s.heap.objs.size + 1) s.heap.objs.size (I.hok.fresh (Nat.le_succ _)) (I.hok.fresh (Nat.le_refl _)) (Nat.ne_of_lt (Nat.lt_succ_self _))
 have I2 := Inv.made (C := C) I
 have r2 : Vals (V.ref (s.heap.objs.size + 1) :: (vs ++ dvs)) (Value.ref (s.heap.objs.size + 1) :: (us ++ ds)) := .cons rfl (r.append hd)
 have hl : (Value.ref (s.heap.objs.size + 1) :: us ++ ds).length = ps.length := by
  have e := r2.length
  rw [F.len _ _ _ _ hq] at e
  exact e.symm
 refine wpAny_call (make_map (f := f) I.kIn M.makes M.init (beq_iff_eq.mp M.fn) (codeAny_mono (F.run _ X.stack _ _ ⟨Value.ref (s.heap.objs.size + 1) :: us, []⟩ (Value.ref (s.heap.objs.size + 1) :: (us ++ ds)) _ _ E (hr.make C us [])
  (I2.env0.make C us []) (hb _ (Value.ref (s.heap.objs.size + 1) :: us) I2.kIn hl) r2 hq) fun r s' hq' => ?_))
 cases r with
 | error e => exact hx pins σ _ _ e s' I2 hq'
 | ok fl =>
  cases fl with
  | ret u =>
   obtain ⟨v, H', I3, rv, ev, q3⟩ := I2.after hq'
   subst ev
   exact ⟨rv, ⟨V.ref (s.heap.objs.size + 1), H', I3, rfl, q3⟩⟩
  | next => exact False.elim hq'
  | brk => exact False.elim hq'
  | cont => exact False.elim hq'
theorem pe_make (M : Mk X.K C f) (F : FnOk X.prog X.w X.K X.mg X.base CX k f fd ps sp) (hr : Room (k + 1) X.A) (hg : Gl X x) (hm : X.mg x = some (.ref C)) (hb : Binds X.K fd ps ds) (hd : Vals dvs ds) (hx : Passes CX X E)
  (ha : PA X (e :: es) t) (hdb : (x == ("__debug__" : Str)) = false := by decide) (he : starEach (e :: es) X.env = (false, eval e X.env) :: starEach es X.env := by rfl) (hpl : (backTo pos (starEach es X.env)).any (·.1) = false := by rfl) :
  PE X (.Call (.Name x p) (e :: es) [] pos) (tMake C sp dvs E t) := by
 intro pins s σ H Q I h
 refine wpAny_Call_Name_kw (ld_glob I hg hm ?_ hdb)
 refine PySem.W.callWith_K (h₀ := X.base) I.ok.mod.kin M.kp (thn (ha pos pins s σ H _ I h) fun us s1 ⟨vs, H1, I1, r, q⟩ => ⟨I1.kIn, ?_⟩) he hpl
 exact run_make M F hr hb hd hx I1 r q
theorem pe_make0 (M : Mk X.K C f) (F : FnOk X.prog X.w X.K X.mg X.base CX k f fd ps sp) (hr : Room (k + 1) X.A) (hg : Gl X x) (hm : X.mg x = some (.ref C)) (hb : Binds X.K fd ps ds) (hd : Vals dvs ds) (hx : Passes CX X E)
  (hdb : (x == ("__debug__" : Str)) = false := by decide) : PE X (.Call (.Name x p) [] [] pos) (tMake C sp dvs E tNil) := by
 intro pins s σ H Q I h
 refine wpAny_Call_Name_kw (ld_glob I hg hm ?_ hdb)
 exact PySem.W.callWith_K0 I.kIn M.kp (run_make (us := []) M F hr hb hd hx I .nil h)
end
section
variable {X : Cx} {CX : CXT} {k : Nat} {f C : Addr} {fd : FuncData} {ps ks : List Str} {sp : Sp} {E : XK} {x m : Str} {p pos apos kpos : Pos} {e o : Expr} {es : List Expr} {kws : List Keyword} {te ta : TE} {t tk : TA} {nm : Option Str}
variable {g : List Value → List Value → List Value} {gV : List V → List V → List V}
end
structure FnScope (N P : List Str) (sc : Scope) : Prop where
 kind : sc.kind = .function
 co : sc.isCoroutine = false
 gen : sc.isGenerator = false
 nd : N.Nodup
 pre : N.take P.length = P
 par : ∀ x ∈ P, sc.names.lookup x = some .local ∨ sc.names.lookup x = some .cell
 nofree : ∀ y ∈ sc.names, y.2 ≠ .free
theorem bindL_out {kindOf : Str → Option NameKind} {x : Str} : ∀ {binds : List (Str × Value)} {m : Str → Option Value}, (∀ v, (x, v) ∉ binds) → bindL kindOf binds m x = m x
 | [], _, _ => rfl
 | (n, v) :: r, m, h => by
  unfold bindL
  rw [bindL_out fun w hw => h w (List.mem_cons_of_mem _ hw)]
  split
  ·have : x ≠ n := by rintro rfl; exact h v List.mem_cons_self
   simp [this]
  ·rfl
theorem bindC_out {kindOf : Str → Option NameKind} {x : Str} : ∀ {binds : List (Str × Value)} {m : Str → Option Value}, (∀ v, (x, v) ∉ binds) → bindC kindOf binds m x = m x
 | [], _, _ => rfl
 | (n, v) :: r, m, h => by
  unfold bindC
  rw [bindC_out fun w hw => h w (List.mem_cons_of_mem _ hw)]
  split
  ·rfl
  ·have : x ≠ n := by rintro rfl; exact h v List.mem_cons_self
   simp [this]
theorem bindL_get {kindOf : Str → Option NameKind} {x : Str} {v : Value} : ∀ {P : List Str} {vs : List Value} {i : Nat} {m : Str → Option Value}, P.Nodup → P[i]? = some x → vs[i]? = some v → kindOf x = some .local →
  bindL kindOf (P.zip vs) m x = some v
 | [], _, _, _, _, h, _, _ => by simp at h
 | _ :: _, [], _, _, _, _, h, _ => by simp at h
 | p :: P, w :: vs, 0, m, nd, h1, h2, hk => by
  simp at h1 h2; subst h1; subst h2
  show bindL kindOf ((p, w) :: P.zip vs) m p = _
  unfold bindL
  rw [bindL_out fun v hv => (List.nodup_cons.mp nd).1 (List.of_mem_zip hv).1, if_pos hk]
  simp
 | p :: P, w :: vs, i + 1, m, nd, h1, h2, hk => by
  show bindL kindOf ((p, w) :: P.zip vs) m x = _
  unfold bindL
  exact bindL_get (i := i) (List.nodup_cons.mp nd).2 (by simpa using h1) (by simpa using h2) hk
theorem bindC_get {kindOf : Str → Option NameKind} {x : Str} {v : Value} : ∀ {P : List Str} {vs : List Value} {i : Nat} {m : Str → Option Value}, P.Nodup → P[i]? = some x → vs[i]? = some v → kindOf x ≠ some .local →
  bindC kindOf (P.zip vs) m x = some v
 | [], _, _, _, _, h, _, _ => by simp at h
 | _ :: _, [], _, _, _, _, h, _ => by simp at h
 | p :: P, w :: vs, 0, m, nd, h1, h2, hk => by
  simp at h1 h2; subst h1; subst h2
  show bindC kindOf ((p, w) :: P.zip vs) m p = _
  unfold bindC
  rw [bindC_out fun v hv => (List.nodup_cons.mp nd).1 (List.of_mem_zip hv).1, if_neg hk]
  simp
 | p :: P, w :: vs, i + 1, m, nd, h1, h2, hk => by
  show bindC kindOf ((p, w) :: P.zip vs) m x = _
  unfold bindC
  exact bindC_get (i := i) (List.nodup_cons.mp nd).2 (by simpa using h1) (by simpa using h2) hk
def start (N : List Str) (vs : List V) : St := vs.map some ++ List.replicate (N.length - vs.length) none
def cxOf (CX : CXT) (P : Program) (w : World) (K : PySem.W.Frag) (mg : Str → Option Value) (base : Heap) (N : List Str) (qual : Str) (scope : Scope) (f : Addr) (cd : Value) (A : Around) (outer : List Env) (s : Shared) (H : Hp) (E : XK) : Cx where
 prog := P
 w := w
 K := K
 mg := mg
 base := base
 A := A.deeper (envOfC qual scope s.heap.objs.size f cd)
 N := N
 s_0 := s
 H_0 := H
 env := envOfC qual scope s.heap.objs.size f cd
 outer := outer
 stack := envOfC qual scope s.heap.objs.size f cd :: outer
 ex := []
 calm := true
 fn := fun _ => true
 pn := []
 xe := fun e s' => wpAny (model P w) (A.deeper (envOfC qual scope s.heap.objs.size f cd)) (leaving (envOfC qual scope s.heap.objs.size f cd) e) (fun _ s'' => CX outer H s E e s'') (fun e' s'' => CX outer H s E e' s'') s'
theorem cell_has {sc : Scope} {n : Nat} {x : Str} (h : sc.names.lookup x = some .cell) : ∃ c, (cellsFrom n sc.names []).lookup x = some c := by
 have q := PySem.W.cellsFrom_some sc.names n [] (.inl h)
 exact Option.isSome_iff_exists.mp q
theorem inv_start {CX : CXT} {P : Program} {w : World} {K : PySem.W.Frag} {mg : Str → Option Value} {base : Heap} {N ps : List Str} {qual : Str} {scope : Scope} {f : Addr} {cd : Value} {A : Around} {outer : List Env} {s s1 : Shared} {H : Hp} {E : XK} {us : List Value} {vs : List V}
  (S : FnScope N ps scope) (hd : A.handled = none) (e0 : Env0 P w K mg base A outer s H) (hl : vs.length = ps.length) (r : Vals vs us)
  (x : InCallC s s.heap.objs.size (bindL (envOfC qual scope s.heap.objs.size f cd).kindOf (ps.zip us) fun _ => none) (cellsFrom (s.heap.objs.size + 1) scope.names []) (bindC (envOfC qual scope s.heap.objs.size f cd).kindOf (ps.zip us) fun _ => none) s1) :
  Inv (cxOf CX P w K mg base N qual scope f cd A outer s H E) [] (start N vs) H s1 := by
 have hpl : ps.length ≤ N.length := by have := congrArg List.length S.pre; rw [List.length_take] at this; omega
 obtain ⟨h1, tk, rfl, hk⟩ := x.done
 have noA : ∀ b : Addr, b ∉ (cxOf CX P w K mg base N qual scope f cd A outer s H E).ex := fun b z => absurd (show b ∈ ([] : List Addr) from z) (by simp)
 refine ⟨⟨e0.mod, S.kind, rfl, rfl, Nat.le_refl _, fun y z c h1 h2 => ?_, fun y hy => ?_, fun y c _ h => ?_, fun _ => hd, Around.frames_deeper e0.frames, .inr ⟨rfl, rfl⟩, fun b z => absurd z (noA b), e0.bs, e0.bsz, fun b _ _ => noA b, fun b z => absurd z (noA b), e0.funs, e0.frf⟩,
  rfl, e0.bare, Un.kept hk, ⟨_, x.toInCall.ns, fun i y v h1 h2 h3 => ?_⟩, fun y c h => ⟨_, x.cell y c h⟩, e0.hok.fresh (Nat.le_refl _), fun y c h => ?_, fun p hp => absurd (show p ∈ ([] : List (Addr × Obj)) from hp) (by simp), e0.hok.kept hk, ?_⟩
 ·exact name_of_addr x.apart (PySem.mem_of_lookup h1) (PySem.mem_of_lookup h2)
 ·have hy : scope.names.lookup y = some .cell ∨ scope.names.lookup y = some .free := hy
  rcases hy with hy | hy
  ·exact cell_has hy
  ·exact absurd rfl (S.nofree _ (PySem.mem_of_lookup hy))
 ·exact Nat.le_of_lt (x.above y c (PySem.mem_of_lookup h))
 ·have hi : i < vs.length := by
   unfold start at h2
   by_cases hi : i < vs.length
   ·exact hi
   ·rw [List.getElem?_append_right (by simpa using hi)] at h2
    rw [List.getElem?_replicate] at h2
    split at h2 <;> cases h2
  have ha : vs[i]? = some v := by
   unfold start at h2
   rw [List.getElem?_append_left (by simpa using hi), List.getElem?_map] at h2
   cases e : vs[i]? with
   | none => rw [e] at h2; cases h2
   | some a => rw [e] at h2; cases h2; rfl
  obtain ⟨u, hu, rv⟩ := r.get ha
  have hp : ps[i]? = some y := by
   rw [← S.pre, List.getElem?_take_of_lt (by omega)]; exact h1
  have ndP : ps.Nodup := by rw [← S.pre]; exact S.nd.sublist (List.take_sublist _ _)
  refine ⟨u, rv, ?_⟩
  rcases S.par y (List.mem_of_getElem? hp) with k | k
  ·exact .inl ⟨k, bindL_get ndP hp hu k⟩
  ·obtain ⟨c, e⟩ := cell_has (n := s.heap.objs.size + 1) k
   refine .inr ⟨.inl k, c, e, ?_⟩
   have q := x.cell y c e
   rw [bindC_get ndP hp hu (by show scope.names.lookup y ≠ _; rw [k]; decide)] at q
   exact q
 ·exact e0.hok.fresh (Nat.le_of_lt (x.above y c (PySem.mem_of_lookup h)))
 ·unfold start
  show _ = N.length
  rw [List.length_append, List.length_map, List.length_replicate]
  omega
theorem fn_of {CX : CXT} {P : Program} {w : World} {K : PySem.W.Frag} {mg : Str → Option Value} {base : Heap} {k : Nat} {f : Addr} {name qual : Str} {params : Arguments} {body : List Stmt} {scope : Scope} {dV kV doc pm cdv ct oc : Value} {an od : Option Addr}
  {osl : Array (Option Value)} {N ps : List Str} {sp : Sp} (lk : K.lookup f = some ⟨oc, od, .func (PySem.W.fnOf name qual params body scope dV kV doc pm an cdv ct), osl⟩) (hcd : PySem.W.codeIn K cdv qual = true) (S : FnScope N ps scope)
  (len : ∀ vs H Q E, sp vs H Q E → vs.length = ps.length)
  (hbody : ∀ (A : Around) (outer : List Env) (s : Shared) (H : Hp) (vs : List V) (Q : VK) (E : XK), Room k (A.deeper (envOfC qual scope s.heap.objs.size f cdv)) → sp vs H Q E →
   ∃ t, PSs (cxOf CX P w K mg base N qual scope f cdv A outer s H E) body t ∧ t { nx := fun _ H' => Q .non H', rt := Q } (start N vs) H) :
  FnOk P w K mg base CX (k + 1) f (PySem.W.fnOf name qual params body scope dV kV doc pm an cdv ct) ps sp := by
 refine ⟨len, fun A outer s H args us vs Q E hr e0 hb r hsp => ?_⟩
 have hl := len _ _ _ _ hsp
 have KX : K.In s.heap := e0.mod.kin.keeps fun b o e => (e0.bs b o e).1
 have lim : s.heap.NoLimit := e0.mod.nolimit.keeps fun b o e => (e0.bs b o e).1
 have hkind : ∀ y ∈ ps.zip us, scope.names.lookup y.1 = some .local ∨ (scope.names.lookup y.1 = some .cell ∧ ((cellsFrom (s.heap.objs.size + 1) scope.names []).lookup y.1).isSome = true) := fun ⟨n, v⟩ hy => by
  rcases S.par n (List.of_mem_zip hy).1 with q | q
  ·exact .inl q
  ·exact .inr ⟨q, PySem.W.cellsFrom_some _ _ _ (.inl q)⟩
 refine codeAny_call_function hr.depth (KX _ _ lk) rfl S.co S.gen rfl (PySem.W.codeRec_of KX hcd) (hb _ _ _ _ ?_)
 refine wpAny_newFunctionEnv_cells S.kind hkind fun env he s1 x => ?_
 subst he
 refine ⟨lim.keeps x.toInCall.keep, codeAny_func ?_⟩
 obtain ⟨t, ht, hq⟩ := hbody A outer s H vs Q E (hr.deeper _) hsp
 have I : Inv (cxOf CX P w K mg base N qual scope f cdv A outer s H E) [] (start N vs) H s1 := inv_start S hr.hd e0 hl r x
 refine wpAny_mono (ht [] s1 (start N vs) H _ I hq) (fun fl s' hs => ?_) fun e s' hs => hs
 have fin : ∀ {σ' : St} {H' : Hp} {v : V} {u : Value}, Inv (cxOf CX P w K mg base N qual scope f cdv A outer s H E) [] σ' H' s' → RelV v u → Q v H' → CE outer P w H s Q u s' :=
  fun {σ' H' v u} J rv q => ⟨v, H', J.os, J.bare, J.base, J.hok, rv, q⟩
 cases fl with
 | ret u =>
  obtain ⟨v, σ', H', J, rv, q⟩ := hs
  exact fin J rv q
 | next =>
  obtain ⟨σ', H', J, q⟩ := hs
  exact fin (v := V.non) (u := Value.none) J rfl q
 | brk =>
  obtain ⟨_, _, _, q⟩ := hs
  exact False.elim q
 | cont =>
  obtain ⟨_, _, _, q⟩ := hs
  exact False.elim q
end L2
namespace L2
open PySem PySem.Spec PyProof.Rows
section
variable {X : Cx} {x : Str} {p pos : Pos} {e : Expr} {es : List Expr} {t : TA} {id T : String} {r : List V → Hp → VK → Prop}
def tCB (r : List V → Hp → VK → Prop) (t : TA) : TE := fun σ H Q => t σ H fun vs H1 => r vs H1 Q
theorem pe_callB (hc : CallR X (.builtin id) r) (hg : Gl X x) (hm : X.mg x = none) (hv : bootBuiltins x = some (.builtin id)) (ha : PA X (e :: es) t) (hn : x ≠ "__name__" := by decide) (hdb : (x == ("__debug__" : Str)) = false := by decide)
  (he : starEach (e :: es) X.env = (false, eval e X.env) :: starEach es X.env := by rfl) (hpl : (backTo pos (starEach es X.env)).any (·.1) = false := by rfl) : PE X (.Call (.Name x p) (e :: es) [] pos) (tCB r t) := by
 intro pins s σ H Q I h
 refine wpAny_Call_Name_kw (ld_blt I hg hm hv ?_ hn hdb)
 exact PyProof.Rows.callWith_builtin1 (thn (ha pos pins s σ H _ I h) fun us s1 ⟨vs, H1, I1, r1, q1⟩ => hc pins s1 σ H1 vs us Q I1 r1 q1) he hpl
theorem pe_callTy (hc : CallR X (.type T) r) (hg : Gl X x) (hm : X.mg x = none) (hv : bootBuiltins x = some (.type T)) (ha : PA X (e :: es) t) (hn : x ≠ "__name__" := by decide) (hdb : (x == ("__debug__" : Str)) = false := by decide)
  (he : starEach (e :: es) X.env = (false, eval e X.env) :: starEach es X.env := by rfl) (hpl : (backTo pos (starEach es X.env)).any (·.1) = false := by rfl) : PE X (.Call (.Name x p) (e :: es) [] pos) (tCB r t) := by
 intro pins s σ H Q I h
 refine wpAny_Call_Name_kw (ld_blt I hg hm hv ?_ hn hdb)
 exact PyProof.Rows.callWith_type1 (thn (ha pos pins s σ H _ I h) fun us s1 ⟨vs, H1, I1, r1, q1⟩ => hc pins s1 σ H1 vs us Q I1 r1 q1) he hpl
end
end L2
namespace HT
open PySem PyProof.Rows
section
open PySem.SeqAt
open PySem.AutoSeq1 (wpAny_loadPart')
open PySem.MeetsSeq PySem.MeetsSeq2 PySem.MeetsSeq3
end
section
variable {prog : Program} {w : World} {A : Around} {E : Value → Shared → Prop} {s : Shared}
def sIx (n d : Nat) : Option Int → Nat
 | none => d
 | some v => if v < 0 then (v + (n : Int)).toNat else min v.toNat n
theorem sIx_none (n d : Nat) : sIx n d none = d := rfl
theorem sIx_nat (n d k : Nat) : sIx n d (some (k : Int)) = min k n := by
 show (if (k : Int) < 0 then ((k : Int) + (n : Int)).toNat else min (k : Int).toNat n) = min k n
 rw [if_neg (by omega), Int.toNat_natCast]
end
end HT
namespace L2
open PySem PySem.Spec PyProof.Rows
abbrev TO := St → Hp → (Option Int → Hp → Prop) → Prop
def PO (X : Cx) (e : Option Expr) (t : TO) : Prop :=
 ∀ (pins : List (Addr × Obj)) (s : Shared) (σ : St) (H : Hp) (Q : Option Int → Hp → Prop), Inv X pins σ H s → t σ H Q →
  wpAny (model X.prog X.w) X.A (evalPart e X.env) (fun u s' => ∃ o H', Inv X pins σ H' s' ∧ IsPart u o ∧ Q o H') X.xe s
def tNoPart : TO := fun _ H Q => Q none H
def tPart (t : TE) : TO := fun σ H Q => t σ H fun x H1 => ∃ i, x = .int i ∧ Q (some i) H1
section
variable {X : Cx} {e : Expr} {te : TE} {lo hi : Option Expr} {tl th : TO} {pos p2 : Pos}
theorem po_none : PO X none tNoPart := by
 intro pins s σ H Q I h
 rw [evalPart_none]
 exact wpAny_pure ⟨none, H, I, .none, h⟩
theorem po_some (h : PE X e te) : PO X (some e) (tPart te) := by
 intro pins s σ H Q I hw
 rw [evalPart_some]
 refine thn (h pins s σ H _ I hw) fun u s1 ⟨x, H1, I1, r1, q1⟩ => ?_
 obtain ⟨i, rfl, q⟩ := q1
 obtain ⟨t, rfl⟩ := r1
 exact ⟨some i, H1, I1, .int i t, q⟩
def SlR (X : Cx) (r : V → Option Int → Option Int → Hp → VK → Prop) : Prop :=
 ∀ (pins : List (Addr × Obj)) (s : Shared) (σ : St) (H : Hp) (x : V) (v vl vu : Value) (lo hi : Option Int) (sl : Addr) (Q : VK), Inv X pins σ H s → RelV x v → s.heap.IsSliceOf sl vl vu .none → IsPart vl lo → IsPart vu hi → r x lo hi H Q →
  ∃ T id, typeLookup (.type T) "__getitem__" = pure (some (.builtin id)) ∧ s.TypeIs v T ∧ wpAny (model X.prog X.w) X.A (getItem v (.ref sl)) (EP X pins σ Q) X.xe s
def tSl (r : V → Option Int → Option Int → Hp → VK → Prop) (te : TE) (tl th : TO) : TE := fun σ H Q => te σ H fun x H1 => tl σ H1 fun l H2 => th σ H2 fun u H3 => r x l u H3 Q
theorem pe_slice {r : V → Option Int → Option Int → Hp → VK → Prop} (hr : SlR X r) (he : PE X e te) (hl : PO X lo tl) (hu : PO X hi th) : PE X (.Subscript e (.Slice lo hi none p2) pos) (tSl r te tl th) := by
 intro pins s σ H Q I h
 refine Subscript_ (thn (he pins s σ H _ I h) fun v s1 ⟨x, H1, I1, r1, q1⟩ => ?_)
 refine wpAny_Slice (thn (hl pins s1 σ H1 _ I1 q1) fun vl s2 ⟨l, H2, I2, pl, q2⟩ => thn (hu pins s2 σ H2 _ I2 q2) fun vu s3 ⟨u, H3, I3, pu, q3⟩ => ?_)
 rw [evalPart_none]
 refine wpAny_pure ?_
 have I4 : Inv X pins σ H3 { s3 with heap := s3.heap.push { cls := .type "slice", data := .fields #[vl, vu, .none] } } := I3.kept (t' := s3.toks) fun b ob q => Heap.get?_push_of_some _ q
 obtain ⟨T, id, hT, ht, hg⟩ := hr pins { s3 with heap := s3.heap.push { cls := .type "slice", data := .fields #[vl, vu, .none] } } σ H3 x v vl vu l u s3.heap.objs.size Q I4 r1 (Heap.IsSliceOf.new ..) pl pu q3
 show wpAny (model X.prog X.w) X.A (subscriptTail e (.Slice lo hi none p2) v (.ref s3.heap.objs.size)) (EP X pins σ Q) X.xe { s3 with heap := s3.heap.push { cls := .type "slice", data := .fields #[vl, vu, .none] } }
 exact tail_any (ops := [.ref s3.heap.objs.size, v]) ht hT hg (by with_unfolding_all rfl)
def cutV (xs : List V) (lo hi : Option Int) : List V := (xs.drop (HT.sIx xs.length 0 lo)).take (HT.sIx xs.length xs.length hi - HT.sIx xs.length 0 lo)
theorem cutV_length (xs : List V) (lo hi : Option Int) : (cutV xs lo hi).length ≤ xs.length := by
 unfold cutV
 rw [List.length_take, List.length_drop]
 omega
end
end L2
namespace L2
open PySem PySem.Spec PyProof.Rows
def ixN (n : Nat) (i : Int) : Option Nat := if 0 ≤ i then (if i < n then some i.toNat else none) else if -(n : Int) ≤ i then some (i + n).toNat else none
def atI {α : Type} (xs : List α) (i : Int) : Option α := (ixN xs.length i).bind fun j => xs[j]?
theorem ixN_seq {n : Nat} {i : Int} {j : Nat} (h : ixN n i = some j) : seqIndex? i n = some j ∧ j < n ∧ -(n : Int) ≤ i ∧ i < n := by
 unfold ixN at h
 by_cases h0 : 0 ≤ i
 ·rw [if_pos h0] at h
  by_cases h1 : i < n
  ·rw [if_pos h1] at h
   have e : i.toNat = j := Option.some.inj h
   exact ⟨by rw [seqIndex_of h0 h1, e], by omega, by omega, h1⟩
  ·rw [if_neg h1] at h; cases h
 ·rw [if_neg h0] at h
  by_cases h1 : -(n : Int) ≤ i
  ·rw [if_pos h1] at h
   have e : (i + n).toNat = j := Option.some.inj h
   exact ⟨by rw [seqIndex_neg (by omega) h1, e], by omega, h1, by omega⟩
  ·rw [if_neg h1] at h; cases h
theorem atI_get {α : Type} {xs : List α} {i : Int} {v : α} (h : atI xs i = some v) : ∃ j, seqIndex? i xs.length = some j ∧ xs[j]? = some v ∧ j < xs.length ∧ -(xs.length : Int) ≤ i ∧ i < xs.length := by
 unfold atI at h
 cases e : ixN xs.length i with
 | none => rw [e] at h; cases h
 | some j =>
  rw [e] at h
  obtain ⟨h1, h2, h3, h4⟩ := ixN_seq e
  exact ⟨j, h1, h, h2, h3, h4⟩
theorem atI_nat {α : Type} {xs : List α} {j : Nat} {v : α} (h : xs[j]? = some v) : atI xs (j : Int) = some v := by
 have hj : j < xs.length := (List.getElem?_eq_some_iff.mp h).1
 have e : ixN xs.length (j : Int) = some j := by
  unfold ixN
  rw [if_pos (by omega), if_pos (by omega)]; simp
 unfold atI; rw [e]; exact h
theorem atI_last {α : Type} (xs : List α) (v : α) : atI (xs ++ [v]) (-1) = some v := by
 have hl : (xs ++ [v]).length = xs.length + 1 := by simp
 have e : ixN (xs ++ [v]).length (-1) = some xs.length := by
  unfold ixN
  rw [hl, if_neg (by decide), if_pos (by omega)]
  congr 1
  omega
 unfold atI
 rw [e]
 show (xs ++ [v])[xs.length]? = some v
 simp
def PlainIx (b : Expr) : Prop := ∀ o i, subscripted b false o i = operate [o, i] (getItem o i)
def IxR (X : Cx) (r : R2) : Prop :=
 ∀ (value slice : Expr) (pins : List (Addr × Obj)) (s : Shared) (σ : St) (H : Hp) (x y : V) (v u : Value) (Q : VK), Inv X pins σ H s → RelV x v → RelV y u → r x y H Q →
  subscripted slice false v u = operate [v, u] (getItem v u) → wpAny (model X.prog X.w) X.A (subscriptTail value slice v u) (EP X pins σ Q) X.xe s
def MtR (X : Cx) (id : String) (r : V → List V → Hp → VK → Prop) : Prop :=
 ∀ (pins : List (Addr × Obj)) (s : Shared) (σ : St) (H : Hp) (x : V) (xs : List V) (v : Value) (us : List Value) (Q : VK), Inv X pins σ H s → RelV x v → Vals xs us → r x xs H Q →
  wpAny (model X.prog X.w) X.A (call (.builtin id) (v :: us)) (EP X pins σ Q) X.xe s
section
variable {X : Cx} {a b : Expr} {ta tb : TE} {pos : Pos}
theorem pe_ix {r : R2} (hr : IxR X r) (ha : PE X a ta) (hb : PE X b tb) (hs : PlainIx b) : PE X (.Subscript a b pos) (tOp r ta tb) := by
 intro pins s σ H Q I h
 exact Subscript_ (binT ha hb I h fun v u s2 x y H2 I2 rx ry q => hr a b pins s2 σ H2 x y v u Q I2 rx ry q (hs _ _))
def rIxL (K : PySem.W.Frag) : R2 := fun x y H Q => ∃ p xs i v, x = .ref p ∧ y = .int i ∧ SqL K H p xs ∧ atI xs i = some v ∧ Q v H
def rIxT (K : PySem.W.Frag) : R2 := fun x y H Q => ∃ p xs i v, x = .ref p ∧ y = .int i ∧ SqT K H p xs ∧ atI xs i = some v ∧ Q v H
theorem ix_list : IxR X (rIxL X.K) := by
 intro value slice pins s σ H x y v u Q I rx ry h hs
 obtain ⟨p, xs, i, z, rfl, rfl, hq, he, q⟩ := h
 cases rx
 obtain ⟨t, rfl⟩ := ry
 obtain ⟨its, r, pl, hz⟩ := I.list hq
 obtain ⟨j, h1, h2, h3, h4, h5⟩ := atI_get he
 obtain ⟨w, ew, rw'⟩ := r.get h2
 have hl := r.length
 have hn := line63
 have fin : EP X pins σ Q w s := ⟨z, H, I, rw', q⟩
 by_cases h0 : 0 ≤ i
 ·have hj : i.toNat = j := by
   rw [seqIndex_of h0 h5] at h1
   exact Option.some.inj h1
  exact item_listR pl.isList h0 (by omega) (by rw [hj]; simpa using ew) fin hs
 ·have hj : (i + (its.toArray.size : Int)).toNat = j := by
   rw [seqIndex_neg (by omega) h4] at h1
   rw [List.size_toArray, ← hl]
   exact Option.some.inj h1
  exact subscriptTail_builtinR (x := w) pl.isList.typeIs slot_list_getitem.lookup
   (wpAny_getItem_list_neg (Q := fun r s' => r = w ∧ EP X pins σ Q r s') pl.isList (by omega) (by rw [List.size_toArray] <;> omega) (by omega) (by rw [hj]; simpa using ew) ⟨rfl, fin⟩) hs
theorem ix_tup : IxR X (rIxT X.K) := by
 intro value slice pins s σ H x y v u Q I rx ry h hs
 obtain ⟨p, xs, i, z, rfl, rfl, hq, he, q⟩ := h
 cases rx
 obtain ⟨t, rfl⟩ := ry
 obtain ⟨its, r, pl, hz⟩ := I.tuple hq
 obtain ⟨j, h1, h2, h3, h4, h5⟩ := atI_get he
 obtain ⟨w, ew, rw'⟩ := r.get h2
 have hl := r.length
 have hn := line63
 have fin : EP X pins σ Q w s := ⟨z, H, I, rw', q⟩
 exact subscriptTail_builtinR (x := w) pl.typeIs slot_tuple_getitem.lookup
  (getItem_tuple (j := j) (Q := fun r s' => r = w ∧ EP X pins σ Q r s') pl (by omega) (by omega) (by rw [List.size_toArray, ← hl]; exact h1) (by simpa using ew) ⟨rfl, fin⟩) hs
theorem mapSeq_set (its : List Value) (n j : Nat) (u : Value) : Obj.mapSeq (·.setIfInBounds j u) { cls := .type "list", data := .seq its.toArray n } = { cls := .type "list", data := .seq (its.set j u).toArray n } := by
 simp [Obj.mapSeq]
theorem Inv.lst {pins : List (Addr × Obj)} {σ : St} {H : Hp} {s : Shared} {p : Addr} {xs : List V} (I : Inv X pins σ H s) (h : H p = some (.lst xs)) :
  ∃ (its : List Value) (n : Nat), Vals xs its ∧ s.heap.get? p = some { cls := .type "list", data := .seq its.toArray n } ∧ xs.length ≤ sizeLine := by
 obtain ⟨z, its, n, r, e⟩ := I.hok p _ h
 exact ⟨its, n, r, e, z⟩
theorem Inv.lstUpd {pins : List (Addr × Obj)} {σ : St} {H : Hp} {s : Shared} {p : Addr} {xs ys : List V} {its its' : List Value} {n n' : Nat} {f : Obj → Obj} (I : Inv X pins σ H s) (h : H p = some (.lst xs))
  (ho : s.heap.get? p = some { cls := .type "list", data := .seq its.toArray n }) (hf : f { cls := .type "list", data := .seq its.toArray n } = { cls := .type "list", data := .seq its'.toArray n' }) (r : Vals ys its') (hz : ys.length ≤ sizeLine) (t : Nat) :
  Inv X pins σ (upd H p (.lst ys)) { s with heap := s.heap.update p f, toks := t } := by
 have e : (s.heap.update p f).get? p = some { cls := .type "list", data := .seq its'.toArray n' } := by
  rw [Heap.get?_update_self f ho (by rw [hf] <;> rfl), hf]
 refine I.write (x := p) (e := p) (by rw [h]; trivial) (.inl rfl) (fun b u hb q => (Heap.get?_update_other _ _ (Ne.symm hb)).trans q) ⟨_, e⟩ ?_
 exact ⟨hz, its', n', r, e⟩
def rSetL : V → V → V → Hp → (Hp → Prop) → Prop := fun o i v H Q => ∃ p xs k j, o = .ref p ∧ i = .int k ∧ H p = some (.lst xs) ∧ ixN xs.length k = some j ∧ Q (upd H p (.lst (xs.set j v)))
theorem set_list : PSet X rSetL := by
 intro pins s σ H o i v ov iv u Q I ro ri rv h
 obtain ⟨p, xs, k, j, rfl, rfl, hp, hj, q⟩ := h
 cases ro
 obtain ⟨t, rfl⟩ := ri
 obtain ⟨its, n, r, ho, hz⟩ := I.lst hp
 obtain ⟨h1, h2, h3, h4⟩ := ixN_seq hj
 have hl := r.length
 have hn := line63
 have I' : Inv X pins σ (upd H p (.lst (xs.set j v))) { s with heap := s.heap.update p (Obj.mapSeq (·.setIfInBounds j u)) } :=
  I.lstUpd hp ho (mapSeq_set its n j u) (r.set rv j) (by rw [List.length_set]; exact hz) s.toks
 by_cases h0 : 0 ≤ k
 ·have hk : k.toNat = j := by
   rw [seqIndex_of h0 h4] at h1
   exact Option.some.inj h1
  exact PySem.W.ki_setAt ho h0 (by omega) (by rw [List.size_toArray, ← hl]; exact h4) (by rw [hk]; exact ⟨_, I', q⟩)
 ·have hk : (k + (its.toArray.size : Int)).toNat = j := by
   rw [seqIndex_neg (by omega) h3] at h1
   rw [List.size_toArray, ← hl]
   exact Option.some.inj h1
  exact PySem.W.ki_setBack ho (by omega) (by rw [List.size_toArray, ← hl]; exact h3) (by omega) (by rw [hk]; exact ⟨_, I', q⟩)
theorem slice_bounds (lo hi : Option Int) (n : Nat) : (sliceBounds lo hi none n).1 = ((HT.sIx n 0 lo : Nat) : Int) ∧ (sliceBounds lo hi none n).2.1 = ((HT.sIx n n hi : Nat) : Int) ∧ (sliceBounds lo hi none n).2.2 = 1 := by
 refine ⟨?_, ?_, rfl⟩
 ·cases lo with
  | none => simp [sliceBounds, HT.sIx]
  | some i =>
   simp only [sliceBounds, HT.sIx, Option.getD_none, show (1 : Int) > 0 by decide, if_true]
   by_cases h : i < 0
   ·simp only [h, if_true] <;> omega
   ·simp only [h, if_false] <;> omega
 ·cases hi with
  | none => simp [sliceBounds, HT.sIx]
  | some i =>
   simp only [sliceBounds, HT.sIx, Option.getD_none, show (1 : Int) > 0 by decide, if_true]
   by_cases h : i < 0
   ·simp only [h, if_true] <;> omega
   ·simp only [h, if_false] <;> omega
theorem slicePick_cut (its : List Value) (lo hi : Option Int) : slicePick its.toArray lo hi none = ((its.drop (HT.sIx its.length 0 lo)).take (HT.sIx its.length its.length hi - HT.sIx its.length 0 lo)).toArray := by
 obtain ⟨h1, h2, h3⟩ := slice_bounds lo hi its.toArray.size
 unfold slicePick
 rw [h1, h2, h3]
 simp only [sliceRange_one, pick_run, List.size_toArray] <;> rfl
def rSlL (K : PySem.W.Frag) : V → Option Int → Option Int → Hp → VK → Prop := fun x lo hi H Q => ∃ a xs, x = .ref a ∧ SqL K H a xs ∧ ∀ p, H p = none → Q (.ref p) (upd H p (.lst (cutV xs lo hi)))
theorem sl_list : SlR X (rSlL X.K) := by
 intro pins s σ H x v vl vu lo hi sl Q I rx hs pl pu h
 obtain ⟨a, xs, rfl, hx, q⟩ := h
 cases rx
 obtain ⟨its, r, ht, hz⟩ := I.list hx
 have hlen := r.length
 refine ⟨"list", _, slot_list_getitem.lookup, ht.isList.typeIs, ?_⟩
 refine wpAny_getItem_list_slice ht.isList hs pl pu .none (by simp) ?_ (by rw [List.size_toArray] <;> omega)
 rw [slicePick_cut, ← hlen]
 refine ⟨.ref s.heap.objs.size, _, I.laid (t' := s.toks) (o := .lst (cutV xs lo hi)) (fun b ob q => Heap.get?_push_of_some _ q) (Nat.le_refl _) ?_, rfl, q _ (I.hok.fresh (Nat.le_refl _))⟩
 exact ⟨Nat.le_trans (cutV_length xs lo hi) hz, _, 0, (r.drop (HT.sIx xs.length 0 lo)).take (HT.sIx xs.length xs.length hi - HT.sIx xs.length 0 lo), Heap.get?_push_size _ rfl⟩
def flatV : V → Bool
 | .non => true
 | .bl _ => true
 | .int _ => true
 | .str _ => true
 | _ => false
def eqV : V → V → Bool
 | .non, .non => true
 | .bl a, .bl b => a == b
 | .bl a, .int b => (if a then 1 else 0) == b
 | .int a, .bl b => a == (if b then 1 else 0)
 | .int a, .int b => a == b
 | .str a, .str b => a == b
 | _, _ => false
theorem eqAt_V {A : Around} {s : Shared} {y x : V} {u v : Value} (ry : RelV y u) (rx : RelV x v) (fy : flatV y = true) (fx : flatV x = true) : SeqAt.EqAt A s u v (eqV y x) := by
 cases y with
 | non =>
  cases ry
  cases x with
  | non => cases rx; exact SeqAt.EqAt.same _
  | bl b => cases rx; exact SeqAt.EqAt.none_bool b
  | int b => obtain ⟨t, rfl⟩ := rx; exact SeqAt.EqAt.none_int b t
  | str b => obtain ⟨t, rfl⟩ := rx; exact SeqAt.EqAt.none_str b t
  | _ => exact absurd (show false = true from fx) Bool.false_ne_true
 | bl a =>
  cases ry
  cases x with
  | non => cases rx; exact SeqAt.EqAt.bool_none a
  | bl b => cases rx; exact SeqAt.EqAt.bool_bool a b
  | int b => obtain ⟨t, rfl⟩ := rx; exact SeqAt.EqAt.bool_int a b t
  | str b => obtain ⟨t, rfl⟩ := rx; exact SeqAt.EqAt.bool_str a b t
  | _ => exact absurd (show false = true from fx) Bool.false_ne_true
 | int a =>
  obtain ⟨t', rfl⟩ := ry
  cases x with
  | non => cases rx; exact SeqAt.EqAt.int_none a t'
  | bl b => cases rx; exact SeqAt.EqAt.int_bool a t' b
  | int b => obtain ⟨t, rfl⟩ := rx; exact SeqAt.EqAt.int_int a t' b t
  | str b => obtain ⟨t, rfl⟩ := rx; exact SeqAt.EqAt.int_str a t' b t
  | _ => exact absurd (show false = true from fx) Bool.false_ne_true
 | str a =>
  obtain ⟨t', rfl⟩ := ry
  cases x with
  | non => cases rx; exact SeqAt.EqAt.str_none a t'
  | bl b => cases rx; exact SeqAt.EqAt.str_bool a t' b
  | int b => obtain ⟨t, rfl⟩ := rx; exact SeqAt.EqAt.str_int a t' b t
  | str b => obtain ⟨t, rfl⟩ := rx; exact SeqAt.EqAt.str_str a t' b t
  | _ => exact absurd (show false = true from fx) Bool.false_ne_true
 | _ => exact absurd (show false = true from fy) Bool.false_ne_true
def eqU (x : V) (u : Value) : Bool := match u with
 | .none => eqV .non x
 | .bool b => eqV (.bl b) x
 | .int i _ => eqV (.int i) x
 | .str z _ => eqV (.str z) x
 | _ => false
theorem eqU_of {x y : V} {u : Value} (r : RelV y u) (f : flatV y = true) : eqU x u = eqV y x := by
 cases y with
 | non => cases r; rfl
 | bl b => cases r; rfl
 | int i => obtain ⟨t, rfl⟩ := r; rfl
 | str z => obtain ⟨t, rfl⟩ := r; rfl
 | _ => exact absurd (show false = true from f) Bool.false_ne_true
theorem any_eqU {x : V} : ∀ {xs : List V} {us : List Value}, Vals xs us → xs.all flatV = true → us.any (eqU x) = xs.any fun y => eqV y x
 | _, _, .nil, _ => rfl
 | y :: xs, u :: us, .cons r t, f => by
  rw [List.all_cons, Bool.and_eq_true] at f
  rw [List.any_cons, List.any_cons, eqU_of r f.1, any_eqU t f.2]
theorem mem_eqAt {A : Around} {s : Shared} {x : V} {v : Value} (rx : RelV x v) (fx : flatV x = true) : ∀ {xs : List V} {us : List Value}, Vals xs us → xs.all flatV = true → ∀ u ∈ us, SeqAt.EqAt A s u v (eqU x u)
 | _, _, .nil, _ => fun u hu => by cases hu
 | y :: xs, u :: us, .cons r t, f => fun u' hu => by
  rw [List.all_cons, Bool.and_eq_true] at f
  rcases List.mem_cons.mp hu with rfl | hu
  ·rw [eqU_of r f.1]; exact eqAt_V r rx f.1 fx
  ·exact mem_eqAt rx fx t f.2 u' hu
def inV (x : V) (xs : List V) : Bool := xs.any fun y => eqV y x
def rIn (K : PySem.W.Frag) (neg : Bool) : R2 := fun x y H Q => ∃ p xs, y = .ref p ∧ (SqL K H p xs ∨ SqT K H p xs) ∧ flatV x = true ∧ xs.all flatV = true ∧ Q (.bl (if neg then !inV x xs else inV x xs)) H
theorem op_in_seq : OpR X (compareOp .In) (rIn X.K false) := by
 intro pins s σ H x y v u Q I rx ry h
 obtain ⟨p, xs, rfl, hq, fx, fs, q⟩ := h
 cases ry
 rcases hq with hq | hq
 ·obtain ⟨its, r, pl, hz⟩ := I.list hq
  refine SeqAt.in_listAt (eqU x) pl.isList (fun w hw => mem_eqAt rx fx r fs w (by simpa using hw)) ⟨.bl _, H, I, rfl, ?_⟩
  rw [show its.toArray.any (eqU x) = its.any (eqU x) by simp, any_eqU r fs]
  exact q
 ·obtain ⟨its, r, pl, hz⟩ := I.tuple hq
  refine SeqAt.in_tupleAt (eqU x) pl (fun w hw => mem_eqAt rx fx r fs w (by simpa using hw)) ⟨.bl _, H, I, rfl, ?_⟩
  rw [show its.toArray.any (eqU x) = its.any (eqU x) by simp, any_eqU r fs]
  exact q
theorem call_len_seq : CallR X (.builtin "len") (fun xs H Q => ∃ p ys, xs = [.ref p] ∧ (SqL X.K H p ys ∨ SqT X.K H p ys) ∧ Q (.int ys.length) H) := by
 intro pins s σ H xs us Q I r h
 obtain ⟨p, ys, rfl, hq, q⟩ := h
 obtain ⟨u, rfl, rx⟩ := vals1 r
 cases rx
 have hn := line63
 rcases hq with hq | hq
 ·obtain ⟨its, r', pl, hz⟩ := I.list hq
  have hlen := r'.length
  exact Calls.call_len_list pl.isList (by simp only [List.size_toArray] <;> omega) ⟨.int ys.length, H, I.tok _, ⟨s.toks + 1, by rw [List.size_toArray, hlen]⟩, q⟩
 ·obtain ⟨its, r', pl, hz⟩ := I.tuple hq
  have hlen := r'.length
  exact len_tuple pl (by simp only [List.size_toArray] <;> omega) ⟨.int ys.length, H, I.tok _, ⟨s.toks + 1, by rw [List.size_toArray, hlen]⟩, q⟩
def tyV (K : PySem.W.Frag) (T : String) (x : V) (H : Hp) : Prop := match x with
 | .str _ => T = "str"
 | .int _ => T = "int"
 | .ref p => (T = "list" ∧ ∃ xs, SqL K H p xs) ∨ (T = "tuple" ∧ ∃ o, K.lookup p = some o ∧ o.cls = .type "tuple" ∧ o.dict = none) ∨
   (T = "dict" ∧ ((∃ kvs, H p = some (.dK kvs)) ∨ ∃ kvs, H p = some (.dT kvs))) ∨ (T = "set" ∧ ∃ S n, H p = some (.set S n))
 | _ => False
theorem tyV_is {pins : List (Addr × Obj)} {σ : St} {H : Hp} {s : Shared} {T : String} {x : V} {v : Value} (I : Inv X pins σ H s) (r : RelV x v) (ty : tyV X.K T x H) :
  s.TypeIs v T ∧ ∀ a, v = .ref a → ∃ ob, s.heap.get? a = some ob ∧ ob.dict = none := by
 cases x with
 | str z =>
  obtain ⟨t, rfl⟩ := r
  cases (show T = "str" from ty)
  exact ⟨typeIs_str s z t, fun _ e => nomatch e⟩
 | int i =>
  obtain ⟨t, rfl⟩ := r
  cases (show T = "int" from ty)
  exact ⟨typeIs_int s i t, fun _ e => nomatch e⟩
 | ref p =>
  cases r
  rcases ty with ⟨rfl, xs, hq⟩ | ⟨rfl, o, hk, hc, hd⟩ | ⟨rfl, hk⟩ | ⟨rfl, S, n, hk⟩
  ·obtain ⟨its, _, pl, _⟩ := I.list hq
   refine ⟨pl.isList.typeIs, fun a e => ?_⟩
   cases e
   obtain ⟨o, n, e, c, hd, _⟩ := pl
   exact ⟨o, e, hd⟩
  ·refine ⟨⟨o, I.kIn p o hk, hc⟩, fun a e => ?_⟩
   cases e
   exact ⟨o, I.kIn _ o hk, hd⟩
  ·have z : ∃ o, s.heap.get? p = some o ∧ o.ExactDict := by
    rcases hk with ⟨kvs, hk⟩ | ⟨kvs, hk⟩
    ·obtain ⟨_, _, _, _, o, _, _, e, ex, _⟩ := I.hok p _ hk
     exact ⟨o, e, ex⟩
    ·obtain ⟨_, _, _, _, o, _, _, e, ex, _⟩ := I.hok p _ hk
     exact ⟨o, e, ex⟩
   obtain ⟨o, e, ex⟩ := z
   refine ⟨⟨o, e, ex.1⟩, fun a e2 => ?_⟩
   cases e2
   exact ⟨o, e, ex.2.1⟩
  ·obtain ⟨o, _, _, _, e, ex, _⟩ := I.hok p _ hk
   refine ⟨⟨o, e, ex.1⟩, fun a e2 => ?_⟩
   cases e2
   exact ⟨o, e, ex.2.1⟩
 | _ => exact False.elim ty
def tBM0 (K : PySem.W.Frag) (T : String) (r : V → List V → Hp → VK → Prop) (to : TE) : TE := fun σ H Q => to σ H fun x H1 => tyV K T x H1 ∧ r x [] H1 Q
def tBM (K : PySem.W.Frag) (T : String) (r : V → List V → Hp → VK → Prop) (to : TE) (t : TA) : TE := fun σ H Q => to σ H fun x H1 => tyV K T x H1 ∧ t σ H1 fun xs H2 => r x xs H2 Q
variable {o e : Expr} {es : List Expr} {to : TE} {t : TA} {name : Str} {apos cpos : Pos} {T id : String} {r : V → List V → Hp → VK → Prop}
theorem pe_bm0 (pa : PlainAttrs T) (slot : Slot T name id) (hty : typeOf (.builtin id) = pure (.type "method_descriptor")) (hm : MtR X id r) (ho : PE X o to)
  (hbase : attributeBase o name X.env (eval o X.env) = eval o X.env := by rfl) (hline : (apos.endLine == cpos.line) = true := by rfl) : PE X (.Call (.Attribute o name apos) [] [] cpos) (tBM0 X.K T r to) := by
 intro pins s σ H Q I h
 refine wpAny_Call_method0_late hbase hline (thn (ho pins s σ H _ I h) fun v s1 ⟨x, H1, I1, r1, ty, q1⟩ => ?_)
 obtain ⟨h1, h2⟩ := tyV_is I1 r1 ty
 exact ⟨T, id, pa, slot, hty, h1, h2, Calls.callWith_builtin rfl (PySem.evalArgs_none (hm pins s1 σ H1 x [] v [] Q I1 r1 .nil q1))⟩
theorem pe_bm (pa : PlainAttrs T) (slot : Slot T name id) (hty : typeOf (.builtin id) = pure (.type "method_descriptor")) (hm : MtR X id r) (ho : PE X o to) (ha : PA X (e :: es) t)
  (hbase : attributeBase o name X.env (eval o X.env) = eval o X.env := by rfl)
  (hfew : ((backTo cpos (starEach (e :: es) X.env)).all (fun x => !x.1) && (backToKw cpos (keywordEach [] X.env)).all (fun x => x.1.isSome)
   && decide ((e :: es).length + ([] : List Keyword).length + (if ([] : List Keyword).isEmpty then 0 else 1) < 30)) = true := by rfl)
  (hline : (apos.endLine == cpos.line) = true := by rfl) (hs : starEach (e :: es) X.env = (false, eval e X.env) :: starEach es X.env := by rfl) (hplain : (backTo cpos (starEach es X.env)).any (·.1) = false := by rfl) :
  PE X (.Call (.Attribute o name apos) (e :: es) [] cpos) (tBM X.K T r to t) := by
 intro pins s σ H Q I h
 refine wpAny_Call_method_late hbase hfew hline rfl (thn (ho pins s σ H _ I h) fun v s1 ⟨x, H1, I1, r1, ty, q1⟩ => ?_)
 obtain ⟨h1, h2⟩ := tyV_is I1 r1 ty
 refine ⟨T, id, pa, slot, hty, h1, h2, ?_⟩
 have hA := ha cpos pins s1 σ H1 _ I1 q1
 rw [hs] at hA ⊢
 refine Calls.callWith_builtin (by show (false || (backTo cpos (starEach es X.env)).any (·.1)) = false; rw [hplain] <;> rfl) (Calls.evalArgs_plain ?_)
 exact thn hA fun us s2 ⟨vs, H2, I2, r2, q2⟩ => hm pins s2 σ H2 x vs v us Q I2 r1 r2 q2
/- xs.append(e), list.index on a module's tuple .. are MtR facts of 06m -/
end
end L2
namespace L2
open PySem PySem.Spec PyProof.Rows
def MtM (X : Cx) (id : String) (r : V → List V → Hp → VK → Prop) : Prop :=
 ∀ (pins : List (Addr × Obj)) (s : Shared) (σ : St) (H : Hp) (x : V) (xs : List V) (v : Value) (us : List Value) (Q : VK), Inv X pins σ H s → RelV x v → Vals xs us → r x xs H Q →
  wpAny (model X.prog X.w) X.A (call (.builtin id) (v :: us)) (EP X pins σ Q) X.xe s
theorem Vals.one : ∀ {x : V} {us : List Value}, Vals [x] us → ∃ u, us = [u] ∧ RelV x u
 | _, _, .cons r .nil => ⟨_, rfl, r⟩
theorem Vals.zero : ∀ {us : List Value}, Vals [] us → us = []
 | _, .nil => rfl
theorem Vals.dropLast {xs : List V} {us : List Value} (h : Vals xs us) : Vals xs.dropLast us.dropLast := by
 induction h with
 | nil => exact .nil
 | cons r t ih =>
  cases t with
  | nil => exact .nil
  | cons q t' => exact .cons r ih
theorem Vals.rep {xs : List V} {us : List Value} (h : Vals xs us) : ∀ k : Nat, Vals (List.replicate k xs).flatten (List.replicate k us).flatten
 | 0 => .nil
 | k + 1 => by
  rw [List.replicate_succ, List.replicate_succ, List.flatten_cons, List.flatten_cons]
  exact Vals.append h (Vals.rep h k)
theorem erase_last {α : Type} (l : List α) : l.eraseIdx (l.length - 1) = l.dropLast := by
 induction l with
 | nil => rfl
 | cons a r ih =>
  cases r with
  | nil => rfl
  | cons b r =>
   have e : (a :: b :: r).length - 1 = ((b :: r).length - 1) + 1 := by
    have h1 : (a :: b :: r).length = r.length + 2 := rfl
    have h2 : (b :: r).length = r.length + 1 := rfl
    omega
   rw [e, List.eraseIdx_cons_succ, ih]
   all_goals rfl
theorem foldl_rep (its : List Value) : ∀ (k : Nat) (acc : List Value),
  List.foldl (fun x1 x2 => x1 ++ x2) acc.toArray (List.replicate k its.toArray) = (acc ++ (List.replicate k its).flatten).toArray
 | 0, acc => by simp
 | k + 1, acc => by
  have e : acc.toArray ++ its.toArray = (acc ++ its).toArray := by simp
  have e2 : (acc ++ its) ++ (List.replicate k its).flatten = acc ++ (List.replicate (k + 1) its).flatten := by
   rw [List.replicate_succ, List.flatten_cons, List.append_assoc]
  rw [← e2, ← foldl_rep its k (acc ++ its), ← e, List.replicate_succ, List.foldl_cons]
section
variable {X : Cx} {pins : List (Addr × Obj)} {σ : St} {H : Hp} {s : Shared} {l b : Addr} {xs ys zs : List V}
theorem Inv.lset {its its' : List Value} {n : Nat} {f : Array Value → Array Value} {t' : Nat} (I : Inv X pins σ H s) (hH : H l = some (.lst xs))
  (e : s.heap.get? l = some { cls := .type "list", data := .seq its.toArray n }) (hf : f its.toArray = its'.toArray) (hv : Vals ys its') (hz : ys.length ≤ sizeLine) :
  Inv X pins σ (upd H l (.lst ys)) { s with heap := s.heap.update l (Obj.mapSeq f), toks := t' } := by
 have q := PySem.IsL.update e f
 rw [hf] at q
 refine I.write (x := l) (e := l) (by rw [hH]; exact trivial) (.inl rfl) (fun b' u hb hu => (Heap.get?_update_other s.heap (Obj.mapSeq f) (Ne.symm hb)).trans hu) ⟨_, q⟩ ?_
 exact ⟨hz, its', _, hv, q⟩
theorem Inv.lnew {its : List Value} {t' : Nat} (I : Inv X pins σ H s) (hv : Vals ys its) (hz : ys.length ≤ sizeLine) :
  Inv X pins σ (upd H s.heap.objs.size (.lst ys)) { s with heap := s.heap.push { cls := .type "list", data := .seq its.toArray }, toks := t' } :=
 I.laid (fun _ _ q => Heap.get?_push_of_some _ q) (Nat.le_refl _) ⟨hz, its, 0, hv, Heap.get?_push_size _ rfl⟩
theorem Inv.fresh (I : Inv X pins σ H s) : H s.heap.objs.size = none := I.hok.fresh (Nat.le_refl _)
theorem Inv.lstM (I : Inv X pins σ H s) (hH : H l = some (.lst xs)) : xs.length ≤ sizeLine ∧ ∃ (its : List Value) (n : Nat), Vals xs its ∧ xs.length = its.length ∧ s.heap.get? l = some { cls := .type "list", data := .seq its.toArray n } := by
 obtain ⟨z, its, n, r, e⟩ := I.hok l _ hH
 exact ⟨z, its, n, r, r.length, e⟩
theorem notLongL {n : Nat} (h : n ≤ sizeLine) : Builtin.List.listTooLong n = false := by
 unfold Builtin.List.listTooLong
 exact decide_eq_false (by omega)
end
section
variable {X : Cx}
def rAppend : V → List V → Hp → VK → Prop := fun x vs H Q => ∃ l xs y, x = .ref l ∧ vs = [y] ∧ H l = some (.lst xs) ∧ xs.length < sizeLine ∧ Q .non (upd H l (.lst (xs ++ [y])))
theorem mt_append : MtM X "list.append" rAppend := by
 intro pins s σ H x vs v us Q I rx rv h
 obtain ⟨l, xs, y, rfl, rfl, hH, hz, q⟩ := h
 cases rx
 obtain ⟨u, rfl, ru⟩ := rv.one
 obtain ⟨z, its, n, r, hl, e⟩ := I.lstM hH
 refine call_meets F.slot_list_append ⟨_, e, rfl⟩ F.entry_list_append (F.args_list_append_2 _ _) (PySem.list_append l its.toArray n u (by rw [List.size_toArray]; omega)) ⟨e, ?_⟩
 refine ⟨.non, _, I.lset (its' := its ++ [u]) hH e (by simp) (r.append (.cons ru .nil)) ?_, rfl, q⟩
 rw [List.length_append, List.length_singleton]
 omega
def rExtend : V → List V → Hp → VK → Prop := fun x vs H Q => ∃ l b xs zs, x = .ref l ∧ vs = [.ref b] ∧ H l = some (.lst xs) ∧ H b = some (.lst zs) ∧ xs.length + zs.length ≤ sizeLine ∧ Q .non (upd H l (.lst (xs ++ zs)))
theorem mt_extend : MtM X "list.extend" rExtend := by
 intro pins s σ H x vs v us Q I rx rv h
 obtain ⟨l, b, xs, zs, rfl, rfl, hH, hB, hz, q⟩ := h
 cases rx
 obtain ⟨u, rfl, ru⟩ := rv.one
 cases ru
 obtain ⟨z, its, n, r, hl, e⟩ := I.lstM hH
 obtain ⟨z2, its2, n2, r2, hl2, e2⟩ := I.lstM hB
 have hsz : its.toArray.size + its2.toArray.size ≤ sizeLine := by rw [List.size_toArray, List.size_toArray]; omega
 have hlong : ¬ (!its.toArray.isEmpty && Builtin.List.listTooLong (its.toArray.size + its2.toArray.size)) = true := by
  rw [notLongL hsz, Bool.and_false]
  exact Bool.false_ne_true
 refine call_meets F.slot_list_extend ⟨_, e, rfl⟩ F.entry_list_extend (F.args_list_extend_2 _ _)
  (AutoSeq1.list_extend_list_list_0 l its.toArray n b its2.toArray n2 hlong (by rw [List.size_toArray]; omega) (by omega)) ⟨e, e2, ?_⟩
 refine ⟨.non, _, I.lset (its' := its ++ its2) hH e (by simp) (r.append r2) ?_, rfl, q⟩
 rw [List.length_append]
 omega
def rPop : V → List V → Hp → VK → Prop := fun x vs H Q => ∃ l xs y, x = .ref l ∧ vs = [] ∧ H l = some (.lst xs) ∧ xs[xs.length - 1]? = some y ∧ Q y (upd H l (.lst xs.dropLast))
theorem mt_pop : MtM X "list.pop" rPop := by
 intro pins s σ H x vs v us Q I rx rv h
 obtain ⟨l, xs, y, rfl, rfl, hH, hy, q⟩ := h
 cases rx
 have hus := rv.zero
 subst hus
 obtain ⟨z, its, n, r, hl, e⟩ := I.lstM hH
 obtain ⟨u, hu, ru⟩ := r.get hy
 have hy' : its.toArray[its.toArray.size - 1]? = some u := by
  show its.toArray[its.length - 1]? = some u
  rw [← Array.getElem?_toList, ← hl]
  exact hu
 refine call_meets F.slot_list_pop ⟨_, e, rfl⟩ F.entry_list_pop (F.args_list_pop_1 _) (MeetsSeq.list_pop_last l its.toArray n u hy' (by rw [List.size_toArray]; omega)) ⟨e, ?_⟩
 refine ⟨y, _, I.lset (its' := its.dropLast) hH e ?_ r.dropLast ?_, ru, q⟩
 ·show its.toArray.eraseIdxIfInBounds (its.toArray.size - 1) = its.dropLast.toArray
  rw [List.size_toArray, List.eraseIdxIfInBounds_toArray, erase_last]
 ·rw [List.length_dropLast]
  omega
def rCat : R2 := fun x y H Q => ∃ l b xs zs, x = .ref l ∧ y = .ref b ∧ H l = some (.lst xs) ∧ H b = some (.lst zs) ∧ xs.length + zs.length ≤ sizeLine ∧ ∀ p, H p = none → Q (.ref p) (upd H p (.lst (xs ++ zs)))
theorem op_cat : OpR X (binaryOp .Add) rCat := by
 intro pins s σ H x y v u Q I rx ry h
 obtain ⟨l, b, xs, zs, rfl, rfl, hH, hB, hz, q⟩ := h
 cases rx
 cases ry
 obtain ⟨z, its, n, r, hl, e⟩ := I.lstM hH
 obtain ⟨z2, its2, n2, r2, hl2, e2⟩ := I.lstM hB
 refine PySem.P.add_list e e2 ?_ (by rw [List.size_toArray, List.size_toArray]; omega)
 have ea : its.toArray ++ its2.toArray = (its ++ its2).toArray := by simp
 rw [ea]
 exact ⟨.ref _, _, I.lnew (t' := s.toks) (r.append r2) (by rw [List.length_append]; omega), rfl, q _ I.fresh⟩
def rRep : R2 := fun x y H Q => ∃ l k xs, x = .ref l ∧ y = .int k ∧ H l = some (.lst xs) ∧ -(2 ^ 63) ≤ k ∧ k < 2 ^ 63 ∧ xs.length * k.toNat ≤ sizeLine ∧
 ∀ p, H p = none → Q (.ref p) (upd H p (.lst (List.replicate k.toNat xs).flatten))
theorem len_rep {α : Type} (xs : List α) (k : Nat) : (List.replicate k xs).flatten.length = k * xs.length := by
 induction k with
 | zero => simp
 | succ k ih => rw [List.replicate_succ, List.flatten_cons, List.length_append, ih, Nat.succ_mul, Nat.add_comm]
theorem op_rep : OpR X (binaryOp .Mult) rRep := by
 intro pins s σ H x y v u Q I rx ry h
 obtain ⟨l, k, xs, rfl, rfl, hH, h1, h2, hz, q⟩ := h
 cases rx
 obtain ⟨t, rfl⟩ := ry
 obtain ⟨z, its, n, r, hl, e⟩ := I.lstM hH
 have hlen : its.toArray.size * k.toNat ≤ sizeLine := by rw [List.size_toArray, ← hl]; exact hz
 have hcap : ¬ its.toArray.size * k.toNat > (2 ^ 63 - 1) / 8 := by
  have : (sizeLine : Nat) ≤ (2 ^ 63 - 1) / 8 := by decide
  omega
 have hfit : ¬ (!Builtin.List.listFitsIndex k) = true := by
  rw [fitsIndex_both h1 h2]
  exact Bool.false_ne_true
 have hlong : ¬ Builtin.List.listTooLong (its.toArray.size * k.toNat) = true := by
  rw [notLongL hlen]
  exact Bool.false_ne_true
 have hnew : List.foldl (fun x1 x2 => x1 ++ x2) #[] (List.replicate (if its.toArray.isEmpty = true then 0 else k.toNat) its.toArray) = (List.replicate k.toNat its).flatten.toArray := by
  have f0 : ∀ m : Nat, List.foldl (fun x1 x2 => x1 ++ x2) #[] (List.replicate m its.toArray) = (List.replicate m its).flatten.toArray := fun m => by
   have := foldl_rep its m []
   rw [List.nil_append] at this
   exact this
  rw [f0]
  cases its with
  | nil => simp
  | cons a r' => rw [if_neg (by simp)]
 refine wpAny_binaryOp_repeat_ref (T := "list") (U := "int") (by decide) ⟨_, e, rfl⟩ (fun s' => typeIs_int s' k t) noFill_list_mul F.fills_int_mul F.slot_int_rmul repeat_list F.slot_int_index.lookup
  (call_meets F.slot_int_rmul (typeIs_int s k t) F.entry_int_rmul (F.args_int_rmul_2 _ _) (int___rmul___int_list k t l its.toArray n)
   ⟨e, rfl, ⟨_, e, rfl⟩, call_meets F.slot_list_mul ⟨_, e, rfl⟩ F.entry_list_mul (F.args_list_mul_2 _ _) (AutoListH.list___mul___list_int_3 l its.toArray n k t hfit hcap hlong) ⟨e, ?_⟩⟩)
 rw [hnew]
 exact ⟨.ref _, _, I.lnew (t' := s.toks) (r.rep k.toNat) (by rw [len_rep, Nat.mul_comm]; exact hz), rfl, q _ I.fresh⟩
end
section
variable {prog : Program} {w : World} {A : Around} {E : Value → Shared → Prop} {s : Shared}
set_option maxRecDepth 100000 in
end
section
variable {X : Cx}
end
end L2
namespace L2
open PySem PySem.Spec PyProof.Rows
theorem Vals.ints : ∀ {ns : List Int} {us : List Value}, Vals (ns.map V.int) us → IntsAre us ns
 | [], us, h => by
  rw [List.map_nil] at h
  cases h
  exact IntsAre.nil
 | n :: ns, us, h => by
  rw [List.map_cons] at h
  cases h with
  | cons r t =>
   obtain ⟨k, rfl⟩ := r
   exact IntsAre.cons n k (Vals.ints t)
theorem Vals.bls : ∀ {bs : List Bool} {us : List Value}, Vals (bs.map V.bl) us → us = bs.map Value.bool
 | [], us, h => by
  rw [List.map_nil] at h
  cases h
  rfl
 | b :: bs, us, h => by
  rw [List.map_cons] at h
  cases h with
  | cons r t =>
   cases r
   rw [Vals.bls t, List.map_cons]
theorem Vals.ref1 {a : Addr} {us : List Value} (r : Vals [V.ref a] us) : us = [Value.ref a] := by
 cases r with
 | cons r t =>
  cases t
  cases r
  rfl
section
variable {prog : Program} {w : World} {A : Around} {E : Value → Shared → Prop} {s : Shared} {l : Addr} {its : List Value} {ns : List Int} {Q : Value → Shared → Prop}
theorem sum_raw (hh : A.handled = none) (hl : s.heap.IsList l its.toArray) (hi : IntsAre its ns)
  (h : ∀ h' tk t', (∀ b o, s.heap.get? b = some o → h'.get? b = some o) → Q (.int ns.sum t') { s with heap := h', toks := tk }) : wpAny (model prog w) A (call (.builtin "sum") [.ref l]) Q E s := by
 obtain ⟨xs, e⟩ := hi.allInts.items
 have hn : numsOf (intItems xs).toList = ns := by rw [← e]; exact hi.numsOf
 rw [nums_intItems] at hn
 rw [e] at hl
 refine PySem.sum_intListG hh hl fun h' tk t' hk => ?_
 have := h h' tk t' hk
 rw [preSum_eq, List.take_of_length_le (by simp), hn]; exact this
theorem max_raw (hh : A.handled = none) (hl : s.heap.IsList l its.toArray) (hi : IntsAre its ns) (hne : 0 < ns.length)
  (h : ∀ h' tk M t', (∀ b o, s.heap.get? b = some o → h'.get? b = some o) → M ∈ ns → (∀ a, a ∈ ns → a ≤ M) → Q (.int M t') { s with heap := h', toks := tk }) : wpAny (model prog w) A (call (.builtin "max") [.ref l]) Q E s := by
 obtain ⟨xs, e⟩ := hi.allInts.items
 have hn : numsOf (intItems xs).toList = ns := by rw [← e]; exact hi.numsOf
 rw [nums_intItems] at hn
 subst hn
 rw [e] at hl
 have hsz : 0 < xs.size := by simpa using hne
 refine PySem.max_intList hh hl hsz fun v h' tk hv hk => ?_
 obtain ⟨t, rfl⟩ := intItems_at hv
 obtain ⟨h1, h2⟩ := argBest_gt (numAt xs) (xs.size - 1)
 refine h h' tk _ t hk ?_ fun a ha => ?_
 ·rw [numAt_eq]; exact PySem.getD_mem (by rw [List.length_map, Array.length_toList]; omega)
 ·obtain ⟨j, hj, rfl⟩ := mem_getD ha
  rw [List.length_map, Array.length_toList] at hj
  rw [← numAt_eq]; exact h2 j (by omega)
end
section
variable {X : Cx}
def rSum (K : PySem.W.Frag) : List V → Hp → VK → Prop := fun vs H Q => ∃ (a : Addr) (ns : List Int), vs = [V.ref a] ∧ SqL K H a (ns.map V.int) ∧ Q (.int ns.sum) H
def rMax (K : PySem.W.Frag) : List V → Hp → VK → Prop := fun vs H Q => ∃ (a : Addr) (ns : List Int), vs = [V.ref a] ∧ SqL K H a (ns.map V.int) ∧ 0 < ns.length ∧ ∀ m, m ∈ ns → (∀ y, y ∈ ns → y ≤ m) → Q (.int m) H
theorem cr_sum (hc : X.calm = true) : CallR X (.builtin "sum") (rSum X.K) := by
 intro pins s σ H vs us Q I r h
 obtain ⟨a, ns, rfl, hs, q⟩ := h
 obtain ⟨its, rv, hl, _⟩ := I.list hs
 rw [Vals.ref1 r]
 exact sum_raw (I.ok.hd hc) hl.isList rv.ints fun h' tk t' hk => ⟨.int _, H, I.kept hk, ⟨_, rfl⟩, q⟩
theorem cr_max (hc : X.calm = true) : CallR X (.builtin "max") (rMax X.K) := by
 intro pins s σ H vs us Q I r h
 obtain ⟨a, ns, rfl, hs, hne, q⟩ := h
 obtain ⟨its, rv, hl, _⟩ := I.list hs
 rw [Vals.ref1 r]
 exact max_raw (I.ok.hd hc) hl.isList rv.ints hne fun h' tk m t' hk h1 h2 => ⟨.int _, H, I.kept hk, ⟨_, rfl⟩, q m h1 h2⟩
end
section
variable {X : Cx}
end
section
variable {X : Cx}
end
theorem iter_any {prog : Program} {w : World} {A : Around} {E : Value → Shared → Prop} {s : Shared} {l : Addr} {items : Array Value} {Q : Value → Shared → Prop} (hl : s.heap.IsList l items)
  (h : ∀ s₂ : Shared, s₂ = { s with heap := s.heap.push { cls := .type "list_iterator", data := .fields #[.ref l, .int 0 0] } } →
   (s₂.heap.IsListIter s.heap.objs.size l 0 ∧ s₂.heap.IsList l items) → l ≠ s.heap.objs.size → Q (.ref s.heap.objs.size) s₂) : wpAny (model prog w) A (pyIter (.ref l)) Q E s := by
 have hlt : l < s.heap.objs.size := by obtain ⟨_, e, _⟩ := hl; exact Heap.lt_size e
 exact wpAny_pyIter_list hl (h _ rfl ⟨⟨_, Heap.get?_push_size _ rfl, rfl, rfl⟩, hl.push _⟩ (Nat.ne_of_lt hlt))
theorem truth_bools {prog : Program} {w : World} {A : Around} {bs : List Bool} {its : List Value} (e : its = bs.map Value.bool) :
  TruthOf prog w A (fun i v => its.toArray[i]? = some v) (fun i => bs.getD i false) := fun i v s Q E hv hq => by
 have hv' : its[i]? = some v := by simpa using hv
 rw [e, List.getElem?_map] at hv'
 obtain ⟨b, hb, rfl⟩ := Option.map_eq_some_iff.mp hv'
 have hg : bs.getD i false = b := by rw [List.getD_eq_getElem?_getD, hb] <;> rfl
 have hq' : Q (bs.getD i false) s := hq
 rw [hg] at hq'
 exact wpAny_truthy_bool hq'
theorem all_range : ∀ bs : List Bool, (List.range bs.length).all (fun i => bs.getD i false) = bs.all id
 | [] => rfl
 | b :: bs => by
  rw [List.length_cons, List.range_succ_eq_map, List.all_cons, List.all_map, List.all_cons, ← all_range bs]
  all_goals rfl
section
variable {X : Cx}
def rAll (K : PySem.W.Frag) : List V → Hp → VK → Prop := fun vs H Q => ∃ (a : Addr) (bs : List Bool), vs = [V.ref a] ∧ SqL K H a (bs.map V.bl) ∧ Q (.bl (bs.all id)) H
theorem cr_all (hc : X.calm = true) : CallR X (.builtin "all") (rAll X.K) := by
 intro pins s σ H vs us Q I r h
 obtain ⟨a, bs, rfl, hs, q⟩ := h
 obtain ⟨its, rv, hl, _⟩ := I.list hs
 rw [Vals.ref1 r]
 have hb := rv.bls
 refine call_all_walk (iter_any hl.isList fun s₂ e2 st hne => ?_)
 subst e2
 refine ⟨_, _, _, _, _, _, _, rfl, Walks.list (A := X.A.in1) (I.ok.hd hc) _ a hne its.toArray, st, truth_bools hb, fun h' tk hk => ?_⟩
 refine ⟨.bl _, H, I.kept fun b o eo => hk b o (fun hmem => ?_) (Heap.get?_push_of_some _ eo), ?_, q⟩
 ·rcases List.mem_cons.mp hmem with e1 | hmem
  ·exact absurd (e1 ▸ Heap.lt_size eo) (Nat.lt_irrefl _)
  ·cases hmem
 ·show Value.bool _ = Value.bool _
  rw [← all_range, hb, List.size_toArray, List.length_map]
end
mutual
inductive Dp (K : PySem.W.Frag) (H : Hp) : V → PyData → Prop
 | non : Dp K H .non .none
 | bl (b : Bool) : Dp K H (.bl b) (.bool b)
 | int (i : Int) : Dp K H (.int i) (.int i)
 | str (x : Str) : Dp K H (.str x) (.str x)
 | lst {a : Addr} {xs : List V} {ds : List PyData} : SqL K H a xs → DpAll K H xs ds → Dp K H (.ref a) (.list ds)
 | tup {a : Addr} {xs : List V} {ds : List PyData} : SqT K H a xs → DpAll K H xs ds → Dp K H (.ref a) (.tuple ds)
inductive DpAll (K : PySem.W.Frag) (H : Hp) : List V → List PyData → Prop
 | nil : DpAll K H [] []
 | cons {v : V} {vs : List V} {d : PyData} {ds : List PyData} : Dp K H v d → DpAll K H vs ds → DpAll K H (v :: vs) (d :: ds)
end
section
variable {X : Cx} {pins : List (Addr × Obj)} {σ : St} {H : Hp} {s : Shared}
mutual
theorem Dp.reads (I : Inv X pins σ H s) : ∀ (d : PyData) (v : V) (u : Value), Dp X.K H v d → RelV v u → ∃ as, Reads s.heap u d as
 | .none, _, _, h, r => by
  cases h
  cases r
  exact ⟨_, Reads.none⟩
 | .bool b, _, _, h, r => by
  cases h
  cases r
  exact ⟨_, Reads.bool b⟩
 | .int i, _, _, h, r => by
  cases h
  obtain ⟨t, rfl⟩ := r
  exact ⟨_, Reads.int i t⟩
 | .str x, _, _, h, r => by
  cases h
  obtain ⟨t, rfl⟩ := r
  exact ⟨_, Reads.str x t⟩
 | .list ds, _, _, h, r => by
  cases h with
  | lst hs ha =>
   cases r
   obtain ⟨its, rv, ⟨o, n, ho, hc, _, hd⟩, _⟩ := I.list hs
   obtain ⟨as, hr⟩ := Dp.readsAll I ds _ its ha rv
   exact ⟨_, Reads.list ho hc hd hr⟩
 | .tuple ds, _, _, h, r => by
  cases h with
  | tup hs ha =>
   cases r
   obtain ⟨its, rv, ⟨o, ho, hc, n, hd⟩, _⟩ := I.tuple hs
   obtain ⟨as, hr⟩ := Dp.readsAll I ds _ its ha rv
   exact ⟨_, Reads.tuple ho hc hd hr⟩
 | .dict _, _, _, h, _ => by cases h
theorem Dp.readsAll (I : Inv X pins σ H s) : ∀ (ds : List PyData) (vs : List V) (us : List Value), DpAll X.K H vs ds → Vals vs us → ∃ as, ReadsAll s.heap us ds as
 | [], _, _, h, r => by
  cases h
  cases r
  exact ⟨_, ReadsAll.nil⟩
 | d :: ds, _, _, h, r => by
  cases h with
  | cons h1 h2 =>
   cases r with
   | cons r1 r2 =>
    obtain ⟨as, q1⟩ := Dp.reads I d _ _ h1 r1
    obtain ⟨bs, q2⟩ := Dp.readsAll I ds _ _ h2 r2
    exact ⟨_, ReadsAll.cons q1 q2⟩
end
end
section
variable {X : Cx}
def rEqD (K : PySem.W.Frag) : R2 := fun x y H Q => ∃ d e, Dp K H x d ∧ Dp K H y e ∧ SeqAt.shaped d = true ∧ SeqAt.shaped e = true ∧ Q (.bl (PyData.eqv d e)) H
theorem op_eqD (hu : X.A.units + 64 < cLine) : OpR X (compareOp .Eq) (rEqD X.K) := by
 intro pins s σ H x y v u Q I rx ry h
 obtain ⟨d, e, hd, he, sd, se, q⟩ := h
 obtain ⟨as, r1⟩ := Dp.reads I d x v hd rx
 obtain ⟨bs, r2⟩ := Dp.reads I e y u he ry
 exact SeqAt.compareEq_shaped r1 r2 sd se hu ⟨.bl _, H, I, rfl, q⟩
end
end L2
namespace L2
open PySem PySem.Spec PyProof.Rows
abbrev CellAt (h : Heap) (c : Addr) (v : Option Value) : Prop := h.IsCell c v
def relS (scope sc : Scope) : Scope :=
 { scope with names := scope.names.map fun (n, k) => if (k == .free && sc.kind == .function && sc.names.lookup n == some .cell) then (n, .cell) else (n, k) }
def cloFrom (cells : List (Str × Addr)) : List (Str × NameKind) → List (Str × Addr) → List (Str × Addr)
 | [], acc => acc
 | (n, k) :: r, acc => if k == .free then cloFrom cells r ((n, (cells.lookup n).getD 0) :: acc) else cloFrom cells r acc
theorem closure_loop (env : Env) (f : Str × NameKind → List (Str × Addr) → Sem (ForInStep (List (Str × Addr))))
  (hf : ∀ n k c, f (n, k) c = if k == .free then (do let a ← cellOf env n; pure (.yield ((n, a) :: c))) else pure (.yield c)) :
  ∀ (names : List (Str × NameKind)) (acc : List (Str × Addr)), (∀ y ∈ names, y.2 = .free → ∃ c, env.cells.lookup y.1 = some c) → forIn names acc f = pure (cloFrom env.cells names acc)
 | [], acc, _ => by rw [List.forIn_nil]; rfl
 | (n, k) :: r, acc, h => by
  rw [List.forIn_cons, hf]
  have ih := fun acc => closure_loop env f hf r acc fun y hy => h y (List.mem_cons_of_mem _ hy)
  unfold cloFrom
  by_cases hk : (k == NameKind.free) = true
  ·rw [if_pos hk, if_pos hk]
   obtain ⟨c, hc⟩ := h (n, k) List.mem_cons_self (by simpa using hk)
   have e : cellOf env n = pure c := by unfold cellOf; rw [hc]
   rw [e]
   have e2 : (env.cells.lookup n).getD 0 = c := by rw [hc]; rfl
   rw [e2]
   exact ih _
  ·rw [if_neg hk, if_neg hk]
   exact ih _
theorem closure_ok {scope : Scope} {env : Env} (h : ∀ y ∈ scope.names, y.2 = .free → ∃ c, env.cells.lookup y.1 = some c) : closureFor scope env = pure (cloFrom env.cells scope.names []) := by
 simp only [closureFor]
 rw [closure_loop env _ (fun n k c => rfl) scope.names [] h]
 rfl
theorem mem_lookup {α : Type} : ∀ {l : List (Str × α)} {n : Str} {c : α}, (n, c) ∈ l → ∃ c', l.lookup n = some c'
 | (k, v) :: r, n, c, h => by
  rw [List.lookup_cons]
  cases hb : n == k with
  | true => exact ⟨_, rfl⟩
  | false =>
   rcases List.mem_cons.mp h with e | h
   ·cases e; simp at hb
   ·exact mem_lookup h
theorem cloFrom_mem {cells : List (Str × Addr)} : ∀ {names : List (Str × NameKind)} {acc : List (Str × Addr)} {n : Str} {c : Addr}, (n, c) ∈ cloFrom cells names acc → (n, c) ∈ acc ∨ ((n, .free) ∈ names ∧ c = (cells.lookup n).getD 0)
 | [], _, _, _, h => .inl h
 | (m, k) :: r, acc, n, c, h => by
  unfold cloFrom at h
  split at h
  ·rename_i hk
   have hk : k = .free := by simpa using hk
   rcases cloFrom_mem h with h | ⟨h1, h2⟩
   ·rcases List.mem_cons.mp h with e | h
    ·cases e; exact .inr ⟨hk ▸ List.mem_cons_self, rfl⟩
    ·exact .inl h
   ·exact .inr ⟨List.mem_cons_of_mem _ h1, h2⟩
  ·rcases cloFrom_mem h with h | ⟨h1, h2⟩
   ·exact .inl h
   ·exact .inr ⟨List.mem_cons_of_mem _ h1, h2⟩
theorem cloFrom_acc {cells : List (Str × Addr)} : ∀ {names : List (Str × NameKind)} {acc : List (Str × Addr)} {p : Str × Addr}, p ∈ acc → p ∈ cloFrom cells names acc
 | [], _, _, h => h
 | (m, k) :: r, acc, p, h => by
  unfold cloFrom
  split
  ·exact cloFrom_acc (List.mem_cons_of_mem _ h)
  ·exact cloFrom_acc h
theorem cloFrom_has {cells : List (Str × Addr)} : ∀ {names : List (Str × NameKind)} {acc : List (Str × Addr)} {n : Str}, (n, .free) ∈ names → (n, (cells.lookup n).getD 0) ∈ cloFrom cells names acc
 | (m, k) :: r, acc, n, h => by
  unfold cloFrom
  rcases List.mem_cons.mp h with e | h
  ·cases e
   exact cloFrom_acc List.mem_cons_self
  ·split
   ·exact cloFrom_has h
   ·exact cloFrom_has h
theorem cells_mem : ∀ {names : List (Str × NameKind)} {h : Heap} {acc : List (Str × Addr)} {x : Str} {c : Addr}, (x, c) ∈ cellsFrom h.objs.size names acc →
  (x, c) ∈ acc ∨ ((x, .cell) ∈ names ∧ h.objs.size ≤ c ∧ CellAt (pushCells h names) c none)
 | [], _, _, _, _, h => .inl h
 | (n, k) :: r, h, acc, x, c, hm => by
  unfold cellsFrom at hm
  unfold pushCells
  split at hm
  ·rename_i hk
   rw [if_pos hk]
   have hk : k = .cell := by simpa using hk
   rw [← Heap.size_push h { cls := .type "cell", data := .cell none }] at hm
   rcases cells_mem hm with hm | ⟨h1, h2, h3⟩
   ·rcases List.mem_cons.mp hm with e | hm
    ·cases e
     exact .inr ⟨hk ▸ List.mem_cons_self, Nat.le_refl _, _, pushCells_keeps r _ _ _ (Heap.get?_push_size _ rfl), rfl⟩
    ·exact .inl hm
   ·rw [Heap.size_push] at h2
    exact .inr ⟨List.mem_cons_of_mem _ h1, Nat.le_of_succ_le h2, h3⟩
  ·rename_i hk
   rw [if_neg hk]
   rcases cells_mem hm with hm | ⟨h1, h2, h3⟩
   ·exact .inl hm
   ·exact .inr ⟨List.mem_cons_of_mem _ h1, h2, h3⟩
theorem cells_acc : ∀ {names : List (Str × NameKind)} {n : Nat} {acc : List (Str × Addr)} {p : Str × Addr}, p ∈ acc → p ∈ cellsFrom n names acc
 | [], _, _, _, h => h
 | (m, k) :: r, n, acc, p, h => by
  unfold cellsFrom
  split
  ·exact cells_acc (List.mem_cons_of_mem _ h)
  ·exact cells_acc h
theorem cells_has : ∀ {names : List (Str × NameKind)} {n : Nat} {acc : List (Str × Addr)} {x : Str}, (x, .cell) ∈ names → ∃ c, (x, c) ∈ cellsFrom n names acc
 | (m, k) :: r, n, acc, x, h => by
  unfold cellsFrom
  rcases List.mem_cons.mp h with e | h
  ·cases e
   exact ⟨n, cells_acc List.mem_cons_self⟩
  ·split
   ·exact cells_has h
   ·exact cells_has h
theorem cells_inj : ∀ {names : List (Str × NameKind)} {h : Heap} {acc : List (Str × Addr)} {x y : Str} {c : Addr}, (∀ p ∈ acc, p.2 < h.objs.size) → (∀ x y c, (x, c) ∈ acc → (y, c) ∈ acc → x = y) →
  (x, c) ∈ cellsFrom h.objs.size names acc → (y, c) ∈ cellsFrom h.objs.size names acc → x = y
 | [], _, _, _, _, _, _, hi, h1, h2 => hi _ _ _ h1 h2
 | (n, k) :: r, h, acc, x, y, c, hl, hi, h1, h2 => by
  unfold cellsFrom at h1 h2
  split at h1
  ·rename_i hk
   rw [if_pos hk] at h2
   rw [← Heap.size_push h { cls := .type "cell", data := .cell none }] at h1 h2
   refine cells_inj (h := h.push _) (fun p hp => ?_) (fun x y c a b => ?_) h1 h2
   ·rw [Heap.size_push]
    rcases List.mem_cons.mp hp with rfl | hp
    ·exact Nat.lt_succ_self _
    ·exact Nat.lt_succ_of_lt (hl p hp)
   ·rcases List.mem_cons.mp a with e | a <;> rcases List.mem_cons.mp b with e' | b
    ·cases e; cases e'; rfl
    ·cases e; exact absurd (hl _ b) (Nat.lt_irrefl _)
    ·cases e'; exact absurd (hl _ a) (Nat.lt_irrefl _)
    ·exact hi _ _ _ a b
  ·rename_i hk
   rw [if_neg hk] at h2
   exact cells_inj hl hi h1 h2
theorem newEnv_comp {M : Model} {A : Around} {E : Value → Shared → Prop} {s : Shared} {scope : Scope} {globals : Addr} {closure : List (Str × Addr)} {qual : Str} {func : Option Addr} {code : Value} {around : Env} {builtins : Addr} {Q : Env → Shared → Prop}
  (h : Q (newEnv scope s.heap.objs.size globals (cellsFrom (s.heap.objs.size + 1) scope.names closure) qual func code (some around) builtins)
   { s with heap := pushCells (s.heap.push { cls := .type "dict", data := .dict #[] }) scope.names }) :
  wpAny M A (newFunctionEnv scope globals closure [] qual func code (some around) builtins) Q E s := by
 simp only [newFunctionEnv, Option.isSome_some, if_true]
 refine wpAny_bind (wpAny_alloc ?_)
 refine wpAny_bind (wpAny_layCells _ (fun n k c => rfl) scope.names closure _ _ ?_)
 rw [show ({ s with heap := s.heap.push { cls := .type "dict", data := .dict #[] } } : Shared).heap.objs.size = s.heap.objs.size + 1 from Heap.size_push ..]
 rw [List.forIn_nil]
 exact wpAny_bind (wpAny_pure (wpAny_pure h))
theorem lookup_relS {sc : Scope} : ∀ {names : List (Str × NameKind)} {x : Str} {k : NameKind},
  (names.map fun (n, k) => if (k == NameKind.free && sc.kind == .function && sc.names.lookup n == some .cell) then (n, NameKind.cell) else (n, k)).lookup x = some k →
  ∃ k', names.lookup x = some k' ∧ (k = k' ∨ (k' = .free ∧ k = .cell))
 | [], _, _, h => by simp at h
 | (n, k₀) :: r, x, k, h => by
  have ih := @lookup_relS sc r x k
  have h' : List.lookup x ((if (k₀ == NameKind.free && sc.kind == .function && sc.names.lookup n == some .cell) = true then (n, NameKind.cell) else (n, k₀)) :: (r.map _)) = some k := h
  cases hx : x == n with
  | true =>
   simp only [List.lookup_cons, hx]
   by_cases hc : (k₀ == NameKind.free && sc.kind == .function && sc.names.lookup n == some .cell) = true
   ·rw [if_pos hc] at h'
    simp only [List.lookup_cons, hx] at h'
    cases h'
    simp only [Bool.and_eq_true, beq_iff_eq] at hc
    exact ⟨k₀, rfl, .inr ⟨hc.1.1, rfl⟩⟩
   ·rw [if_neg hc] at h'
    simp only [List.lookup_cons, hx] at h'
    cases h'
    exact ⟨_, rfl, .inl rfl⟩
  | false =>
   simp only [List.lookup_cons, hx]
   by_cases hc : (k₀ == NameKind.free && sc.kind == .function && sc.names.lookup n == some .cell) = true
   ·rw [if_pos hc] at h'
    simp only [List.lookup_cons, hx] at h'
    exact ih h'
   ·rw [if_neg hc] at h'
    simp only [List.lookup_cons, hx] at h'
    exact ih h'
structure BlkOk (N : List Str) (sc scope : Scope) (own : List (Str × Nat)) : Prop where
 kind : scope.kind = .function
 uniq : ∀ y ∈ scope.names, scope.names.lookup y.1 = some y.2
 ix : ∀ p ∈ own, N[p.2]? = some p.1
 free : ∀ y ∈ scope.names, y.2 = .free → sc.names.lookup y.1 = some .cell ∨ sc.names.lookup y.1 = some .free
 own : ∀ y ∈ scope.names, y.2 = .local ∨ y.2 = .cell → y.1 ∈ own.map (·.1) ∨ y.1 ∉ N
def wipe (σ : St) : List Nat → St
 | [] => σ
 | v :: vs => (wipe σ vs).set v none
theorem wipe_length (σ : St) : ∀ vs : List Nat, (wipe σ vs).length = σ.length
 | [] => rfl
 | v :: vs => by unfold wipe; rw [List.length_set, wipe_length σ vs]
theorem wipe_some {σ : St} {i : Nat} {x : V} : ∀ {vs : List Nat}, (wipe σ vs)[i]? = some (some x) → σ[i]? = some (some x) ∧ i ∉ vs
 | [], h => ⟨h, by simp⟩
 | v :: vs, h => by
  unfold wipe at h
  by_cases hi : v = i
  ·subst hi
   by_cases hv : v < (wipe σ vs).length
   ·rw [List.getElem?_set_self hv] at h; cases h
   ·rw [List.getElem?_eq_none (by simpa using hv)] at h; cases h
  ·rw [List.getElem?_set_ne hi] at h
   obtain ⟨h1, h2⟩ := wipe_some h
   exact ⟨h1, by simp only [List.mem_cons, not_or]; exact ⟨fun e => hi e.symm, h2⟩⟩
abbrev Cx.blk (X : Cx) (s : Shared) (H : Hp) (scope : Scope) (cenv : Env) (fp : List Addr) : Cx := { X with s_0 := s, H_0 := H, env := cenv, outer := X.stack, ex := fp, fn := fun x => scope.names.lookup x == some .cell, pn := [], xe := fun _ _ => False }
section
variable {X : Cx} {pins : List (Addr × Obj)} {σ : St} {H : Hp} {s : Shared}
theorem block_start {scope : Scope} {own : List (Str × Nat)} {fp : List Addr} (I : Inv X pins σ H s) (ok : BlkOk X.N X.env.scope scope own) (hN : X.N.Nodup) (hfp : ∀ b ∈ fp, FpOk X pins H b ∧ b < s.heap.objs.size) :
  Inv (X.blk s H scope (compEnvC scope (cellsFrom (s.heap.objs.size + 1) scope.names (cloFrom X.env.cells scope.names [])) s.heap.objs.size X.env) fp) [] (wipe σ (own.map (·.2))) H { s with heap := pushCells (s.heap.push { cls := .type "dict", data := .dict #[] }) scope.names } := by
 have hfree : ∀ y ∈ scope.names, y.2 = .free → ∃ c, X.env.cells.lookup y.1 = some c := fun y hy e => by
  rcases ok.free y hy e with k | k
  ·exact I.ok.has _ (.inl k)
  ·exact I.ok.has _ (.inr k)
 generalize hcenv : compEnvC scope (cellsFrom (s.heap.objs.size + 1) scope.names (cloFrom X.env.cells scope.names [])) s.heap.objs.size X.env = cenv
 have kp : ∀ b o, s.heap.get? b = some o → (pushCells (s.heap.push { cls := .type "dict", data := .dict #[] }) scope.names).get? b = some o := fun b o e => pushCells_keeps _ _ _ _ (Heap.get?_push_of_some _ e)
 have hL : cenv.locals = s.heap.objs.size := by rw [← hcenv]; rfl
 have hcl : cenv.cells = cellsFrom (s.heap.objs.size + 1) scope.names (cloFrom X.env.cells scope.names []) := by rw [← hcenv]; rfl
 have hsc : cenv.scope = relS scope X.env.scope := by rw [← hcenv]; rfl
 rw [← Heap.size_push s.heap { cls := .type "dict", data := .dict #[] }] at hcl
 have cm : ∀ {y c}, (y, c) ∈ cloFrom X.env.cells scope.names [] → X.env.cells.lookup y = some c ∧ c < s.heap.objs.size := fun {y c} hm => by
  rcases cloFrom_mem hm with hm | ⟨h1, rfl⟩
  ·cases hm
  ·obtain ⟨c, hc⟩ := hfree _ h1 rfl
   rw [hc]
   obtain ⟨w, z⟩ := I.cell _ _ hc
   exact ⟨rfl, z.lt⟩
 have mem : ∀ {y c}, cenv.cells.lookup y = some c → (X.env.cells.lookup y = some c ∧ c < s.heap.objs.size) ∨ (s.heap.objs.size + 1 ≤ c ∧ CellAt (pushCells (s.heap.push { cls := .type "dict", data := .dict #[] }) scope.names) c none) := fun {y c} e => by
  rw [hcl] at e
  rcases cells_mem (PySem.mem_of_lookup e) with hm | ⟨_, h2, h3⟩
  ·exact .inl (cm hm)
  ·rw [Heap.size_push] at h2; exact .inr ⟨h2, h3⟩
 have look : ∀ {y}, scope.names.lookup y = some .free → ∃ c, cenv.cells.lookup y = some c ∧ X.env.cells.lookup y = some c := fun {y} hl => by
  have hy : (y, NameKind.free) ∈ scope.names := PySem.mem_of_lookup hl
  obtain ⟨c', e'⟩ := mem_lookup (cells_acc (names := scope.names) (n := (s.heap.push { cls := .type "dict", data := .dict #[] }).objs.size) (cloFrom_has (cells := X.env.cells) (acc := []) hy))
  rw [← hcl] at e'
  refine ⟨c', e', ?_⟩
  rw [hcl] at e'
  rcases cells_mem (PySem.mem_of_lookup e') with hm | ⟨h1, _, _⟩
  ·exact (cm hm).1
  ·have := ok.uniq _ h1
   rw [hl] at this; cases this
 have okB : (X.blk s H scope cenv fp).Ok := by
  refine ⟨I.ok.mod, by show cenv.scope.kind = _; rw [hsc]; exact ok.kind, by show cenv.globals = _; rw [← hcenv]; exact I.ok.glob, by show cenv.builtins = _; rw [← hcenv]; exact I.ok.blt, by show s.heap.objs.size ≤ cenv.locals; rw [hL]; exact Nat.le_refl _,
   fun y z c e1 e2 => ?_, fun y hy => ?_, fun y c z e => ?_, I.ok.hd, I.ok.frames, .inl rfl, fun b hb => ⟨?_, fun y c e z => ?_⟩, I.bs, Nat.le_trans I.ok.bsz I.sz, fun b o e hb => ?_, fun b hb z => ?_, I.stack, I.stkFree⟩
  ·have e1 : cenv.cells.lookup y = some c := e1
   have e2 : cenv.cells.lookup z = some c := e2
   rw [hcl] at e1 e2
   refine cells_inj (fun p hp => ?_) (fun y z c a b => I.ok.inj y z c (cm a).1 (cm b).1) (PySem.mem_of_lookup e1) (PySem.mem_of_lookup e2)
   rw [Heap.size_push]
   exact Nat.lt_succ_of_lt (cm (y := p.1) (c := p.2) hp).2
  ·show ∃ c, cenv.cells.lookup y = some c
   have key : ∀ k, cenv.kindOf y = some k → (k = .cell ∨ k = .free) → ∃ c, cenv.cells.lookup y = some c := fun k hk hk' => by
    unfold Env.kindOf at hk
    rw [hsc] at hk
    obtain ⟨k', e, r⟩ := lookup_relS hk
    have : k' = .cell ∨ k' = .free := by
     rcases r with rfl | ⟨rfl, _⟩
     ·exact hk'
     ·exact .inr rfl
    rcases this with rfl | rfl
    ·obtain ⟨c, hm⟩ := cells_has (n := (s.heap.push { cls := .type "dict", data := .dict #[] }).objs.size) (acc := cloFrom X.env.cells scope.names []) (PySem.mem_of_lookup e)
     obtain ⟨c', e'⟩ := mem_lookup hm
     exact ⟨c', by rw [hcl]; exact e'⟩
    ·obtain ⟨c, h1, _⟩ := look e
     exact ⟨c, h1⟩
   rcases hy with hy | hy
   ·exact key _ hy (.inl rfl)
   ·exact key _ hy (.inr rfl)
  ·have z : (scope.names.lookup y == some NameKind.cell) = true := z
   have z : scope.names.lookup y = some .cell := by simpa using z
   have e : cenv.cells.lookup y = some c := e
   rw [hcl] at e
   rcases cells_mem (PySem.mem_of_lookup e) with hm | ⟨_, h2, _⟩
   ·rcases cloFrom_mem hm with hm | ⟨h1, _⟩
    ·cases hm
    ·have q := ok.uniq _ h1
     rw [z] at q; cases q
   ·rw [Heap.size_push] at h2
    exact Nat.le_of_succ_le h2
  ·show b ≠ cenv.locals
   rw [hL]; exact Nat.ne_of_lt (hfp b hb).2
  ·have e : cenv.cells.lookup y = some c := e
   rcases mem e with ⟨h1, _⟩ | ⟨h1, _⟩
   ·exact (hfp b hb).1.2.2.2.2.1 y c h1 z
   ·have h2 : s.heap.objs.size + 1 ≤ b := by rw [← z]; exact h1
    exact absurd (Nat.lt_of_lt_of_le (hfp b hb).2 (Nat.le_of_succ_le h2)) (Nat.lt_irrefl _)
  ·rcases (hfp b hb).1.2.2.2.1 with z | z
   ·exact I.ok.noex b o e z
   ·exact absurd (Nat.lt_of_lt_of_le (Heap.lt_size e) (Nat.le_trans I.ok.bsz z)) (Nat.lt_irrefl _)
  ·rcases List.mem_cons.mp (I.stkSub b z) with z | z
   ·exact (hfp b hb).1.2.1 z
   ·exact (hfp b hb).1.2.2.1 z
 refine ⟨okB, rfl, I.bare, Un.kept kp, ⟨fun _ => none, ?_, fun i y av e1 e2 e3 => ?_⟩, fun y c e => ?_, ?_, fun y c e => ?_, fun p hp => ?_, I.hok.kept kp, by rw [wipe_length]; exact I.len⟩
 ·show Heap.Ns _ cenv.locals _
  rw [hL]
  exact Heap.Ns.keeps (Heap.Ns.new ..) fun b o e => pushCells_keeps _ _ _ _ e
 ·obtain ⟨e2, hne⟩ := wipe_some e2
  have hfr : scope.names.lookup y = some .free ∧ (cenv.kindOf y = some .cell ∨ cenv.kindOf y = some .free) := by
   have key : ∀ k, cenv.scope.names.lookup y = some k → k = .local ∨ k = .cell ∨ k = .free → scope.names.lookup y = some .free ∧ (cenv.kindOf y = some .cell ∨ cenv.kindOf y = some .free) := fun k hk hk' => by
    have hk0 := hk
    rw [hsc] at hk
    obtain ⟨k', e, r⟩ := lookup_relS hk
    have no : ¬ (k' = .local ∨ k' = .cell) := fun hh => by
     rcases ok.own _ (PySem.mem_of_lookup e) hh with e' | e'
     ·obtain ⟨p, hp, hpy⟩ := List.mem_map.mp e'
      have e3 := ok.ix p hp
      have : p.1 = y := hpy
      rw [this] at e3
      exact hne (List.mem_map.mpr ⟨p, hp, nodup_ix hN e3 e1⟩)
     ·exact e' (List.mem_of_getElem? e1)
    rcases r with rfl | ⟨rfl, rfl⟩
    ·rcases hk' with rfl | rfl | rfl
     ·exact absurd (.inl rfl) no
     ·exact absurd (.inr rfl) no
     ·exact ⟨e, .inr hk0⟩
    ·exact ⟨e, .inl hk0⟩
   have e3 : Vis cenv.scope y := e3
   rcases e3 with e3 | e3 | e3
   ·exact key _ e3 (.inl rfl)
   ·exact key _ e3 (.inr (.inl rfl))
   ·exact key _ e3 (.inr (.inr rfl))
  obtain ⟨m, hn, hl⟩ := I.loc
  have hvis : Vis X.env.scope y := (ok.free _ (PySem.mem_of_lookup hfr.1) rfl).elim (fun k => .inr (.inl k)) (fun k => .inr (.inr k))
  obtain ⟨w, r, q⟩ := hl i y av e1 e2 hvis
  refine ⟨w, r, .inr ⟨hfr.2, ?_⟩⟩
  obtain ⟨c, h1, h2⟩ := look hfr.1
  rcases q with ⟨k, _⟩ | ⟨_, c', e', z⟩
  ·have k : X.env.scope.names.lookup y = some .local := k
   rcases ok.free _ (PySem.mem_of_lookup hfr.1) rfl with k' | k' <;> rw [show X.env.scope.names.lookup y = _ from k'] at k <;> cases k
  ·rw [h2] at e'; cases e'
   exact ⟨c, h1, z.keeps kp⟩
 ·have e : cenv.cells.lookup y = some c := e
  rcases mem e with ⟨h1, _⟩ | ⟨_, z⟩
  ·obtain ⟨w, z⟩ := I.cell y c h1
   exact ⟨w, z.keeps kp⟩
  ·exact ⟨_, z⟩
 ·show H cenv.locals = none
  rw [hL]; exact I.hok.fresh (Nat.le_refl _)
 ·have e : cenv.cells.lookup y = some c := e
  rcases mem e with ⟨h1, _⟩ | ⟨h1, _⟩
  ·exact I.freeC y c h1
  ·exact I.hok.fresh (Nat.le_of_succ_le h1)
 ·exact absurd (show p ∈ ([] : List (Addr × Obj)) ++ [] from hp) (by simp)
theorem app_ok {E : Value → Shared → Prop} {D : Addr} {xs : List V} {y : V} {v : Value} {Q : Value → Shared → Prop} (I : Inv X pins σ H s) (hD : H D = some (.lst xs)) (hz : xs.length < sizeLine) (r : RelV y v)
  (h : ∀ s', Inv X pins σ (upd H D (.lst (xs ++ [y]))) s' → Q .none s') : wpAny (model X.prog X.w) X.A (call (.builtin "list.append") [.ref D, v]) Q E s := by
 obtain ⟨hz', its, n, ri, e⟩ := I.hok D _ hD
 have hl := ri.length
 refine append_at (hsz := by rw [List.size_toArray]; omega) e fun h' sb ho' => ?_
 refine h { s with heap := h' } (I.write (t' := s.toks) (by rw [hD]; trivial) (.inl rfl) (fun b u hb q => (sb.2 b hb).trans q) ⟨_, ho'⟩ ⟨by rw [List.length_append]; exact hz, its ++ [v], n + 1, ri.append (.cons r .nil), ?_⟩)
 rw [ho']
 simp
def PTs (X : Cx) (ifs : List Expr) (t : TT) : Prop :=
 ∀ (pins : List (Addr × Obj)) (s : Shared) (σ : St) (H : Hp) (Q : Bool → Hp → Prop), Inv X pins σ H s → t σ H Q →
  wpAny (model X.prog X.w) X.A (forIn ifs true fun c r => if r = true then do let ok ← isTrue c X.env (eval c X.env); pure (ForInStep.yield ok) else pure (ForInStep.yield r)) (TP X pins σ Q) X.xe s
def tYes : TT := fun _ H Q => Q true H
theorem pts_nil : PTs X [] tYes := fun _ _ _ H _ I h => wpAny_tests_nil ⟨H, I, h⟩
theorem pts_one {c : Expr} {t : TT} (h : PT X c t) : PTs X [c] t := fun pins s σ H Q I hw => wpAny_tests_one (h pins s σ H Q I hw)
end
theorem thnF {α : Type} {t : Sem α} {Q Q' : α → Shared → Prop} {M : Model} {A : Around} {E : Value → Shared → Prop} {s : Shared} (h : wpAny M A t Q (fun _ _ => False) s) (hQ : ∀ a s, Q a s → Q' a s) : wpAny M A t Q' E s := wpAny_mono h hQ fun _ _ z => False.elim z
theorem compLoop_any {prog : Program} {w : World} {A : Around} {R : Result → Shared → Prop} {s : Shared} {elt target iter : Expr} {ifs : List Expr} {scope : Scope} {pos : Pos} {it acc : Value} {env : Env} (I : Nat → Shared → Prop)
  (turn : ∀ n s, I n s → wpAny (model prog w) A (pyNext it) (fun r s₁ => match r with
   | none => R (.ok .next) s₁
   | some v => wpAny (model prog w) A (letOwnedTupleGo target it v) (fun _ s₁' => wpAny (model prog w) A (assign target env v) (fun _ s₂ =>
     wpAny (model prog w) A (forIn ifs true fun c r => if r = true then do let ok ← isTrue c env (eval c env); pure (ForInStep.yield ok) else pure (ForInStep.yield r)) (fun ok s₃ =>
      if ok = true then wpAny (model prog w) A (eval elt env) (fun x s₄ =>
       wpAny (model prog w) A (call (.builtin "list.append") [acc, x]) (fun _ s₅ => ∃ m, m < n ∧ I m s₅) (notedBy (model prog w) A env fun e s' => R (.error e) s') s₄) (notedBy (model prog w) A env fun e s' => R (.error e) s') s₃
      else ∃ m, m < n ∧ I m s₃) (notedBy (model prog w) A env fun e s' => R (.error e) s') s₂) (notedBy (model prog w) A env fun e s' => R (.error e) s') s₁') (notedBy (model prog w) A env fun e s' => R (.error e) s') s₁) (notedBy (model prog w) A env fun e s' => R (.error e) s') s)
  (n : Nat) (h : I n s) :
  codeAny (model prog w) A (.compLoop (.ListComp elt [⟨target, iter, ifs, 0⟩] scope pos) 0 it acc env) R s := by
 refine codeAny_loop rfl I (fun n s hI => ?_) n h
 show wpAny _ A ((compTurn (.ListComp elt [⟨target, iter, ifs, 0⟩] scope pos) 0 it acc env).onRaise (fun x => do noteFrame x env; theTreesLotGoes x)) _ _ s
 refine wpAny_noted ?_
 rw [compTurn_list]
 refine wpAny_bind (wpAny_standAt (wpAny_bind (wpAny_mono (turn n s hI) (fun r s₁ h₁ => ?_) fun _ _ h' => h')))
 cases r with
 | none => exact wpAny_pure h₁
 | some v =>
  refine wpAny_bind (wpAny_mono h₁ (fun _ s₁' h₁' => ?_) fun _ _ h' => h')
  refine wpAny_bind (wpAny_mono h₁' (fun _ s₂ h₂ => wpAny_bind (wpAny_mono h₂ (fun ok s₃ h₃ => ?_) fun _ _ h' => h')) fun _ _ h' => h')
  cases ok with
  | false => exact wpAny_pure ⟨rfl, h₃⟩
  | true =>
   exact wpAny_bind (wpAny_bind (wpAny_mono h₃ (fun x s₄ h₄ => wpAny_bind (wpAny_mono h₄ (fun _ s₅ h₅ => wpAny_pure (wpAny_pure ⟨rfl, h₅⟩)) fun _ _ h' => h')) fun _ _ h' => h'))
section
variable {X : Cx}
def tLc (wi : TI) (g : TG) (tt : TT) (te : TE) (vs : List Nat) : TE := fun σ H Q => wi σ H fun J H1 => ∀ D, H1 D = none → ∃ W : Nat → Nat → Hp → Prop, (∃ m, W 0 m (upd H1 D (.lst []))) ∧ ∀ i m H, W i m H →
 (J.stop i H ∧ Q (.ref D) H) ∨ (J.go i H ∧ ∃ Nx : Hp → Prop, (∀ H', Nx H' → ∃ m', m' < m ∧ W (i + 1) m' H') ∧ ∀ x H', J.yld i H x H' → g x (wipe σ vs) H' fun σ2 H2 => wipe σ2 vs = wipe σ vs ∧ tt σ2 H2 fun b H3 =>
  if b = true then te σ2 H3 fun y H4 => ∃ acc, H4 D = some (.lst acc) ∧ acc.length < sizeLine ∧ Nx (upd H4 D (.lst (acc ++ [y]))) else Nx H3)
theorem lc_core {pins : List (Addr × Obj)} {s : Shared} {σ : St} {H : Hp} {Q : VK} {elt tg iter : Expr} {ifs : List Expr} {scope : Scope} {own : List (Str × Nat)} {pos pos' : Pos} {wi : TI} {g : TG} {tt : TT} {te : TE} {use : Option (Value → Sem Unit)} {Qf : Value → Shared → Prop}
  (hc : X.calm = true) (hN : X.N.Nodup) (I : Inv X pins σ H s) (hi : PI X tg iter wi) (ok : BlkOk X.N X.env.scope scope own)
  (hg : ∀ (s : Shared) (H : Hp) (C : Addr) (cl : List (Str × Addr)) (fp : List Addr), PG (X.blk s H scope (compEnvC scope cl C X.env) fp) tg g) (ht : ∀ (s : Shared) (H : Hp) (C : Addr) (cl : List (Str × Addr)) (fp : List Addr), PTs (X.blk s H scope (compEnvC scope cl C X.env) fp) ifs tt)
  (he : ∀ (s : Shared) (H : Hp) (C : Addr) (cl : List (Str × Addr)) (fp : List Addr), PE (X.blk s H scope (compEnvC scope cl C X.env) fp) elt te) (hs : ∀ x, foldedSetIterable iter X.env x = pure x)
  (h : tLc wi g tt te (own.map (·.2)) σ H Q)
  (hRR : ∀ D C s' m H', Inv X pins σ H' s' → Q (.ref D) H' → s'.heap.Ns C m → FpOk X pins H' C → compPost (model X.prog X.w) X.A X.xe use Qf (.ref D) C (.ok .next) s') :
  wpAny (model X.prog X.w) X.A (comprehension (.ListComp elt [⟨tg, iter, ifs, 0⟩] scope pos) scope X.env pos' (newList []) false (eval iter X.env) use) Qf X.xe s := by
 have hfree : ∀ y ∈ scope.names, y.2 = .free → ∃ c, X.env.cells.lookup y.1 = some c := fun y hy e => by
  rcases ok.free y hy e with k | k
  ·exact I.ok.has _ (.inl k)
  ·exact I.ok.has _ (.inr k)
 refine wpAny_comprehension_free (use := use) rfl hs (closure_ok hfree) ok.kind (fun y hy e => by rw [ok.uniq y hy, e])
  (thn (hi pins s σ H _ I h) fun xv s1 hx => thn hx fun itv s2 h2 => ?_)
 obtain ⟨it, fp, tn, J, H2, e, I2, T, st2, f2, q⟩ := h2
 subst e
 refine wpAny_newObj_type (newEnv_comp ?_) (by show 0 ≤ sizeLine; decide)
 generalize hD : s2.heap.objs.size = D
 have hDn : H2 D = none := I2.hok.fresh (Nat.le_of_eq hD)
 obtain ⟨W, ⟨m0, w0⟩, turn⟩ := q D hDn
 generalize hs3 : ({ s2 with heap := s2.heap.push { cls := .type "list", data := .seq ([] : List Value).toArray } } : Shared) = s3
 have I3 : Inv X pins σ (upd H2 D (.lst [])) s3 := by
  rw [← hs3]
  refine I2.laid (t' := s2.toks) (fun b o e => Heap.get?_push_of_some _ e) (Nat.le_of_eq hD) ⟨Nat.zero_le _, [], 0, .nil, ?_⟩
  rw [← hD]
  exact Heap.get?_push_size _ rfl
 have h3 : s3.heap = s2.heap.push { cls := .type "list", data := .seq ([] : List Value).toArray } := by rw [← hs3]
 have sz : ∀ b ∈ fp, b < s2.heap.objs.size := fun b hb => by
  obtain ⟨o, e, _⟩ := T.obj _ _ st2 b hb
  exact Heap.lt_size e
 have f3 : ∀ b ∈ fp, FpOk X pins (upd H2 D (.lst [])) b ∧ b < s3.heap.objs.size := fun b hb => by
  have hlt := sz b hb
  refine ⟨⟨?_, (f2 b hb).2⟩, by rw [h3, Heap.size_push]; exact Nat.lt_succ_of_lt hlt⟩
  rw [upd_ne (by rw [← hD]; exact Nat.ne_of_lt hlt)]
  exact (f2 b hb).1
 have st3 : tn 0 s3.heap := T.keep _ _ _ st2 fun b _ o e => by rw [h3]; exact Heap.get?_push_of_some _ e
 have I4 := block_start I3 ok hN f3
 have pg := hg s3 (upd H2 D (.lst [])) s3.heap.objs.size (cellsFrom (s3.heap.objs.size + 1) scope.names (cloFrom X.env.cells scope.names [])) fp
 have pt := ht s3 (upd H2 D (.lst [])) s3.heap.objs.size (cellsFrom (s3.heap.objs.size + 1) scope.names (cloFrom X.env.cells scope.names [])) fp
 have pe := he s3 (upd H2 D (.lst [])) s3.heap.objs.size (cellsFrom (s3.heap.objs.size + 1) scope.names (cloFrom X.env.cells scope.names [])) fp
 show codeAny _ _ (.compStart (.ListComp elt [⟨tg, iter, ifs, 0⟩] scope pos) 0 (.ref it) (.ref D) (compEnvC scope (cellsFrom (s3.heap.objs.size + 1) scope.names (cloFrom X.env.cells scope.names [])) s3.heap.objs.size X.env)) (compPost (model X.prog X.w) X.A X.xe use Qf (.ref D) s3.heap.objs.size) { s3 with heap := pushCells (s3.heap.push { cls := .type "dict", data := .dict #[] }) scope.names }
 have nfp : ∀ b ∈ fp, (upd H2 D (.lst [])) b = none := fun b hb => (f3 b hb).1.1
 generalize hce : compEnvC scope (cellsFrom (s3.heap.objs.size + 1) scope.names (cloFrom X.env.cells scope.names [])) s3.heap.objs.size X.env = ce at I4 pg pt pe ⊢
 have cL : ce.locals = s3.heap.objs.size := by subst hce; rfl
 generalize hH3 : upd H2 D (.lst []) = H3 at I3 I4 pg pt pe w0 nfp f3
 generalize hs4 : ({ s3 with heap := pushCells (s3.heap.push { cls := .type "dict", data := .dict #[] }) scope.names } : Shared) = s4 at I4 ⊢
 have st4 : tn 0 s4.heap := T.keep _ _ _ st3 fun b _ o e => by rw [← hs4]; exact pushCells_keeps _ _ _ _ (Heap.get?_push_of_some _ e)
 have stat : ∀ {σ' : St} {H' : Hp} {s' : Shared}, Inv (X.blk s3 H3 scope ce fp) [] σ' H' s' → (∀ b ∈ fp, H' b = none) → ∀ b ∈ fp, FpOk (X.blk s3 H3 scope ce fp) [] H' b := fun {σ' H' s'} I' hn b hb =>
  ⟨hn b hb, (I'.ok.exf b hb).1, I'.ok.exfs b hb, .inl hb, fun x c e => (I'.ok.exf b hb).2 x c e, fun p hp => absurd (show p ∈ ([] : List (Addr × Obj)) ++ [] from hp) (by simp)⟩
 have loop : codeAny (model X.prog X.w) X.A (.compLoop (.ListComp elt [⟨tg, iter, ifs, 0⟩] scope pos) 0 (.ref it) (.ref D) ce) (compPost (model X.prog X.w) X.A X.xe use Qf (.ref D) s3.heap.objs.size) s4 := by
  refine compLoop_any (fun n s' => ∃ i H', Inv (X.blk s3 H3 scope ce fp) [] (wipe σ (own.map (·.2))) H' s' ∧ tn i s'.heap ∧ (∀ b ∈ fp, H' b = none) ∧ W i n H') ?_ m0 ⟨0, H3, I4, st4, nfp, w0⟩
  rintro n s5 ⟨i, H5, I5, st5, n5, w5⟩
  rcases turn i n H5 w5 with ⟨stop, qq⟩ | ⟨go, Nx, hNx, step⟩
  ·have td := T.done (X.blk s3 H3 scope ce fp) rfl rfl rfl hc i [] s5 _ H5 (fun _ _ => False) I5 (stat I5 n5) st5 stop
   refine thnF td fun r s6 ⟨hr, I6⟩ => ?_
   subst hr
   have I7 : Inv X pins σ H5 s6 := I3.call' (ch := fp) I6.os I6.base I6.hok I6.bare fun b hb => ⟨(f3 b hb).1.2.2.2.1, (f3 b hb).1.2.1, (f3 b hb).1.2.2.2.2.1, (f3 b hb).1.2.2.2.2.2⟩
   have nC : H5 s3.heap.objs.size = none := by
    have z : H5 ce.locals = none := I6.free
    rw [cL] at z
    exact z
   obtain ⟨m, hn, _⟩ := I6.loc
   have hn : s6.heap.Ns ce.locals m := hn
   rw [cL] at hn
   exact hRR D s3.heap.objs.size s6 m H5 I7 qq hn (I3.fpOk (Nat.le_refl _) nC)
  ·have ti := T.item (X.blk s3 H3 scope ce fp) rfl rfl rfl hc i [] s5 _ H5 (fun _ _ => False) I5 (stat I5 n5) st5 go
   refine thnF ti fun r s6 ⟨u, hr, h6⟩ => ?_
   subst hr
   refine thnF h6 fun _ s7 ⟨x, H7, I7, r7, y7, st7, n7⟩ => ?_
   have I7' := I7.pinned (stat I7 n7) (T.obj _ _ st7)
   refine thnF (pg _ s7 _ H7 x u _ I7' r7 (step x H7 y7)) fun _ s8 ⟨σ8, H8, I8, hw8, q8⟩ => ?_
   refine thnF (pt _ s8 σ8 H8 _ I8 q8) fun b s9 ⟨H9, I9, q9⟩ => ?_
   have fin : ∀ {s' : Shared} {H' : Hp}, Inv (X.blk s3 H3 scope ce fp) ([] ++ pinsAt fp s7.heap) σ8 H' s' → Nx H' → ∃ m, m < n ∧ ∃ i H', Inv (X.blk s3 H3 scope ce fp) [] (wipe σ (own.map (·.2))) H' s' ∧ tn i s'.heap ∧ (∀ b ∈ fp, H' b = none) ∧ W i m H' := fun {s' H'} I' nx => by
    obtain ⟨m', hm, w'⟩ := hNx H' nx
    have pin' : ∀ b ∈ fp, ∀ o, s7.heap.get? b = some o → s'.heap.get? b = some o ∧ H' b = none := fun b hb o e =>
     let z := I'.pin (b, o) (List.mem_append_right _ (List.mem_append_right _ (mem_pinsAt hb e)))
     ⟨z.1, z.2.1⟩
    have hl : (wipe σ (own.map (·.2))).length = σ8.length := by rw [← hw8, wipe_length]
    refine ⟨m', hm, i + 1, H', (I'.unpinned (pins := [])).weak hl (fun j v e => ?_), T.keep _ _ _ st7 fun b hb o e => (pin' b hb o e).1, fun b hb => ?_, w'⟩
    ·rw [← hw8] at e
     exact (wipe_some e).1
    ·obtain ⟨o, e, _⟩ := T.obj _ _ st7 b hb
     exact (pin' b hb o e).2
   cases b with
   | false =>
    simp only [Bool.false_eq_true, if_false] at q9 ⊢
    exact fin I9 q9
   | true =>
    simp only [if_true] at q9 ⊢
    refine thnF (pe _ s9 σ8 H9 _ I9 q9) fun z s10 ⟨yv, H10, I10, r10, acc, hD10, hz10, nx⟩ => ?_
    exact app_ok (X := X.blk s3 H3 scope ce fp) I10 hD10 hz10 r10 fun s11 I11 => fin I11 nx
 exact codeAny_compStart_list loop (T.self X.A 0 _ _ _ st4 loop)
theorem pe_lc {elt tg iter : Expr} {ifs : List Expr} {scope : Scope} {own : List (Str × Nat)} {pos : Pos} {wi : TI} {g : TG} {tt : TT} {te : TE} (hc : X.calm = true) (hN : X.N.Nodup) (hi : PI X tg iter wi) (ok : BlkOk X.N X.env.scope scope own)
  (hg : ∀ (s : Shared) (H : Hp) (C : Addr) (cl : List (Str × Addr)) (fp : List Addr), PG (X.blk s H scope (compEnvC scope cl C X.env) fp) tg g) (ht : ∀ (s : Shared) (H : Hp) (C : Addr) (cl : List (Str × Addr)) (fp : List Addr), PTs (X.blk s H scope (compEnvC scope cl C X.env) fp) ifs tt)
  (he : ∀ (s : Shared) (H : Hp) (C : Addr) (cl : List (Str × Addr)) (fp : List Addr), PE (X.blk s H scope (compEnvC scope cl C X.env) fp) elt te) (hs : ∀ x, foldedSetIterable iter X.env x = pure x := by intro _; rfl) :
  PE X (.ListComp elt [⟨tg, iter, ifs, 0⟩] scope pos) (tLc wi g tt te (own.map (·.2))) := by
 intro pins s σ H Q I h
 rw [eval_ListComp]
 refine lc_core hc hN I hi ok hg ht he hs h fun D C s' m H' I' q hn f => ⟨m, hn, fun h'' sb => ?_⟩
 obtain ⟨f0, f1, f2, f3, f4, f5⟩ := f
 exact ⟨.ref D, H', I'.turned (t' := s'.toks) (fun b o hb e => (sb.2 b hb).trans e) f0 f1 f3 f4 f5, rfl, q⟩
theorem ps_setLc {i : Nat} {y : Str} {py : Pos} {elt tg iter : Expr} {ifs : List Expr} {scope : Scope} {own : List (Str × Nat)} {pos spos : Pos} {wi : TI} {g : TG} {tt : TT} {te : TE} (hc : X.calm = true) (hN : X.N.Nodup) (hy : X.N[i]? = some y) (hyl : X.env.scope.names.lookup y = some .local)
  (hsw : swapsWith (.ListComp elt [⟨tg, iter, ifs, 0⟩] scope pos) (some (.Name y py)) spos.line X.env = pure true) (hi : PI X tg iter wi) (ok : BlkOk X.N X.env.scope scope own)
  (hg : ∀ (s : Shared) (H : Hp) (C : Addr) (cl : List (Str × Addr)) (fp : List Addr), PG (X.blk s H scope (compEnvC scope cl C X.env) fp) tg g) (ht : ∀ (s : Shared) (H : Hp) (C : Addr) (cl : List (Str × Addr)) (fp : List Addr), PTs (X.blk s H scope (compEnvC scope cl C X.env) fp) ifs tt)
  (he : ∀ (s : Shared) (H : Hp) (C : Addr) (cl : List (Str × Addr)) (fp : List Addr), PE (X.blk s H scope (compEnvC scope cl C X.env) fp) elt te) (hs : ∀ x, foldedSetIterable iter X.env x = pure x := by intro _; rfl) :
  PS X (.Assign [.Name y py] (.ListComp elt [⟨tg, iter, ifs, 0⟩] scope pos) spos) (tAsg (tLc wi g tt te (own.map (·.2))) (gName i)) := by
 intro pins s σ H D I h
 rw [exec_Assign_Name_used _ _ _ _ hsw]
 refine wpAny_bind (wpAny_standAt (wpAny_bind ?_))
 show wpAny _ X.A (do let _ ← comprehension (.ListComp elt [⟨tg, iter, ifs, 0⟩] scope pos) scope X.env (firstIterPos [⟨tg, iter, ifs, 0⟩] pos) (newList []) false (eval iter X.env) (some (assign (.Name y py) X.env))) _ _ s
 have h : tLc wi g tt te (own.map (·.2)) σ H (fun x H1 => gName i x σ H1 D.nx) := h
 refine wpAny_bind (thn (lc_core (Qf := fun _ s' => SP X pins D .next s') hc hN I hi ok hg ht he hs h fun L C s' m H' I' q hn f => ?_) fun _ s' hq => wpAny_pure (wpAny_pure hq))
 show wpAny _ _ (assign (.Name y py) X.env (.ref L)) _ _ _
 refine wpAny_assign_Name (store_ok2 (v := V.ref L) I' hN hy (.inl hyl) rfl (fun s2 I2 ⟨a, sb, ha⟩ => ?_) (.inr hyl))
 obtain ⟨f0, f1, f2, f3, f4, f5⟩ := f
 have haC : C ≠ a := by
  rcases ha with z | z
  ·rw [z]; exact f1
  ·exact fun e => f4 y a z e.symm
 refine ⟨m, hn.sameBut sb haC, fun h3 sb3 => ?_⟩
 exact ⟨_, H', I2.turned (t' := s2.toks) (fun b o hb e => (sb3.2 b hb).trans e) f0 f1 f3 f4 f5, q⟩
theorem sw_true {elt : Expr} {gs : List Comprehension} {scope : Scope} {pos py : Pos} {y : Str} {l : Nat} {env : Env} (hk : env.scope.kind = .function) (hy : env.scope.names.lookup y = some .local) (hl : (py.line == pos.line) = true)
  (ha : (scope.names.any fun (n, k) => n == y && (k == .local || k == .cell)) = false) : swapsWith (.ListComp elt gs scope pos) (some (.Name y py)) l env = pure true := by
 have ky : env.kindOf y = some .local := hy
 have hb : env.blockKind = .function := by unfold Env.blockKind; rw [hk]; rfl
 unfold swapsWith
 simp only [hb, ky, ha, Expr.pos, hl]
 rfl
end
theorem lc_range {lo : Int} {n : Nat} {g : TG} {tt : TT} {te : TE} {vs : List Nat} {σ : St} {H1 : Hp} {D : Addr} {Qd : Hp → Prop} (Pv : Nat → Hp → Prop) (h0 : Pv 0 (upd H1 D (.lst [])))
  (hs : ∀ i H, i < n → Pv i H → g (.int (lo + i)) (wipe σ vs) H fun σ2 H2 => wipe σ2 vs = wipe σ vs ∧ tt σ2 H2 fun b H3 =>
   if b = true then te σ2 H3 fun y H4 => ∃ acc, H4 D = some (.lst acc) ∧ acc.length < sizeLine ∧ Pv (i + 1) (upd H4 D (.lst (acc ++ [y]))) else Pv (i + 1) H3) (hd : ∀ H, Pv n H → Qd H) :
  ∃ W : Nat → Nat → Hp → Prop, (∃ m, W 0 m (upd H1 D (.lst []))) ∧ ∀ i m H, W i m H →
   ((Itr lo n).stop i H ∧ Qd H) ∨ ((Itr lo n).go i H ∧ ∃ Nx : Hp → Prop, (∀ H', Nx H' → ∃ m', m' < m ∧ W (i + 1) m' H') ∧ ∀ x H', (Itr lo n).yld i H x H' → g x (wipe σ vs) H' fun σ2 H2 => wipe σ2 vs = wipe σ vs ∧ tt σ2 H2 fun b H3 =>
    if b = true then te σ2 H3 fun y H4 => ∃ acc, H4 D = some (.lst acc) ∧ acc.length < sizeLine ∧ Nx (upd H4 D (.lst (acc ++ [y]))) else Nx H3) := by
 refine ⟨fun i m H => m = n - i ∧ i ≤ n ∧ Pv i H, ⟨n, by simp, Nat.zero_le _, h0⟩, ?_⟩
 rintro i m H ⟨rfl, hi, p⟩
 by_cases hlt : i < n
 ·refine .inr ⟨hlt, Pv (i + 1), fun H' p' => ⟨n - (i + 1), by omega, rfl, hlt, p'⟩, fun x H' y => ?_⟩
  obtain ⟨e, y⟩ := y
  subst e y
  exact hs i _ hlt p
 ·have e : i = n := by omega
  subst e
  exact .inl ⟨Nat.le_refl _, hd H p⟩
theorem lc_list {K : PySem.W.Frag} {a : Addr} {xs : List V} {g : TG} {tt : TT} {te : TE} {vs : List Nat} {σ : St} {H1 : Hp} {D : Addr} {Qd : Hp → Prop} (Pv : Nat → Hp → Prop) (h0 : Pv 0 (upd H1 D (.lst []))) (hl : ∀ i H, i ≤ xs.length → Pv i H → SqL K H a xs)
  (hs : ∀ i x H, xs[i]? = some x → Pv i H → g x (wipe σ vs) H fun σ2 H2 => wipe σ2 vs = wipe σ vs ∧ tt σ2 H2 fun b H3 =>
   if b = true then te σ2 H3 fun y H4 => ∃ acc, H4 D = some (.lst acc) ∧ acc.length < sizeLine ∧ Pv (i + 1) (upd H4 D (.lst (acc ++ [y]))) else Pv (i + 1) H3) (hd : ∀ H, Pv xs.length H → Qd H) :
  ∃ W : Nat → Nat → Hp → Prop, (∃ m, W 0 m (upd H1 D (.lst []))) ∧ ∀ i m H, W i m H →
   ((Itl K a).stop i H ∧ Qd H) ∨ ((Itl K a).go i H ∧ ∃ Nx : Hp → Prop, (∀ H', Nx H' → ∃ m', m' < m ∧ W (i + 1) m' H') ∧ ∀ x H', (Itl K a).yld i H x H' → g x (wipe σ vs) H' fun σ2 H2 => wipe σ2 vs = wipe σ vs ∧ tt σ2 H2 fun b H3 =>
    if b = true then te σ2 H3 fun y H4 => ∃ acc, H4 D = some (.lst acc) ∧ acc.length < sizeLine ∧ Nx (upd H4 D (.lst (acc ++ [y]))) else Nx H3) := by
 refine ⟨fun i m H => m = xs.length - i ∧ i ≤ xs.length ∧ Pv i H, ⟨xs.length, by simp, Nat.zero_le _, h0⟩, ?_⟩
 rintro i m H ⟨rfl, hi, p⟩
 have q := hl i H hi p
 by_cases hlt : i < xs.length
 ·refine .inr ⟨⟨xs, xs[i], q, by simp [hlt]⟩, Pv (i + 1), fun H' p' => ⟨xs.length - (i + 1), by omega, rfl, hlt, p'⟩, fun x H' y => ?_⟩
  obtain ⟨e, y⟩ := y
  subst e
  exact hs i x _ (y xs q) p
 ·have e : i = xs.length := by omega
  subst e
  exact .inl ⟨⟨xs, q, Nat.le_refl _⟩, hd H p⟩
theorem lc_tup {K : PySem.W.Frag} {a : Addr} {xs : List V} {g : TG} {tt : TT} {te : TE} {vs : List Nat} {σ : St} {H1 : Hp} {D : Addr} {Qd : Hp → Prop} (Pv : Nat → Hp → Prop) (h0 : Pv 0 (upd H1 D (.lst []))) (hl : ∀ i H, i ≤ xs.length → Pv i H → SqT K H a xs)
  (hs : ∀ i x H, xs[i]? = some x → Pv i H → g x (wipe σ vs) H fun σ2 H2 => wipe σ2 vs = wipe σ vs ∧ tt σ2 H2 fun b H3 =>
   if b = true then te σ2 H3 fun y H4 => ∃ acc, H4 D = some (.lst acc) ∧ acc.length < sizeLine ∧ Pv (i + 1) (upd H4 D (.lst (acc ++ [y]))) else Pv (i + 1) H3) (hd : ∀ H, Pv xs.length H → Qd H) :
  ∃ W : Nat → Nat → Hp → Prop, (∃ m, W 0 m (upd H1 D (.lst []))) ∧ ∀ i m H, W i m H →
   ((Itt K a).stop i H ∧ Qd H) ∨ ((Itt K a).go i H ∧ ∃ Nx : Hp → Prop, (∀ H', Nx H' → ∃ m', m' < m ∧ W (i + 1) m' H') ∧ ∀ x H', (Itt K a).yld i H x H' → g x (wipe σ vs) H' fun σ2 H2 => wipe σ2 vs = wipe σ vs ∧ tt σ2 H2 fun b H3 =>
    if b = true then te σ2 H3 fun y H4 => ∃ acc, H4 D = some (.lst acc) ∧ acc.length < sizeLine ∧ Nx (upd H4 D (.lst (acc ++ [y]))) else Nx H3) := by
 refine ⟨fun i m H => m = xs.length - i ∧ i ≤ xs.length ∧ Pv i H, ⟨xs.length, by simp, Nat.zero_le _, h0⟩, ?_⟩
 rintro i m H ⟨rfl, hi, p⟩
 have q := hl i H hi p
 by_cases hlt : i < xs.length
 ·refine .inr ⟨⟨xs, xs[i], q, by simp [hlt]⟩, Pv (i + 1), fun H' p' => ⟨xs.length - (i + 1), by omega, rfl, hlt, p'⟩, fun x H' y => ?_⟩
  obtain ⟨e, y⟩ := y
  subst e
  exact hs i x _ (y xs q) p
 ·have e : i = xs.length := by omega
  subst e
  exact .inl ⟨⟨xs, q, Nat.le_refl _⟩, hd H p⟩
def blkC (N : List Str) (sc scope : Scope) (own : List (Str × Nat)) : Bool :=
 (match scope.kind with | .function => true | _ => false) && (scope.names.all fun y => decide (scope.names.lookup y.1 = some y.2)) && (own.all fun p => decide (N[p.2]? = some p.1)) &&
  (scope.names.all fun y => match y.2 with
   | .free => (match sc.names.lookup y.1 with | some .cell => true | some .free => true | _ => false)
   | .local => decide (y.1 ∈ own.map (·.1)) || decide (y.1 ∉ N)
   | .cell => decide (y.1 ∈ own.map (·.1)) || decide (y.1 ∉ N)
   | _ => true)
theorem blkOk_by {N : List Str} {sc scope : Scope} {own : List (Str × Nat)} (h : blkC N sc scope own = true) : BlkOk N sc scope own := by
 unfold blkC at h
 simp only [Bool.and_eq_true, List.all_eq_true, decide_eq_true_eq] at h
 obtain ⟨⟨⟨h1, h2⟩, h3⟩, h4⟩ := h
 refine ⟨?_, h2, h3, fun y hy e => ?_, fun y hy e => ?_⟩
 ·split at h1
  ·assumption
  ·cases h1
 ·have q := h4 y hy
  simp only [e] at q
  split at q <;> first | exact .inl (by assumption) | exact .inr (by assumption) | cases q
 ·have q := h4 y hy
  rcases e with e | e <;> (simp only [e, Bool.or_eq_true, decide_eq_true_eq] at q; exact q)
end L2
namespace L2
open PySem PySem.Spec PyProof.Rows
section
variable {prog : Program} {w : World} {A : Around} {R : Result → Shared → Prop} {s : Shared} {elt t0 i0 t1 i1 : Expr} {ifs0 ifs1 : List Expr} {scope : Scope} {pos : Pos} {it acc : Value} {env : Env}
end
section
variable {X : Cx}
end
end L2
namespace L2
open PySem PySem.Spec PyProof.Rows
section
variable {κ : Type} [DecidableEq κ]
def valV (kvs : List (κ × V)) (k : κ) : Option V := (kvs.find? fun kv => decide (kv.1 = k)).map (·.2)
def putK (kvs : List (κ × V)) (k : κ) (v : V) : List (κ × V) :=
 if (kvs.any fun kv => decide (kv.1 = k)) = true then kvs.map (fun kv => if kv.1 = k then (kv.1, v) else kv) else kvs ++ [(k, v)]
theorem valV_pos {p : κ × V} {r : List (κ × V)} {k : κ} (e : p.1 = k) : valV (p :: r) k = some p.2 := by simp [valV, List.find?_cons, e]
theorem valV_neg {p : κ × V} {r : List (κ × V)} {k : κ} (e : ¬ p.1 = k) : valV (p :: r) k = valV r k := by simp [valV, List.find?_cons, e]
theorem valV_any (k : κ) : ∀ kvs : List (κ × V), (kvs.any fun kv => decide (kv.1 = k)) = (valV kvs k).isSome
 | [] => rfl
 | p :: r => by
  rw [List.any_cons]
  by_cases e : p.1 = k
  ·simp only [valV_pos e, decide_eq_true e, Bool.true_or, Option.isSome_some]
  ·rw [valV_neg e, decide_eq_false e, Bool.false_or]; exact valV_any k r
theorem valV_map (k j : κ) (y : V) : ∀ kvs : List (κ × V), valV (kvs.map fun kv => if kv.1 = k then (kv.1, y) else kv) j = (valV kvs j).map fun x => if j = k then y else x
 | [] => rfl
 | p :: r => by
  have ih := valV_map k j y r
  rw [List.map_cons]
  by_cases h : p.1 = k
  ·rw [if_pos h]
   by_cases e : p.1 = j
   ·rw [valV_pos (p := (p.1, y)) e, valV_pos e, Option.map_some, if_pos (e.symm.trans h)]
   ·rw [valV_neg (p := (p.1, y)) e, valV_neg e, ih]
  ·rw [if_neg h]
   by_cases e : p.1 = j
   ·rw [valV_pos (p := p) e, valV_pos e, Option.map_some, if_neg (fun z => h (e.trans z))]
   ·rw [valV_neg (p := p) e, valV_neg e, ih]
theorem valV_snoc (k j : κ) (y : V) : ∀ kvs : List (κ × V), valV kvs k = none → valV (kvs ++ [(k, y)]) j = if j = k then some y else valV kvs j
 | [], _ => by
  by_cases e : k = j
  ·rw [if_pos e.symm]; exact valV_pos (p := (k, y)) e
  ·rw [if_neg (fun z => e z.symm)]; exact valV_neg (p := (k, y)) e
 | p :: r, hn => by
  rw [List.cons_append]
  have hk : ¬ p.1 = k := fun z => by rw [valV_pos z] at hn; cases hn
  rw [valV_neg hk] at hn
  have ih := valV_snoc k j y r hn
  by_cases e : p.1 = j
  ·rw [valV_pos e, valV_pos e, if_neg (fun z => hk (e.trans z))]
  ·rw [valV_neg e, valV_neg e, ih]
theorem valV_put (kvs : List (κ × V)) (k j : κ) (y : V) : valV (putK kvs k y) j = if j = k then some y else valV kvs j := by
 unfold putK
 by_cases a : (kvs.any fun kv => decide (kv.1 = k)) = true
 ·rw [if_pos a, valV_map]
  rw [valV_any] at a
  by_cases e : j = k
  ·obtain ⟨x, hx⟩ := Option.isSome_iff_exists.mp a
   rw [if_pos e, e, hx, Option.map_some, if_pos rfl]
  ·rw [if_neg e]
   cases valV kvs j with
   | none => rfl
   | some x => rw [Option.map_some, if_neg e]
 ·rw [if_neg a]
  refine valV_snoc k j y kvs ?_
  rw [valV_any] at a
  cases q : valV kvs k with
  | none => rfl
  | some x => rw [q] at a; exact (a rfl).elim
theorem length_putK (kvs : List (κ × V)) (k : κ) (v : V) : (putK kvs k v).length ≤ kvs.length + 1 := by
 unfold putK
 split
 ·rw [List.length_map]; omega
 ·rw [List.length_append, List.length_cons, List.length_nil]; omega
theorem putK_new {kvs : List (κ × V)} {k : κ} (v : V) (h : valV kvs k = none) : putK kvs k v = kvs ++ [(k, v)] := by
 unfold putK
 rw [valV_any, h]
 exact if_neg (by decide)
theorem RelO.isSome_eq {o : Option V} {u : Option Value} (r : RelO o u) : o.isSome = u.isSome := by
 cases o with
 | none => cases u with
  | none => rfl
  | some _ => exact (show False from r).elim
 | some _ => cases u with
  | none => exact (show False from r).elim
  | some _ => rfl
theorem RelO.getD {o : Option V} {u : Option Value} {d : V} {d' : Value} (r : RelO o u) (rd : RelV d d') : RelV (o.getD d) (u.getD d') := by
 cases o with
 | none => cases u with
  | none => exact rd
  | some _ => exact (show False from r).elim
 | some _ => cases u with
  | none => exact (show False from r).elim
  | some _ => exact r
theorem KV.val {kvs : List (κ × V)} {vs : List (κ × Value)} (r : KV kvs vs) (k : κ) : RelO (valV kvs k) (valueAt vs k) := by
 unfold KV at r
 induction r with
 | nil => exact True.intro
 | @cons p q ps qs h t ih =>
  obtain ⟨h1, h2⟩ := h
  by_cases e : p.1 = k
  ·have e' : q.1 = k := h1.symm.trans e
   have b : valueAt (q :: qs) k = some q.2 := by simp [valueAt, List.find?_cons, e']
   rw [valV_pos e, b]; exact h2
  ·have e' : ¬ q.1 = k := fun z => e (h1.trans z)
   have b : valueAt (q :: qs) k = valueAt qs k := by simp [valueAt, List.find?_cons, e']
   rw [valV_neg e, b]; exact ih
theorem KV.any {kvs : List (κ × V)} {vs : List (κ × Value)} (r : KV kvs vs) (k : κ) : (kvs.any fun kv => decide (kv.1 = k)) = vs.any fun kv => decide (kv.1 = k) := by
 unfold KV at r
 induction r with
 | nil => rfl
 | cons h t ih => rw [List.any_cons, List.any_cons, ih, h.1]
theorem KV.repl {kvs : List (κ × V)} {vs : List (κ × Value)} (r : KV kvs vs) (k : κ) {y : V} {u : Value} (ry : RelV y u) :
  KV (kvs.map fun kv => if kv.1 = k then (kv.1, y) else kv) (vs.map fun kv => if kv.1 = k then (kv.1, u) else kv) := by
 unfold KV at r ⊢
 induction r with
 | nil => exact .nil
 | @cons p q ps qs h t ih =>
  rw [List.map_cons, List.map_cons]
  refine .cons ?_ ih
  obtain ⟨h1, h2⟩ := h
  by_cases e : p.1 = k
  ·rw [if_pos e, if_pos (h1.symm.trans e)]; exact ⟨h1, ry⟩
  ·rw [if_neg e, if_neg (fun z => e (h1.trans z))]; exact ⟨h1, h2⟩
theorem KV.put {kvs : List (κ × V)} {vs : List (κ × Value)} (r : KV kvs vs) (k : κ) {y : V} {u : Value} (ry : RelV y u) : KV (putK kvs k y) (stored vs k u) := by
 unfold putK stored
 rw [r.any k]
 by_cases e : (vs.any fun kv => decide (kv.1 = k)) = true
 ·rw [if_pos e, if_pos e]; exact r.repl k ry
 ·rw [if_neg e, if_neg e]; exact Paired.snoc r ⟨rfl, ry⟩
theorem KV.length {kvs : List (κ × V)} {vs : List (κ × Value)} (r : KV kvs vs) : kvs.length = vs.length := Paired.length r
end
theorem kV_is {P : Program} {w : World} {k : Key} {u : Value} (r : RelV (kV k) u) : (mixKind P w).is k u = true := by
 cases k with
 | inl i => obtain ⟨t, e⟩ := (show ∃ t, u = Value.int i t from r); subst e; exact mixKind_int P w i t
 | inr x => obtain ⟨t, e⟩ := (show ∃ t, u = Value.str x t from r); subst e; exact mixKind_str P w x t
theorem items_are {P : Program} {w : World} : ∀ {ks : List Key} {us : List Value}, Vals (ks.map kV) us → ItemsAre (mixKind P w) ks us
 | [], _, r => by rw [List.map_nil] at r; cases r; exact .nil
 | k :: ks, _, r => by
  rw [List.map_cons] at r
  cases r with
  | cons h t => exact .cons (kV_is h) (items_are t)
abbrev KT (H : Hp) : List (List Key × V) → List (List Key × Addr × Value) → Prop := Paired fun p q => p.1 = q.1 ∧ H q.2.1 = some (.tup (p.1.map kV)) ∧ RelV p.2 q.2.2
theorem KT.val {H : Hp} {kvs : List (List Key × V)} {xs : List (List Key × Addr × Value)} (r : KT H kvs xs) (k : List Key) : RelO (valV kvs k) ((atKey xs k).map (·.2)) := by
 induction r with
 | nil => exact True.intro
 | @cons p q ps qs h t ih =>
  obtain ⟨h1, _, h2⟩ := h
  by_cases e : p.1 = k
  ·have e' : q.1 = k := h1.symm.trans e
   have b : atKey (q :: qs) k = some q.2 := by simp [atKey, List.find?_cons, e']
   rw [valV_pos e, b]; exact h2
  ·have e' : ¬ q.1 = k := fun z => e (h1.trans z)
   have b : atKey (q :: qs) k = atKey qs k := by simp [atKey, List.find?_cons, e']
   rw [valV_neg e, b]; exact ih
theorem KT.repl {H : Hp} {kvs : List (List Key × V)} {xs : List (List Key × Addr × Value)} (r : KT H kvs xs) (k : List Key) {y : V} {u : Value} (ry : RelV y u) :
  KT H (kvs.map fun kv => if kv.1 = k then (kv.1, y) else kv) (xs.map (putAt k u)) := by
 induction r with
 | nil => exact .nil
 | @cons p q ps qs h t ih =>
  rw [List.map_cons, List.map_cons]
  refine .cons ?_ ih
  obtain ⟨h1, h2, h3⟩ := h
  unfold putAt
  by_cases e : p.1 = k
  ·rw [if_pos e, if_pos (h1.symm.trans e)]; exact ⟨h1, h2, ry⟩
  ·rw [if_neg e, if_neg (fun z => e (h1.trans z))]; exact ⟨h1, h2, h3⟩
theorem KT.put {H : Hp} {kvs : List (List Key × V)} {xs : List (List Key × Addr × Value)} (r : KT H kvs xs) (k : List Key) {b : Addr} {y : V} {u : Value} (hb : H b = some (.tup (k.map kV))) (ry : RelV y u) :
  KT H (putK kvs k y) (storedH xs k b u) := by
 have e : (kvs.any fun kv => decide (kv.1 = k)) = (atKey xs k).isSome := by
  rw [valV_any, (r.val k).isSome_eq, Option.isSome_map]
 unfold putK storedH
 rw [e]
 by_cases q : (atKey xs k).isSome = true
 ·rw [if_pos q, if_pos q]; exact r.repl k ry
 ·rw [if_neg q, if_neg q]; exact Paired.snoc r ⟨rfl, hb, ry⟩
theorem KT.keeps {H H' : Hp} {kvs : List (List Key × V)} {xs : List (List Key × Addr × Value)} (r : KT H kvs xs) (ht : ∀ b ys, H b = some (.tup ys) → H' b = some (.tup ys)) : KT H' kvs xs :=
 Paired.mapP r fun _ _ z => ⟨z.1, ht _ _ z.2.1, z.2.2⟩
section
variable {P : Program} {w : World} {H : Hp} {h : Heap} {a : Addr}
theorem rd_of {u : HO} (ok : HOk P w H h) (e : Rd H a u) : ObjOk P w H h a u := e.ok ok
theorem dk_rd {kvs : List (Key × V)} (ok : HOk P w H h) (e : Rd H a (.dK kvs)) : kvs.length ≤ sizeLine ∧ (a == sysModules) = false ∧ ∃ vs, KV kvs vs ∧ h.DictOf (mixKind P w) a vs :=
 show ObjOk P w H h a (.dK kvs) from rd_of ok e
theorem dk_of {kvs : List (Key × V)} (ok : HOk P w H h) (e : H a = some (.dK kvs)) : kvs.length ≤ sizeLine ∧ (a == sysModules) = false ∧ ∃ vs, KV kvs vs ∧ h.DictOf (mixKind P w) a vs := dk_rd ok (.inl e)
theorem key_of {ks : List Key} (ok : HOk P w H h) (e : H a = some (.tup (ks.map kV))) : (tupleKind (mixKind P w)).is h ks a := by
 obtain ⟨_, its, r, o, h1, h2, n, h3⟩ := (show ObjOk P w H h a (.tup (ks.map kV)) from ok a _ e)
 exact ⟨o, its.toArray, n, h1, h2, h3, by simpa using items_are r⟩
theorem dt_rd {kvs : List (List Key × V)} (ok : HOk P w H h) (e : Rd H a (.dT kvs)) : kvs.length ≤ sizeLine ∧ (a == sysModules) = false ∧
  ∃ xs, KT H kvs xs ∧ h.DictOfH (tupleKind (mixKind P w)) a xs := by
 obtain ⟨z, y, xs, r, o, es, ep, h1, h2, h3, h4, h5⟩ := (show ObjOk P w H h a (.dT kvs) from rd_of ok e)
 refine ⟨z, y, xs, r, o, es, ep, h1, h2, h3, h4, fun x hx => ?_, h5⟩
 have all : ∀ {l : List (List Key × V)} {m : List (List Key × Addr × Value)}, KT H l m → ∀ x ∈ m, (tupleKind (mixKind P w)).is h x.1 x.2.1 := by
  intro l m q
  induction q with
  | nil => intro x hx; exact nomatch hx
  | @cons p q ps qs hq t ih =>
   intro x hx
   rcases List.mem_cons.mp hx with e | hx
   ·subst e
    exact key_of ok (by rw [← hq.1]; exact hq.2.1)
   ·exact ih x hx
 exact all r x hx
theorem dt_of {kvs : List (List Key × V)} (ok : HOk P w H h) (e : H a = some (.dT kvs)) : kvs.length ≤ sizeLine ∧ (a == sysModules) = false ∧
  ∃ xs, KT H kvs xs ∧ h.DictOfH (tupleKind (mixKind P w)) a xs := dt_rd ok (.inl e)
end
def DGet (H : Hp) (a : Addr) (y : V) (r : Option V) : Prop :=
 (∃ kvs k, Rd H a (.dK kvs) ∧ y = kV k ∧ r = valV kvs k) ∨ ∃ kvs k b, Rd H a (.dT kvs) ∧ y = .ref b ∧ H b = some (.tup (k.map kV)) ∧ r = valV kvs k
def DPut (H : Hp) (a : Addr) (y v : V) (H' : Hp) : Prop :=
 (∃ kvs k, H a = some (.dK kvs) ∧ y = kV k ∧ kvs.length < sizeLine ∧ H' = upd H a (.dK (putK kvs k v))) ∨
 ∃ kvs k b, H a = some (.dT kvs) ∧ y = .ref b ∧ H b = some (.tup (k.map kV)) ∧ kvs.length < sizeLine ∧ H' = upd H a (.dT (putK kvs k v))
theorem DGet.k {H : Hp} {a : Addr} {kvs : List (Key × V)} {k : Key} (e : H a = some (.dK kvs)) : DGet H a (kV k) (valV kvs k) := .inl ⟨kvs, k, .inl e, rfl, rfl⟩
theorem DPut.k {H : Hp} {a : Addr} {kvs : List (Key × V)} {k : Key} {v : V} (e : H a = some (.dK kvs)) (hl : kvs.length < sizeLine) : DPut H a (kV k) v (upd H a (.dK (putK kvs k v))) := .inl ⟨kvs, k, e, rfl, hl, rfl⟩
theorem DPut.t {H : Hp} {a b : Addr} {kvs : List (List Key × V)} {k : List Key} {v : V} (e : H a = some (.dT kvs)) (eb : H b = some (.tup (k.map kV))) (hl : kvs.length < sizeLine) :
  DPut H a (.ref b) v (upd H a (.dT (putK kvs k v))) := .inr ⟨kvs, k, b, e, rfl, eb, hl, rfl⟩
section
variable {X : Cx} {pins : List (Addr × Obj)} {σ : St} {H : Hp} {s : Shared} {a : Addr} {y v : V} {u r : Value} {o : Option V} {A : Around} {E : Value → Shared → Prop}
theorem Inv.big (I : Inv X pins σ H s) : sysModules < s.heap.objs.size := by
 have h : mainGlobals < s.heap.objs.size := (I.mod.glob.keeps I.bk).lt
 exact Nat.lt_trans (by decide) h
theorem d_getItem {Q : Value → Shared → Prop} (hu : A.units + 1 < cLine) (I : Inv X pins σ H s) (g : DGet H a y (some v)) (ry : RelV y u) (h : ∀ w' s', Inv X pins σ H s' → RelV v w' → Q w' s') :
  wpAny (model X.prog X.w) A (getItem (.ref a) u) Q E s := by
 rcases g with ⟨kvs, k, e, ey, l⟩ | ⟨kvs, k, b, e, ey, eb, l⟩
 ·subst ey
  obtain ⟨z, hd, vs, rel, dd⟩ := dk_rd I.hok e
  obtain ⟨w', hw, rw'⟩ := RelO.some_of (v := v) (o := valueAt vs k) (by rw [l]; exact rel.val k)
  exact wpAny_getItem_of (kV_is ry) dd.mapOf hw (h w' _ (I.tok _) rw')
 ·subst ey
  cases (show u = Value.ref b from ry)
  obtain ⟨z, hd, xs, rel, dd⟩ := dt_rd I.hok e
  obtain ⟨w', hw, rw'⟩ := RelO.some_of (v := v) (o := (atKey xs k).map (·.2)) (by rw [l]; exact rel.val k)
  obtain ⟨p, hp, hp2⟩ := Option.map_eq_some_iff.mp hw
  refine wpAny_getItem_heap (tupleKind_room_in1 hu) (key_of I.hok eb) dd hp ?_
  rw [hp2]
  exact h w' _ (I.tok _) rw'
theorem d_in {Q : Value → Shared → Prop} (hu : A.units + 1 < cLine) (I : Inv X pins σ H s) (g : DGet H a y o) (ry : RelV y u) (h : ∀ s', Inv X pins σ H s' → Q (.bool o.isSome) s') :
  wpAny (model X.prog X.w) A (compareOp .In u (.ref a)) Q E s := by
 rcases g with ⟨kvs, k, e, ey, l⟩ | ⟨kvs, k, b, e, ey, eb, l⟩
 ·subst ey
  obtain ⟨z, hd, vs, rel, dd⟩ := dk_rd I.hok e
  refine wpAny_in_of (kV_is ry) hd dd.mapOf ?_
  rw [← (rel.val k).isSome_eq, ← l]
  exact h _ (I.tok _)
 ·subst ey
  cases (show u = Value.ref b from ry)
  obtain ⟨z, hd, xs, rel, dd⟩ := dt_rd I.hok e
  refine wpAny_in_heap (tupleKind_room_in1 hu) (key_of I.hok eb) hd dd ?_
  have q := (rel.val k).isSome_eq
  rw [Option.isSome_map] at q
  rw [← q, ← l]
  exact h _ (I.tok _)
theorem d_write {h' : Heap} {t' : Nat} {ob : HO} (I : Inv X pins σ H s) (mu : Mut (H a)) (hs : Heap.SameBut a s.heap h') (he : ∃ q, h'.get? a = some q) (new : ObjOk X.prog X.w (upd H a ob) h' a ob) :
  Inv X pins σ (upd H a ob) { s with heap := h', toks := t' } :=
 I.write (x := a) (e := a) mu (.inl rfl) (fun b q hb z => (hs.2 b hb).trans z) he new
theorem dk_new {P : Program} {w : World} {H' : Hp} {h' : Heap} {kvs : List (Key × V)} {vs : List (Key × Value)} (z : kvs.length ≤ sizeLine) (hd : (a == sysModules) = false) (rel : KV kvs vs) (dd : h'.DictOf (mixKind P w) a vs) :
  ObjOk P w H' h' a (.dK kvs) := ⟨z, hd, vs, rel, dd⟩
theorem d_setItem {H' : Hp} {Q : Unit → Shared → Prop} (hu : A.units + 1 < cLine) (I : Inv X pins σ H s) (g : DPut H a y v H') (ry : RelV y u) (rv : RelV v r) (h : ∀ s', Inv X pins σ H' s' → Q () s') :
  wpAny (model X.prog X.w) A (setItem (.ref a) u r) Q E s := by
 rcases g with ⟨kvs, k, e, ey, l, eH⟩ | ⟨kvs, k, b, e, ey, eb, l, eH⟩
 ·subst ey eH
  obtain ⟨z, hd, vs, rel, dd⟩ := dk_of I.hok e
  have hz : vs.length ≤ sizeLine := by rw [← rel.length]; exact z
  have hl : (putK kvs k v).length ≤ sizeLine := by have := length_putK kvs k v; omega
  refine wpAny_setItem_pairs (hsz := hz) (kV_is ry) dd fun h' dd' hs => h _ ?_
  have he : ∃ q, h'.get? a = some q := let ⟨q, _, _, hq, _⟩ := dd'; ⟨q, hq⟩
  exact d_write I (by rw [e]; exact True.intro) hs he (dk_new hl hd (rel.put k rv) dd')
 ·subst ey eH
  cases (show u = Value.ref b from ry)
  obtain ⟨z, hd, xs, rel, dd⟩ := dt_of I.hok e
  have hz : xs.length ≤ sizeLine := by rw [← Paired.length rel]; exact z
  have hl : (putK kvs k v).length ≤ sizeLine := by have := length_putK kvs k v; omega
  refine wpAny_setItem_heap (hsz := hz) (tupleKind_room_in1 hu) (key_of I.hok eb) dd fun h' dd' hs => h _ ?_
  obtain ⟨q, es, ep, hq, h2, h3, h4, _, h5⟩ := dd'
  refine d_write I (by rw [e]; exact True.intro) hs ⟨q, hq⟩ ⟨hl, hd, _, (rel.put k eb rv).keeps fun c ys ec => ?_, q, es, ep, hq, h2, h3, h4, h5⟩
  rw [upd_ne (ne_of ec e (fun z => nomatch z))]
  exact ec
end
section
variable {X : Cx} {pins : List (Addr × Obj)} {σ : St} {H : Hp} {s : Shared} {a : Addr} {kvs : List (Key × V)} {k : Key} {u : Value} {A : Around} {E : Value → Shared → Prop}
theorem d_len {Q : Value → Shared → Prop} (I : Inv X pins σ H s) (e : Rd H a (.dK kvs)) (h : ∀ t s', Inv X pins σ H s' → Q (.int kvs.length t) s') : wpAny (model X.prog X.w) A (call (.builtin "len") [.ref a]) Q E s := by
 obtain ⟨z, hd, vs, rel, dd⟩ := dk_rd I.hok e
 refine call_len_dict hd dd (by rw [← rel.length]; rw [sizeLine_eq] at z; omega) ?_
 rw [← rel.length]
 exact h _ _ (I.tok _)
end
def NoSl (i : Expr) : Prop := ∀ ov iv, subscripted i false ov iv = operate [ov, iv] (getItem ov iv)
theorem subD_of {prog : Program} {w : World} {A : Around} {E : Value → Shared → Prop} {s : Shared} {env : Env} {value slice : Expr} {pos : Pos} {T id : String} {Q : Value → Shared → Prop}
  (hl : typeLookup (.type T) "__getitem__" = pure (some (.builtin id))) (hs : NoSl slice)
  (h : wpAny (model prog w) A (eval value env) (fun o s₁ => wpAny (model prog w) A (eval slice env) (fun i s₂ => s₂.TypeIs o T ∧ wpAny (model prog w) A (getItem o i) Q E s₂) E s₁) E s) :
  wpAny (model prog w) A (eval (.Subscript value slice pos) env) Q E s := by
 refine Subscript_ (wpAny_mono h (fun o s₁ h₁ => wpAny_mono h₁ (fun i s₂ h₂ => ?_) fun _ _ x => x) fun _ _ x => x)
 obtain ⟨hT, h₂⟩ := h₂
 unfold subscriptTail
 refine wpAny_bind ?_
 rw [getitemInPython_of_ne hT.not_modules]
 refine wpAny_bind (wpAny_specialOf hT hl ?_)
 have fin : wpAny (model prog w) A (subscripted slice false o i) (fun r s₃ => wpAny (model prog w) A (letTemporaryGo value o r >>= fun _ => pure r) Q E s₃) E s₂ := by
  rw [hs o i]
  exact wpAny_operating (wpAny_mono h₂ (fun r s₃ h₃ => wpAny_bind (wpAny_letTemporaryGo (wpAny_pure h₃))) fun _ _ x => x)
 first
  | exact wpAny_pure (wpAny_bind fin)
  | exact wpAny_bind (wpAny_pure (wpAny_bind fin))
  | exact wpAny_bind fin
theorem dict_typeIs {X : Cx} {pins : List (Addr × Obj)} {σ : St} {H : Hp} {s : Shared} {a : Addr} {y : V} {o : Option V} (I : Inv X pins σ H s) (g : DGet H a y o) : s.TypeIs (.ref a) "dict" := by
 rcases g with ⟨kvs, k, e, _, _⟩ | ⟨kvs, k, b, e, _, _, _⟩
 ·obtain ⟨_, _, vs, _, dd⟩ := dk_rd I.hok e
  exact dd.typeIs
 ·obtain ⟨_, _, xs, _, dd⟩ := dt_rd I.hok e
  exact dd.typeIs
def tDGet (td ty : TE) : TE := fun σ H Q => td σ H fun x H1 => ty σ H1 fun y H2 => ∃ a v, x = .ref a ∧ DGet H2 a y (some v) ∧ Q v H2
def tDIn (ty td : TE) : TE := fun σ H Q => ty σ H fun y H1 => td σ H1 fun x H2 => ∃ a o, x = .ref a ∧ DGet H2 a y o ∧ Q (.bl o.isSome) H2
def sDPut (td ty tv : TE) : TS := fun D σ H => tv σ H fun v H1 => td σ H1 fun x H2 => ty σ H2 fun y H3 => ∃ a H4, x = .ref a ∧ DPut H3 a y v H4 ∧ D.nx σ H4
section
variable {X : Cx} {o i e value : Expr} {pos pos' tpos : Pos} {td ty tv : TE}
theorem pe_dget (hu : X.A.units + 1 < cLine) (ho : PE X o td) (hi : PE X i ty) (hs : NoSl i) : PE X (.Subscript o i pos) (tDGet td ty) := by
 intro pins s σ H Q I h
 refine subD_of PySem.F.slot_dict_getitem.lookup hs (thn (ho pins s σ H _ I h) fun u s1 ⟨x, H1, I1, rx, q1⟩ => thn (hi pins s1 σ H1 _ I1 q1) fun iv s2 ⟨y, H2, I2, ry, a, v, ex, g, q2⟩ => ?_)
 subst ex
 obtain rfl : u = Value.ref a := rx
 exact ⟨dict_typeIs I2 g, d_getItem hu I2 g ry fun w' s3 I3 rw' => ⟨v, H2, I3, rw', q2⟩⟩
theorem pc_din (hu : X.A.units + 1 < cLine) (hi : PE X i ty) (ho : PE X o td) : PC X .In i o (tDIn ty td) := by
 intro pins s σ H Q I h
 refine thn (hi pins s σ H _ I h) fun iv s1 ⟨y, H1, I1, ry, q1⟩ => thn (ho pins s1 σ H1 _ I1 q1) fun u s2 ⟨x, H2, I2, rx, a, ov, ex, g, q2⟩ => ?_
 subst ex
 obtain rfl : u = Value.ref a := rx
 exact d_in hu I2 g ry fun s3 I3 => ⟨.bl ov.isSome, H2, I3, rfl, q2⟩
theorem ps_dput (hu : X.A.units + 1 < cLine) (ho : PE X o td) (hi : PE X i ty) (hv : PE X value tv) (hs : swapsWith value (some (.Subscript o i pos')) pos.line X.env = pure false) :
  PS X (.Assign [.Subscript o i pos'] value pos) (sDPut td ty tv) := by
 intro pins s σ H D I h
 refine wpAny_Assign_Subscript (thn (hv pins s σ H _ I h) fun r s1 ⟨v, H1, I1, rv, q1⟩ => thn (ho pins s1 σ H1 _ I1 q1) fun u s2 ⟨x, H2, I2, rx, q2⟩ => thn (hi pins s2 σ H2 _ I2 q2) fun iv s3 ⟨y, H3, I3, ry, a, H4, ex, g, q3⟩ => ?_) hs
 subst ex
 obtain rfl : u = Value.ref a := rx
 exact d_setItem hu I3 g ry rv fun s4 I4 => ⟨σ, H4, I4, q3⟩
end
theorem dk_empty {P : Program} {w : World} {H : Hp} (h : Heap) (hb : sysModules < h.objs.size) : ObjOk P w H (h.push { cls := .type "dict", data := .dict #[] }) h.objs.size (.dK []) :=
 ⟨Nat.zero_le _, beq_eq_false_iff_ne.mpr (Ne.symm (Nat.ne_of_lt hb)), [], .nil, Heap.DictOf.new h⟩
theorem dt_empty {P : Program} {w : World} {H : Hp} (h : Heap) (hb : sysModules < h.objs.size) : ObjOk P w H (h.push { cls := .type "dict", data := .dict #[] }) h.objs.size (.dT []) :=
 ⟨Nat.zero_le _, beq_eq_false_iff_ne.mpr (Ne.symm (Nat.ne_of_lt hb)), [], .nil, _, #[], 0, Heap.get?_push_size _ rfl, ⟨rfl, rfl, rfl⟩, rfl, rfl, List.nodup_nil⟩
def tDNewK : TE := fun _ H Q => ∀ p, H p = none → Q (.ref p) (upd H p (.dK []))
def tDNewT : TE := fun _ H Q => ∀ p, H p = none → Q (.ref p) (upd H p (.dT []))
section
variable {X : Cx} {pos : Pos}
theorem pe_dnewK : PE X (.Dict [] [] pos) tDNewK := fun pins s σ H Q I h =>
 wpAny_Dict_empty ⟨.ref s.heap.objs.size, _, I.laid (a := s.heap.objs.size) (o := .dK []) (t' := s.toks) (fun _ _ q => Heap.get?_push_of_some _ q) (Nat.le_refl _) (dk_empty s.heap I.big), rfl, h _ (I.hok.fresh (Nat.le_refl _))⟩
theorem pe_dnewT : PE X (.Dict [] [] pos) tDNewT := fun pins s σ H Q I h =>
 wpAny_Dict_empty ⟨.ref s.heap.objs.size, _, I.laid (a := s.heap.objs.size) (o := .dT []) (t' := s.toks) (fun _ _ q => Heap.get?_push_of_some _ q) (Nat.le_refl _) (dt_empty s.heap I.big), rfl, h _ (I.hok.fresh (Nat.le_refl _))⟩
end
def tPairs : List (TE × TE) → St → Hp → (List (V × V) → Hp → Prop) → Prop
 | [], _, H, Q => Q [] H
 | (tk, tv) :: r, σ, H, Q => tk σ H fun x H1 => tv σ H1 fun y H2 => tPairs r σ H2 fun ps H3 => Q ((x, y) :: ps) H3
abbrev VV : List (V × V) → List (Value × Value) → Prop := Paired fun p q => RelV p.1 q.1 ∧ RelV p.2 q.2
def PPs (X : Cx) (pos : Pos) (keys : List (Option Expr)) (values : List Expr) (trs : List (TE × TE)) : Prop :=
 ∀ (pins : List (Addr × Obj)) (s : Shared) (σ : St) (H : Hp) (Q : List (V × V) → Hp → Prop), Inv X pins σ H s → tPairs trs σ H Q →
  wpAny (model X.prog X.w) X.A (evalPairs (pairTrees keys values X.env pos)) (fun vs s' => ∃ ps H', Inv X pins σ H' s' ∧ VV ps vs ∧ Q ps H') X.xe s
theorem pps_nil {X : Cx} {pos : Pos} : PPs X pos [] [] [] := fun pins s σ H Q I h => pairTrees_nil_walk ⟨[], H, I, .nil, h⟩
theorem pps_cons {X : Cx} {pos : Pos} {k v : Expr} {ks : List (Option Expr)} {vs : List Expr} {tk tv : TE} {trs : List (TE × TE)} (hk : PE X k tk) (hv : PE X v tv) (hr : PPs X pos ks vs trs) :
  PPs X pos (some k :: ks) (v :: vs) ((tk, tv) :: trs) := fun pins s σ H Q I h =>
 pairTrees_cons_walk (thn (hk pins s σ H _ I h) fun u s1 ⟨x, H1, I1, rx, q1⟩ => thn (hv pins s1 σ H1 _ I1 q1) fun w2 s2 ⟨y, H2, I2, ry, q2⟩ =>
  thn (hr pins s2 σ H2 _ I2 q2) fun ws s3 ⟨ps, H3, I3, rel, q3⟩ => ⟨(x, y) :: ps, H3, I3, .cons ⟨rx, ry⟩ rel, q3⟩)
def mergeK (kvs more : List (Key × V)) : List (Key × V) := more.foldl (fun acc kv => putK acc kv.1 kv.2) kvs
theorem KV.merge : ∀ {more : List (Key × V)} {rs : List (Key × Value)} {kvs : List (Key × V)} {vs : List (Key × Value)}, KV more rs → KV kvs vs → KV (mergeK kvs more) (merged vs rs) := by
 intro more rs kvs vs r
 unfold KV at r
 induction r generalizing kvs vs with
 | nil => intro q; exact q
 | @cons p q ps qs h t ih =>
  intro r0
  have e : KV (putK kvs p.1 p.2) (stored vs q.1 q.2) := by
   have := r0.put p.1 h.2
   rw [← h.1]; exact this
  exact ih e
theorem length_mergeK : ∀ (more kvs : List (Key × V)), (mergeK kvs more).length ≤ kvs.length + more.length
 | [], kvs => by show kvs.length ≤ kvs.length + 0; omega
 | p :: r, kvs => by
  have h1 := length_mergeK r (putK kvs p.1 p.2)
  have h2 := length_putK kvs p.1 p.2
  show (mergeK (putK kvs p.1 p.2) r).length ≤ _
  rw [List.length_cons]; omega
theorem carries_of {P : Program} {w : World} : ∀ {kvs : List (Key × V)} {ws : List (Value × Value)}, VV (kvs.map fun kv => (kV kv.1, kv.2)) ws → ∃ rs, Carries (mixKind P w) ws rs ∧ KV kvs rs
 | [], _, r => by rw [List.map_nil] at r; cases r; exact ⟨[], True.intro, .nil⟩
 | p :: kvs, _, r => by
  rw [List.map_cons] at r
  cases r with
  | @cons a b as bs h t =>
   obtain ⟨rs, c, q⟩ := carries_of (P := P) (w := w) t
   obtain ⟨b1, b2⟩ := b
   exact ⟨(p.1, b2) :: rs, ⟨kV_is h.1, rfl, c⟩, .cons ⟨rfl, h.2⟩ q⟩
def tDisp (trs : List (TE × TE)) : TE := fun σ H Q => ∀ p, H p = none → tPairs trs σ (upd H p (.dK [])) fun ps H2 => H2 p = some (.dK []) ∧ ∃ kvs : List (Key × V), ps = kvs.map (fun kv => (kV kv.1, kv.2)) ∧ kvs.length ≤ 15 ∧ Q (.ref p) (upd H2 p (.dK (mergeK [] kvs)))
theorem pe_disp {X : Cx} {pos : Pos} {keys : List (Option Expr)} {values : List Expr} {trs : List (TE × TE)} (h : PPs X pos keys values trs) (hall : keys.all (·.isSome) = true) (hl : keys.length = values.length) (h0 : keys ≠ [])
  (h15 : keys.length ≤ 15) : PE X (.Dict keys values pos) (tDisp trs) := by
 intro pins s σ H Q I q
 have hn := I.hok.fresh (Nat.le_refl s.heap.objs.size)
 have I1 := I.laid (a := s.heap.objs.size) (o := .dK []) (h' := s.heap.push { cls := .type "dict", data := .dict #[] }) (t' := s.toks) (fun _ _ q => Heap.get?_push_of_some _ q) (Nat.le_refl _) (dk_empty s.heap I.big)
 refine wpAny_Dict_walk (knd := mixKind X.prog X.w) hall hl h0 h15 (thn (h pins _ σ _ _ I1 (q _ hn)) fun ws s2 ⟨ps, H2, I2, rel, e, kvs, ep, lk, q2⟩ => ?_)
 subst ep
 obtain ⟨rs, c, rk⟩ := carries_of (P := X.prog) (w := X.w) rel
 obtain ⟨z, hd, vs0, r0, dd⟩ := dk_of I2.hok e
 cases r0
 refine ⟨rs, c, dd, fun h' dd' hs => ⟨.ref s.heap.objs.size, _, ?_, rfl, q2⟩⟩
 have hz : (mergeK [] kvs).length ≤ sizeLine := by
  have h1 := length_mergeK kvs []
  rw [List.length_nil] at h1
  rw [sizeLine_eq]; omega
 have he : ∃ q, h'.get? s.heap.objs.size = some q := let ⟨q, _, _, hq, _⟩ := dd'; ⟨q, hq⟩
 exact d_write I2 (by rw [e]; exact True.intro) hs he (dk_new hz hd (rk.merge .nil) dd')
structure M2 (X : Cx) (o : Expr) (m : Str) (apos : Pos) (e f : Expr) (cpos : Pos) : Prop where
 base : attributeBase o m X.env (eval o X.env) = eval o X.env
 few : ((backTo cpos (starEach [e, f] X.env)).all (fun x => !x.1) && (backToKw cpos (keywordEach [] X.env)).all (fun x => x.1.isSome)
  && decide (([e, f] : List Expr).length + ([] : List Keyword).length + (if ([] : List Keyword).isEmpty then 0 else 1) < 30)) = true
 line : (apos.endLine == cpos.line) = true
 trees : backTo cpos (starEach [e, f] X.env) = [(false, eval e X.env), (false, eval f X.env)]
def IsD (H : Hp) (a : Addr) : Prop := (∃ kvs, Rd H a (.dK kvs)) ∨ ∃ kvs, Rd H a (.dT kvs)
theorem isD_at {X : Cx} {pins : List (Addr × Obj)} {σ : St} {H : Hp} {s : Shared} {a : Addr} (I : Inv X pins σ H s) (d : IsD H a) :
  s.TypeIs (.ref a) "dict" ∧ (∀ b, Value.ref a = .ref b → ∃ ob, s.heap.get? b = some ob ∧ ob.dict = none) ∧ (a == sysModules) = false := by
 rcases d with ⟨kvs, e⟩ | ⟨kvs, e⟩
 ·obtain ⟨_, hd, vs, _, dd⟩ := dk_rd I.hok e
  refine ⟨dd.typeIs, fun b q => ?_, hd⟩
  cases q
  obtain ⟨ob, _, _, h1, h2, _⟩ := dd
  exact ⟨ob, h1, h2.2.1⟩
 ·obtain ⟨_, hd, xs, _, dd⟩ := dt_rd I.hok e
  refine ⟨dd.typeIs, fun b q => ?_, hd⟩
  cases q
  obtain ⟨ob, _, _, h1, h2, _⟩ := dd
  exact ⟨ob, h1, h2.2.1⟩
section
variable {X : Cx} {pins : List (Addr × Obj)} {σ : St} {H : Hp} {s : Shared} {a : Addr} {y d : V} {u r : Value} {o : Option V} {A : Around} {E : Value → Shared → Prop}
theorem d_get2 {Q : Value → Shared → Prop} (hu : A.units + 1 < cLine) (I : Inv X pins σ H s) (g : DGet H a y o) (ry : RelV y u) (rd : RelV d r) (h : ∀ w' s', Inv X pins σ H s' → RelV (o.getD d) w' → Q w' s') :
  wpAny (model X.prog X.w) A (call (.builtin "dict.get") [.ref a, u, r]) Q E s := by
 rcases g with ⟨kvs, k, e, ey, l⟩ | ⟨kvs, k, b, e, ey, eb, l⟩
 ·subst ey
  obtain ⟨z, hd, vs, rel, dd⟩ := dk_rd I.hok e
  refine call_meetsIn PySem.F.slot_dict_get dd.typeIs PySem.F.entry_dict_get (PySem.F.args_dict_get_3 _ _ _) (meets_dict_get_default (mixKind X.prog X.w) a (kV_is ry) hd r) ⟨_, dd.mapOf, h _ _ (I.tok _) ?_⟩
  rw [l]
  exact (rel.val k).getD rd
 ·subst ey
  cases (show u = Value.ref b from ry)
  obtain ⟨z, hd, xs, rel, dd⟩ := dt_rd I.hok e
  refine call_meetsIn PySem.F.slot_dict_get dd.typeIs PySem.F.entry_dict_get (PySem.F.args_dict_get_3 _ _ _) (meetsH_dict_get_default (tupleKind (mixKind X.prog X.w)) a b hd r) ⟨tupleKind_room_in1 hu, k, xs, key_of I.hok eb, dd, h _ _ (I.tok _) ?_⟩
  rw [l]
  exact (rel.val k).getD rd
end
def tDGet2 (td ty tx : TE) : TE := fun σ H Q => td σ H fun x H1 => ∃ a, x = .ref a ∧ IsD H1 a ∧ ty σ H1 fun y H2 => tx σ H2 fun z H3 => ∃ o, DGet H3 a y o ∧ Q (o.getD z) H3
section
variable {X : Cx} {o e f : Expr} {apos cpos : Pos} {td ty tx : TE}
theorem pe_dget2 (hu : X.A.units + 1 < cLine) (ho : PE X o td) (he : PE X e ty) (hf : PE X f tx) (m : M2 X o "get" apos e f cpos) : PE X (.Call (.Attribute o "get" apos) [e, f] [] cpos) (tDGet2 td ty tx) := by
 intro pins s σ H Q I h
 refine wpAny_Call_method m.base m.few m.line PySem.F.plainAttrs_dict PySem.F.slot_dict_get PySem.F.type_dict_get (thn (ho pins s σ H _ I h) fun u s1 ⟨x, H1, I1, rx, a, ex, d, q1⟩ => ?_)
 subst ex
 obtain rfl : u = Value.ref a := rx
 obtain ⟨t1, t2, _⟩ := isD_at I1 d
 refine ⟨t1, t2, ?_⟩
 rw [m.trees]
 refine Calls.callWith_builtin rfl (Calls.evalArgs_plain (Calls.spliced_cons (thn (he pins s1 σ H1 _ I1 q1) fun iv s2 ⟨y, H2, I2, ry, q2⟩ =>
  Calls.spliced_cons (thn (hf pins s2 σ H2 _ I2 q2) fun fv s3 ⟨z, H3, I3, rz, ov, g, q3⟩ => Calls.spliced_nil ?_))))
 exact d_get2 hu I3 g ry rz fun w' s4 I4 rw' => ⟨_, H3, I4, rw', q3⟩
end
section
variable {X : Cx} {pins : List (Addr × Obj)} {σ : St} {H : Hp} {s : Shared} {a : Addr} {kvs : List (Key × V)} {A : Around} {E : Value → Shared → Prop}
theorem d_copyOf {Q : Value → Shared → Prop} (I : Inv X pins σ H s) (e : Rd H a (.dK kvs)) (h : ∀ p s', H p = none → Inv X pins σ (upd H p (.dK kvs)) s' → Q (.ref p) s') : wpAny (model X.prog X.w) A (call (.type "dict") [.ref a]) Q E s := by
 obtain ⟨z, hd, vs, rel, dd⟩ := dk_rd I.hok e
 refine kt_call_dict hd dd (by rw [← rel.length]; exact z) fun h' dd' hs => ?_
 refine h _ _ (I.hok.fresh (Nat.le_refl _)) (I.laid (a := s.heap.objs.size) (o := .dK kvs) (t' := s.toks) (fun b q hq => ?_) (Nat.le_refl _) (dk_new z (beq_eq_false_iff_ne.mpr (Ne.symm (Nat.ne_of_lt I.big))) rel dd'))
 exact (hs.2 b (Nat.ne_of_lt (Heap.lt_size hq))).trans (Heap.get?_push_of_some _ hq)
end
section
variable {X : Cx} {pins : List (Addr × Obj)} {σ : St} {H : Hp} {s : Shared} {a : Addr} {y : V} {u : Value} {A : Around} {E : Value → Shared → Prop}
end
end L2
namespace L2
open PySem PySem.Spec PyProof.Rows
section
variable {prog : Program} {w : World} {A : Around} {E : Value → Shared → Prop}
end
section
variable {X : Cx}
end
end L2
namespace L2
open PySem PySem.Spec PyProof.Rows
theorem boot_reversed5 : bootBuiltins "reversed" = some (.type "reversed") := by decide +kernel
section
variable {X : Cx} {pins : List (Addr × Obj)} {σ : St} {H : Hp} {s : Shared} {h' : Heap}
theorem Inv.turnedL {t' : Nat} {ch : List Addr} (I : Inv X pins σ H s) (k : ∀ b o, b ∉ ch → s.heap.get? b = some o → h'.get? b = some o) (hf : ∀ b ∈ ch, FpOk X pins H b) : Inv X pins σ H { s with heap := h', toks := t' } := by
 have nit : ∀ b u, H b = some u → b ∉ ch := fun b u e z => by
  have q := (hf b z).1
  rw [q] at e; cases e
 refine I.step (g' := s.gens) (d' := s.drawn) (ch := ch) (fun b hb => ⟨(hf b hb).2.2.2.1, (hf b hb).2.1, (hf b hb).2.2.2.2.1, (hf b hb).2.2.2.2.2⟩) (fun b o _ _ hc e _ => k b o hc e) (fun b o _ _ hc e _ => ⟨o.slots, k b o hc e⟩)
  (fun _ _ _ _ n => n) (fun b o hc e => ⟨o, k b o hc e⟩) (fun _ _ e => e) (fun _ _ _ e => e) (fun b ps e => ⟨#[], by rw [e]; simp⟩) (fun m hm => ?_) (fun b u e => ?_) I.bare
 ·obtain ⟨o, es, ep, ho, r⟩ := hm
  exact ⟨o, es, ep, k _ o (fun z => (hf _ z).2.1 rfl) ho, r⟩
 ·refine (I.hok b u e).stay (fun c v hc q => k c v ?_ q) (fun _ q => q) fun _ _ q => q
  rcases hc with z | z
  ·rw [z]; exact nit b u e
  ·exact nit c _ z
theorem Inv.turnedNew {t' : Nat} {ch : List Addr} {T : Addr} {ob : HO} (I : Inv X pins σ H s) (k : ∀ b o, b ∉ ch → s.heap.get? b = some o → h'.get? b = some o) (hf : ∀ b ∈ ch, FpOk X pins H b) (hT : s.heap.objs.size ≤ T)
  (new : ObjOk X.prog X.w (upd H T ob) h' T ob) : Inv X pins σ (upd H T ob) { s with heap := h', toks := t' } := by
 have hn : H T = none := I.hok.fresh hT
 have nit : ∀ b u, H b = some u → b ∉ ch := fun b u e z => by
  have q := (hf b z).1
  rw [q] at e; cases e
 refine I.step (g' := s.gens) (d' := s.drawn) (ch := ch) (fun b hb => ⟨(hf b hb).2.2.2.1, (hf b hb).2.1, (hf b hb).2.2.2.2.1, (hf b hb).2.2.2.2.2⟩) (fun b o _ _ hc e _ => k b o hc e) (fun b o _ _ hc e _ => ⟨o.slots, k b o hc e⟩)
  (fun b o _ e n => ?_) (fun b o hc e => ⟨o, k b o hc e⟩) (fun b xs e => ?_) (fun b o u e => ?_) (fun b ps e => ⟨#[], ?_⟩) (fun m hm => ?_) (fun b u e => ?_) I.bare
 ·rw [upd_ne (Nat.ne_of_lt (Nat.lt_of_lt_of_le (Heap.lt_size e) hT))]; exact n
 ·rw [upd_ne (ne_of_none e hn)]; exact e
 ·rw [upd_ne (ne_of_none e hn)]; exact e
 ·rw [upd_ne (ne_of_none e hn), e]; simp
 ·obtain ⟨o, es, ep, ho, r⟩ := hm
  exact ⟨o, es, ep, k _ o (fun z => (hf _ z).2.1 rfl) ho, r⟩
 ·by_cases hb : b = T
  ·subst hb
   rw [upd_same] at e
   cases e
   exact new
  ·rw [upd_ne hb] at e
   refine (I.hok b u e).stay (fun c v hc q => k c v ?_ q) (fun c q => by rw [upd_ne (ne_of_none q hn)]; exact q) fun c xs q => by rw [upd_ne (ne_of_none q hn)]; exact q
   rcases hc with z | z
   ·rw [z]; exact nit b u e
   ·exact nit c _ z
theorem Inv.lock {d : Addr} {u : HO} (I : Inv X pins σ H s) (h : H d = some u) (mu : Mut (some u)) : ∃ od, Inv X pins σ (upd H d (.frz od u)) s := by
 have x := I.hok d u h
 have ex : ∃ od, s.heap.get? d = some od := by
  cases u with
  | lst xs => obtain ⟨_, _, _, _, e⟩ := x; exact ⟨_, e⟩
  | dK kvs => obtain ⟨_, _, _, _, o, _, _, e, _⟩ := x; exact ⟨o, e⟩
  | dT kvs => obtain ⟨_, _, _, _, o, _, _, e, _⟩ := x; exact ⟨o, e⟩
  | set S n => obtain ⟨o, _, _, _, e, _⟩ := x; exact ⟨o, e⟩
  | ins C dx fs => obtain ⟨_, _, _, e, _⟩ := x; exact ⟨_, e⟩
  | ext φ => obtain ⟨_, ⟨_, e⟩, _⟩ := x; exact ⟨_, e⟩
  | _ => exact False.elim mu
 obtain ⟨od, e⟩ := ex
 have new : ObjOk X.prog X.w (upd H d (.frz od u)) s.heap d (.frz od u) := by
  refine ⟨e, x.stay (fun b v _ q => q) (fun b q => ?_) fun b xs q => ?_⟩
  ·rw [upd_ne (fun z => by rw [z, h] at q; cases q; exact mu)]; exact q
  ·rw [upd_ne (fun z => by rw [z, h] at q; cases q; exact mu)]; exact q
 exact ⟨od, I.write (x := d) (e := d) (t' := s.toks) (h' := s.heap) (by rw [h]; exact mu) (.inl rfl) (fun b v _ q => q) ⟨od, e⟩ new⟩
theorem Inv.nofrz {d : Addr} {u : HO} (I : Inv X pins σ H s) (h : H d = some u) (mu : Mut (some u)) : ∀ o' u', X.H_0 d ≠ some (.frz o' u') := fun o' u' e => by
 have q := I.base.frzs d o' u' e
 rw [h] at q
 cases q
 exact mu
theorem Inv.unlock {d : Addr} {od : Obj} {u : HO} (I : Inv X pins σ H s) (h : H d = some (.frz od u)) (hn : ∀ o' u', X.H_0 d ≠ some (.frz o' u')) : Inv X pins σ (upd H d u) s := by
 have neH : ∀ b o, H b = some o → (∀ o' u', o ≠ .frz o' u') → b ≠ d := fun b o e hne z => by
  rw [z, h] at e
  cases e
  exact hne _ _ rfl
 have neN : ∀ b, H b = none → b ≠ d := fun b e z => by rw [z, h] at e; cases e
 refine ⟨I.ok, I.os, I.bare, ⟨I.base.keep, I.base.slot, fun b o e n hx => ?_, I.base.there, fun b xs e => ?_, fun b o x e => ?_, fun b ps e => ?_⟩, I.loc, I.cell, ?_, fun x c e => ?_, fun p hp => ?_, fun b o e => ?_, I.len⟩
 ·rw [upd_ne (neN b (I.base.free b o e n hx))]; exact I.base.free b o e n hx
 ·have q := I.base.tups b xs e
  rw [upd_ne (neH b _ q (fun _ _ z => nomatch z))]; exact q
 ·have q := I.base.frzs b o x e
  rw [upd_ne (fun z => by rw [z] at e; exact hn _ _ e)]; exact q
 ·obtain ⟨m, q⟩ := I.base.tbls b ps e
  exact ⟨m, by rw [upd_ne (neH b _ q (fun _ _ z => nomatch z))]; exact q⟩
 ·rw [upd_ne (neN _ I.free)]; exact I.free
 ·rw [upd_ne (neN c (I.freeC x c e))]; exact I.freeC x c e
 ·obtain ⟨e, n, r⟩ := I.pin p hp
  exact ⟨e, by rw [upd_ne (neN _ n)]; exact n, r⟩
 ·by_cases hb : b = d
  ·rw [hb, upd_same] at e
   cases e
   rw [hb]
   obtain ⟨_, x⟩ := I.hok d _ h
   exact x.stay (fun c v _ q => q) (fun c q => by rw [upd_ne (neH c _ q (fun _ _ z => nomatch z))]; exact q) fun c xs q => by rw [upd_ne (neH c _ q (fun _ _ z => nomatch z))]; exact q
  ·rw [upd_ne hb] at e
   exact (I.hok b o e).stay (fun c v _ q => q) (fun c q => by rw [upd_ne (neH c _ q (fun _ _ z => nomatch z))]; exact q) fun c xs q => by rw [upd_ne (neH c _ q (fun _ _ z => nomatch z))]; exact q
end
def tLock (t : TS) : TS := fun D σ H => ∃ d u, H d = some u ∧ Mut (some u) ∧ ∀ od, t ⟨fun σ' H' => H' d = some (.frz od u) ∧ D.nx σ' (upd H' d u), fun v H' => H' d = some (.frz od u) ∧ D.rt v (upd H' d u), fun σ' H' => H' d = some (.frz od u) ∧ D.bk σ' (upd H' d u), fun σ' H' => H' d = some (.frz od u) ∧ D.ct σ' (upd H' d u)⟩ σ (upd H d (.frz od u))
section
variable {X : Cx}
theorem ps_lock {st : Stmt} {t : TS} (h : PS X st t) : PS X st (tLock t) := by
 intro pins s σ H D I hw
 obtain ⟨d, u, hd, mu, hw⟩ := hw
 obtain ⟨od, I1⟩ := I.lock hd mu
 refine thn (h pins s σ _ _ I1 (hw od)) fun f s1 q => ?_
 cases f with
 | next => obtain ⟨σ', H', I2, e, q⟩ := q; exact ⟨σ', _, I2.unlock e (I.nofrz hd mu), q⟩
 | brk => obtain ⟨σ', H', I2, e, q⟩ := q; exact ⟨σ', _, I2.unlock e (I.nofrz hd mu), q⟩
 | cont => obtain ⟨σ', H', I2, e, q⟩ := q; exact ⟨σ', _, I2.unlock e (I.nofrz hd mu), q⟩
 | ret v => obtain ⟨x, σ', H', I2, r, e, q⟩ := q; exact ⟨x, σ', _, I2.unlock e (I.nofrz hd mu), r, q⟩
theorem pi_one {tg : Expr} {pins : List (Addr × Obj)} {σ : St} {H : Hp} {s : Shared} {R : It → Hp → Prop} {J : It} {tn : Nat → Heap → Prop} {tk : Nat} (I : Inv X pins σ H s) (o : Obj)
  (T : Turn X.prog X.w X.K tg J [s.heap.objs.size] s.heap.objs.size tn) (st : tn 0 (s.heap.push o)) (q : R J H) : PIE X pins σ tg R (.ref s.heap.objs.size) { s with heap := s.heap.push o, toks := tk } := by
 refine ⟨s.heap.objs.size, [s.heap.objs.size], tn, J, H, rfl, I.kept fun b ob e => Heap.get?_push_of_some _ e, T, st, fun b hb => ?_, q⟩
 have e : b = s.heap.objs.size := by simpa using hb
 subst e
 exact I.fpOk (Nat.le_refl _) (I.hok.fresh (Nat.le_refl _))
end
section
variable {X : Cx} {tg : Expr}
end
section
variable {X : Cx} {tg : Expr}
end
section
variable {prog : Program} {w : World} {A : Around} {E : Value → Shared → Prop} {s : Shared}
theorem iter_keys {d : Addr} {o : Obj} {es : Array DictEntry} {ep : Nat} {Q : Value → Shared → Prop} (hd : (d == sysModules) = false) (ho : s.heap.get? d = some o) (hc : o.ExactDict) (hdat : o.data = .dict es ep)
  (hQ : Q (.ref s.heap.objs.size) { s with heap := s.heap.push { cls := .type "dict_keyiterator", data := .fields #[.ref d, .int 0 0, .int es.size 0, .int ep 0] } }) :
  wpAny (model prog w) A (pyIter (.ref d)) Q E s := by
 have hT : s.TypeIs (.ref d) "dict" := ⟨o, ho, hc.1⟩
 refine wpAny_pyIter_slot hT F.slot_dict_iter (wpAny_call_entry F.slot_dict_iter hT F.entry_dict_iter ?_ (F.args_dict_iter_1 _))
 unfold Builtin.«dict.__iter__»
 refine wpAny_bind ?_
 unfold Builtin.Dict.dictSlotNone
 refine wpAny_bind (wpAny_notOrdered_dict hT ?_)
 show wpAny _ _ (pure (Value.ref d)) _ _ s
 refine wpAny_pure ?_
 show wpAny _ _ (Builtin.Dict.showsAll d >>= _) _ _ s
 unfold Builtin.Dict.showsAll
 rw [if_neg (by rw [hd]; exact Bool.false_ne_true)]
 refine wpAny_bind (wpAny_pure ?_)
 refine wpAny_bind (wpAny_dictEntries ho hdat ?_)
 refine wpAny_bind (wpAny_dictEpoch ho hdat ?_)
 refine wpAny_bind (wpAny_newObj_type (wpAny_pure ⟨_, rfl, "dict_keyiterator", _, ⟨_, Heap.get?_push_size _ rfl, rfl⟩, F.slot_dict_keyiterator_next.lookup, ?_⟩))
 simpa [rawInt] using hQ
theorem next_key_item {it d : Addr} {i n ep : Nat} {od : Obj} {es : Array DictEntry} {en : DictEntry} {Q : Option Value → Shared → Prop} (hit : s.heap.IsKeyIter it d i n ep) (hod : s.heap.get? d = some od) (hdd : od.data = .dict es ep)
  (hsz : es.size = n) (hx : es[i]? = some en) (hQ : ∀ h', h'.IsKeyIter it d (i + 1) n ep → Heap.SameBut it s.heap h' → Q (some en.key) { s with heap := h' }) : wpAny (model prog w) A (pyNext (.ref it)) Q E s := by
 obtain ⟨o, ho, hc, hd⟩ := id hit
 unfold pyNext
 refine wpAny_bind (wpAny_attempt (wpAny_callSpecial?_slot (name := Str.ofString "__next__") hit.typeIs F.slot_dict_keyiterator_next
  (wpAny_call_entry F.slot_dict_keyiterator_next hit.typeIs F.entry_dict_keyiterator_next ?_ (F.args_dict_keyiterator_next_1 _))))
 refine wpAny_bind (wpAny_pure ?_)
 refine wpAny_bind ?_
 refine wpAny_bind ?_
 first | refine wpAny_bind (wpAny_typeNameOfWhole_keyiter hit.typeIs (wpAny_pure ?_)) | refine wpAny_bind (wpAny_typeNameOf_keyiter hit.typeIs (wpAny_pure ?_))
 refine wpAny_bind (wpAny_fieldsOf ho hd ?_)
 have hown : Builtin.Dict_items.ownsTuple "dict_keyiterator" = false := by decide
 simp only [hown, Bool.false_eq_true, if_false]
 show wpAny _ _ (if (Value.ref d == Value.none) = true then _ else _) _ _ s
 rw [if_neg (show ¬ ((Value.ref d == Value.none) = true) from Bool.false_ne_true)]
 refine wpAny_bind (wpAny_pure ?_)
 refine wpAny_bind (wpAny_dictEntries hod hdd ?_)
 rw [if_neg (by rw [hsz]; simp)]
 refine wpAny_bind (wpAny_pure ?_)
 refine wpAny_bind (wpAny_dictEpoch hod hdd ?_)
 rw [if_neg (by simp)]
 refine wpAny_pure ?_
 obtain ⟨hlt', hen⟩ := Array.getElem?_eq_some_iff.mp hx
 simp only [show ¬ ((i : Int) < 0) from by omega, if_false, Int.toNat_natCast, Array.getElem?_eq_getElem hlt']
 refine wpAny_bind ?_
 first | refine wpAny_bind (wpAny_typeNameOfWhole_keyiter hit.typeIs (wpAny_pure ?_)) | refine wpAny_bind (wpAny_typeNameOf_keyiter hit.typeIs (wpAny_pure ?_))
 refine wpAny_bind (wpAny_isOneOf_keyiter hit.typeIs ?_)
 show wpAny _ _ (setField (.ref it) 1 (rawInt ((i : Int) + 1)) >>= _) _ _ s
 refine wpAny_bind (wpAny_setField ho hd (by simp) ?_)
 have hit' : (s.heap.update it (Obj.mapFields (·.setIfInBounds 1 (rawInt ((i : Int) + 1))))).IsKeyIter it d (i + 1) n ep :=
  ⟨_, Heap.get?_update_self _ ho (Obj.isFreed_of_fields (Obj.data_mapFields hd _)), (Obj.cls_mapFields ..).trans hc, by rw [Obj.data_mapFields hd]; simp [rawInt]⟩
 refine wpAny_bind (wpAny_holding ?_)
 refine wpAny_bind (wpAny_isOneOf_keyiter (s := { s with heap := s.heap.update it (Obj.mapFields (·.setIfInBounds 1 (rawInt ((i : Int) + 1)))) }) hit'.typeIs ?_)
 show wpAny _ _ (pure es[i].key) _ _ _
 rw [hen]
 exact wpAny_pure (wpAny_pure ⟨_, rfl, wpAny_pure (hQ _ hit' (Heap.SameBut.update ..))⟩)
theorem next_key_end {it d : Addr} {i n ep : Nat} {od : Obj} {es : Array DictEntry} {Q : Option Value → Shared → Prop} (hh : A.handled = none) (hit : s.heap.IsKeyIter it d i n ep) (hod : s.heap.get? d = some od) (hdd : od.data = .dict es ep)
  (hsz : es.size = n) (hge : n ≤ i) (hQ : ∀ h', Heap.ExtBut it s.heap h' → Q none { s with heap := h' }) : wpAny (model prog w) A (pyNext (.ref it)) Q E s := by
 obtain ⟨o, ho, hc, hd⟩ := id hit
 unfold pyNext
 refine wpAny_bind (wpAny_attempt (wpAny_callSpecial?_slot (name := Str.ofString "__next__") hit.typeIs F.slot_dict_keyiterator_next
  (wpAny_call_entry F.slot_dict_keyiterator_next hit.typeIs F.entry_dict_keyiterator_next ?_ (F.args_dict_keyiterator_next_1 _))))
 refine wpAny_bind (wpAny_pure ?_)
 refine wpAny_bind ?_
 refine wpAny_bind ?_
 first | refine wpAny_bind (wpAny_typeNameOfWhole_keyiter hit.typeIs (wpAny_pure ?_)) | refine wpAny_bind (wpAny_typeNameOf_keyiter hit.typeIs (wpAny_pure ?_))
 refine wpAny_bind (wpAny_fieldsOf ho hd ?_)
 have hown : Builtin.Dict_items.ownsTuple "dict_keyiterator" = false := by decide
 simp only [hown, Bool.false_eq_true, if_false]
 show wpAny _ _ (if (Value.ref d == Value.none) = true then _ else _) _ _ s
 rw [if_neg (show ¬ ((Value.ref d == Value.none) = true) from Bool.false_ne_true)]
 refine wpAny_bind (wpAny_pure ?_)
 refine wpAny_bind (wpAny_dictEntries hod hdd ?_)
 rw [if_neg (by rw [hsz]; simp)]
 refine wpAny_bind (wpAny_pure ?_)
 refine wpAny_bind (wpAny_dictEpoch hod hdd ?_)
 rw [if_neg (by simp)]
 refine wpAny_pure ?_
 have hge' : es.size ≤ i := by rw [hsz]; exact hge
 simp only [show ¬ ((i : Int) < 0) from by omega, if_false, Int.toNat_natCast, Array.getElem?_eq_none hge']
 refine wpAny_bind ?_
 first | refine wpAny_bind (wpAny_typeNameOfWhole_keyiter hit.typeIs (wpAny_pure ?_)) | refine wpAny_bind (wpAny_typeNameOf_keyiter hit.typeIs (wpAny_pure ?_))
 show wpAny _ _ (setField (.ref it) 0 .none >>= _) _ _ s
 refine wpAny_bind (wpAny_setField ho hd (by simp) ?_)
 show wpAny _ _ (newExc (.type "StopIteration") [] >>= _) _ _ _
 refine wpAny_bind ?_
 simp only [newExc, newTuple]
 refine wpAny_bind (wpAny_newObj_type ?_ (by size_fits))
 refine wpAny_bind (m := firstArgMember _ _) (wpAny_of_eq (a := Value.none) (by first | rfl | (simp only [firstArgMember]; rfl)) ?_)
 refine wpAny_newObj_type ?_ (by size_fits)
 simp only [raiseNew]
 refine wpAny_bind (wpAny_handled ?_)
 rw [show A.in1.handled = none from hh]
 refine wpAny_bind (wpAny_pure (wpAny_throw ?_))
 refine wpAny_bind (wpAny_isInstance (T := "StopIteration") (b := true) ⟨_, Heap.get?_push_size _ rfl, rfl⟩ isSubtype_stop ?_)
 exact wpAny_pure (hQ _ (((Heap.SameBut.update ..).extBut.push _).push _))
end
theorem kv_get {κ : Type} {kvs : List (κ × V)} {vs : List (κ × Value)} (h : KV kvs vs) : ∀ {i : Nat} {k : κ} {v : V}, kvs[i]? = some (k, v) → ∃ u, vs[i]? = some (k, u) ∧ RelV v u := by
 unfold KV at h
 induction h with
 | nil => intro i k v e; simp at e
 | @cons a b l₁ l₂ r t ih =>
  intro i k v e
  cases i with
  | zero =>
   simp only [List.getElem?_cons_zero, Option.some.injEq] at e
   subst e
   refine ⟨b.2, ?_, r.2⟩
   simp only [List.getElem?_cons_zero]
   exact congrArg some (Prod.ext r.1.symm rfl)
  | succ j =>
   simp only [List.getElem?_cons_succ] at e ⊢
   exact ih e
theorem paired_get {α β : Type} {G : α → β → Prop} {l₁ : List α} {l₂ : List β} (h : Paired G l₁ l₂) : ∀ {i : Nat} {a : α}, l₁[i]? = some a → ∃ b, l₂[i]? = some b ∧ G a b := by
 induction h with
 | nil => intro i a e; simp at e
 | @cons a b l₁ l₂ r t ih =>
  intro i a' e
  cases i with
  | zero =>
   simp only [List.getElem?_cons_zero, Option.some.injEq] at e
   subst e
   exact ⟨b, rfl, r⟩
  | succ j =>
   simp only [List.getElem?_cons_succ] at e ⊢
   exact ih e
theorem relV_key {k : Key} {u : Value} (h : keyIs k u = true) : RelV (kV k) u := by
 rcases keyIs_shape h with ⟨i, t, rfl, rfl⟩ | ⟨x, t, rfl, rfl⟩
 ·exact ⟨t, rfl⟩
 ·exact ⟨t, rfl⟩
section
variable {X : Cx} {pins : List (Addr × Obj)} {σ : St} {H : Hp} {s : Shared} {d : Addr} {o : Obj}
theorem Inv.frzK {kvs : List (Key × V)} (I : Inv X pins σ H s) (h : H d = some (.frz o (.dK kvs))) :
  (d == sysModules) = false ∧ s.heap.get? d = some o ∧ o.ExactDict ∧ ∃ (es : Array DictEntry) (ep : Nat) (vs : List (Key × Value)), o.data = .dict es ep ∧ es.size = kvs.length ∧ KV kvs vs ∧ s.heap.DictAt (mixKind X.prog X.w) d vs ep := by
 obtain ⟨hd, z, hs, vs, kv, o', es, ep, ho, hx, hdt, r⟩ := I.hok d _ h
 rw [hd] at ho
 cases ho
 refine ⟨hs, hd, hx, es, ep, vs, hdt, ?_, kv, o, es, hd, hx, hdt, r⟩
 have l1 := r.2.1.length
 have l2 : kvs.length = vs.length := Paired.length kv
 rw [Array.length_toList] at l1
 omega
theorem Inv.frzT {kvs : List (List Key × V)} (I : Inv X pins σ H s) (h : H d = some (.frz o (.dT kvs))) :
  (d == sysModules) = false ∧ s.heap.get? d = some o ∧ o.ExactDict ∧ ∃ (es : Array DictEntry) (ep : Nat), o.data = .dict es ep ∧ es.size = kvs.length ∧
   ∀ (i : Nat) (k : List Key) (v : V), kvs[i]? = some (k, v) → ∃ (en : DictEntry) (q : Addr), es[i]? = some en ∧ en.key = .ref q ∧ H q = some (.tup (k.map kV)) := by
 obtain ⟨hd, z, hs, xs, pr, o', es, ep, ho, hx, hdt, he, _⟩ := I.hok d _ h
 rw [hd] at ho
 cases ho
 refine ⟨hs, hd, hx, es, ep, hdt, ?_, fun i k v e => ?_⟩
 ·have l1 : es.size = xs.length := size_of_entries he
  have l2 : kvs.length = xs.length := Paired.length pr
  omega
 ·obtain ⟨b, hb, e1, e2, _⟩ := paired_get pr e
  have q := entry_at he i
  rw [hb] at q
  exact ⟨_, b.2.1, q, rfl, e2⟩
end
def Itk (d : Addr) (o : Obj) (kvs : List (Key × V)) : It :=
 ⟨fun i H => H d = some (.frz o (.dK kvs)) ∧ i < kvs.length, fun i H x H' => H' = H ∧ ∃ k v, kvs[i]? = some (k, v) ∧ x = kV k, fun i H => H d = some (.frz o (.dK kvs)) ∧ kvs.length ≤ i⟩
def Itkt (d : Addr) (o : Obj) (kvs : List (List Key × V)) : It :=
 ⟨fun i H => H d = some (.frz o (.dT kvs)) ∧ i < kvs.length, fun i H x H' => H' = H ∧ ∃ (k : List Key) (v : V) (q : Addr), kvs[i]? = some (k, v) ∧ x = .ref q ∧ H q = some (.tup (k.map kV)), fun i H => H d = some (.frz o (.dT kvs)) ∧ kvs.length ≤ i⟩
def Iti (d : Addr) (o : Obj) (kvs : List (Key × V)) : It :=
 ⟨fun i H => H d = some (.frz o (.dK kvs)) ∧ i < kvs.length, fun i H x H' => ∃ T k v, kvs[i]? = some (k, v) ∧ x = .ref T ∧ H T = none ∧ H' = upd H T (.tup [kV k, v]), fun i H => H d = some (.frz o (.dK kvs)) ∧ kvs.length ≤ i⟩
theorem dict_ep {o : Obj} {es es' : Array DictEntry} {ep ep' : Nat} (h : o.data = .dict es ep) (h' : o.data = .dict es' ep') : es' = es ∧ ep' = ep := by
 rw [h] at h'
 cases h'
 exact ⟨rfl, rfl⟩
section
variable {P : Program} {w : World} {K : PySem.W.Frag} {tg : Expr} {d : Addr} {o : Obj} {es : Array DictEntry} {ep : Nat}
theorem turn_keys {kvs : List (Key × V)} (it : Addr) (hod : o.data = .dict es ep) : Turn P w K tg (Itk d o kvs) [it] it (fun i h => h.IsKeyIter it d i kvs.length ep) where
 mem := by simp
 obj := fun i h st b hb => by
  have e : b = it := by simpa using hb
  subst e
  obtain ⟨oi, e, c, dd⟩ := st
  exact ⟨oi, e, fun v z => by rw [dd] at z; cases z⟩
 keep := fun i h h' st k => st.at fun oi e => k it (by simp) oi e
 item := by
  intro X hP hw hK hc i pins s σ H E I hf st hg
  subst hP hw hK
  obtain ⟨hd, hi⟩ := hg
  obtain ⟨f0, f1, f2, f3, f4, f5⟩ := hf it (by simp)
  obtain ⟨hs, hgd, hx, es', ep', vs, hdt, hsz, kv, hm⟩ := I.frzK hd
  obtain ⟨rfl, rfl⟩ := dict_ep hod hdt
  obtain ⟨⟨k, v⟩, hkv⟩ : ∃ p, kvs[i]? = some p := ⟨kvs[i], List.getElem?_eq_getElem hi⟩
  obtain ⟨u, hu, ru⟩ := kv_get kv hkv
  have hl : kvs.length = vs.length := Paired.length kv
  rw [hl] at st
  refine wpAny_pyNext_dict_item st hm hu fun key h' hkey st' sb => ?_
  have I1 : Inv X pins σ H { s with heap := h' } := I.turned (t' := s.toks) (fun b ob hb e => (sb.2 b hb).trans e) f0 f1 f3 f4 f5
  obtain ⟨oi, e, c, dd⟩ := id st'
  refine ⟨key, rfl, go_of (s := { s with heap := h' }) e c dd (by decide) ⟨kV k, H, I1, relV_key (show keyIs k key = true from hkey), ⟨rfl, k, v, hkv, rfl⟩, ?_, fun b hb => (hf b hb).1⟩⟩
  show h'.IsKeyIter it d (i + 1) kvs.length _
  rw [hl]
  exact st'
 done := by
  intro X hP hw hK hc i pins s σ H E I hf st hg
  subst hP hw hK
  obtain ⟨hd, hi⟩ := hg
  obtain ⟨f0, f1, f2, f3, f4, f5⟩ := hf it (by simp)
  obtain ⟨hs, hgd, hx, es', ep', vs, hdt, hsz, kv, hm⟩ := I.frzK hd
  obtain ⟨rfl, rfl⟩ := dict_ep hod hdt
  exact next_key_end (I.ok.hd hc) st hgd hdt hsz hi fun h' eb => ⟨rfl, I.turned (t' := s.toks) (fun b ob hb e => eb b ob hb e) f0 f1 f3 f4 f5⟩
 self := fun A i s Q E st h => wpAny_pyIter_keyiter st h
theorem turn_keysT {kvs : List (List Key × V)} (it : Addr) (hod : o.data = .dict es ep) : Turn P w K tg (Itkt d o kvs) [it] it (fun i h => h.IsKeyIter it d i kvs.length ep) where
 mem := by simp
 obj := fun i h st b hb => by
  have e : b = it := by simpa using hb
  subst e
  obtain ⟨oi, e, c, dd⟩ := st
  exact ⟨oi, e, fun v z => by rw [dd] at z; cases z⟩
 keep := fun i h h' st k => st.at fun oi e => k it (by simp) oi e
 item := by
  intro X hP hw hK hc i pins s σ H E I hf st hg
  subst hP hw hK
  obtain ⟨hd, hi⟩ := hg
  obtain ⟨f0, f1, f2, f3, f4, f5⟩ := hf it (by simp)
  obtain ⟨hs, hgd, hx, es', ep', hdt, hsz, ent⟩ := I.frzT hd
  obtain ⟨rfl, rfl⟩ := dict_ep hod hdt
  obtain ⟨⟨k, v⟩, hkv⟩ : ∃ p, kvs[i]? = some p := ⟨kvs[i], List.getElem?_eq_getElem hi⟩
  obtain ⟨en, q, hen, hkey, hq⟩ := ent i k v hkv
  refine next_key_item st hgd hdt hsz hen fun h' st' sb => ?_
  have I1 : Inv X pins σ H { s with heap := h' } := I.turned (t' := s.toks) (fun b ob hb e => (sb.2 b hb).trans e) f0 f1 f3 f4 f5
  obtain ⟨oi, e, c, dd⟩ := id st'
  exact ⟨en.key, rfl, go_of (s := { s with heap := h' }) e c dd (by decide) ⟨.ref q, H, I1, hkey, ⟨rfl, k, v, q, hkv, rfl, hq⟩, st', fun b hb => (hf b hb).1⟩⟩
 done := by
  intro X hP hw hK hc i pins s σ H E I hf st hg
  subst hP hw hK
  obtain ⟨hd, hi⟩ := hg
  obtain ⟨f0, f1, f2, f3, f4, f5⟩ := hf it (by simp)
  obtain ⟨hs, hgd, hx, es', ep', hdt, hsz, ent⟩ := I.frzT hd
  obtain ⟨rfl, rfl⟩ := dict_ep hod hdt
  exact next_key_end (I.ok.hd hc) st hgd hdt hsz hi fun h' eb => ⟨rfl, I.turned (t' := s.toks) (fun b ob hb e => eb b ob hb e) f0 f1 f3 f4 f5⟩
 self := fun A i s Q E st h => by
  refine wpAny_pyIter_slot st.typeIs F.slot_dict_keyiterator_iter (wpAny_call_entry F.slot_dict_keyiterator_iter st.typeIs F.entry_dict_keyiterator_iter ?_ (F.args_dict_keyiterator_iter_1 _))
  show wpAny _ _ (ret (.ref it)) _ _ s
  exact wpAny_pure ⟨_, rfl, "dict_keyiterator", _, st.typeIs, F.slot_dict_keyiterator_next.lookup, h⟩
theorem turn_items {kvs : List (Key × V)} {elts : List Expr} {kk : Nat} {tpos : Pos} (it : Addr) (hod : o.data = .dict es ep) :
  Turn P w K (.Tuple elts kk tpos) (Iti d o kvs) [it] it (fun i h => ∃ ok ov, IsItemIter h it d i kvs.length ep ok ov) where
 mem := by simp
 obj := fun i h st b hb => by
  have e : b = it := by simpa using hb
  subst e
  obtain ⟨ok, ov, e⟩ := st
  exact ⟨_, e, fun v z => nomatch z⟩
 keep := fun i h h' st k => let ⟨ok, ov, e⟩ := st; ⟨ok, ov, k it (by simp) _ e⟩
 item := by
  intro X hP hw hK hc i pins s σ H E I hf st hg
  subst hP hw hK
  obtain ⟨hd, hi⟩ := hg
  obtain ⟨hs, hgd, hx, es', ep', vs, hdt, hsz, kv, hm⟩ := I.frzK hd
  obtain ⟨rfl, rfl⟩ := dict_ep hod hdt
  obtain ⟨⟨k, v⟩, hkv⟩ : ∃ p, kvs[i]? = some p := ⟨kvs[i], List.getElem?_eq_getElem hi⟩
  obtain ⟨u, hu, ru⟩ := kv_get kv hkv
  have hl : kvs.length = vs.length := Paired.length kv
  obtain ⟨ok, ov, he⟩ := st
  rw [hl] at he
  have hlt : it < s.heap.objs.size := Heap.lt_size he
  refine wpAny_pyNext_items_item he hm hu fun key h' hkey ho hT hz hk => ?_
  refine ⟨_, rfl, wpAny_letOwnedTupleGo_items (s := { s with heap := h' }) ho fun h'' he' sb => ?_⟩
  have hT2 : h''.get? s.heap.objs.size = some { cls := .type "tuple", data := .seq #[key, u] } := (sb.2 _ (Nat.ne_of_gt hlt)).trans hT
  have new : ObjOk X.prog X.w (upd H s.heap.objs.size (.tup [kV k, v])) h'' s.heap.objs.size (.tup [kV k, v]) :=
   ⟨by show 2 ≤ sizeLine; decide, [key, u], .cons (relV_key (show keyIs k key = true from hkey)) (.cons ru .nil), ⟨_, hT2, rfl, _, rfl⟩⟩
  have I1 : Inv X pins σ (upd H s.heap.objs.size (.tup [kV k, v])) { s with heap := h'' } :=
   I.turnedNew (t' := s.toks) (ch := [it]) (fun b ob hb e => (sb.2 b (by simpa using hb)).trans (hk b ob (by simpa using hb) e)) hf (Nat.le_refl _) new
  refine ⟨.ref s.heap.objs.size, _, I1, rfl, ⟨_, k, v, hkv, rfl, I.hok.fresh (Nat.le_refl _), rfl⟩, ⟨key, u, ?_⟩, fun b hb => ?_⟩
  ·rw [hl]; exact he'
  ·have e : b = it := by simpa using hb
   rw [e, upd_ne (Nat.ne_of_lt hlt)]
   exact (hf it (by simp)).1
 done := by
  intro X hP hw hK hc i pins s σ H E I hf st hg
  subst hP hw hK
  obtain ⟨hd, hi⟩ := hg
  obtain ⟨f0, f1, f2, f3, f4, f5⟩ := hf it (by simp)
  obtain ⟨hs, hgd, hx, es', ep', vs, hdt, hsz, kv, hm⟩ := I.frzK hd
  obtain ⟨rfl, rfl⟩ := dict_ep hod hdt
  have hl : kvs.length = vs.length := Paired.length kv
  obtain ⟨ok, ov, he⟩ := st
  rw [hl] at he
  exact wpAny_pyNext_items_end (I.ok.hd hc) he hm (List.getElem?_eq_none (by omega)) fun h' eb => ⟨rfl, I.turned (t' := s.toks) (fun b ob hb e => eb b ob hb e) f0 f1 f3 f4 f5⟩
 self := fun A i s Q E st h => let ⟨_, _, e⟩ := st; PySem.W.kcp_self e h
end
def iKeys (td : TE) : TI := fun σ H R => td σ H fun x H1 => ∃ d o, x = .ref d ∧ ((∃ kvs, H1 d = some (.frz o (.dK kvs)) ∧ R (Itk d o kvs) H1) ∨ ∃ kvs, H1 d = some (.frz o (.dT kvs)) ∧ R (Itkt d o kvs) H1)
def iItems (td : TE) : TI := fun σ H R => td σ H fun x H1 => ∃ d o kvs, x = .ref d ∧ H1 d = some (.frz o (.dK kvs)) ∧ R (Iti d o kvs) H1
section
variable {X : Cx} {tg e : Expr} {td : TE} {apos cpos : Pos}
theorem pi_keys (he : PE X e td) : PI X tg e (iKeys td) := by
 intro pins s σ H R I h
 refine thn (he pins s σ H _ I h) fun u s1 ⟨x, H1, I1, rx, d, o, ex, q⟩ => ?_
 subst ex
 obtain rfl : u = Value.ref d := rx
 rcases q with ⟨kvs, hd, q⟩ | ⟨kvs, hd, q⟩
 ·obtain ⟨hs, hgd, hx, es, ep, vs, hdt, hsz, kv, hm⟩ := I1.frzK hd
  refine iter_keys hs hgd hx hdt (pi_one (tk := s1.toks) I1 _ (turn_keys _ hdt) ⟨_, Heap.get?_push_size _ rfl, rfl, ?_⟩ q)
  rw [hsz] <;> rfl
 ·obtain ⟨hs, hgd, hx, es, ep, hdt, hsz, ent⟩ := I1.frzT hd
  refine iter_keys hs hgd hx hdt (pi_one (tk := s1.toks) I1 _ (turn_keysT _ hdt) ⟨_, Heap.get?_push_size _ rfl, rfl, ?_⟩ q)
  rw [hsz] <;> rfl
theorem pi_items {elts : List Expr} {kk : Nat} {tpos : Pos} (he : PE X e td) (hbase : attributeBase e "items" X.env (eval e X.env) = eval e X.env := by rfl) (hline : (apos.endLine == cpos.line) = true := by rfl) :
  PI X (.Tuple elts kk tpos) (.Call (.Attribute e "items" apos) [] [] cpos) (iItems td) := by
 intro pins s σ H R I h
 refine wpAny_Call_method (T := "dict") (id := "dict.items") hbase rfl hline F.plainAttrs_dict F.slot_dict_items F.type_dict_items (thn (he pins s σ H _ I h) fun u s1 ⟨x, H1, I1, rx, d, o, kvs, ex, hd, q⟩ => ?_)
 subst ex
 obtain rfl : u = Value.ref d := rx
 obtain ⟨hs, hgd, hx, es, ep, vs, hdt, hsz, kv, hm⟩ := I1.frzK hd
 have hl : kvs.length = vs.length := Paired.length kv
 refine ⟨hm.dictOf.typeIs, hm.dictOf.mapOf.noDict, ?_⟩
 have I2 : Inv X pins σ H1 { s1 with heap := s1.heap.push { cls := .type "dict_items", data := .fields #[.ref d] } } := I1.kept (t' := s1.toks) fun b ob q => Heap.get?_push_of_some _ q
 have fin : wpAny (model X.prog X.w) X.A (pyIter (.ref s1.heap.objs.size)) (PIE X pins σ (.Tuple elts kk tpos) R) X.xe { s1 with heap := s1.heap.push { cls := .type "dict_items", data := .fields #[.ref d] } } := by
  refine wpAny_pyIter_items (d := d) (knd := mixKind X.prog X.w) ⟨_, Heap.get?_push_size _ rfl, rfl, rfl⟩ (hm.push _) (pi_one (tk := s1.toks) I2 _ (turn_items _ hdt) ⟨.none, .none, ?_⟩ q)
  rw [hl]
  exact Heap.get?_push_size _ rfl
 show wpAny _ _ (callWith cpos (.builtin "dict.items") [.ref d] [] []) _ X.xe s1
 exact method_meetsIn F.slot_dict_items F.entry_dict_items rfl (PySem.evalArgs_none ⟨rfl, hm.dictOf.typeIs, F.args_dict_items_1 _, _, meets_dict_items (mixKind X.prog X.w) d hs, ⟨vs, hm.dictOf⟩, fin⟩)
end
theorem boot_zip5 : bootBuiltins "zip" = some (.type "zip") := by decide +kernel
def Itz (K : PySem.W.Frag) (a b : Addr) : It :=
 ⟨fun i H => ∃ (xs ys : List V) (x y : V), SqL K H a xs ∧ SqL K H b ys ∧ xs[i]? = some x ∧ ys[i]? = some y,
  fun i H v H' => ∃ T x y, v = .ref T ∧ H T = none ∧ H' = upd H T (.tup [x, y]) ∧ (∀ xs, SqL K H a xs → xs[i]? = some x) ∧ ∀ ys, SqL K H b ys → ys[i]? = some y,
  fun i H => ∃ xs ys : List V, SqL K H a xs ∧ SqL K H b ys ∧ (xs.length ≤ i ∨ ys.length ≤ i)⟩
theorem turn_zip {P : Program} {w : World} {K : PySem.W.Frag} {elts : List Expr} {kk : Nat} {tpos : Pos} {a b z TI TO i1 i2 : Addr} (D : ZipApart z TI TO i1 i2 a b) :
  Turn P w K (.Tuple elts kk tpos) (Itz K a b) [z, TI, TO, i1, i2] z (fun i h => IsZip h z TI TO .none ∧ IsPair h TI (.ref i1) (.ref i2) ∧ (∃ x y, IsPair h TO x y) ∧ h.IsListIter i1 a i ∧ h.IsListIter i2 b i) where
 mem := by simp
 obj := fun i h st c hc => by
  obtain ⟨hz, hTI, ⟨x, y, hTO⟩, ⟨o1, e1, _, d1⟩, ⟨o2, e2, _, d2⟩⟩ := st
  have e' : c = z ∨ c = TI ∨ c = TO ∨ c = i1 ∨ c = i2 := by simpa using hc
  rcases e' with q | q | q | q | q
  ·rw [q]; exact ⟨_, hz, fun v q => nomatch q⟩
  ·rw [q]; exact ⟨_, hTI, fun v q => nomatch q⟩
  ·rw [q]; exact ⟨_, hTO, fun v q => nomatch q⟩
  ·rw [q]; exact ⟨o1, e1, fun v q => by rw [d1] at q; cases q⟩
  ·rw [q]; exact ⟨o2, e2, fun v q => by rw [d2] at q; cases q⟩
 keep := fun i h h' st k => by
  obtain ⟨hz, hTI, ⟨x, y, hTO⟩, h1, h2⟩ := st
  exact ⟨k z (by simp) _ hz, k TI (by simp) _ hTI, ⟨x, y, k TO (by simp) _ hTO⟩, h1.at fun o q => k i1 (by simp) o q, h2.at fun o q => k i2 (by simp) o q⟩
 item := by
  intro X hP hw hK hc i pins s σ H E I hf st hg
  subst hP hw hK
  obtain ⟨hz, hTI, ⟨x0, y0, hTO⟩, h1, h2⟩ := st
  obtain ⟨xs, ys, x, y, hqx, hqy, hx, hy⟩ := hg
  obtain ⟨its, rv, p, _⟩ := I.list hqx
  obtain ⟨its2, rv2, p2, _⟩ := I.list hqy
  obtain ⟨u, hu, ru⟩ := rv.get hx
  obtain ⟨u2, hu2, ru2⟩ := rv2.get hy
  have hzl : z < s.heap.objs.size := Heap.lt_size hz
  refine wpAny_pyNext_zip_item D hz hTI hTO h1 h2 p.isList p2.isList (x := u) (y := u2) (by simpa using hu) (by simpa using hu2) fun h' z' TO' h1' h2' hT hsz hk => ?_
  refine ⟨_, rfl, wpAny_letOwnedTupleGo_zip (s := { s with heap := h' }) z' fun h'' z'' sb => ?_⟩
  have hT2 : h''.get? s.heap.objs.size = some { cls := .type "tuple", data := .seq #[u, u2] } := (sb.2 _ (Nat.ne_of_gt hzl)).trans hT
  have new : ObjOk X.prog X.w (upd H s.heap.objs.size (.tup [x, y])) h'' s.heap.objs.size (.tup [x, y]) :=
   ⟨by show 2 ≤ sizeLine; decide, [u, u2], .cons ru (.cons ru2 .nil), ⟨_, hT2, rfl, _, rfl⟩⟩
  have I1 : Inv X pins σ (upd H s.heap.objs.size (.tup [x, y])) { s with heap := h'' } :=
   I.turnedNew (t' := s.toks) (ch := [z, TI, TO, i1, i2]) (fun c o hb q => (sb.2 c (fun q' => hb (by simp [q']))).trans (hk c o (fun q' => hb (by simp [q'])) (fun q' => hb (by simp [q'])) (fun q' => hb (by simp [q'])) (fun q' => hb (by simp [q'])) q)) hf (Nat.le_refl _) new
  refine ⟨.ref s.heap.objs.size, _, I1, rfl, ⟨_, x, y, rfl, I.hok.fresh (Nat.le_refl _), rfl, fun l hl => by rw [I.list_inj hl hqx]; exact hx, fun l hl => by rw [I.list_inj hl hqy]; exact hy⟩, ⟨z'', ?_, ⟨u, u2, ?_⟩, ?_, ?_⟩, fun c hcm => ?_⟩
  ·exact (sb.2 _ D.TIz).trans (hk _ _ D.TIz D.TITO D.TIi1 D.TIi2 hTI)
  ·exact (sb.2 _ D.TOz).trans TO'
  ·exact h1'.at fun o q => (sb.2 _ D.i1z).trans q
  ·exact h2'.at fun o q => (sb.2 _ D.i2z).trans q
  ·have hlt : c < s.heap.objs.size := by
    have e' : c = z ∨ c = TI ∨ c = TO ∨ c = i1 ∨ c = i2 := by simpa using hcm
    rcases e' with q | q | q | q | q
    ·rw [q]; exact hzl
    ·rw [q]; exact Heap.lt_size hTI
    ·rw [q]; exact Heap.lt_size hTO
    ·rw [q]; obtain ⟨_, e1, _⟩ := h1; exact Heap.lt_size e1
    ·rw [q]; obtain ⟨_, e2, _⟩ := h2; exact Heap.lt_size e2
   rw [upd_ne (Nat.ne_of_lt hlt)]
   exact (hf c hcm).1
 done := by
  intro X hP hw hK hc i pins s σ H E I hf st hg
  subst hP hw hK
  obtain ⟨hz, hTI, ⟨x0, y0, hTO⟩, h1, h2⟩ := st
  obtain ⟨xs, ys, hqx, hqy, hend⟩ := hg
  obtain ⟨its, rv, p, _⟩ := I.list hqx
  obtain ⟨its2, rv2, p2, _⟩ := I.list hqy
  have l1 := rv.length
  have l2 := rv2.length
  have he : its.toArray[i]? = none ∨ its2.toArray[i]? = none := by
   rcases hend with q | q
   ·exact .inl (by simp; omega)
   ·exact .inr (by simp; omega)
  exact wpAny_pyNext_zip_end (I.ok.hd hc) D hz hTI hTO h1 h2 p.isList p2.isList he fun h' hk => ⟨rfl, I.turnedL (t' := s.toks) (ch := [z, TI, TO, i1, i2]) (fun c o hb q =>
   hk c o (fun q' => hb (by simp [q'])) (fun q' => hb (by simp [q'])) (fun q' => hb (by simp [q'])) (fun q' => hb (by simp [q'])) q) hf⟩
 self := fun A i s Q E st h => wpAny_pyIter_zip st.1 h
def iZip (K : PySem.W.Frag) (ta : TA) : TI := fun σ H R => ta σ H fun vs H1 => ∃ a b xs ys, vs = [.ref a, .ref b] ∧ SqL K H1 a xs ∧ SqL K H1 b ys ∧ R (Itz K a b) H1
theorem pi_zip {X : Cx} {e e2 : Expr} {ta : TA} {p pos tpos : Pos} {elts : List Expr} {kk : Nat} (hg : Gl X "zip") (hm : X.mg "zip" = none) (ha : PA X [e, e2] ta)
  (hs : starEach [e, e2] X.env = (false, eval e X.env) :: starEach [e2] X.env := by rfl) (hpl : (backTo pos (starEach [e2] X.env)).any (·.1) = false := by rfl) :
  PI X (.Tuple elts kk tpos) (.Call (.Name "zip" p) [e, e2] [] pos) (iZip X.K ta) := by
 intro pins s σ H R I h
 refine Call_ (ld_blt I hg hm boot_zip5 (PyProof.Rows.callWith_type1 (thn (ha pos pins s σ H _ I h) fun us s1 ⟨vs, H1, I1, r1, q1⟩ => ?_) hs hpl))
 obtain ⟨a, b, xs, ys, ex, hqx, hqy, q⟩ := q1
 subst ex
 cases r1 with
 | cons r rr =>
  cases rr with
  | cons r' rr =>
   cases rr
   cases r
   cases r'
   obtain ⟨its, rv, p1, _⟩ := I1.list hqx
   obtain ⟨its2, rv2, p2, _⟩ := I1.list hqy
   have la : a < s1.heap.objs.size := p1.lt
   have lb : b < s1.heap.objs.size := p2.lt
   refine call_zip_2 p1.isList p2.isList fun h' hz hTI hTO h1 h2 hsz hk => wpAny_pyIter_zip hz ?_
   have I2 : Inv X pins σ H1 { s1 with heap := h' } := I1.kept (t' := s1.toks) hk
   refine ⟨s1.heap.objs.size + 4, [s1.heap.objs.size + 4, s1.heap.objs.size + 2, s1.heap.objs.size + 3, s1.heap.objs.size, s1.heap.objs.size + 1], _, _, H1, rfl, I2, turn_zip (PySem.W.ktu_apart s1.heap.objs.size a b la lb), ⟨hz, hTI, ⟨_, _, hTO⟩, h1, h2⟩, fun c hcm => ?_, q⟩
   have e' : c = s1.heap.objs.size + 4 ∨ c = s1.heap.objs.size + 2 ∨ c = s1.heap.objs.size + 3 ∨ c = s1.heap.objs.size ∨ c = s1.heap.objs.size + 1 := by simpa using hcm
   have hle : s1.heap.objs.size ≤ c := by
    rcases e' with z | z | z | z | z
    ·rw [z]; exact Nat.le_add_right _ _
    ·rw [z]; exact Nat.le_add_right _ _
    ·rw [z]; exact Nat.le_add_right _ _
    ·rw [z]; exact Nat.le_refl _
    ·rw [z]; exact Nat.le_add_right _ _
   exact I1.fpOk hle (I1.hok.fresh hle)
end L2
section
namespace Bits
open PySem PyProof.Rows
end Bits
end
section
namespace TL
open PySem PySem.Builtin PySem.Builtin.Str PySem.StrLaws
end TL
end
namespace L2
open PySem PySem.Spec PyProof.Rows
section
variable {X : Cx} {pins : List (Addr × Obj)} {σ : St} {H : Hp} {s : Shared} {Q : VK}
end
section
variable {X : Cx}
end
section
variable {X : Cx} {o e : Expr} {to te : TE}
end
end L2
namespace L2
open PySem PySem.Spec PyProof.Rows
section
variable {X : Cx}
end
end L2
namespace Att
open PySem PySem.W PySem.Calls PyProof.Rows
section
variable {prog : Program} {w : World} {A : Around} {E : Value → Shared → Prop} {s : Shared} {K : Frag}
end
end Att
namespace L2
open PySem PySem.Spec PyProof.Rows
end L2
namespace L2
open PySem PySem.Spec PyProof.Rows
end L2
/- THE LAST THEOREM (shape; LID, My.* are yours):
  My.Adr: a structure of the addresses that your layer names (classes, functions); My.Txt K t: a structure (Prop) of the equations over K;
  My.txt_mk : {K} {implicit addresses ..} (e1 : nsIn K mainGlobals "law" = some (some (.ref f))) (e2 : K.lookup f = some ⟨oc, od, .func (fnOf "law" "law" params body scope dV kV doc pm an cdv ct), sl⟩) (e3 : codeIn K cdv "law" = true) .. : ∃ t, My.Txt K t
set_option maxRecDepth 100000 in
set_option maxHeartbeats 0 in
theorem PySem.Challenge.cw_LID_holds : PySem.Challenge.rw_LID.Holds := by
 w_on; o_law; k_head; (case hw => w_witness2)
 k_fill
 refine L2.walk_of (l := PySem.Challenge.rw_LID) (n := 63) (k := 40) (x := "script") (CX := fun w => ..) (sp := fun _ => My.sp_law) rfl (by decide) rfl ⟨rfl, by decide, by decide⟩ (fun w h Y => PySem.W.kIn_of Y) ?F ?S ?C
 case F =>
  intro w mg fa h KX G hmg
  have T : ∃ t, My.Txt (L2.KOf KX) t := by
   dsimp only [L2.KOf]                          -- K must stand as «<heap const> w.params» for k_is
   refine' My.txt_mk ?e1 ?e2 ?e3 ..
   (case e1 => PySem.W.k_is)                    -- in the order: a name -> its address -> its object -> its parts
   (case e2 => PySem.W.k_is)
   ..
  obtain ⟨t, T⟩ := T
  have e0 := hmg.symm.trans (PySem.W.mg_of KX G T.law)
  cases e0                                       -- fa is the law's own address
  exact ⟨_, fun s u => .of_eq rfl, fun base kb nb => My.law_fn T kb nb⟩     -- if «.of_eq rfl» comes too early: refine' ⟨_, ?b, fun base kb nb => My.law_fn T kb nb⟩; exact fun s u => .of_eq rfl
 case S => exact fun w H a ns hl hO hS => ..
 case C => exact ..
(the tactic k_is has no namespace: write k_is) -/
namespace L2
open PySem PySem.Spec PyProof.Rows
def inClass (s : Stmt) (j : Nat) : Stmt := match s with
 | .ClassDef _ _ _ body _ _ _ _ _ _ _ => body.getD j (.Pass ⟨0, 0, 0, 0⟩)
 | _ => .Pass ⟨0, 0, 0, 0⟩
def defArgs (s : Stmt) : Arguments := match s with
 | .FunctionDef _ a _ _ _ _ _ _ _ _ => a
 | _ => { posonlyargs := [], args := [], vararg := none, kwonlyargs := [], kw_defaults := [], kwarg := none, defaults := [] }
def defBody (s : Stmt) : List Stmt := match s with
 | .FunctionDef _ _ b _ _ _ _ _ _ _ => b
 | _ => []
def defScope (s : Stmt) : Scope := match s with
 | .FunctionDef _ _ _ _ _ _ sc _ _ _ => sc
 | _ => { kind := .function, names := [], isGenerator := false, isCoroutine := false }
abbrev CX0 : CXT := fun _ _ _ _ _ _ => False
abbrev E0 : XK := fun _ _ _ => False
theorem pass0 {X : Cx} : Passes CX0 X E0 := fun _ _ _ _ _ _ _ h => h.elim
structure Fun (K : PySem.W.Frag) (x qual : Str) (st : Stmt) (f : Addr) (fd : FuncData) : Prop where
 ex : ∃ (oc : Value) (od : Option Addr) (kV doc pm : Value) (an : Option Addr) (cdv ct : Value) (osl : Array (Option Value)),
  fd = PySem.W.fnOf x qual (defArgs st) (defBody st) (defScope st) .none kV doc pm an cdv ct ∧ K.lookup f = some ⟨oc, od, .func fd, osl⟩ ∧ PySem.W.codeIn K cdv qual = true
 kp : PySem.W.keepIn K (.ref f) = true
section
variable {P : Program} {w : World} {K : PySem.W.Frag} {mg : Str → Option Value} {base : Heap}
theorem Fun.ok {x qual : Str} {st : Stmt} {f : Addr} {fd : FuncData} {N ps : List Str} {k : Nat} {sp : Sp} (F : Fun K x qual st f fd) (S : FnScope N ps (defScope st)) (len : ∀ vs H Q E, sp vs H Q E → vs.length = ps.length)
  (hbody : ∀ (cdv : Value) (A : Around) (outer : List Env) (s : Shared) (H : Hp) (vs : List V) (Q : VK) (E : XK), Room k (A.deeper (envOfC qual (defScope st) s.heap.objs.size f cdv)) → sp vs H Q E →
   ∃ t, PSs (cxOf CX0 P w K mg base N qual (defScope st) f cdv A outer s H E).nox (defBody st) t ∧ t { nx := fun _ H' => Q .non H', rt := Q } (start N vs) H) : FnOk P w K mg base CX0 (k + 1) f fd ps sp := by
 obtain ⟨oc, od, kV, doc, pm, an, cdv, ct, osl, rfl, lk, hcd⟩ := F.ex
 refine fn_of lk hcd S len fun A outer s H vs Q E hr hsp => ?_
 obtain ⟨t, h, q⟩ := hbody cdv A outer s H vs Q E hr hsp
 exact ⟨t, h.nox, q⟩
theorem Fun.binds {x qual : Str} {st : Stmt} {f : Addr} {fd : FuncData} {ps : List Str} (F : Fun K x qual st f fd)
  (h : ∀ (kV doc pm : Value) (an : Option Addr) (cdv ct : Value) (us : List Value), us.length = ps.length → bindArgs (PySem.W.fnOf x qual (defArgs st) (defBody st) (defScope st) .none kV doc pm an cdv ct) ⟨us, []⟩ = pure (ps.zip us)) : Binds K fd ps [] := by
 obtain ⟨oc, od, kV, doc, pm, an, cdv, ct, osl, rfl, lk, hcd⟩ := F.ex
 exact .all (h kV doc pm an cdv ct)
theorem fun_mk {x qual : Str} {st : Stmt} {f : Addr} {oc : Value} {od an : Option Addr} {osl : Array (Option Value)} {kV doc pm cdv ct : Value} (l : K.lookup f = some ⟨oc, od, .func (PySem.W.fnOf x qual (defArgs st) (defBody st) (defScope st) .none kV doc pm an cdv ct), osl⟩)
  (c : PySem.W.codeIn K cdv qual = true) (k : PySem.W.keepIn K (.ref f) = true) : Fun K x qual st f (PySem.W.fnOf x qual (defArgs st) (defBody st) (defScope st) .none kV doc pm an cdv ct) := ⟨⟨oc, od, kV, doc, pm, an, cdv, ct, osl, rfl, l, c⟩, k⟩
end
theorem hu_of {A : Around} {k : Nat} (hr : Room k A) : A.units + 1 < cLine := Nat.lt_of_le_of_lt (Nat.add_le_add_left (by decide : 1 ≤ 64) _) hr.units
section
variable {X : Cx}
theorem pv (i : Nat) {x : Str} {pos : Pos} (hN : X.N[i]? = some x := by rfl) (hv : Vis X.env.scope x := by first | exact Or.inl rfl | exact Or.inr (Or.inl rfl) | exact Or.inr (Or.inr rfl)) (hd : (x == ("__debug__" : Str)) = false := by decide)
  (hcd : (x == ("__classdict__" : Str)) = false := by decide) : PE X (.Name x pos) (tVar i) := pe_var hN hv hd hcd
theorem call_lenD : CallR X (.builtin "len") (fun xs H Q => ∃ a kvs, xs = [V.ref a] ∧ H a = some (.dK kvs) ∧ Q (.int kvs.length) H) := by
 intro pins s σ H xs us Q I r h
 obtain ⟨a, kvs, rfl, ha, q⟩ := h
 obtain ⟨u, rfl, ru⟩ := vals1 r
 cases ru
 exact d_len I (.inl ha) fun t s' I' => ⟨.int kvs.length, H, I', ⟨t, rfl⟩, q⟩
end
def Same (H H' : Hp) : Prop := ∀ b o, H b = some o → H' b = some o
theorem Same.refl (H : Hp) : Same H H := fun _ _ h => h
theorem Same.trans {H H1 H2 : Hp} (a : Same H H1) (b : Same H1 H2) : Same H H2 := fun c o h => b c o (a c o h)
theorem Same.free {H H' : Hp} (e : Same H H') {l : Addr} (h : H' l = Option.none) : H l = Option.none := by
 cases q : H l with
 | none => rfl
 | some o =>
  rw [e l o q] at h
  cases h
theorem Same.seq {K : PySem.W.Frag} {H H' : Hp} {a : Addr} {xs : List V} (e : Same H H') (h : SqL K H a xs) : SqL K H' a xs := by
 rcases h with (h | ⟨o, h⟩) | h
 ·exact .inl (.inl (e _ _ h))
 ·exact .inl (.inr ⟨o, e _ _ h⟩)
 ·exact .inr h
section
variable {κ : Type} [DecidableEq κ]
end
theorem at_of {xs : List V} {z : Int} {j : Nat} {v : V} (e : z = (j : Int)) (h : xs[j]? = some v) : atI xs z = some v := by
 rw [e]
 exact atI_nat h
theorem nd_ix {α : Type} {l : List α} (hN : l.Nodup) {i j : Nat} {x : α} (a : l[i]? = some x) (b : l[j]? = some x) : i = j := by
 obtain ⟨h1, e1⟩ := List.getElem?_eq_some_iff.mp a
 obtain ⟨h2, e2⟩ := List.getElem?_eq_some_iff.mp b
 exact (List.getElem_inj hN).mp (e1.trans e2.symm)
end L2
section
namespace L2
open PySem PySem.Spec PyProof.Rows
open PySem.W (WData Codec OpenSpec Well WellAll ReadsW ReadsAllW)
mutual
inductive Dw (K : PySem.W.Frag) (H : Hp) : V → WData → Prop
 | non : Dw K H .non .none
 | bl (b : Bool) : Dw K H (.bl b) (.bool b)
 | int (i : Int) : Dw K H (.int i) (.int i)
 | str (x : Str) : Dw K H (.str x) (.str x)
 | byt (b : Array UInt8) : Dw K H (.byt b) (.bytes b.toList)
 | lst {a : Addr} {xs : List V} {ds : List WData} : SqL K H a xs → DwAll K H xs ds → Dw K H (.ref a) (.list ds)
 | tup {a : Addr} {xs : List V} {ds : List WData} : SqT K H a xs → DwAll K H xs ds → Dw K H (.ref a) (.tuple ds)
inductive DwAll (K : PySem.W.Frag) (H : Hp) : List V → List WData → Prop
 | nil : DwAll K H [] []
 | cons {v : V} {vs : List V} {d : WData} {ds : List WData} : Dw K H v d → DwAll K H vs ds → DwAll K H (v :: vs) (d :: ds)
end
theorem dw_ints {K : PySem.W.Frag} {H : Hp} : ∀ ns : List Int, DwAll K H (ns.map V.int) (ns.map WData.int)
 | [] => .nil
 | n :: r => .cons (.int n) (dw_ints r)
theorem ints_dw {K : PySem.W.Frag} {H : Hp} : ∀ (ns : List Int) (xs : List V), DwAll K H xs (ns.map WData.int) → xs = ns.map V.int
 | [], xs, h => by
  cases h
  rfl
 | n :: r, xs, h => by
  cases h with
  | cons h1 h2 =>
   cases h1
   rw [ints_dw r _ h2] <;> rfl
section
variable {P : Program} {w : World} {K : PySem.W.Frag} {H : Hp} {h : Heap} {R : PySem.W.WRecords} {cl : Str → Option Addr}
theorem sqL_at {a : Addr} {xs : List V} (hok : HOk P w H h) (KX : K.In h) (q : SqL K H a xs) : ∃ (its : List Value) (o : Obj) (n : Nat), Vals xs its ∧ h.get? a = some o ∧ o.cls = .type "list" ∧ o.data = .seq its.toArray n := by
 rcases q with q | ⟨o, its, n, e, hc, _, hd, _, hv⟩
 ·obtain ⟨_, its, n, hv, e⟩ := (show ObjOk P w H h a (.lst xs) from q.ok hok)
  exact ⟨its, _, n, hv, e, rfl, rfl⟩
 ·exact ⟨its.toList, o, n, hv, KX _ _ e, hc, by simp [hd]⟩
theorem sqT_at {a : Addr} {xs : List V} (hok : HOk P w H h) (KX : K.In h) (q : SqT K H a xs) : ∃ (its : List Value) (o : Obj) (n : Nat), Vals xs its ∧ h.get? a = some o ∧ o.cls = .type "tuple" ∧ o.data = .seq its.toArray n := by
 rcases q with q | ⟨o, its, n, e, hc, hd, _, hv⟩
 ·obtain ⟨_, its, hv, o, e, hc, n, hd⟩ := (show ObjOk P w H h a (.tup xs) from q.ok hok)
  exact ⟨its, o, n, hv, e, hc, hd⟩
 ·exact ⟨its.toList, o, n, hv, KX _ _ e, hc, by simp [hd]⟩
mutual
theorem Dw.reads (hok : HOk P w H h) (KX : K.In h) : ∀ (d : WData) (v : V) (u : Value), Dw K H v d → RelV v u → ∃ as, ReadsW R cl h u d as
 | .none, _, _, x, r => by
  cases x
  cases r
  exact ⟨_, ReadsW.none⟩
 | .bool b, _, _, x, r => by
  cases x
  cases r
  exact ⟨_, ReadsW.bool b⟩
 | .int i, _, _, x, r => by
  cases x
  obtain ⟨t, rfl⟩ := r
  exact ⟨_, ReadsW.int i t⟩
 | .str s, _, _, x, r => by
  cases x
  obtain ⟨t, rfl⟩ := r
  exact ⟨_, ReadsW.str s t⟩
 | .bytes b, _, _, x, r => by
  cases x
  obtain ⟨t, rfl⟩ := r
  exact ⟨_, ReadsW.bytes _ t⟩
 | .list ds, _, _, x, r => by
  cases x with
  | lst hs ha =>
   cases r
   obtain ⟨its, o, n, rv, ho, hc, hd⟩ := sqL_at hok KX hs
   obtain ⟨as, hr⟩ := Dw.readsAll hok KX ds _ its ha rv
   exact ⟨_, ReadsW.list ho hc hd hr⟩
 | .tuple ds, _, _, x, r => by
  cases x with
  | tup hs ha =>
   cases r
   obtain ⟨its, o, n, rv, ho, hc, hd⟩ := sqT_at hok KX hs
   obtain ⟨as, hr⟩ := Dw.readsAll hok KX ds _ its ha rv
   exact ⟨_, ReadsW.tuple ho hc hd hr⟩
 | .float _, _, _, x, _ => by cases x
 | .dict _, _, _, x, _ => by cases x
 | .bytearray _, _, _, x, _ => by cases x
 | .set _, _, _, x, _ => by cases x
 | .frozenset _, _, _, x, _ => by cases x
 | .obj _ _, _, _, x, _ => by cases x
theorem Dw.readsAll (hok : HOk P w H h) (KX : K.In h) : ∀ (ds : List WData) (vs : List V) (us : List Value), DwAll K H vs ds → Vals vs us → ∃ as, ReadsAllW R cl h us ds as
 | [], _, _, x, r => by
  cases x
  cases r
  exact ⟨_, ReadsAllW.nil⟩
 | d :: ds, _, _, x, r => by
  cases x with
  | cons h1 h2 =>
   cases r with
   | cons r1 r2 =>
    obtain ⟨as, q1⟩ := Dw.reads hok KX d _ _ h1 r1
    obtain ⟨bs, q2⟩ := Dw.readsAll hok KX ds _ _ h2 r2
    exact ⟨_, ReadsAllW.cons q1 q2⟩
end
end
mutual
def plW : WData → Bool
 | .none => true
 | .bool _ => true
 | .int _ => true
 | .str _ => true
 | .bytes _ => true
 | .list xs => plWs xs
 | .tuple xs => plWs xs
 | _ => false
def plWs : List WData → Bool
 | [] => true
 | x :: r => plW x && plWs r
end
theorem plWs_map {α : Type} {f : α → WData} (h : ∀ a, plW (f a) = true) : ∀ l : List α, plWs (l.map f) = true
 | [] => rfl
 | x :: r => by
  show (plW (f x) && plWs (r.map f)) = true
  rw [h x, plWs_map h r] <;> rfl
theorem pl_enc : ∀ (c : Codec) (a : c.denote), plW (c.enc a) = true
 | .unit, _ => rfl
 | .bool, _ => rfl
 | .int _ _, _ => rfl
 | .nat _ _, _ => rfl
 | .u8, _ => rfl
 | .bytes _ _, _ => rfl
 | .text _ _ _ _, _ => rfl
 | .list _ _ c, a => plWs_map (fun x => pl_enc c x) a
 | .pair c d, a => by
  show (plW (c.enc a.1) && (plW (d.enc a.2) && true)) = true
  rw [pl_enc c a.1, pl_enc d a.2] <;> rfl
 | .triple c d e, a => by
  show (plW (c.enc a.1) && (plW (d.enc a.2.1) && (plW (e.enc a.2.2) && true))) = true
  rw [pl_enc c a.1, pl_enc d a.2.1, pl_enc e a.2.2] <;> rfl
 | .option c, none => rfl
 | .option c, some x => pl_enc c x
theorem pl_encAll : ∀ (cs : List Codec) (a : Codec.denoteAll cs), plWs (Codec.encAll cs a) = true
 | [], _ => rfl
 | c :: cs, a => by
  show (plW (c.enc a.1) && plWs (Codec.encAll cs a.2)) = true
  rw [pl_enc c a.1, pl_encAll cs a.2] <;> rfl
theorem weight_mem : ∀ {xs : List WData} {d : WData}, d ∈ xs → d.weight ≤ WData.weightAll xs
 | [], d, h => absurd h (by simp)
 | x :: r, d, h => by
  show d.weight ≤ x.weight + 1 + WData.weightAll r
  rcases List.mem_cons.mp h with e | m
  ·rw [e]
   omega
  ·have z := weight_mem m
   omega
def toV : Value → V
 | .none => .non
 | .bool b => .bl b
 | .int i _ => .int i
 | .str x _ => .str x
 | .bytes b _ => .byt b
 | .ref a => .ref a
 | _ => .non
def OkU (A : List Addr) : Value → Prop
 | .none => True
 | .bool _ => True
 | .int _ _ => True
 | .str _ _ => True
 | .bytes _ _ => True
 | .ref a => a ∈ A
 | _ => False
theorem OkU.mono {A B : List Addr} (h : ∀ a ∈ A, a ∈ B) : ∀ {u : Value}, OkU A u → OkU B u := fun {u} x => by
 cases u with
 | ref a => exact h a x
 | none => trivial
 | bool b => trivial
 | int i t => trivial
 | str s t => trivial
 | bytes b t => trivial
 | _ => exact False.elim x
theorem relV_toV {A : List Addr} {u : Value} (x : OkU A u) : RelV (toV u) u := by
 cases u with
 | ref a => rfl
 | none => rfl
 | bool b => rfl
 | int i t => exact ⟨t, rfl⟩
 | str s t => exact ⟨t, rfl⟩
 | bytes b t => exact ⟨t, rfl⟩
 | _ => exact False.elim x
theorem vals_toV {A : List Addr} : ∀ {vs : List Value}, (∀ u ∈ vs, OkU A u) → Vals (vs.map toV) vs
 | [], _ => .nil
 | u :: r, h => .cons (relV_toV (h u (List.mem_cons_self ..))) (vals_toV fun x hx => h x (List.mem_cons_of_mem _ hx))
def ArgOb (h : Heap) (A : List Addr) (a : Addr) : Prop := ∃ vs : List Value, vs.length ≤ sizeLine ∧ (∀ u ∈ vs, OkU A u) ∧
 (h.get? a = some { cls := .type "list", data := .seq vs.toArray } ∨ h.get? a = some { cls := .type "tuple", data := .seq vs.toArray })
theorem ArgOb.mono {h : Heap} {A B : List Addr} {a : Addr} (k : ∀ a ∈ A, a ∈ B) (x : ArgOb h A a) : ArgOb h B a := by
 obtain ⟨vs, h1, h2, h3⟩ := x
 exact ⟨vs, h1, fun u hu => (h2 u hu).mono k, h3⟩
theorem wellAll_len {P : Params} {h : Heap} : ∀ {vs : List Value} {ds : List WData}, WellAll P h vs ds → vs.length = ds.length
 | _, _, .nil => rfl
 | _, _, .cons _ b => by
  show _ + 1 = _ + 1
  rw [wellAll_len b]
theorem well_list {P : Params} {h : Heap} {v : Value} {ds : List WData} (x : Well P h v (.list ds)) : ∃ (a : Addr) (vs : List Value), v = .ref a ∧ h.get? a = some { cls := .type "list", data := .seq vs.toArray } ∧ WellAll P h vs ds := by
 cases x with
 | list ho hall => exact ⟨_, _, rfl, ho, hall⟩
theorem well_tuple {P : Params} {h : Heap} {v : Value} {ds : List WData} (x : Well P h v (.tuple ds)) : ∃ (a : Addr) (vs : List Value), v = .ref a ∧ h.get? a = some { cls := .type "tuple", data := .seq vs.toArray } ∧ WellAll P h vs ds := by
 cases x with
 | tuple ho hall => exact ⟨_, _, rfl, ho, hall⟩
theorem well_cons {P : Params} {h : Heap} {us : List Value} {d : WData} {ds : List WData} (x : WellAll P h us (d :: ds)) : ∃ (v : Value) (vs : List Value), us = v :: vs ∧ Well P h v d ∧ WellAll P h vs ds := by
 cases x with
 | cons a b => exact ⟨_, _, rfl, a, b⟩
theorem line_of {n : Nat} (h : n ≤ 1048576) : n ≤ sizeLine := Nat.le_trans h (by decide)
section
variable {P : Params} {h : Heap}
mutual
theorem area_one : ∀ (d : WData) (v : Value), Well P h v d → plW d = true → d.weight ≤ 1048576 → ∃ A : List Addr, OkU A v ∧ ∀ a ∈ A, ArgOb h A a
 | .none, _, x, _, _ => by
  cases x
  exact ⟨[], trivial, fun a m => absurd m (by simp)⟩
 | .bool b, _, x, _, _ => by
  cases x
  exact ⟨[], trivial, fun a m => absurd m (by simp)⟩
 | .int i, _, x, _, _ => by
  cases x
  exact ⟨[], trivial, fun a m => absurd m (by simp)⟩
 | .str s, _, x, _, _ => by
  cases x
  exact ⟨[], trivial, fun a m => absurd m (by simp)⟩
 | .bytes b, _, x, _, _ => by
  cases x
  exact ⟨[], trivial, fun a m => absurd m (by simp)⟩
 | .list ds, _, x, p, z => by
  obtain ⟨a, vs, rfl, ho, hall⟩ := well_list x
  have z2 : WData.weightAll ds ≤ 1048576 := z
  obtain ⟨A, h1, h2⟩ := area_all ds _ hall p fun d hd => Nat.le_trans (weight_mem hd) z2
  have k : ∀ b ∈ A, b ∈ a :: A := fun b hb => List.mem_cons_of_mem _ hb
  refine ⟨a :: A, List.mem_cons_self .., fun b hb => ?_⟩
  rcases List.mem_cons.mp hb with e | m
  ·rw [e]
   exact ⟨vs, line_of (by rw [wellAll_len hall]; exact Nat.le_trans (PySem.W.length_le_weightAllW ds) z2), fun u hu => (h1 u hu).mono k, .inl ho⟩
  ·exact (h2 b m).mono k
 | .tuple ds, _, x, p, z => by
  obtain ⟨a, vs, rfl, ho, hall⟩ := well_tuple x
  have z2 : WData.weightAll ds ≤ 1048576 := z
  obtain ⟨A, h1, h2⟩ := area_all ds _ hall p fun d hd => Nat.le_trans (weight_mem hd) z2
  have k : ∀ b ∈ A, b ∈ a :: A := fun b hb => List.mem_cons_of_mem _ hb
  refine ⟨a :: A, List.mem_cons_self .., fun b hb => ?_⟩
  rcases List.mem_cons.mp hb with e | m
  ·rw [e]
   exact ⟨vs, line_of (by rw [wellAll_len hall]; exact Nat.le_trans (PySem.W.length_le_weightAllW ds) z2), fun u hu => (h1 u hu).mono k, .inr ho⟩
  ·exact (h2 b m).mono k
 | .float _, _, _, p, _ => Bool.noConfusion (show false = true from p)
 | .dict _, _, _, p, _ => Bool.noConfusion (show false = true from p)
 | .bytearray _, _, _, p, _ => Bool.noConfusion (show false = true from p)
 | .set _, _, _, p, _ => Bool.noConfusion (show false = true from p)
 | .frozenset _, _, _, p, _ => Bool.noConfusion (show false = true from p)
 | .obj _ _, _, _, p, _ => Bool.noConfusion (show false = true from p)
theorem area_all : ∀ (ds : List WData) (vs : List Value), WellAll P h vs ds → plWs ds = true → (∀ d ∈ ds, d.weight ≤ 1048576) → ∃ A : List Addr, (∀ u ∈ vs, OkU A u) ∧ ∀ a ∈ A, ArgOb h A a
 | [], _, x, _, _ => by
  cases x
  exact ⟨[], fun u m => absurd m (by simp), fun a m => absurd m (by simp)⟩
 | d :: ds, _, x, p, z => by
  obtain ⟨v, vs, rfl, x1, x2⟩ := well_cons x
  have q : plW d = true ∧ plWs ds = true := Bool.and_eq_true_iff.mp p
  obtain ⟨A, a1, a2⟩ := area_one d v x1 q.1 (z d (List.mem_cons_self ..))
  obtain ⟨B, b1, b2⟩ := area_all ds vs x2 q.2 fun e he => z e (List.mem_cons_of_mem _ he)
  have kA : ∀ b ∈ A, b ∈ A ++ B := fun b hb => List.mem_append.mpr (.inl hb)
  have kB : ∀ b ∈ B, b ∈ A ++ B := fun b hb => List.mem_append.mpr (.inr hb)
  refine ⟨A ++ B, fun u hu => ?_, fun b hb => ?_⟩
  ·rcases List.mem_cons.mp hu with e | m
   ·rw [e]
    exact a1.mono kA
   ·exact (b1 u m).mono kB
  ·rcases List.mem_append.mp hb with m | m
   ·exact (a2 b m).mono kA
   ·exact (b2 b m).mono kB
end
end
def hoOf (o : Obj) : Option HO := match o.data with
 | .seq vs _ => if (o.cls == Value.type "list") = true then some (.frz o (.lst (vs.toList.map toV))) else some (.frz o (.tup (vs.toList.map toV)))
 | _ => none
def argH (K : PySem.W.Frag) (h : Heap) (A : List Addr) : Hp := fun b => if b ∈ A then (if (K.lookup b).isNone = true then (h.get? b).bind hoOf else none) else none
def OnlyF (H : Hp) : Prop := ∀ b, H b = none ∨ ∃ o u, H b = some (.frz o u)
theorem hoOf_lst (vs : List Value) : hoOf { cls := .type "list", data := .seq vs.toArray } = some (.frz { cls := .type "list", data := .seq vs.toArray } (.lst (vs.map toV))) := by
 show (if (Value.type "list" == Value.type "list") = true then some (HO.frz { cls := .type "list", data := .seq vs.toArray } (.lst (vs.toArray.toList.map toV))) else some (HO.frz { cls := .type "list", data := .seq vs.toArray } (.tup (vs.toArray.toList.map toV)))) = _
 rw [if_pos (beq_self_eq_true _)]
theorem hoOf_tup (vs : List Value) : hoOf { cls := .type "tuple", data := .seq vs.toArray } = some (.frz { cls := .type "tuple", data := .seq vs.toArray } (.tup (vs.map toV))) := by
 show (if (Value.type "tuple" == Value.type "list") = true then some (HO.frz { cls := .type "tuple", data := .seq vs.toArray } (.lst (vs.toArray.toList.map toV))) else some (HO.frz { cls := .type "tuple", data := .seq vs.toArray } (.tup (vs.toArray.toList.map toV)))) = _
 rw [if_neg (by decide)]
section
variable {P : Program} {w : World} {K : PySem.W.Frag} {h : Heap} {A : List Addr}
theorem argH_at {b : Addr} {o : Obj} (hb : b ∈ A) (hk : K.lookup b = none) (e : h.get? b = some o) : argH K h A b = hoOf o := by
 unfold argH
 rw [if_pos hb, hk, if_pos (show (none : Option Obj).isNone = true from rfl), e] <;> rfl
theorem of_argH {b : Addr} {u : HO} (q : argH K h A b = some u) : b ∈ A ∧ K.lookup b = none := by
 unfold argH at q
 by_cases hb : b ∈ A
 ·rw [if_pos hb] at q
  cases hk : K.lookup b with
  | none => exact ⟨hb, rfl⟩
  | some o =>
   rw [hk, if_neg (by simp)] at q
   cases q
 ·rw [if_neg hb] at q
  cases q
theorem argH_is (ar : ∀ a ∈ A, ArgOb h A a) {b : Addr} {u : HO} (q : argH K h A b = some u) : K.lookup b = none ∧ ∃ vs : List Value, vs.length ≤ sizeLine ∧ (∀ u ∈ vs, OkU A u) ∧
  ((h.get? b = some { cls := .type "list", data := .seq vs.toArray } ∧ u = .frz { cls := .type "list", data := .seq vs.toArray } (.lst (vs.map toV))) ∨
   (h.get? b = some { cls := .type "tuple", data := .seq vs.toArray } ∧ u = .frz { cls := .type "tuple", data := .seq vs.toArray } (.tup (vs.map toV)))) := by
 obtain ⟨hb, hk⟩ := of_argH q
 obtain ⟨vs, h1, h2, h3⟩ := ar b hb
 refine ⟨hk, vs, h1, h2, ?_⟩
 rcases h3 with e | e
 ·rw [argH_at hb hk e, hoOf_lst] at q
  exact .inl ⟨e, (Option.some.inj q).symm⟩
 ·rw [argH_at hb hk e, hoOf_tup] at q
  exact .inr ⟨e, (Option.some.inj q).symm⟩
theorem argH_only (ar : ∀ a ∈ A, ArgOb h A a) : OnlyF (argH K h A) := fun b => by
 cases q : argH K h A b with
 | none => exact .inl rfl
 | some u =>
  obtain ⟨_, vs, _, _, ⟨_, e⟩ | ⟨_, e⟩⟩ := argH_is ar q
  ·exact .inr ⟨_, _, by rw [e]⟩
  ·exact .inr ⟨_, _, by rw [e]⟩
theorem argH_ok (ar : ∀ a ∈ A, ArgOb h A a) : HOk P w (argH K h A) h := fun b u q => by
 obtain ⟨_, vs, h1, h2, ⟨e, rfl⟩ | ⟨e, rfl⟩⟩ := argH_is ar q
 ·exact ⟨e, by rw [List.length_map]; exact h1, vs, _, vals_toV h2, e⟩
 ·exact ⟨e, by rw [List.length_map]; exact h1, vs, vals_toV h2, _, e, rfl, _, rfl⟩
theorem seq_inj {c c' : Value} {vs us : List Value} (e : (some { cls := c, data := .seq vs.toArray } : Option Obj) = some { cls := c', data := .seq us.toArray }) : c = c' ∧ vs = us := by
 have e1 := Option.some.inj e
 have e2 : c = c' := congrArg Obj.cls e1
 have e3 : Data.seq vs.toArray = Data.seq us.toArray := congrArg Obj.data e1
 injection e3 with e4
 refine ⟨e2, ?_⟩
 have e5 := congrArg Array.toList e4
 simpa using e5
theorem argL (KX : K.In h) (ar : ∀ a ∈ A, ArgOb h A a) {a : Addr} {vs : List Value} (ha : a ∈ A) (e : h.get? a = some { cls := .type "list", data := .seq vs.toArray }) : (∀ u ∈ vs, OkU A u) ∧ SqL K (argH K h A) a (vs.map toV) := by
 obtain ⟨us, h1, h2, h3⟩ := ar a ha
 have hu : us = vs := by
  rcases h3 with q | q
  ·rw [e] at q
   exact (seq_inj q).2.symm
  ·rw [e] at q
   exact absurd (Value.type.inj (seq_inj q).1) (by decide)
 subst hu
 refine ⟨h2, ?_⟩
 cases hk : K.lookup a with
 | none => exact .inl (.inr ⟨_, by rw [argH_at ha hk e, hoOf_lst]⟩)
 | some o =>
  have e2 := KX a o hk
  rw [e] at e2
  obtain rfl := Option.some.inj e2
  exact .inr ⟨_, us.toArray, _, hk, rfl, rfl, rfl, by rw [List.size_toArray]; exact h1, by simpa using vals_toV h2⟩
theorem argT (KX : K.In h) (ar : ∀ a ∈ A, ArgOb h A a) {a : Addr} {vs : List Value} (ha : a ∈ A) (e : h.get? a = some { cls := .type "tuple", data := .seq vs.toArray }) : (∀ u ∈ vs, OkU A u) ∧ SqT K (argH K h A) a (vs.map toV) := by
 obtain ⟨us, h1, h2, h3⟩ := ar a ha
 have hu : us = vs := by
  rcases h3 with q | q
  ·rw [e] at q
   exact absurd (Value.type.inj (seq_inj q).1) (by decide)
  ·rw [e] at q
   exact (seq_inj q).2.symm
 subst hu
 refine ⟨h2, ?_⟩
 cases hk : K.lookup a with
 | none => exact .inl (.inr ⟨_, by rw [argH_at ha hk e, hoOf_tup]⟩)
 | some o =>
  have e2 := KX a o hk
  rw [e] at e2
  obtain rfl := Option.some.inj e2
  exact .inr ⟨_, us.toArray, _, hk, rfl, rfl, by rw [List.size_toArray]; exact h1, by simpa using vals_toV h2⟩
mutual
theorem dw_one {Pm : Params} (KX : K.In h) (ar : ∀ a ∈ A, ArgOb h A a) : ∀ (d : WData) (v : Value), Well Pm h v d → plW d = true → OkU A v → Dw K (argH K h A) (toV v) d
 | .none, _, x, _, _ => by
  cases x
  exact .non
 | .bool b, _, x, _, _ => by
  cases x
  exact .bl b
 | .int i, _, x, _, _ => by
  cases x
  exact .int i
 | .str s, _, x, _, _ => by
  cases x
  exact .str s
 | .bytes b, _, x, _, _ => by
  cases x
  have z := Dw.byt (K := K) (H := argH K h A) b.toArray
  exact z
 | .list ds, _, x, p, hu => by
  obtain ⟨a, vs, rfl, ho, hall⟩ := well_list x
  obtain ⟨h2, hs⟩ := argL KX ar hu ho
  exact .lst hs (dw_all KX ar ds _ hall p h2)
 | .tuple ds, _, x, p, hu => by
  obtain ⟨a, vs, rfl, ho, hall⟩ := well_tuple x
  obtain ⟨h2, hs⟩ := argT KX ar hu ho
  exact .tup hs (dw_all KX ar ds _ hall p h2)
 | .float _, _, _, p, _ => Bool.noConfusion (show false = true from p)
 | .dict _, _, _, p, _ => Bool.noConfusion (show false = true from p)
 | .bytearray _, _, _, p, _ => Bool.noConfusion (show false = true from p)
 | .set _, _, _, p, _ => Bool.noConfusion (show false = true from p)
 | .frozenset _, _, _, p, _ => Bool.noConfusion (show false = true from p)
 | .obj _ _, _, _, p, _ => Bool.noConfusion (show false = true from p)
theorem dw_all {Pm : Params} (KX : K.In h) (ar : ∀ a ∈ A, ArgOb h A a) : ∀ (ds : List WData) (vs : List Value), WellAll Pm h vs ds → plWs ds = true → (∀ u ∈ vs, OkU A u) → DwAll K (argH K h A) (vs.map toV) ds
 | [], _, x, _, _ => by
  cases x
  exact .nil
 | d :: ds, _, x, p, hu => by
  obtain ⟨v, vs, rfl, x1, x2⟩ := well_cons x
  have q : plW d = true ∧ plWs ds = true := Bool.and_eq_true_iff.mp p
  exact .cons (dw_one KX ar d v x1 q.1 (hu _ (List.mem_cons_self ..))) (dw_all KX ar ds vs x2 q.2 fun u m => hu u (List.mem_cons_of_mem _ m))
end
end
theorem spec_call {P : Program} {w : World} {K : PySem.W.Frag} {mg mb : Str → Option Value} {CX : CXT} {k : Nat} {fa : Addr} {fd : FuncData} {ps : List Str} {sp : Sp} {s₁ : Shared} {vals : List Value} {ds : List WData} {R : PySem.W.WRecords} {cl : Str → Option Addr} {d0 : WData}
  (KX : K.In s₁.heap) (hns : s₁.heap.Ns mainGlobals mg) (hb : s₁.heap.Ns builtinsNs mb) (hbb : ∀ x : Str, x ≠ "__name__" → mb x = bootBuiltins x) (hlim : s₁.heap.NoLimit) (hg : s₁.gens = #[])
  (hwl : WellAll w.params s₁.heap vals ds) (hpl : plWs ds = true) (hwt : ∀ d ∈ ds, d.weight ≤ 1048576) (hr : Room k callerA)
  (F : ∀ base : Heap, K.In base → base.Ns mainGlobals mg → FnOk P w K mg base CX k fa fd ps sp) (hbind : ∀ (s : Shared) (us : List Value), us.length = ps.length → BindsTo s fd ⟨us, []⟩ (ps.zip us)) (hlen : ds.length = ps.length)
  (hsp : ∀ (H : Hp) (xs : List V), OnlyF H → DwAll K H xs ds → sp xs H (fun v H' => Dw K H' v d0) fun _ _ _ => False)
  (hCX : ∀ H e s', CX [] H s₁ (fun _ _ _ => False) e s' → False) :
  codeAny (model P w) callerA (.call (.ref fa) ⟨vals, []⟩) (fun r s' => ∃ u as, r = .ok (.ret u) ∧ ReadsW R cl s'.heap u d0 as ∧ OldK s₁.heap s'.heap ∧ s'.os = s₁.os ∧ AllBare s'.gens) s₁ := by
 obtain ⟨A, ho, ar⟩ := area_all ds vals hwl hpl hwt
 have hO : OnlyF (argH K s₁.heap A) := argH_only ar
 have hok : HOk P w (argH K s₁.heap A) s₁.heap := argH_ok ar
 have hS := dw_all KX ar ds vals hwl hpl ho
 have hV := vals_toV ho
 have hK : ∀ b u, argH K s₁.heap A b = some u → K.lookup b = none := fun b u q => (argH_is ar q).1
 have noA : ∀ {b : Addr} {o : Obj} {es : Array DictEntry} {ep : Nat}, s₁.heap.get? b = some o → o.data = .dict es ep → argH K s₁.heap A b = none := fun {b o es ep} e d => by
  cases q : argH K s₁.heap A b with
  | none => rfl
  | some u =>
   obtain ⟨_, vs, _, _, ⟨e2, _⟩ | ⟨e2, _⟩⟩ := argH_is ar q
   ·rw [e2] at e
    cases e
    have d' : Data.seq vs.toArray _ = Data.dict es ep := d
    cases d'
   ·rw [e2] at e
    cases e
    have d' : Data.seq vs.toArray _ = Data.dict es ep := d
    cases d'
 generalize argH K s₁.heap A = H at hO hok hS hK noA
 have base_of : ∀ {b : Addr} {o : Obj}, s₁.heap.get? b = some o → H b = none → (hidT s₁.heap H).get? b = some o := fun e n => hidT_get e n
 have nsK : ∀ {b : Addr} {m : Str → Option Value}, s₁.heap.Ns b m → (hidT s₁.heap H).Ns b m := fun {b m} ⟨o, es, ep, e, d, r⟩ => ⟨o, es, ep, base_of e (noA e d), d, r⟩
 have nK : ∀ b o, K.lookup b = some o → H b = none := fun b o e => by
  cases q : H b with
  | none => rfl
  | some u =>
   rw [hK b u q] at e
   cases e
 have hKb : K.In (hidT s₁.heap H) := fun b o e => base_of (KX b o e) (nK b o e)
 have hM : Mod K mg (hidT s₁.heap H) := ⟨hKb, nsK hns, ⟨mb, nsK hb, hbb⟩, let ⟨mc, h1, h2⟩ := hlim; ⟨mc, nsK h1, h2⟩⟩
 have e0 : Env0 P w K mg (hidT s₁.heap H) callerA [] s₁ H := ⟨rfl, hM, fun b o e => of_hidT e, Nat.le_of_eq (hidT_size _ _), trivial, fun b hb => absurd (show b ∈ ([] : List Addr) from hb) (by simp), hok, .of_eq hg⟩
 have hl : vals.length = ps.length := by rw [wellAll_len hwl]; exact hlen
 refine codeAny_mono ((F _ hKb (nsK hns)).run callerA [] s₁ H ⟨vals, []⟩ vals (vals.map toV) _ _ hr e0 (hbind s₁ vals hl) hV (hsp H _ hO hS)) fun r s' x => ?_
 cases r with
 | error e => exact (hCX H e s' x).elim
 | ok fl =>
  cases fl with
  | next => exact False.elim x
  | brk => exact False.elim x
  | cont => exact False.elim x
  | ret u =>
   obtain ⟨v, H', os, bare, un, hok', r', q⟩ := x
   have kept : ∀ b o, s₁.heap.get? b = some o → s'.heap.get? b = some o := fun b o e => by
    cases q2 : H b with
    | none => exact un.keep b o e q2 (by intro z; exact absurd (show b ∈ ([] : List Addr) from z) (by simp)) (by simp)
    | some u2 =>
     rcases hO b with z | ⟨ob, u3, z⟩
     ·rw [q2] at z
      cases z
     ·have z2 := un.frzs b ob _ z
      obtain ⟨e1, _⟩ := hok b _ z
      obtain ⟨e2, _⟩ := hok' b _ z2
      rw [e] at e1
      cases e1
      exact e2
   have KX' : K.In s'.heap := fun b o e => kept b o (KX b o e)
   obtain ⟨as, hrd⟩ := Dw.reads (R := R) (cl := cl) hok' KX' d0 v u q r'
   exact ⟨u, as, rfl, hrd, OldK.of_keep kept, os, bare⟩
theorem layable_weight {ds : List WData} (h : WData.layableAll ds = true) : ∀ d ∈ ds, d.weight ≤ 1048576 := fun d hd =>
 (PySem.W.layableW_iff.mp (List.all_eq_true.mp h d hd)).2.2
theorem encAll_len : ∀ (cs : List Codec) (a : Codec.denoteAll cs), (Codec.encAll cs a).length = cs.length
 | [], _ => rfl
 | c :: cs, a => by
  show (Codec.encAll cs a.2).length + 1 = cs.length + 1
  rw [encAll_len cs a.2]
theorem walk_spec {r : OpenSpec} {k : Nat} {q : Program} {loose : List Str} {XP : (Str → Option Value) → Heap → Prop} {YP : World → Heap → Prop} {d : DefRec} {K : Params → PySem.W.Frag} {CX : World → CXT} {ps : List Str} {sp : World → Sp}
  (hwell : r.wellSaid = true) (hdf : d.params.defaults = []) (hlen : r.args.length = ps.length) (hr : Room k callerA)
  (hY : ∀ (w : World) (h : Heap), YP w h → (K w.params).In h)
  (F : ∀ (w : World) (mg : Str → Option Value) (fa : Addr) (h : Heap), YP w h → (K w.params).In h → h.Ns mainGlobals mg → mg d.name = some (.ref fa) →
   ∃ fd : FuncData, (∀ (s : Shared) (us : List Value), us.length = ps.length → BindsTo s fd ⟨us, []⟩ (ps.zip us)) ∧
    ∀ base : Heap, (K w.params).In base → base.Ns mainGlobals mg → FnOk r.prog w (K w.params) mg base (CX w) k fa fd ps (sp w))
  (hsp : ∀ (w : World) (H : Hp) (xs : List V) (a : Codec.denoteAll r.args), OnlyF H → Codec.withinAll r.args a = true → Codec.app r.args r.asked a = true → DwAll (K w.params) H xs (Codec.encAll r.args a) →
   sp w xs H (fun v H' => Dw (K w.params) H' v (r.ret.enc (Codec.app r.args r.f a))) fun _ _ _ => False)
  (hCX : ∀ (w : World) (H : Hp) (s : Shared) (e : Value) (s' : Shared), CX w [] H s (fun _ _ _ => False) e s' → False) :
  PySem.W.WalkOS q loose XP YP r d [] (fun f vs => PySem.call f vs) := by
 intro w s_0 s₁ mg mb G Y fa o pm cd doc dV kV ho hd hcd hD hmg hg args vals as hpre hlay hrd hwl hlo
 obtain ⟨a, e1, e2⟩ := PySem.W.os_pre_some hpre
 obtain ⟨e3, hwi⟩ := Codec.encAll_of_decAll r.args args a e1
 subst e3
 have KX := hY w _ Y
 obtain ⟨fd, hb, hF⟩ := F w mg fa _ Y KX G.T.g hmg
 refine PySem.W.enter_call (codeAny_mono (spec_call (R := []) (cl := classAt s_0.heap) (d0 := r.ret.enc (Codec.app r.args r.f a)) KX G.T.g G.T.b G.T.builtins G.T.nolimit hg hwl (pl_encAll _ _) (layable_weight hlay) hr hF hb (by rw [encAll_len]; exact hlen)
  (fun H xs hO hS => hsp w H xs a hO hwi e2 hS) fun H e s' => hCX w H s₁ e s') fun r' s' hq => ?_)
 obtain ⟨u, as', rfl, h1, h2, h3, h4⟩ := hq
 exact ⟨.inl ⟨u, _, as', rfl, fun _ => rfl, h1, (OpenSpec.post_iff hwell hwi _ _).mpr rfl, fun z => Bool.noConfusion (show false = true from z)⟩, h2, h3, h4⟩
theorem walk_specK {r : OpenSpec} {k : Nat} {q : Program} {loose : List Str} {XP : (Str → Option Value) → Heap → Prop} {YP : World → Heap → Prop} {d : DefRec} {K : Params → PySem.W.Frag} {CX : CXT} {ps : List Str} {sp : PySem.W.Frag → Sp}
  (hwell : r.wellSaid = true) (hdf : d.params.defaults = []) (hlen : r.args.length = ps.length) (hr : Room k callerA)
  (hY : ∀ (w : World) (h : Heap), YP w h → (K w.params).In h)
  (F : ∀ (w : World) (mg : Str → Option Value) (fa : Addr) (h : Heap), YP w h → (K w.params).In h → h.Ns mainGlobals mg → mg d.name = some (.ref fa) →
   ∃ fd : FuncData, (∀ (s : Shared) (us : List Value), us.length = ps.length → BindsTo s fd ⟨us, []⟩ (ps.zip us)) ∧
    ∀ base : Heap, (K w.params).In base → base.Ns mainGlobals mg → FnOk r.prog w (K w.params) mg base CX k fa fd ps (sp (K w.params)))
  (hsp : ∀ (K : PySem.W.Frag) (H : Hp) (xs : List V) (a : Codec.denoteAll r.args), OnlyF H → Codec.withinAll r.args a = true → Codec.app r.args r.asked a = true → DwAll K H xs (Codec.encAll r.args a) →
   sp K xs H (fun v H' => Dw K H' v (r.ret.enc (Codec.app r.args r.f a))) fun _ _ _ => False)
  (hCX : ∀ (H : Hp) (s : Shared) (e : Value) (s' : Shared), CX [] H s (fun _ _ _ => False) e s' → False) :
  PySem.W.WalkOS q loose XP YP r d [] (fun f vs => PySem.call f vs) :=
 walk_spec (K := K) (CX := fun _ => CX) (sp := fun w => sp (K w.params)) hwell hdf hlen hr hY F (fun w H xs a h1 h2 h3 h4 => hsp (K w.params) H xs a h1 h2 h3 h4) fun _ H s e s' => hCX H s e s'
end L2
end
end
section
namespace Gw
open Kg35
theorem grown_nil (x : Rules) : ∀ n, grown x n [] = []
 | 0 => rfl
 | n + 1 => by show grown x n ([].flatMap x.of) = []; rw [List.flatMap_nil]; exact grown_nil x n
theorem grown_append (x : Rules) : ∀ (n : Nat) (v w : Word), grown x n (v ++ w) = grown x n v ++ grown x n w
 | 0, _, _ => rfl
 | n + 1, v, w => by
  show grown x n ((v ++ w).flatMap x.of) = _
  rw [List.flatMap_append, grown_append x n]
  rfl
theorem grown_cons (x : Rules) (n : Nat) (c : Nat) (w : Word) : grown x n (c :: w) = grown x n [c] ++ grown x n w := grown_append x n [c] w
theorem grown_flat (x : Rules) (n : Nat) : ∀ (w : Word), grown x n w = w.flatMap fun c => grown x n [c]
 | [] => grown_nil x n
 | c :: w => by rw [grown_cons, grown_flat x n w, List.flatMap_cons]
theorem grown_succ_one (x : Rules) (n c : Nat) : grown x (n + 1) [c] = grown x n (x.of c) := by
 show grown x n ([c].flatMap x.of) = _
 rw [List.flatMap_cons, List.flatMap_nil, List.append_nil]
theorem grown_last (x : Rules) : ∀ (n : Nat) (w : Word), grown x (n + 1) w = (grown x n w).flatMap x.of
 | 0, _ => rfl
 | n + 1, w => by
  show grown x (n + 1) (w.flatMap x.of) = _
  rw [grown_last x n]
  rfl
theorem word_eq (x : Rules) : ∀ n, x.word n = grown x n x.first
 | 0 => rfl
 | n + 1 => by
  show (x.word n).flatMap x.of = _
  rw [word_eq x n, grown_last]
theorem of_some {x : Rules} {c : Nat} {w : Word} (h : x.rule c = some w) : x.of c = w := by
 show (x.rule c).getD [c] = w
 rw [h]; rfl
theorem of_none {x : Rules} {c : Nat} (h : x.rule c = none) : x.of c = [c] := by
 show (x.rule c).getD [c] = [c]
 rw [h]; rfl
theorem sign_lt {c : Nat} (h : isSign c = true) : c < 128 := by
 simp [isSign, isLetter, isBig, isSmall] at h
 omega
structure Good (x : Rules) : Prop where
 turns : x.turns = 4 ∨ x.turns = 6
 first : wordOk x.first = true
 rules : ∀ p ∈ x.rules, isLetter p.1 = true ∧ wordOk p.2 = true
theorem rule_mem {x : Rules} {c : Nat} {w : Word} (h : x.rule c = some w) : (c, w) ∈ x.rules := by
 unfold Rules.rule at h
 rw [Option.map_eq_some_iff] at h
 obtain ⟨y, hy, e⟩ := h
 have h1 := List.mem_of_find?_eq_some hy
 have h2 := List.find?_some hy
 have e2 : y.1 = c := by simpa using h2
 have : y = (c, w) := Prod.ext e2 e
 rwa [this] at h1
theorem Good.rule {x : Rules} (g : Good x) {c : Nat} {w : Word} (h : x.rule c = some w) : isLetter c = true ∧ wordOk w = true := g.rules _ (rule_mem h)
theorem wordOk_iff {w : Word} : wordOk w = true ↔ (∀ c ∈ w, isSign c = true) ∧ closed w = true ∧ w.length ≤ 256 := by
 unfold wordOk MOSTWORD
 rw [Bool.and_eq_true, Bool.and_eq_true, decide_eq_true_iff, List.all_eq_true]
theorem Good.firstLt {x : Rules} (g : Good x) : ∀ c ∈ x.first, c < 128 := fun c h => sign_lt ((wordOk_iff.mp g.first).1 c h)
theorem Good.ruleLt {x : Rules} (g : Good x) {c : Nat} {w : Word} (h : x.rule c = some w) : ∀ e ∈ w, e < 128 := fun e he => sign_lt ((wordOk_iff.mp (g.rule h).2).1 e he)
theorem range_getD {α : Type} (f : Nat → α) (d : α) (n c : Nat) (h : c < n) : (((List.range n).map f).toArray).getD c d = f c := by
 have hs : c < (((List.range n).map f).toArray).size := by simp [h]
 simp [Array.getD, h]
theorem next_getD (x : Rules) (t : Array Nat) {c : Nat} (h : c < 128) : (x.next t).getD c 0 = match x.rule c with
  | some w => (w.map fun e => t.getD e 0).sum
  | none => t.getD c 0 := by
 unfold Rules.next
 rw [range_getD _ _ _ _ h]
 cases x.rule c <;> rfl
def tab (x : Rules) (t : Array Nat) (n : Nat) : Array Nat := (x.levels t n).headD #[]
theorem tab_zero (x : Rules) (t : Array Nat) : tab x t 0 = t := rfl
theorem tab_succ (x : Rules) (t : Array Nat) (n : Nat) : tab x t (n + 1) = x.next (tab x t n) := rfl
theorem levels_succ (x : Rules) (t : Array Nat) (n : Nat) : x.levels t (n + 1) = tab x t (n + 1) :: x.levels t n := rfl
theorem levels_zero (x : Rules) (t : Array Nat) : x.levels t 0 = [tab x t 0] := rfl
def wsum (f : Nat → Nat) (w : Word) : Nat := (w.map f).sum
theorem wsum_append (f : Nat → Nat) (v w : Word) : wsum f (v ++ w) = wsum f v + wsum f w := by simp [wsum]
theorem wsum_flat (f : Nat → Nat) (g : Nat → Word) : ∀ w : Word, wsum f (w.flatMap g) = (w.map fun e => wsum f (g e)).sum
 | [] => rfl
 | c :: w => by rw [List.flatMap_cons, wsum_append, wsum_flat f g w, List.map_cons, List.sum_cons]
theorem map_sum_congr {f g : Nat → Nat} : ∀ {w : Word}, (∀ e ∈ w, f e = g e) → (w.map f).sum = (w.map g).sum
 | [], _ => rfl
 | c :: w, h => by
  rw [List.map_cons, List.map_cons, List.sum_cons, List.sum_cons, h c (List.mem_cons_self ..), map_sum_congr fun e he => h e (List.mem_cons_of_mem _ he)]
theorem tab_getD {x : Rules} (g : Good x) {t : Array Nat} {f : Nat → Nat} (ht : ∀ c, c < 128 → t.getD c 0 = f c) : ∀ (n : Nat) {c : Nat}, c < 128 → (tab x t n).getD c 0 = wsum f (grown x n [c])
 | 0, c, h => by rw [tab_zero, ht c h]; simp [wsum, grown]
 | n + 1, c, h => by
  rw [tab_succ, next_getD x _ h, grown_succ_one]
  cases e : x.rule c with
  | none =>
   rw [of_none e]
   exact tab_getD g ht n h
  | some w =>
   rw [of_some e]
   show (w.map fun e => (tab x t n).getD e 0).sum = _
   rw [grown_flat, wsum_flat]
   exact map_sum_congr fun e' he => tab_getD g ht n (g.ruleLt e e' he)
theorem top_eq {x : Rules} (g : Good x) {t : Array Nat} {f : Nat → Nat} (ht : ∀ c, c < 128 → t.getD c 0 = f c) (n : Nat) : x.total (tab x t n) = wsum f (x.word n) := by
 unfold Rules.total
 rw [word_eq, grown_flat, wsum_flat]
 exact map_sum_congr fun e he => tab_getD g ht n (g.firstLt e he)
theorem ones_getD (c : Nat) (h : c < 128) : ones.getD c 0 = 1 := by
 unfold ones
 exact range_getD _ _ _ _ h
theorem wsum_one : ∀ w : Word, wsum (fun _ => 1) w = w.length
 | [] => rfl
 | c :: w => by
  show 1 + wsum (fun _ => 1) w = w.length + 1
  rw [wsum_one w]; omega
theorem count_eq {x : Rules} (g : Good x) (n : Nat) : x.count n = (x.word n).length := by
 show x.total (tab x ones n) = _
 rw [top_eq g (f := fun _ => 1) ones_getD, wsum_one]
theorem lens_getD {x : Rules} (g : Good x) (n : Nat) {c : Nat} (h : c < 128) : (tab x ones n).getD c 0 = (grown x n [c]).length := by
 rw [tab_getD g (f := fun _ => 1) ones_getD n h, wsum_one]
theorem wsum_is (c : Nat) : ∀ w : Word, wsum (fun e => if e = c then 1 else 0) w = w.count c
 | [] => rfl
 | d :: w => by
  show (if d = c then 1 else 0) + wsum _ w = _
  rw [wsum_is c w, List.count_cons]
  by_cases h : d = c
  ·simp [h]; omega
  ·simp [h]
theorem times_eq {x : Rules} (g : Good x) (n c : Nat) : x.times n c = (x.word n).count c := by
 show x.total (tab x _ n) = _
 rw [top_eq g (f := fun e => if e = c then 1 else 0) (fun e he => range_getD _ _ _ _ he), wsum_is]
theorem levels_all (x : Rules) (t : Array Nat) (p : Array Nat → Bool) : ∀ n, (x.levels t n).all p = true ↔ ∀ k, k ≤ n → p (tab x t k) = true
 | 0 => by
  rw [levels_zero]; simp
 | n + 1 => by
  rw [levels_succ, List.all_cons, Bool.and_eq_true, levels_all x t p n]
  constructor
  ·rintro ⟨a, b⟩ k hk
   by_cases e : k = n + 1
   ·rw [e]; exact a
   ·exact b k (by omega)
  ·intro h
   exact ⟨h _ (Nat.le_refl _), fun k hk => h k (by omega)⟩
theorem allFit_iff {x : Rules} (g : Good x) (n : Nat) : x.allFit n = true ↔ ∀ k, k ≤ n → (x.word k).length < 2 ^ 62 := by
 unfold Rules.allFit
 rw [levels_all]
 constructor
 ·intro h k hk
  have := h k hk
  rw [decide_eq_true_iff] at this
  rw [top_eq g (f := fun _ => 1) ones_getD, wsum_one] at this
  exact this
 ·intro h k hk
  rw [decide_eq_true_iff, top_eq g (f := fun _ => 1) ones_getD, wsum_one]
  exact h k hk
structure CutIs (W : Word) (s r : Cut) : Prop where
 out : r.out = ((W.drop s.skip).take s.left).reverse ++ s.out
 left : r.left = s.left - ((W.drop s.skip).take s.left).length
 skip : s.left ≠ 0 → r.skip = s.skip - W.length
 same : s.left = 0 → r = s
theorem CutIs.nil (s : Cut) : CutIs [] s s := ⟨by simp, by simp, fun _ => by simp, fun _ => rfl⟩
theorem CutIs.trans {V W : Word} {s r u : Cut} (a : CutIs V s r) (b : CutIs W r u) : CutIs (V ++ W) s u := by
 by_cases h : s.left = 0
 ·have e := a.same h
  subst e
  have e := b.same h
  subst e
  exact ⟨by simp [h], by simp [h], fun q => absurd h q, fun _ => rfl⟩
 ·have hs := a.skip h
  have hl := a.left
  rw [List.length_take, List.length_drop] at hl
  have P : ((V ++ W).drop s.skip).take s.left = (V.drop s.skip).take s.left ++ (W.drop r.skip).take r.left := by
   rw [List.drop_append, List.take_append, hs, hl, List.length_drop]
   congr 1
   by_cases q : V.length - s.skip ≤ s.left
   ·rw [Nat.min_eq_right q]
   ·have z1 : s.left - (V.length - s.skip) = 0 := by omega
    have z2 : s.left - min s.left (V.length - s.skip) = 0 := by omega
    rw [z1, z2]
  refine ⟨?_, ?_, fun _ => ?_, fun q => absurd q h⟩
  ·rw [b.out, a.out, P, List.reverse_append, List.append_assoc]
  ·rw [b.left, P, List.length_append, a.left]; omega
  ·by_cases q : r.left = 0
   ·have e := b.same q
    subst e
    rw [hs, List.length_append]
    have : s.left ≤ V.length - s.skip := by omega
    omega
   ·rw [b.skip q, hs, List.length_append]; omega
theorem CutIs.skipAll {W : Word} {s : Cut} (h : W.length ≤ s.skip) (hl : s.left ≠ 0) : CutIs W s ⟨s.skip - W.length, s.left, s.out⟩ := by
 have e : W.drop s.skip = [] := List.drop_eq_nil_of_le h
 exact ⟨by simp [e], by simp [e], fun _ => rfl, fun q => absurd q hl⟩
theorem CutIs.one {c : Nat} {s : Cut} (h : s.skip = 0) (hl : s.left ≠ 0) : CutIs [c] s (s.take c) := by
 obtain ⟨l, hl2⟩ : ∃ l, s.left = l + 1 := ⟨s.left - 1, by omega⟩
 refine ⟨?_, ?_, fun _ => ?_, fun q => absurd q hl⟩
 ·rw [h, hl2]; simp [Cut.take]
 ·rw [h, hl2]; simp [Cut.take, hl2]
 ·show s.skip = _; rw [h]; simp
theorem cut_fold {x : Rules} (n : Nat) (step : Cut → Nat → Cut) (hstep : ∀ (s : Cut) (c : Nat), c < 128 → CutIs (grown x n [c]) s (step s c)) : ∀ (w : Word) (s : Cut), (∀ c ∈ w, c < 128) → CutIs (grown x n w) s (w.foldl step s)
 | [], s, _ => by rw [grown_nil]; exact .nil s
 | c :: w, s, h => by
  rw [grown_cons, List.foldl_cons]
  exact (hstep s c (h c (List.mem_cons_self ..))).trans (cut_fold n step hstep w _ fun e he => h e (List.mem_cons_of_mem _ he))
theorem cut_is {x : Rules} (g : Good x) : ∀ (n : Nat) (w : Word) (s : Cut), (∀ c ∈ w, c < 128) → CutIs (grown x n w) s (x.cut (x.levels ones n) w s)
 | 0, w, s, hw => by
  rw [levels_zero]
  unfold Rules.cut
  refine cut_fold 0 _ (fun s c hc => ?_) w s hw
  by_cases hl : s.left = 0
  ·rw [if_pos hl]
   exact ⟨by simp [hl], by simp [hl], fun q => absurd hl q, fun _ => rfl⟩
  ·rw [if_neg hl]
   have e : (tab x ones 0).getD c 0 = 1 := by rw [lens_getD g 0 hc]; rfl
   show CutIs [c] s (if (tab x ones 0).getD c 0 ≤ s.skip then _ else _)
   rw [e]
   by_cases hk : 1 ≤ s.skip
   ·rw [if_pos hk]
    exact .skipAll (W := [c]) hk hl
   ·rw [if_neg hk]
    exact .one (by omega) hl
 | n + 1, w, s, hw => by
  rw [levels_succ]
  unfold Rules.cut
  refine cut_fold (n + 1) _ (fun s c hc => ?_) w s hw
  by_cases hl : s.left = 0
  ·rw [if_pos hl]
   exact ⟨by simp [hl], by simp [hl], fun q => absurd hl q, fun _ => rfl⟩
  ·rw [if_neg hl]
   have e : (tab x ones (n + 1)).getD c 0 = (grown x (n + 1) [c]).length := lens_getD g (n + 1) hc
   show CutIs _ s (if (tab x ones (n + 1)).getD c 0 ≤ s.skip then _ else _)
   rw [e]
   by_cases hk : (grown x (n + 1) [c]).length ≤ s.skip
   ·rw [if_pos hk]
    exact .skipAll hk hl
   ·rw [if_neg hk]
    have ne : (x.levels ones n).isEmpty = false := by cases n <;> rfl
    rw [if_neg (by rw [ne]; simp)]
    cases q : x.rule c with
    | none =>
     have eo : ∀ m, grown x m [c] = [c] := fun m => by
      induction m with
      | zero => rfl
      | succ m ih => rw [grown_succ_one, of_none q]; exact ih
     rw [eo] at hk ⊢
     exact .one (by simp at hk; omega) hl
    | some v =>
     rw [grown_succ_one, of_some q]
     exact cut_is g n v s (g.ruleLt q)
theorem stretch_eq {x : Rules} (g : Good x) (n first most : Nat) : x.stretch n first most = ((x.word n).drop first).take most := by
 unfold Rules.stretch
 have h := (cut_is g n x.first ⟨first, most, []⟩ g.firstLt).out
 rw [h, word_eq, List.append_nil, List.reverse_reverse]
end Gw
end
section
namespace Gw
open Kg35
def balStep (d : Option Nat) (c : Nat) : Option Nat := d.bind fun d => if c = 91 then some (d + 1) else if c = 93 then (if d = 0 then none else some (d - 1)) else some d
def bal (d : Nat) (w : Word) : Option Nat := w.foldl balStep (some d)
theorem closed_iff {w : Word} : closed w = true ↔ bal 0 w = some 0 := by
 unfold closed bal
 exact beq_iff_eq
theorem fold_none : ∀ w : Word, w.foldl balStep none = none
 | [] => rfl
 | c :: w => by rw [List.foldl_cons]; exact fold_none w
theorem bal_nil (d : Nat) : bal d [] = some d := rfl
theorem bal_append (d : Nat) (v w : Word) : bal d (v ++ w) = (bal d v).bind fun e => bal e w := by
 unfold bal
 rw [List.foldl_append]
 cases v.foldl balStep (some d) with
 | none => exact fold_none w
 | some e => rfl
theorem bal_one (d c : Nat) : bal d [c] = if c = 91 then some (d + 1) else if c = 93 then (if d = 0 then none else some (d - 1)) else some d := rfl
theorem bal_cons (d c : Nat) (w : Word) : bal d (c :: w) = (bal d [c]).bind fun e => bal e w := bal_append d [c] w
theorem bal_up (k : Nat) : ∀ (w : Word) (d e : Nat), bal d w = some e → bal (d + k) w = some (e + k)
 | [], d, e, h => by
  rw [bal_nil] at h ⊢
  rw [Option.some.inj h]
 | c :: w, d, e, h => by
  rw [bal_cons, bal_one] at h ⊢
  by_cases h1 : c = 91
  ·rw [if_pos h1] at h ⊢
   have := bal_up k w (d + 1) e h
   show bal (d + k + 1) w = _
   rw [← this]; congr 1; omega
  ·rw [if_neg h1] at h ⊢
   by_cases h2 : c = 93
   ·rw [if_pos h2] at h ⊢
    by_cases h3 : d = 0
    ·rw [if_pos h3] at h; cases h
    ·rw [if_neg h3] at h
     rw [if_neg (by omega)]
     have := bal_up k w (d - 1) e h
     show bal (d + k - 1) w = _
     rw [← this]; congr 1; omega
   ·rw [if_neg h2] at h ⊢
    exact bal_up k w d e h
theorem bal_closed {w : Word} (h : bal 0 w = some 0) (d : Nat) : bal d w = some d := by
 have := bal_up d w 0 0 h
 rwa [Nat.zero_add] at this
def Fine (f : Nat → Word) (c : Nat) : Prop := ((c = 91 ∨ c = 93) ∧ f c = [c]) ∨ (c ≠ 91 ∧ c ≠ 93 ∧ bal 0 (f c) = some 0)
theorem bal_flat {f : Nat → Word} : ∀ (w : Word) (d : Nat), (∀ c ∈ w, Fine f c) → bal d (w.flatMap f) = bal d w
 | [], _, _ => rfl
 | c :: w, d, h => by
  rw [List.flatMap_cons, bal_append, bal_cons]
  have hw := fun e => bal_flat w e fun a ha => h a (List.mem_cons_of_mem _ ha)
  rcases h c (List.mem_cons_self ..) with ⟨_, e⟩ | ⟨n1, n2, e⟩
  ·rw [e]
   congr 1
   funext e'; exact hw e'
  ·rw [bal_closed e, bal_one, if_neg n1, if_neg n2]
   exact hw d
theorem letter_not_bracket {c : Nat} (h : isLetter c = true) : c ≠ 91 ∧ c ≠ 93 := by
 simp [isLetter, isBig, isSmall] at h
 omega
theorem Good.bracket {x : Rules} (g : Good x) {c : Nat} (h : c = 91 ∨ c = 93) : x.rule c = none := by
 cases q : x.rule c with
 | none => rfl
 | some w =>
  have := letter_not_bracket (g.rule q).1
  omega
theorem grown_stay {x : Rules} {c : Nat} (q : x.rule c = none) : ∀ m, grown x m [c] = [c]
 | 0 => rfl
 | m + 1 => by rw [grown_succ_one, of_none q]; exact grown_stay q m
theorem Good.fine {x : Rules} (g : Good x) : ∀ (n c : Nat), Fine (fun c => grown x n [c]) c
 | 0, c => by
  by_cases h : c = 91 ∨ c = 93
  ·exact .inl ⟨h, rfl⟩
  ·refine .inr ⟨by omega, by omega, ?_⟩
   show bal 0 [c] = _
   rw [bal_one, if_neg (by omega), if_neg (by omega)]
 | n + 1, c => by
  by_cases h : c = 91 ∨ c = 93
  ·exact .inl ⟨h, grown_stay (g.bracket h) _⟩
  ·refine .inr ⟨by omega, by omega, ?_⟩
   show bal 0 (grown x (n + 1) [c]) = _
   rw [grown_succ_one]
   cases q : x.rule c with
   | none =>
    rw [of_none q, grown_stay q, bal_one, if_neg (by omega), if_neg (by omega)]
   | some w =>
    rw [of_some q, grown_flat, bal_flat _ _ fun c _ => g.fine n c]
    exact closed_iff.mp (wordOk_iff.mp (g.rule q).2).2.1
theorem Good.bal_grown {x : Rules} (g : Good x) (n : Nat) (w : Word) (d : Nat) : bal d (grown x n w) = bal d w := by
 rw [grown_flat]
 exact bal_flat _ _ fun c _ => g.fine n c
def pen0 (d : Nat) : Pen := ⟨0, 0, d, [], [], []⟩
def sh (a b : Int) (q : Int × Int) : Int × Int := (a + q.1, b + q.2)
def sh3 (a b : Int) (q : Int × Int × Nat) : Int × Int × Nat := (a + q.1, b + q.2.1, q.2.2)
structure Moved (a b : Int) (back0 : List (Int × Int × Nat)) (been0 drawn0 : List (Int × Int)) (q p : Pen) : Prop where
 x : p.x = a + q.x
 y : p.y = b + q.y
 d : p.d = q.d
 back : p.back = q.back.map (sh3 a b) ++ back0
 been : p.been = q.been.map (sh a b) ++ been0
 drawn : p.drawn = q.drawn.map (sh a b) ++ drawn0
theorem Moved.step {a b : Int} {k0 : List (Int × Int × Nat)} {b0 d0 : List (Int × Int)} {q p : Pen} {t c : Nat} (m : Moved a b k0 b0 d0 q p) (h : bal q.back.length [c] ≠ none) : Moved a b k0 b0 d0 (q.step t c) (p.step t c) := by
 obtain ⟨hx, hy, hd, hk, hb, hdr⟩ := m
 unfold Pen.step
 rw [hd]
 dsimp only
 by_cases h1 : isBig c = true
 ·rw [if_pos h1, if_pos h1]
  exact ⟨by show p.x + _ = _; rw [hx]; exact Int.add_assoc .., by show p.y + _ = _; rw [hy]; exact Int.add_assoc .., rfl, hk, by
   show (p.x + _, p.y + _) :: p.been = _
   rw [hb, hx, hy]; simp [sh, Int.add_assoc], by
   show (p.x + _, p.y + _) :: (p.x, p.y) :: p.drawn = _
   rw [hdr, hx, hy]; simp [sh, Int.add_assoc]⟩
 ·rw [if_neg h1, if_neg h1]
  by_cases h2 : c = 46
  ·rw [if_pos h2, if_pos h2]
   exact ⟨by show p.x + _ = _; rw [hx]; exact Int.add_assoc .., by show p.y + _ = _; rw [hy]; exact Int.add_assoc .., rfl, hk, by
    show (p.x + _, p.y + _) :: p.been = _
    rw [hb, hx, hy]; simp [sh, Int.add_assoc], hdr⟩
  ·rw [if_neg h2, if_neg h2]
   by_cases h3 : c = 43
   ·rw [if_pos h3, if_pos h3]; exact ⟨hx, hy, rfl, hk, hb, hdr⟩
   ·rw [if_neg h3, if_neg h3]
    by_cases h4 : c = 45
    ·rw [if_pos h4, if_pos h4]; exact ⟨hx, hy, rfl, hk, hb, hdr⟩
    ·rw [if_neg h4, if_neg h4]
     by_cases h5 : c = 124
     ·rw [if_pos h5, if_pos h5]; exact ⟨hx, hy, rfl, hk, hb, hdr⟩
     ·rw [if_neg h5, if_neg h5]
      by_cases h6 : c = 91
      ·rw [if_pos h6, if_pos h6]
       exact ⟨hx, hy, rfl, by show (p.x, p.y, q.d) :: p.back = _; rw [hk, hx, hy]; simp [sh3], hb, hdr⟩
      ·rw [if_neg h6, if_neg h6]
       by_cases h7 : c = 93
       ·rw [if_pos h7, if_pos h7]
        cases e : q.back with
        | nil => rw [e, bal_one, if_neg h6, if_pos h7, if_pos (show ([] : List (Int × Int × Nat)).length = 0 from rfl)] at h; exact absurd rfl h
        | cons z r =>
         rw [hk, e]
         exact ⟨rfl, rfl, rfl, rfl, hb, hdr⟩
       ·rw [if_neg h7, if_neg h7]; exact ⟨hx, hy, hd, hk, hb, hdr⟩
theorem back_len {q : Pen} {t c : Nat} {e : Nat} (h : bal q.back.length [c] = some e) : (q.step t c).back.length = e := by
 rw [bal_one] at h
 unfold Pen.step
 dsimp only
 by_cases h6 : c = 91
 ·subst h6
  rw [if_pos rfl] at h
  have e1 : isBig 91 = false := by decide
  simp [e1]
  exact Option.some.inj h
 ·rw [if_neg h6] at h
  by_cases h7 : c = 93
  ·subst h7
   rw [if_pos rfl] at h
   have e1 : isBig 93 = false := by decide
   cases eb : q.back with
   | nil => rw [eb, if_pos (show ([] : List (Int × Int × Nat)).length = 0 from rfl)] at h; cases h
   | cons z r =>
    rw [eb, if_neg (by simp)] at h
    simp [e1]
    simpa using h
  ·rw [if_neg h7] at h
   have h := Option.some.inj h
   rw [if_neg h6, if_neg h7]
   by_cases h1 : isBig c = true
   ·rw [if_pos h1]; exact h
   ·rw [if_neg h1]
    by_cases h2 : c = 46
    ·rw [if_pos h2]; exact h
    ·rw [if_neg h2]
     by_cases h3 : c = 43
     ·rw [if_pos h3]; exact h
     ·rw [if_neg h3]
      by_cases h4 : c = 45
      ·rw [if_pos h4]; exact h
      ·rw [if_neg h4]
       by_cases h5 : c = 124
       ·rw [if_pos h5]; exact h
       ·rw [if_neg h5]; exact h
theorem Moved.walk {a b : Int} {k0 : List (Int × Int × Nat)} {b0 d0 : List (Int × Int)} {t : Nat} : ∀ {w : Word} {q p : Pen} {e : Nat}, Moved a b k0 b0 d0 q p → bal q.back.length w = some e → Moved a b k0 b0 d0 (w.foldl (Pen.step t) q) (w.foldl (Pen.step t) p) ∧ (w.foldl (Pen.step t) q).back.length = e
 | [], q, p, e, m, h => ⟨m, Option.some.inj h⟩
 | c :: w, q, p, e, m, h => by
  rw [bal_cons] at h
  cases h1 : bal q.back.length [c] with
  | none => rw [h1] at h; cases h
  | some e1 =>
   rw [h1] at h
   have h : bal e1 w = some e := h
   have l1 := back_len (t := t) h1
   rw [← l1] at h
   rw [List.foldl_cons, List.foldl_cons]
   exact Moved.walk (m.step (by rw [h1]; simp)) h
theorem Moved.start (p : Pen) : Moved p.x p.y p.back p.been p.drawn (pen0 p.d) p :=
 ⟨by show p.x = p.x + 0; omega, by show p.y = p.y + 0; omega, rfl, rfl, rfl, rfl⟩
theorem walk_moved {t : Nat} {w : Word} (h : bal 0 w = some 0) (p : Pen) : Moved p.x p.y p.back p.been p.drawn (w.foldl (Pen.step t) (pen0 p.d)) (w.foldl (Pen.step t) p) ∧ (w.foldl (Pen.step t) (pen0 p.d)).back = [] := by
 obtain ⟨m, l⟩ := Moved.walk (t := t) (w := w) (e := 0) (Moved.start p) h
 exact ⟨m, List.eq_nil_of_length_eq_zero l⟩
theorem step_d {t : Nat} (ht : 0 < t) {p : Pen} (c : Nat) (h : p.d < t) (hb : ∀ z ∈ p.back, z.2.2 < t) : (p.step t c).d < t ∧ ∀ z ∈ (p.step t c).back, z.2.2 < t := by
 unfold Pen.step
 dsimp only
 by_cases h1 : isBig c = true
 ·rw [if_pos h1]; exact ⟨h, hb⟩
 ·rw [if_neg h1]
  by_cases h2 : c = 46
  ·rw [if_pos h2]; exact ⟨h, hb⟩
  ·rw [if_neg h2]
   by_cases h3 : c = 43
   ·rw [if_pos h3]; exact ⟨Nat.mod_lt _ ht, hb⟩
   ·rw [if_neg h3]
    by_cases h4 : c = 45
    ·rw [if_pos h4]; exact ⟨Nat.mod_lt _ ht, hb⟩
    ·rw [if_neg h4]
     by_cases h5 : c = 124
     ·rw [if_pos h5]; exact ⟨Nat.mod_lt _ ht, hb⟩
     ·rw [if_neg h5]
      by_cases h6 : c = 91
      ·rw [if_pos h6]
       refine ⟨h, fun z hz => ?_⟩
       rcases List.mem_cons.mp hz with e | hz
       ·rw [e]; exact h
       ·exact hb z hz
      ·rw [if_neg h6]
       by_cases h7 : c = 93
       ·rw [if_pos h7]
        cases eb : p.back with
        | nil => exact ⟨h, hb⟩
        | cons z r =>
         rw [eb] at hb
         exact ⟨hb z (List.mem_cons_self ..), fun y hy => hb y (List.mem_cons_of_mem _ hy)⟩
       ·rw [if_neg h7]; exact ⟨h, hb⟩
theorem walk_d {t : Nat} (ht : 0 < t) : ∀ (w : Word) (p : Pen), p.d < t → (∀ z ∈ p.back, z.2.2 < t) → (w.foldl (Pen.step t) p).d < t ∧ ∀ z ∈ (w.foldl (Pen.step t) p).back, z.2.2 < t
 | [], _, h, hb => ⟨h, hb⟩
 | c :: w, p, h, hb => by
  obtain ⟨a, b⟩ := step_d ht c h hb
  rw [List.foldl_cons]
  exact walk_d ht w _ a b
theorem least_app (l m : List Int) : least (l ++ m) = min (least l) (least m) := by
 unfold least
 rw [List.foldl_append]
 have gen : ∀ (m : List Int) (a : Int), a ≤ 0 → m.foldl min a = min a (m.foldl min 0) := by
  intro m
  induction m with
  | nil => intro a ha; simp; omega
  | cons z m ih =>
   intro a ha
   rw [List.foldl_cons, List.foldl_cons, ih (min a z) (by omega), ih (min 0 z) (by omega)]
   omega
 have neg : ∀ (l : List Int) (a : Int), a ≤ 0 → l.foldl min a ≤ 0 := by
  intro l
  induction l with
  | nil => intro a ha; exact ha
  | cons z l ih => intro a ha; rw [List.foldl_cons]; exact ih _ (by omega)
 exact gen m _ (neg l 0 (by omega))
theorem least_nonpos (l : List Int) : least l ≤ 0 := by
 have := least_app l []
 have e : least ([] : List Int) = 0 := rfl
 rw [List.append_nil, e] at this
 omega
theorem most_app (l m : List Int) : most (l ++ m) = max (most l) (most m) := by
 unfold most
 rw [List.foldl_append]
 have gen : ∀ (m : List Int) (a : Int), 0 ≤ a → m.foldl max a = max a (m.foldl max 0) := by
  intro m
  induction m with
  | nil => intro a ha; simp; omega
  | cons z m ih =>
   intro a ha
   rw [List.foldl_cons, List.foldl_cons, ih (max a z) (by omega), ih (max 0 z) (by omega)]
   omega
 have pos : ∀ (l : List Int) (a : Int), 0 ≤ a → 0 ≤ l.foldl max a := by
  intro l
  induction l with
  | nil => intro a ha; exact ha
  | cons z l ih => intro a ha; rw [List.foldl_cons]; exact ih _ (by omega)
 exact gen m _ (pos l 0 (by omega))
theorem most_nonneg (l : List Int) : 0 ≤ most l := by
 have := most_app l []
 have e : most ([] : List Int) = 0 := rfl
 rw [List.append_nil, e] at this
 omega
theorem least_one (z : Int) : least [z] = min 0 z := rfl
theorem most_one (z : Int) : most [z] = max 0 z := rfl
theorem least_moved (a : Int) (l b0 : List Int) (h : least b0 ≤ a) : least (l.map (a + ·) ++ b0) = min (least b0) (a + least l) := by
 rw [least_app]
 induction l with
 | nil => show min 0 (least b0) = min (least b0) (a + 0); have := least_nonpos b0; omega
 | cons z l ih =>
  have e1 : least ((z :: l).map (a + ·)) = min (least [a + z]) (least (l.map (a + ·))) := least_app [a + z] (l.map (a + ·))
  have e2 : least (z :: l) = min (least [z]) (least l) := least_app [z] l
  have := least_nonpos b0
  rw [e1, e2, least_one, least_one]
  omega
theorem most_moved (a : Int) (l b0 : List Int) (h : a ≤ most b0) : most (l.map (a + ·) ++ b0) = max (most b0) (a + most l) := by
 rw [most_app]
 induction l with
 | nil => show max 0 (most b0) = max (most b0) (a + 0); have := most_nonneg b0; omega
 | cons z l ih =>
  have e1 : most ((z :: l).map (a + ·)) = max (most [a + z]) (most (l.map (a + ·))) := most_app [a + z] (l.map (a + ·))
  have e2 : most (z :: l) = max (most [z]) (most l) := most_app [z] l
  have := most_nonneg b0
  rw [e1, e2, most_one, most_one]
  omega
def penLeg (q : Pen) : Leg := ⟨q.x, q.y, q.d, least (q.been.map (·.1)), least (q.been.map (·.2)), most (q.been.map (·.1)), most (q.been.map (·.2))⟩
def legOf (t : Nat) (w : Word) (d : Nat) : Leg := penLeg (w.foldl (Pen.step t) (pen0 d))
structure InBox (p : Pen) : Prop where
 lx : least (p.been.map (·.1)) ≤ p.x
 ly : least (p.been.map (·.2)) ≤ p.y
 hx : p.x ≤ most (p.been.map (·.1))
 hy : p.y ≤ most (p.been.map (·.2))
 back : ∀ z ∈ p.back, least (p.been.map (·.1)) ≤ z.1 ∧ least (p.been.map (·.2)) ≤ z.2.1 ∧ z.1 ≤ most (p.been.map (·.1)) ∧ z.2.1 ≤ most (p.been.map (·.2))
theorem InBox.pen0 (d : Nat) : InBox (pen0 d) := ⟨Int.le_refl 0, Int.le_refl 0, Int.le_refl 0, Int.le_refl 0, fun _ h => (nomatch h)⟩
theorem InBox.step {t : Nat} {p : Pen} (c : Nat) (i : InBox p) : InBox (p.step t c) := by
 obtain ⟨a1, a2, a3, a4, hb⟩ := i
 have key : ∀ z : Int × Int, InBox ⟨z.1, z.2, p.d, p.back, z :: p.been, p.drawn⟩ := fun z => by
  have e1 : least ((z :: p.been).map (·.1)) = min (min 0 z.1) (least (p.been.map (·.1))) := least_app [z.1] _
  have e2 : least ((z :: p.been).map (·.2)) = min (min 0 z.2) (least (p.been.map (·.2))) := least_app [z.2] _
  have e3 : most ((z :: p.been).map (·.1)) = max (max 0 z.1) (most (p.been.map (·.1))) := most_app [z.1] _
  have e4 : most ((z :: p.been).map (·.2)) = max (max 0 z.2) (most (p.been.map (·.2))) := most_app [z.2] _
  refine ⟨?_, ?_, ?_, ?_, fun y hy => ?_⟩
  ·show least ((z :: p.been).map (·.1)) ≤ z.1; rw [e1]; omega
  ·show least ((z :: p.been).map (·.2)) ≤ z.2; rw [e2]; omega
  ·show z.1 ≤ most ((z :: p.been).map (·.1)); rw [e3]; omega
  ·show z.2 ≤ most ((z :: p.been).map (·.2)); rw [e4]; omega
  ·show least ((z :: p.been).map (·.1)) ≤ _ ∧ least ((z :: p.been).map (·.2)) ≤ _ ∧ _ ≤ most ((z :: p.been).map (·.1)) ∧ _ ≤ most ((z :: p.been).map (·.2))
   have := hb y hy
   rw [e1, e2, e3, e4]; omega
 unfold Pen.step
 dsimp only
 by_cases h1 : isBig c = true
 ·rw [if_pos h1]
  obtain ⟨b1, b2, b3, b4, b5⟩ := key (p.x + (way t p.d).1, p.y + (way t p.d).2)
  exact ⟨b1, b2, b3, b4, b5⟩
 ·rw [if_neg h1]
  by_cases h2 : c = 46
  ·rw [if_pos h2]
   obtain ⟨b1, b2, b3, b4, b5⟩ := key (p.x + (way t p.d).1, p.y + (way t p.d).2)
   exact ⟨b1, b2, b3, b4, b5⟩
  ·rw [if_neg h2]
   by_cases h3 : c = 43
   ·rw [if_pos h3]; exact ⟨a1, a2, a3, a4, hb⟩
   ·rw [if_neg h3]
    by_cases h4 : c = 45
    ·rw [if_pos h4]; exact ⟨a1, a2, a3, a4, hb⟩
    ·rw [if_neg h4]
     by_cases h5 : c = 124
     ·rw [if_pos h5]; exact ⟨a1, a2, a3, a4, hb⟩
     ·rw [if_neg h5]
      by_cases h6 : c = 91
      ·rw [if_pos h6]
       refine ⟨a1, a2, a3, a4, fun z hz => ?_⟩
       rcases List.mem_cons.mp hz with e | hz
       ·rw [e]; exact ⟨a1, a2, a3, a4⟩
       ·exact hb z hz
      ·rw [if_neg h6]
       by_cases h7 : c = 93
       ·rw [if_pos h7]
        cases eb : p.back with
        | nil => exact ⟨a1, a2, a3, a4, hb⟩
        | cons z r =>
         rw [eb] at hb
         have hz := hb z (List.mem_cons_self ..)
         exact ⟨hz.1, hz.2.1, hz.2.2.1, hz.2.2.2, fun y hy => hb y (List.mem_cons_of_mem _ hy)⟩
       ·rw [if_neg h7]; exact ⟨a1, a2, a3, a4, hb⟩
theorem InBox.walk {t : Nat} : ∀ (w : Word) {p : Pen}, InBox p → InBox (w.foldl (Pen.step t) p)
 | [], _, i => i
 | c :: w, _, i => by rw [List.foldl_cons]; exact InBox.walk w (i.step c)
theorem leg_on {t : Nat} {w : Word} (h : bal 0 w = some 0) {p : Pen} (i : InBox p) : let g := legOf t w p.d; let r := w.foldl (Pen.step t) p
  penLeg r = ⟨p.x + g.x, p.y + g.y, g.d, min (penLeg p).lx (p.x + g.lx), min (penLeg p).ly (p.y + g.ly), max (penLeg p).hx (p.x + g.hx), max (penLeg p).hy (p.y + g.hy)⟩ ∧ r.back = p.back := by
 obtain ⟨m, e⟩ := walk_moved (t := t) h p
 refine ⟨?_, ?_⟩
 ·have c1 : (w.foldl (Pen.step t) p).been.map (·.1) = ((w.foldl (Pen.step t) (pen0 p.d)).been.map (·.1)).map (p.x + ·) ++ p.been.map (·.1) := by
   rw [m.been, List.map_append, List.map_map, List.map_map]; rfl
  have c2 : (w.foldl (Pen.step t) p).been.map (·.2) = ((w.foldl (Pen.step t) (pen0 p.d)).been.map (·.2)).map (p.y + ·) ++ p.been.map (·.2) := by
   rw [m.been, List.map_append, List.map_map, List.map_map]; rfl
  unfold legOf penLeg
  rw [c1, c2, least_moved _ _ _ i.lx, least_moved _ _ _ i.ly, most_moved _ _ _ i.hx, most_moved _ _ _ i.hy, m.x, m.y, m.d]
 ·rw [m.back, e]; rfl
theorem one_leg (t d c : Nat) (h1 : c ≠ 91) (h2 : c ≠ 93) : oneLeg t d c = legOf t [c] d := by
 show oneLeg t d c = penLeg ((pen0 d).step t c)
 unfold oneLeg Pen.step pen pen0 penLeg
 dsimp only
 by_cases e1 : isBig c = true
 ·rw [if_pos e1, if_pos e1]; rfl
 ·rw [if_neg e1, if_neg e1]
  by_cases e2 : c = 46
  ·rw [if_pos e2, if_pos e2]; rfl
  ·rw [if_neg e2, if_neg e2]
   by_cases e3 : c = 43
   ·rw [if_pos e3, if_pos e3]; rfl
   ·rw [if_neg e3, if_neg e3]
    by_cases e4 : c = 45
    ·rw [if_pos e4, if_pos e4]; rfl
    ·rw [if_neg e4, if_neg e4]
     by_cases e5 : c = 124
     ·rw [if_pos e5, if_pos e5]; rfl
     ·rw [if_neg e5, if_neg e5, if_neg h1, if_neg h1, if_neg h2, if_neg h2]; rfl
theorem flat6 {α : Type} (f : Nat → Nat → α) : ∀ (n c d : Nat), c < n → d < 6 → ((List.range n).flatMap fun c => (List.range 6).map fun d => f c d)[6 * c + d]? = some (f c d)
 | 0, c, d, h, _ => absurd h (by omega)
 | n + 1, c, d, h, hd => by
  rw [List.range_succ (n := n), List.flatMap_append]
  have len : ∀ m, ((List.range m).flatMap fun c => (List.range 6).map fun d => f c d).length = 6 * m := by
   intro m
   induction m with
   | zero => rfl
   | succ m ih => rw [List.range_succ (n := m), List.flatMap_append, List.length_append, ih]; simp; omega
  by_cases e : c = n
  ·subst e
   rw [List.getElem?_append_right (by rw [len]; omega), len]
   have : 6 * c + d - 6 * c = d := by omega
   rw [this]
   simp [hd]
  ·rw [List.getElem?_append_left (by rw [len]; omega)]
   exact flat6 f n c d (by omega) hd
theorem legAt_flat (f : Nat → Nat → Leg) {c d : Nat} (hc : c < 128) (hd : d < 6) : legAt ((List.range 128).flatMap fun c => (List.range 6).map fun d => f c d).toArray c d = f c d := by
 unfold legAt
 have h := flat6 f 128 c d hc hd
 rw [Array.getD_eq_getD_getElem?, List.getElem?_toArray, h]
 rfl
structure Legs (x : Rules) (n : Nat) (t : Array Leg) : Prop where
 is : ∀ c d, c < 128 → d < x.turns → c ≠ 91 → c ≠ 93 → legAt t c d = legOf x.turns (grown x n [c]) d
structure TripIs (p : Trip) (q : Pen) : Prop where
 leg : p.leg = penLeg q
 back : p.back = q.back
theorem along_go {x : Rules} (g : Good x) {n : Nat} {t : Array Leg} (L : Legs x n t) : ∀ (w : Word) (p : Trip) (q : Pen), (∀ c ∈ w, c < 128) → TripIs p q → InBox q → q.d < x.turns → (∀ z ∈ q.back, z.2.2 < x.turns) →
  TripIs (w.foldl (Trip.go t) p) ((grown x n w).foldl (Pen.step x.turns) q)
 | [], p, q, _, h, _, _, _ => by rw [grown_nil]; exact h
 | c :: w, p, q, hw, h, i, hd, hb => by
  have ht : 0 < x.turns := by rcases g.turns with e | e <;> omega
  rw [grown_cons, List.foldl_append, List.foldl_cons]
  have hd' := walk_d ht (grown x n [c]) q hd hb
  refine along_go g L w _ _ (fun e he => hw e (List.mem_cons_of_mem _ he)) ?_ (i.walk _) hd'.1 hd'.2
  unfold Trip.go
  dsimp only
  by_cases h6 : c = 91
  ·subst h6
   rw [if_pos rfl, grown_stay (g.bracket (.inl rfl))]
   show TripIs _ (q.step x.turns 91)
   refine ⟨?_, ?_⟩
   ·show p.leg = _; rw [h.leg]; rfl
   ·show (p.leg.x, p.leg.y, p.leg.d) :: p.back = _
    rw [h.leg, h.back]; rfl
  ·rw [if_neg h6]
   by_cases h7 : c = 93
   ·subst h7
    rw [if_pos rfl, grown_stay (g.bracket (.inr rfl))]
    show TripIs _ (q.step x.turns 93)
    have e1 : q.step x.turns 93 = (match q.back with
     | b :: r => { q with x := b.1, y := b.2.1, d := b.2.2, back := r }
     | [] => q) := rfl
    rw [e1, h.back]
    cases eb : q.back with
    | nil => exact ⟨h.leg, by rw [h.back, eb]⟩
    | cons z r => exact ⟨by rw [h.leg]; rfl, rfl⟩
   ·rw [if_neg h7]
    rcases g.fine n c with ⟨q', _⟩ | ⟨_, _, cl⟩
    ·omega
    ·have e2 : p.leg.d = q.d := by rw [h.leg]; rfl
     rw [e2, L.is c q.d (hw c (List.mem_cons_self ..)) hd h6 h7]
     obtain ⟨k1, k2⟩ := leg_on (t := x.turns) cl i
     refine ⟨?_, ?_⟩
     ·rw [k1, h.leg]; rfl
     ·show p.back = _; rw [k2, h.back]
theorem pen0_stay (d : Nat) : TripIs ⟨stay d, []⟩ (pen0 d) := ⟨rfl, rfl⟩
theorem along_is {x : Rules} (g : Good x) {n : Nat} {t : Array Leg} (L : Legs x n t) {w : Word} (hw : ∀ c ∈ w, c < 128) {d : Nat} (hd : d < x.turns) : along t w d = legOf x.turns (grown x n w) d :=
 (along_go g L w ⟨stay d, []⟩ (pen0 d) hw (pen0_stay d) (.pen0 d) hd (fun _ h => (nomatch h))).leg
theorem legs_are {x : Rules} (g : Good x) : ∀ n, Legs x n (x.legs n)
 | 0 => ⟨fun c d hc hd h1 h2 => by
  have h6 : d < 6 := by rcases g.turns with e | e <;> omega
  unfold Rules.legs
  rw [legAt_flat (fun c d => oneLeg x.turns d c) hc h6, one_leg _ _ _ h1 h2]
  rfl⟩
 | n + 1 => ⟨fun c d hc hd h1 h2 => by
  have h6 : d < 6 := by rcases g.turns with e | e <;> omega
  have L := legs_are g n
  unfold Rules.legs
  dsimp only
  refine (legAt_flat _ hc h6).trans ?_
  rw [grown_succ_one]
  cases q : x.rule c with
  | none => rw [of_none q]; exact L.is c d hc hd h1 h2
  | some w => rw [of_some q]; dsimp only; rw [if_pos hd]; exact along_is g L (g.ruleLt q) hd⟩
theorem trip_eq {x : Rules} (g : Good x) (n : Nat) : x.trip n = legOf x.turns (x.word n) 0 := by
 unfold Rules.trip
 rw [along_is g (legs_are g n) g.firstLt (by rcases g.turns with e | e <;> omega), word_eq]
theorem rulesOf_good : ∀ (ls : List Word) (k : Nat) (l m : List (Nat × Word)), rulesOf k ls l = .ok m → (∀ p ∈ l, isLetter p.1 = true ∧ wordOk p.2 = true) → ∀ p ∈ m, isLetter p.1 = true ∧ wordOk p.2 = true
 | [], k, l, m, h, hl => by
  unfold rulesOf at h
  cases h; exact hl
 | b :: r, k, l, m, h, hl => by
  unfold rulesOf at h
  cases q : ruleOf b with
  | none => rw [q] at h; cases h
  | some y =>
   rw [q] at h
   dsimp only at h
   by_cases hy : l.any (fun z => z.1 == y.1) = true
   ·rw [if_pos hy] at h; cases h
   ·rw [if_neg hy] at h
    refine rulesOf_good r (k + 1) (l ++ [y]) m h fun p hp => ?_
    rcases List.mem_append.mp hp with hp | hp
    ·exact hl p hp
    ·rw [List.mem_singleton.mp hp]
     unfold ruleOf at q
     split at q
     ·split at q
      ·rename_i hh; cases q; exact hh
      ·cases q
     ·cases q
theorem read_good {t : Word} {x : Rules} (h : Kg35.read t = .ok x) : Good x := by
 unfold Kg35.read at h
 split at h
 ·cases h
 ·rename_i d r _
  split at h
  ·cases h
  ·rename_i hd
   split at h
   ·cases h
   ·rename_i w r' _
    split at h
    ·cases h
    ·rename_i hw
     cases q : rulesOf 3 r' [] with
     | error k => rw [q] at h; cases h
     | ok l =>
      rw [q] at h
      cases h
      refine ⟨?_, by simpa using hw, rulesOf_good r' 3 [] l q (fun _ h => (nomatch h))⟩
      by_cases e : d = [52]
      ·left; rw [e]; rfl
      ·by_cases e' : d = [54]
       ·right; rw [e']; rfl
       ·exact absurd ⟨e, e'⟩ hd
end Gw
end
section
namespace Gw
open Kg35
inductive Ask where
 | begin_
 | read (t : List Nat)
 | long (n : Int)
 | often (n : Int) (c : Nat)
 | part (n first room : Int)
 | walk (n : Int)
 | picture (n x y w h : Int)
def Ask.flat : Ask → List Int
 | .begin_ => [0]
 | .read t => 1 :: (t.length : Int) :: t.map Int.ofNat
 | .long n => [2, n]
 | .often n c => [3, n, (c : Int)]
 | .part n f m => [4, n, f, m]
 | .walk n => [5, n]
 | .picture n x y w h => [6, n, x, y, w, h]
def Ask.call : Ask → Kg35.Call
 | .begin_ => .init
 | .read t => .read (some t)
 | .long n => .long n
 | .often n c => .often n c
 | .part n f m => .part n f m
 | .walk n => .walk n
 | .picture n x y w h => .picture n x y w h
def in32 (n : Int) : Prop := -2147483648 ≤ n ∧ n ≤ 2147483647
def in64 (n : Int) : Prop := -9223372036854775808 ≤ n ∧ n ≤ 9223372036854775807
def Ask.ok : Ask → Prop
 | .begin_ => True
 | .read t => t.length ≤ 4096 ∧ ∀ c ∈ t, c < 256
 | .long n => in32 n
 | .often n c => in32 n ∧ c < 4294967296
 | .part n f m => in32 n ∧ in64 f ∧ in32 m
 | .walk n => in32 n
 | .picture n x y w h => in32 n ∧ in64 x ∧ in64 y ∧ in32 w ∧ in32 h
def stepA (s : State) (a : Ask) : State × List Int := ((does s a.call).1, (does s a.call).2.value :: (does s a.call).2.out)
def playA : State → List Ask → List Int
 | _, [] => []
 | s, a :: r => ((stepA s a).2.length : Int) :: (stepA s a).2 ++ playA (stepA s a).1 r
def Ask.short (s : State) : Ask → Prop
 | .picture n _ _ w h => let l := (does s (.long n)).2.value
  l ≤ 20000 ∨ 2 ^ 24 ≤ l ∨ w < 1 ∨ 1024 < w ∨ h < 1 ∨ 1024 < h
 | _ => True
def shortA : State → List Ask → Prop
 | _, [] => True
 | s, a :: r => a.short s ∧ shortA (stepA s a).1 r
def totalA : State → List Ask → Nat
 | _, [] => 0
 | s, a :: r => (stepA s a).2.length + totalA (stepA s a).1 r
theorem i32_u32 {n : Int} (h : in32 n) : Kg35Neutral.i32 (Kg35Neutral.unsigned32 n) = n := by
 obtain ⟨h1, h2⟩ := h
 unfold Kg35Neutral.i32 Kg35Neutral.unsigned32
 by_cases hn : 0 ≤ n
 ·have e : n % 4294967296 = n := Int.emod_eq_of_lt hn (by omega)
  rw [e, if_pos (by omega)]; omega
 ·have e : n % 4294967296 = n + 4294967296 := by omega
  rw [e, if_neg (by omega)]; omega
theorem i64_u64 {n : Int} (h : in64 n) : Kg35Neutral.i64 (Kg35Neutral.unsigned64 n) = n := by
 obtain ⟨h1, h2⟩ := h
 unfold Kg35Neutral.i64 Kg35Neutral.unsigned64
 by_cases hn : 0 ≤ n
 ·have e : n % 18446744073709551616 = n := Int.emod_eq_of_lt hn (by omega)
  rw [e, if_pos (by omega)]; omega
 ·have e : n % 18446744073709551616 = n + 18446744073709551616 := by omega
  rw [e, if_neg (by omega)]; omega
theorem whole32_iff {n : Int} : Kg35Neutral.whole32 n = true ↔ in32 n := by
 unfold Kg35Neutral.whole32 in32
 rw [Bool.and_eq_true, decide_eq_true_iff, decide_eq_true_iff]
 omega
theorem whole64_iff {n : Int} : Kg35Neutral.whole64 n = true ↔ in64 n := by
 unfold Kg35Neutral.whole64 in64
 rw [Bool.and_eq_true, decide_eq_true_iff, decide_eq_true_iff]
 omega
def Ask.doc : Ask → Kg35Neutral.Call
 | .begin_ => [[0]]
 | .read t => [[1, (t.length : Int)], t.map Int.ofNat]
 | .long n => [[2, n]]
 | .often n c => [[3, n, (c : Int)]]
 | .part n f m => [[4, n, f, m]]
 | .walk n => [[5, n]]
 | .picture n x y w h => [[6, n, x, y, w, h]]
theorem toNat_ofNat_map (t : List Nat) : (t.map Int.ofNat).map Int.toNat = t := by
 rw [List.map_map]
 have : (Int.toNat ∘ Int.ofNat) = id := rfl
 rw [this, List.map_id]
theorem callOf_doc {a : Ask} (h : a.ok) : Kg35Neutral.callOf (Kg35Neutral.numbers a.doc) = a.call ∨ a = .begin_ := by
 cases a with
 | begin_ => exact .inr rfl
 | read t =>
  left
  have hl : in32 (t.length : Int) := ⟨by omega, by have := h.1; omega⟩
  show Kg35.Call.read (Kg35Neutral.counted 0 4096 1 ([Kg35Neutral.unsigned32 (t.length : Int)] ++ (t.map Int.ofNat).map Int.toNat)).1 = .read (some t)
  unfold Kg35Neutral.counted Kg35Neutral.h32
  dsimp only
  rw [List.singleton_append, List.headD_cons, i32_u32 hl, if_pos ⟨by omega, by have := h.1; omega⟩, toNat_ofNat_map]
  show Kg35.Call.read (some (t.take (1 * ((t.length : Int)).toNat))) = _
  rw [Nat.one_mul, Int.toNat_natCast, List.take_length]
 | long n =>
  left
  show Kg35.Call.long (Kg35Neutral.i32 (Kg35Neutral.unsigned32 n)) = _
  rw [i32_u32 h]; rfl
 | often n c =>
  left
  show Kg35.Call.often (Kg35Neutral.i32 (Kg35Neutral.unsigned32 n)) ((c : Int).toNat) = _
  rw [i32_u32 h.1, Int.toNat_natCast]; rfl
 | part n f m =>
  left
  show Kg35.Call.part (Kg35Neutral.i32 (Kg35Neutral.unsigned32 n)) (Kg35Neutral.i64 (Kg35Neutral.unsigned64 f)) (Kg35Neutral.i32 (Kg35Neutral.unsigned32 m)) = _
  rw [i32_u32 h.1, i64_u64 h.2.1, i32_u32 h.2.2]; rfl
 | walk n =>
  left
  show Kg35.Call.walk (Kg35Neutral.i32 (Kg35Neutral.unsigned32 n)) = _
  rw [i32_u32 h]; rfl
 | picture n x y w h' =>
  left
  show Kg35.Call.picture (Kg35Neutral.i32 (Kg35Neutral.unsigned32 n)) (Kg35Neutral.i64 (Kg35Neutral.unsigned64 x)) (Kg35Neutral.i64 (Kg35Neutral.unsigned64 y)) (Kg35Neutral.i32 (Kg35Neutral.unsigned32 w)) (Kg35Neutral.i32 (Kg35Neutral.unsigned32 h')) = _
  rw [i32_u32 h.1, i64_u64 h.2.1, i64_u64 h.2.2.1, i32_u32 h.2.2.2.1, i32_u32 h.2.2.2.2]; rfl
theorem step_doc {a : Ask} (h : a.ok) (s : State) : Kg35Neutral.step s a.doc = stepA s a := by
 rcases callOf_doc h with e | e
 ·cases a with
  | begin_ => rfl
  | read t =>
   show ((does s (Kg35Neutral.callOf (Kg35Neutral.numbers (Ask.read t).doc))).1, _) = _
   rw [e]; rfl
  | long n =>
   show ((does s (Kg35Neutral.callOf (Kg35Neutral.numbers (Ask.long n).doc))).1, (does s (Kg35Neutral.callOf (Kg35Neutral.numbers (Ask.long n).doc))).2.value :: (does s (Kg35Neutral.callOf (Kg35Neutral.numbers (Ask.long n).doc))).2.out) = _
   rw [e]; rfl
  | often n c =>
   show ((does s (Kg35Neutral.callOf (Kg35Neutral.numbers (Ask.often n c).doc))).1, (does s (Kg35Neutral.callOf (Kg35Neutral.numbers (Ask.often n c).doc))).2.value :: (does s (Kg35Neutral.callOf (Kg35Neutral.numbers (Ask.often n c).doc))).2.out) = _
   rw [e]; rfl
  | part n f m =>
   show ((does s (Kg35Neutral.callOf (Kg35Neutral.numbers (Ask.part n f m).doc))).1, (does s (Kg35Neutral.callOf (Kg35Neutral.numbers (Ask.part n f m).doc))).2.value :: (does s (Kg35Neutral.callOf (Kg35Neutral.numbers (Ask.part n f m).doc))).2.out) = _
   rw [e]; rfl
  | walk n =>
   show ((does s (Kg35Neutral.callOf (Kg35Neutral.numbers (Ask.walk n).doc))).1, (does s (Kg35Neutral.callOf (Kg35Neutral.numbers (Ask.walk n).doc))).2.value :: (does s (Kg35Neutral.callOf (Kg35Neutral.numbers (Ask.walk n).doc))).2.out) = _
   rw [e]; rfl
  | picture n x y w h' =>
   show ((does s (Kg35Neutral.callOf (Kg35Neutral.numbers (Ask.picture n x y w h').doc))).1, (does s (Kg35Neutral.callOf (Kg35Neutral.numbers (Ask.picture n x y w h').doc))).2.value :: (does s (Kg35Neutral.callOf (Kg35Neutral.numbers (Ask.picture n x y w h').doc))).2.out) = _
   rw [e]; rfl
 ·subst e; rfl
def Ask.raw : Ask → List (List Int)
 | .begin_ => [[0]]
 | .read t => [[1], t.map Int.ofNat]
 | .long n => [[2, n]]
 | .often n c => [[3, n, (c : Int)]]
 | .part n f m => [[4, n, f, m]]
 | .walk n => [[5, n]]
 | .picture n x y w h => [[6, n, x, y, w, h]]
theorem whole_raw (a : Ask) : PyKg35.whole a.raw = a.doc := by
 cases a with
 | read t =>
  show [[1, ((t.map Int.ofNat).length : Int)], t.map Int.ofNat] = _
  rw [List.length_map]; rfl
 | _ => rfl
theorem nats_of : ∀ (l : List Int), (l.all fun z => Kg35Neutral.natural z 8) = true → ∃ t : List Nat, l = t.map Int.ofNat ∧ ∀ c ∈ t, c < 256
 | [], _ => ⟨[], rfl, fun _ h => (nomatch h)⟩
 | z :: l, h => by
  rw [List.all_cons, Bool.and_eq_true] at h
  obtain ⟨t, e, ht⟩ := nats_of l h.2
  have hz := h.1
  unfold Kg35Neutral.natural at hz
  rw [Bool.and_eq_true, decide_eq_true_iff, decide_eq_true_iff] at hz
  refine ⟨z.toNat :: t, ?_, fun c hc => ?_⟩
  ·rw [e, List.map_cons]
   congr 1
   show z = ((z.toNat : Nat) : Int)
   omega
  ·rcases List.mem_cons.mp hc with q | q
   ·rw [q]; have := hz.2; omega
   ·exact ht c q
theorem call_inv {p : Int} {r t : List Int} {c : List (List Int)} (h : PyFlat.call PyKg35.shape (p :: r) = some (c, t)) (ha : Kg35Neutral.asked1 (PyKg35.whole c) = true) : ∃ a : Ask, a.ok ∧ c = a.raw ∧ p :: r = a.flat ++ t := by
 unfold PyFlat.call at h
 dsimp only at h
 by_cases p0 : p = 0
 ·subst p0
  simp [PyKg35.shape, PyFlat.rows] at h
  obtain ⟨e1, e2⟩ := h
  subst e1 e2
  exact ⟨.begin_, trivial, rfl, rfl⟩
 by_cases p1 : p = 1
 ·subst p1
  simp [PyKg35.shape, PyFlat.rows] at h
  cases r with
  | nil => simp [PyFlat.row] at h
  | cons n r =>
   unfold PyFlat.row at h
   dsimp only at h
   by_cases q : 0 ≤ n ∧ n.toNat ≤ r.length
   ·rw [if_pos q] at h
    dsimp only at h
    injection h with h
    injection h with e1 e2
    subst e1 e2
    have ha' : (Kg35Neutral.whole32 ((r.take n.toNat).length : Int) && ((r.take n.toNat).all (fun (z : Int) => Kg35Neutral.natural z 8) && Kg35Neutral.long (r.take n.toNat) ((r.take n.toNat).length : Int) 0 4096)) = true := ha
    rw [Bool.and_eq_true, Bool.and_eq_true] at ha'
    obtain ⟨_, hb, hl⟩ := ha'
    obtain ⟨tx, et, ht⟩ := nats_of _ hb
    have hlen : (r.take n.toNat).length = n.toNat := by rw [List.length_take]; omega
    unfold Kg35Neutral.long Kg35Neutral.some_ at hl
    rw [decide_eq_true_iff, hlen] at hl
    have h4 : n.toNat ≤ 4096 := by
     by_cases z : (0 : Int) ≤ (n.toNat : Int) ∧ (n.toNat : Int) ≤ 4096
     ·omega
     ·rw [if_neg z] at hl; omega
    have hlt : tx.length = n.toNat := by rw [← hlen, et, List.length_map]
    refine ⟨.read tx, ⟨by omega, ht⟩, by rw [et]; rfl, ?_⟩
    show 1 :: n :: r = 1 :: (tx.length : Int) :: (tx.map Int.ofNat) ++ r.drop n.toNat
    have en : (tx.length : Int) = n := by rw [hlt]; omega
    rw [← et, en]
    show 1 :: n :: r = 1 :: n :: (r.take n.toNat ++ r.drop n.toNat)
    rw [List.take_append_drop]
   ·rw [if_neg q] at h; cases h
 by_cases p2 : p = 2
 ·subst p2
  simp [PyKg35.shape, PyFlat.rows] at h
  obtain ⟨hl, e1, e2⟩ := h
  match r, hl with
  | n :: r, _ =>
   subst e1 e2
   exact ⟨.long n, whole32_iff.mp ha, rfl, rfl⟩
 by_cases p3 : p = 3
 ·subst p3
  simp [PyKg35.shape, PyFlat.rows] at h
  obtain ⟨hl, e1, e2⟩ := h
  match r, hl with
  | [_], hl => simp at hl
  | n :: k :: r, _ =>
   subst e1 e2
   have ha' : (Kg35Neutral.whole32 n && Kg35Neutral.natural k 32) = true := ha
   rw [Bool.and_eq_true] at ha'
   have hk := ha'.2
   unfold Kg35Neutral.natural at hk
   rw [Bool.and_eq_true, decide_eq_true_iff, decide_eq_true_iff] at hk
   have ek : ((k.toNat : Nat) : Int) = k := by omega
   refine ⟨.often n k.toNat, ⟨whole32_iff.mp ha'.1, by have := hk.2; omega⟩, ?_, ?_⟩
   ·show [[3, n, k]] = [[3, n, ((k.toNat : Nat) : Int)]]; rw [ek]
   ·show _ = [3, n, ((k.toNat : Nat) : Int)] ++ _; rw [ek]; rfl
 by_cases p4 : p = 4
 ·subst p4
  simp [PyKg35.shape, PyFlat.rows] at h
  obtain ⟨hl, e1, e2⟩ := h
  match r, hl with
  | [_], hl => simp at hl
  | [_, _], hl => simp at hl
  | n :: f :: m :: r, _ =>
   subst e1 e2
   have ha' : (Kg35Neutral.whole32 n && Kg35Neutral.whole64 f && Kg35Neutral.whole32 m) = true := ha
   rw [Bool.and_eq_true, Bool.and_eq_true] at ha'
   exact ⟨.part n f m, ⟨whole32_iff.mp ha'.1.1, whole64_iff.mp ha'.1.2, whole32_iff.mp ha'.2⟩, rfl, rfl⟩
 by_cases p5 : p = 5
 ·subst p5
  simp [PyKg35.shape, PyFlat.rows] at h
  obtain ⟨hl, e1, e2⟩ := h
  match r, hl with
  | n :: r, _ =>
   subst e1 e2
   exact ⟨.walk n, whole32_iff.mp ha, rfl, rfl⟩
 by_cases p6 : p = 6
 ·subst p6
  simp [PyKg35.shape, PyFlat.rows] at h
  obtain ⟨hl, e1, e2⟩ := h
  match r, hl with
  | [_], hl => simp at hl
  | [_, _], hl => simp at hl
  | [_, _, _], hl => simp at hl
  | [_, _, _, _], hl => simp at hl
  | n :: x :: y :: v :: g :: r, _ =>
   subst e1 e2
   have ha' : (Kg35Neutral.whole32 n && Kg35Neutral.whole64 x && Kg35Neutral.whole64 y && Kg35Neutral.whole32 v && Kg35Neutral.whole32 g) = true := ha
   simp only [Bool.and_eq_true] at ha'
   exact ⟨.picture n x y v g, ⟨whole32_iff.mp ha'.1.1.1.1, whole64_iff.mp ha'.1.1.1.2, whole64_iff.mp ha'.1.1.2, whole32_iff.mp ha'.1.2, whole32_iff.mp ha'.2⟩, rfl, rfl⟩
 ·have e : PyKg35.shape p = none := by unfold PyKg35.shape; simp [p0, p1, p2, p3, p4, p5, p6]
  rw [e] at h; cases h
theorem calls_inv : ∀ (f : Nat) (l : List Int) (cs : List (List (List Int))), PyFlat.calls PyKg35.shape f l = some cs → (cs.map PyKg35.whole).all Kg35Neutral.asked1 = true → ∃ as : List Ask, (∀ a ∈ as, a.ok) ∧ cs = as.map Ask.raw ∧ l = as.flatMap Ask.flat
 | f, [], cs, h, _ => by
  have : cs = [] := by
   cases f <;> · unfold PyFlat.calls at h; exact (Option.some.inj h).symm
  subst this
  exact ⟨[], fun _ h => (nomatch h), rfl, rfl⟩
 | 0, p :: r, cs, h, _ => by unfold PyFlat.calls at h; cases h
 | f + 1, p :: r, cs, h, ha => by
  unfold PyFlat.calls at h
  cases q : PyFlat.call PyKg35.shape (p :: r) with
  | none => rw [q] at h; cases h
  | some ct =>
   obtain ⟨c, t⟩ := ct
   rw [q] at h
   dsimp only at h
   cases q2 : PyFlat.calls PyKg35.shape f t with
   | none => rw [q2] at h; cases h
   | some cs' =>
    rw [q2] at h
    dsimp only at h
    have h := Option.some.inj h
    subst h
    rw [List.map_cons, List.all_cons, Bool.and_eq_true] at ha
    obtain ⟨a, ok, e1, e2⟩ := call_inv q ha.1
    obtain ⟨as, oks, e3, e4⟩ := calls_inv f t cs' q2 ha.2
    refine ⟨a :: as, fun b hb => ?_, by rw [e1, e3]; rfl, by rw [e2, e4]; rfl⟩
    rcases List.mem_cons.mp hb with z | z
    ·rw [z]; exact ok
    ·exact oks b z
theorem told_doc : ∀ (as : List Ask) (s : State), (∀ a ∈ as, a.ok) → PyFlat.told (PyFlat.played Kg35Neutral.step s (as.map Ask.doc)) = playA s as
 | [], _, _ => rfl
 | a :: as, s, h => by
  rw [List.map_cons]
  show PyFlat.told ((Kg35Neutral.step s a.doc).2 :: PyFlat.played Kg35Neutral.step (Kg35Neutral.step s a.doc).1 (as.map Ask.doc)) = _
  rw [step_doc (h a (List.mem_cons_self ..))]
  have ih := told_doc as (stepA s a).1 fun b hb => h b (List.mem_cons_of_mem _ hb)
  unfold PyFlat.told at ih ⊢
  rw [List.flatMap_cons, ih]
  rfl
theorem short_doc : ∀ (as : List Ask) (s : State), (∀ a ∈ as, a.ok) → Kg35Neutral.short_ s (as.map Ask.doc) = true → shortA s as
 | [], _, _, _ => trivial
 | a :: as, s, h, hs => by
  rw [List.map_cons] at hs
  unfold Kg35Neutral.short_ at hs
  rw [Bool.and_eq_true, step_doc (h a (List.mem_cons_self ..))] at hs
  refine ⟨?_, short_doc as _ (fun b hb => h b (List.mem_cons_of_mem _ hb)) hs.2⟩
  cases a with
  | picture n x y w g =>
   have h1 := hs.1
   simp only [Ask.doc, Bool.or_eq_true, decide_eq_true_iff] at h1
   show (does s (.long n)).2.value ≤ 20000 ∨ 2 ^ 24 ≤ (does s (.long n)).2.value ∨ _
   rcases h1 with ((((h1 | h1) | h1) | h1) | h1) | h1
   ·exact .inl h1
   ·exact .inr (.inl h1)
   ·exact .inr (.inr (.inl h1))
   ·exact .inr (.inr (.inr (.inl h1)))
   ·exact .inr (.inr (.inr (.inr (.inl h1))))
   ·exact .inr (.inr (.inr (.inr (.inr h1))))
  | _ => trivial
theorem total_doc : ∀ (as : List Ask) (s : State), (∀ a ∈ as, a.ok) → Kg35Neutral.total s (as.map Ask.doc) = totalA s as
 | [], _, _ => rfl
 | a :: as, s, h => by
  rw [List.map_cons]
  show (Kg35Neutral.step s a.doc).2.length + Kg35Neutral.total (Kg35Neutral.step s a.doc).1 (as.map Ask.doc) = _
  rw [step_doc (h a (List.mem_cons_self ..)), total_doc as _ fun b hb => h b (List.mem_cons_of_mem _ hb)]
  rfl
theorem asked_inv {l : List Int} (h : PyKg35.answers_asked l = true) : ∃ as : List Ask, (∀ a ∈ as, a.ok) ∧ l = as.flatMap Ask.flat ∧ PyKg35.answers l = playA none as ∧ shortA none as ∧ totalA none as ≤ 1000000 ∧ as.length ≤ 100 ∧ as ≠ [] := by
 unfold PyKg35.answers_asked PyKg35.calls at h
 unfold PyKg35.answers PyKg35.calls
 cases q : PyFlat.calls PyKg35.shape l.length l with
 | none => rw [q] at h; cases h
 | some cs =>
  rw [q] at h
  dsimp only at h ⊢
  rw [Bool.and_eq_true] at h
  obtain ⟨h1, h2⟩ := h
  unfold Kg35Neutral.asked at h2
  simp only [Bool.and_eq_true, decide_eq_true_iff] at h2
  obtain ⟨hne, hlen, ⟨hall, hsh⟩, htot⟩ := h2
  obtain ⟨as, oks, e1, e2⟩ := calls_inv _ _ _ q hall
  have ed : cs.map PyKg35.whole = as.map Ask.doc := by
   rw [e1, List.map_map]
   exact List.map_congr_left fun a _ => whole_raw a
  rw [ed] at hsh htot hne hlen ⊢
  refine ⟨as, oks, e2, told_doc as _ oks, short_doc as _ oks hsh, ?_, ?_, ?_⟩
  ·rw [← total_doc as _ oks]; exact htot
  ·rwa [List.length_map] at hlen
  ·rintro rfl; exact hne rfl
end Gw
end
section
namespace Gw
open Kg35
theorem linesOf_lf (r w : Word) : linesOf (10 :: r) w = w :: linesOf r [] := by
 show (if (10 : Nat) = 10 then w :: linesOf r [] else linesOf r (w ++ [10])) = _
 rw [if_pos rfl]
theorem linesOf_other {c : Nat} (h : c ≠ 10) (r w : Word) : linesOf (c :: r) w = linesOf r (w ++ [c]) := by
 show (if c = 10 then w :: linesOf r [] else linesOf r (w ++ [c])) = _
 rw [if_neg h]
theorem linesOf_end (w : Word) : linesOf [] w = if w = [] then [] else [w] := by
 cases w with
 | nil => rfl
 | cons a w => rfl
structure LinesTold (t pre : Word) (lines : List Word) (line : Word) : Prop where
 eq : ∀ rest, t = pre ++ rest → linesOf t [] = lines ++ linesOf rest line
theorem LinesTold.start (t : Word) : LinesTold t [] [] [] := ⟨fun rest h => by rw [h]; rfl⟩
theorem LinesTold.lf {t pre : Word} {lines : List Word} {line : Word} (h : LinesTold t pre lines line) : LinesTold t (pre ++ [10]) (lines ++ [line]) [] :=
 ⟨fun rest e => by rw [h.eq (10 :: rest) (by rw [e, List.append_assoc]; rfl), linesOf_lf, List.append_assoc]; rfl⟩
theorem LinesTold.other {t pre : Word} {lines : List Word} {line : Word} {c : Nat} (h : LinesTold t pre lines line) (hc : c ≠ 10) : LinesTold t (pre ++ [c]) lines (line ++ [c]) :=
 ⟨fun rest e => by rw [h.eq (c :: rest) (by rw [e, List.append_assoc]; rfl), linesOf_other hc]⟩
theorem LinesTold.done {t : Word} {lines : List Word} {line : Word} (h : LinesTold t t lines line) : linesOf t [] = if line = [] then lines else lines ++ [line] := by
 rw [h.eq [] (List.append_nil t).symm, linesOf_end]
 by_cases e : line = []
 ·rw [if_pos e, if_pos e, List.append_nil]
 ·rw [if_neg e, if_neg e]
theorem linesOf_len : ∀ (t w : Word), (linesOf t w).length ≤ t.length + 1 ∧ ∀ l ∈ linesOf t w, l.length ≤ t.length + w.length
 | [], w => by
  rw [linesOf_end]
  by_cases e : w = []
  ·rw [if_pos e]; exact ⟨Nat.zero_le _, fun _ h => (nomatch h)⟩
  ·rw [if_neg e]; exact ⟨Nat.le_refl _, fun l h => by rw [List.mem_singleton.mp h]; omega⟩
 | c :: r, w => by
  by_cases e : c = 10
  ·subst e
   rw [linesOf_lf]
   have ih := linesOf_len r []
   refine ⟨by simp only [List.length_cons]; omega, fun l hl => ?_⟩
   rcases List.mem_cons.mp hl with q | q
   ·rw [q]; omega
   ·have := ih.2 l q; simp only [List.length_cons, List.length_nil] at *; omega
  ·rw [linesOf_other e]
   have ih := linesOf_len r (w ++ [c])
   refine ⟨by simp only [List.length_cons]; omega, fun l hl => ?_⟩
   have := ih.2 l hl
   simp only [List.length_append, List.length_cons, List.length_nil] at *; omega
def wrongOf (ls : List Word) : Nat := match ls with
 | [] => 1
 | d :: r => if d ≠ [52] ∧ d ≠ [54] then 1 else match r with
  | [] => 2
  | w :: r => if wordOk w = false then 2 else match rulesOf 3 r [] with
   | .error k => k
   | .ok _ => 0
theorem rulesOf_err : ∀ (ls : List Word) (k : Nat) (l : List (Nat × Word)) (e : Nat), rulesOf k ls l = .error e → k ≤ e
 | [], k, l, e, h => by unfold rulesOf at h; cases h
 | b :: r, k, l, e, h => by
  unfold rulesOf at h
  cases q : ruleOf b with
  | none => rw [q] at h; cases h; exact Nat.le_refl _
  | some y =>
   rw [q] at h
   dsimp only at h
   by_cases hy : l.any (fun z => z.1 == y.1) = true
   ·rw [if_pos hy] at h; cases h; exact Nat.le_refl _
   ·rw [if_neg hy] at h
    have := rulesOf_err r (k + 1) _ e h
    omega
theorem read_wrong (t : Word) (h : 0 < wrongOf (linesOf t [])) : Kg35.read t = .error (wrongOf (linesOf t [])) := by
 unfold Kg35.read
 unfold wrongOf at h ⊢
 cases e : linesOf t [] with
 | nil => rfl
 | cons d r =>
  rw [e] at h
  dsimp only at h ⊢
  by_cases hd : d ≠ [52] ∧ d ≠ [54]
  ·rw [if_pos hd, if_pos hd]
  ·rw [if_neg hd] at h ⊢
   rw [if_neg hd]
   cases r with
   | nil => rfl
   | cons w r =>
    dsimp only at h ⊢
    by_cases hw : wordOk w = false
    ·rw [if_pos hw, if_pos hw]
    ·rw [if_neg hw] at h ⊢
     rw [if_neg hw]
     cases q : rulesOf 3 r [] with
     | error k => rfl
     | ok l => rw [q] at h; exact absurd h (Nat.lt_irrefl 0)
theorem read_right (t : Word) (h : wrongOf (linesOf t []) = 0) : ∃ d w r l, linesOf t [] = d :: w :: r ∧ (d = [52] ∨ d = [54]) ∧ wordOk w = true ∧ rulesOf 3 r [] = .ok l ∧ Kg35.read t = .ok ⟨d.headD 0 - 48, w, l⟩ := by
 unfold Kg35.read
 unfold wrongOf at h
 cases e : linesOf t [] with
 | nil => rw [e] at h; cases h
 | cons d r =>
  rw [e] at h
  dsimp only at h ⊢
  by_cases hd : d ≠ [52] ∧ d ≠ [54]
  ·rw [if_pos hd] at h; cases h
  ·rw [if_neg hd] at h
   rw [if_neg hd]
   cases r with
   | nil => cases h
   | cons w r =>
    dsimp only at h ⊢
    by_cases hw : wordOk w = false
    ·rw [if_pos hw] at h; cases h
    ·rw [if_neg hw] at h
     rw [if_neg hw]
     cases q : rulesOf 3 r [] with
     | error k =>
      rw [q] at h
      have := rulesOf_err r 3 [] k q
      dsimp only at h
      omega
     | ok l =>
      refine ⟨d, w, r, l, rfl, ?_, by simpa using hw, q, rfl⟩
      by_cases e1 : d = [52]
      ·exact .inl e1
      ·by_cases e2 : d = [54]
       ·exact .inr e2
       ·exact absurd ⟨e1, e2⟩ hd
def isRuleB (b : Word) : Bool := (ruleOf b).isSome
theorem ruleOf_eq (b : Word) : ruleOf b = if 2 ≤ b.length ∧ isLetter (b.headD 0) = true ∧ (b.drop 1).headD 0 = 61 ∧ wordOk (b.drop 2) = true then some (b.headD 0, b.drop 2) else none := by
 match b with
 | [] => rfl
 | [c] => rw [if_neg (by simp)]; rfl
 | c :: e :: w =>
  by_cases h : e = 61
  ·subst h
   show (if isLetter c = true ∧ wordOk w = true then some (c, w) else none) = _
   by_cases q : isLetter c = true ∧ wordOk w = true
   ·rw [if_pos q, if_pos ⟨by simp, q.1, rfl, q.2⟩]; rfl
   ·rw [if_neg q, if_neg fun z => q ⟨z.2.1, z.2.2.2⟩]
  ·have e1 : ruleOf (c :: e :: w) = none := by
    unfold ruleOf
    split
    ·rename_i heq; cases heq; exact absurd rfl h
    ·rfl
   rw [e1, if_neg fun z => h z.2.2.1]
structure RulesTold (r : List Word) (i : Nat) (l : List (Nat × Word)) : Prop where
 eq : rulesOf 3 r [] = rulesOf (3 + i) (r.drop i) l
 len : l.length = i
 nd : (l.map (·.1)).Nodup
 at_ : ∀ (j : Nat) (p : Nat × Word), l[j]? = some p → ∃ b, r[j]? = some b ∧ ruleOf b = some p
theorem RulesTold.start (r : List Word) : RulesTold r 0 [] := ⟨rfl, rfl, List.nodup_nil, fun j p h => by simp at h⟩
theorem RulesTold.bad {r : List Word} {i : Nat} {l : List (Nat × Word)} {b : Word} (h : RulesTold r i l) (hb : r[i]? = some b) (q : ruleOf b = none) : rulesOf 3 r [] = .error (3 + i) := by
 rw [h.eq]
 obtain ⟨hi, e⟩ := List.getElem?_eq_some_iff.mp hb
 rw [List.drop_eq_getElem_cons hi, e]
 unfold rulesOf
 rw [q]
theorem RulesTold.twice {r : List Word} {i : Nat} {l : List (Nat × Word)} {b : Word} {p : Nat × Word} (h : RulesTold r i l) (hb : r[i]? = some b) (q : ruleOf b = some p) (m : p.1 ∈ l.map (·.1)) : rulesOf 3 r [] = .error (3 + i) := by
 rw [h.eq]
 obtain ⟨hi, e⟩ := List.getElem?_eq_some_iff.mp hb
 rw [List.drop_eq_getElem_cons hi, e]
 unfold rulesOf
 rw [q]
 dsimp only
 rw [if_pos]
 obtain ⟨y, hy, e⟩ := List.mem_map.mp m
 exact List.any_eq_true.mpr ⟨y, hy, by rw [e]; exact beq_self_eq_true _⟩
theorem RulesTold.next {r : List Word} {i : Nat} {l : List (Nat × Word)} {b : Word} {p : Nat × Word} (h : RulesTold r i l) (hb : r[i]? = some b) (q : ruleOf b = some p) (m : p.1 ∉ l.map (·.1)) : RulesTold r (i + 1) (l ++ [p]) := by
 obtain ⟨hi, e⟩ := List.getElem?_eq_some_iff.mp hb
 refine ⟨?_, by rw [List.length_append, h.len]; rfl, ?_, fun j p' hp => ?_⟩
 ·rw [h.eq, List.drop_eq_getElem_cons hi, e]
  conv => lhs; unfold rulesOf
  rw [q]
  dsimp only
  rw [if_neg]
  ·rw [Nat.add_assoc]
  ·intro z
   obtain ⟨y, hy, e⟩ := List.any_eq_true.mp z
   exact m (List.mem_map.mpr ⟨y, hy, eq_of_beq e⟩)
 ·rw [List.map_append, List.nodup_append]
  refine ⟨h.nd, by simp, fun a ha c hc => ?_⟩
  rw [List.map_cons, List.map_nil, List.mem_singleton] at hc
  intro z; rw [z, hc] at ha; exact m ha
 ·by_cases hj : j < l.length
  ·rw [List.getElem?_append_left hj] at hp
   exact h.at_ j p' hp
  ·rw [List.getElem?_append_right (by omega)] at hp
   have : j - l.length = 0 := by
    have := List.getElem?_eq_some_iff.mp hp
    obtain ⟨z, _⟩ := this
    simp at z; omega
   rw [this] at hp
   have ep : p = p' := by simpa using hp
   have ej : j = i := by have := h.len; omega
   rw [ej, ← ep]
   exact ⟨b, hb, q⟩
theorem RulesTold.done {r : List Word} {l : List (Nat × Word)} (h : RulesTold r r.length l) : rulesOf 3 r [] = .ok l := by
 rw [h.eq, List.drop_length]
 rfl
theorem rulesOf_told : ∀ (n : Nat) (r : List Word) (i : Nat) (l m : List (Nat × Word)), r.length - i = n → i ≤ r.length → RulesTold r i l → rulesOf 3 r [] = .ok m → RulesTold r r.length m
 | 0, r, i, l, m, hn, hi, h, e => by
  have : i = r.length := by omega
  subst this
  rw [h.done] at e
  cases e; exact h
 | n + 1, r, i, l, m, hn, hi, h, e => by
  have hl : i < r.length := by omega
  have hb : r[i]? = some r[i] := List.getElem?_eq_getElem hl
  cases q : ruleOf r[i] with
  | none => rw [h.bad hb q] at e; cases e
  | some p =>
   by_cases hm : p.1 ∈ l.map (·.1)
   ·rw [h.twice hb q hm] at e; cases e
   ·exact rulesOf_told n r (i + 1) _ m (by omega) (by omega) (h.next hb q hm) e
theorem rules_told {r : List Word} {l : List (Nat × Word)} (e : rulesOf 3 r [] = .ok l) : RulesTold r r.length l :=
 rulesOf_told _ r 0 [] l rfl (Nat.zero_le _) (.start r) e
def tsum (g : Nat → Nat) (l : List (Nat × Nat)) : Nat := (l.map fun p => p.2 * g p.1).sum
def getN (l : List (Nat × Nat)) (c d : Nat) : Nat := ((l.find? fun p => decide (p.1 = c)).map (·.2)).getD d
def putN (l : List (Nat × Nat)) (c v : Nat) : List (Nat × Nat) := if l.any (fun p => decide (p.1 = c)) = true then l.map (fun p => if p.1 = c then (c, v) else p) else l ++ [(c, v)]
theorem tsum_append (g : Nat → Nat) (l m : List (Nat × Nat)) : tsum g (l ++ m) = tsum g l + tsum g m := by simp [tsum]
theorem tsum_cons (g : Nat → Nat) (p : Nat × Nat) (l : List (Nat × Nat)) : tsum g (p :: l) = p.2 * g p.1 + tsum g l := by simp [tsum]
theorem map_other (c v : Nat) : ∀ (l : List (Nat × Nat)), c ∉ l.map (·.1) → l.map (fun p => if p.1 = c then (c, v) else p) = l
 | [], _ => rfl
 | p :: l, h => by
  rw [List.map_cons, List.mem_cons] at h
  rw [List.map_cons, if_neg fun z => h (.inl z.symm), map_other c v l fun z => h (.inr z)]
theorem any_iff {l : List (Nat × Nat)} {c : Nat} : l.any (fun p => decide (p.1 = c)) = true ↔ c ∈ l.map (·.1) := by
 rw [List.any_eq_true, List.mem_map]
 constructor
 ·rintro ⟨p, hp, e⟩; exact ⟨p, hp, of_decide_eq_true e⟩
 ·rintro ⟨p, hp, e⟩; exact ⟨p, hp, decide_eq_true e⟩
theorem getN_none {l : List (Nat × Nat)} {c : Nat} (d : Nat) (h : c ∉ l.map (·.1)) : getN l c d = d := by
 unfold getN
 have : l.find? (fun p => decide (p.1 = c)) = none := by
  rw [List.find?_eq_none]
  intro p hp z
  exact h (List.mem_map.mpr ⟨p, hp, of_decide_eq_true z⟩)
 rw [this]; rfl
theorem getN_cons (p : Nat × Nat) (l : List (Nat × Nat)) (c d : Nat) : getN (p :: l) c d = if p.1 = c then p.2 else getN l c d := by
 unfold getN
 rw [List.find?_cons]
 by_cases h : p.1 = c
 ·rw [if_pos h, decide_eq_true h]; rfl
 ·rw [if_neg h, decide_eq_false h]
theorem put_keys (l : List (Nat × Nat)) (c v : Nat) : (putN l c v).map (·.1) = if c ∈ l.map (·.1) then l.map (·.1) else l.map (·.1) ++ [c] := by
 unfold putN
 by_cases h : c ∈ l.map (·.1)
 ·rw [if_pos (any_iff.mpr h), if_pos h, List.map_map]
  refine List.map_congr_left fun p _ => ?_
  show (if p.1 = c then (c, v) else p).1 = p.1
  by_cases e : p.1 = c
  ·rw [if_pos e, e]
  ·rw [if_neg e]
 ·rw [if_neg (fun z => h (any_iff.mp z)), if_neg h, List.map_append]; rfl
theorem put_nodup {l : List (Nat × Nat)} (c v : Nat) (h : (l.map (·.1)).Nodup) : ((putN l c v).map (·.1)).Nodup := by
 rw [put_keys]
 by_cases q : c ∈ l.map (·.1)
 ·rw [if_pos q]; exact h
 ·rw [if_neg q, List.nodup_append]
  refine ⟨h, by simp, fun a ha b hb => ?_⟩
  rw [List.mem_singleton.mp hb]
  intro z; rw [z] at ha; exact q ha
theorem tsum_put (g : Nat → Nat) (c v : Nat) : ∀ {l : List (Nat × Nat)}, (l.map (·.1)).Nodup → tsum g (putN l c (getN l c 0 + v)) = tsum g l + v * g c
 | l, h => by
  by_cases q : c ∈ l.map (·.1)
  ·have gen : ∀ (l : List (Nat × Nat)) (z : Nat), (l.map (·.1)).Nodup → c ∈ l.map (·.1) → tsum g (l.map fun p => if p.1 = c then (c, getN l c 0 + v) else p) = tsum g l + v * g c := by
    intro l
    induction l with
    | nil => intro _ _ h; exact (nomatch h)
    | cons p l ih =>
     intro z hn hm
     rw [List.map_cons, List.nodup_cons] at hn
     rw [List.map_cons, List.mem_cons] at hm
     rw [List.map_cons, getN_cons]
     by_cases e : p.1 = c
     ·rw [if_pos e, if_pos e, tsum_cons, tsum_cons, map_other c _ l (by rw [← e]; exact hn.1)]
      dsimp only
      rw [e, Nat.add_mul]; omega
     ·rw [if_neg e, if_neg e, tsum_cons, tsum_cons, ih z hn.2 (hm.resolve_left fun z => e z.symm)]
      omega
   unfold putN
   rw [if_pos (any_iff.mpr q)]
   exact gen l 0 h q
  ·unfold putN
   rw [if_neg (fun z => q (any_iff.mp z)), tsum_append, getN_none 0 q]
   simp [tsum]
structure Tal (l : List (Nat × Nat)) (w : Word) : Prop where
 nd : (l.map (·.1)).Nodup
 sum : ∀ g, tsum g l = wsum g w
theorem Tal.nil : Tal [] [] := ⟨List.nodup_nil, fun _ => rfl⟩
theorem Tal.snoc {l : List (Nat × Nat)} {w : Word} (h : Tal l w) (c : Nat) : Tal (putN l c (getN l c 0 + 1)) (w ++ [c]) :=
 ⟨put_nodup _ _ h.nd, fun g => by rw [tsum_put g c 1 h.nd, h.sum, wsum_append]; simp [wsum]⟩
theorem tsum_is {l : List (Nat × Nat)} (h : (l.map (·.1)).Nodup) (c : Nat) : tsum (fun e => if e = c then 1 else 0) l = getN l c 0 := by
 induction l with
 | nil => rfl
 | cons p l ih =>
  rw [List.map_cons, List.nodup_cons] at h
  rw [tsum_cons, getN_cons]
  by_cases e : p.1 = c
  ·rw [if_pos e, if_pos e, Nat.mul_one]
   have : tsum (fun e => if e = c then 1 else 0) l = 0 := by rw [ih h.2, getN_none 0 (by rw [← e]; exact h.1)]
   rw [this, Nat.add_zero]
  ·rw [if_neg e, if_neg e, Nat.mul_zero, Nat.zero_add, ih h.2]
theorem Tal.get {l : List (Nat × Nat)} {w : Word} (h : Tal l w) (c : Nat) : getN l c 0 = w.count c := by
 rw [← tsum_is h.nd, h.sum, wsum_is]
theorem Tal.len {l : List (Nat × Nat)} {w : Word} (h : Tal l w) : (l.map (·.2)).sum = w.length := by
 rw [← wsum_one, ← h.sum]
 unfold tsum
 congr 1
 exact List.map_congr_left fun p _ => (Nat.mul_one _).symm
structure TalG (x : Rules) (m : List (Nat × Nat)) (i : Nat) (l : List (Nat × Nat)) : Prop where
 nd : (l.map (·.1)).Nodup
 sum : ∀ g, tsum g l = tsum (fun s => wsum g (x.of s)) (m.take i)
structure TalA (l0 more : List (Nat × Nat)) (times i : Nat) (l : List (Nat × Nat)) : Prop where
 nd : (l.map (·.1)).Nodup
 sum : ∀ g, tsum g l = tsum g l0 + times * tsum g (more.take i)
theorem take_snoc' {α : Type} {l : List α} {i : Nat} {x : α} (h : l[i]? = some x) : l.take (i + 1) = l.take i ++ [x] := by
 obtain ⟨hi, e⟩ := List.getElem?_eq_some_iff.mp h
 rw [List.take_succ_eq_append_getElem hi, e]
theorem TalA.start {l0 : List (Nat × Nat)} (more : List (Nat × Nat)) (times : Nat) (h : (l0.map (·.1)).Nodup) : TalA l0 more times 0 l0 := ⟨h, fun g => by simp [tsum]⟩
theorem TalA.next {l0 more l : List (Nat × Nat)} {times i : Nat} {p : Nat × Nat} (h : TalA l0 more times i l) (hp : more[i]? = some p) : TalA l0 more times (i + 1) (putN l p.1 (getN l p.1 0 + p.2 * times)) :=
 ⟨put_nodup _ _ h.nd, fun g => by
  rw [tsum_put g _ _ h.nd, h.sum, take_snoc' hp, tsum_append, tsum_cons, Nat.mul_add, Nat.add_assoc]
  congr 2
  show p.2 * times * g p.1 = times * (p.2 * g p.1 + 0)
  rw [Nat.add_zero, Nat.mul_comm p.2 times, Nat.mul_assoc]⟩
theorem TalG.start (x : Rules) (m : List (Nat × Nat)) : TalG x m 0 [] := ⟨List.nodup_nil, fun g => by simp [tsum]⟩
theorem TalG.next {x : Rules} {m l more l' : List (Nat × Nat)} {i : Nat} {p : Nat × Nat} (h : TalG x m i l) (hp : m[i]? = some p) (hm : Tal more (x.of p.1)) (ha : TalA l more p.2 more.length l') : TalG x m (i + 1) l' :=
 ⟨ha.nd, fun g => by
  rw [ha.sum, h.sum, take_snoc' hp, tsum_append, List.take_length, hm.sum, tsum_cons]
  rfl⟩
theorem TalG.done {x : Rules} {m l : List (Nat × Nat)} {w : Word} (h : TalG x m m.length l) (hm : Tal m w) : Tal l (w.flatMap x.of) :=
 ⟨h.nd, fun g => by rw [h.sum, List.take_length, hm.sum, wsum_flat]; rfl⟩
theorem Tal.one (c : Nat) : Tal [(c, 1)] [c] := ⟨by simp, fun g => by simp [tsum, wsum]⟩
theorem Tal.mem {l : List (Nat × Nat)} {w : Word} (h : Tal l w) {p : Nat × Nat} (hp : p ∈ l) : p.2 ≤ w.length := by
 rw [← h.len]
 have : ∀ (l : List Nat) (a : Nat), a ∈ l → a ≤ l.sum := by
  intro l
  induction l with
  | nil => intro a h; exact (nomatch h)
  | cons z l ih =>
   intro a h
   rw [List.sum_cons]
   rcases List.mem_cons.mp h with e | h
   ·omega
   ·have := ih a h; omega
 exact this _ _ (List.mem_map.mpr ⟨p, hp, rfl⟩)
end Gw
end
section
namespace Gw
open Kg35
def refusal (s : Kg35.State) (n : Int) : Int := match s with
 | none => -9
 | some x => if n < 0 ∨ 64 < n then -8 else if x.allFit n.toNat = false then -6 else 0
theorem refusal_some (x : Kg35.Rules) (n : Int) : refusal (some x) n = if n < 0 ∨ 64 < n then -8 else if x.allFit n.toNat = false then -6 else 0 := rfl
theorem asked_refused {s : Kg35.State} {n : Int} (f : Rules → Nat → Ans) (h : refusal s n < 0) : Kg35.asked s n f = num (refusal s n) := by
 unfold Kg35.asked
 cases s with
 | none => rfl
 | some x =>
  rw [refusal_some] at h ⊢
  dsimp only
  by_cases h1 : n < 0 ∨ 64 < n
  ·rw [if_pos h1, if_pos h1]
  ·rw [if_neg h1] at h ⊢
   rw [if_neg h1]
   by_cases h2 : x.allFit n.toNat = false
   ·rw [if_pos h2, if_pos h2]
   ·rw [if_neg h2] at h; exact absurd h (by decide)
theorem asked_told {x : Rules} {n : Int} (f : Rules → Nat → Ans) (h : ¬ refusal (some x) n < 0) : Kg35.asked (some x) n f = f x n.toNat ∧ 0 ≤ n ∧ n ≤ 64 ∧ x.allFit n.toNat = true := by
 rw [refusal_some] at h
 unfold Kg35.asked
 dsimp only
 by_cases h1 : n < 0 ∨ 64 < n
 ·rw [if_pos h1] at h; exact absurd (by decide) h
 ·rw [if_neg h1] at h ⊢
  by_cases h2 : x.allFit n.toNat = false
  ·rw [if_pos h2] at h; exact absurd (by decide) h
  ·rw [if_neg h2]
   exact ⟨rfl, by omega, by omega, by simpa using h2⟩
theorem stepA_part_below {s : Kg35.State} {n f m : Int} (h : f < 0 ∨ m < 0) : stepA s (.part n f m) = (s, [-8]) := by
 have e : does s (.part n f m) = (s, num (-8)) := by
  show (s, if f < 0 ∨ m < 0 then num (-8) else _) = _
  rw [if_pos h]
 show ((does s (.part n f m)).1, (does s (.part n f m)).2.value :: (does s (.part n f m)).2.out) = _
 rw [e]; rfl
theorem stepA_part_refused {s : Kg35.State} {n f m : Int} (h : ¬ (f < 0 ∨ m < 0)) (hr : refusal s n < 0) : stepA s (.part n f m) = (s, [refusal s n]) := by
 have e : does s (.part n f m) = (s, num (refusal s n)) := by
  show (s, if f < 0 ∨ m < 0 then num (-8) else _) = _
  rw [if_neg h, asked_refused _ hr]
 show ((does s (.part n f m)).1, (does s (.part n f m)).2.value :: (does s (.part n f m)).2.out) = _
 rw [e]; rfl
theorem stepA_part {x : Rules} (g : Good x) {n f m : Int} (h : ¬ (f < 0 ∨ m < 0)) (hr : ¬ refusal (some x) n < 0) :
  stepA (some x) (.part n f m) = (some x, ((((x.word n.toNat).drop f.toNat).take m.toNat).length : Int) :: (((x.word n.toNat).drop f.toNat).take m.toNat).map fun (c : Nat) => (c : Int)) := by
 have e : does (some x) (.part n f m) = (some x, ⟨(x.stretch n.toNat f.toNat m.toNat).length, Kg35.ints (x.stretch n.toNat f.toNat m.toNat)⟩) := by
  show (some x, if f < 0 ∨ m < 0 then num (-8) else _) = _
  rw [if_neg h, (asked_told _ hr).1]
 show ((does (some x) (.part n f m)).1, (does (some x) (.part n f m)).2.value :: (does (some x) (.part n f m)).2.out) = _
 rw [e, stretch_eq g]; rfl
theorem stepA_walk_refused {s : Kg35.State} {n : Int} (hr : refusal s n < 0) : stepA s (.walk n) = (s, [refusal s n]) := by
 have e : does s (.walk n) = (s, num (refusal s n)) := by
  show (s, Kg35.asked s n _) = _
  rw [asked_refused _ hr]
 show ((does s (.walk n)).1, (does s (.walk n)).2.value :: (does s (.walk n)).2.out) = _
 rw [e]; rfl
def legInts (p : Leg) : List Int := [p.x, p.y, (p.d : Int), p.lx, p.ly, p.hx, p.hy]
theorem stepA_walk {x : Rules} (g : Good x) {n : Int} (hr : ¬ refusal (some x) n < 0) : stepA (some x) (.walk n) = (some x, 0 :: legInts (legOf x.turns (x.word n.toNat) 0)) := by
 have e : does (some x) (.walk n) = (some x, ⟨0, legInts (x.trip n.toNat)⟩) := by
  show (some x, Kg35.asked (some x) n _) = _
  rw [(asked_told _ hr).1]; rfl
 show ((does (some x) (.walk n)).1, (does (some x) (.walk n)).2.value :: (does (some x) (.walk n)).2.out) = _
 rw [e, trip_eq g]
def dots (p : Pen) (x0 y0 : Int) (w h : Nat) : List Int := (List.range h).flatMap fun (j : Nat) => (List.range w).map fun (i : Nat) => if (x0 + (i : Int), y0 + (j : Int)) ∈ p.drawn then 1 else 0
theorem dots_eq (p : Pen) (x0 y0 : Int) (w h : Nat) : ((List.range h).flatMap fun (j : Nat) => let l := (p.drawn.filter fun q => q.2 == y0 + (j : Int)).map fun q => q.1
  (List.range w).map fun (i : Nat) => if l.contains (x0 + (i : Int)) = true then (1 : Int) else 0) = dots p x0 y0 w h := by
 unfold dots
 congr 1
 funext j
 dsimp only
 refine List.map_congr_left fun i _ => ?_
 have e : (((p.drawn.filter fun q => q.2 == y0 + (j : Int)).map fun q => q.1).contains (x0 + (i : Int)) = true) ↔ (x0 + (i : Int), y0 + (j : Int)) ∈ p.drawn := by
  rw [List.contains_iff_mem, List.mem_map]
  constructor
  ·rintro ⟨q, hq, e⟩
   obtain ⟨h1, h2⟩ := List.mem_filter.mp hq
   have : q = (x0 + (i : Int), y0 + (j : Int)) := Prod.ext e (eq_of_beq h2)
   rwa [this] at h1
  ·intro h
   exact ⟨_, List.mem_filter.mpr ⟨h, beq_self_eq_true _⟩, rfl⟩
 by_cases q : (x0 + (i : Int), y0 + (j : Int)) ∈ p.drawn
 ·rw [if_pos (e.mpr q), if_pos q]
 ·rw [if_neg fun z => q (e.mp z), if_neg q]
theorem stepA_picture_below {s : Kg35.State} {n x0 y0 w h : Int} (hw : w < 1 ∨ h < 1 ∨ 1024 < w ∨ 1024 < h) : stepA s (.picture n x0 y0 w h) = (s, [-8]) := by
 have e : does s (.picture n x0 y0 w h) = (s, num (-8)) := by
  show (s, if w < 1 ∨ h < 1 ∨ 1024 < w ∨ 1024 < h then num (-8) else _) = _
  rw [if_pos hw]
 show ((does s (.picture n x0 y0 w h)).1, (does s (.picture n x0 y0 w h)).2.value :: (does s (.picture n x0 y0 w h)).2.out) = _
 rw [e]; rfl
theorem stepA_picture_refused {s : Kg35.State} {n x0 y0 w h : Int} (hw : ¬ (w < 1 ∨ h < 1 ∨ 1024 < w ∨ 1024 < h)) (hr : refusal s n < 0) : stepA s (.picture n x0 y0 w h) = (s, [refusal s n]) := by
 have e : does s (.picture n x0 y0 w h) = (s, num (refusal s n)) := by
  show (s, if w < 1 ∨ h < 1 ∨ 1024 < w ∨ 1024 < h then num (-8) else _) = _
  rw [if_neg hw, asked_refused _ hr]
 show ((does s (.picture n x0 y0 w h)).1, (does s (.picture n x0 y0 w h)).2.value :: (does s (.picture n x0 y0 w h)).2.out) = _
 rw [e]; rfl
theorem stepA_picture_long {x : Rules} (g : Good x) {n x0 y0 w h : Int} (hw : ¬ (w < 1 ∨ h < 1 ∨ 1024 < w ∨ 1024 < h)) (hr : ¬ refusal (some x) n < 0) (hl : 2 ^ 24 ≤ (x.word n.toNat).length) : stepA (some x) (.picture n x0 y0 w h) = (some x, [-6]) := by
 have e : does (some x) (.picture n x0 y0 w h) = (some x, num (-6)) := by
  show (some x, if w < 1 ∨ h < 1 ∨ 1024 < w ∨ 1024 < h then num (-8) else _) = _
  rw [if_neg hw, (asked_told _ hr).1]
  dsimp only
  rw [count_eq g, if_pos hl]
 show ((does (some x) (.picture n x0 y0 w h)).1, (does (some x) (.picture n x0 y0 w h)).2.value :: (does (some x) (.picture n x0 y0 w h)).2.out) = _
 rw [e]; rfl
theorem stepA_picture {x : Rules} (g : Good x) {n x0 y0 w h : Int} (hw : ¬ (w < 1 ∨ h < 1 ∨ 1024 < w ∨ 1024 < h)) (hr : ¬ refusal (some x) n < 0) (hl : ¬ 2 ^ 24 ≤ (x.word n.toNat).length) :
  stepA (some x) (.picture n x0 y0 w h) = (some x, 0 :: dots (x.walk n.toNat) x0 y0 w.toNat h.toNat) := by
 have e : does (some x) (.picture n x0 y0 w h) = (some x, ⟨0, dots (x.walk n.toNat) x0 y0 w.toNat h.toNat⟩) := by
  show (some x, if w < 1 ∨ h < 1 ∨ 1024 < w ∨ 1024 < h then num (-8) else _) = _
  rw [if_neg hw, (asked_told _ hr).1]
  dsimp only
  rw [count_eq g, if_neg hl, ← dots_eq]
 show ((does (some x) (.picture n x0 y0 w h)).1, (does (some x) (.picture n x0 y0 w h)).2.value :: (does (some x) (.picture n x0 y0 w h)).2.out) = _
 rw [e]
theorem short_picture {x : Rules} (g : Good x) {n x0 y0 w h : Int} (hs : (Ask.picture n x0 y0 w h).short (some x)) (hw : ¬ (w < 1 ∨ h < 1 ∨ 1024 < w ∨ 1024 < h)) (hr : ¬ refusal (some x) n < 0) (hl : ¬ 2 ^ 24 ≤ (x.word n.toNat).length) : (x.word n.toNat).length ≤ 20000 := by
 have e : (does (some x) (.long n)).2.value = ((x.word n.toNat).length : Int) := by
  have e2 : (does (some x) (.long n)).2 = num (x.count n.toNat) := by
   show Kg35.asked (some x) n (fun x n => num (x.count n)) = _
   exact (asked_told _ hr).1
  rw [e2, count_eq g]; rfl
 have hs : (does (some x) (.long n)).2.value ≤ 20000 ∨ 2 ^ 24 ≤ (does (some x) (.long n)).2.value ∨ w < 1 ∨ 1024 < w ∨ h < 1 ∨ 1024 < h := hs
 rw [e] at hs
 omega
end Gw
end
section
namespace Gw
open Kg35
def rot (t : Nat) (q : Int × Int) : Int × Int := (-q.2, if t = 4 then q.1 else q.1 + q.2)
def rot3 (t : Nat) (q : Int × Int × Nat) : Int × Int × Nat := (-q.2.1, if t = 4 then q.1 else q.1 + q.2.1, (q.2.2 + 1) % t)
structure Rot (t : Nat) (p q : Pen) : Prop where
 x : q.x = -p.y
 y : q.y = if t = 4 then p.x else p.x + p.y
 d : q.d = (p.d + 1) % t
 back : q.back = p.back.map (rot3 t)
 been : q.been = p.been.map (rot t)
def Turns (t : Nat) : Prop := t = 4 ∨ t = 6
theorem way_rot {t d : Nat} (ht : Turns t) (h : d < t) : way t ((d + 1) % t) = rot t (way t d) := by
 rcases ht with rfl | rfl
 ·have : d = 0 ∨ d = 1 ∨ d = 2 ∨ d = 3 := by omega
  rcases this with rfl | rfl | rfl | rfl <;> decide
 ·have : d = 0 ∨ d = 1 ∨ d = 2 ∨ d = 3 ∨ d = 4 ∨ d = 5 := by omega
  rcases this with rfl | rfl | rfl | rfl | rfl | rfl <;> decide
theorem Rot.step {t : Nat} (ht : Turns t) {p q : Pen} (c : Nat) (r : Rot t p q) (h : p.d < t) : Rot t (p.step t c) (q.step t c) := by
 obtain ⟨rx, ry, rd, rb, rn⟩ := r
 have hw : way t q.d = rot t (way t p.d) := by rw [rd]; exact way_rot ht h
 have hx : q.x + (way t q.d).1 = -(p.y + (way t p.d).2) := by rw [hw, rx]; show -p.y + -(way t p.d).2 = _; omega
 have hy : q.y + (way t q.d).2 = if t = 4 then p.x + (way t p.d).1 else (p.x + (way t p.d).1) + (p.y + (way t p.d).2) := by
  rw [hw, ry]
  show (if t = 4 then p.x else p.x + p.y) + (if t = 4 then (way t p.d).1 else (way t p.d).1 + (way t p.d).2) = _
  by_cases e : t = 4
  ·rw [if_pos e, if_pos e, if_pos e]
  ·rw [if_neg e, if_neg e, if_neg e]; omega
 have ht0 : t = 4 ∨ t = 6 := ht
 have go : ∀ dr dr', Rot t ⟨p.x + (way t p.d).1, p.y + (way t p.d).2, p.d, p.back, (p.x + (way t p.d).1, p.y + (way t p.d).2) :: p.been, dr⟩ ⟨q.x + (way t q.d).1, q.y + (way t q.d).2, q.d, q.back, (q.x + (way t q.d).1, q.y + (way t q.d).2) :: q.been, dr'⟩ := fun dr dr' => by
  refine ⟨hx, hy, rd, rb, ?_⟩
  show (q.x + (way t q.d).1, q.y + (way t q.d).2) :: q.been = _
  rw [hx, hy, rn]; rfl
 unfold Pen.step
 dsimp only
 by_cases c1 : isBig c = true
 ·rw [if_pos c1, if_pos c1]; exact go _ _
 rw [if_neg c1, if_neg c1]
 by_cases c2 : c = 46
 ·rw [if_pos c2, if_pos c2]; exact go _ _
 rw [if_neg c2, if_neg c2]
 by_cases c3 : c = 43
 ·rw [if_pos c3, if_pos c3]
  refine ⟨rx, ry, ?_, rb, rn⟩
  show (q.d + 1) % t = ((p.d + 1) % t + 1) % t
  rw [rd]
 rw [if_neg c3, if_neg c3]
 by_cases c4 : c = 45
 ·rw [if_pos c4, if_pos c4]
  refine ⟨rx, ry, ?_, rb, rn⟩
  show (q.d + t - 1) % t = ((p.d + t - 1) % t + 1) % t
  rw [rd]
  rcases ht0 with rfl | rfl <;> omega
 rw [if_neg c4, if_neg c4]
 by_cases c5 : c = 124
 ·rw [if_pos c5, if_pos c5]
  refine ⟨rx, ry, ?_, rb, rn⟩
  show (q.d + t / 2) % t = ((p.d + t / 2) % t + 1) % t
  rw [rd]
  rcases ht0 with rfl | rfl <;> omega
 rw [if_neg c5, if_neg c5]
 by_cases c6 : c = 91
 ·rw [if_pos c6, if_pos c6]
  refine ⟨rx, ry, rd, ?_, rn⟩
  show (q.x, q.y, q.d) :: q.back = _
  rw [rx, ry, rd, rb]; rfl
 rw [if_neg c6, if_neg c6]
 by_cases c7 : c = 93
 ·rw [if_pos c7, if_pos c7]
  cases e : p.back with
  | nil =>
   rw [e] at rb
   rw [rb]
   refine ⟨rx, ry, rd, ?_, rn⟩
   show q.back = List.map (rot3 t) p.back
   rw [rb, e]
  | cons b r =>
   rw [e] at rb; rw [rb]
   exact ⟨rfl, rfl, rfl, rfl, rn⟩
 rw [if_neg c7, if_neg c7]
 exact ⟨rx, ry, rd, rb, rn⟩
theorem Turns.pos {t : Nat} (ht : Turns t) : 0 < t := by rcases ht with rfl | rfl <;> decide
theorem Rot.walk {t : Nat} (ht : Turns t) : ∀ (w : Word) {p q : Pen}, Rot t p q → p.d < t → (∀ z ∈ p.back, z.2.2 < t) → Rot t (w.foldl (Pen.step t) p) (w.foldl (Pen.step t) q)
 | [], _, _, r, _, _ => r
 | c :: w, p, q, r, h, hb => by
  rw [List.foldl_cons, List.foldl_cons]
  obtain ⟨h1, h2⟩ := step_d ht.pos c h hb
  exact Rot.walk ht w (r.step ht c h) h1 h2
def penOf (t : Nat) (w : Word) (d : Nat) : Pen := w.foldl (Pen.step t) (pen0 d)
theorem penOf_rot {t : Nat} (ht : Turns t) (w : Word) {d : Nat} (h : d < t) : Rot t (penOf t w d) (penOf t w ((d + 1) % t)) :=
 Rot.walk ht w ⟨rfl, by show (0 : Int) = if t = 4 then 0 else 0 + 0; by_cases e : t = 4 <;> simp [e], rfl, rfl, rfl⟩ h (fun _ z => (nomatch z))
theorem penOf_d {t : Nat} (ht : Turns t) (w : Word) {d : Nat} (h : d < t) : (penOf t w d).d < t := (walk_d ht.pos w (pen0 d) h (fun _ z => (nomatch z))).1
theorem penOf_turn {t : Nat} (ht : Turns t) (w : Word) : ∀ {d : Nat}, d < t → (penOf t w d).d = (d + (penOf t w 0).d) % t
 | 0, h => by rw [Nat.zero_add, Nat.mod_eq_of_lt (penOf_d ht w h)]
 | d + 1, h => by
  have r := penOf_rot ht w (d := d) (by omega)
  rw [Nat.mod_eq_of_lt h] at r
  rw [r.d, penOf_turn ht w (d := d) (by omega), Nat.mod_add_mod]
  congr 1; omega
structure Half (t : Nat) (p q : Pen) : Prop where
 x : q.x = -p.x
 y : q.y = -p.y
 been : q.been = p.been.map fun z => (-z.1, -z.2)
theorem penOf_half {t : Nat} (ht : Turns t) (w : Word) {d : Nat} (h : d < t) : Half t (penOf t w d) (penOf t w ((d + t / 2) % t)) := by
 have r1 := penOf_rot ht w h
 have h1 : (d + 1) % t < t := Nat.mod_lt _ ht.pos
 have r2 := penOf_rot ht w h1
 have h2 : ((d + 1) % t + 1) % t < t := Nat.mod_lt _ ht.pos
 rcases id ht with rfl | rfl
 ·have e : ((d + 1) % 4 + 1) % 4 = (d + 4 / 2) % 4 := by omega
  rw [e] at r2
  refine ⟨?_, ?_, ?_⟩
  ·rw [r2.x, r1.y]; rfl
  ·rw [r2.y, if_pos rfl, r1.x]
  ·rw [r2.been, r1.been, List.map_map]; rfl
 ·have r3 := penOf_rot ht w h2
  have e : (((d + 1) % 6 + 1) % 6 + 1) % 6 = (d + 6 / 2) % 6 := by omega
  rw [e] at r3
  refine ⟨?_, ?_, ?_⟩
  ·rw [r3.x, r2.y, if_neg (by decide), r1.x, r1.y, if_neg (by decide)]; omega
  ·rw [r3.y, if_neg (by decide), r2.x, r2.y, if_neg (by decide), r1.x, r1.y, if_neg (by decide)]; omega
  ·rw [r3.been, r2.been, r1.been, List.map_map, List.map_map]
   refine List.map_congr_left fun z _ => ?_
   show (-(-z.2 + (z.1 + z.2)), -(z.1 + z.2) + (-z.2 + (z.1 + z.2))) = (-z.1, -z.2)
   rw [Prod.mk.injEq]; constructor <;> omega
def wEnds (t : Nat) (w : Word) : List Int := (List.range t).map fun d => (legOf t w d).x
def wReach (t : Nat) (w : Word) : List Int := (List.range t).map fun d => (legOf t w d).hx
def wTurn (t : Nat) (w : Word) : Nat := (legOf t w 0).d
def wMoves (t : Nat) (w : Word) : Bool := (wReach t w).any fun z => decide (0 < z)
theorem most_neg (l : List Int) : most (l.map fun z => -z) = -least l := by
 unfold most least
 have : ∀ (l : List Int) (a : Int), (l.map fun z => -z).foldl max (-a) = -(l.foldl min a) := by
  intro l
  induction l with
  | nil => intro a; rfl
  | cons b l ih =>
   intro a
   rw [List.map_cons, List.foldl_cons, List.foldl_cons, ← ih]
   congr 1; omega
 exact this l 0
theorem legOf_x (t : Nat) (w : Word) (d : Nat) : (legOf t w d).x = (penOf t w d).x := rfl
theorem legOf_hx (t : Nat) (w : Word) (d : Nat) : (legOf t w d).hx = most ((penOf t w d).been.map (·.1)) := rfl
theorem legOf_turn {t : Nat} (ht : Turns t) (w : Word) {d : Nat} (h : d < t) : (legOf t w d).d = (d + wTurn t w) % t := penOf_turn ht w h
theorem rget (t : Nat) (f : Nat → Int) {d : Nat} (h : d < t) : ((List.range t).map f)[d]? = some (f d) := by
 rw [List.getElem?_map, List.getElem?_range h]; rfl
theorem wEnds_len (t : Nat) (w : Word) : (wEnds t w).length = t := by unfold wEnds; rw [List.length_map, List.length_range]
theorem wReach_len (t : Nat) (w : Word) : (wReach t w).length = t := by unfold wReach; rw [List.length_map, List.length_range]
theorem told_leg {t : Nat} (ht : Turns t) (w : Word) : ∃ e1 r0 r1 r2 r3, (wEnds t w)[0]? = some (legOf t w 0).x ∧ (wEnds t w)[1]? = some e1 ∧ (wReach t w)[t / 2]? = some r0 ∧ (wReach t w)[1]? = some r1 ∧ (wReach t w)[0]? = some r2 ∧ (wReach t w)[t / 2 + 1]? = some r3
  ∧ legInts (legOf t w 0) = [(legOf t w 0).x, -e1, (wTurn t w : Int), -r0, -r1, r2, r3] := by
 have h1 : 1 < t := by rcases ht with rfl | rfl <;> decide
 have h2 : t / 2 < t := by rcases ht with rfl | rfl <;> decide
 have h3 : t / 2 + 1 < t := by rcases ht with rfl | rfl <;> decide
 refine ⟨_, _, _, _, _, rget t _ ht.pos, rget t _ h1, rget t _ h2, rget t _ h1, rget t _ ht.pos, rget t _ h3, ?_⟩
 have R1 := penOf_rot ht w ht.pos
 rw [Nat.zero_add, Nat.mod_eq_of_lt h1] at R1
 have Hf := penOf_half ht w ht.pos
 rw [Nat.zero_add, Nat.mod_eq_of_lt h2] at Hf
 have R2 := penOf_rot ht w h2
 rw [Nat.mod_eq_of_lt h3] at R2
 have q1 : (legOf t w 1).x = -(legOf t w 0).y := R1.x
 have q2 : (legOf t w (t / 2)).hx = -(legOf t w 0).lx := by
  rw [legOf_hx, Hf.been, List.map_map]
  have := most_neg ((penOf t w 0).been.map (·.1))
  rw [List.map_map] at this
  exact this
 have q3 : (legOf t w 1).hx = -(legOf t w 0).ly := by
  rw [legOf_hx, R1.been, List.map_map]
  have := most_neg ((penOf t w 0).been.map (·.2))
  rw [List.map_map] at this
  exact this
 have q4 : (legOf t w (t / 2 + 1)).hx = (legOf t w 0).hy := by
  rw [legOf_hx, R2.been, Hf.been, List.map_map, List.map_map]
  show most _ = most _
  congr 1
  refine List.map_congr_left fun z _ => ?_
  show -(-z.2) = z.2
  omega
 unfold legInts
 rw [q1, q2, q3, q4, Int.neg_neg, Int.neg_neg, Int.neg_neg]
 rfl
theorem still {t : Nat} (ht : Turns t) {w : Word} (h : wMoves t w = false) {d : Nat} (hd : d < t) : (legOf t w d).x = 0 ∧ (legOf t w d).hx = 0 := by
 have z : ∀ d, d < t → (legOf t w d).hx = 0 := fun d hd => by
  unfold wMoves at h
  rw [List.any_eq_false] at h
  have hm : (legOf t w d).hx ∈ wReach t w := List.mem_of_getElem? (rget t (fun d => (legOf t w d).hx) hd)
  have h1 := h _ hm
  have h1 : ¬ 0 < (legOf t w d).hx := by simpa using h1
  have h2 : 0 ≤ (legOf t w d).hx := most_nonneg _
  omega
 have b : ∀ d, d < t → (legOf t w d).x ≤ 0 := fun d hd => by
  have i : InBox (penOf t w d) := InBox.walk w (InBox.pen0 d)
  have h1 := i.hx
  have h2 := z d hd
  rw [legOf_hx] at h2
  rw [legOf_x]; omega
 have hf := (penOf_half ht w hd).x
 have b2 := b ((d + t / 2) % t) (Nat.mod_lt _ ht.pos)
 rw [legOf_x, hf] at b2
 have b1 := b d hd
 refine ⟨?_, z d hd⟩
 rw [legOf_x] at b1 ⊢
 omega
theorem turned_row (t : Nat) (f : Nat → Int) {T : Nat} (h : T < t) : ((List.range t).map f).drop T ++ ((List.range t).map f).take T = (List.range t).map fun d => f ((d + T) % t) := by
 refine List.ext_getElem? fun d => ?_
 by_cases hd : d < t
 ·rw [rget t _ hd]
  by_cases h1 : d < t - T
  ·rw [List.getElem?_append_left (by rw [List.length_drop, List.length_map, List.length_range]; exact h1), List.getElem?_drop, rget t f (by omega), Nat.mod_eq_of_lt (by omega), Nat.add_comm]
  ·rw [List.getElem?_append_right (by rw [List.length_drop, List.length_map, List.length_range]; omega), List.length_drop, List.length_map, List.length_range, List.getElem?_take_of_lt (by omega), rget t f (by omega)]
   congr 2
   rw [Nat.mod_eq_sub_mod (by omega), Nat.mod_eq_of_lt (by omega)]; omega
 ·rw [List.getElem?_eq_none (by simp; omega), List.getElem?_eq_none (by simp; omega)]
theorem zip_row (t : Nat) (f g : Nat → Int) (op : Int → Int → Int) : List.zipWith op ((List.range t).map f) ((List.range t).map g) = (List.range t).map fun d => op (f d) (g d) := by
 rw [List.zipWith_map, List.zipWith_self]
def far3 (r e m : List Int) : List Int := List.zipWith (fun p s => if p.2 + s < p.1 then p.1 else p.2 + s) (List.zip r e) m
theorem far_row (t : Nat) (f g h : Nat → Int) : far3 ((List.range t).map f) ((List.range t).map g) ((List.range t).map h) = (List.range t).map fun d => max (f d) (g d + h d) := by
 unfold far3
 rw [List.zip_map', List.zipWith_map, List.zipWith_self]
 refine List.map_congr_left fun d _ => ?_
 show (if g d + h d < f d then f d else g d + h d) = max (f d) (g d + h d)
 by_cases q : g d + h d < f d
 ·rw [if_pos q]; omega
 ·rw [if_neg q]; omega
structure WInv (t : Nat) (P : Nat → Pen) (T : Nat) (E R : List Int) (K : List (Nat × List Int)) : Prop where
 T_lt : T < t
 ends : E = (List.range t).map fun d => (P d).x
 reach : R = (List.range t).map fun d => (penLeg (P d)).hx
 dir : ∀ d, d < t → (P d).d = (d + T) % t
 box : ∀ d, d < t → InBox (P d)
 kept : ∀ d, d < t → ∃ ys : List Int, (P d).back = List.zipWith (fun k y => (k.2.getD d 0, y, (d + k.1) % t)) K ys ∧ ys.length = K.length
 small : ∀ k ∈ K, k.1 < t ∧ k.2.length = t
theorem WInv.start {t : Nat} (ht : Turns t) : WInv t pen0 0 (List.replicate t 0) (List.replicate t 0) [] := by
 refine ⟨ht.pos, ?_, ?_, fun d hd => ?_, fun d _ => InBox.pen0 d, fun d _ => ⟨[], rfl, rfl⟩, fun k h => (nomatch h)⟩
 ·show _ = (List.range t).map fun d => (0 : Int)
  rw [List.map_const', List.length_range]
 ·show _ = (List.range t).map fun d => (0 : Int)
  rw [List.map_const', List.length_range]
 ·show d = (d + 0) % t
  rw [Nat.add_zero, Nat.mod_eq_of_lt hd]
theorem step_open (t : Nat) (p : Pen) : p.step t 91 = { p with back := (p.x, p.y, p.d) :: p.back } := rfl
theorem step_close {t : Nat} {p : Pen} {b : Int × Int × Nat} {r : List (Int × Int × Nat)} (h : p.back = b :: r) : p.step t 93 = { p with x := b.1, y := b.2.1, d := b.2.2, back := r } := by
 show (match p.back with
  | b :: r => { p with x := b.1, y := b.2.1, d := b.2.2, back := r }
  | [] => p) = _
 rw [h]
theorem WInv.open_ {t : Nat} {P : Nat → Pen} {T : Nat} {E R : List Int} {K : List (Nat × List Int)} (i : WInv t P T E R K) : WInv t (fun d => (P d).step t 91) T E R ((T, E) :: K) := by
 refine ⟨i.T_lt, i.ends, i.reach, i.dir, fun d hd => (i.box d hd).step 91, fun d hd => ?_, fun k hk => ?_⟩
 ·obtain ⟨ys, e, l⟩ := i.kept d hd
  refine ⟨(P d).y :: ys, ?_, by rw [List.length_cons, List.length_cons, l]⟩
  rw [step_open]
  show ((P d).x, (P d).y, (P d).d) :: (P d).back = _
  rw [List.zipWith_cons_cons, ← e]
  congr 2
  ·show _ = E.getD d 0
   rw [i.ends, List.getD_eq_getElem?_getD, rget t _ hd]; rfl
  ·show ((P d).y, (P d).d) = ((P d).y, (d + T) % t)
   rw [i.dir d hd]
 ·rcases List.mem_cons.mp hk with rfl | hk
  ·refine ⟨i.T_lt, ?_⟩
   show E.length = t
   rw [i.ends, List.length_map, List.length_range]
  ·exact i.small k hk
theorem WInv.close_ {t : Nat} {P : Nat → Pen} {T T0 : Nat} {E E0 R : List Int} {K : List (Nat × List Int)} (i : WInv t P T E R ((T0, E0) :: K)) : WInv t (fun d => (P d).step t 93) T0 E0 R K := by
 have hk : ∀ d, d < t → ∃ (y : Int) (ys : List Int), (P d).back = (E0.getD d 0, y, (d + T0) % t) :: List.zipWith (fun k y => (k.2.getD d 0, y, (d + k.1) % t)) K ys ∧ ys.length = K.length := fun d hd => by
  obtain ⟨ys, e, l⟩ := i.kept d hd
  cases ys with
  | nil => cases l
  | cons y ys => exact ⟨y, ys, e, by simpa using l⟩
 have s0 := i.small (T0, E0) (List.mem_cons_self ..)
 refine ⟨s0.1, ?_, ?_, fun d hd => ?_, fun d hd => (i.box d hd).step 93, fun d hd => ?_, fun k hk => i.small k (List.mem_cons_of_mem _ hk)⟩
 ·refine List.ext_getElem? fun d => ?_
  by_cases hd : d < t
  ·obtain ⟨y, ys, e, l⟩ := hk d hd
   rw [rget t _ hd, step_close e]
   show _ = some (E0.getD d 0)
   have s2 : d < E0.length := by have := s0.2; dsimp only at this; omega
   rw [List.getD_eq_getElem?_getD, List.getElem?_eq_getElem s2]; rfl
  ·have s2 : E0.length ≤ d := by have := s0.2; dsimp only at this; omega
   rw [List.getElem?_eq_none s2, List.getElem?_eq_none (by simp; omega)]
 ·rw [i.reach]
  refine List.map_congr_left fun d hd => ?_
  obtain ⟨y, ys, e, l⟩ := hk d (List.mem_range.mp hd)
  rw [step_close e]; rfl
 ·obtain ⟨y, ys, e, l⟩ := hk d hd
  show ((P d).step t 93).d = _
  rw [step_close e]
 ·obtain ⟨y, ys, e, l⟩ := hk d hd
  refine ⟨ys, ?_, l⟩
  show ((P d).step t 93).back = _
  rw [step_close e]
theorem WInv.go {t : Nat} (ht : Turns t) {P : Nat → Pen} {T : Nat} {E R : List Int} {K : List (Nat × List Int)} (i : WInv t P T E R K) {v : Word} (hv : bal 0 v = some 0) :
  (wMoves t v = true → WInv t (fun d => v.foldl (Pen.step t) (P d)) ((T + wTurn t v) % t) (List.zipWith (· + ·) E ((wEnds t v).drop T ++ (wEnds t v).take T)) (far3 R E ((wReach t v).drop T ++ (wReach t v).take T)) K) ∧
  (wMoves t v = false → WInv t (fun d => v.foldl (Pen.step t) (P d)) ((T + wTurn t v) % t) E R K) := by
 have lo : ∀ d, d < t → (v.foldl (Pen.step t) (P d)).x = (P d).x + (legOf t v ((d + T) % t)).x ∧ (penLeg (v.foldl (Pen.step t) (P d))).hx = max (penLeg (P d)).hx ((P d).x + (legOf t v ((d + T) % t)).hx) ∧ (v.foldl (Pen.step t) (P d)).d = (d + (T + wTurn t v) % t) % t ∧ (v.foldl (Pen.step t) (P d)).back = (P d).back := fun d hd => by
  obtain ⟨e, eb⟩ := leg_on (t := t) hv (i.box d hd)
  rw [i.dir d hd] at e
  refine ⟨congrArg Leg.x e, congrArg Leg.hx e, ?_, eb⟩
  have e3 : (v.foldl (Pen.step t) (P d)).d = (legOf t v ((d + T) % t)).d := congrArg Leg.d e
  rw [e3, legOf_turn ht v (Nat.mod_lt _ ht.pos), Nat.mod_add_mod, Nat.add_mod_mod, Nat.add_assoc]
 have rest : ∀ E' R', E' = ((List.range t).map fun d => (v.foldl (Pen.step t) (P d)).x) → R' = ((List.range t).map fun d => (penLeg (v.foldl (Pen.step t) (P d))).hx) → WInv t (fun d => v.foldl (Pen.step t) (P d)) ((T + wTurn t v) % t) E' R' K := fun E' R' e1 e2 =>
  ⟨Nat.mod_lt _ ht.pos, e1, e2, fun d hd => (lo d hd).2.2.1, fun d hd => (i.box d hd).walk v, fun d hd => by
   obtain ⟨ys, e, l⟩ := i.kept d hd
   exact ⟨ys, by show (v.foldl (Pen.step t) (P d)).back = _; rw [(lo d hd).2.2.2]; exact e, l⟩, i.small⟩
 constructor
 ·intro hm
  refine rest _ _ ?_ ?_
  ·unfold wEnds
   rw [turned_row t _ i.T_lt, i.ends, zip_row]
   exact List.map_congr_left fun d hd => ((lo d (List.mem_range.mp hd)).1).symm
  ·unfold wReach
   rw [turned_row t _ i.T_lt, i.ends, i.reach, far_row]
   exact List.map_congr_left fun d hd => ((lo d (List.mem_range.mp hd)).2.1).symm
 ·intro hm
  refine rest _ _ ?_ ?_
  ·rw [i.ends]
   refine List.map_congr_left fun d hd => ?_
   rw [(lo d (List.mem_range.mp hd)).1, (still ht hm (Nat.mod_lt _ ht.pos)).1, Int.add_zero]
  ·rw [i.reach]
   refine List.map_congr_left fun d hd => ?_
   rw [(lo d (List.mem_range.mp hd)).2.1, (still ht hm (Nat.mod_lt _ ht.pos)).2, Int.add_zero]
   have := (i.box d (List.mem_range.mp hd)).hx
   show most _ = max (most _) _
   omega
theorem WInv.done {t : Nat} (ht : Turns t) {w : Word} {T : Nat} {E R : List Int} {K : List (Nat × List Int)} (i : WInv t (penOf t w) T E R K) : T = wTurn t w ∧ E = wEnds t w ∧ R = wReach t w := by
 refine ⟨?_, i.ends, i.reach⟩
 have := i.dir 0 ht.pos
 rw [Nat.zero_add, Nat.mod_eq_of_lt i.T_lt] at this
 exact this.symm
theorem penOf_append (t : Nat) (v w : Word) (d : Nat) : penOf t (v ++ w) d = w.foldl (Pen.step t) (penOf t v d) := by unfold penOf; rw [List.foldl_append]
theorem penOf_back {t : Nat} {w : Word} {d e : Nat} (h : bal 0 w = some e) : (penOf t w d).back.length = e := (Moved.walk (t := t) (Moved.start (pen0 d)) h).2
def isStep (c : Nat) : Bool := isBig c || decide (c = 46)
def turnBy (t c : Nat) : Nat := if c = 43 then 1 else if c = 45 then t - 1 else if c = 124 then t / 2 else 0
theorem big_not {c : Nat} (h : isBig c = true) : c ≠ 43 ∧ c ≠ 45 ∧ c ≠ 124 ∧ c ≠ 91 ∧ c ≠ 93 ∧ c ≠ 46 := by
 simp [isBig] at h
 omega
theorem step_go {t : Nat} {p : Pen} {c : Nat} (h : isStep c = true) : (p.step t c).x = p.x + (way t p.d).1 ∧ (p.step t c).y = p.y + (way t p.d).2 ∧ (p.step t c).d = p.d ∧ (p.step t c).back = p.back ∧ (p.step t c).been = (p.x + (way t p.d).1, p.y + (way t p.d).2) :: p.been
  ∧ (p.step t c).drawn = if isBig c = true then (p.x + (way t p.d).1, p.y + (way t p.d).2) :: (p.x, p.y) :: p.drawn else p.drawn := by
 unfold Pen.step
 dsimp only
 by_cases c1 : isBig c = true
 ·rw [if_pos c1, if_pos c1]; exact ⟨rfl, rfl, rfl, rfl, rfl, rfl⟩
 ·unfold isStep at h
  have c2 : c = 46 := by
   rcases (Bool.or_eq_true _ _).mp h with h | h
   ·exact absurd h c1
   ·exact of_decide_eq_true h
  rw [if_neg c1, if_pos c2, if_neg c1]; exact ⟨rfl, rfl, rfl, rfl, rfl, rfl⟩
theorem step_stay {t : Nat} {p : Pen} {c : Nat} (hp : p.d < t) (ht : Turns t) (h : isStep c = false) (h1 : c ≠ 91) (h2 : c ≠ 93) : p.step t c = { p with d := (p.d + turnBy t c) % t } := by
 unfold isStep at h
 rw [Bool.or_eq_false_iff] at h
 have c2 : ¬ c = 46 := of_decide_eq_false h.2
 have c1 : ¬ isBig c = true := by rw [h.1]; exact Bool.false_ne_true
 unfold Pen.step turnBy
 dsimp only
 rw [if_neg c1, if_neg c2]
 by_cases c3 : c = 43
 ·rw [if_pos c3, if_pos c3]
 rw [if_neg c3, if_neg c3]
 by_cases c4 : c = 45
 ·rw [if_pos c4, if_pos c4, Nat.add_sub_assoc (Nat.succ_le_of_lt ht.pos)]
 rw [if_neg c4, if_neg c4]
 by_cases c5 : c = 124
 ·rw [if_pos c5, if_pos c5]
 rw [if_neg c5, if_neg c5, if_neg h1, if_neg h2, Nat.add_zero, Nat.mod_eq_of_lt hp]
theorem turnBy_lt {t c : Nat} (ht : Turns t) : turnBy t c < t := by
 unfold turnBy
 rcases ht with rfl | rfl <;> (repeat' split) <;> decide
theorem turnBy_step {t c : Nat} (h : isStep c = true) : turnBy t c = 0 := by
 unfold isStep at h
 unfold turnBy
 have : c ≠ 43 ∧ c ≠ 45 ∧ c ≠ 124 := by
  rcases (Bool.or_eq_true _ _).mp h with h | h
  ·have := big_not h; exact ⟨this.1, this.2.1, this.2.2.1⟩
  ·have := of_decide_eq_true h; omega
 rw [if_neg this.1, if_neg this.2.1, if_neg this.2.2]
theorem way_sign {t c : Nat} (ht : Turns t) (h1 : c ≠ 91) (h2 : c ≠ 93) : wTurn t [c] = turnBy t c ∧ wEnds t [c] = ((List.range t).map fun d => if isStep c = true then (way t d).1 else 0) ∧ wReach t [c] = (wEnds t [c]).map fun z => if 0 < z then z else 0 := by
 have key : ∀ d, d < t → legOf t [c] d = penLeg ((pen0 d).step t c) := fun d _ => rfl
 have e2 : wEnds t [c] = ((List.range t).map fun d => if isStep c = true then (way t d).1 else 0) := by
  refine List.map_congr_left fun d hd => ?_
  show ((pen0 d).step t c).x = _
  by_cases s : isStep c = true
  ·rw [if_pos s, (step_go s).1]; show (0 : Int) + _ = _; rw [Int.zero_add]; rfl
  ·rw [if_neg s, step_stay (List.mem_range.mp hd) ht (by simpa using s) h1 h2]; rfl
 refine ⟨?_, e2, ?_⟩
 ·show ((pen0 0).step t c).d = _
  by_cases s : isStep c = true
  ·rw [(step_go s).2.2.1, turnBy_step s]; rfl
  ·rw [step_stay ht.pos ht (by simpa using s) h1 h2]
   show (0 + turnBy t c) % t = _
   rw [Nat.zero_add, Nat.mod_eq_of_lt (turnBy_lt ht)]
 ·rw [e2, List.map_map]
  refine List.map_congr_left fun d hd => ?_
  show most (((pen0 d).step t c).been.map (·.1)) = _
  by_cases s : isStep c = true
  ·rw [(step_go s).2.2.2.2.1]
   show most [(0 : Int) + (way t d).1] = if 0 < (if isStep c = true then (way t d).1 else 0) then (if isStep c = true then (way t d).1 else 0) else 0
   rw [most_one, if_pos s, Int.zero_add]
   by_cases q : 0 < (way t d).1
   ·rw [if_pos q]; omega
   ·rw [if_neg q]; omega
  ·rw [step_stay (List.mem_range.mp hd) ht (by simpa using s) h1 h2]
   show (0 : Int) = if 0 < (if isStep c = true then (way t d).1 else 0) then (if isStep c = true then (way t d).1 else 0) else 0
   rw [if_neg s]; rfl
end Gw
end
section
namespace L2
open PySem PySem.Spec PyProof.Rows
def Dfn (P : Program) (w : World) (K : PySem.W.Frag) (mg : Str → Option Value) (base : Heap) (x : Str) (k : Nat) (ps : List Str) (sp : Sp) : Prop :=
 ∃ (f : Addr) (fd : FuncData), FnOk P w K mg base CX0 k f fd ps sp ∧ mg x = some (.ref f) ∧ PySem.W.keepIn K (.ref f) = true ∧ Binds K fd ps []
def Mth (P : Program) (w : World) (K : PySem.W.Frag) (mg : Str → Option Value) (base : Heap) (C : Addr) (m : Str) (k : Nat) (ps : List Str) (sp : Sp) : Prop :=
 ∃ (f : Addr) (fd : FuncData), FnOk P w K mg base CX0 k f fd ps sp ∧ Meth K C m f ∧ Binds K fd ps []
section
variable {X : Cx} {k : Nat} {C : Addr} {ps : List Str} {sp : Sp} {x m : Str} {p pos apos : Pos} {e o : Expr} {es : List Expr} {ta : TE} {t : TA}
theorem pe_dfn (D : Dfn X.prog X.w X.K X.mg X.base x k ps sp) (hr : Room k X.A) (hg : Gl X x) (ha : PA X (e :: es) t) (hdb : (x == ("__debug__" : Str)) = false := by decide)
  (he : starEach (e :: es) X.env = (false, eval e X.env) :: starEach es X.env := by rfl) (hpl : (backTo pos (starEach es X.env)).any (·.1) = false := by rfl) : PE X (.Call (.Name x p) (e :: es) [] pos) (tCall sp [] E0 t) := by
 obtain ⟨f, fd, F, hm, hk, hb⟩ := D
 exact pe_call F hr hg hm hk hb .nil pass0 ha hdb he hpl
theorem pe_dfn0 (D : Dfn X.prog X.w X.K X.mg X.base x k ps sp) (hr : Room k X.A) (hg : Gl X x) (hdb : (x == ("__debug__" : Str)) = false := by decide) : PE X (.Call (.Name x p) [] [] pos) (tCall sp [] E0 tNil) := by
 obtain ⟨f, fd, F, hm, hk, hb⟩ := D
 exact pe_call0 F hr hg hm hk hb .nil pass0 hdb
theorem pe_mth {pl : Sem Bool} (he : PE X o ta) (c : Cls X.K C) (D : Mth X.prog X.w X.K X.mg X.base C m k ps sp) (hr : Room k X.A) (ha : PA X (e :: es) t)
  (hst : starEach (e :: es) X.env = (false, eval e X.env) :: starEach es X.env := by rfl) (hpl : (backTo pos (starEach es X.env)).any (·.1) = false := by rfl)
  (ht : eval (.Call (.Attribute o m apos) (e :: es) [] pos) X.env = (do
   let ov ← eval o X.env
   standAt apos.atName
   let (f, first) ← holding [ov] (getMethod ov m pl)
   callWith pos f first (backTo pos (starEach (e :: es) X.env)) (backToKw pos (keywordEach [] X.env))) := by rfl) :
  PE X (.Call (.Attribute o m apos) (e :: es) [] pos) (tMeth C m sp [] E0 ta t) := by
 obtain ⟨f, fd, F, hm, hb⟩ := D
 exact pe_meth (pl := pl) he c hm F hr hb .nil pass0 ha hst hpl ht
theorem pe_mth0 {pl : Sem Bool} (he : PE X o ta) (c : Cls X.K C) (D : Mth X.prog X.w X.K X.mg X.base C m k ps sp) (hr : Room k X.A)
  (ht : eval (.Call (.Attribute o m apos) [] [] pos) X.env = (do
   let ov ← eval o X.env
   standAt apos.atName
   let (f, first) ← holding [ov] (getMethod ov m pl)
   callWith pos f first (backTo pos (starEach [] X.env)) (backToKw pos (keywordEach [] X.env))) := by rfl) :
  PE X (.Call (.Attribute o m apos) [] [] pos) (tMeth C m sp [] E0 ta tNil) := by
 obtain ⟨f, fd, F, hm, hb⟩ := D
 exact pe_meth0 (pl := pl) he c hm F hr hb .nil pass0 ht
def GI (mg : Str → Option Value) (x : Str) (n : Int) : Prop := ∃ t, mg x = some (.int n t)
theorem pe_gi {n : Int} (hg : Gl X x) (h : GI X.mg x n) (hd : (x == ("__debug__" : Str)) = false := by decide) : PE X (.Name x pos) (tC (.int n)) := by
 obtain ⟨t, h⟩ := h
 exact pe_glob hg h ⟨t, rfl⟩ hd
end
theorem for_items {d : Addr} {o : Obj} {kvs : List (Key × V)} {g : TG} {tb : TS} {D : Ends} {σ : St} {H : Hp} (Pv : Nat → St → Hp → Prop) (h0 : Pv 0 σ H) (hl : ∀ i σ H, i ≤ kvs.length → Pv i σ H → H d = some (.frz o (.dK kvs)))
  (hs : ∀ i k v T σ H, kvs[i]? = some (k, v) → H T = none → Pv i σ H → g (.ref T) σ (upd H T (.tup [kV k, v])) fun σ2 H2 => tb { D with nx := Pv (i + 1), ct := Pv (i + 1), bk := D.nx } σ2 H2) (hd : ∀ σ H, Pv kvs.length σ H → D.nx σ H) :
  ∃ W : Nat → Nat → St → Hp → Prop, (∃ m, W 0 m σ H) ∧ ∀ i m σ H, W i m σ H →
   ((Iti d o kvs).stop i H ∧ D.nx σ H) ∨ ((Iti d o kvs).go i H ∧ ∃ N : St → Hp → Prop, (∀ σ' H', N σ' H' → ∃ m', m' < m ∧ W (i + 1) m' σ' H') ∧ ∀ x H', (Iti d o kvs).yld i H x H' → g x σ H' fun σ2 H2 => tb { D with nx := N, ct := N, bk := D.nx } σ2 H2) := by
 refine ⟨fun i m σ H => m = kvs.length - i ∧ i ≤ kvs.length ∧ Pv i σ H, ⟨kvs.length, by simp, Nat.zero_le _, h0⟩, ?_⟩
 rintro i m σ H ⟨rfl, hi, p⟩
 have q := hl i σ H hi p
 by_cases hlt : i < kvs.length
 ·refine .inr ⟨⟨q, hlt⟩, Pv (i + 1), fun σ' H' p' => ⟨kvs.length - (i + 1), by omega, rfl, hlt, p'⟩, fun x H' y => ?_⟩
  obtain ⟨T, k, v, e1, e2, e3, e4⟩ := y
  subst e2 e4
  exact hs i k v T σ H e1 e3 p
 ·have e : i = kvs.length := by omega
  subst e
  exact .inl ⟨⟨q, Nat.le_refl _⟩, hd σ H p⟩
def valsO (v d : Addr) : HO := .ext fun h => h.get? v = some { cls := .type "dict_values", data := .fields #[.ref d] }
section
variable {X : Cx} {e : Expr} {td : TE} {apos cpos : Pos}
def tVals (td : TE) : TE := fun σ H Q => td σ H fun x H1 => ∃ d kvs, x = .ref d ∧ Rd H1 d (.dK kvs) ∧ ∀ v, H1 v = none → Q (.ref v) (upd H1 v (valsO v d))
theorem pe_values (he : PE X e td) (hbase : attributeBase e "values" X.env (eval e X.env) = eval e X.env := by rfl) (hline : (apos.endLine == cpos.line) = true := by rfl) : PE X (.Call (.Attribute e "values" apos) [] [] cpos) (tVals td) := by
 intro pins s σ H Q I h
 refine wpAny_Call_method (T := "dict") (id := "dict.values") hbase rfl hline F.plainAttrs_dict F.slot_dict_values F.type_dict_values (thn (he pins s σ H _ I h) fun u s1 hx => ?_)
 obtain ⟨x, H1, I1, rx, d, kvs, ex, hd, q⟩ := hx
 subst ex
 obtain rfl : u = Value.ref d := rx
 obtain ⟨z, hs, vs, kv, hm⟩ := dk_rd I1.hok hd
 refine ⟨hm.typeIs, hm.mapOf.noDict, ?_⟩
 have hf : H1 s1.heap.objs.size = none := I1.hok.fresh (Nat.le_refl _)
 have I2 : Inv X pins σ (upd H1 s1.heap.objs.size (valsO s1.heap.objs.size d)) { s1 with heap := s1.heap.push { cls := .type "dict_values", data := .fields #[.ref d] } } :=
  I1.laid (t' := s1.toks) (fun b ob q => Heap.get?_push_of_some _ q) (Nat.le_refl _) ⟨Heap.get?_push_size _ rfl, ⟨_, Heap.get?_push_size _ rfl⟩, fun h1 h2 p q => q _ p⟩
 show wpAny _ _ (callWith cpos (.builtin "dict.values") [.ref d] [] []) _ X.xe s1
 exact method_meetsIn F.slot_dict_values F.entry_dict_values rfl (PySem.evalArgs_none ⟨rfl, hm.typeIs, F.args_dict_values_1 _, _, meets_dict_values (mixKind X.prog X.w) d hs, ⟨vs, hm⟩, ⟨V.ref s1.heap.objs.size, _, I2, rfl, q _ hf⟩⟩)
end
theorem sum_src {prog : Program} {w : World} {A : Around} {E : Value → Shared → Prop} {s : Shared} {T : String} {r d : Addr} {n : Nat} {P : Nat → Value → Prop} {OK : Heap → Prop} {Q : Value → Shared → Prop} (S : PySem.W.KdlSrc prog w T r d n P OK) (quiet : A.handled = none) (good : OK s.heap) (num : Nat → Int)
  (isNum : ∀ (j : Nat) (u : Value), P j u → ∃ t : Tok, u = Value.int (num j) t)
  (fin : ∀ (h' : Heap) (tk : Nat) (t' : Tok), (∀ b o, s.heap.get? b = some o → h'.get? b = some o) → Q (.int (preSum num n) t') { s with heap := h', toks := tk }) : wpAny (model prog w) A (call (.builtin "sum") [.ref r]) Q E s := by
 apply call_sum_walkAnyS
 obtain ⟨oI, St, start, Wk, st0⟩ := S.iter A.in1 s quiet good
 apply start
 refine ⟨s.heap.objs.size, _, _, _, n, P, _, num, rfl, Wk.toS, st0, fun b mb => ?_, isNum, fun s2 t2 mv => ?_⟩
 ·have lt := (S.there _ good).2
  show b < (s.heap.push oI).objs.size
  rw [Heap.size_push]
  rcases List.mem_cons.mp mb with e | mb
  ·subst e; exact Nat.lt_succ_self _
  ·rw [List.mem_singleton.mp mb]; exact Nat.lt_succ_of_lt lt
 ·have kept : ∀ b o, s.heap.get? b = some o → s2.heap.get? b = some o := fun b o e => by
   refine mv.heap b o (fun q => ?_) (Heap.get?_push_of_some _ e)
   have := Heap.lt_size e
   rw [List.mem_singleton.mp q] at this
   exact Nat.lt_irrefl _ this
  have es := Moved.eq_with mv
  rw [es]
  exact fin s2.heap s2.toks t2 kept
theorem preSum_list (ns : List Int) : preSum (fun i => ns.getD i 0) ns.length = ns.sum := by
 induction ns with
 | nil => rfl
 | cons z ns ih =>
  show preSum _ (ns.length + 1) = _
  rw [PySem.W.kdu_shift, List.sum_cons, ← ih]
  rfl
section
variable {X : Cx}
theorem cr_sumV (hc : X.calm = true) : CallR X (.builtin "sum") (fun xs H Q => ∃ (v d : Addr) (kvs : List (Key × V)) (ns : List Int), xs = [V.ref v] ∧ H v = some (valsO v d) ∧ Rd H d (.dK kvs) ∧ kvs.map (·.2) = ns.map V.int ∧ Q (.int ns.sum) H) := by
 intro pins s σ H vs us Q I r h
 obtain ⟨v, d, kvs, ns, rfl, hv, hd, hn, q⟩ := h
 rw [Vals.ref1 r]
 obtain ⟨z, hs, us', kv, hm⟩ := dk_rd I.hok hd
 obtain ⟨ep, hat⟩ := hm.dictAt
 have ev : s.heap.get? v = some { cls := .type "dict_values", data := .fields #[.ref d] } := (I.hok v _ hv).1
 have len : us'.length = ns.length := by
  have l1 : kvs.length = us'.length := Paired.length kv
  have l2 := congrArg List.length hn
  simp only [List.length_map] at l2
  omega
 have get : ∀ (kvs : List (Key × V)) (us' : List (Key × Value)) (ns : List Int), KV kvs us' → kvs.map (·.2) = ns.map V.int → ∀ (i : Nat) (k : Key) (u : Value), us'[i]? = some (k, u) → ∃ t : Tok, u = Value.int (ns.getD i 0) t := by
  intro kvs us' ns kv
  induction kv generalizing ns with
  | nil => intro _ i k u h; simp at h
  | cons r t ih =>
   intro hn i k u h
   cases ns with
   | nil => cases hn
   | cons z ns =>
    rw [List.map_cons, List.map_cons] at hn
    injection hn with n1 n2
    cases i with
    | zero =>
     obtain ⟨r1, r2⟩ := r
     rw [n1] at r2
     obtain ⟨t, e⟩ := r2
     have h : some _ = some (k, u) := h
     have h := Option.some.inj h
     rw [h] at e
     exact ⟨t, e⟩
    | succ i => exact ih ns n2 i k u (by simpa using h)
 refine sum_src (PySem.W.kdl_values (knd := mixKind X.prog X.w) (r := v) (d := d) (kvs := us') (ep := ep)) (I.ok.hd hc) ⟨⟨_, ev, rfl, rfl⟩, hat⟩ (fun i => ns.getD i 0) (fun j u hu => ?_) fun h' tk t' hk => ?_
 ·obtain ⟨k, hx⟩ := hu
  exact get kvs us' ns kv hn j k u hx
 ·rw [len, preSum_list]
  exact ⟨.int _, H, I.kept hk, ⟨_, rfl⟩, q⟩
end
theorem Same.new {H : Hp} {l : Addr} {o : HO} (h : H l = Option.none) : Same H (upd H l o) := fun b u e => by
 rw [upd_ne (ne_of_none e h)]; exact e
def But (a : Addr) (H H' : Hp) : Prop := ∀ b o, H b = some o → b ≠ a → H' b = some o
theorem Same.but {H H' : Hp} (s : Same H H') (a : Addr) : But a H H' := fun b o h _ => s b o h
theorem But.trans {a : Addr} {H H1 H2 : Hp} (x : But a H H1) (y : But a H1 H2) : But a H H2 := fun b o h n => y b o (x b o h n) n
theorem But.upd {a : Addr} {H : Hp} {o : HO} : But a H (upd H a o) := fun b u e n => by rw [upd_ne n]; exact e
end L2
namespace Gw
open PySem L2
abbrev vw (w : List Nat) : List V := w.map fun (c : Nat) => V.int (c : Int)
abbrev kvN (l : List (Nat × Nat)) : List (Key × V) := l.map fun p => (Sum.inl (p.1 : Int), V.int (p.2 : Int))
theorem key_eq (a b : Nat) : ((Sum.inl (a : Int) : Key) = Sum.inl (b : Int)) = (a = b) := by
 apply propext
 constructor
 ·intro h; injection h with h; omega
 ·intro h; rw [h]
theorem valV_kvN (c : Nat) : ∀ l : List (Nat × Nat), valV (kvN l) (Sum.inl (c : Int)) = ((l.find? fun p => decide (p.1 = c)).map fun p => V.int (p.2 : Int))
 | [] => rfl
 | p :: l => by
  rw [List.find?_cons]
  by_cases h : p.1 = c
  ·rw [decide_eq_true h]
   exact valV_pos (p := (Sum.inl (p.1 : Int), V.int (p.2 : Int))) (by rw [h])
  ·rw [decide_eq_false h]
   have n : ¬ (Sum.inl (p.1 : Int) : Key) = Sum.inl (c : Int) := by rw [key_eq]; exact h
   exact (valV_neg (p := (Sum.inl (p.1 : Int), V.int (p.2 : Int))) n).trans (valV_kvN c l)
theorem get_kvN (l : List (Nat × Nat)) (c d : Nat) : (valV (kvN l) (Sum.inl (c : Int))).getD (V.int (d : Int)) = V.int (getN l c d : Int) := by
 rw [valV_kvN]
 unfold getN
 cases l.find? (fun p => decide (p.1 = c)) with
 | none => rfl
 | some p => rfl
theorem put_kvN (l : List (Nat × Nat)) (c v : Nat) : putK (kvN l) (Sum.inl (c : Int)) (V.int (v : Int)) = kvN (putN l c v) := by
 have any : (kvN l).any (fun kv => decide (kv.1 = (Sum.inl (c : Int) : Key))) = l.any fun p => decide (p.1 = c) := by
  rw [List.any_map]
  congr 1
  funext p
  show decide ((Sum.inl (p.1 : Int) : Key) = Sum.inl (c : Int)) = decide (p.1 = c)
  simp only [key_eq]
 unfold putK putN
 rw [any]
 by_cases h : l.any (fun p => decide (p.1 = c)) = true
 ·rw [if_pos h, if_pos h, List.map_map]
  show _ = List.map _ (List.map _ l)
  rw [List.map_map]
  refine List.map_congr_left fun p _ => ?_
  show (if (Sum.inl (p.1 : Int) : Key) = Sum.inl (c : Int) then ((Sum.inl (p.1 : Int) : Key), V.int (v : Int)) else (Sum.inl (p.1 : Int), V.int (p.2 : Int))) = _
  simp only [key_eq]
  by_cases e : p.1 = c
  ·simp [e]
  ·simp [e]
 ·rw [if_neg h, if_neg h]
  show _ = List.map _ (l ++ [(c, v)])
  rw [List.map_append]; rfl
theorem vw_get {w : List Nat} {i : Nat} {x : V} (h : (vw w)[i]? = some x) : ∃ c, w[i]? = some c ∧ x = V.int (c : Int) := by
 rw [List.getElem?_map] at h
 cases e : w[i]? with
 | none => rw [e] at h; cases h
 | some c => rw [e] at h; exact ⟨c, rfl, (Option.some.inj h).symm⟩
end Gw
end
section
namespace L2
open PySem PySem.Spec PyProof.Rows
theorem lri_no_len : typeLookup (.type "list_reverseiterator") "__len__" = pure none := by rw [typeLookup_type, builtinLookup_eq_fast]; kernel_rfl
theorem lri_hint : typeLookup (.type "list_reverseiterator") "__length_hint__" = pure (some (.builtin "list_reverseiterator.__length_hint__")) := by rw [typeLookup_type, builtinLookup_eq_fast]; kernel_rfl
section
variable {prog : Program} {w : World} {A : Around} {E : Value → Shared → Prop} {s : Shared} {r l : Addr}
theorem hint_rev {Q : Bool → Shared → Prop} (hT : s.TypeIs (.ref r) "list_reverseiterator") (h : Q false s) : wpAny (model prog w) A (Builtin.List.listLengthHint (.ref r)) Q E s := by
 unfold Builtin.List.listLengthHint
 refine wpAny_bind (wpAny_specialOf hT lri_no_len ?_)
 show wpAny _ _ (specialOf (Value.ref r) (Str.ofString "__length_hint__") >>= _) _ _ _
 refine wpAny_bind (wpAny_specialOf hT lri_hint ?_)
 generalize hid : ("list_reverseiterator.__length_hint__" : String) = id0
 wp_delta
 rw [show splitId id0 = some ("list_reverseiterator", "__length_hint__") from by subst hid; decide +kernel]
 subst hid
 refine wpAny_bind (wpAny_isInstance (T := "list_reverseiterator") (b := true) hT (by rw [isSubtype_type]; kernel_rfl) ?_)
 refine wpAny_ite_split (fun hab => absurd hab (by decide)) (fun _ => ?_)
 refine wpAny_ite_split (fun _ => ?_) (fun hab => absurd (by decide +kernel) hab)
 refine wpAny_ite_split (fun hab => absurd hab (by decide +kernel)) (fun _ => ?_)
 exact wpAny_pure h
theorem extend_rev {R : Result → Shared → Prop} {items : Array Value} (hh : A.handled = none) (hr : s.heap.IsRevIter r l ((items.size : Int) - 1)) (hl : s.heap.IsList l items) (hne : l ≠ r) (S : Addr) (hSr : S ≠ r) (hSl : S ≠ l) (res : Value) (c₀ : Nat)
  (hS : s.heap.get? S = some { cls := .type "list", data := .seq #[] c₀ }) (hn : items.size ≤ sizeLine)
  (hR : ∀ h' tk acc' c', (∀ b o, b ≠ S → b ≠ r → s.heap.get? b = some o → h'.get? b = some o) → h'.get? S = some { cls := .type "list", dict := none, data := .seq acc' c', slots := #[] } → ItemsOf (fun i v => items[items.size - 1 - i]? = some v) acc' items.size → R (.ok (.ret res)) { s with heap := h', toks := tk }) :
  wpAny (model prog w) A.in1 (Builtin.List.listExtendWith (.ref S) (.ref r) res)
   (fun fin s' => match fin with | .done f => R (.ok f) s' | .again c' => c'.quiet = true ∧ codeAny (model prog w) A c' R s') (fun e s' => R (.error e) s') s := by
 have W := Walks.listRev (prog := prog) (w := w) (A := A.in1) hh r l hne items
 have hSf : S ∉ [r, l] := by simp only [List.mem_cons, List.not_mem_nil, or_false, not_or]; exact ⟨hSr, hSl⟩
 have st0 : ∀ h : Heap, h.IsRevIter r l ((items.size : Int) - 1) → h.IsList l items → 0 ≤ items.size ∧ h.IsRevIter r l ((items.size : Int) - 1 - ((0 : Nat) : Int)) ∧ h.IsList l items := fun h a b => ⟨Nat.zero_le _, by
  have e : (items.size : Int) - 1 - ((0 : Nat) : Int) = (items.size : Int) - 1 := by omega
  rw [e]; exact a, b⟩
 have key : ∀ (h : Heap) (c₁ tk : Nat), h.IsRevIter r l ((items.size : Int) - 1) → h.IsList l items → (∀ b o, b ≠ S → s.heap.get? b = some o → h.get? b = some o) →
   h.get? S = some { cls := .type "list", data := .seq #[] c₁ } → codeAny (model prog w) A (.builtin "list.extend.loop" ⟨[.ref S, .ref r, res], []⟩) R { s with heap := h, toks := tk } := by
  intro h c₁ tk h1 h2 hk hS₁
  refine codeAny_extend_loopS W.toS hn S hSf res items.size 0 _ #[] c₁ rfl (Nat.zero_le _) (st0 h h1 h2) hS₁ (ItemsOf.nil _) fun s' acc' c' hm hS' hacc => ?_
  rw [Moved.eq_with hm]
  refine hR s'.heap s'.toks acc' c' (fun b o hb hb2 e => hm.heap b o (fun hmem => ?_) (hk b o hb e)) hS' hacc
  rcases List.mem_cons.mp hmem with e' | hmem
  ·exact hb e'
  ·exact hb2 (List.mem_singleton.mp hmem)
 unfold Builtin.List.listExtendWith
 refine wpAny_bind (wpAny_typeOf (T := "list_reverseiterator") hr.typeIs ?_)
 have h1 : Builtin.List.listSameRef (.ref S) (.ref r) = false := by simp [Builtin.List.listSameRef, hSr]
 have h2 : (Value.type "list_reverseiterator" == Value.type "list") = false := by decide
 have h3 : (Value.type "list_reverseiterator" == Value.type "tuple") = false := by decide
 simp only [h1, h2, h3, Bool.or_false, Bool.false_eq_true, if_false]
 refine wpAny_bind (wpAny_pyIter_revIter hr ?_)
 refine wpAny_bind (wpAny_holding (hint_rev hr.typeIs ?_))
 refine wpAny_ite_split (fun hab => absurd hab (by decide)) (fun _ => wpAny_pure ⟨plainId_quiet PySem.F.plain_extend_loop _, key _ c₀ _ hr hl (fun b o _ e => e) hS⟩)
theorem init_rev {R : Result → Shared → Prop} {items : Array Value} (hh : A.handled = none) (hr : s.heap.IsRevIter r l ((items.size : Int) - 1)) (hl : s.heap.IsList l items) (hne : l ≠ r) (S : Addr) (hSr : S ≠ r) (hSl : S ≠ l)
  (hS : s.heap.get? S = some { cls := .type "list", data := .seq #[] }) (hn : items.size ≤ sizeLine)
  (hR : ∀ h' tk acc' c', (∀ b o, b ≠ S → b ≠ r → s.heap.get? b = some o → h'.get? b = some o) → h'.get? S = some { cls := .type "list", dict := none, data := .seq acc' c', slots := #[] } → ItemsOf (fun i v => items[items.size - 1 - i]? = some v) acc' items.size → R (.ok (.ret .none)) { s with heap := h', toks := tk }) :
  wpAny (model prog w) A.in1 (Builtin.«list.__init__» ⟨[.ref S, .ref r], []⟩)
   (fun fin s' => match fin with | .done f => R (.ok f) s' | .again c' => c'.quiet = true ∧ codeAny (model prog w) A c' R s') (fun e s' => R (.error e) s') s := by
 show wpAny _ _ (do let old ← Builtin.List.listItems (.ref S); Builtin.List.listUpdate (.ref S) (fun _ => #[]); letGo old.toList.reverse; Builtin.List.listExtendWith (.ref S) (.ref r) .none) _ _ s
 refine wpAny_bind ?_
 unfold Builtin.List.listItems
 refine wpAny_bind (wpAny_seqItems hS rfl (wpAny_pure ?_))
 show wpAny _ _ (updateSeq S (fun _ => #[]) >>= fun _ => letGo (#[] : Array Value).toList.reverse >>= fun _ => Builtin.List.listExtendWith (.ref S) (.ref r) .none) _ _ s
 refine wpAny_bind (wpAny_updateSeq hS rfl ?_)
 have hS₂ := Heap.get?_update_self (Obj.mapSeq (fun _ => (#[] : Array Value))) hS rfl
 have oth : ∀ b o, b ≠ S → s.heap.get? b = some o → (s.heap.update S (Obj.mapSeq (fun _ => (#[] : Array Value)))).get? b = some o :=
  fun b o hb e => (Heap.get?_update_other _ _ (Ne.symm hb)).trans e
 refine wpAny_bind (wpAny_letGo ?_)
 refine extend_rev hh (hr.at fun o e => oth r o hSr.symm e) (hl.at fun o e => oth l o hSl.symm e) hne S hSr hSl .none _ hS₂ hn fun h' tk acc' c' hk hS' hacc => ?_
 exact hR h' tk acc' c' (fun b o hb hb2 e => hk b o hb hb2 (oth b o hb e)) hS' hacc
theorem call_list_rev {Q : Value → Shared → Prop} {items : Array Value} (hh : A.handled = none) (hr : s.heap.IsRevIter r l ((items.size : Int) - 1)) (hl : s.heap.IsList l items) (hne : l ≠ r) (hn : items.size ≤ sizeLine)
  (hQ : ∀ h' tk acc' c', (∀ b o, b ≠ r → s.heap.get? b = some o → h'.get? b = some o) → h'.get? s.heap.objs.size = some { cls := .type "list", dict := none, data := .seq acc' c', slots := #[] } → ItemsOf (fun i v => items[items.size - 1 - i]? = some v) acc' items.size → Q (.ref s.heap.objs.size) { s with heap := h', toks := tk }) :
  wpAny (model prog w) A (call (.type "list") [.ref r]) Q E s := by
 refine callType_codes (Q₁ := fun obj s₁ => obj = .ref s.heap.objs.size ∧ s₁ = { s with heap := s.heap.push { cls := .type "list", data := .seq #[] } }) PySem.F.called_list (PySem.F.typeCall_list_1 _) PySem.F.entry_list_init
  (code_list_new _ ⟨rfl, rfl⟩) fun obj s₁ h₁ => ?_
 obtain ⟨rfl, rfl⟩ := h₁
 have hS : (s.heap.push { cls := .type "list", data := .seq #[] }).get? s.heap.objs.size = some { cls := .type "list", data := .seq #[] } := Heap.get?_push_size _ rfl
 have lr : r < s.heap.objs.size := by obtain ⟨o, ho, _⟩ := id hr; exact Heap.lt_size ho
 have ll : l < s.heap.objs.size := by obtain ⟨o, ho, _⟩ := id hl; exact Heap.lt_size ho
 refine ⟨⟨_, hS, rfl⟩, PySem.F.args_list_init_2 _ _, init_rev (A := A.in1) hh (hr.at fun o e => Heap.get?_push_of_some _ e) (hl.at fun o e => Heap.get?_push_of_some _ e) hne _ (Nat.ne_of_gt lr) (Nat.ne_of_gt ll) hS hn fun h' tk acc' c' hk hS' hacc => ?_⟩
 exact ⟨rfl, hQ h' tk acc' c' (fun b o hb e => hk b o (Nat.ne_of_lt (Heap.lt_size e)) hb (Heap.get?_push_of_some _ e)) hS' hacc⟩
end
theorem typeCall_zip3 (a b c : Value) : checkTypeCall "zip" ⟨[a, b, c], []⟩ = pure () := by kernel_rfl
theorem newCall_zip3 (a b c : Value) : checkBuiltinCall "zip.__new__" ⟨[.type "zip", a, b, c], []⟩ = pure () := by kernel_rfl
theorem args_object_init4 (a b c d : Value) : argsOk "object.__init__" ⟨[a, b, c, d], []⟩ := by
 unfold argsOk; rw [signature?_of (id := "object.__init__") (n := ['_', '_', 't', 'i', 'n', 'i', '_', '_']) (o := ['t', 'c', 'e', 'j', 'b', 'o']) (by kernel_rfl) PySem.F.owner_object]; kernel_rfl
theorem ne_ {a b : Nat} (h : a < b ∨ b < a) : a ≠ b := by omega
abbrev IsTrip (h : Heap) (T : Addr) (a b c : Value) : Prop := h.get? T = some { cls := .type "tuple", data := .seq #[a, b, c] }
section
variable {prog : Program} {w : World} {A : Around} {E : Value → Shared → Prop} {s : Shared}
theorem update_trip {T : Addr} {a b c x : Value} {k : Nat} {Q : Unit → Shared → Prop} (hT : IsTrip s.heap T a b c)
  (h : ∀ h', h'.get? T = some { cls := .type "tuple", data := .seq ((#[a, b, c] : Array Value).setIfInBounds k x) } → Heap.SameBut T s.heap h' → Q () { s with heap := h' }) :
  wpAny (model prog w) A (updateSeq T (·.setIfInBounds k x)) Q E s := by
 refine wpAny_updateSeq hT rfl (h _ ?_ (Heap.SameBut.update ..))
 rw [Heap.get?_update_self _ hT rfl]
 simp [Obj.mapSeq]
structure Zip3 (h : Heap) (n l1 l2 l3 : Nat) (k : Nat) (f0 : Value) : Prop where
 z : IsZip h (n + 5) (n + 3) (n + 4) f0
 ti : IsTrip h (n + 3) (.ref n) (.ref (n + 1)) (.ref (n + 2))
 to : ∃ a b c, IsTrip h (n + 4) a b c
 i1 : h.IsListIter n l1 k
 i2 : h.IsListIter (n + 1) l2 k
 i3 : h.IsListIter (n + 2) l3 k
theorem zip3_item {n l1 l2 l3 : Nat} {k : Nat} {xs ys zs : Array Value} {x y z : Value} {Q : Value → Shared → Prop} (d1 : l1 < n) (d2 : l2 < n) (d3 : l3 < n) (Z : Zip3 s.heap n l1 l2 l3 k .none)
  (hl1 : s.heap.IsList l1 xs) (hl2 : s.heap.IsList l2 ys) (hl3 : s.heap.IsList l3 zs) (hx : xs[k]? = some x) (hy : ys[k]? = some y) (hw : zs[k]? = some z)
  (hQ : ∀ h', Zip3 h' n l1 l2 l3 (k + 1) (rawInt s.heap.objs.size) → IsTrip h' s.heap.objs.size x y z → h'.objs.size = s.heap.objs.size + 1 →
   (∀ c o, (c < n ∨ n + 5 < c) → s.heap.get? c = some o → h'.get? c = some o) → Q (.ref s.heap.objs.size) { s with heap := h' }) :
  wpAny (model prog w) A (Builtin.«zip.__next__» ⟨[.ref (n + 5)], []⟩) (fun fin s' => ∃ v, fin = .done (.ret v) ∧ Q v s') E s := by
 obtain ⟨hz, hTI, ⟨a, b, c, hTO⟩, h1, h2, h3⟩ := Z
 show wpAny _ _ (field (.ref (n + 5)) 2 >>= _) _ _ _
 refine wpAny_bind (wpAny_field hz rfl (x := .bool false) rfl ?_)
 show wpAny _ _ (field (.ref (n + 5)) 3 >>= _) _ _ _
 refine wpAny_bind (wpAny_field hz rfl (x := .ref (n + 3)) rfl ?_)
 refine wpAny_bind (wpAny_seqItems hTI rfl ?_)
 show wpAny _ _ (Builtin.SmallTypes.ownedTupleIsFree (.ref (n + 5)) >>= _) _ _ _
 refine wpAny_bind ?_
 unfold Builtin.SmallTypes.ownedTupleIsFree
 refine wpAny_bind (wpAny_field hz rfl (x := .none) rfl (wpAny_pure ?_))
 simp only [if_true]
 refine wpAny_bind (wpAny_rule ?_)
 refine wpAny_bind (wpAny_field hz rfl (x := .ref (n + 4)) rfl ?_)
 refine wpAny_bind (wpAny_setField_rec hz (by simp) fun h₁ hz₁ hs₁ => ?_)
 replace hz₁ : IsZip h₁ (n + 5) (n + 3) (n + 4) .ellipsis := hz₁
 refine wpAny_bind ?_
 simp only [List.zipIdx_cons, List.zipIdx_nil, List.forIn_cons, List.forIn_nil]
 refine wpAny_bind (wpAny_bind (wpAny_onRaise ?_))
 show wpAny _ _ (Builtin.SmallTypes.nextOf (.ref n) >>= _) _ _ _
 refine wpAny_bind (wpAny_nextOf_list_item (h1.extBut hs₁.extBut (ne_ (by omega))) (hl1.extBut hs₁.extBut (ne_ (by omega))) hx fun h₂ h1₂ hs₂ => wpAny_pure ?_)
 have hTO₂ : IsTrip h₂ (n + 4) a b c := hs₂.extBut _ _ (ne_ (by omega)) (hs₁.extBut _ _ (ne_ (by omega)) hTO)
 refine wpAny_bind (wpAny_seqItems hTO₂ rfl ?_)
 refine wpAny_bind (update_trip hTO₂ fun h₃ hTO₃ hs₃ => ?_)
 replace hTO₃ : IsTrip h₃ (n + 4) x b c := hTO₃
 refine wpAny_bind (wpAny_letGo (wpAny_pure ?_))
 refine wpAny_bind (wpAny_bind (wpAny_onRaise ?_))
 show wpAny _ _ (Builtin.SmallTypes.nextOf (.ref (n + 1)) >>= _) _ _ _
 have k3 : ∀ b o, b ≠ n + 5 → b ≠ n → b ≠ n + 4 → s.heap.get? b = some o → h₃.get? b = some o := fun b o b1 b2 b3 e => hs₃.extBut _ _ b3 (hs₂.extBut _ _ b2 (hs₁.extBut _ _ b1 e))
 refine wpAny_bind (wpAny_nextOf_list_item (h2.at fun o e => k3 _ o (ne_ (by omega)) (ne_ (by omega)) (ne_ (by omega)) e) (hl2.at fun o e => k3 _ o (ne_ (by omega)) (ne_ (by omega)) (ne_ (by omega)) e) hy fun h₄ h2₄ hs₄ => wpAny_pure ?_)
 have hTO₄ : IsTrip h₄ (n + 4) x b c := hs₄.extBut _ _ (ne_ (by omega)) hTO₃
 refine wpAny_bind (wpAny_seqItems hTO₄ rfl ?_)
 refine wpAny_bind (update_trip hTO₄ fun h₅ hTO₅ hs₅ => ?_)
 replace hTO₅ : IsTrip h₅ (n + 4) x y c := hTO₅
 refine wpAny_bind (wpAny_letGo (wpAny_pure ?_))
 refine wpAny_bind (wpAny_bind (wpAny_onRaise ?_))
 show wpAny _ _ (Builtin.SmallTypes.nextOf (.ref (n + 2)) >>= _) _ _ _
 have k5 : ∀ b o, b ≠ n + 5 → b ≠ n → b ≠ n + 1 → b ≠ n + 4 → s.heap.get? b = some o → h₅.get? b = some o := fun b o b1 b2 b3 b4 e => hs₅.extBut _ _ b4 (hs₄.extBut _ _ b3 (k3 b o b1 b2 b4 e))
 refine wpAny_bind (wpAny_nextOf_list_item (h3.at fun o e => k5 _ o (ne_ (by omega)) (ne_ (by omega)) (ne_ (by omega)) (ne_ (by omega)) e) (hl3.at fun o e => k5 _ o (ne_ (by omega)) (ne_ (by omega)) (ne_ (by omega)) (ne_ (by omega)) e) hw fun h₆ h3₆ hs₆ => wpAny_pure ?_)
 have hTO₆ : IsTrip h₆ (n + 4) x y c := hs₆.extBut _ _ (ne_ (by omega)) hTO₅
 refine wpAny_bind (wpAny_seqItems hTO₆ rfl ?_)
 refine wpAny_bind (update_trip hTO₆ fun h₇ hTO₇ hs₇ => ?_)
 replace hTO₇ : IsTrip h₇ (n + 4) x y z := hTO₇
 refine wpAny_bind (wpAny_letGo (wpAny_pure (wpAny_pure ?_)))
 refine wpAny_bind (wpAny_seqItems hTO₇ rfl ?_)
 refine wpAny_bind (wpAny_newTuple ?_)
 have hsz : h₇.objs.size = s.heap.objs.size := by rw [hs₇.1, hs₆.1, hs₅.1, hs₄.1, hs₃.1, hs₂.1, hs₁.1]
 have hz₇ : IsZip h₇ (n + 5) (n + 3) (n + 4) .ellipsis := hs₇.extBut _ _ (ne_ (by omega)) (hs₆.extBut _ _ (ne_ (by omega)) (hs₅.extBut _ _ (ne_ (by omega)) (hs₄.extBut _ _ (ne_ (by omega)) (hs₃.extBut _ _ (ne_ (by omega)) (hs₂.extBut _ _ (ne_ (by omega)) hz₁)))))
 have k7 : ∀ b o, (b < n ∨ b = n + 3 ∨ n + 5 < b) → s.heap.get? b = some o → h₇.get? b = some o := fun b o hb e => hs₇.extBut _ _ (ne_ (by omega)) (hs₆.extBut _ _ (ne_ (by omega)) (k5 b o (ne_ (by omega)) (ne_ (by omega)) (ne_ (by omega)) (ne_ (by omega)) e))
 have h1₇ : h₇.IsListIter n l1 (k + 1) := h1₂.at fun o e => hs₇.extBut _ _ (ne_ (by omega)) (hs₆.extBut _ _ (ne_ (by omega)) (hs₅.extBut _ _ (ne_ (by omega)) (hs₄.extBut _ _ (ne_ (by omega)) (hs₃.extBut _ _ (ne_ (by omega)) e))))
 have h2₇ : h₇.IsListIter (n + 1) l2 (k + 1) := h2₄.at fun o e => hs₇.extBut _ _ (ne_ (by omega)) (hs₆.extBut _ _ (ne_ (by omega)) (hs₅.extBut _ _ (ne_ (by omega)) e))
 have h3₇ : h₇.IsListIter (n + 2) l3 (k + 1) := h3₆.at fun o e => hs₇.extBut _ _ (ne_ (by omega)) e
 have hzlt : n + 5 < h₇.objs.size := Heap.lt_size hz₇
 show wpAny _ _ (Builtin.SmallTypes.ownedTupleHandOut (.ref (n + 5)) (.ref h₇.objs.size) >>= _) _ _ _
 refine wpAny_bind ?_
 unfold Builtin.SmallTypes.ownedTupleHandOut
 have hz₈ : IsZip (h₇.push { cls := .type "tuple", data := .seq #[x, y, z] }) (n + 5) (n + 3) (n + 4) .ellipsis := Heap.get?_push_of_some _ hz₇
 refine wpAny_bind (wpAny_setField_rec hz₈ (by simp) fun h₉ hz₉ hs₉ => ?_)
 replace hz₉ : IsZip h₉ (n + 5) (n + 3) (n + 4) (rawInt h₇.objs.size) := hz₉
 refine wpAny_setField_rec hz₉ (by simp) fun hA hzA hsA => ?_
 replace hzA : IsZip hA (n + 5) (n + 3) (n + 4) (rawInt h₇.objs.size) := hzA
 have up : ∀ c o, c ≠ n + 5 → h₇.get? c = some o → hA.get? c = some o := fun c o c1 e => hsA.extBut _ _ c1 (hs₉.extBut _ _ c1 (Heap.get?_push_of_some _ e))
 have hTA : IsTrip hA h₇.objs.size x y z := hsA.extBut _ _ (Nat.ne_of_gt hzlt) (hs₉.extBut _ _ (Nat.ne_of_gt hzlt) (Heap.get?_push_size _ rfl))
 have hzs : hA.objs.size = h₇.objs.size + 1 := by rw [hsA.1, hs₉.1, Heap.size_push]
 rw [hsz] at hzA hTA hzs
 refine wpAny_pure ⟨_, rfl, ?_⟩
 show Q (.ref h₇.objs.size) _
 rw [hsz]
 exact hQ hA ⟨hzA, up _ _ (ne_ (by omega)) (k7 _ _ (by omega) hTI), ⟨x, y, z, up _ _ (ne_ (by omega)) hTO₇⟩, h1₇.at fun o e => up _ o (ne_ (by omega)) e, h2₇.at fun o e => up _ o (ne_ (by omega)) e, h3₇.at fun o e => up _ o (ne_ (by omega)) e⟩ hTA hzs fun c o hc e => up c o (ne_ (by omega)) (k7 c o (by omega) e)
theorem zip3_end {n l1 l2 l3 : Nat} {k : Nat} {xs : Array Value} {Q : Fin → Shared → Prop} (hh : A.handled = none) (d1 : l1 < n) (Z : Zip3 s.heap n l1 l2 l3 k .none) (hl1 : s.heap.IsList l1 xs) (hx : xs[k]? = none)
  (hE : ∀ h' e, (∀ c o, (c < n ∨ n + 5 < c) → s.heap.get? c = some o → h'.get? c = some o) → (∃ o, h'.get? e = some o ∧ o.cls = .type "StopIteration") → E (.ref e) { s with heap := h' }) :
  wpAny (model prog w) A (Builtin.«zip.__next__» ⟨[.ref (n + 5)], []⟩) Q E s := by
 obtain ⟨hz, hTI, ⟨a, b, c, hTO⟩, h1, h2, h3⟩ := Z
 show wpAny _ _ (field (.ref (n + 5)) 2 >>= _) _ _ _
 refine wpAny_bind (wpAny_field hz rfl (x := .bool false) rfl ?_)
 show wpAny _ _ (field (.ref (n + 5)) 3 >>= _) _ _ _
 refine wpAny_bind (wpAny_field hz rfl (x := .ref (n + 3)) rfl ?_)
 refine wpAny_bind (wpAny_seqItems hTI rfl ?_)
 show wpAny _ _ (Builtin.SmallTypes.ownedTupleIsFree (.ref (n + 5)) >>= _) _ _ _
 refine wpAny_bind ?_
 unfold Builtin.SmallTypes.ownedTupleIsFree
 refine wpAny_bind (wpAny_field hz rfl (x := .none) rfl (wpAny_pure ?_))
 simp only [if_true]
 refine wpAny_bind (wpAny_rule ?_)
 refine wpAny_bind (wpAny_field hz rfl (x := .ref (n + 4)) rfl ?_)
 refine wpAny_bind (wpAny_setField_rec hz (by simp) fun h₁ hz₁ hs₁ => ?_)
 replace hz₁ : IsZip h₁ (n + 5) (n + 3) (n + 4) .ellipsis := hz₁
 refine wpAny_bind ?_
 simp only [List.zipIdx_cons, List.zipIdx_nil, List.forIn_cons, List.forIn_nil]
 refine wpAny_bind (wpAny_bind (wpAny_onRaise ?_))
 show wpAny _ _ (Builtin.SmallTypes.nextOf (.ref n) >>= _) _ _ _
 refine wpAny_bind (wpAny_nextOf_list_end hh (h1.extBut hs₁.extBut (ne_ (by omega))) (hl1.extBut hs₁.extBut (ne_ (by omega))) hx fun h₂ e hs₂ he => ?_)
 obtain ⟨oe, hoe, hce⟩ := he
 have hz₂ : IsZip h₂ (n + 5) (n + 3) (n + 4) .ellipsis := hs₂ _ _ (ne_ (by omega)) hz₁
 have hez : e ≠ n + 5 := fun x => by subst x; rw [hz₂] at hoe; cases hoe; simp at hce
 refine wpAny_setField_rec hz₂ (by simp) fun h₃ _ hs₃ => hE h₃ e (fun c o hc x => hs₃.extBut _ _ (ne_ (by omega)) (hs₂ _ _ (ne_ (by omega)) (hs₁.extBut _ _ (ne_ (by omega)) x))) ⟨oe, hs₃.extBut _ _ hez hoe, hce⟩
theorem next_zip3_item {n l1 l2 l3 : Nat} {k : Nat} {xs ys zs : Array Value} {x y z : Value} {Q : Option Value → Shared → Prop} (d1 : l1 < n) (d2 : l2 < n) (d3 : l3 < n) (Z : Zip3 s.heap n l1 l2 l3 k .none)
  (hl1 : s.heap.IsList l1 xs) (hl2 : s.heap.IsList l2 ys) (hl3 : s.heap.IsList l3 zs) (hx : xs[k]? = some x) (hy : ys[k]? = some y) (hw : zs[k]? = some z)
  (hQ : ∀ h', Zip3 h' n l1 l2 l3 (k + 1) (rawInt s.heap.objs.size) → IsTrip h' s.heap.objs.size x y z → h'.objs.size = s.heap.objs.size + 1 →
   (∀ c o, (c < n ∨ n + 5 < c) → s.heap.get? c = some o → h'.get? c = some o) → Q (some (.ref s.heap.objs.size)) { s with heap := h' }) :
  wpAny (model prog w) A (pyNext (.ref (n + 5))) Q E s := by
 have hT : s.TypeIs (.ref (n + 5)) "zip" := ⟨_, Z.z, rfl⟩
 unfold pyNext
 exact wpAny_bind (wpAny_attempt (wpAny_callSpecial?_slot (name := Str.ofString "__next__") hT PySem.F.slot_zip_next
  (wpAny_call_entry PySem.F.slot_zip_next hT PySem.F.entry_zip_next
   (zip3_item d1 d2 d3 Z hl1 hl2 hl3 hx hy hw fun h' a1 a2 a3 a4 => wpAny_pure (hQ h' a1 a2 a3 a4)) (PySem.F.args_zip_next_1 _))))
theorem next_zip3_end {n l1 l2 l3 : Nat} {k : Nat} {xs : Array Value} {Q : Option Value → Shared → Prop} (hh : A.handled = none) (d1 : l1 < n) (Z : Zip3 s.heap n l1 l2 l3 k .none) (hl1 : s.heap.IsList l1 xs) (hx : xs[k]? = none)
  (hQ : ∀ h', (∀ c o, (c < n ∨ n + 5 < c) → s.heap.get? c = some o → h'.get? c = some o) → Q none { s with heap := h' }) : wpAny (model prog w) A (pyNext (.ref (n + 5))) Q E s := by
 have hT : s.TypeIs (.ref (n + 5)) "zip" := ⟨_, Z.z, rfl⟩
 unfold pyNext
 refine wpAny_bind (wpAny_attempt (wpAny_callSpecial?_slot (name := Str.ofString "__next__") hT PySem.F.slot_zip_next
  (wpAny_call_entry PySem.F.slot_zip_next hT PySem.F.entry_zip_next (zip3_end hh d1 Z hl1 hx fun h' e hk he => ?_) (PySem.F.args_zip_next_1 _))))
 obtain ⟨o, ho, hc⟩ := he
 refine wpAny_bind (wpAny_isInstance (T := "StopIteration") (b := true) ⟨o, ho, hc⟩ isSubtype_stop ?_)
 exact wpAny_pure (hQ _ hk)
end
abbrev z3H1 (h : Heap) (l1 : Addr) : Heap := h.push { cls := .type "list_iterator", data := .fields #[.ref l1, .int 0 0] }
abbrev z3H2 (h : Heap) (l1 l2 : Addr) : Heap := (z3H1 h l1).push { cls := .type "list_iterator", data := .fields #[.ref l2, .int 0 0] }
abbrev z3H3 (h : Heap) (l1 l2 l3 : Addr) : Heap := (z3H2 h l1 l2).push { cls := .type "list_iterator", data := .fields #[.ref l3, .int 0 0] }
abbrev z3H4 (h : Heap) (l1 l2 l3 : Addr) : Heap := (z3H3 h l1 l2 l3).push { cls := .type "tuple", data := .seq #[.ref h.objs.size, .ref (z3H1 h l1).objs.size, .ref (z3H2 h l1 l2).objs.size] }
abbrev z3H5 (h : Heap) (l1 l2 l3 : Addr) : Heap := (z3H4 h l1 l2 l3).push { cls := .type "tuple", data := .seq #[.none, .none, .none] }
abbrev z3H6 (h : Heap) (l1 l2 l3 : Addr) : Heap := (z3H5 h l1 l2 l3).push { cls := .type "zip", data := .fields #[.none, .bool false, .bool false, .ref (z3H3 h l1 l2 l3).objs.size, .ref (z3H4 h l1 l2 l3).objs.size] }
theorem meets_zip3 (l1 l2 l3 : Addr) (xs ys zs : Array Value) :
  Meets (Builtin.«zip.__new__» ⟨[.type "zip", .ref l1, .ref l2, .ref l3], []⟩) (fun _ R s => s.heap.IsList l1 xs ∧ s.heap.IsList l2 ys ∧ s.heap.IsList l3 zs ∧
   R (.ok (.ret (.ref (z3H5 s.heap l1 l2 l3).objs.size))) { s with heap := z3H6 s.heap l1 l2 l3 }) :=
 .of_wp fun prog w A R s h => by
  obtain ⟨hp, g, d, tk, os⟩ := s; obtain ⟨hl1, hl2, hl3, h⟩ := h
  have hsub := sub_zip
  have hL1 : Heap.IsList (Shared.heap ⟨hp, g, d, tk, os⟩) l1 xs := hl1
  have hL2 : Heap.IsList (Shared.heap ⟨hp.push { cls := .type "list_iterator", data := .fields #[.ref l1, .int 0 0] }, g, d, tk, os⟩) l2 ys := Heap.IsList.push hl2 _
  have hL3 : Heap.IsList (Shared.heap ⟨(hp.push { cls := .type "list_iterator", data := .fields #[.ref l1, .int 0 0] }).push { cls := .type "list_iterator", data := .fields #[.ref l2, .int 0 0] }, g, d, tk, os⟩) l3 zs := Heap.IsList.push (Heap.IsList.push hl3 _) _
  wp_walk using wpAny_pyIter_list hL1, wpAny_pyIter_list hL2, wpAny_pyIter_list hL3
  exact ⟨_, rfl, h⟩
section
variable {prog : Program} {w : World} {A : Around} {E : Value → Shared → Prop} {s : Shared}
theorem call_zip3 {l1 l2 l3 : Addr} {xs ys zs : Array Value} {Q : Value → Shared → Prop} (hl1 : s.heap.IsList l1 xs) (hl2 : s.heap.IsList l2 ys) (hl3 : s.heap.IsList l3 zs)
  (h : ∀ h', Zip3 h' s.heap.objs.size l1 l2 l3 0 .none → h'.objs.size = s.heap.objs.size + 6 → (∀ c o, s.heap.get? c = some o → h'.get? c = some o) → Q (.ref (s.heap.objs.size + 5)) { s with heap := h' }) :
  wpAny (model prog w) A (call (.type "zip") [.ref l1, .ref l2, .ref l3]) Q E s := by
 refine callType_new PySem.F.called_zip (by decide) (typeCall_zip3 _ _ _) (newCall_zip3 _ _ _) (fun obj => args_object_init4 obj _ _ _) PySem.F.entry_zip_new
  (meets_zip3 l1 l2 l3 xs ys zs) ⟨hl1, hl2, hl3, ?_⟩
 have z1 : (z3H1 s.heap l1).objs.size = s.heap.objs.size + 1 := Heap.size_push ..
 have z2 : (z3H2 s.heap l1 l2).objs.size = s.heap.objs.size + 2 := by rw [Heap.size_push, z1]
 have z3 : (z3H3 s.heap l1 l2 l3).objs.size = s.heap.objs.size + 3 := by rw [Heap.size_push, z2]
 have z4 : (z3H4 s.heap l1 l2 l3).objs.size = s.heap.objs.size + 4 := by rw [Heap.size_push, z3]
 have z5 : (z3H5 s.heap l1 l2 l3).objs.size = s.heap.objs.size + 5 := by rw [Heap.size_push, z4]
 have z6 : (z3H6 s.heap l1 l2 l3).objs.size = s.heap.objs.size + 6 := by rw [Heap.size_push, z5]
 have g6 : (z3H6 s.heap l1 l2 l3).get? (z3H5 s.heap l1 l2 l3).objs.size = some _ := Heap.get?_push_size _ rfl
 have g5 : (z3H6 s.heap l1 l2 l3).get? (z3H4 s.heap l1 l2 l3).objs.size = some _ := Heap.get?_push_of_some _ (Heap.get?_push_size _ rfl)
 have g4 : (z3H6 s.heap l1 l2 l3).get? (z3H3 s.heap l1 l2 l3).objs.size = some _ := Heap.get?_push_of_some _ (Heap.get?_push_of_some _ (Heap.get?_push_size _ rfl))
 have g3 : (z3H6 s.heap l1 l2 l3).get? (z3H2 s.heap l1 l2).objs.size = some _ := Heap.get?_push_of_some _ (Heap.get?_push_of_some _ (Heap.get?_push_of_some _ (Heap.get?_push_size _ rfl)))
 have g2 : (z3H6 s.heap l1 l2 l3).get? (z3H1 s.heap l1).objs.size = some _ := Heap.get?_push_of_some _ (Heap.get?_push_of_some _ (Heap.get?_push_of_some _ (Heap.get?_push_of_some _ (Heap.get?_push_size _ rfl))))
 have g1 : (z3H6 s.heap l1 l2 l3).get? s.heap.objs.size = some _ := Heap.get?_push_of_some _ (Heap.get?_push_of_some _ (Heap.get?_push_of_some _ (Heap.get?_push_of_some _ (Heap.get?_push_of_some _ (Heap.get?_push_size _ rfl)))))
 show _ ∧ _
 rw [z3, z4, z5] at g6
 rw [z1, z2, z3] at g4
 rw [z4] at g5
 rw [z2] at g3
 rw [z1] at g2
 rw [z5]
 exact ⟨⟨_, g6, rfl⟩, h _ ⟨g6, g4, ⟨_, _, _, g5⟩, ⟨_, g1, rfl, rfl⟩, ⟨_, g2, rfl, rfl⟩, ⟨_, g3, rfl, rfl⟩⟩ z6 fun c o x =>
  Heap.get?_push_of_some _ (Heap.get?_push_of_some _ (Heap.get?_push_of_some _ (Heap.get?_push_of_some _ (Heap.get?_push_of_some _ (Heap.get?_push_of_some _ x)))))⟩
end
end L2
end
section
namespace L2
open PySem PySem.Spec PyProof.Rows
theorem boot_list7 : bootBuiltins "list" = some (.type "list") := by decide +kernel
theorem Vals.rev : ∀ {xs : List V} {us : List Value}, Vals xs us → Vals xs.reverse us.reverse
 | _, _, .nil => .nil
 | _, _, .cons r t => by
  rw [List.reverse_cons, List.reverse_cons]
  exact (Vals.rev t).append (.cons r .nil)
theorem items_rev {its : List Value} {acc : Array Value} (h : ItemsOf (fun i v => its.toArray[its.toArray.size - 1 - i]? = some v) acc its.toArray.size) : acc = its.reverse.toArray := by
 obtain ⟨hz, hi⟩ := h
 have hz : acc.size = its.length := by simpa using hz
 refine Array.ext (by simp [hz]) fun i h1 h2 => ?_
 have q := hi i acc[i] (Array.getElem?_eq_getElem h1)
 have q2 : its[its.length - 1 - i]? = some acc[i] := by simpa using q
 have h3 : i < its.length := by omega
 rw [List.getElem?_eq_getElem (by omega)] at q2
 have q3 := Option.some.inj q2
 rw [← q3]
 simp
def tRevL (K : PySem.W.Frag) (te : TE) : TE := fun σ H Q => te σ H fun x H1 => ∃ a xs, x = .ref a ∧ SqL K H1 a xs ∧ ∀ l, H1 l = none → Q (.ref l) (upd H1 l (.lst xs.reverse))
theorem pe_listRev {X : Cx} {e : Expr} {te : TE} {p p2 pos pos2 : Pos} (hc : X.calm = true) (hg : Gl X "list") (hm : X.mg "list" = none) (hg2 : Gl X "reversed") (hm2 : X.mg "reversed" = none) (he : PE X e te)
  (hs2 : starEach [e] X.env = [(false, eval e X.env)] := by rfl)
  (hs : starEach [.Call (.Name "reversed" p2) [e] [] pos2] X.env = [(false, eval (.Call (.Name "reversed" p2) [e] [] pos2) X.env)] := by rfl) :
  PE X (.Call (.Name "list" p) [.Call (.Name "reversed" p2) [e] [] pos2] [] pos) (tRevL X.K te) := by
 intro pins s σ H Q I h
 refine wpAny_Call_Name_kw (ld_blt I hg hm boot_list7 ?_ (by decide) (by decide))
 refine PyProof.Rows.callWith_type1 ?_ hs rfl
 rw [hs]
 show wpAny _ _ (spliced ((false, eval (.Call (.Name "reversed" p2) [e] [] pos2) X.env) :: [])) _ _ s
 refine Calls.spliced_cons ?_
 refine wpAny_Call_Name_kw (ld_blt I hg2 hm2 boot_reversed5 ?_ (by decide) (by decide))
 refine PyProof.Rows.callWith_type1 ?_ hs2 rfl
 rw [hs2]
 show wpAny _ _ (spliced ((false, eval e X.env) :: [])) _ _ s
 refine Calls.spliced_cons (thn (he pins s σ H _ I h) fun u s1 ⟨x, H1, I1, r1, q1⟩ => ?_)
 obtain ⟨a, xs, ex, hq, q⟩ := q1
 subst ex
 obtain rfl : u = Value.ref a := r1
 refine Calls.spliced_nil ?_
 obtain ⟨its, rv, pl, hz⟩ := I1.list hq
 refine call_reversed_list pl.isList ?_
 refine Calls.spliced_nil ?_
 have la : a < s1.heap.objs.size := pl.lt
 have hz2 : its.toArray.size ≤ sizeLine := by
  have := rv.length
  simp; omega
 refine call_list_rev (l := a) (items := its.toArray) (s := { s1 with heap := s1.heap.push (revObj a ((its.toArray.size : Int) - 1)) }) (I1.ok.hd hc) ⟨_, Heap.get?_push_size _ rfl, rfl, rfl⟩ (pl.isList.at fun o e => Heap.get?_push_of_some _ e) (Nat.ne_of_lt la) hz2 fun h' tk acc' c' hk hS hacc => ?_
 have I2 : Inv X pins σ H1 { s1 with heap := s1.heap.push (revObj a ((its.toArray.size : Int) - 1)) } := I1.kept (t' := s1.toks) fun b o e => Heap.get?_push_of_some _ e
 have ea := items_rev hacc
 subst ea
 have new : ObjOk X.prog X.w (upd H1 (s1.heap.push (revObj a ((its.toArray.size : Int) - 1))).objs.size (.lst xs.reverse)) h' (s1.heap.push (revObj a ((its.toArray.size : Int) - 1))).objs.size (.lst xs.reverse) :=
  ⟨by rw [List.length_reverse]; exact hz, its.reverse, c', rv.rev, hS⟩
 have hle : s1.heap.objs.size ≤ (s1.heap.push (revObj a ((its.toArray.size : Int) - 1))).objs.size := by rw [Heap.size_push]; exact Nat.le_succ _
 refine ⟨.ref _, _, I2.turnedNew (t' := tk) (ch := [s1.heap.objs.size]) (fun b o hb e => hk b o (fun z => hb (by simp [z])) e) (fun b hb => ?_) (Nat.le_refl _) new, rfl, q _ (I1.hok.fresh hle)⟩
 have e : b = s1.heap.objs.size := by simpa using hb
 subst e
 exact I1.fpOk (Nat.le_refl _) (I1.hok.fresh (Nat.le_refl _))
theorem zip3_out {n c : Nat} (h : c ∉ [n + 5, n + 3, n + 4, n, n + 1, n + 2]) : (c < n ∨ n + 5 < c) ∧ c ≠ n + 5 := by
 simp at h
 omega
theorem zip3_in {n c : Nat} (h : c ∈ [n + 5, n + 3, n + 4, n, n + 1, n + 2]) : n ≤ c ∧ c ≤ n + 5 := by
 simp at h
 omega
theorem lt_ne {a b c : Nat} (h : a ≤ b) (h2 : b < c) : a ≠ c := by omega
def Itz3 (K : PySem.W.Frag) (a b c : Addr) (m : Nat) : It :=
 ⟨fun i H => i < m ∧ ∃ (xs ys zs : List V) (x y z : V), SqL K H a xs ∧ SqL K H b ys ∧ SqL K H c zs ∧ xs[i]? = some x ∧ ys[i]? = some y ∧ zs[i]? = some z,
  fun i H v H' => ∃ T x y z, v = .ref T ∧ H T = none ∧ H' = upd H T (.tup [x, y, z]) ∧ (∀ xs, SqL K H a xs → xs[i]? = some x) ∧ (∀ ys, SqL K H b ys → ys[i]? = some y) ∧ ∀ zs, SqL K H c zs → zs[i]? = some z,
  fun i H => ∃ xs : List V, SqL K H a xs ∧ xs.length ≤ i⟩
theorem turn_zip3 {P : Program} {w : World} {K : PySem.W.Frag} {elts : List Expr} {kk : Nat} {tpos : Pos} {n a b c : Nat} {m : Nat} (d1 : a < n) (d2 : b < n) (d3 : c < n) :
  Turn P w K (.Tuple elts kk tpos) (Itz3 K a b c m) [n + 5, n + 3, n + 4, n, n + 1, n + 2] (n + 5) (fun i h => Zip3 h n a b c i .none) where
 mem := by simp
 obj := fun i h st q hq => by
  obtain ⟨hz, hTI, ⟨x, y, z, hTO⟩, ⟨o1, e1, _, f1⟩, ⟨o2, e2, _, f2⟩, ⟨o3, e3, _, f3⟩⟩ := st
  have e' : q = n + 5 ∨ q = n + 3 ∨ q = n + 4 ∨ q = n ∨ q = n + 1 ∨ q = n + 2 := by simpa using hq
  rcases e' with r | r | r | r | r | r
  ·rw [r]; exact ⟨_, hz, fun v q => nomatch q⟩
  ·rw [r]; exact ⟨_, hTI, fun v q => nomatch q⟩
  ·rw [r]; exact ⟨_, hTO, fun v q => nomatch q⟩
  ·rw [r]; exact ⟨o1, e1, fun v q => by rw [f1] at q; cases q⟩
  ·rw [r]; exact ⟨o2, e2, fun v q => by rw [f2] at q; cases q⟩
  ·rw [r]; exact ⟨o3, e3, fun v q => by rw [f3] at q; cases q⟩
 keep := fun i h h' st k => by
  obtain ⟨hz, hTI, ⟨x, y, z, hTO⟩, h1, h2, h3⟩ := st
  exact ⟨k _ (by simp) _ hz, k _ (by simp) _ hTI, ⟨x, y, z, k _ (by simp) _ hTO⟩, h1.at fun o q => k _ (by simp) o q, h2.at fun o q => k _ (by simp) o q, h3.at fun o q => k _ (by simp) o q⟩
 item := by
  intro X hP hw hK hc i pins s σ H E I hf st hg
  subst hP hw hK
  obtain ⟨_, xs, ys, zs, x, y, z, hqx, hqy, hqz, hx, hy, hz⟩ := hg
  obtain ⟨its, rv, p, _⟩ := I.list hqx
  obtain ⟨its2, rv2, p2, _⟩ := I.list hqy
  obtain ⟨its3, rv3, p3, _⟩ := I.list hqz
  obtain ⟨u, hu, ru⟩ := rv.get hx
  obtain ⟨u2, hu2, ru2⟩ := rv2.get hy
  obtain ⟨u3, hu3, ru3⟩ := rv3.get hz
  have hzl : n + 5 < s.heap.objs.size := Heap.lt_size st.z
  refine next_zip3_item d1 d2 d3 st p.isList p2.isList p3.isList (x := u) (y := u2) (z := u3) (by simpa using hu) (by simpa using hu2) (by simpa using hu3) fun h' Z' hT hsz hk => ?_
  refine ⟨_, rfl, wpAny_letOwnedTupleGo_zip (s := { s with heap := h' }) Z'.z fun h'' z'' sb => ?_⟩
  have hT2 : h''.get? s.heap.objs.size = some { cls := .type "tuple", data := .seq #[u, u2, u3] } := (sb.2 _ (Nat.ne_of_gt hzl)).trans hT
  have new : ObjOk X.prog X.w (upd H s.heap.objs.size (.tup [x, y, z])) h'' s.heap.objs.size (.tup [x, y, z]) :=
   ⟨by show 3 ≤ sizeLine; decide, [u, u2, u3], .cons ru (.cons ru2 (.cons ru3 .nil)), ⟨_, hT2, rfl, _, rfl⟩⟩
  have I1 : Inv X pins σ (upd H s.heap.objs.size (.tup [x, y, z])) { s with heap := h'' } :=
   I.turnedNew (t' := s.toks) (ch := [n + 5, n + 3, n + 4, n, n + 1, n + 2]) (fun c o hb q => (sb.2 c (zip3_out hb).2).trans (hk c o (zip3_out hb).1 q)) hf (Nat.le_refl _) new
  refine ⟨.ref s.heap.objs.size, _, I1, rfl, ⟨_, x, y, z, rfl, I.hok.fresh (Nat.le_refl _), rfl, fun l hl => by rw [I.list_inj hl hqx]; exact hx, fun l hl => by rw [I.list_inj hl hqy]; exact hy, fun l hl => by rw [I.list_inj hl hqz]; exact hz⟩, ?_, fun q hq => ?_⟩
  ·obtain ⟨_, hTI, ⟨x', y', w', hTO⟩, h1, h2, h3⟩ := Z'
   exact ⟨z'', (sb.2 _ (ne_ (by omega))).trans hTI, ⟨x', y', w', (sb.2 _ (ne_ (by omega))).trans hTO⟩, h1.at fun o q => (sb.2 _ (ne_ (by omega))).trans q, h2.at fun o q => (sb.2 _ (ne_ (by omega))).trans q, h3.at fun o q => (sb.2 _ (ne_ (by omega))).trans q⟩
  ·rw [upd_ne (lt_ne (zip3_in hq).2 hzl)]
   exact (hf q hq).1
 done := by
  intro X hP hw hK hc i pins s σ H E I hf st hg
  subst hP hw hK
  obtain ⟨xs, hqx, hend⟩ := hg
  obtain ⟨its, rv, p, _⟩ := I.list hqx
  have l1 := rv.length
  have he : its.toArray[i]? = none := by simp; omega
  exact next_zip3_end (I.ok.hd hc) d1 st p.isList he fun h' hk => ⟨rfl, I.turnedL (t' := s.toks) (ch := [n + 5, n + 3, n + 4, n, n + 1, n + 2]) (fun c o hb q => hk c o (zip3_out hb).1 q) hf⟩
 self := fun A i s Q E st h => wpAny_pyIter_zip st.z h
def iZip3 (K : PySem.W.Frag) (ta : TA) : TI := fun σ H R => ta σ H fun vs H1 => ∃ (a b c : Addr) (xs ys zs : List V), vs = [.ref a, .ref b, .ref c] ∧ SqL K H1 a xs ∧ SqL K H1 b ys ∧ SqL K H1 c zs ∧ R (Itz3 K a b c xs.length) H1
theorem pi_zip3 {X : Cx} {e e2 e3 : Expr} {ta : TA} {p pos tpos : Pos} {elts : List Expr} {kk : Nat} (hg : Gl X "zip") (hm : X.mg "zip" = none) (ha : PA X [e, e2, e3] ta)
  (hs : starEach [e, e2, e3] X.env = (false, eval e X.env) :: starEach [e2, e3] X.env := by rfl) (hpl : (backTo pos (starEach [e2, e3] X.env)).any (·.1) = false := by rfl) :
  PI X (.Tuple elts kk tpos) (.Call (.Name "zip" p) [e, e2, e3] [] pos) (iZip3 X.K ta) := by
 intro pins s σ H R I h
 refine Call_ (ld_blt I hg hm boot_zip5 (PyProof.Rows.callWith_type1 (thn (ha pos pins s σ H _ I h) fun us s1 ⟨vs, H1, I1, r1, q1⟩ => ?_) hs hpl))
 obtain ⟨a, b, c, xs, ys, zs, ex, hqx, hqy, hqz, q⟩ := q1
 subst ex
 cases r1 with
 | cons r rr =>
  cases rr with
  | cons r' rr =>
   cases rr with
   | cons r'' rr =>
    cases rr
    cases r
    cases r'
    cases r''
    obtain ⟨its, rv, p1, _⟩ := I1.list hqx
    obtain ⟨its2, rv2, p2, _⟩ := I1.list hqy
    obtain ⟨its3, rv3, p3, _⟩ := I1.list hqz
    refine call_zip3 p1.isList p2.isList p3.isList fun h' Z hsz hk => wpAny_pyIter_zip Z.z ?_
    have I2 : Inv X pins σ H1 { s1 with heap := h' } := I1.kept (t' := s1.toks) hk
    refine ⟨s1.heap.objs.size + 5, [s1.heap.objs.size + 5, s1.heap.objs.size + 3, s1.heap.objs.size + 4, s1.heap.objs.size, s1.heap.objs.size + 1, s1.heap.objs.size + 2], _, _, H1, rfl, I2, turn_zip3 p1.lt p2.lt p3.lt, Z, fun q hq => ?_, q⟩
    have hle : s1.heap.objs.size ≤ q := (zip3_in hq).1
    exact I1.fpOk hle (I1.hok.fresh hle)
theorem lc_zip {K : PySem.W.Frag} {a b : Addr} {xs ys : List V} {g : TG} {tt : TT} {te : TE} {vs : List Nat} {σ : St} {H1 : Hp} {D : Addr} {Qd : Hp → Prop} (hlen : xs.length = ys.length) (Pv : Nat → Hp → Prop) (h0 : Pv 0 (upd H1 D (.lst []))) (hl : ∀ i H, i ≤ xs.length → Pv i H → SqL K H a xs ∧ SqL K H b ys)
  (hs : ∀ i x y T H, xs[i]? = some x → ys[i]? = some y → H T = none → Pv i H → g (.ref T) (wipe σ vs) (upd H T (.tup [x, y])) fun σ2 H2 => wipe σ2 vs = wipe σ vs ∧ tt σ2 H2 fun b H3 =>
   if b = true then te σ2 H3 fun y H4 => ∃ acc, H4 D = some (.lst acc) ∧ acc.length < sizeLine ∧ Pv (i + 1) (upd H4 D (.lst (acc ++ [y]))) else Pv (i + 1) H3) (hd : ∀ H, Pv xs.length H → Qd H) :
  ∃ W : Nat → Nat → Hp → Prop, (∃ m, W 0 m (upd H1 D (.lst []))) ∧ ∀ i m H, W i m H →
   ((Itz K a b).stop i H ∧ Qd H) ∨ ((Itz K a b).go i H ∧ ∃ Nx : Hp → Prop, (∀ H', Nx H' → ∃ m', m' < m ∧ W (i + 1) m' H') ∧ ∀ x H', (Itz K a b).yld i H x H' → g x (wipe σ vs) H' fun σ2 H2 => wipe σ2 vs = wipe σ vs ∧ tt σ2 H2 fun b H3 =>
    if b = true then te σ2 H3 fun y H4 => ∃ acc, H4 D = some (.lst acc) ∧ acc.length < sizeLine ∧ Nx (upd H4 D (.lst (acc ++ [y]))) else Nx H3) := by
 refine ⟨fun i m H => m = xs.length - i ∧ i ≤ xs.length ∧ Pv i H, ⟨xs.length, by simp, Nat.zero_le _, h0⟩, ?_⟩
 rintro i m H ⟨rfl, hi, p⟩
 obtain ⟨qa, qb⟩ := hl i H hi p
 by_cases hlt : i < xs.length
 ·have hlt2 : i < ys.length := by omega
  refine .inr ⟨⟨xs, ys, xs[i], ys[i], qa, qb, by simp [hlt], by simp [hlt2]⟩, Pv (i + 1), fun H' p' => ⟨xs.length - (i + 1), by omega, rfl, hlt, p'⟩, fun v H' y => ?_⟩
  obtain ⟨T, x, y, e1, e2, e3, e4, e5⟩ := y
  subst e1 e3
  exact hs i x y T H (e4 xs qa) (e5 ys qb) e2 p
 ·have e : i = xs.length := by omega
  subst e
  exact .inl ⟨⟨xs, ys, qa, qb, .inl (Nat.le_refl _)⟩, hd H p⟩
theorem lc_zip3 {K : PySem.W.Frag} {a b c : Addr} {xs ys zs : List V} {g : TG} {tt : TT} {te : TE} {vs : List Nat} {σ : St} {H1 : Hp} {D : Addr} {Qd : Hp → Prop} (hlen : xs.length = ys.length) (hlen2 : xs.length = zs.length) (Pv : Nat → Hp → Prop) (h0 : Pv 0 (upd H1 D (.lst []))) (hl : ∀ i H, i ≤ xs.length → Pv i H → SqL K H a xs ∧ SqL K H b ys ∧ SqL K H c zs)
  (hs : ∀ i x y z T H, xs[i]? = some x → ys[i]? = some y → zs[i]? = some z → H T = none → Pv i H → g (.ref T) (wipe σ vs) (upd H T (.tup [x, y, z])) fun σ2 H2 => wipe σ2 vs = wipe σ vs ∧ tt σ2 H2 fun b H3 =>
   if b = true then te σ2 H3 fun y H4 => ∃ acc, H4 D = some (.lst acc) ∧ acc.length < sizeLine ∧ Pv (i + 1) (upd H4 D (.lst (acc ++ [y]))) else Pv (i + 1) H3) (hd : ∀ H, Pv xs.length H → Qd H) :
  ∃ W : Nat → Nat → Hp → Prop, (∃ m, W 0 m (upd H1 D (.lst []))) ∧ ∀ i m H, W i m H →
   ((Itz3 K a b c xs.length).stop i H ∧ Qd H) ∨ ((Itz3 K a b c xs.length).go i H ∧ ∃ Nx : Hp → Prop, (∀ H', Nx H' → ∃ m', m' < m ∧ W (i + 1) m' H') ∧ ∀ x H', (Itz3 K a b c xs.length).yld i H x H' → g x (wipe σ vs) H' fun σ2 H2 => wipe σ2 vs = wipe σ vs ∧ tt σ2 H2 fun b H3 =>
    if b = true then te σ2 H3 fun y H4 => ∃ acc, H4 D = some (.lst acc) ∧ acc.length < sizeLine ∧ Nx (upd H4 D (.lst (acc ++ [y]))) else Nx H3) := by
 refine ⟨fun i m H => m = xs.length - i ∧ i ≤ xs.length ∧ Pv i H, ⟨xs.length, by simp, Nat.zero_le _, h0⟩, ?_⟩
 rintro i m H ⟨rfl, hi, p⟩
 obtain ⟨qa, qb, qc⟩ := hl i H hi p
 by_cases hlt : i < xs.length
 ·have hlt2 : i < ys.length := by omega
  have hlt3 : i < zs.length := by omega
  refine .inr ⟨⟨hlt, xs, ys, zs, xs[i], ys[i], zs[i], qa, qb, qc, by simp [hlt], by simp [hlt2], by simp [hlt3]⟩, Pv (i + 1), fun H' p' => ⟨xs.length - (i + 1), by omega, rfl, hlt, p'⟩, fun v H' y => ?_⟩
  obtain ⟨T, x, y, z, e1, e2, e3, e4, e5, e6⟩ := y
  subst e1 e3
  exact hs i x y z T H (e4 xs qa) (e5 ys qb) (e6 zs qc) e2 p
 ·have e : i = xs.length := by omega
  subst e
  exact .inl ⟨⟨xs, qa, Nat.le_refl _⟩, hd H p⟩
theorem for_keysT {d : Addr} {o : Obj} {kvs : List (List Key × V)} {g : TG} {tb : TS} {D : Ends} {σ : St} {H : Hp} (Pv : Nat → St → Hp → Prop) (h0 : Pv 0 σ H) (hl : ∀ i σ H, i ≤ kvs.length → Pv i σ H → H d = some (.frz o (.dT kvs)))
  (hs : ∀ i k v T σ H, kvs[i]? = some (k, v) → H T = some (.tup (k.map kV)) → Pv i σ H → g (.ref T) σ H fun σ2 H2 => tb { D with nx := Pv (i + 1), ct := Pv (i + 1), bk := D.nx } σ2 H2) (hd : ∀ σ H, Pv kvs.length σ H → D.nx σ H) :
  ∃ W : Nat → Nat → St → Hp → Prop, (∃ m, W 0 m σ H) ∧ ∀ i m σ H, W i m σ H →
   ((Itkt d o kvs).stop i H ∧ D.nx σ H) ∨ ((Itkt d o kvs).go i H ∧ ∃ N : St → Hp → Prop, (∀ σ' H', N σ' H' → ∃ m', m' < m ∧ W (i + 1) m' σ' H') ∧ ∀ x H', (Itkt d o kvs).yld i H x H' → g x σ H' fun σ2 H2 => tb { D with nx := N, ct := N, bk := D.nx } σ2 H2) := by
 refine ⟨fun i m σ H => m = kvs.length - i ∧ i ≤ kvs.length ∧ Pv i σ H, ⟨kvs.length, by simp, Nat.zero_le _, h0⟩, ?_⟩
 rintro i m σ H ⟨rfl, hi, p⟩
 have q := hl i σ H hi p
 by_cases hlt : i < kvs.length
 ·refine .inr ⟨⟨q, hlt⟩, Pv (i + 1), fun σ' H' p' => ⟨kvs.length - (i + 1), by omega, rfl, hlt, p'⟩, fun x H' y => ?_⟩
  obtain ⟨e0, k, v, T, e1, e2, e3⟩ := y
  subst e0 e2
  exact hs i k v T σ _ e1 e3 p
 ·have e : i = kvs.length := by omega
  subst e
  exact .inl ⟨⟨q, Nat.le_refl _⟩, hd σ H p⟩
section
variable {X : Cx}
theorem cr_dictC : CallR X (.type "dict") (fun xs H Q => ∃ (a : Addr) (kvs : List (Key × V)), xs = [V.ref a] ∧ Rd H a (.dK kvs) ∧ ∀ p, H p = none → Q (.ref p) (upd H p (.dK kvs))) := by
 intro pins s σ H vs us Q I r h
 obtain ⟨a, kvs, rfl, hd, q⟩ := h
 rw [Vals.ref1 r]
 exact d_copyOf I hd fun p s' hp I' => ⟨.ref p, _, I', rfl, q p hp⟩
theorem boot_dict7 : bootBuiltins "dict" = some (.type "dict") := by decide +kernel
end
def MkrA (P : Program) (w : World) (K : PySem.W.Frag) (mg : Str → Option Value) (base : Heap) (x : Str) (C : Addr) (k : Nat) (ps : List Str) (sp : Sp) : Prop :=
 ∃ (f : Addr) (fd : FuncData), Mk K C f ∧ FnOk P w K mg base CX0 k f fd ps sp ∧ mg x = some (.ref C) ∧ Binds K fd ps []
theorem pe_mkrA {X : Cx} {k : Nat} {C : Addr} {ps : List Str} {sp : Sp} {x : Str} {p pos : Pos} {e : Expr} {es : List Expr} {t : TA} (D : MkrA X.prog X.w X.K X.mg X.base x C k ps sp) (hr : Room (k + 1) X.A) (hg : Gl X x) (ha : PA X (e :: es) t) (hdb : (x == ("__debug__" : Str)) = false := by decide)
  (he : starEach (e :: es) X.env = (false, eval e X.env) :: starEach es X.env := by rfl) (hpl : (backTo pos (starEach es X.env)).any (·.1) = false := by rfl) :
  PE X (.Call (.Name x p) (e :: es) [] pos) (tMake C sp [] E0 t) := by
 obtain ⟨f, fd, M, F, hm, hb⟩ := D
 exact pe_make M F hr hg hm hb .nil pass0 ha hdb he hpl
section
variable {X : Cx} {Kx : PySem.W.Frag} {e : Expr} {f : Str} {pos : Pos} {ta : TE}
theorem pe_fldK (he : PE X e ta) (hb : attributeBase e f X.env (eval e X.env) = eval e X.env) (hK : X.K = Kx := by rfl) : PE X (.Attribute e f pos) (tFld Kx ta f) := by
 subst hK
 exact pe_fld he hb
theorem ix_tupK (hK : X.K = Kx := by rfl) : IxR X (rIxT Kx) := by
 subst hK
 exact ix_tup
theorem pg_tupK {es : List Expr} {k : Nat} {t : TGs} {n : Nat} (hc : X.calm = true) (h : PGs X es t) (hK : X.K = Kx := by rfl)
  (hn : (assignEach es X.env).length = n := by rfl) (hst : (assignEach es X.env).findIdx? (·.1) = none := by rfl) : PG X (.Tuple es k pos) (gTup Kx n t) := by
 subst hK
 exact pg_tup hc h hn hst
end
open Classical in
noncomputable def hide (B : Addr → Prop) (H : Hp) : Hp := fun b => if B b then none else H b
theorem hide_le {B : Addr → Prop} {H : Hp} : Same (hide B H) H := fun b o e => by
 unfold hide at e
 split at e
 ·cases e
 ·exact e
theorem hide_in {B : Addr → Prop} {H : Hp} {b : Addr} {o : HO} (n : ¬ B b) (e : H b = some o) : hide B H b = some o := by
 unfold hide; rw [if_neg n]; exact e
theorem hide_out {B : Addr → Prop} {H : Hp} {b : Addr} {o : HO} (e : hide B H b = some o) : ¬ B b := fun n => by
 unfold hide at e; rw [if_pos n] at e; cases e
theorem hide_same {B : Addr → Prop} {H H' : Hp} (s : Same H H') : Same (hide B H) (hide B H') := fun b o e => hide_in (hide_out e) (s b o (hide_le b o e))
theorem hide_but {B : Addr → Prop} {H H' : Hp} (s : ∀ b o, H b = some o → ¬ B b → H' b = some o) : Same (hide B H) (hide B H') := fun b o e => hide_in (hide_out e) (s b o (hide_le b o e) (hide_out e))
theorem hide_upd {B : Addr → Prop} {H : Hp} {a : Addr} {o : HO} (n : B a) : hide B (upd H a o) = hide B H := by
 funext b
 unfold hide
 by_cases q : B b
 ·rw [if_pos q, if_pos q]
 ·rw [if_neg q, if_neg q, upd_ne fun (z : b = a) => q (by rw [z]; exact n)]
def Taken (B : Addr → Prop) (H : Hp) : Prop := ∀ b, B b → H b ≠ none
theorem Taken.new {B : Addr → Prop} {H : Hp} (t : Taken B H) {b : Addr} (h : H b = none) : ¬ B b := fun n => t b n h
theorem Taken.mono {B : Addr → Prop} {H H' : Hp} (t : Taken B H) (s : Same H H') : Taken B H' := fun b n => by
 cases e : H b with
 | none => exact absurd e (t b n)
 | some o => rw [s b o e]; exact fun z => nomatch z
theorem hide_hide {B C : Addr → Prop} {H : Hp} (h : ∀ b, B b → C b) : Same (hide C H) (hide B H) := fun b o e => hide_in (fun n => hide_out e (h b n)) (hide_le b o e)
end L2
end
section
namespace Gw
open PySem PySem.Spec PyProof.Rows L2
theorem iteD {p A B : Prop} {ip : Decidable p} {inst : Decidable (@decide p ip = true)} (h1 : p → A) (h2 : ¬ p → B) : @ite Prop (@decide p ip = true) inst A B := by
 by_cases h : p
 ·exact (if_pos (decide_eq_true h)).mpr (h1 h)
 ·exact (if_neg (by rw [decide_eq_false h]; exact Bool.false_ne_true)).mpr (h2 h)
theorem iteB {b : Bool} {inst : Decidable (b = true)} {A B : Prop} (h1 : b = true → A) (h2 : b = false → B) : @ite Prop (b = true) inst A B := by
 cases b with
 | true => exact (if_pos rfl).mpr (h1 rfl)
 | false => exact (if_neg Bool.false_ne_true).mpr (h2 rfl)
theorem int_eq {a b : Int} : (V.int a = V.int b) ↔ a = b := ⟨fun h => by injection h, fun h => by rw [h]⟩
theorem lineLt1 {n m : Nat} (h : n ≤ m) (hm : m < sizeLine := by decide) : n < sizeLine := Nat.lt_of_le_of_lt h hm
def top (i : Nat) : Stmt := PySem.Challenge.pw_grownwords_s01_answers.main.body.getD i (.Pass ⟨0, 0, 0, 0⟩)
def StepsAt (K : PySem.W.Frag) (M : Addr) (ps : List (Int × Int)) : Prop := ∃ as : List Addr, as.length = ps.length ∧ (∀ H, SqT K H M (as.map V.ref)) ∧ ∀ (j : Nat) (a : Addr), as[j]? = some a → ∃ p, ps[j]? = some p ∧ ∀ H, SqT K H a [.int p.1, .int p.2]
structure Txt (K : PySem.W.Frag) (mg : Str → Option Value) : Prop where
 b_len : mg "len" = none
 b_ord : mg "ord" = none
 b_all : mg "all" = none
 b_sum : mg "sum" = none
 b_range : mg "range" = none
 b_max : mg "max" = none
 b_zip : mg "zip" = none
 b_list : mg "list" = none
 b_reversed : mg "reversed" = none
 b_dict : mg "dict" = none
 LAST_WORD : GI mg "LAST_WORD" 64
 TOO_MANY_SIGNS : GI mg "TOO_MANY_SIGNS" 4611686018427387904
 MOST_SIGNS : GI mg "MOST_SIGNS" 256
 GOING : GI mg "GOING" 46
 LEFT : GI mg "LEFT" 43
 RIGHT : GI mg "RIGHT" 45
 AROUND : GI mg "AROUND" 124
 OPENING : GI mg "OPENING" 91
 CLOSING : GI mg "CLOSING" 93
 LINE_END : GI mg "LINE_END" 10
 LONGEST_WRITTEN : GI mg "LONGEST_WRITTEN" 256
 MARKS : ∃ M : Addr, mg "MARKS" = some (.ref M) ∧ ∀ H, SqT K H M [.int 46, .int 43, .int 45, .int 124, .int 91, .int 93]
 STEPS_OF_4 : ∃ M : Addr, mg "STEPS_OF_4" = some (.ref M) ∧ StepsAt K M [(1, 0), (0, 1), (-1, 0), (0, -1)]
 STEPS_OF_6 : ∃ M : Addr, mg "STEPS_OF_6" = some (.ref M) ∧ StepsAt K M [(1, 0), (0, 1), (-1, 1), (-1, 0), (0, -1), (1, -1)]
section
variable {P : Program} {w : World} {K : PySem.W.Frag} {mg : Str → Option Value} {base : Heap}
def spBool (f : Nat → Bool) : Sp := fun vs H Q _ => ∃ c : Nat, vs = [.int (c : Int)] ∧ Q (.bl (f c)) H
abbrev st_is_capital : Stmt := top 9
theorem sc_is_capital : FnScope ["byte"] ["byte"] (defScope st_is_capital) := ⟨rfl, rfl, rfl, by decide +kernel, rfl, by decide +kernel, by decide +kernel⟩
theorem ok_is_capital {f : Addr} {fd : FuncData} (F : Fun K "is_capital" "is_capital" st_is_capital f fd) (T : Txt K mg) : FnOk P w K mg base CX0 1 f fd ["byte"] (spBool Kg35.isBig) := by
 refine F.ok sc_is_capital (fun vs H Q E h => ?_) (fun cdv A outer s H vs Q E hr h => ?_)
 ·obtain ⟨c, rfl, _⟩ := h
  rfl
 ·obtain ⟨c, rfl, k⟩ := h
  refine ⟨_, (pss_one (ps_ret (pe_chain op_le op_le (pe_callB call_ord (by rfl) T.b_ord PyProof.Rows.boot_ord (pa_cons pe_str pa_nil)) (pv 0) (pe_callB call_ord (by rfl) T.b_ord PyProof.Rows.boot_ord (pa_cons pe_str pa_nil))))), ?_⟩
  have key : ∀ b : Bool, b = Kg35.isBig c → Q (.bl b) H := fun b e => by rw [e]; exact k
  have fin : ∀ (p : Prop) [Decidable p], (p ↔ Kg35.isBig c = true) → Q (.bl (decide p)) H := fun p _ e => key _ (by rw [Bool.eq_iff_iff, decide_eq_true_iff]; exact e)
  have il : Kg35.isBig c = true ↔ 65 ≤ c ∧ c ≤ 90 := by simp [Kg35.isBig]
  refine ⟨_, rfl, rfl, _, rfl, _, _, rfl, rfl, _, rfl, ?_⟩
  refine iteD (fun h1 => ?_) (fun h1 => ?_)
  ·refine ⟨_, rfl, rfl, _, _, rfl, rfl, fin _ ?_⟩
   rw [il]
   have a1 : (65 : Int) ≤ c := h1
   show (c : Int) ≤ 90 ↔ _
   omega
  ·exact key false (by symm; rw [Bool.eq_false_iff, ne_eq, il]; have a1 : ¬ (65 : Int) ≤ c := h1; omega)
abbrev st_is_letter : Stmt := top 10
theorem sc_is_letter : FnScope ["byte"] ["byte"] (defScope st_is_letter) := ⟨rfl, rfl, rfl, by decide +kernel, rfl, by decide +kernel, by decide +kernel⟩
theorem ok_is_letter {f : Addr} {fd : FuncData} (F : Fun K "is_letter" "is_letter" st_is_letter f fd) (T : Txt K mg) (D_is_capital : Dfn P w K mg base "is_capital" 1 ["byte"] (spBool Kg35.isBig)) : FnOk P w K mg base CX0 2 f fd ["byte"] (spBool Kg35.isLetter) := by
 refine F.ok sc_is_letter (fun vs H Q E h => ?_) (fun cdv A outer s H vs Q E hr h => ?_)
 ·obtain ⟨c, rfl, _⟩ := h
  rfl
 ·obtain ⟨c, rfl, k⟩ := h
  refine ⟨_, (pss_one (ps_ret (pe_or (pe_dfn D_is_capital (hr.mono (by decide)) rfl (pa_cons (pv 0) pa_nil)) (pe_one (pe_chain op_le op_le (pe_callB call_ord (by rfl) T.b_ord PyProof.Rows.boot_ord (pa_cons pe_str pa_nil)) (pv 0) (pe_callB call_ord (by rfl) T.b_ord PyProof.Rows.boot_ord (pa_cons pe_str pa_nil))))))), ?_⟩
  have key : ∀ b : Bool, b = Kg35.isLetter c → Q (.bl b) H := fun b e => by rw [e]; exact k
  have fin : ∀ (p : Prop) [Decidable p], (p ↔ Kg35.isLetter c = true) → Q (.bl (decide p)) H := fun p _ e => key _ (by rw [Bool.eq_iff_iff, decide_eq_true_iff]; exact e)
  refine ⟨_, rfl, c, rfl, _, rfl, ?_⟩
  refine iteB (fun h1 => ?_) (fun h1 => ?_)
  ·have e : Kg35.isLetter c = true := by unfold Kg35.isLetter; rw [h1]; rfl
   rw [e] at k
   exact k
  ·have il : Kg35.isLetter c = true ↔ 97 ≤ c ∧ c ≤ 122 := by unfold Kg35.isLetter; rw [h1]; simp [Kg35.isSmall]
   refine ⟨_, rfl, rfl, _, rfl, _, _, rfl, rfl, _, rfl, ?_⟩
   refine iteD (fun h3 => ?_) (fun h3 => ?_)
   ·refine ⟨_, rfl, rfl, _, _, rfl, rfl, fin _ ?_⟩
    rw [il]
    have a2 : (97 : Int) ≤ c := h3
    show (c : Int) ≤ 122 ↔ _
    omega
   ·exact key false (by symm; rw [Bool.eq_false_iff, ne_eq, il]; have a2 : ¬ (97 : Int) ≤ c := h3; omega)
abbrev st_is_sign : Stmt := top 11
theorem sc_is_sign : FnScope ["byte"] ["byte"] (defScope st_is_sign) := ⟨rfl, rfl, rfl, by decide +kernel, rfl, by decide +kernel, by decide +kernel⟩
theorem ok_is_sign {f : Addr} {fd : FuncData} (F : Fun K "is_sign" "is_sign" st_is_sign f fd) (T : Txt K mg) (D_is_letter : Dfn P w K mg base "is_letter" 2 ["byte"] (spBool Kg35.isLetter)) : FnOk P w K mg base CX0 3 f fd ["byte"] (spBool Kg35.isSign) := by
 obtain ⟨M, mM, hM⟩ := T.MARKS
 refine F.ok sc_is_sign (fun vs H Q E h => ?_) (fun cdv A outer s H vs Q E hr h => ?_)
 ·obtain ⟨c, rfl, _⟩ := h
  rfl
 ·obtain ⟨c, rfl, k⟩ := h
  refine ⟨_, (pss_one (ps_ret (pe_or (pe_dfn D_is_letter (hr.mono (by decide)) rfl (pa_cons (pv 0) pa_nil)) (pe_one (pe_cmpR op_in_seq (pv 0) (pe_glob (v := .ref M) rfl mM rfl) (by with_unfolding_all rfl)))))), ?_⟩
  refine ⟨_, rfl, c, rfl, _, rfl, ?_⟩
  refine iteB (fun h1 => ?_) (fun h1 => ?_)
  ·have e : Kg35.isSign c = true := by unfold Kg35.isSign; rw [h1]; rfl
   rw [e] at k
   exact k
  ·refine ⟨_, rfl, M, _, rfl, .inr (hM H), rfl, rfl, ?_⟩
   have e : inV (V.int (c : Int)) [.int 46, .int 43, .int 45, .int 124, .int 91, .int 93] = Kg35.isSign c := by
    rw [Bool.eq_iff_iff]
    unfold Kg35.isSign
    rw [h1]
    simp [inV, eqV]
    omega
   rw [show (if false = true then !inV (V.int (c : Int)) [.int 46, .int 43, .int 45, .int 124, .int 91, .int 93] else inV (V.int (c : Int)) [.int 46, .int 43, .int 45, .int 124, .int 91, .int 93]) = Kg35.isSign c from e]
   exact k
def allSigns : List Nat := (List.range 128).filter Kg35.isSign
def spAll : Sp := fun vs H Q _ => vs = [] ∧ ∀ (H' : Hp) (l : Addr), Same H H' → H l = none → H' l = some (.lst (vw allSigns)) → Q (.ref l) H'
abbrev st_all_signs : Stmt := top 12
theorem sc_all_signs : FnScope ["byte"] [] (defScope st_all_signs) := ⟨rfl, rfl, rfl, by decide +kernel, rfl, by decide +kernel, by decide +kernel⟩
theorem ok_all_signs {f : Addr} {fd : FuncData} (F : Fun K "all_signs" "all_signs" st_all_signs f fd) (T : Txt K mg) (D_is_sign : Dfn P w K mg base "is_sign" 3 ["byte"] (spBool Kg35.isSign)) : FnOk P w K mg base CX0 4 f fd [] spAll := by
 refine F.ok sc_all_signs (fun vs H Q E h => ?_) (fun cdv A outer s H vs Q E hr h => ?_)
 ·obtain ⟨rfl, _⟩ := h
  rfl
 ·obtain ⟨rfl, k⟩ := h
  refine ⟨_, (pss_one (ps_ret (pe_lc (own := [("byte", 0)]) rfl sc_all_signs.nd (pi_range1 rfl T.b_range (pa_cons pe_int pa_nil)) (blkOk_by (by show blkC ["byte"] (defScope st_all_signs) _ [("byte", 0)] = true; decide +kernel)) (fun _ _ _ _ _ => (pg_name (i := 0) sc_all_signs.nd rfl (Or.inl rfl))) (fun _ _ _ _ _ => pts_one (pt_val (pe_dfn D_is_sign (hr.mono (by decide)) rfl (pa_cons (pv 0) pa_nil)))) (fun _ _ _ _ _ => (pv 0))))), ?_⟩
  refine ⟨_, rfl, by decide, by decide, fun D hD => ?_⟩
  have tk : ∀ i, i < 128 → (List.range 128).take (i + 1) = (List.range 128).take i ++ [i] := fun i hi => take_snoc' (List.getElem?_range hi)
  refine lc_range (lo := 0) (n := 128) (fun i H' => H' D = some (.lst (vw (((List.range 128).take i).filter Kg35.isSign))) ∧ Same H H') ⟨upd_same, .new hD⟩ ?_ ?_
  ·rintro i H' hi ⟨hl, s⟩
   have e0 : (0 : Int) + (i : Int) = (i : Int) := by omega
   rw [e0]
   refine ⟨rfl, ?_⟩
   refine ⟨_, rfl, i, rfl, _, rfl, ?_⟩
   refine iteB (fun h2 => ?_) (fun h2 => ?_)
   ·refine ⟨_, rfl, _, hl, lineLt1 (m := 128) ?_, ?_, ?_⟩
    ·rw [List.length_map]
     refine Nat.le_trans (List.length_filter_le _ _) ?_
     rw [List.length_take]; omega
    ·rw [upd_same, tk i hi, List.filter_append, List.filter_cons_of_pos h2, List.filter_nil]
     show _ = some (HO.lst (List.map _ (_ ++ [i])))
     rw [List.map_append]; rfl
    ·exact fun b o e => by rw [upd_ne (ne_of_none e hD)]; exact s b o e
   ·refine ⟨?_, s⟩
    rw [tk i hi, List.filter_append, List.filter_cons_of_neg (by rw [h2]; exact Bool.false_ne_true), List.filter_nil, List.append_nil]
    exact hl
  ·rintro H' ⟨hl, s⟩
   exact k H' D s hD hl
def spWordB (K : PySem.W.Frag) (f : Kg35.Word → Bool) : Sp := fun vs H Q _ => ∃ (a : Addr) (w : Kg35.Word), vs = [.ref a] ∧ SqL K H a (vw w) ∧ ∀ H', Same H H' → Q (.bl (f w)) H'
abbrev st_brackets_match : Stmt := top 13
theorem sc_brackets_match : FnScope ["signs", "depth", "sign"] ["signs"] (defScope st_brackets_match) := ⟨rfl, rfl, rfl, by decide +kernel, rfl, by decide +kernel, by decide +kernel⟩
theorem ok_brackets_match {f : Addr} {fd : FuncData} (F : Fun K "brackets_match" "brackets_match" st_brackets_match f fd) (T : Txt K mg) : FnOk P w K mg base CX0 1 f fd ["signs"] (spWordB K Kg35.closed) := by
 refine F.ok sc_brackets_match (fun vs H Q E h => ?_) (fun cdv A outer s H vs Q E hr h => ?_)
 ·obtain ⟨a, w, rfl, _⟩ := h
  rfl
 ·obtain ⟨a, w, rfl, hS, k⟩ := h
  refine ⟨_, (pss_cons (ps_set (i := 1) sc_brackets_match.nd rfl (Or.inl rfl) pe_int)
   (pss_cons (ps_for PassesOwn.never rfl (pi_list (pv 0)) (pg_name (i := 2) sc_brackets_match.nd rfl (Or.inl rfl))
   (pss_cons (ps_if (pt_cmpR op_eq (pv 2) (pe_gi rfl T.OPENING) (nomark _))
   (pss_one (ps_aug (i := 1) sc_brackets_match.nd rfl (Or.inl rfl) pe_int ip_add))
   pss_nil)
   (pss_cons (ps_if (pt_cmpR op_eq (pv 2) (pe_gi rfl T.CLOSING) (nomark _))
   (pss_one (ps_aug (i := 1) sc_brackets_match.nd rfl (Or.inl rfl) pe_int ip_sub))
   pss_nil)
   (pss_one (ps_if (pt_cmpR op_lt (pv 1) pe_int (nomark _))
   (pss_one (ps_ret pe_bl))
   pss_nil)))))
   (pss_one (ps_ret (pe_cmpR op_eq (pv 1) pe_int (nomark _)))))), ?_⟩
  refine ⟨_, rfl, a, rfl, ⟨_, hS⟩, for_list (K := K) (a := a) (xs := vw w) (fun i σ H' => ∃ (d : Nat) (v : Option V), σ = [some (.ref a), some (.int (d : Int)), v] ∧ H' = H ∧ bal 0 (w.take i) = some d)
   ⟨0, none, rfl, rfl, rfl⟩ (fun i σ H' _ ⟨_, _, _, e, _⟩ => by rw [e]; exact hS) ?_ ?_⟩
  ·rintro i y σ H' hi ⟨d, v, rfl, rfl, hb⟩
   obtain ⟨c, hc, rfl⟩ := vw_get hi
   have next : ∀ e, bal d [c] = some e → bal 0 (w.take (i + 1)) = some e := fun e he => by
    rw [take_snoc' hc, bal_append, hb]; exact he
   have stop : bal d [c] = none → Kg35.closed w = false := fun he => by
    rw [Bool.eq_false_iff]
    intro z
    have z := closed_iff.mp z
    rw [← List.take_append_drop (i + 1) w, bal_append, take_snoc' hc, bal_append, hb] at z
    rw [show (some d).bind (fun e => bal e [c]) = none from he] at z
    cases z
   refine ⟨_, rfl, rfl, _, rfl, ?_⟩
   refine iteD (fun h1 => ?_) (fun h1 => ?_)
   ·have h1 : c = 91 := by have := int_eq.mp h1; omega
    subst h1
    refine ⟨_, rfl, _, _, rfl, rfl, ?_⟩
    refine ⟨_, rfl, rfl, _, rfl, ?_⟩
    refine iteD (fun h2 => absurd h2 (by decide)) (fun _ => ?_)
    refine ⟨_, rfl, _, _, rfl, rfl, _, rfl, ?_⟩
    refine iteD (fun h3 => absurd (show (d : Int) + 1 < 0 from h3) (by omega)) (fun _ => ?_)
    exact ⟨d + 1, _, rfl, rfl, next _ rfl⟩
   ·have h1 : ¬ c = 91 := fun z => h1 (by rw [z]; rfl)
    refine ⟨_, rfl, rfl, _, rfl, ?_⟩
    refine iteD (fun h2 => ?_) (fun h2 => ?_)
    ·have h2 : c = 93 := by have := int_eq.mp h2; omega
     subst h2
     refine ⟨_, rfl, _, _, rfl, rfl, ?_⟩
     refine ⟨_, rfl, _, _, rfl, rfl, _, rfl, ?_⟩
     refine iteD (fun h3 => ?_) (fun h3 => ?_)
     ·have h3 : (d : Int) - 1 < 0 := h3
      have h3 : d = 0 := by omega
      subst h3
      have e := stop rfl
      rw [e] at k
      exact k _ (.refl _)
     ·have h3 : ¬ (d : Int) - 1 < 0 := h3
      have h3 : ¬ d = 0 := by omega
      refine ⟨d - 1, some (.int ((93 : Nat) : Int)), ?_, rfl, next _ ?_⟩
      ·have e : ((d - 1 : Nat) : Int) = (d : Int) - 1 := by omega
       rw [e]; rfl
      ·rw [bal_one, if_neg (by decide), if_pos rfl, if_neg h3]
    ·have h2 : ¬ c = 93 := fun z => h2 (by rw [z]; rfl)
     refine ⟨_, rfl, _, _, rfl, rfl, _, rfl, ?_⟩
     refine iteD (fun h3 => absurd h3 (by omega)) (fun _ => ?_)
     exact ⟨d, _, rfl, rfl, next _ (by rw [bal_one, if_neg h1, if_neg h2])⟩
  ·rintro σ H' ⟨d, v, rfl, rfl, hb⟩
   rw [List.length_map, List.take_length] at hb
   refine ⟨_, rfl, rfl, ?_⟩
   have e : decide (V.int (d : Int) = V.int 0) = Kg35.closed w := by
    rw [Bool.eq_iff_iff, decide_eq_true_iff, closed_iff, hb, int_eq]
    constructor
    ·intro z; congr 1; omega
    ·intro z; injection z with z; omega
   rw [e]
   exact k H' (.refl _)
end
end Gw
end
section
namespace Gw
open PySem PySem.Spec PyProof.Rows L2
theorem lineLt {n m : Nat} (h : n ≤ m) (hm : m < sizeLine := by decide) : n < sizeLine := Nat.lt_of_le_of_lt h hm
theorem vw_append (v w : List Nat) : vw (v ++ w) = vw v ++ vw w := List.map_append
section
variable {P : Program} {w : World} {K : PySem.W.Frag} {mg : Str → Option Value} {base : Heap}
abbrev st_is_word : Stmt := top 14
theorem sc_is_word : FnScope ["signs", "sign"] ["signs"] (defScope st_is_word) := ⟨rfl, rfl, rfl, by decide +kernel, rfl, by decide +kernel, by decide +kernel⟩
theorem ok_is_word {f : Addr} {fd : FuncData} (F : Fun K "is_word" "is_word" st_is_word f fd) (T : Txt K mg) (D_is_sign : Dfn P w K mg base "is_sign" 3 ["byte"] (spBool Kg35.isSign)) (D_brackets_match : Dfn P w K mg base "brackets_match" 1 ["signs"] (spWordB K Kg35.closed)) :
  FnOk P w K mg base CX0 4 f fd ["signs"] (spWordB K Kg35.wordOk) := by
 refine F.ok sc_is_word (fun vs H Q E h => ?_) (fun cdv A outer s H vs Q E hr h => ?_)
 ·obtain ⟨a, w, rfl, _⟩ := h
  rfl
 ·obtain ⟨a, w, rfl, hS, k⟩ := h
  refine ⟨_, (pss_cons (ps_if (pt_cmpR op_gt (pe_callB call_len_seq (by rfl) T.b_len PySem.boot_len (pa_cons (pv 0) pa_nil)) (pe_gi rfl T.MOST_SIGNS) (nomark _))
   (pss_one (ps_ret pe_bl))
   pss_nil)
   (pss_one (ps_ret (pe_and (pe_callB (cr_all rfl) (by rfl) T.b_all PyProof.Rows.boot_all (pa_cons (pe_lc (own := [("sign", 1)]) rfl sc_is_word.nd (pi_list (pv 0)) (blkOk_by (by show blkC ["signs", "sign"] (defScope st_is_word) _ [("sign", 1)] = true; decide +kernel)) (fun _ _ _ _ _ => (pg_name (i := 1) sc_is_word.nd rfl (Or.inl rfl))) (fun _ _ _ _ _ => pts_nil) (fun _ _ _ _ _ => (pe_dfn D_is_sign (hr.mono (by decide)) rfl (pa_cons (pv 1) pa_nil)))) pa_nil)) (pe_one (pe_dfn D_brackets_match (hr.mono (by decide)) rfl (pa_cons (pv 0) pa_nil))))))), ?_⟩
  refine ⟨_, rfl, a, _, rfl, .inl hS, _, _, rfl, rfl, _, rfl, ?_⟩
  have out : ∀ b, b = Kg35.wordOk w → ∀ H', Same H H' → Q (.bl b) H' := fun b e H' s => by rw [e]; exact k H' s
  refine iteD (fun h1 => ?_) (fun h1 => ?_)
  ·have h1 : (256 : Int) < ((vw w).length : Nat) := h1
   rw [List.length_map] at h1
   refine out false ?_ H (.refl H)
   symm
   rw [Bool.eq_false_iff]
   intro z
   have := (wordOk_iff.mp z).2.2
   omega
  ·have h1 : ¬ (256 : Int) < ((vw w).length : Nat) := h1
   rw [List.length_map] at h1
   refine ⟨_, rfl, a, rfl, ⟨_, hS⟩, fun D hD => ?_⟩
   refine lc_list (K := K) (a := a) (xs := vw w) (fun i H' => H' D = some (.lst ((w.take i).map fun c => V.bl (Kg35.isSign c))) ∧ Same H H') ⟨upd_same, .new hD⟩ (fun i H' _ ⟨_, s⟩ => s.seq hS) ?_ ?_
   ·rintro i x H' hi ⟨hl, s⟩
    obtain ⟨c, hc, rfl⟩ := vw_get hi
    refine ⟨rfl, ?_⟩
    refine ⟨_, rfl, c, rfl, _, hl, lineLt (m := 256) (by rw [List.length_map, List.length_take]; omega), ?_, ?_⟩
    ·rw [upd_same, take_snoc' hc, List.map_append]; rfl
    ·exact fun b o e => by rw [upd_ne (ne_of_none e hD)]; exact s b o e
   ·rintro H' ⟨hl, s⟩
    rw [List.length_map, List.take_length] at hl
    refine ⟨D, w.map Kg35.isSign, rfl, SqL.of (by rw [hl, List.map_map]; rfl), _, rfl, ?_⟩
    refine iteB (fun h2 => ?_) (fun h2 => ?_)
    ·refine ⟨_, rfl, a, w, rfl, s.seq hS, fun H2 s2 => out _ ?_ _ (s.trans s2)⟩
     unfold Kg35.wordOk Kg35.MOSTWORD
     rw [List.all_map] at h2
     have h2 : w.all Kg35.isSign = true := h2
     rw [h2, decide_eq_true (show w.length ≤ 256 by omega), Bool.and_true, Bool.true_and]
    ·refine out false ?_ H' s
     unfold Kg35.wordOk
     rw [List.all_map] at h2
     have h2 : w.all Kg35.isSign = false := h2
     rw [h2, Bool.false_and]
structure LinesAt (H : Hp) (l : Addr) (ls : List Addr) (ws : List Kg35.Word) : Prop where
 lst : H l = some (.lst (ls.map V.ref))
 len : ls.length = ws.length
 at_ : ∀ (j : Nat) (a : Addr), ls[j]? = some a → ∃ v, ws[j]? = some v ∧ H a = some (.lst (vw v))
theorem LinesAt.get {H : Hp} {l : Addr} {ls : List Addr} {ws : List Kg35.Word} (L : LinesAt H l ls ws) {j : Nat} {v : Kg35.Word} (h : ws[j]? = some v) : ∃ a, ls[j]? = some a ∧ (ls.map V.ref)[j]? = some (V.ref a) ∧ H a = some (.lst (vw v)) := by
 obtain ⟨hj, _⟩ := List.getElem?_eq_some_iff.mp h
 have hj' : j < ls.length := by rw [L.len]; exact hj
 have e : ls[j]? = some ls[j] := List.getElem?_eq_getElem hj'
 obtain ⟨v', hv', ha⟩ := L.at_ j _ e
 rw [h] at hv'
 cases hv'
 exact ⟨_, e, by rw [List.getElem?_map, e]; rfl, ha⟩
theorem LinesAt.mono {H H' : Hp} {l : Addr} {ls : List Addr} {ws : List Kg35.Word} (L : LinesAt H l ls ws) (s : Same H H') : LinesAt H' l ls ws :=
 ⟨s _ _ L.lst, L.len, fun j a h => by obtain ⟨v, h1, h2⟩ := L.at_ j a h; exact ⟨v, h1, s _ _ h2⟩⟩
theorem LinesAt.snoc {H H' : Hp} {l a : Addr} {ls : List Addr} {ws : List Kg35.Word} {v : Kg35.Word} (L : LinesAt H l ls ws) (h1 : H' l = some (.lst (ls.map V.ref ++ [V.ref a]))) (h2 : H' a = some (.lst (vw v))) (k : ∀ b ∈ ls, ∀ o, H b = some o → H' b = some o) : LinesAt H' l (ls ++ [a]) (ws ++ [v]) := by
 refine ⟨by rw [h1, List.map_append]; rfl, by rw [List.length_append, List.length_append, L.len]; rfl, fun j b hb => ?_⟩
 by_cases hj : j < ls.length
 ·rw [List.getElem?_append_left hj] at hb
  obtain ⟨v', e1, e2⟩ := L.at_ j b hb
  exact ⟨v', by rw [List.getElem?_append_left (by rw [← L.len]; exact hj)]; exact e1, k b (List.mem_of_getElem? hb) _ e2⟩
 ·rw [List.getElem?_append_right (by omega)] at hb
  have e0 : j - ls.length = 0 := by
   obtain ⟨z, _⟩ := List.getElem?_eq_some_iff.mp hb
   simp at z; omega
  rw [e0] at hb
  have eb : a = b := by simpa using hb
  subst eb
  exact ⟨v, by rw [List.getElem?_append_right (by rw [← L.len]; omega), ← L.len, e0]; rfl, h2⟩
def spLines (K : PySem.W.Frag) : Sp := fun vs H Q _ => ∃ (a : Addr) (t : Kg35.Word), vs = [.ref a] ∧ SqL K H a (vw t) ∧ t.length ≤ 4096 ∧ ∀ (H' : Hp) (l : Addr) (ls : List Addr), Same H H' → (∀ b ∈ ls, H b = none) → LinesAt H' l ls (Kg35.linesOf t []) → Q (.ref l) H'
abbrev st_lines_of : Stmt := top 42
theorem sc_lines_of : FnScope ["text", "lines", "line", "byte"] ["text"] (defScope st_lines_of) := ⟨rfl, rfl, rfl, by decide +kernel, rfl, by decide +kernel, by decide +kernel⟩
theorem ok_lines_of {f : Addr} {fd : FuncData} (F : Fun K "lines_of" "lines_of" st_lines_of f fd) (T : Txt K mg) : FnOk P w K mg base CX0 1 f fd ["text"] (spLines K) := by
 refine F.ok sc_lines_of (fun vs H Q E h => ?_) (fun cdv A outer s H vs Q E hr h => ?_)
 ·obtain ⟨a, w, rfl, _⟩ := h
  rfl
 ·obtain ⟨a, t, rfl, hS, hlen, k⟩ := h
  refine ⟨_, (pss_cons (ps_set (i := 1) sc_lines_of.nd rfl (Or.inl rfl) (pe_lst pa_nil))
   (pss_cons (ps_set (i := 2) sc_lines_of.nd rfl (Or.inl rfl) (pe_lst pa_nil))
   (pss_cons (ps_for PassesOwn.never rfl (pi_list (pv 0)) (pg_name (i := 3) sc_lines_of.nd rfl (Or.inl rfl))
   (pss_one (ps_if (pt_cmpR op_eq (pv 3) (pe_gi rfl T.LINE_END) (nomark _))
   (pss_cons (ps_expr (pe_bm PySem.F.plainAttrs_list PySem.F.slot_list_append PySem.F.type_list_append mt_append (pv 1) (pa_cons (pv 2) pa_nil)))
   (pss_one (ps_set (i := 2) sc_lines_of.nd rfl (Or.inl rfl) (pe_lst pa_nil))))
   (pss_one (ps_expr (pe_bm PySem.F.plainAttrs_list PySem.F.slot_list_append PySem.F.type_list_append mt_append (pv 2) (pa_cons (pv 3) pa_nil)))))))
   (pss_cons (ps_if (pt_cmpR op_gt (pe_callB call_len_seq (by rfl) T.b_len PySem.boot_len (pa_cons (pv 2) pa_nil)) pe_int (nomark _))
   (pss_one (ps_expr (pe_bm PySem.F.plainAttrs_list PySem.F.slot_list_append PySem.F.type_list_append mt_append (pv 1) (pa_cons (pv 2) pa_nil))))
   pss_nil)
   (pss_one (ps_ret (pv 1))))))), ?_⟩
  refine ⟨Nat.zero_le _, fun l hl => ⟨Nat.zero_le _, fun c0 hc0 => ?_⟩⟩
  have n0 : c0 ≠ l := fun z => by rw [z, upd_same] at hc0; cases hc0
  have s0 : Same H (upd (upd H l (.lst [])) c0 (.lst [])) := (Same.new hl).trans (.new hc0)
  have hc0' : H c0 = none := by rw [upd_ne n0] at hc0; exact hc0
  refine ⟨_, rfl, a, rfl, ⟨_, s0.seq hS⟩, for_list (K := K) (a := a) (xs := vw t) (fun i σ H' => ∃ (c : Addr) (v : Option V) (ls : List Addr) (ws : List Kg35.Word) (cur : Kg35.Word), σ = [some (.ref a), some (.ref l), some (.ref c), v] ∧ Same H H' ∧ LinesAt H' l ls ws ∧ H' c = some (.lst (vw cur)) ∧ H c = none ∧ c ≠ l ∧ c ∉ ls ∧ l ∉ ls ∧ (∀ b ∈ ls, H b = none)
    ∧ LinesTold t (t.take i) ws cur ∧ ws.length ≤ i ∧ cur.length ≤ i)
   ⟨c0, none, [], [], [], rfl, s0, ⟨by rw [upd_ne n0.symm]; exact upd_same, rfl, fun j b h => by simp at h⟩, upd_same, hc0', n0, by simp, by simp, fun b h => (nomatch h), .start t, Nat.zero_le _, Nat.zero_le _⟩ (fun i σ H' _ ⟨_, _, _, _, _, _, s5, _⟩ => s5.seq hS) ?_ ?_⟩
  ·rintro i y σ H' hi ⟨c, v, ls, ws, cur, rfl, s5, L, hc, fc, ncl, ncs, nls, frs, told, lw, lc⟩
   obtain ⟨b, hb, rfl⟩ := vw_get hi
   have hit : i < t.length := (List.getElem?_eq_some_iff.mp hb).1
   refine ⟨_, rfl, rfl, _, rfl, ?_⟩
   refine iteD (fun h1 => ?_) (fun h1 => ?_)
   ·have h1 : b = 10 := by have := int_eq.mp h1; omega
    subst h1
    refine ⟨_, rfl, .inl ⟨rfl, _, SqL.of L.lst⟩, _, rfl, l, _, _, rfl, rfl, L.lst, lineLt (m := 4096) (by rw [List.length_map, L.len]; omega), ?_⟩
    refine ⟨Nat.zero_le _, fun d hd => ?_⟩
    have ndl : d ≠ l := fun z => by rw [z, upd_same] at hd; cases hd
    have hd' : H' d = none := by rw [upd_ne ndl] at hd; exact hd
    have ndc : d ≠ c := fun z => by rw [z, hc] at hd'; cases hd'
    have keep : ∀ x o, x ≠ l → H' x = some o → upd (upd H' l (.lst (ls.map V.ref ++ [V.ref c]))) d (.lst []) x = some o := fun x o hx e => by
     rw [upd_ne (ne_of_none e hd'), upd_ne hx]; exact e
    have sN : Same H (upd (upd H' l (.lst (ls.map V.ref ++ [V.ref c]))) d (.lst [])) := fun x o e => keep x o (fun z => by rw [z, hl] at e; cases e) (s5 x o e)
    refine ⟨d, _, ls ++ [c], ws ++ [cur], [], rfl, sN, ?_, upd_same, ?_, ndl, ?_, ?_, ?_, ?_, ?_, Nat.zero_le _⟩
    ·refine L.snoc (by rw [upd_ne ndl.symm]; exact upd_same) (keep c _ ncl hc) fun x hx o e => keep x o (fun z => nls (z ▸ hx)) e
    ·exact s5.free hd'
    ·intro z
     rcases List.mem_append.mp z with z | z
     ·obtain ⟨j, hj, ej⟩ := List.mem_iff_getElem.mp z
      obtain ⟨v', _, e⟩ := L.at_ j d (by rw [List.getElem?_eq_getElem hj, ej])
      rw [hd'] at e; cases e
     ·exact ndc (List.mem_singleton.mp z)
    ·intro z
     rcases List.mem_append.mp z with z | z
     ·exact nls z
     ·exact ncl (List.mem_singleton.mp z).symm
    ·intro x hx
     rcases List.mem_append.mp hx with z | z
     ·exact frs x z
     ·rw [List.mem_singleton.mp z]; exact fc
    ·rw [take_snoc' hb]; exact told.lf
    ·rw [List.length_append]; exact Nat.succ_le_succ lw
   ·have h1 : b ≠ 10 := fun z => h1 (by rw [z]; rfl)
    refine ⟨_, rfl, .inl ⟨rfl, _, SqL.of hc⟩, _, rfl, c, _, _, rfl, rfl, hc, lineLt (m := 4096) (by rw [List.length_map]; omega), ?_⟩
    have keep : ∀ x o, x ≠ c → H' x = some o → upd H' c (.lst (vw cur ++ [V.int (b : Int)])) x = some o := fun x o hx e => by rw [upd_ne hx]; exact e
    refine ⟨c, _, ls, ws, cur ++ [b], rfl, fun x o e => keep x o (fun z => by rw [z, fc] at e; cases e) (s5 x o e), ?_, by rw [upd_same, vw_append]; rfl, fc, ncl, ncs, nls, frs, ?_, by omega, ?_⟩
    ·refine ⟨keep l _ ncl.symm L.lst, L.len, fun j x hx => ?_⟩
     obtain ⟨v', e1, e2⟩ := L.at_ j x hx
     exact ⟨v', e1, keep x _ (fun z => ncs (z ▸ List.mem_of_getElem? hx)) e2⟩
    ·rw [take_snoc' hb]; exact told.other h1
    ·rw [List.length_append]; exact Nat.succ_le_succ lc
  ·rintro σ H' ⟨c, v, ls, ws, cur, rfl, s5, L, hc, fc, ncl, ncs, nls, frs, told, lw, lc⟩
   rw [List.length_map, List.take_length] at told
   rw [List.length_map] at lw lc
   have fin := told.done
   refine ⟨_, rfl, c, _, rfl, .inl (SqL.of hc), _, _, rfl, rfl, _, rfl, ?_⟩
   refine iteD (fun h1 => ?_) (fun h1 => ?_)
   ·have h1 : (0 : Int) < ((vw cur).length : Nat) := h1
    rw [List.length_map] at h1
    rw [if_neg (by intro z; rw [z] at h1; simp at h1)] at fin
    refine ⟨_, rfl, .inl ⟨rfl, _, SqL.of L.lst⟩, _, rfl, l, _, _, rfl, rfl, L.lst, lineLt (m := 4096) (by rw [List.length_map, L.len]; omega), ?_⟩
    refine ⟨_, rfl, ?_⟩
    refine k _ l (ls ++ [c]) (fun x o e => by rw [upd_ne (fun z => by rw [z, hl] at e; cases e)]; exact s5 x o e) (fun x hx => (List.mem_append.mp hx).elim (frs x) fun z => by rw [List.mem_singleton.mp z]; exact fc) ?_
    rw [fin]
    exact L.snoc upd_same (by rw [upd_ne ncl]; exact hc) fun x hx o e => by rw [upd_ne (fun z : x = l => nls (z ▸ hx))]; exact e
   ·have h1 : ¬ (0 : Int) < ((vw cur).length : Nat) := h1
    rw [List.length_map] at h1
    rw [if_pos (List.eq_nil_of_length_eq_zero (by omega))] at fin
    refine ⟨_, rfl, ?_⟩
    refine k _ l ls s5 frs ?_
    rw [fin]
    exact L
end
end Gw
end
section
namespace Gw
open PySem PySem.Spec PyProof.Rows L2
theorem cut_from {xs : List V} {z : Int} (k : Nat) (e : z = (k : Int)) : cutV xs (some z) none = xs.drop k := by
 subst e
 unfold cutV
 rw [HT.sIx_nat, HT.sIx_none]
 by_cases h : k ≤ xs.length
 ·rw [Nat.min_eq_left h, List.take_of_length_le (by rw [List.length_drop]; omega)]
 ·rw [Nat.min_eq_right (by omega), List.drop_eq_nil_of_le (Nat.le_refl _), List.drop_eq_nil_of_le (by omega), List.take_nil]
theorem cut_mid {xs : List V} {y z : Int} (i j : Nat) (e : y = (i : Int)) (e' : z = (j : Int)) (h : j ≤ xs.length) (hij : i ≤ j) : cutV xs (some y) (some z) = (xs.drop i).take (j - i) := by
 subst e e'
 unfold cutV
 rw [HT.sIx_nat, HT.sIx_nat, Nat.min_eq_left h, Nat.min_eq_left (by omega)]
abbrev pdW (w : List Nat) : List PyData := w.map fun (c : Nat) => PyData.int (c : Int)
theorem dp_vw {K : PySem.W.Frag} {H : Hp} : ∀ w : List Nat, DpAll K H (vw w) (pdW w)
 | [] => .nil
 | c :: w => .cons (.int _) (dp_vw w)
theorem can_pdW : ∀ w : List Nat, PyData.canLayAll0 (pdW w) = true
 | [] => by simp [PyData.canLayAll0]
 | c :: w => by
  show PyData.canLayAll0 (PyData.int (c : Int) :: pdW w) = true
  simp [PyData.canLayAll0, PyData.canLay0, can_pdW w]
theorem depth_pdW : ∀ w : List Nat, (PyData.list (pdW w)).depth ≤ 64 := by
 intro w
 have all : ∀ w : List Nat, PyData.depthAll (pdW w) ≤ 1 := by
  intro w
  induction w with
  | nil => simp [PyData.depthAll]
  | cons c w ih =>
   show PyData.depthAll (PyData.int (c : Int) :: pdW w) ≤ 1
   simp only [PyData.depthAll, PyData.depth]
   omega
 simp only [PyData.depth]
 have := all w
 omega
theorem shaped_pdW (w : List Nat) : SeqAt.shaped (.list (pdW w)) = true := by
 unfold SeqAt.shaped
 rw [Bool.and_eq_true, decide_eq_true_iff]
 exact ⟨by simp only [PyData.canLay0]; exact can_pdW w, depth_pdW w⟩
theorem eqv_pdW : ∀ v w : List Nat, PyData.eqv (.list (pdW v)) (.list (pdW w)) = decide (v = w) := by
 have all : ∀ v w : List Nat, PyData.eqvAll (pdW v) (pdW w) = decide (v = w) := by
  intro v
  induction v with
  | nil => intro w; cases w <;> simp [PyData.eqvAll]
  | cons c v ih =>
   intro w
   cases w with
   | nil => simp [PyData.eqvAll]
   | cons d w =>
    show PyData.eqvAll (PyData.int (c : Int) :: pdW v) (PyData.int (d : Int) :: pdW w) = _
    simp only [PyData.eqvAll, PyData.eqv, ih w]
    rw [Bool.eq_iff_iff]
    simp
    omega
 intro v w
 simp only [PyData.eqv]
 exact all v w
theorem wrong_dir {d : Kg35.Word} {r : List Kg35.Word} (h : d ≠ [52] ∧ d ≠ [54]) : wrongOf (d :: r) = 1 := by
 show (if d ≠ [52] ∧ d ≠ [54] then 1 else _) = 1
 rw [if_pos h]
theorem wrong_one {d : Kg35.Word} (h : ¬ (d ≠ [52] ∧ d ≠ [54])) : wrongOf [d] = 2 := by
 show (if d ≠ [52] ∧ d ≠ [54] then 1 else 2) = 2
 rw [if_neg h]
theorem wrong_word {d v : Kg35.Word} {ws : List Kg35.Word} (h : ¬ (d ≠ [52] ∧ d ≠ [54])) (h4 : Kg35.wordOk v = false) : wrongOf (d :: v :: ws) = 2 := by
 show (if d ≠ [52] ∧ d ≠ [54] then 1 else if Kg35.wordOk v = false then 2 else _) = 2
 rw [if_neg h, if_pos h4]
def codeOf (r : Except Nat (List (Nat × Kg35.Word))) : Nat := match r with
 | .error k => k
 | .ok _ => 0
theorem wrong_rules {d v : Kg35.Word} {ws : List Kg35.Word} (h : ¬ (d ≠ [52] ∧ d ≠ [54])) (h4 : ¬ Kg35.wordOk v = false) : wrongOf (d :: v :: ws) = codeOf (Kg35.rulesOf 3 ws []) := by
 show (if d ≠ [52] ∧ d ≠ [54] then 1 else if Kg35.wordOk v = false then 2 else _) = _
 rw [if_neg h, if_neg h4]
 rfl
section
variable {P : Program} {w : World} {K : PySem.W.Frag} {mg : Str → Option Value} {base : Heap}
def isDirB (d : Kg35.Word) : Bool := decide (d = [52] ∨ d = [54])
abbrev st_is_directions : Stmt := top 43
theorem sc_is_directions : FnScope ["line"] ["line"] (defScope st_is_directions) := ⟨rfl, rfl, rfl, by decide +kernel, rfl, by decide +kernel, by decide +kernel⟩
theorem ok_is_directions {f : Addr} {fd : FuncData} (F : Fun K "is_directions" "is_directions" st_is_directions f fd) (T : Txt K mg) : FnOk P w K mg base CX0 1 f fd ["line"] (spWordB K isDirB) := by
 refine F.ok sc_is_directions (fun vs H Q E h => ?_) (fun cdv A outer s H vs Q E hr h => ?_)
 ·obtain ⟨a, w, rfl, _⟩ := h
  rfl
 ·obtain ⟨a, w, rfl, hS, k⟩ := h
  have hu64 := hr.units
  refine ⟨_, (pss_one (ps_ret (pe_or (pe_cmpR (op_eqD hu64) (pv 0) (pe_lst (pa_cons (pe_callB call_ord (by rfl) T.b_ord PyProof.Rows.boot_ord (pa_cons pe_str pa_nil)) pa_nil)) (nomark _)) (pe_one (pe_cmpR (op_eqD hu64) (pv 0) (pe_lst (pa_cons (pe_callB call_ord (by rfl) T.b_ord PyProof.Rows.boot_ord (pa_cons pe_str pa_nil)) pa_nil)) (nomark _)))))), ?_⟩
  have out : ∀ b, b = isDirB w → ∀ H', Same H H' → Q (.bl b) H' := fun b e H' s => by rw [e]; exact k H' s
  refine ⟨_, rfl, _, rfl, rfl, (by show 1 ≤ sizeLine; decide), fun p hp => ?_⟩
  have s1 : Same H (upd H p (.lst [.int 52])) := .new hp
  refine ⟨.list (pdW w), .list (pdW [52]), .lst (s1.seq hS) (dp_vw w), .lst (SqL.of upd_same) (dp_vw [52]), shaped_pdW w, shaped_pdW [52], _, rfl, ?_⟩
  rw [eqv_pdW]
  refine iteD (fun h1 => out true (by unfold isDirB; rw [decide_eq_true (Or.inl h1)]) _ s1) (fun h1 => ?_)
  refine ⟨_, rfl, _, rfl, rfl, (by show 1 ≤ sizeLine; decide), fun q hq => ?_⟩
  have s2 : Same H (upd (upd H p (.lst [.int 52])) q (.lst [.int 54])) := s1.trans (.new hq)
  refine ⟨.list (pdW w), .list (pdW [54]), .lst (s2.seq hS) (dp_vw w), .lst (SqL.of upd_same) (dp_vw [54]), shaped_pdW w, shaped_pdW [54], ?_⟩
  rw [eqv_pdW]
  refine out _ ?_ _ s2
  unfold isDirB
  rw [Bool.eq_iff_iff, decide_eq_true_iff, decide_eq_true_iff]
  constructor
  ·exact Or.inr
  ·exact fun z => z.resolve_left h1
abbrev st_is_rule : Stmt := top 44
theorem sc_is_rule : FnScope ["line"] ["line"] (defScope st_is_rule) := ⟨rfl, rfl, rfl, by decide +kernel, rfl, by decide +kernel, by decide +kernel⟩
theorem ok_is_rule {f : Addr} {fd : FuncData} (F : Fun K "is_rule" "is_rule" st_is_rule f fd) (T : Txt K mg) (D_is_letter : Dfn P w K mg base "is_letter" 2 ["byte"] (spBool Kg35.isLetter)) (D_is_word : Dfn P w K mg base "is_word" 4 ["signs"] (spWordB K Kg35.wordOk)) :
  FnOk P w K mg base CX0 5 f fd ["line"] (spWordB K isRuleB) := by
 refine F.ok sc_is_rule (fun vs H Q E h => ?_) (fun cdv A outer s H vs Q E hr h => ?_)
 ·obtain ⟨a, w, rfl, _⟩ := h
  rfl
 ·obtain ⟨a, w, rfl, hS, k⟩ := h
  refine ⟨_, (pss_cons (ps_if (pt_cmpR op_lt (pe_callB call_len_seq (by rfl) T.b_len PySem.boot_len (pa_cons (pv 0) pa_nil)) pe_int (nomark _))
   (pss_one (ps_ret pe_bl))
   pss_nil)
   (pss_one (ps_ret (pe_and (pe_dfn D_is_letter (hr.mono (by decide)) rfl (pa_cons (pe_ix ix_list (pv 0) pe_int (fun _ _ => rfl)) pa_nil)) (pe_and (pe_cmpR op_eq (pe_ix ix_list (pv 0) pe_int (fun _ _ => rfl)) (pe_callB call_ord (by rfl) T.b_ord PyProof.Rows.boot_ord (pa_cons pe_str pa_nil)) (nomark _)) (pe_one (pe_dfn D_is_word (hr.mono (by decide)) rfl (pa_cons (pe_slice sl_list (pv 0) (po_some pe_int) po_none) pa_nil)))))))), ?_⟩
  have out : ∀ b, b = isRuleB w → ∀ H', Same H H' → Q (.bl b) H' := fun b e H' s => by rw [e]; exact k H' s
  have no : ¬ (2 ≤ w.length ∧ Kg35.isLetter (w.headD 0) = true ∧ (w.drop 1).headD 0 = 61 ∧ Kg35.wordOk (w.drop 2) = true) → false = isRuleB w := fun z => by
   unfold isRuleB; rw [ruleOf_eq, if_neg z]; rfl
  have yes : (2 ≤ w.length ∧ Kg35.isLetter (w.headD 0) = true ∧ (w.drop 1).headD 0 = 61 ∧ Kg35.wordOk (w.drop 2) = true) → true = isRuleB w := fun z => by
   unfold isRuleB; rw [ruleOf_eq, if_pos z]; rfl
  refine ⟨_, rfl, a, _, rfl, .inl hS, _, _, rfl, rfl, _, rfl, ?_⟩
  refine iteD (fun h1 => ?_) (fun h1 => ?_)
  ·have h1 : (((vw w).length : Nat) : Int) < 2 := h1
   rw [List.length_map] at h1
   exact out false (no (by omega)) _ (.refl _)
  ·have h1 : ¬ (((vw w).length : Nat) : Int) < 2 := h1
   rw [List.length_map] at h1
   match w, h1 with
   | c :: e :: r, _ =>
    refine ⟨_, rfl, a, _, _, _, rfl, rfl, hS, at_of (j := 0) rfl rfl, c, rfl, _, rfl, ?_⟩
    refine iteB (fun h2 => ?_) (fun h2 => out false (no (fun z => by have z1 : Kg35.isLetter c = true := z.2.1; rw [h2] at z1; cases z1)) _ (.refl _))
    refine ⟨_, rfl, a, _, _, _, rfl, rfl, hS, at_of (j := 1) rfl rfl, _, rfl, rfl, rfl, _, rfl, ?_⟩
    refine iteD (fun h3 => ?_) (fun h3 => out false (no (fun z => h3 (by have z1 : e = 61 := z.2.2.1; rw [z1]; rfl))) _ (.refl _))
    have h3 : e = 61 := by have h3 := int_eq.mp h3; have h3 : (e : Int) = 61 := h3; omega
    refine ⟨_, rfl, _, rfl, a, _, rfl, hS, fun p hp => ?_⟩
    have s1 : Same H (upd H p (.lst (cutV (vw (c :: e :: r)) (some 2) none))) := .new hp
    refine ⟨p, r, rfl, SqL.of (by rw [upd_same, cut_from (z := 2) 2 rfl]; rfl), fun H2 s2 => out _ ?_ _ (s1.trans s2)⟩
    cases hw : Kg35.wordOk r with
    | true => exact yes ⟨by simp, h2, h3, hw⟩
    | false => exact no (fun z => by have z1 : Kg35.wordOk r = true := z.2.2.2; rw [hw] at z1; cases z1)
   | [], h => simp at h
   | [c], h => simp at h
def spWrong : Sp := fun vs H Q _ => ∃ (l : Addr) (ls : List Addr) (ws : List Kg35.Word), vs = [.ref l] ∧ LinesAt H l ls ws ∧ ws.length ≤ 5000 ∧ ∀ H', Same H H' → Q (.int (wrongOf ws : Nat)) H'
abbrev kvT (l : List (Nat × Kg35.Word)) : List (Key × V) := l.map fun p => (Sum.inl (p.1 : Int), V.bl true)
theorem valV_kvT (c : Nat) : ∀ l : List (Nat × Kg35.Word), (valV (kvT l) (Sum.inl (c : Int))).isSome = decide (c ∈ l.map (·.1))
 | [] => rfl
 | p :: l => by
  by_cases h : p.1 = c
  ·rw [show valV (kvT (p :: l)) (Sum.inl (c : Int)) = some (V.bl true) from valV_pos (p := (Sum.inl (p.1 : Int), V.bl true)) (by rw [h])]
   simp [h]
  ·have n : ¬ (Sum.inl (p.1 : Int) : Key) = Sum.inl (c : Int) := by rw [key_eq]; exact h
   rw [show valV (kvT (p :: l)) (Sum.inl (c : Int)) = valV (kvT l) (Sum.inl (c : Int)) from valV_neg (p := (Sum.inl (p.1 : Int), V.bl true)) n, valV_kvT c l]
   rw [Bool.eq_iff_iff, decide_eq_true_iff, decide_eq_true_iff, List.map_cons, List.mem_cons]
   exact ⟨Or.inr, fun z => z.resolve_left fun q => h q.symm⟩
abbrev st_first_wrong_line : Stmt := top 45
theorem sc_first_wrong_line : FnScope ["lines", "ruled", "place", "line"] ["lines"] (defScope st_first_wrong_line) := ⟨rfl, rfl, rfl, by decide +kernel, rfl, by decide +kernel, by decide +kernel⟩
theorem ok_first_wrong_line {f : Addr} {fd : FuncData} (F : Fun K "first_wrong_line" "first_wrong_line" st_first_wrong_line f fd) (T : Txt K mg) (D_is_directions : Dfn P w K mg base "is_directions" 1 ["line"] (spWordB K isDirB))
  (D_is_word : Dfn P w K mg base "is_word" 4 ["signs"] (spWordB K Kg35.wordOk)) (D_is_rule : Dfn P w K mg base "is_rule" 5 ["line"] (spWordB K isRuleB)) : FnOk P w K mg base CX0 6 f fd ["lines"] spWrong := by
 refine F.ok sc_first_wrong_line (fun vs H Q E h => ?_) (fun cdv A outer s H vs Q E hr h => ?_)
 ·obtain ⟨a, ls, ws, rfl, _⟩ := h
  rfl
 ·obtain ⟨l, ls, ws, rfl, L, hlen, k⟩ := h
  have hu := hu_of hr
  refine ⟨_, (pss_cons (ps_if (PW.pt ((pw_or (pt_cmpR op_lt (pe_callB call_len_seq (by rfl) T.b_len PySem.boot_len (pa_cons (pv 0) pa_nil)) pe_int (nomark _)) (pw_or1 (pt_not (pt_val (pe_dfn D_is_directions (hr.mono (by decide)) rfl (pa_cons (pe_ix ix_list (pv 0) pe_int (fun _ _ => rfl)) pa_nil))))))))
   (pss_one (ps_ret pe_int))
   pss_nil)
   (pss_cons (ps_if (PW.pt ((pw_or (pt_cmpR op_lt (pe_callB call_len_seq (by rfl) T.b_len PySem.boot_len (pa_cons (pv 0) pa_nil)) pe_int (nomark _)) (pw_or1 (pt_not (pt_val (pe_dfn D_is_word (hr.mono (by decide)) rfl (pa_cons (pe_ix ix_list (pv 0) pe_int (fun _ _ => rfl)) pa_nil))))))))
   (pss_one (ps_ret pe_int))
   pss_nil)
   (pss_cons (ps_set (i := 1) sc_first_wrong_line.nd rfl (Or.inl rfl) pe_dnewK)
   (pss_cons (ps_for PassesOwn.never rfl (pi_range2 rfl T.b_range (pa_cons pe_int (pa_cons (pe_callB call_len_seq (by rfl) T.b_len PySem.boot_len (pa_cons (pv 0) pa_nil)) pa_nil))) (pg_name (i := 2) sc_first_wrong_line.nd rfl (Or.inl rfl))
   (pss_cons (ps_set (i := 3) sc_first_wrong_line.nd rfl (Or.inl rfl) (pe_ix ix_list (pv 0) (pv 2) (fun _ _ => rfl)))
   (pss_cons (ps_if (PW.pt ((pw_or (pt_not (pt_val (pe_dfn D_is_rule (hr.mono (by decide)) rfl (pa_cons (pv 3) pa_nil)))) (pw_or1 (pt_cmp (pc_din hu (pe_ix ix_list (pv 3) pe_int (fun _ _ => rfl)) (pv 1)))))))
   (pss_one (ps_ret (pe_op op_add (pv 2) pe_int)))
   pss_nil)
   (pss_one (ps_dput hu (pv 1) (pe_ix ix_list (pv 3) pe_int (fun _ _ => rfl)) pe_bl rfl)))))
   (pss_one (ps_ret pe_int)))))), ?_⟩
  have out : ∀ n : Nat, n = wrongOf ws → ∀ H', Same H H' → Q (.int (n : Int)) H' := fun n e H' s => by rw [e]; exact k H' s
  have len0 : (ls.map V.ref).length = ws.length := by rw [List.length_map]; exact L.len
  refine ⟨_, rfl, l, _, rfl, .inl (SqL.of L.lst), _, _, rfl, rfl, _, rfl, ?_⟩
  refine iteD (fun h1 => ?_) (fun h1 => ?_)
  ·have h1 : (((ls.map V.ref).length : Nat) : Int) < 1 := h1
   have e : ws = [] := List.eq_nil_of_length_eq_zero (by omega)
   exact out 1 (by rw [e]; rfl) _ (.refl _)
  ·have h1 : ¬ (((ls.map V.ref).length : Nat) : Int) < 1 := h1
   match ws, L, hlen, out, len0 with
   | [], _, _, _, len0 => exact absurd (by rw [len0]; decide) h1
   | d :: ws, L, hlen, out, len0 =>
    obtain ⟨a0, _, g0, h0⟩ := L.get (j := 0) (v := d) rfl
    refine ⟨_, rfl, l, _, _, _, rfl, rfl, SqL.of L.lst, at_of (j := 0) rfl g0, a0, d, rfl, SqL.of h0, fun H1 s1 => ⟨_, rfl, ?_⟩⟩
    have L1 := L.mono s1
    refine iteB (fun h2 => ?_) (fun h2 => ?_)
    ·have h2 : isDirB d = false := by cases q : isDirB d with | false => rfl | true => rw [q] at h2; cases h2
     have h2 : ¬ (d = [52] ∨ d = [54]) := of_decide_eq_false h2
     exact out 1 (wrong_dir ⟨fun z => h2 (.inl z), fun z => h2 (.inr z)⟩).symm _ s1
    ·have h2 : isDirB d = true := by cases q : isDirB d with | true => rfl | false => rw [q] at h2; cases h2
     have h2 : d = [52] ∨ d = [54] := of_decide_eq_true h2
     have hd : ¬ (d ≠ [52] ∧ d ≠ [54]) := fun z => h2.elim z.1 z.2
     refine ⟨_, rfl, l, _, rfl, .inl (SqL.of L1.lst), _, _, rfl, rfl, _, rfl, ?_⟩
     refine iteD (fun h3 => ?_) (fun h3 => ?_)
     ·have h3 : (((ls.map V.ref).length : Nat) : Int) < 2 := h3
      have e : ws = [] := List.eq_nil_of_length_eq_zero (by rw [List.length_cons] at len0; omega)
      exact out 2 (by rw [e]; exact (wrong_one hd).symm) _ s1
     ·have h3 : ¬ (((ls.map V.ref).length : Nat) : Int) < 2 := h3
      match ws, L, L1, hlen, out, len0 with
      | [], _, _, _, _, len0 => exact absurd (by rw [len0]; exact Int.lt_succ 1) h3
      | v :: ws, L, L1, hlen, out, len0 =>
       obtain ⟨a1, _, g1, h1'⟩ := L1.get (j := 1) (v := v) rfl
       refine ⟨_, rfl, l, _, _, _, rfl, rfl, SqL.of L1.lst, at_of (j := 1) rfl g1, a1, v, rfl, SqL.of h1', fun H2 s2 => ⟨_, rfl, ?_⟩⟩
       have s02 := s1.trans s2
       have L2 := L.mono s02
       refine iteB (fun h4 => ?_) (fun h4 => ?_)
       ·have h4 : Kg35.wordOk v = false := by cases q : Kg35.wordOk v with | false => rfl | true => rw [q] at h4; cases h4
        exact out 2 (wrong_word hd h4).symm _ s02
       ·have h4 : ¬ Kg35.wordOk v = false := by cases q : Kg35.wordOk v with | true => simp | false => rw [q] at h4; cases h4
        have wr : wrongOf (d :: v :: ws) = codeOf (Kg35.rulesOf 3 ws []) := wrong_rules hd h4
        refine fun r hr' => ?_
        have s3 : Same H (upd H2 r (.dK [])) := s02.trans (.new hr')
        refine ⟨_, rfl, l, _, rfl, .inl (SqL.of ((L.mono s3).lst)), 2, _, rfl, ⟨by decide, by decide, ?_, ?_⟩, ?_⟩
        ·show -(2 ^ 62) ≤ (((ls.map V.ref).length : Nat) : Int); omega
        ·show (((ls.map V.ref).length : Nat) : Int) < 2 ^ 62; rw [len0]; omega
        have en : ((((ls.map V.ref).length : Nat) : Int) - 2).toNat = ws.length := by rw [len0, List.length_cons, List.length_cons]; omega
        show ∃ W : Nat → Nat → _root_.L2.St → Hp → Prop, _
        rw [en]
        refine for_range (lo := 2) (n := ws.length) (fun i σ H' => ∃ (p q : Option V) (m : List (Nat × Kg35.Word)), σ = [some (.ref l), some (.ref r), p, q] ∧ Same H H' ∧ H' r = some (.dK (kvT m)) ∧ RulesTold ws i m)
         ⟨none, none, [], rfl, s3, upd_same, .start ws⟩ ?_ ?_
        ·rintro i σ H' hi ⟨p, q, m, rfl, s5, hR, told⟩
         have hb : ws[i]? = some ws[i] := List.getElem?_eq_getElem hi
         have L5 := L.mono s5
         obtain ⟨a2, _, g2, h2'⟩ := L5.get (j := i + 2) (v := ws[i]) (by simpa using hb)
         refine ⟨_, rfl, _, rfl, l, _, _, _, rfl, rfl, SqL.of L5.lst, at_of (j := i + 2) (by show (2 : Int) + (i : Int) = ((i + 2 : Nat) : Int); omega) g2, ?_⟩
         refine ⟨_, rfl, a2, ws[i], rfl, SqL.of h2', fun H6 s6 => ⟨_, rfl, ?_⟩⟩
         have s06 := s5.trans s6
         have hR6 := s6 _ _ hR
         have h6 := s6 _ _ h2'
         refine iteB (fun h5 => ?_) (fun h5 => ?_)
         ·refine iteB (fun _ => ?_) (fun z => by cases z)
          have h5 : isRuleB ws[i] = false := by cases q : isRuleB ws[i] with | false => rfl | true => rw [q] at h5; cases h5
          have e5 : Kg35.ruleOf ws[i] = none := by unfold isRuleB at h5; cases q : Kg35.ruleOf ws[i] with | none => rfl | some z => rw [q] at h5; cases h5
          have e7 := told.bad hb e5
          refine ⟨_, rfl, _, _, rfl, rfl, ?_⟩
          rw [e7] at wr
          have := out (3 + i) wr.symm _ s06
          rw [show ((3 + i : Nat) : Int) = 2 + (i : Int) + 1 by omega] at this
          exact this
         ·have h5 : isRuleB ws[i] = true := by cases q : isRuleB ws[i] with | true => rfl | false => rw [q] at h5; cases h5
          obtain ⟨pr, e5⟩ : ∃ pr, Kg35.ruleOf ws[i] = some pr := Option.isSome_iff_exists.mp h5
          obtain ⟨r5, c5⟩ : ∃ rest, ws[i] = pr.1 :: rest := by
           have e6 := e5
           rw [ruleOf_eq] at e6
           split at e6
           ·rename_i z
            injection e6 with e6
            subst e6
            cases q : ws[i] with
            | nil => rw [q] at z; simp at z
            | cons c rr => exact ⟨rr, rfl⟩
           ·cases e6
          rw [c5] at h6
          refine ⟨_, rfl, a2, _, _, _, rfl, rfl, SqL.of h6, at_of (j := 0) rfl rfl, _, rfl, r, _, rfl, DGet.k (k := Sum.inl (pr.1 : Int)) hR6, _, rfl, ?_⟩
          rw [valV_kvT]
          refine iteD (fun h8 => ?_) (fun h8 => ?_)
          ·have e7 := told.twice hb e5 h8
           refine ⟨_, rfl, _, _, rfl, rfl, ?_⟩
           rw [e7] at wr
           have := out (3 + i) wr.symm _ s06
           rw [show ((3 + i : Nat) : Int) = 2 + (i : Int) + 1 by omega] at this
           exact this
          ·refine ⟨_, rfl, _, rfl, _, _, _, _, rfl, rfl, SqL.of h6, at_of (j := 0) rfl rfl, r, _, rfl, DPut.k (k := Sum.inl (pr.1 : Int)) hR6 (lineLt (m := 5000) ?_), ?_⟩
           ·rw [List.length_map, told.len]; rw [List.length_cons, List.length_cons] at hlen; omega
           ·refine ⟨_, _, m ++ [pr], rfl, ?_, ?_, told.next hb e5 h8⟩
            ·intro x o e
             have nr : x ≠ r := fun z => by rw [z, s02.free hr'] at e; cases e
             rw [upd_ne nr]
             exact s06 x o e
            ·rw [upd_same, putK_new _ ?_]
             ·show _ = some (HO.dK (List.map _ (m ++ [pr])))
              rw [List.map_append]; rfl
             ·have z := valV_kvT pr.1 m
              rw [decide_eq_false h8] at z
              cases q : valV (kvT m) (Sum.inl (pr.1 : Int)) with
              | none => rfl
              | some u => rw [q] at z; cases z
        ·rintro σ H' ⟨p, q, m, rfl, s5, hR, told⟩
         rw [told.done] at wr
         exact out 0 wr.symm _ s5
end
end Gw
end
section
namespace Gw
open PySem PySem.Spec PyProof.Rows L2
abbrev kvR (m : List (Nat × Kg35.Word)) (as : List Addr) : List (Key × V) := List.zipWith (fun p a => (Sum.inl (p.1 : Int), V.ref a)) m as
structure Refs (H : Hp) (D : Addr) (as : List Addr) (m : List (Nat × Kg35.Word)) (R : Hp → Addr → Kg35.Word → Prop) : Prop where
 dict : H D = some (.dK (kvR m as))
 len : as.length = m.length
 at_ : ∀ (j : Nat) (a : Addr), as[j]? = some a → ∃ p, m[j]? = some p ∧ R H a p.2
theorem kvR_get : ∀ (m : List (Nat × Kg35.Word)) (as : List Addr) (c : Nat), as.length = m.length →
  (m.find? (fun y => y.1 == c) = none ∧ valV (kvR m as) (Sum.inl (c : Int)) = none) ∨ ∃ (j : Nat) (p : Nat × Kg35.Word) (a : Addr), m.find? (fun y => y.1 == c) = some p ∧ m[j]? = some p ∧ as[j]? = some a ∧ valV (kvR m as) (Sum.inl (c : Int)) = some (V.ref a)
 | [], as, c, h => .inl ⟨rfl, rfl⟩
 | p :: m, [], c, h => by simp at h
 | p :: m, a :: as, c, h => by
  by_cases e : p.1 = c
  ·refine .inr ⟨0, p, a, ?_, rfl, rfl, valV_pos (p := (Sum.inl (p.1 : Int), V.ref a)) (by rw [e])⟩
   rw [List.find?_cons]; simp [e]
  ·have n : ¬ (Sum.inl (p.1 : Int) : Key) = Sum.inl (c : Int) := by rw [key_eq]; exact e
   have ev : valV (kvR (p :: m) (a :: as)) (Sum.inl (c : Int)) = valV (kvR m as) (Sum.inl (c : Int)) := valV_neg (p := (Sum.inl (p.1 : Int), V.ref a)) n
   have ef : (p :: m).find? (fun y => y.1 == c) = m.find? (fun y => y.1 == c) := by rw [List.find?_cons, show (p.1 == c) = false from beq_eq_false_iff_ne.mpr e]
   rw [ev, ef]
   rcases kvR_get m as c (by simpa using h) with z | ⟨j, p', a', z1, z2, z3, z4⟩
   ·exact .inl z
   ·exact .inr ⟨j + 1, p', a', z1, z2, z3, z4⟩
theorem kvR_len (m : List (Nat × Kg35.Word)) (as : List Addr) : (kvR m as).length ≤ m.length := by
 rw [List.length_zipWith]; omega
theorem kvR_snoc {m : List (Nat × Kg35.Word)} {as : List Addr} (h : as.length = m.length) (p : Nat × Kg35.Word) (a : Addr) : kvR (m ++ [p]) (as ++ [a]) = kvR m as ++ [(Sum.inl (p.1 : Int), V.ref a)] := by
 show List.zipWith _ _ _ = _
 rw [List.zipWith_append h.symm]
 rfl
theorem kvR_at {m : List (Nat × Kg35.Word)} {as : List Addr} {i : Nat} {k : Key} {v : V} (h : (kvR m as)[i]? = some (k, v)) : ∃ p a, m[i]? = some p ∧ as[i]? = some a ∧ k = Sum.inl (p.1 : Int) ∧ v = V.ref a := by
 rw [List.getElem?_zipWith] at h
 cases e1 : m[i]? with
 | none => rw [e1] at h; cases h
 | some p =>
  cases e2 : as[i]? with
  | none => rw [e1, e2] at h; cases h
  | some a =>
   rw [e1, e2] at h
   have h := Option.some.inj h
   injection h with h1 h2
   exact ⟨p, a, rfl, rfl, h1.symm, h2.symm⟩
theorem Refs.mono {H H' : Hp} {D : Addr} {as : List Addr} {m : List (Nat × Kg35.Word)} {R : Hp → Addr → Kg35.Word → Prop} (x : Refs H D as m R) (hd : H' D = some (.dK (kvR m as))) (k : ∀ a ∈ as, ∀ v, R H a v → R H' a v) : Refs H' D as m R :=
 ⟨hd, x.len, fun j a h => by obtain ⟨p, h1, h2⟩ := x.at_ j a h; exact ⟨p, h1, k a (List.mem_of_getElem? h) _ h2⟩⟩
theorem Refs.snoc {H H' : Hp} {D a : Addr} {as : List Addr} {m : List (Nat × Kg35.Word)} {p : Nat × Kg35.Word} {R : Hp → Addr → Kg35.Word → Prop} (x : Refs H D as m R) (hd : H' D = some (.dK (kvR m as ++ [(Sum.inl (p.1 : Int), V.ref a)]))) (hr : R H' a p.2) (k : ∀ a ∈ as, ∀ v, R H a v → R H' a v) : Refs H' D (as ++ [a]) (m ++ [p]) R := by
 refine ⟨by rw [hd, kvR_snoc x.len], by rw [List.length_append, List.length_append, x.len]; rfl, fun j b hb => ?_⟩
 by_cases hj : j < as.length
 ·rw [List.getElem?_append_left hj] at hb
  obtain ⟨q, e1, e2⟩ := x.at_ j b hb
  exact ⟨q, by rw [List.getElem?_append_left (by rw [← x.len]; exact hj)]; exact e1, k b (List.mem_of_getElem? hb) _ e2⟩
 ·rw [List.getElem?_append_right (by omega)] at hb
  have e0 : j - as.length = 0 := by
   obtain ⟨z, _⟩ := List.getElem?_eq_some_iff.mp hb
   simp at z; omega
  rw [e0] at hb
  have eb : a = b := by simpa using hb
  subst eb
  exact ⟨p, by rw [List.getElem?_append_right (by rw [← x.len]; omega), ← x.len, e0]; rfl, hr⟩
def WordAt (H : Hp) (a : Addr) (v : Kg35.Word) : Prop := H a = some (.lst (vw v))
theorem nd_len : ∀ (n : Nat) (l : List Nat), l.Nodup → (∀ x ∈ l, x < n) → l.length ≤ n
 | 0, l, _, h => by
  cases l with
  | nil => exact Nat.le_refl _
  | cons a l => exact absurd (h a (List.mem_cons_self ..)) (Nat.not_lt_zero _)
 | n + 1, l, hn, h => by
  by_cases q : n ∈ l
  ·have e := List.length_erase_of_mem q
   have ih := nd_len n (l.erase n) (hn.erase n) fun x hx => by
    have h1 := h x (List.mem_of_mem_erase hx)
    have h2 : x ≠ n := ((hn.mem_erase_iff).mp hx).1
    omega
   omega
  ·have ih := nd_len n l hn fun x hx => by
    have h1 := h x hx
    have h2 : x ≠ n := fun z => q (z ▸ hx)
    omega
   omega
structure TalS (t : List (Nat × Nat)) (w : Kg35.Word) : Prop where
 tal : Tal t w
 small : ∀ c ∈ t.map (·.1), c < 128
theorem small_len {t : List (Nat × Nat)} (h : (t.map (·.1)).Nodup) (hs : ∀ c ∈ t.map (·.1), c < 128) : (kvN t).length ≤ 128 := by
 have := nd_len 128 _ h hs
 rw [List.length_map] at this ⊢
 exact this
theorem small_put {t : List (Nat × Nat)} {c v : Nat} (hs : ∀ c ∈ t.map (·.1), c < 128) (hc : c < 128) : ∀ e ∈ (putN t c v).map (·.1), e < 128 := by
 rw [put_keys]
 intro e he
 by_cases q : c ∈ t.map (·.1)
 ·rw [if_pos q] at he; exact hs e he
 ·rw [if_neg q] at he
  rcases List.mem_append.mp he with z | z
  ·exact hs e z
  ·rw [List.mem_singleton.mp z]; exact hc
def TalAt (H : Hp) (a : Addr) (v : Kg35.Word) : Prop := ∃ t, TalS t v ∧ H a = some (.dK (kvN t))
section
variable {P : Program} {w : World} {K : PySem.W.Frag} {mg : Str → Option Value} {base : Heap}
def spFirst : Sp := fun vs H Q _ => ∃ (l : Addr) (ls : List Addr) (d v : Kg35.Word) (r : List Kg35.Word), vs = [.ref l] ∧ LinesAt H l ls (d :: v :: r) ∧ ∀ a, a ∈ ls → H a = some (.lst (vw v)) → Q (.ref a) H
abbrev st_first_word_of : Stmt := top 47
theorem sc_first_word_of : FnScope ["lines"] ["lines"] (defScope st_first_word_of) := ⟨rfl, rfl, rfl, by decide +kernel, rfl, by decide +kernel, by decide +kernel⟩
theorem ok_first_word_of {f : Addr} {fd : FuncData} (F : Fun K "first_word_of" "first_word_of" st_first_word_of f fd) (T : Txt K mg) : FnOk P w K mg base CX0 1 f fd ["lines"] spFirst := by
 refine F.ok sc_first_word_of (fun vs H Q E h => ?_) (fun cdv A outer s H vs Q E hr h => ?_)
 ·obtain ⟨l, ls, d, v, r, rfl, _⟩ := h
  rfl
 ·obtain ⟨l, ls, d, v, r, rfl, L, k⟩ := h
  refine ⟨_, (pss_one (ps_ret (pe_ix ix_list (pv 0) pe_int (fun _ _ => rfl)))), ?_⟩
  obtain ⟨a1, m1, g1, h1⟩ := L.get (j := 1) (v := v) rfl
  exact ⟨_, rfl, l, _, _, _, rfl, rfl, SqL.of L.lst, at_of (j := 1) rfl g1, k a1 (List.mem_of_getElem? m1) h1⟩
def spDirs : Sp := fun vs H Q _ => ∃ (l : Addr) (ls : List Addr) (d : Kg35.Word) (r : List Kg35.Word), vs = [.ref l] ∧ LinesAt H l ls (d :: r) ∧ (d = [52] ∨ d = [54]) ∧ ∀ H', Same H H' → Q (.int ((d.headD 0 - 48 : Nat) : Int)) H'
abbrev st_directions_of : Stmt := top 46
theorem sc_directions_of : FnScope ["lines"] ["lines"] (defScope st_directions_of) := ⟨rfl, rfl, rfl, by decide +kernel, rfl, by decide +kernel, by decide +kernel⟩
theorem ok_directions_of {f : Addr} {fd : FuncData} (F : Fun K "directions_of" "directions_of" st_directions_of f fd) (T : Txt K mg) : FnOk P w K mg base CX0 1 f fd ["lines"] spDirs := by
 refine F.ok sc_directions_of (fun vs H Q E h => ?_) (fun cdv A outer s H vs Q E hr h => ?_)
 ·obtain ⟨l, ls, d, r, rfl, _⟩ := h
  rfl
 ·obtain ⟨l, ls, d, r, rfl, L, hd, k⟩ := h
  have hu64 := hr.units
  refine ⟨_, (pss_one (ps_ret (pe_ifExp (pt_cmpR (op_eqD hu64) (pe_ix ix_list (pv 0) pe_int (fun _ _ => rfl)) (pe_lst (pa_cons (pe_callB call_ord (by rfl) T.b_ord PyProof.Rows.boot_ord (pa_cons pe_str pa_nil)) pa_nil)) (nomark _)) pe_int pe_int))), ?_⟩
  obtain ⟨a1, m1, g1, h1⟩ := L.get (j := 0) (v := d) rfl
  refine ⟨_, rfl, l, _, _, _, rfl, rfl, SqL.of L.lst, at_of (j := 0) rfl g1, _, rfl, rfl, (by show 1 ≤ sizeLine; decide), fun p hp => ?_⟩
  have s1 : Same H (upd H p (.lst [.int 52])) := .new hp
  refine ⟨.list (pdW d), .list (pdW [52]), .lst (SqL.of (s1 _ _ h1)) (dp_vw d), .lst (SqL.of upd_same) (dp_vw [52]), shaped_pdW d, shaped_pdW [52], _, rfl, ?_⟩
  rw [eqv_pdW]
  refine iteD (fun h2 => ?_) (fun h2 => ?_)
  ·have := k _ s1
   rw [h2] at this
   exact this
  ·have := k _ s1
   rw [hd.resolve_left h2] at this
   exact this
def spRules : Sp := fun vs H Q _ => ∃ (l : Addr) (ls : List Addr) (d v : Kg35.Word) (r : List Kg35.Word) (m : List (Nat × Kg35.Word)), vs = [.ref l] ∧ LinesAt H l ls (d :: v :: r) ∧ r.length ≤ 5000 ∧ Kg35.rulesOf 3 r [] = .ok m ∧
 ∀ (H' : Hp) (D : Addr) (as : List Addr), Same H H' → (∀ b ∈ D :: as, H b = none) → Refs H' D as m WordAt → Q (.ref D) H'
abbrev st_rules_of : Stmt := top 48
theorem sc_rules_of : FnScope ["lines", "rules", "line"] ["lines"] (defScope st_rules_of) := ⟨rfl, rfl, rfl, by decide +kernel, rfl, by decide +kernel, by decide +kernel⟩
theorem rule_shape {b : Kg35.Word} {p : Nat × Kg35.Word} (h : Kg35.ruleOf b = some p) : b = p.1 :: 61 :: p.2 := by
 rw [ruleOf_eq] at h
 split at h
 ·rename_i z
  injection h with h
  subst h
  match b, z with
  | c :: e :: r, z =>
   have ze : e = 61 := z.2.2.1
   rw [ze]; rfl
  | [], z => simp at z
  | [c], z => simp at z
 ·cases h
theorem ok_rules_of {f : Addr} {fd : FuncData} (F : Fun K "rules_of" "rules_of" st_rules_of f fd) (T : Txt K mg) : FnOk P w K mg base CX0 1 f fd ["lines"] spRules := by
 refine F.ok sc_rules_of (fun vs H Q E h => ?_) (fun cdv A outer s H vs Q E hr h => ?_)
 ·obtain ⟨l, ls, d, v, r, m, rfl, _⟩ := h
  rfl
 ·obtain ⟨l, ls, d, v, r, m, rfl, L, hlen, hm, k⟩ := h
  have hu := hu_of hr
  have told := rules_told hm
  have ml : m.length = r.length := told.len
  have rg : ∀ (i : Nat) (p : Nat × Kg35.Word), m[i]? = some p → r[i]? = some (p.1 :: 61 :: p.2) := fun i p hp => by
   obtain ⟨b, hb, e⟩ := told.at_ i p hp
   rw [hb, rule_shape e]
  refine ⟨_, (pss_cons (ps_set (i := 1) sc_rules_of.nd rfl (Or.inl rfl) pe_dnewK)
   (pss_cons (ps_for PassesOwn.never rfl (pi_list (pe_slice sl_list (pv 0) (po_some pe_int) po_none)) (pg_name (i := 2) sc_rules_of.nd rfl (Or.inl rfl))
   (pss_one (ps_dput hu (pv 1) (pe_ix ix_list (pv 2) pe_int (fun _ _ => rfl)) (pe_slice sl_list (pv 2) (po_some pe_int) po_none) rfl)))
   (pss_one (ps_ret (pv 1))))), ?_⟩
  refine fun D hD => ?_
  have s1 : Same H (upd H D (.dK [])) := .new hD
  have L1 := L.mono s1
  refine ⟨_, rfl, _, rfl, l, _, rfl, SqL.of L1.lst, fun p hp => ⟨p, rfl, ⟨_, SqL.of upd_same⟩, ?_⟩⟩
  have npD : p ≠ D := fun z => by rw [z, upd_same] at hp; cases hp
  have hp' : H p = none := s1.free hp
  have cut : cutV (ls.map V.ref) (some 2) none = (ls.drop 2).map V.ref := by rw [cut_from (z := 2) 2 rfl, List.map_drop]
  have s2 : Same H (upd (upd H D (.dK [])) p (.lst (cutV (ls.map V.ref) (some 2) none))) := s1.trans (.new hp)
  have dl : ((ls.drop 2).map V.ref).length = r.length := by
   rw [List.length_map, List.length_drop, L.len, List.length_cons, List.length_cons]; omega
  refine for_list (K := K) (a := p) (xs := (ls.drop 2).map V.ref) (fun i σ H' => ∃ (v : Option V) (as : List Addr), σ = [some (.ref l), some (.ref D), v] ∧ Same H H' ∧ Refs H' D as (m.take i) WordAt ∧ H' p = some (.lst ((ls.drop 2).map V.ref)) ∧ ∀ a ∈ as, a ≠ D ∧ H a = none)
   ⟨none, [], rfl, s2, ⟨by rw [upd_ne npD.symm]; exact upd_same, rfl, fun j a h => by simp at h⟩, by rw [upd_same, cut], fun a h => (nomatch h)⟩ (fun i σ H' _ ⟨_, _, _, _, _, h, _⟩ => SqL.of h) ?_ ?_
  ·rintro i y σ H' hi ⟨v', as, rfl, s5, R, hp5, fr⟩
   obtain ⟨a2, ha2, rfl⟩ : ∃ a2, (ls.drop 2)[i]? = some a2 ∧ y = V.ref a2 := by
    rw [List.getElem?_map] at hi
    cases e : (ls.drop 2)[i]? with
    | none => rw [e] at hi; cases hi
    | some z => rw [e] at hi; exact ⟨z, rfl, (Option.some.inj hi).symm⟩
   have hir : i < m.length := by
    have := (List.getElem?_eq_some_iff.mp hi).1
    omega
   obtain ⟨pr, hpr⟩ : ∃ pr, m[i]? = some pr := ⟨_, List.getElem?_eq_getElem hir⟩
   have hri := rg i pr hpr
   rw [List.getElem?_drop] at ha2
   have L5 := L.mono s5
   obtain ⟨v2, e2, h2⟩ := L5.at_ (2 + i) a2 ha2
   have e3 : (d :: v :: r)[2 + i]? = r[i]? := by rw [Nat.add_comm]; rfl
   rw [e3, hri] at e2
   cases e2
   have ra : as.length ≤ 5000 := by rw [R.len, List.length_take]; omega
   refine ⟨_, rfl, _, rfl, a2, _, rfl, SqL.of h2, fun q hq => ?_⟩
   have nqD : q ≠ D := fun z => by rw [z, R.dict] at hq; cases hq
   have nqp : q ≠ p := fun z => by rw [z, hp5] at hq; cases hq
   have h2' : upd H' q (.lst (cutV (vw (pr.1 :: 61 :: pr.2)) (some 2) none)) a2 = some (.lst (vw (pr.1 :: 61 :: pr.2))) := by rw [upd_ne (ne_of_none h2 hq)]; exact h2
   have hD' : upd H' q (.lst (cutV (vw (pr.1 :: 61 :: pr.2)) (some 2) none)) D = some (.dK (kvR (m.take i) as)) := by rw [upd_ne nqD.symm]; exact R.dict
   refine ⟨_, rfl, _, rfl, a2, _, _, _, rfl, rfl, SqL.of h2', at_of (j := 0) rfl rfl, D, _, rfl, DPut.k (k := Sum.inl (pr.1 : Int)) hD' (lineLt (m := 5000) (Nat.le_trans (kvR_len _ _) (by rw [List.length_take]; omega))), ?_⟩
   have new : valV (kvR (m.take i) as) (Sum.inl (pr.1 : Int)) = none := by
    rcases kvR_get (m.take i) as pr.1 R.len with z | ⟨j, p', a', z1, z2, _⟩
    ·exact z.2
    ·exfalso
     have z3 := List.find?_some z1
     have z3 : p'.1 = pr.1 := by simpa using z3
     have hji : j < i := by
      have := (List.getElem?_eq_some_iff.mp z2).1
      rw [List.length_take] at this; omega
     have z2' : m[j]? = some p' := by rw [List.getElem?_take_of_lt hji] at z2; exact z2
     have nd := told.nd
     have ej : j = i := nd_ix nd (i := j) (j := i) (x := pr.1) (by rw [List.getElem?_map, z2']; show some p'.1 = _; rw [z3]) (by rw [List.getElem?_map, hpr]; rfl)
     omega
   rw [putK_new _ new]
   refine ⟨_, as ++ [q], rfl, ?_, ?_, ?_, ?_⟩
   ·intro x o e
    have nD : x ≠ D := fun z => by rw [z, hD] at e; cases e
    rw [upd_ne nD, upd_ne (ne_of_none (s5 x o e) hq)]
    exact s5 x o e
   ·rw [take_snoc' hpr]
    refine R.snoc upd_same ?_ fun a ha v hv => ?_
    ·show upd _ D _ q = _
     rw [upd_ne nqD, upd_same, cut_from (z := 2) 2 rfl]; rfl
    ·show upd _ D _ a = _
     rw [upd_ne (fr a ha).1, upd_ne (ne_of_none hv hq)]; exact hv
   ·rw [upd_ne npD, upd_ne nqp.symm]; exact hp5
   ·intro a ha
    rcases List.mem_append.mp ha with z | z
    ·exact fr a z
    ·rw [List.mem_singleton.mp z]; exact ⟨nqD, s5.free hq⟩
  ·rintro σ H' ⟨v', as, rfl, s5, R, hp5, fr⟩
   rw [dl, ← ml, List.take_length] at R
   exact ⟨_, rfl, k H' D as s5 (fun b hb => (List.mem_cons.mp hb).elim (fun z => by rw [z]; exact hD) fun z => (fr b z).2) R⟩
def spTally (K : PySem.W.Frag) : Sp := fun vs H Q _ => ∃ (a : Addr) (v : Kg35.Word), vs = [.ref a] ∧ SqL K H a (vw v) ∧ (∀ c ∈ v, c < 128) ∧ ∀ (H' : Hp) (d : Addr), Same H H' → H d = none → TalAt H' d v → Q (.ref d) H'
abbrev st_tally_of : Stmt := top 27
theorem sc_tally_of : FnScope ["word", "tally", "sign"] ["word"] (defScope st_tally_of) := ⟨rfl, rfl, rfl, by decide +kernel, rfl, by decide +kernel, by decide +kernel⟩
theorem ok_tally_of {f : Addr} {fd : FuncData} (F : Fun K "tally_of" "tally_of" st_tally_of f fd) (T : Txt K mg) : FnOk P w K mg base CX0 1 f fd ["word"] (spTally K) := by
 refine F.ok sc_tally_of (fun vs H Q E h => ?_) (fun cdv A outer s H vs Q E hr h => ?_)
 ·obtain ⟨a, v, rfl, _⟩ := h
  rfl
 ·obtain ⟨a, v, rfl, hS, hv, k⟩ := h
  have hu := hu_of hr
  refine ⟨_, (pss_cons (ps_set (i := 1) sc_tally_of.nd rfl (Or.inl rfl) pe_dnewK)
   (pss_cons (ps_for PassesOwn.never rfl (pi_list (pv 0)) (pg_name (i := 2) sc_tally_of.nd rfl (Or.inl rfl))
   (pss_one (ps_dput hu (pv 1) (pv 2) (pe_op op_add (pe_dget2 hu (pv 1) (pv 2) pe_int ⟨rfl, rfl, rfl, rfl⟩) pe_int) rfl)))
   (pss_one (ps_ret (pv 1))))), ?_⟩
  refine fun d hd => ?_
  have s1 : Same H (upd H d (.dK [])) := .new hd
  refine ⟨_, rfl, a, rfl, ⟨_, s1.seq hS⟩, for_list (K := K) (a := a) (xs := vw v) (fun i σ H' => ∃ (u : Option V) (t : List (Nat × Nat)), σ = [some (.ref a), some (.ref d), u] ∧ Same H H' ∧ H' d = some (.dK (kvN t)) ∧ TalS t (v.take i))
   ⟨none, [], rfl, s1, upd_same, .nil, fun c h => (nomatch h)⟩ (fun i σ H' _ ⟨_, _, _, s5, _⟩ => s5.seq hS) ?_ ?_⟩
  ·rintro i y σ H' hi ⟨u, t, rfl, s5, h5, ts⟩
   obtain ⟨c, hc, rfl⟩ := vw_get hi
   refine ⟨_, rfl, d, rfl, .inl ⟨_, .inl h5⟩, _, rfl, _, DGet.k (k := Sum.inl (c : Int)) h5, _, _, get_kvN t c 0, rfl, ?_⟩
   refine ⟨_, rfl, _, rfl, d, _, rfl, DPut.k (k := Sum.inl (c : Int)) h5 (lineLt (small_len ts.tal.nd ts.small)), ?_⟩
   have e : V.int ((getN t c 0 : Nat) + 1 : Int) = V.int ((getN t c 0 + 1 : Nat) : Int) := rfl
   refine ⟨_, putN t c (getN t c 0 + 1), rfl, ?_, ?_, ?_⟩
   ·intro x o q
    rw [upd_ne (fun z => by rw [z, hd] at q; cases q)]; exact s5 x o q
   ·rw [upd_same]
    exact congrArg (fun z => some (HO.dK z)) (put_kvN t c (getN t c 0 + 1))
   ·rw [take_snoc' hc]
    exact ⟨ts.tal.snoc c, small_put ts.small (hv c (List.mem_of_getElem? hc))⟩
  ·rintro σ H' ⟨u, t, rfl, s5, h5, ts⟩
   rw [List.length_map, List.take_length] at ts
   exact ⟨_, rfl, k H' d s5 hd ⟨t, ts, h5⟩⟩
def spSigns : Sp := fun vs H Q _ => ∃ (a : Addr) (v : Kg35.Word), vs = [.ref a] ∧ TalAt H a v ∧ ∀ H', Same H H' → Q (.int (v.length : Nat)) H'
abbrev st_signs_in : Stmt := top 30
theorem sc_signs_in : FnScope ["tally"] ["tally"] (defScope st_signs_in) := ⟨rfl, rfl, rfl, by decide +kernel, rfl, by decide +kernel, by decide +kernel⟩
theorem sum_cast : ∀ l : List Nat, (l.map fun (n : Nat) => (n : Int)).sum = ((l.sum : Nat) : Int)
 | [] => rfl
 | a :: l => by rw [List.map_cons, List.sum_cons, List.sum_cons, sum_cast l]; omega
theorem ok_signs_in {f : Addr} {fd : FuncData} (F : Fun K "signs_in" "signs_in" st_signs_in f fd) (T : Txt K mg) : FnOk P w K mg base CX0 1 f fd ["tally"] spSigns := by
 refine F.ok sc_signs_in (fun vs H Q E h => ?_) (fun cdv A outer s H vs Q E hr h => ?_)
 ·obtain ⟨a, v, rfl, _⟩ := h
  rfl
 ·obtain ⟨a, v, rfl, ⟨t, ts, ha⟩, k⟩ := h
  refine ⟨_, (pss_one (ps_ret (pe_callB (cr_sumV rfl) (by rfl) T.b_sum PyProof.Rows.boot_sum (pa_cons (pe_values (pv 0)) pa_nil)))), ?_⟩
  refine ⟨_, rfl, a, _, rfl, .inl ha, fun q hq => ?_⟩
  have s1 : Same H (upd H q (valsO q a)) := .new hq
  refine ⟨q, a, _, (t.map (·.2)).map fun (n : Nat) => (n : Int), rfl, upd_same, .inl (s1 _ _ ha), ?_, ?_⟩
  ·rw [List.map_map, List.map_map, List.map_map]; rfl
  ·rw [sum_cast, ts.tal.len]
   exact k _ s1
end
end Gw
end
section
namespace Gw
open PySem PySem.Spec PyProof.Rows L2
theorem kvN_at {l : List (Nat × Nat)} {i : Nat} {k : Key} {v : V} (h : (kvN l)[i]? = some (k, v)) : ∃ p, l[i]? = some p ∧ k = Sum.inl (p.1 : Int) ∧ v = V.int (p.2 : Int) := by
 rw [List.getElem?_map] at h
 cases e : l[i]? with
 | none => rw [e] at h; cases h
 | some p =>
  rw [e] at h
  have h := Option.some.inj h
  injection h with h1 h2
  exact ⟨p, rfl, h1.symm, h2.symm⟩
section
variable {P : Program} {w : World} {K : PySem.W.Frag} {mg : Str → Option Value} {base : Heap}
def spAdd : Sp := fun vs H Q _ => ∃ (d e : Addr) (times : Nat) (l0 more : List (Nat × Nat)) (v : Kg35.Word), vs = [.ref d, .ref e, .int (times : Int)] ∧ H d = some (.dK (kvN l0)) ∧ H e = some (.dK (kvN more)) ∧ d ≠ e ∧ (l0.map (·.1)).Nodup ∧ (∀ c ∈ l0.map (·.1), c < 128) ∧ TalS more v ∧ v.length ≤ 256 ∧
 ∀ (H' : Hp) (l : List (Nat × Nat)), But d H H' → H' d = some (.dK (kvN l)) → TalA l0 more times more.length l → (∀ c ∈ l.map (·.1), c < 128) → Q .non H'
abbrev st_add_times : Stmt := top 28
theorem sc_add_times : FnScope ["tally", "more", "times", "sign", "count"] ["tally", "more", "times"] (defScope st_add_times) := ⟨rfl, rfl, rfl, by decide +kernel, rfl, by decide +kernel, by decide +kernel⟩
theorem ok_add_times {f : Addr} {fd : FuncData} (F : Fun K "add_times" "add_times" st_add_times f fd) (T : Txt K mg) : FnOk P w K mg base CX0 1 f fd ["tally", "more", "times"] spAdd := by
 refine F.ok sc_add_times (fun vs H Q E h => ?_) (fun cdv A outer s H vs Q E hr h => ?_)
 ·obtain ⟨d, e, n, l0, more, v, rfl, _⟩ := h
  rfl
 ·obtain ⟨d, e, times, l0, more, v, rfl, hd, he, nde, nd0, sm0, tm, hv, k⟩ := h
  have hu := hu_of hr
  refine ⟨_, (pss_one (ps_lock (ps_for PassesOwn.never rfl (pi_items (pv 1)) (pg_tup rfl (pgs_cons (pg_name (i := 3) sc_add_times.nd rfl (Or.inl rfl)) (pgs_cons (pg_name (i := 4) sc_add_times.nd rfl (Or.inl rfl)) pgs_nil)))
   (pss_one (ps_dput hu (pv 0) (pv 3) (pe_op op_add (pe_dget2 hu (pv 0) (pv 3) pe_int ⟨rfl, rfl, rfl, rfl⟩) (pe_op op_mul (pv 4) (pv 2))) rfl))))), ?_⟩
  refine ⟨e, _, he, trivial, fun od => ?_⟩
  refine ⟨_, rfl, e, od, _, rfl, upd_same, for_items (d := e) (o := od) (kvs := kvN more) (fun i σ H' => ∃ (v3 v4 : Option V) (l : List (Nat × Nat)), σ = [some (.ref d), some (.ref e), some (.int (times : Int)), v3, v4] ∧ But d (upd H e (.frz od (.dK (kvN more)))) H' ∧ H' d = some (.dK (kvN l)) ∧ TalA l0 more times i l ∧ (∀ c ∈ l.map (·.1), c < 128))
   ⟨none, none, l0, rfl, fun b o q _ => q, by rw [upd_ne nde]; exact hd, .start more times nd0, sm0⟩ (fun i σ H' _ ⟨_, _, _, _, b5, _⟩ => b5 e _ upd_same nde.symm) ?_ ?_⟩
  ·rintro i kk vv Tp σ H' hi hT ⟨v3, v4, l, rfl, b5, h5, ta, sm⟩
   obtain ⟨p, hp, rfl, rfl⟩ := kvN_at hi
   have hmem := List.mem_of_getElem? hp
   have hc : p.1 < 128 := tm.small p.1 (List.mem_map.mpr ⟨p, hmem, rfl⟩)
   have hcnt : p.2 ≤ 256 := Nat.le_trans (tm.tal.mem hmem) hv
   have nTd : Tp ≠ d := fun z => by rw [z, h5] at hT; cases hT
   have h6 : upd H' Tp (.tup [kV (Sum.inl (p.1 : Int)), V.int (p.2 : Int)]) d = some (.dK (kvN l)) := by rw [upd_ne nTd.symm]; exact h5
   refine ⟨Tp, _, rfl, SqT.of upd_same, rfl, _, _, rfl, _, _, rfl, rfl, ?_⟩
   refine ⟨_, rfl, d, rfl, .inl ⟨_, .inl h6⟩, _, rfl, _, DGet.k (k := Sum.inl (p.1 : Int)) h6, _, rfl, _, rfl, _, _, rfl, rfl, .inl ⟨by omega, by omega⟩, _, _, get_kvN l p.1 0, rfl, ?_⟩
   refine ⟨_, rfl, _, rfl, d, _, rfl, DPut.k (k := Sum.inl (p.1 : Int)) h6 (lineLt (small_len ta.nd sm)), ?_⟩
   have e1 : ((getN l p.1 0 : Nat) : Int) + (p.2 : Int) * (times : Int) = ((getN l p.1 0 + p.2 * times : Nat) : Int) := by rw [Int.natCast_add, Int.natCast_mul]
   refine ⟨_, _, putN l p.1 (getN l p.1 0 + p.2 * times), rfl, ?_, ?_, ta.next hp, small_put sm hc⟩
   ·intro b o q n
    have q2 := b5 b o q n
    rw [upd_ne n, upd_ne (ne_of_none q2 hT)]; exact q2
   ·rw [upd_same]
    show some (HO.dK (putK (kvN l) (Sum.inl (p.1 : Int)) (V.int (((getN l p.1 0 : Nat) : Int) + (p.2 : Int) * (times : Int))))) = _
    rw [e1, put_kvN]
  ·rintro σ H' ⟨v3, v4, l, rfl, b5, h5, ta, sm⟩
   rw [List.length_map] at ta
   have he' : H' e = some (.frz od (.dK (kvN more))) := b5 e _ upd_same nde.symm
   refine ⟨he', ?_⟩
   refine k _ l (fun b o q n => ?_) (by rw [upd_ne nde]; exact h5) ta sm
   by_cases z : b = e
   ·subst z; rw [he] at q; cases q; exact upd_same
   ·rw [upd_ne z]
    exact b5 b o (by rw [upd_ne z]; exact q) n
theorem Good.rule_len {x : Kg35.Rules} (g : Good x) {c : Nat} {v : Kg35.Word} (h : x.rule c = some v) : v.length ≤ 256 := (wordOk_iff.mp (g.rule h).2).2.2
def spGrown : Sp := fun vs H Q _ => ∃ (a D : Addr) (as : List Addr) (x : Kg35.Rules) (v : Kg35.Word), vs = [.ref a, .ref D] ∧ TalAt H a v ∧ Refs H D as x.rules TalAt ∧ a ∉ as ∧ Good x ∧ ∀ (H' : Hp) (d : Addr), Same H H' → H d = none → TalAt H' d (v.flatMap x.of) → Q (.ref d) H'
abbrev st_grown : Stmt := top 29
theorem sc_grown : FnScope ["tally", "rule_tallies", "after", "sign", "times"] ["tally", "rule_tallies"] (defScope st_grown) := ⟨rfl, rfl, rfl, by decide +kernel, rfl, by decide +kernel, by decide +kernel⟩
theorem ok_grown {f : Addr} {fd : FuncData} (F : Fun K "grown" "grown" st_grown f fd) (T : Txt K mg) (D_add_times : Dfn P w K mg base "add_times" 1 ["tally", "more", "times"] spAdd) : FnOk P w K mg base CX0 2 f fd ["tally", "rule_tallies"] spGrown := by
 refine F.ok sc_grown (fun vs H Q E h => ?_) (fun cdv A outer s H vs Q E hr h => ?_)
 ·obtain ⟨a, D, as, x, v, rfl, _⟩ := h
  rfl
 ·obtain ⟨a, D, as, x, v, rfl, ⟨m, tm, ha⟩, R, nas, g, k⟩ := h
  have hu := hu_of hr
  refine ⟨_, (pss_cons (ps_set (i := 2) sc_grown.nd rfl (Or.inl rfl) pe_dnewK)
   (pss_cons (ps_lock (ps_for PassesOwn.never rfl (pi_items (pv 0)) (pg_tup rfl (pgs_cons (pg_name (i := 3) sc_grown.nd rfl (Or.inl rfl)) (pgs_cons (pg_name (i := 4) sc_grown.nd rfl (Or.inl rfl)) pgs_nil)))
   (pss_one (ps_expr (pe_dfn D_add_times (hr.mono (by decide)) rfl (pa_cons (pv 2) (pa_cons (pe_dget2 hu (pv 1) (pv 3) (pe_disp (pps_cons (pv 3) pe_int pps_nil) rfl rfl (by simp) (by decide)) ⟨rfl, rfl, rfl, rfl⟩) (pa_cons (pv 4) pa_nil))))))))
   (pss_one (ps_ret (pv 2))))), ?_⟩
  refine fun d hd => ?_
  have nda : d ≠ a := fun z => by rw [z, ha] at hd; cases hd
  have ha1 : upd H d (.dK []) a = some (.dK (kvN m)) := by rw [upd_ne nda.symm]; exact ha
  refine ⟨a, _, ha1, trivial, fun od => ?_⟩
  refine ⟨_, rfl, a, od, _, rfl, upd_same, for_items (d := a) (o := od) (kvs := kvN m) (fun i σ H' => ∃ (v3 v4 : Option V) (l : List (Nat × Nat)), σ = [some (.ref a), some (.ref D), some (.ref d), v3, v4] ∧ But d (upd (upd H d (.dK [])) a (.frz od (.dK (kvN m)))) H' ∧ H' d = some (.dK (kvN l)) ∧ TalG x m i l ∧ (∀ c ∈ l.map (·.1), c < 128))
   ⟨none, none, [], rfl, fun b o q _ => q, by rw [upd_ne nda]; exact upd_same, .start x m, fun c h => (nomatch h)⟩ (fun i σ H' _ ⟨_, _, _, _, b5, _⟩ => b5 a _ upd_same nda.symm) ?_ ?_⟩
  ·rintro i kk vv Tp σ H' hi hT ⟨v3, v4, l, rfl, b5, h5, tg, sm⟩
   obtain ⟨p, hp, rfl, rfl⟩ := kvN_at hi
   have hmem := List.mem_of_getElem? hp
   have hc : p.1 < 128 := tm.small p.1 (List.mem_map.mpr ⟨p, hmem, rfl⟩)
   have nTd : Tp ≠ d := fun z => by rw [z, h5] at hT; cases hT
   have old : ∀ b o, H b = some o → b ≠ a → H' b = some o := fun b o q n =>
    b5 b o (by rw [upd_ne n, upd_ne (ne_of_none q hd)]; exact q) (ne_of_none q hd)
   have nDa : D ≠ a := fun z => by
    have e := R.dict
    rw [z, ha] at e
    exact absurd e (by
     intro e
     injection e with e
     injection e with e
     cases m with
     | nil => simp at hp
     | cons p0 m =>
      cases hx : x.rules with
      | nil => rw [hx] at e; cases e
      | cons r0 rs =>
       cases as with
       | nil => rw [hx] at e; cases e
       | cons a0 as =>
        rw [hx] at e
        have e : (Sum.inl (p0.1 : Int), V.int (p0.2 : Int)) :: kvN m = (Sum.inl (r0.1 : Int), V.ref a0) :: kvR rs as := e
        injection e with e _
        injection e with _ e
        cases e)
   have hD := old D _ R.dict nDa
   refine ⟨Tp, _, rfl, SqT.of upd_same, rfl, _, _, rfl, _, _, rfl, rfl, ?_⟩
   have u1 : ∀ b o, H' b = some o → upd H' Tp (.tup [kV (Sum.inl (p.1 : Int)), V.int (p.2 : Int)]) b = some o := fun b o q => by rw [upd_ne (ne_of_none q hT)]; exact q
   refine ⟨_, rfl, _, rfl, D, rfl, .inl ⟨_, .inl (u1 _ _ hD)⟩, _, rfl, fun q hq => ⟨_, rfl, upd_same, [(Sum.inl (p.1 : Int), V.int 1)], rfl, (by show 1 ≤ 15; decide), ?_⟩⟩
   have nqd : q ≠ d := fun z => by rw [z, u1 _ _ h5] at hq; cases hq
   have nqD : q ≠ D := fun z => by rw [z, u1 _ _ hD] at hq; cases hq
   have u2 : ∀ b o, H' b = some o → upd (upd (upd H' Tp (.tup [kV (Sum.inl (p.1 : Int)), V.int (p.2 : Int)])) q (.dK [])) q (.dK (mergeK [] [(Sum.inl (p.1 : Int), V.int 1)])) b = some o := fun b o e => by
    have n : b ≠ q := ne_of_none (u1 b o e) hq
    rw [upd_ne n, upd_ne n]; exact u1 b o e
   refine ⟨_, DGet.k (k := Sum.inl (p.1 : Int)) (u2 _ _ hD), _, rfl, ?_⟩
   have hd5 := u2 _ _ h5
   have fin : ∀ (H2 : Hp) (l' : List (Nat × Nat)) (more : List (Nat × Nat)), But d (upd (upd (upd H' Tp (.tup [kV (Sum.inl (p.1 : Int)), V.int (p.2 : Int)])) q (.dK [])) q (.dK (mergeK [] [(Sum.inl (p.1 : Int), V.int 1)]))) H2 → H2 d = some (.dK (kvN l')) → Tal more (x.of p.1) → TalA l more p.2 more.length l' → (∀ c ∈ l'.map (·.1), c < 128) →
     ∃ (v3 v4 : Option V) (l : List (Nat × Nat)), [some (.ref a), some (.ref D), some (.ref d), some (kV (Sum.inl (p.1 : Int))), some (V.int (p.2 : Int))] = [some (V.ref a), some (V.ref D), some (V.ref d), v3, v4] ∧ But d (upd (upd H d (.dK [])) a (.frz od (.dK (kvN m)))) H2 ∧ H2 d = some (.dK (kvN l)) ∧ TalG x m (i + 1) l ∧ (∀ c ∈ l.map (·.1), c < 128) := fun H2 l' more b2 h2 tmore tA sm' =>
    ⟨_, _, l', rfl, fun b o e n => b2 b o (u2 b o (b5 b o e n)) n, h2, tg.next hp tmore tA, sm'⟩
   rcases kvR_get x.rules as p.1 R.len with ⟨z1, z2⟩ | ⟨j, pr, a', z1, z2, z3, z4⟩
   ·rw [z2]
    have eo : x.of p.1 = [p.1] := of_none (by unfold Kg35.Rules.rule; rw [z1]; rfl)
    refine ⟨d, q, p.2, l, [(p.1, 1)], [p.1], rfl, hd5, by rw [upd_same]; rfl, nqd.symm, tg.nd, sm, ⟨.one _, fun c hc' => by rw [List.mem_singleton.mp hc']; exact hc⟩, by simp, fun H2 l' b2 h2 tA sm' => ?_⟩
    exact fin H2 l' [(p.1, 1)] b2 h2 (by rw [eo]; exact .one _) tA sm'
   ·rw [z4]
    have er : x.rule p.1 = some pr.2 := by unfold Kg35.Rules.rule; rw [z1]; rfl
    obtain ⟨pr', e1, t, ts, h7⟩ := R.at_ j a' z3
    rw [z2] at e1
    cases e1
    have na' : a' ≠ a := fun z => nas (z ▸ List.mem_of_getElem? z3)
    have h8 := u2 _ _ (old a' _ h7 na')
    have nda' : d ≠ a' := fun z => by rw [← z, hd] at h7; cases h7
    refine ⟨d, a', p.2, l, t, pr.2, rfl, hd5, h8, nda', tg.nd, sm, ts, g.rule_len er, fun H2 l' b2 h2 tA sm' => ?_⟩
    exact fin H2 l' t b2 h2 (by rw [of_some er]; exact ts.tal) tA sm'
  ·rintro σ H' ⟨v3, v4, l, rfl, b5, h5, tg, sm⟩
   rw [List.length_map] at tg
   refine ⟨b5 a _ upd_same nda.symm, ?_⟩
   refine ⟨_, rfl, ?_⟩
   refine k _ d (fun b o q => ?_) hd ⟨l, ⟨tg.done tm.tal, sm⟩, by rw [upd_ne nda]; exact h5⟩
   by_cases z : b = a
   ·subst z; rw [ha] at q; cases q; exact upd_same
   ·rw [upd_ne z]
    exact b5 b o (by rw [upd_ne z, upd_ne (ne_of_none q hd)]; exact q) (ne_of_none q hd)
end
end Gw
end
section
namespace Gw
open PySem PySem.Spec PyProof.Rows L2
structure TalsAt (H : Hp) (l : Addr) (ds : List Addr) (x : Kg35.Rules) : Prop where
 lst : H l = some (.lst (ds.map V.ref))
 at_ : ∀ (j : Nat) (d : Addr), ds[j]? = some d → TalAt H d (x.word j)
 fit : ∀ j, j < ds.length → (x.word j).length < 2 ^ 62
 len : ds.length ≤ 65
theorem TalAt.mono {H H' : Hp} {a : Addr} {v : Kg35.Word} (s : Same H H') (h : TalAt H a v) : TalAt H' a v := by
 obtain ⟨t, ts, h⟩ := h
 exact ⟨t, ts, s _ _ h⟩
theorem TalsAt.mono {H H' : Hp} {l : Addr} {ds : List Addr} {x : Kg35.Rules} (s : Same H H') (h : TalsAt H l ds x) : TalsAt H' l ds x :=
 ⟨s _ _ h.lst, fun j d e => (h.at_ j d e).mono s, h.fit, h.len⟩
section
variable {P : Program} {w : World} {K : PySem.W.Frag} {mg : Str → Option Value} {base : Heap}
def spTallies (K : PySem.W.Frag) : Sp := fun vs H Q _ => ∃ (f R : Addr) (as : List Addr) (x : Kg35.Rules), vs = [.ref f, .ref R] ∧ H f = some (.lst (vw x.first)) ∧ Refs H R as x.rules WordAt ∧ Good x ∧ (x.rules.map (·.1)).Nodup ∧ x.rules.length ≤ 5000 ∧
 ∀ (H' : Hp) (l : Addr) (ds : List Addr), Same H H' → TalsAt H' l ds x → (ds.length = 65 ∨ 2 ^ 62 ≤ (x.word ds.length).length) → (∀ d ∈ l :: ds, H d = none) → Q (.ref l) H'
abbrev st_tallies_of : Stmt := top 31
theorem sc_tallies_of : FnScope ["first_word", "rules", "rule_tallies", "letter", "word", "tallies", "tally"] ["first_word", "rules"] (defScope st_tallies_of) := ⟨rfl, rfl, rfl, by decide +kernel, rfl, by decide +kernel, by decide +kernel⟩
theorem ok_tallies_of {f : Addr} {fd : FuncData} (F : Fun K "tallies_of" "tallies_of" st_tallies_of f fd) (T : Txt K mg) (D_tally_of : Dfn P w K mg base "tally_of" 1 ["word"] (spTally K)) (D_signs_in : Dfn P w K mg base "signs_in" 1 ["tally"] spSigns)
  (D_grown : Dfn P w K mg base "grown" 2 ["tally", "rule_tallies"] spGrown) : FnOk P w K mg base CX0 3 f fd ["first_word", "rules"] (spTallies K) := by
 refine F.ok sc_tallies_of (fun vs H Q E h => ?_) (fun cdv A outer s H vs Q E hr h => ?_)
 ·obtain ⟨f, R, as, x, rfl, _⟩ := h
  rfl
 ·obtain ⟨f, R, as, x, rfl, hf, RW, g, nd, hlen, k⟩ := h
  have hu := hu_of hr
  refine ⟨_, (pss_cons (ps_set (i := 2) sc_tallies_of.nd rfl (Or.inl rfl) pe_dnewK)
   (pss_cons (ps_lock (ps_for PassesOwn.never rfl (pi_items (pv 1)) (pg_tup rfl (pgs_cons (pg_name (i := 3) sc_tallies_of.nd rfl (Or.inl rfl)) (pgs_cons (pg_name (i := 4) sc_tallies_of.nd rfl (Or.inl rfl)) pgs_nil)))
   (pss_one (ps_dput hu (pv 2) (pv 3) (pe_dfn D_tally_of (hr.mono (by decide)) rfl (pa_cons (pv 4) pa_nil)) rfl))))
   (pss_cons (ps_set (i := 5) sc_tallies_of.nd rfl (Or.inl rfl) (pe_lst pa_nil))
   (pss_cons (ps_set (i := 6) sc_tallies_of.nd rfl (Or.inl rfl) (pe_dfn D_tally_of (hr.mono (by decide)) rfl (pa_cons (pv 0) pa_nil)))
   (pss_cons (ps_while PassesOwn.never (PW.pt (pw_and (pt_cmpR op_le (pe_callB call_len_seq (by rfl) T.b_len PySem.boot_len (pa_cons (pv 5) pa_nil)) (pe_gi rfl T.LAST_WORD) (nomark _)) (pw_and1 (pt_cmpR op_lt (pe_dfn D_signs_in (hr.mono (by decide)) rfl (pa_cons (pv 6) pa_nil)) (pe_gi rfl T.TOO_MANY_SIGNS) (nomark _)))))
   (pss_cons (ps_expr (pe_bm PySem.F.plainAttrs_list PySem.F.slot_list_append PySem.F.type_list_append mt_append (pv 5) (pa_cons (pv 6) pa_nil)))
   (pss_one (ps_set (i := 6) sc_tallies_of.nd rfl (Or.inl rfl) (pe_dfn D_grown (hr.mono (by decide)) rfl (pa_cons (pv 6) (pa_cons (pv 2) pa_nil)))))))
   (pss_one (ps_ret (pv 5)))))))), ?_⟩
  refine fun D hD => ?_
  have nDR : D ≠ R := fun z => by rw [z, RW.dict] at hD; cases hD
  have hR1 : upd H D (.dK []) R = some (.dK (kvR x.rules as)) := by rw [upd_ne nDR.symm]; exact RW.dict
  refine ⟨R, _, hR1, trivial, fun od => ?_⟩
  refine ⟨_, rfl, R, od, _, rfl, upd_same, for_items (d := R) (o := od) (kvs := kvR x.rules as) (fun i σ H' => ∃ (v3 v4 : Option V) (ts : List Addr), σ = [some (.ref f), some (.ref R), some (.ref D), v3, v4, none, none] ∧ But D (upd (upd H D (.dK [])) R (.frz od (.dK (kvR x.rules as)))) H' ∧ Refs H' D ts (x.rules.take i) TalAt ∧ ∀ t ∈ ts, t ≠ D)
   ⟨none, none, [], rfl, fun b o q _ => q, ⟨by rw [upd_ne nDR]; exact upd_same, rfl, fun j a h => by simp at h⟩, fun t h => (nomatch h)⟩ (fun i σ H' _ ⟨_, _, _, _, b5, _⟩ => b5 R _ upd_same nDR.symm) ?_ ?_⟩
  ·rintro i kk vv Tp σ H' hi hT ⟨v3, v4, ts, rfl, b5, RT, nts⟩
   obtain ⟨p, a, hp, ha, rfl, rfl⟩ := kvR_at hi
   obtain ⟨p', e1, h1⟩ := RW.at_ i a ha
   rw [hp] at e1
   cases e1
   have h1 : H a = some (.lst (vw p.2)) := h1
   have naR : a ≠ R := fun z => by rw [z, RW.dict] at h1; cases h1
   have naD : a ≠ D := fun z => by rw [z, hD] at h1; cases h1
   have h2 : H' a = some (.lst (vw p.2)) := b5 a _ (by rw [upd_ne naR, upd_ne naD]; exact h1) naD
   have u1 : ∀ b o, H' b = some o → upd H' Tp (.tup [kV (Sum.inl (p.1 : Int)), V.ref a]) b = some o := fun b o q => by rw [upd_ne (ne_of_none q hT)]; exact q
   refine ⟨Tp, _, rfl, SqT.of upd_same, rfl, _, _, rfl, _, _, rfl, rfl, ?_⟩
   have pm : p ∈ x.rules := List.mem_of_getElem? hp
   refine ⟨_, rfl, a, p.2, rfl, SqL.of (u1 _ _ h2), fun c hc => sign_lt ((wordOk_iff.mp (g.rules p pm).2).1 c hc), fun H2 t s2 ft tt => ?_⟩
   have hD2 : H2 D = some (.dK (kvR (x.rules.take i) ts)) := s2 _ _ (u1 _ _ RT.dict)
   have ntD : t ≠ D := fun z => by rw [z, u1 _ _ RT.dict] at ft; cases ft
   refine ⟨_, rfl, _, rfl, D, _, rfl, DPut.k (k := Sum.inl (p.1 : Int)) hD2 (lineLt (m := 5000) (Nat.le_trans (kvR_len _ _) (by rw [List.length_take]; omega))), ?_⟩
   have new : valV (kvR (x.rules.take i) ts) (Sum.inl (p.1 : Int)) = none := by
    rcases kvR_get (x.rules.take i) ts p.1 RT.len with z | ⟨j, p', a', z1, z2, _⟩
    ·exact z.2
    ·exfalso
     have z3 := List.find?_some z1
     have z3 : p'.1 = p.1 := by simpa using z3
     have hji : j < i := by
      have := (List.getElem?_eq_some_iff.mp z2).1
      rw [List.length_take] at this; omega
     have z2' : x.rules[j]? = some p' := by rw [List.getElem?_take_of_lt hji] at z2; exact z2
     have ej : j = i := nd_ix nd (i := j) (j := i) (x := p.1) (by rw [List.getElem?_map, z2']; show some p'.1 = _; rw [z3]) (by rw [List.getElem?_map, hp]; rfl)
     omega
   rw [putK_new _ new]
   have keepT : ∀ b ∈ ts, ∀ v, TalAt H' b v → TalAt (upd H2 D (.dK (kvR (x.rules.take i) ts ++ [(Sum.inl (p.1 : Int), V.ref t)]))) b v := fun b hb v hv => by
    obtain ⟨tl, ts', hv⟩ := hv
    exact ⟨tl, ts', by rw [upd_ne (nts b hb)]; exact s2 _ _ (u1 _ _ hv)⟩
   refine ⟨_, _, ts ++ [t], rfl, fun b o q n => ?_, ?_, fun b hb => ?_⟩
   ·rw [upd_ne n]; exact s2 _ _ (u1 _ _ (b5 b o q n))
   ·rw [take_snoc' hp]
    refine RT.snoc upd_same ?_ keepT
    obtain ⟨tl, ts', hv⟩ := tt
    exact ⟨tl, ts', by rw [upd_ne ntD]; exact hv⟩
   ·rcases List.mem_append.mp hb with z | z
    ·exact nts b z
    ·rw [List.mem_singleton.mp z]; exact ntD
  ·rintro σ H' ⟨v3, v4, ts, rfl, b5, RT, nts⟩
   have el : (kvR x.rules as).length = x.rules.length := by rw [List.length_zipWith, RW.len]; omega
   rw [el, List.take_length] at RT
   refine ⟨b5 R _ upd_same nDR.symm, ?_⟩
   have nRts : ∀ t ∈ ts, t ≠ R := fun t ht z => by
    obtain ⟨j, hj, ej⟩ := List.mem_iff_getElem.mp ht
    obtain ⟨p, _, tl, _, hv⟩ := RT.at_ j t (by rw [List.getElem?_eq_getElem hj, ej])
    rw [z, b5 R _ upd_same nDR.symm] at hv
    cases hv
   have sH : Same H (upd H' R (.dK (kvR x.rules as))) := fun b o q => by
    by_cases z : b = R
    ·subst z; rw [RW.dict] at q; cases q; exact upd_same
    ·rw [upd_ne z]
     exact b5 b o (by rw [upd_ne z, upd_ne (ne_of_none q hD)]; exact q) (ne_of_none q hD)
   have RT1 : Refs (upd H' R (.dK (kvR x.rules as))) D ts x.rules TalAt := RT.mono (by rw [upd_ne nDR]; exact RT.dict) fun t ht v hv => by
    obtain ⟨tl, ts', hv⟩ := hv
    exact ⟨tl, ts', by rw [upd_ne (nRts t ht)]; exact hv⟩
   generalize upd H' R (.dK (kvR x.rules as)) = G at sH RT1
   refine ⟨Nat.zero_le _, fun l hl => ?_⟩
   have s1 : Same G (upd G l (.lst [])) := .new hl
   refine ⟨_, rfl, f, x.first, rfl, SqL.of (s1 _ _ (sH _ _ hf)), g.firstLt, fun G2 t0 s2 ft0 tt0 => ?_⟩
   have s02 := s1.trans s2
   have RT2 : Refs G2 D ts x.rules TalAt := RT1.mono (s02 _ _ RT1.dict) fun t ht v hv => hv.mono s02
   have hl2 : G2 l = some (.lst []) := s2 _ _ upd_same
   have inT : ∀ t ∈ ts, ∃ o, G t = some o := fun t ht => by
    obtain ⟨j, hj, ej⟩ := List.mem_iff_getElem.mp ht
    obtain ⟨p, _, tl, _, hv⟩ := RT1.at_ j t (by rw [List.getElem?_eq_getElem hj, ej])
    exact ⟨_, hv⟩
   refine ⟨fun m σ H3 => ∃ (v3 v4 : Option V) (ds : List Addr) (t : Addr), m = 65 - ds.length ∧ σ = [some (.ref f), some (.ref R), some (.ref D), v3, v4, some (.ref l), some (.ref t)] ∧ Same G H3 ∧ TalsAt H3 l ds x ∧ TalAt H3 t (x.word ds.length) ∧ t ≠ l ∧ G t = none ∧ l ∉ ds ∧ ∀ d ∈ l :: ds, G d = none,
    ⟨65, _, _, [], t0, rfl, rfl, s02, ⟨hl2, fun j d h => by simp at h, fun j h => by simp at h, Nat.zero_le _⟩, tt0, fun z => (by rw [z, upd_same] at ft0; cases ft0), s1.free ft0, by simp, fun d hd => by rw [List.mem_singleton.mp hd]; exact hl⟩, ?_⟩
   rintro m σ H3 ⟨v3, v4, ds, t, rfl, rfl, s3, TA, tt, ntl, ft, nlds, fds⟩
   have fH : ∀ d ∈ l :: ds, H d = none := fun d hd => sH.free (fds d hd)
   have RT3 : Refs H3 D ts x.rules TalAt := RT1.mono (s3 _ _ RT1.dict) fun t ht v hv => hv.mono s3
   refine ⟨_, rfl, l, _, rfl, .inl (SqL.of TA.lst), _, _, rfl, rfl, _, rfl, ?_⟩
   refine iteD (fun h1 => ?_) (fun h1 => ?_)
   ·have h1 : (((ds.map V.ref).length : Nat) : Int) ≤ 64 := h1
    rw [List.length_map] at h1
    obtain ⟨b, hb⟩ : ∃ b : Bool, decide (((x.word ds.length).length : Int) < 4611686018427387904) = b := ⟨_, rfl⟩
    refine ⟨_, rfl, t, _, rfl, tt, fun H4 s4 => ⟨_, _, rfl, rfl, b, congrArg V.bl hb, ?_⟩⟩
    have TA4 := TA.mono s4
    have tt4 := tt.mono s4
    have s34 := s3.trans s4
    have RT4 : Refs H4 D ts x.rules TalAt := RT1.mono (s34 _ _ RT1.dict) fun t ht v hv => hv.mono s34
    refine iteB (fun h2 => ?_) (fun h2 => ?_)
    ·have h2 : ((x.word ds.length).length : Int) < 4611686018427387904 := of_decide_eq_true (hb.trans h2)
     refine ⟨fun σ' H5 => ∃ (v3 v4 : Option V) (t' : Addr), σ' = [some (.ref f), some (.ref R), some (.ref D), v3, v4, some (.ref l), some (.ref t')] ∧ Same G H5 ∧ TalsAt H5 l (ds ++ [t]) x ∧ TalAt H5 t' (x.word (ds ++ [t]).length) ∧ t' ≠ l ∧ G t' = none ∧ l ∉ ds ++ [t],
      fun σ' H5 ⟨v3, v4, t', e1, e2, e3, e4, e5, e6, e7⟩ => ⟨65 - (ds ++ [t]).length, by rw [List.length_append, List.length_singleton]; omega, v3, v4, ds ++ [t], t', rfl, e1, e2, e3, e4, e5, e6, e7, fun d hd => by
       rw [← List.cons_append] at hd
       rcases List.mem_append.mp hd with z | z
       ·exact fds d z
       ·rw [List.mem_singleton.mp z]; exact ft⟩, ?_⟩
     refine ⟨_, rfl, .inl ⟨rfl, _, SqL.of TA4.lst⟩, _, rfl, l, _, _, rfl, rfl, TA4.lst, lineLt (m := 65) (by rw [List.length_map]; omega), ?_⟩
     have b5 : But l H4 (upd H4 l (.lst (ds.map V.ref ++ [V.ref t]))) := .upd
     have s5 : Same G (upd H4 l (.lst (ds.map V.ref ++ [V.ref t]))) := fun b o q => b5 b o (s34 b o q) (ne_of_none q hl)
     have tt5 : TalAt (upd H4 l (.lst (ds.map V.ref ++ [V.ref t]))) t (x.word ds.length) := by
      obtain ⟨tl, ts', hv⟩ := tt4
      exact ⟨tl, ts', b5 _ _ hv ntl⟩
     have TA5 : TalsAt (upd H4 l (.lst (ds.map V.ref ++ [V.ref t]))) l (ds ++ [t]) x := by
      refine ⟨by rw [upd_same, List.map_append]; rfl, fun j d hd => ?_, fun j hj => ?_, by rw [List.length_append, List.length_singleton]; omega⟩
      ·by_cases hj : j < ds.length
       ·rw [List.getElem?_append_left hj] at hd
        obtain ⟨tl, ts', hv⟩ := TA4.at_ j d hd
        exact ⟨tl, ts', b5 _ _ hv (fun z => nlds (z ▸ List.mem_of_getElem? hd))⟩
       ·rw [List.getElem?_append_right (by omega)] at hd
        have e0 : j - ds.length = 0 := by
         obtain ⟨z, _⟩ := List.getElem?_eq_some_iff.mp hd
         simp at z; omega
        rw [e0] at hd
        have ed : t = d := by simpa using hd
        subst ed
        have ej : j = ds.length := by omega
        rw [ej]; exact tt5
      ·rw [List.length_append, List.length_singleton] at hj
       by_cases hj' : j < ds.length
       ·exact TA4.fit j hj'
       ·have ej : j = ds.length := by omega
        rw [ej]; omega
     have RT5 : Refs (upd H4 l (.lst (ds.map V.ref ++ [V.ref t]))) D ts x.rules TalAt := RT1.mono (s5 _ _ RT1.dict) fun t ht v hv => hv.mono s5
     refine ⟨_, rfl, _, rfl, t, D, ts, x, x.word ds.length, rfl, tt5, RT5, fun z => by (obtain ⟨o, q⟩ := inT t z; rw [ft] at q; cases q), g, fun H6 t' s6 ft' tt' => ?_⟩
     have s06 := s5.trans s6
     refine ⟨_, _, t', rfl, s06, TA5.mono s6, ?_, ?_, ?_, ?_⟩
     ·rw [List.length_append]; exact tt'
     ·exact fun z => by rw [z, upd_same] at ft'; cases ft'
     ·exact s5.free ft'
     ·intro z
      rcases List.mem_append.mp z with z | z
      ·exact nlds z
      ·exact ntl (List.mem_singleton.mp z).symm
    ·have h2 : ¬ ((x.word ds.length).length : Int) < 4611686018427387904 := of_decide_eq_false (hb.trans h2)
     exact ⟨_, rfl, k H4 l ds (sH.trans s34) TA4 (.inr (by omega)) fH⟩
   ·have h1 : ¬ (((ds.map V.ref).length : Nat) : Int) ≤ 64 := h1
    rw [List.length_map] at h1
    exact ⟨_, rfl, k H3 l ds (sH.trans s3) TA (.inl (by have := TA.len; omega)) fH⟩
end
end Gw
end
section
namespace Gw
open PySem PySem.Spec PyProof.Rows L2
section
variable {P : Program} {w : World} {K : PySem.W.Frag} {mg : Str → Option Value} {base : Heap}
def spSteps (K : PySem.W.Frag) : Sp := fun vs H Q _ => ∃ t : Nat, vs = [.int (t : Int)] ∧ Turns t ∧ ∀ M, StepsAt K M ((List.range t).map (Kg35.way t)) → Q (.ref M) H
abbrev st_steps_of : Stmt := top 18
theorem sc_steps_of : FnScope ["directions"] ["directions"] (defScope st_steps_of) := ⟨rfl, rfl, rfl, by decide +kernel, rfl, by decide +kernel, by decide +kernel⟩
theorem ok_steps_of {f : Addr} {fd : FuncData} (F : Fun K "steps_of" "steps_of" st_steps_of f fd) (T : Txt K mg) : FnOk P w K mg base CX0 1 f fd ["directions"] (spSteps K) := by
 obtain ⟨M4, m4, h4⟩ := T.STEPS_OF_4
 obtain ⟨M6, m6, h6⟩ := T.STEPS_OF_6
 refine F.ok sc_steps_of (fun vs H Q E h => ?_) (fun cdv A outer s H vs Q E hr h => ?_)
 ·obtain ⟨t, rfl, _⟩ := h
  rfl
 ·obtain ⟨t, rfl, ht, k⟩ := h
  refine ⟨_, (pss_one (ps_ret (pe_ifExp (pt_cmpR op_eq (pv 0) pe_int (nomark _)) (pe_glob (v := .ref M4) rfl m4 rfl) (pe_glob (v := .ref M6) rfl m6 rfl)))), ?_⟩
  refine ⟨_, rfl, rfl, _, rfl, ?_⟩
  refine iteD (fun h1 => ?_) (fun h1 => ?_)
  ·have h1 : t = 4 := by have := int_eq.mp h1; omega
   subst h1
   exact k M4 h4
  ·have h1 : ¬ t = 4 := fun z => h1 (by rw [z]; rfl)
   have h2 : t = 6 := ht.resolve_left h1
   subst h2
   exact k M6 h6
abbrev st_is_step : Stmt := top 19
theorem sc_is_step : FnScope ["sign"] ["sign"] (defScope st_is_step) := ⟨rfl, rfl, rfl, by decide +kernel, rfl, by decide +kernel, by decide +kernel⟩
theorem ok_is_step {f : Addr} {fd : FuncData} (F : Fun K "is_step" "is_step" st_is_step f fd) (T : Txt K mg) (D_is_capital : Dfn P w K mg base "is_capital" 1 ["byte"] (spBool Kg35.isBig)) : FnOk P w K mg base CX0 2 f fd ["sign"] (spBool isStep) := by
 refine F.ok sc_is_step (fun vs H Q E h => ?_) (fun cdv A outer s H vs Q E hr h => ?_)
 ·obtain ⟨c, rfl, _⟩ := h
  rfl
 ·obtain ⟨c, rfl, k⟩ := h
  refine ⟨_, (pss_one (ps_ret (pe_or (pe_dfn D_is_capital (hr.mono (by decide)) rfl (pa_cons (pv 0) pa_nil)) (pe_one (pe_cmpR op_eq (pv 0) (pe_gi rfl T.GOING) (nomark _)))))), ?_⟩
  refine ⟨_, rfl, c, rfl, _, rfl, ?_⟩
  refine iteB (fun h1 => ?_) (fun h1 => ?_)
  ·have e : isStep c = true := by unfold isStep; rw [h1]; rfl
   rw [e] at k
   exact k
  ·refine ⟨_, rfl, rfl, ?_⟩
   have e : decide (V.int (c : Int) = V.int 46) = isStep c := by
    unfold isStep
    rw [h1, Bool.false_or, Bool.eq_iff_iff, decide_eq_true_iff, decide_eq_true_iff, int_eq]
    omega
   rw [e]
   exact k
def spTurn : Sp := fun vs H Q _ => ∃ c t : Nat, vs = [.int (c : Int), .int (t : Int)] ∧ Turns t ∧ Q (.int (turnBy t c : Nat)) H
abbrev st_turn_of : Stmt := top 20
theorem sc_turn_of : FnScope ["sign", "directions"] ["sign", "directions"] (defScope st_turn_of) := ⟨rfl, rfl, rfl, by decide +kernel, rfl, by decide +kernel, by decide +kernel⟩
theorem ok_turn_of {f : Addr} {fd : FuncData} (F : Fun K "turn_of" "turn_of" st_turn_of f fd) (T : Txt K mg) : FnOk P w K mg base CX0 1 f fd ["sign", "directions"] spTurn := by
 refine F.ok sc_turn_of (fun vs H Q E h => ?_) (fun cdv A outer s H vs Q E hr h => ?_)
 ·obtain ⟨c, t, rfl, _⟩ := h
  rfl
 ·obtain ⟨c, t, rfl, ht, k⟩ := h
  refine ⟨_, (pss_cons (ps_if (pt_cmpR op_eq (pv 0) (pe_gi rfl T.LEFT) (nomark _))
   (pss_one (ps_ret pe_int))
   pss_nil)
   (pss_cons (ps_if (pt_cmpR op_eq (pv 0) (pe_gi rfl T.RIGHT) (nomark _))
   (pss_one (ps_ret (pe_op op_sub (pv 1) pe_int)))
   pss_nil)
   (pss_cons (ps_if (pt_cmpR op_eq (pv 0) (pe_gi rfl T.AROUND) (nomark _))
   (pss_one (ps_ret (pe_op op_fdiv (pv 1) pe_int)))
   pss_nil)
   (pss_one (ps_ret pe_int))))), ?_⟩
  have out : ∀ z : Int, z = (turnBy t c : Nat) → Q (.int z) H := fun z e => by rw [e]; exact k
  have t0 := ht.pos
  refine ⟨_, rfl, rfl, _, rfl, iteD (fun h1 => ?_) (fun h1 => ?_)⟩
  ·have h1 : c = 43 := by have := int_eq.mp h1; omega
   exact out 1 (by unfold turnBy; rw [if_pos h1]; rfl)
  have h1 : ¬ c = 43 := fun z => h1 (by rw [z]; rfl)
  refine ⟨_, rfl, rfl, _, rfl, iteD (fun h2 => ?_) (fun h2 => ?_)⟩
  ·have h2 : c = 45 := by have := int_eq.mp h2; omega
   exact ⟨_, rfl, _, _, rfl, rfl, out _ (by unfold turnBy; rw [if_neg h1, if_pos h2]; omega)⟩
  have h2 : ¬ c = 45 := fun z => h2 (by rw [z]; rfl)
  refine ⟨_, rfl, rfl, _, rfl, iteD (fun h3 => ?_) (fun h3 => ?_)⟩
  ·have h3 : c = 124 := by have := int_eq.mp h3; omega
   exact ⟨_, rfl, _, _, rfl, rfl, ⟨by decide, by decide⟩, out _ (by unfold turnBy; rw [if_neg h1, if_neg h2, if_pos h3]; omega)⟩
  have h3 : ¬ c = 124 := fun z => h3 (by rw [z]; rfl)
  exact out 0 (by unfold turnBy; rw [if_neg h1, if_neg h2, if_neg h3]; rfl)
end
def pf (n : Int) (ls lp : Addr) : List (Str × V) := putF "parts" (.ref lp) (putF "signs" (.ref ls) (putF "length" (.int n) []))
theorem pf_length (n : Int) (ls lp : Addr) : (pf n ls lp).lookup ("length" : Str) = some (.int n) := by
 unfold pf; rw [lookup_putF, if_neg (by decide +kernel), lookup_putF, if_neg (by decide +kernel), lookup_putF, if_pos rfl]
theorem pf_signs (n : Int) (ls lp : Addr) : (pf n ls lp).lookup ("signs" : Str) = some (.ref ls) := by
 unfold pf; rw [lookup_putF, if_neg (by decide +kernel), lookup_putF, if_pos rfl]
theorem pf_parts (n : Int) (ls lp : Addr) : (pf n ls lp).lookup ("parts" : Str) = some (.ref lp) := by
 unfold pf; rw [lookup_putF, if_pos rfl]
abbrev vq (qs : List (Addr × Kg35.Word)) : List V := qs.map fun q => V.ref q.1
abbrev wq (qs : List (Addr × Kg35.Word)) : Kg35.Word := (qs.map (·.2)).flatten
def PieceAt (CP : Addr) : Nat → Hp → Addr → Kg35.Word → Prop
 | 0, _, _, _ => False
 | k + 1, H, p, w => ∃ (dx ls lp : Addr), H p = some (.ins CP dx (pf (w.length : Nat) ls lp)) ∧ ((w.length ≤ 256 ∧ H ls = some (.lst (vw w)) ∧ H lp = some (.lst [])) ∨
   (256 < w.length ∧ ∃ qs : List (Addr × Kg35.Word), H lp = some (.lst (vq qs)) ∧ 2 ≤ qs.length ∧ qs.length ≤ 256 ∧ w = wq qs ∧ ∀ q ∈ qs, 0 < q.2.length ∧ PieceAt CP k H q.1 q.2))
theorem PieceAt.mono {CP : Addr} {H H' : Hp} (s : Same H H') : ∀ {k : Nat} {p : Addr} {w : Kg35.Word}, PieceAt CP k H p w → PieceAt CP k H' p w
 | 0, _, _, h => h
 | k + 1, p, w, ⟨dx, ls, lp, h1, h2⟩ => ⟨dx, ls, lp, s _ _ h1, h2.elim (fun ⟨a, b, c⟩ => .inl ⟨a, s _ _ b, s _ _ c⟩) fun ⟨a, qs, b, c, d, e, g⟩ => .inr ⟨a, qs, s _ _ b, c, d, e, fun q hq => ⟨(g q hq).1, PieceAt.mono s (g q hq).2⟩⟩⟩
theorem PieceAt.up {CP : Addr} {H : Hp} : ∀ {k : Nat} {p : Addr} {w : Kg35.Word}, PieceAt CP k H p w → PieceAt CP (k + 1) H p w
 | 0, _, _, h => h.elim
 | k + 1, p, w, ⟨dx, ls, lp, h1, h2⟩ => ⟨dx, ls, lp, h1, h2.elim .inl fun ⟨a, qs, b, c, d, e, g⟩ => .inr ⟨a, qs, b, c, d, e, fun q hq => ⟨(g q hq).1, PieceAt.up (g q hq).2⟩⟩⟩
theorem PieceAt.ins {CP : Addr} {H : Hp} : ∀ {k : Nat} {p : Addr} {w : Kg35.Word}, PieceAt CP k H p w → ∃ dx ls lp, H p = some (.ins CP dx (pf (w.length : Nat) ls lp)) ∧ (w.length ≤ 256 → H ls = some (.lst (vw w)))
 | 0, _, _, h => h.elim
 | k + 1, p, w, ⟨dx, ls, lp, h1, h2⟩ => ⟨dx, ls, lp, h1, fun hw => h2.elim (fun ⟨_, b, _⟩ => b) fun ⟨a, _⟩ => absurd a (by omega)⟩
structure TxtP (K : PySem.W.Frag) (CP : Addr) : Prop where
 cl : Cls K CP
 n1 : NoAttr K CP "length"
 n2 : NoAttr K CP "signs"
 n3 : NoAttr K CP "parts"
theorem Same.mk3 {H : Hp} {x dx : Addr} {a b c : HO} (hx : H x = none) (hd : H dx = none) : Same H (upd (upd (upd H dx a) x b) x c) := fun q o e => by
 rw [upd_ne (ne_of_none e hx), upd_ne (ne_of_none e hx), upd_ne (ne_of_none e hd)]; exact e
theorem wq_filter : ∀ qs : List (Addr × Kg35.Word), wq (qs.filter fun q => decide (0 < q.2.length)) = wq qs
 | [] => rfl
 | q :: qs => by
  by_cases h : 0 < q.2.length
  ·rw [List.filter_cons_of_pos (by simpa using h)]
   show q.2 ++ wq _ = q.2 ++ wq qs
   rw [wq_filter qs]
  ·rw [List.filter_cons_of_neg (by simpa using h), wq_filter qs]
   show wq qs = q.2 ++ wq qs
   rw [List.eq_nil_of_length_eq_zero (l := q.2) (by omega)]; rfl
theorem wq_len (qs : List (Addr × Kg35.Word)) : ((qs.map fun q => (q.2.length : Int)).sum) = ((wq qs).length : Int) := by
 induction qs with
 | nil => rfl
 | cons q qs ih =>
  show (q.2.length : Int) + (qs.map fun q => (q.2.length : Int)).sum = ((q.2 ++ wq qs).length : Int)
  rw [ih, List.length_append]; omega
theorem vq_get {qs : List (Addr × Kg35.Word)} {i : Nat} {x : V} (h : (vq qs)[i]? = some x) : ∃ q, qs[i]? = some q ∧ x = V.ref q.1 := by
 rw [List.getElem?_map] at h
 cases e : qs[i]? with
 | none => rw [e] at h; cases h
 | some c => rw [e] at h; exact ⟨c, rfl, (Option.some.inj h).symm⟩
section
variable {P : Program} {w : World} {K : PySem.W.Frag} {mg : Str → Option Value} {base : Heap}
def spPieceInit (CP : Addr) : Sp := fun vs H Q _ => ∃ (p dx ls lp : Addr) (n : Int), vs = [.ref p, .int n, .ref ls, .ref lp] ∧ H p = some (.ins CP dx []) ∧ Q .non (upd H p (.ins CP dx (pf n ls lp)))
abbrev st_Piece___init__ : Stmt := inClass (top 34) 0
theorem sc_Piece___init__ : FnScope ["self", "length", "signs", "parts"] ["self", "length", "signs", "parts"] (defScope st_Piece___init__) := ⟨rfl, rfl, rfl, by decide +kernel, rfl, by decide +kernel, by decide +kernel⟩
theorem ok_Piece_init {f CP : Addr} {fd : FuncData} (F : Fun K "__init__" "Piece.__init__" st_Piece___init__ f fd) (T : TxtP K CP) : FnOk P w K mg base CX0 1 f fd ["self", "length", "signs", "parts"] (spPieceInit CP) := by
 refine F.ok sc_Piece___init__ (fun vs H Q E h => ?_) (fun cdv A outer s H vs Q E hr h => ?_)
 ·obtain ⟨p, dx, ls, lp, n, rfl, _⟩ := h
  rfl
 ·obtain ⟨p, dx, ls, lp, n, rfl, hp, k⟩ := h
  refine ⟨_, (pss_cons (ps_fld (pv 0) (pv 1) rfl)
   (pss_cons (ps_fld (pv 0) (pv 2) rfl)
   (pss_one (ps_fld (pv 0) (pv 3) rfl)))), ?_⟩
  refine ⟨_, rfl, _, rfl, p, CP, dx, _, rfl, hp, T.cl, T.n1, (by show 0 < 1000; decide), ?_⟩
  refine ⟨_, rfl, _, rfl, p, CP, dx, _, rfl, upd_same, T.cl, T.n2, (by show 1 < 1000; decide), ?_⟩
  refine ⟨_, rfl, _, rfl, p, CP, dx, _, rfl, upd_same, T.cl, T.n3, (by show 2 < 1000; decide), ?_⟩
  rw [upd_upd, upd_upd]
  exact k
abbrev MkP (P : Program) (w : World) (K : PySem.W.Frag) (mg : Str → Option Value) (base : Heap) (CP : Addr) : Prop := MkrA P w K mg base "Piece" CP 1 ["self", "length", "signs", "parts"] (spPieceInit CP)
def spJoined (CP : Addr) : Sp := fun vs H Q _ => ∃ (B : Addr → Prop) (k : Nat) (l : Addr) (qs : List (Addr × Kg35.Word)), vs = [.ref l] ∧ Taken B H ∧ H l = some (.lst (vq qs)) ∧ qs.length ≤ 256 ∧ (∀ q ∈ qs, PieceAt CP k (hide B H) q.1 q.2) ∧
 ∀ (H' : Hp) (p : Addr), Same H H' → PieceAt CP (k + 1) (hide B H') p (wq qs) → Q (.ref p) H'
abbrev st_joined : Stmt := top 35
theorem sc_joined : FnScope ["pieces", "parts", "piece", "length", "signs"] ["pieces"] (defScope st_joined) := ⟨rfl, rfl, rfl, by decide +kernel, rfl, by decide +kernel, by decide +kernel⟩
theorem ok_joined {f CP : Addr} {fd : FuncData} (F : Fun K "joined" "joined" st_joined f fd) (T : Txt K mg) (TP : TxtP K CP) (M : MkP P w K mg base CP) : FnOk P w K mg base CX0 3 f fd ["pieces"] (spJoined CP) := by
 refine F.ok sc_joined (fun vs H Q E h => ?_) (fun cdv A outer s H vs Q E hr h => ?_)
 ·obtain ⟨B, kk, l, qs, rfl, _⟩ := h
  rfl
 ·obtain ⟨B, kk, l, qs, rfl, tB, hl, hlen, hq, k⟩ := h
  refine ⟨_, (pss_cons (ps_setLc (i := 1) (own := [("piece", 2)]) rfl sc_joined.nd rfl (by show List.lookup ("parts" : Str) (defScope st_joined).names = some .local; decide +kernel) (sw_true rfl (by show List.lookup ("parts" : Str) (defScope st_joined).names = some .local; decide +kernel) rfl (by decide +kernel)) (pi_list (pv 0)) (blkOk_by (by show blkC ["pieces", "parts", "piece", "length", "signs"] (defScope st_joined) _ [("piece", 2)] = true; decide +kernel)) (fun _ _ _ _ _ => (pg_name (i := 2) sc_joined.nd rfl (Or.inl rfl))) (fun _ _ _ _ _ => pts_one (pt_cmpR op_gt (pe_fldK (Kx := K) (pv 2) rfl) pe_int (nomark _))) (fun _ _ _ _ _ => (pv 2)))
   (pss_cons (ps_if (pt_cmpR op_eq (pe_callB call_len_seq (by rfl) T.b_len PySem.boot_len (pa_cons (pv 1) pa_nil)) pe_int (nomark _))
   (pss_one (ps_ret (pe_ix ix_list (pv 1) pe_int (fun _ _ => rfl))))
   pss_nil)
   (pss_cons (ps_set (i := 3) sc_joined.nd rfl (Or.inl rfl) (pe_callB (cr_sum rfl) (by rfl) T.b_sum PyProof.Rows.boot_sum (pa_cons (pe_lc (own := [("piece", 2)]) rfl sc_joined.nd (pi_list (pv 1)) (blkOk_by (by show blkC ["pieces", "parts", "piece", "length", "signs"] (defScope st_joined) _ [("piece", 2)] = true; decide +kernel)) (fun _ _ _ _ _ => (pg_name (i := 2) sc_joined.nd rfl (Or.inl rfl))) (fun _ _ _ _ _ => pts_nil) (fun _ _ _ _ _ => (pe_fldK (Kx := K) (pv 2) rfl))) pa_nil)))
   (pss_cons (ps_if (pt_cmpR op_gt (pv 3) (pe_gi rfl T.LONGEST_WRITTEN) (nomark _))
   (pss_one (ps_ret (pe_mkrA M (hr.mono (by decide)) rfl (pa_cons (pv 3) (pa_cons (pe_lst pa_nil) (pa_cons (pv 1) pa_nil))))))
   pss_nil)
   (pss_cons (ps_set (i := 4) sc_joined.nd rfl (Or.inl rfl) (pe_lst pa_nil))
   (pss_cons (ps_for PassesOwn.never rfl (pi_list (pv 1)) (pg_name (i := 2) sc_joined.nd rfl (Or.inl rfl))
   (pss_one (ps_expr (pe_bm PySem.F.plainAttrs_list PySem.F.slot_list_extend PySem.F.type_list_extend mt_extend (pv 4) (pa_cons (pe_fld (pv 2) rfl) pa_nil)))))
   (pss_one (ps_ret (pe_mkrA M (hr.mono (by decide)) rfl (pa_cons (pv 3) (pa_cons (pv 4) (pa_cons (pe_lst pa_nil) pa_nil)))))))))))), ?_⟩
  obtain ⟨fs, hfs⟩ : ∃ fs, fs = qs.filter fun q => decide (0 < q.2.length) := ⟨_, rfl⟩
  have ewq : wq fs = wq qs := by rw [hfs]; exact wq_filter qs
  have fsub : ∀ q ∈ fs, q ∈ qs ∧ 0 < q.2.length := fun q h => by
   rw [hfs] at h
   obtain ⟨a, b⟩ := List.mem_filter.mp h
   exact ⟨a, by simpa using b⟩
  have fl : fs.length ≤ 256 := by rw [hfs]; exact Nat.le_trans (List.length_filter_le _ _) hlen
  rw [← ewq] at k
  refine ⟨_, rfl, l, rfl, ⟨_, SqL.of hl⟩, fun D hD => ?_⟩
  refine lc_list (K := K) (a := l) (xs := vq qs) (fun i H' => H' D = some (.lst (vq ((qs.take i).filter fun q => decide (0 < q.2.length)))) ∧ Same H H') ⟨upd_same, .new hD⟩ (fun i H' _ ⟨_, s⟩ => SqL.of (s _ _ hl)) ?_ ?_
  ·rintro i x H' hi ⟨hl', s⟩
   obtain ⟨q, hqi, rfl⟩ := vq_get hi
   obtain ⟨dx, ls, lp, hp, _⟩ := (hq q (List.mem_of_getElem? hqi)).ins
   refine ⟨rfl, ?_⟩
   refine ⟨_, rfl, q.1, CP, dx, _, _, rfl, s _ _ (hide_le _ _ hp), TP.cl, TP.n1, pf_length _ _ _, _, _, rfl, rfl, _, rfl, ?_⟩
   refine iteD (fun h2 => ?_) (fun h2 => ?_)
   ·have h2 : (0 : Int) < (q.2.length : Nat) := h2
    have h2 : 0 < q.2.length := by omega
    refine ⟨_, rfl, _, hl', lineLt1 (m := 256) ?_, ?_, ?_⟩
    ·rw [List.length_map]
     refine Nat.le_trans (List.length_filter_le _ _) ?_
     rw [List.length_take]; omega
    ·rw [upd_same, take_snoc' hqi, List.filter_append, List.filter_cons_of_pos (by simpa using h2), List.filter_nil]
     show _ = some (HO.lst (List.map _ (_ ++ [q])))
     rw [List.map_append]; rfl
    ·exact fun b o e => by rw [upd_ne (ne_of_none e hD)]; exact s b o e
   ·have h2 : ¬ (0 : Int) < (q.2.length : Nat) := h2
    refine ⟨?_, s⟩
    rw [take_snoc' hqi, List.filter_append, List.filter_cons_of_neg (fun z => by have z := of_decide_eq_true z; omega), List.filter_nil, List.append_nil]
    exact hl'
  ·rintro H1 ⟨hD1, s1⟩
   rw [List.length_map, List.take_length, ← hfs] at hD1
   refine ⟨_, rfl, D, _, rfl, .inl (SqL.of hD1), rfl, _, rfl, ?_⟩
   refine iteD (fun h1 => ?_) (fun h1 => ?_)
   ·have h1 : fs.length = 1 := by
     have := int_eq.mp h1
     rw [List.length_map] at this
     omega
    cases fs with
    | nil => cases h1
    | cons q r =>
     have er : r = [] := List.eq_nil_of_length_eq_zero (by simpa using h1)
     subst er
     refine ⟨_, rfl, D, _, _, _, rfl, rfl, SqL.of hD1, at_of (j := 0) rfl rfl, k H1 q.1 s1 ?_⟩
     have e : wq [q] = q.2 := by show q.2 ++ [] = q.2; rw [List.append_nil]
     rw [e]
     exact (((hq q (fsub q (List.mem_cons_self ..)).1)).mono (hide_same s1)).up
   ·have h1 : ¬ fs.length = 1 := fun z => h1 (by rw [List.length_map, z]; rfl)
    have nD : ¬ B D := tB.new hD
    have fq : ∀ {H' : Hp}, Same H1 H' → ∀ q ∈ fs, ∃ dx ls lp, H' q.1 = some (.ins CP dx (pf (q.2.length : Nat) ls lp)) ∧ (q.2.length ≤ 256 → H' ls = some (.lst (vw q.2))) := fun {H'} sm q h => by
     obtain ⟨dx, ls, lp, hp, hw⟩ := (hq q (fsub q h).1).ins
     exact ⟨dx, ls, lp, sm _ _ (s1 _ _ (hide_le _ _ hp)), fun z => sm _ _ (s1 _ _ (hide_le _ _ (hw z)))⟩
    refine ⟨_, rfl, D, rfl, ⟨_, SqL.of hD1⟩, fun D2 hD2 => ?_⟩
    refine lc_list (K := K) (a := D) (xs := vq fs) (fun i H' => H' D2 = some (.lst ((fs.take i).map fun q => V.int (q.2.length : Nat))) ∧ Same H1 H') ⟨upd_same, .new hD2⟩ (fun i H' _ ⟨_, s⟩ => SqL.of (s _ _ hD1)) ?_ ?_
    ·rintro i x H' hi ⟨hl', s⟩
     obtain ⟨q, hqi, rfl⟩ := vq_get hi
     obtain ⟨dx, ls, lp, hp, _⟩ := fq s q (List.mem_of_getElem? hqi)
     refine ⟨rfl, ?_⟩
     refine ⟨_, rfl, q.1, CP, dx, _, _, rfl, hp, TP.cl, TP.n1, pf_length _ _ _, _, hl', lineLt1 (m := 256) ?_, ?_, ?_⟩
     ·rw [List.length_map, List.length_take]; omega
     ·rw [upd_same, take_snoc' hqi, List.map_append]; rfl
     ·exact fun b o e => by rw [upd_ne (ne_of_none e hD2)]; exact s b o e
    ·rintro H2 ⟨hl2, s2⟩
     rw [List.length_map, List.take_length] at hl2
     refine ⟨D2, fs.map fun q => (q.2.length : Int), rfl, SqL.of (by rw [hl2, List.map_map]; rfl), ?_⟩
     rw [wq_len]
     have s02 := s1.trans s2
     have hD2' : H2 D = some (.lst (vq fs)) := s2 _ _ hD1
     refine ⟨_, rfl, _, _, rfl, rfl, _, rfl, ?_⟩
     refine iteD (fun h3 => ?_) (fun h3 => ?_)
     ·have h3 : (256 : Int) < ((wq fs).length : Nat) := h3
      refine ⟨_, rfl, Nat.zero_le _, fun ls hls => ⟨_, rfl, fun x dx hx hdx ne => ?_⟩⟩
      refine ⟨x, dx, ls, D, _, rfl, upd_same, rfl, ?_⟩
      have s3 : Same H2 (upd H2 ls (.lst [])) := .new hls
      have s4 : Same (upd H2 ls (.lst [])) (upd (upd (upd (upd H2 ls (.lst [])) dx (.own x)) x (.ins CP dx [])) x (.ins CP dx (pf ((wq fs).length : Nat) ls D))) := Same.mk3 hx hdx
      have sA := s02.trans (s3.trans s4)
      refine k _ x sA ⟨dx, ls, D, hide_in (tB.new ((s02.trans s3).free hx)) upd_same, .inr ⟨by omega, fs, hide_in nD (s4 _ _ (s3 _ _ hD2')), ?_, fl, rfl, fun q h => ⟨(fsub q h).2, (hq q (fsub q h).1).mono (hide_same sA)⟩⟩⟩
      cases fs with
      | nil => simp at h3
      | cons q r =>
       cases r with
       | nil => exact absurd rfl h1
       | cons q2 r => simp
     ·have h3 : ¬ (256 : Int) < ((wq fs).length : Nat) := h3
      have hw : (wq fs).length ≤ 256 := by omega
      refine ⟨Nat.zero_le _, fun sg hsg => ?_⟩
      refine ⟨_, rfl, D, rfl, ⟨_, SqL.of (by rw [upd_ne (ne_of_none hD2' hsg)]; exact hD2')⟩, ?_⟩
      refine for_list (K := K) (a := D) (xs := vq fs) (fun i σ H' => ∃ v : Option V, σ = [some (.ref l), some (.ref D), v, some (.int ((wq fs).length : Nat)), some (.ref sg)] ∧ Same H2 H' ∧ H' sg = some (.lst (vw (wq (fs.take i)))))
       ⟨_, rfl, .new hsg, upd_same⟩ (fun i σ H' _ ⟨_, _, s, _⟩ => SqL.of (s _ _ hD2')) ?_ ?_
      ·rintro i x σ H' hi ⟨v, rfl, s, hs⟩
       obtain ⟨q, hqi, rfl⟩ := vq_get hi
       obtain ⟨dx, ls, lp, hp, hsn⟩ := fq (s2.trans s) q (List.mem_of_getElem? hqi)
       have e1 : wq (fs.take (i + 1)) = wq (fs.take i) ++ q.2 := by
        rw [take_snoc' hqi]
        show ((fs.take i ++ [q]).map (·.2)).flatten = _
        rw [List.map_append, List.flatten_append]
        show _ ++ (q.2 ++ []) = _
        rw [List.append_nil]
       have e2 : (wq (fs.take (i + 1))).length ≤ (wq fs).length := by
        have e : wq fs = wq (fs.take (i + 1)) ++ wq (fs.drop (i + 1)) := by
         show (fs.map (·.2)).flatten = ((fs.take (i + 1)).map (·.2)).flatten ++ ((fs.drop (i + 1)).map (·.2)).flatten
         rw [← List.flatten_append, ← List.map_append, List.take_append_drop]
        rw [e, List.length_append]; omega
       have hql : q.2.length ≤ 256 := by rw [e1, List.length_append] at e2; omega
       have hls := hsn hql
       refine ⟨_, rfl, .inl ⟨rfl, _, SqL.of hs⟩, _, rfl, q.1, CP, dx, _, _, rfl, hp, TP.cl, TP.n2, pf_signs _ _ _, sg, ls, _, _, rfl, rfl, hs, hls, ?_, ?_⟩
       ·rw [← List.length_append, ← vw_append, ← e1, List.length_map]
        exact Nat.le_of_lt (lineLt1 (m := 256) (by omega))
       ·refine ⟨_, rfl, fun b o e => by rw [upd_ne (ne_of_none e hsg)]; exact s b o e, ?_⟩
        rw [upd_same, e1, vw_append]
      ·rintro σ H3 ⟨v, rfl, s3, hs⟩
       rw [List.length_map, List.take_length] at hs
       refine ⟨_, rfl, _, rfl, Nat.zero_le _, fun lp hlp => fun x dx hx hdx ne => ?_⟩
       refine ⟨x, dx, sg, lp, _, rfl, upd_same, rfl, ?_⟩
       have s4 : Same H3 (upd H3 lp (.lst [])) := .new hlp
       have s5 : Same (upd H3 lp (.lst [])) (upd (upd (upd (upd H3 lp (.lst [])) dx (.own x)) x (.ins CP dx [])) x (.ins CP dx (pf ((wq fs).length : Nat) sg lp))) := Same.mk3 hx hdx
       have s03 := s02.trans s3
       refine k _ x (s03.trans (s4.trans s5)) ⟨dx, sg, lp, hide_in (tB.new ((s03.trans s4).free hx)) upd_same, .inl ⟨hw, hide_in (tB.new (s02.free hsg)) (s5 _ _ (s4 _ _ hs)), hide_in (tB.new (s03.free hlp)) (s5 _ _ upd_same)⟩⟩
end
end Gw
end
section
namespace Gw
open PySem PySem.Spec PyProof.Rows L2
def isLI : HO → Bool
 | .lst _ => true
 | .ins _ _ _ => true
 | _ => false
def LI (H H' : Hp) : Prop := ∀ b o, H b = some o → isLI o = true → H' b = some o
theorem LI.of {H H' : Hp} (s : Same H H') : LI H H' := fun b o e _ => s b o e
theorem LI.trans {H H1 H2 : Hp} (a : LI H H1) (b : LI H1 H2) : LI H H2 := fun x o e n => b x o (a x o e n) n
theorem LI.upd {H : Hp} {d : Addr} {u o : HO} (e : H d = some o) (n : isLI o = false) : LI H (upd H d u) := fun b v q m => by
 have nb : b ≠ d := fun z => by rw [z, e] at q; cases q; rw [n] at m; cases m
 rw [upd_ne nb]; exact q
theorem LI.new {H : Hp} {d : Addr} {u : HO} (e : H d = none) : LI H (L2.upd H d u) := LI.of (Same.new e)
theorem LI.hide {H H' : Hp} {B : Addr → Prop} (a : LI H H') : LI (hide B H) (hide B H') := fun b o e n => hide_in (hide_out e) (a b o (hide_le b o e) n)
theorem PieceAt.li {CP : Addr} {H H' : Hp} (s : LI H H') : ∀ {k : Nat} {p : Addr} {w : Kg35.Word}, PieceAt CP k H p w → PieceAt CP k H' p w
 | 0, _, _, h => h
 | k + 1, p, w, ⟨dx, ls, lp, h1, h2⟩ => ⟨dx, ls, lp, s _ _ h1 rfl, h2.elim (fun ⟨a, b, c⟩ => .inl ⟨a, s _ _ b rfl, s _ _ c rfl⟩) fun ⟨a, qs, b, c, d, e, g⟩ => .inr ⟨a, qs, s _ _ b rfl, c, d, e, fun q hq => ⟨(g q hq).1, PieceAt.li s (g q hq).2⟩⟩⟩
def ODict (Ob : Hp → Addr → Kg35.Word → Prop) (S : Nat → Prop) (G : Hp) (d : Addr) (m : Nat) (f : Nat → Kg35.Word) : Prop :=
 ∃ kvs, G d = some (.dK kvs) ∧ kvs.length ≤ m ∧ ∀ c, S c → ∃ a, valV kvs (Sum.inl (c : Int)) = some (.ref a) ∧ Ob G a (f c)
theorem ODict.mono {Ob : Hp → Addr → Kg35.Word → Prop} {S : Nat → Prop} {G G' : Hp} {d : Addr} {m : Nat} {f : Nat → Kg35.Word} (x : ODict Ob S G d m f) (s : Same G G') (ob : ∀ a v, Ob G a v → Ob G' a v) : ODict Ob S G' d m f := by
 obtain ⟨kvs, h1, h2, h3⟩ := x
 exact ⟨kvs, s _ _ h1, h2, fun c hc => by obtain ⟨a, e, o⟩ := h3 c hc; exact ⟨a, e, ob _ _ o⟩⟩
abbrev isS (c : Nat) : Prop := Kg35.isSign c = true
theorem mem_allSigns {c : Nat} (h : Kg35.isSign c = true) : c ∈ allSigns := List.mem_filter.mpr ⟨List.mem_range.mpr (sign_lt h), h⟩
theorem allSigns_len : allSigns.length ≤ 128 := Nat.le_trans (List.length_filter_le _ _) (by rw [List.length_range]; exact Nat.le_refl _)
theorem key_ne {a b : Nat} (h : a ≠ b) : ¬ (Sum.inl (a : Int) : Key) = Sum.inl (b : Int) := by rw [key_eq]; exact h
def upTo (m : List (Nat × Kg35.Word)) (f : Nat → Kg35.Word) (c : Nat) : Kg35.Word := match m.find? fun y => y.1 == c with
 | some y => y.2.flatMap f
 | none => f c
theorem upTo_all (x : Kg35.Rules) (f : Nat → Kg35.Word) (c : Nat) : upTo x.rules f c = (x.of c).flatMap f := by
 unfold upTo Kg35.Rules.of
 cases x.rules.find? fun y => y.1 == c with
 | none => show f c = f c ++ []; rw [List.append_nil]
 | some y => rfl
theorem upTo_new {m : List (Nat × Kg35.Word)} {p : Nat × Kg35.Word} (f : Nat → Kg35.Word) (h : p.1 ∉ m.map (·.1)) (c : Nat) : upTo (m ++ [p]) f c = if c = p.1 then p.2.flatMap f else upTo m f c := by
 unfold upTo
 rw [List.find?_append]
 by_cases e : c = p.1
 ·rw [if_pos e]
  have n : (m.find? fun y => y.1 == c) = none := by
   rw [List.find?_eq_none]
   intro y hy z
   have z : y.1 = c := by simpa using z
   exact h (List.mem_map.mpr ⟨y, hy, by rw [z, e]⟩)
  rw [n]
  have n2 : ([p].find? fun y => y.1 == c) = some p := by rw [List.find?_cons_of_pos (by simp [e])]
  rw [n2]; rfl
 ·rw [if_neg e]
  have n2 : ([p].find? fun y => y.1 == c) = none := by
   rw [List.find?_eq_none]
   intro y hy z
   have z : y.1 = c := by simpa using z
   rw [List.mem_singleton.mp hy] at z
   exact e z.symm
  rw [n2, Option.or_none]
theorem take_new {m : List (Nat × Kg35.Word)} {i : Nat} {p : Nat × Kg35.Word} (nd : (m.map (·.1)).Nodup) (h : m[i]? = some p) : p.1 ∉ (m.take i).map (·.1) := fun z => by
 obtain ⟨j, hj, ej⟩ := List.mem_iff_getElem.mp z
 have hj' : j < i := by simp at hj; omega
 have e1 : ((m.take i).map (·.1))[j]? = some p.1 := by rw [List.getElem?_eq_getElem hj, ej]
 rw [List.map_take, List.getElem?_take_of_lt hj'] at e1
 have e2 : (m.map (·.1))[i]? = some p.1 := by rw [List.getElem?_map, h]; rfl
 have := nd_ix nd e1 e2
 omega
section
variable {P : Program} {w : World} {K : PySem.W.Frag} {mg : Str → Option Value} {base : Heap}
def spPieces0 (CP : Addr) : Sp := fun vs H Q _ => ∃ B : Addr → Prop, vs = [] ∧ Taken B H ∧ ∀ (H' : Hp) (d : Addr), Same H H' → H d = none → ODict (PieceAt CP 1) isS (hide B H') d 5000 (fun c => [c]) → Q (.ref d) H'
abbrev st_pieces_of_signs : Stmt := top 36
theorem sc_pieces_of_signs : FnScope ["pieces", "sign"] [] (defScope st_pieces_of_signs) := ⟨rfl, rfl, rfl, by decide +kernel, rfl, by decide +kernel, by decide +kernel⟩
theorem ok_pieces_of_signs {f CP : Addr} {fd : FuncData} (F : Fun K "pieces_of_signs" "pieces_of_signs" st_pieces_of_signs f fd) (T : Txt K mg) (M : MkP P w K mg base CP) (D_all_signs : Dfn P w K mg base "all_signs" 4 [] spAll) : FnOk P w K mg base CX0 5 f fd [] (spPieces0 CP) := by
 refine F.ok sc_pieces_of_signs (fun vs H Q E h => ?_) (fun cdv A outer s H vs Q E hr h => ?_)
 ·obtain ⟨B, rfl, _⟩ := h
  rfl
 ·obtain ⟨B, rfl, tB, k⟩ := h
  have hu := hu_of hr
  refine ⟨_, (pss_cons (ps_set (i := 0) sc_pieces_of_signs.nd rfl (Or.inl rfl) pe_dnewK)
   (pss_cons (ps_for PassesOwn.never rfl (pi_list (pe_dfn0 D_all_signs (hr.mono (by decide)) rfl)) (pg_name (i := 1) sc_pieces_of_signs.nd rfl (Or.inl rfl))
   (pss_one (ps_dput hu (pv 0) (pv 1) (pe_mkrA M (hr.mono (by decide)) rfl (pa_cons pe_int (pa_cons (pe_lst (pa_cons (pv 1) pa_nil)) (pa_cons (pe_lst pa_nil) pa_nil)))) rfl)))
   (pss_one (ps_ret (pv 0))))), ?_⟩
  refine fun D hD => ⟨rfl, fun H1 l s1 fl hl => ⟨l, rfl, ⟨_, SqL.of hl⟩, ?_⟩⟩
  have hD1 : H1 D = some (.dK []) := s1 _ _ upd_same
  have nlD : l ≠ D := fun z => by rw [z, upd_same] at fl; cases fl
  have s01 : Same H H1 := (Same.new hD).trans s1
  refine for_list (K := K) (a := l) (xs := vw allSigns) (fun i σ H' => ∃ (v : Option V) (kvs : List (Key × V)), σ = [some (.ref D), v] ∧ But D H1 H' ∧ H' D = some (.dK kvs) ∧ kvs.length ≤ i ∧ ∀ c ∈ allSigns.take i, ∃ a, valV kvs (Sum.inl (c : Int)) = some (.ref a) ∧ PieceAt CP 1 (hide B H') a [c])
   ⟨none, [], rfl, fun b o e _ => e, hD1, Nat.zero_le _, fun c h => (nomatch h)⟩ (fun i σ H' _ ⟨_, _, _, b, _⟩ => SqL.of (b l _ hl nlD)) ?_ ?_
  ·rintro i x σ H' hi ⟨v, kvs, rfl, b5, hD5, hlen, told⟩
   obtain ⟨c, hc, rfl⟩ := vw_get hi
   have hin : i < 128 := Nat.lt_of_lt_of_le (List.getElem?_eq_some_iff.mp hc).1 allSigns_len
   have s5 : Same H H' := fun b o e => b5 b o (s01 b o e) (ne_of_none e hD)
   have tB5 := tB.mono s5
   refine ⟨_, rfl, (by show 1 ≤ sizeLine; decide), fun ls hls => ⟨Nat.zero_le _, fun lp hlp => fun x dx hx hdx ne => ?_⟩⟩
   refine ⟨x, dx, ls, lp, _, rfl, upd_same, rfl, ?_⟩
   have t1 : Same H' (upd H' ls (.lst [V.int (c : Int)])) := .new hls
   have t2 : Same (upd H' ls (.lst [V.int (c : Int)])) (upd (upd H' ls (.lst [V.int (c : Int)])) lp (.lst [])) := .new hlp
   have t3 : Same (upd (upd H' ls (.lst [V.int (c : Int)])) lp (.lst [])) (upd (upd (upd (upd (upd H' ls (.lst [V.int (c : Int)])) lp (.lst [])) dx (.own x)) x (.ins CP dx [])) x (.ins CP dx (pf 1 ls lp))) := Same.mk3 hx hdx
   have t : Same H' (upd (upd (upd (upd (upd H' ls (.lst [V.int (c : Int)])) lp (.lst [])) dx (.own x)) x (.ins CP dx [])) x (.ins CP dx (pf 1 ls lp))) := t1.trans (t2.trans t3)
   have hx' : H' x = none := (t1.trans t2).free hx
   have hlp' : H' lp = none := t1.free hlp
   have new : PieceAt CP 1 (hide B (upd (upd (upd (upd (upd H' ls (.lst [V.int (c : Int)])) lp (.lst [])) dx (.own x)) x (.ins CP dx [])) x (.ins CP dx (pf 1 ls lp)))) x [c] :=
    ⟨dx, ls, lp, hide_in (tB5.new hx') upd_same, .inl ⟨by show 1 ≤ 256; decide, hide_in (tB5.new hls) (t3 _ _ (t2 _ _ upd_same)), hide_in (tB5.new hlp') (t3 _ _ upd_same)⟩⟩
   have hD6 := t _ _ hD5
   generalize (upd (upd (upd (upd (upd H' ls (.lst [V.int (c : Int)])) lp (.lst [])) dx (.own x)) x (.ins CP dx [])) x (.ins CP dx (pf 1 ls lp))) = H6 at t new hD6
   refine ⟨_, rfl, _, rfl, D, _, rfl, DPut.k (k := Sum.inl (c : Int)) hD6 (lineLt1 (m := 128) (by omega)), ?_⟩
   have li : LI H6 (upd H6 D (.dK (putK kvs (Sum.inl (c : Int)) (.ref x)))) := LI.upd hD6 rfl
   refine ⟨_, _, rfl, fun b o e n => by rw [upd_ne n]; exact t _ _ (b5 b o e n), upd_same, Nat.le_trans (length_putK _ _ _) (by omega), fun c' h => ?_⟩
   rw [take_snoc' hc] at h
   rw [valV_put]
   by_cases e : c' = c
   ·subst e
    exact ⟨x, if_pos rfl, new.li li.hide⟩
   ·rw [if_neg (key_ne e)]
    rcases List.mem_append.mp h with h | h
    ·obtain ⟨a, ea, pa⟩ := told c' h
     exact ⟨a, ea, (pa.mono (hide_same t)).li li.hide⟩
    ·exact absurd (List.mem_singleton.mp h) e
  ·rintro σ H' ⟨v, kvs, rfl, b5, hD5, hlen, told⟩
   rw [List.length_map] at hlen
   rw [List.length_map, List.take_length] at told
   refine ⟨_, rfl, k H' D (fun b o e => b5 b o (s01 b o e) (ne_of_none e hD)) hD ⟨kvs, hide_in (tB.new hD) hD5, Nat.le_trans hlen (Nat.le_trans allSigns_len (by decide)), fun c hc => told c (mem_allSigns hc)⟩⟩
def spAlong (K : PySem.W.Frag) (CP : Addr) : Sp := fun vs H Q _ => ∃ (B : Addr → Prop) (k : Nat) (a d : Addr) (v : Kg35.Word) (m : Nat) (f : Nat → Kg35.Word), vs = [.ref a, .ref d] ∧ Taken B H ∧ SqL K H a (vw v) ∧ v.length ≤ 256 ∧ (∀ c ∈ v, isS c) ∧ ODict (PieceAt CP k) isS (hide B H) d m f ∧
 ∀ (H' : Hp) (p : Addr), Same H H' → PieceAt CP (k + 1) (hide B H') p (v.flatMap f) → Q (.ref p) H'
abbrev st_piece_along : Stmt := top 37
theorem sc_piece_along : FnScope ["word", "pieces", "sign"] ["word", "pieces"] (defScope st_piece_along) := ⟨rfl, rfl, rfl, by decide +kernel, rfl, by decide +kernel, by decide +kernel⟩
theorem ok_piece_along {f CP : Addr} {fd : FuncData} (F : Fun K "piece_along" "piece_along" st_piece_along f fd) (T : Txt K mg) (D_joined : Dfn P w K mg base "joined" 3 ["pieces"] (spJoined CP)) : FnOk P w K mg base CX0 4 f fd ["word", "pieces"] (spAlong K CP) := by
 refine F.ok sc_piece_along (fun vs H Q E h => ?_) (fun cdv A outer s H vs Q E hr h => ?_)
 ·obtain ⟨B, kk, a, d, v, m, f, rfl, _⟩ := h
  rfl
 ·obtain ⟨B, kk, a, d, v, m, f, rfl, tB, hS, hlen, hsg, ⟨kvs, hd, _, hk⟩, k⟩ := h
  have hu := hu_of hr
  refine ⟨_, (pss_one (ps_ret (pe_dfn D_joined (hr.mono (by decide)) rfl (pa_cons (pe_lc (own := [("sign", 2)]) rfl sc_piece_along.nd (pi_list (pv 0)) (blkOk_by (by show blkC ["word", "pieces", "sign"] (defScope st_piece_along) _ [("sign", 2)] = true; decide +kernel)) (fun _ _ _ _ _ => (pg_name (i := 2) sc_piece_along.nd rfl (Or.inl rfl))) (fun _ _ _ _ _ => pts_nil) (fun _ _ _ _ _ => (pe_dget hu (pv 1) (pv 2) (fun _ _ => rfl)))) pa_nil)))), ?_⟩
  refine ⟨_, rfl, a, rfl, ⟨_, hS⟩, fun D hD => ?_⟩
  refine lc_list (K := K) (a := a) (xs := vw v) (fun i H' => ∃ qs : List (Addr × Kg35.Word), H' D = some (.lst (vq qs)) ∧ qs.map (·.2) = (v.take i).map f ∧ (∀ q ∈ qs, PieceAt CP kk (hide B H) q.1 q.2) ∧ Same H H') ⟨[], upd_same, rfl, fun q h => (nomatch h), .new hD⟩ (fun i H' _ ⟨_, _, _, _, s⟩ => s.seq hS) ?_ ?_
  ·rintro i x H' hi ⟨qs, hl, e, hq, s⟩
   obtain ⟨c, hc, rfl⟩ := vw_get hi
   obtain ⟨b, eb, pb⟩ := hk c (hsg c (List.mem_of_getElem? hc))
   have hi' : i < v.length := (List.getElem?_eq_some_iff.mp hc).1
   have el : qs.length = i := by
    have := congrArg List.length e
    rw [List.length_map, List.length_map, List.length_take] at this
    omega
   refine ⟨rfl, ?_⟩
   refine ⟨_, rfl, _, rfl, d, V.ref b, rfl, by rw [← eb]; exact DGet.k (k := Sum.inl (c : Int)) (s _ _ (hide_le _ _ hd)), _, hl, lineLt1 (m := 256) (by rw [List.length_map]; omega), qs ++ [(b, f c)], ?_, ?_, ?_, ?_⟩
   ·rw [upd_same]
    show _ = some (HO.lst (List.map _ (qs ++ [(b, f c)])))
    rw [List.map_append]; rfl
   ·rw [List.map_append, e, take_snoc' hc, List.map_append]; rfl
   ·intro q h
    rcases List.mem_append.mp h with h | h
    ·exact hq q h
    ·rw [List.mem_singleton.mp h]; exact pb
   ·exact fun b o e => by rw [upd_ne (ne_of_none e hD)]; exact s b o e
  ·rintro H1 ⟨qs, hl, e, hq, s⟩
   rw [List.length_map, List.take_length] at e
   have el : qs.length = v.length := by
    have := congrArg List.length e
    rw [List.length_map, List.length_map] at this
    exact this
   refine ⟨B, kk, D, qs, rfl, tB.mono s, hl, by omega, fun q h => (hq q h).mono (hide_same s), fun H2 p s2 hp => k H2 p (s.trans s2) ?_⟩
   have ew : wq qs = v.flatMap f := by
    show (qs.map (·.2)).flatten = _
    rw [e]; rfl
   rw [← ew]; exact hp
def spGrownP (CP : Addr) : Sp := fun vs H Q _ => ∃ (B : Addr → Prop) (k : Nat) (d R : Addr) (as : List Addr) (x : Kg35.Rules) (m : Nat) (f : Nat → Kg35.Word), vs = [.ref d, .ref R] ∧ Taken B H ∧ d ≠ R ∧ ODict (PieceAt CP k) isS (hide B H) d m f ∧ m ≤ 1000000 ∧ Refs (hide B H) R as x.rules WordAt ∧ Good x ∧ (x.rules.map (·.1)).Nodup ∧ x.rules.length ≤ 5000 ∧
 ∀ (H' : Hp) (d' : Addr), Same H H' → H d' = none → ODict (PieceAt CP (k + 1)) isS (hide B H') d' (m + 5000) (fun c => (x.of c).flatMap f) → Q (.ref d') H'
abbrev st_grown_pieces : Stmt := top 38
theorem sc_grown_pieces : FnScope ["pieces", "rules", "after", "letter", "word"] ["pieces", "rules"] (defScope st_grown_pieces) := ⟨rfl, rfl, rfl, by decide +kernel, rfl, by decide +kernel, by decide +kernel⟩
theorem ok_grown_pieces {f CP : Addr} {fd : FuncData} (F : Fun K "grown_pieces" "grown_pieces" st_grown_pieces f fd) (T : Txt K mg) (D_piece_along : Dfn P w K mg base "piece_along" 4 ["word", "pieces"] (spAlong K CP)) : FnOk P w K mg base CX0 5 f fd ["pieces", "rules"] (spGrownP CP) := by
 refine F.ok sc_grown_pieces (fun vs H Q E h => ?_) (fun cdv A outer s H vs Q E hr h => ?_)
 ·obtain ⟨B, kk, d, R, as, x, m, f, rfl, _⟩ := h
  rfl
 ·obtain ⟨B, kk, d, R, as, x, m, f, rfl, tB, ndR, ⟨kvs, hd, hm, hk⟩, hm2, RW, g, nd, hlen, k⟩ := h
  have hu := hu_of hr
  refine ⟨_, (pss_cons (ps_set (i := 2) sc_grown_pieces.nd rfl (Or.inl rfl) (pe_callTy cr_dictC (by rfl) T.b_dict boot_dict7 (pa_cons (pv 0) pa_nil)))
   (pss_cons (ps_lock (ps_for PassesOwn.never rfl (pi_items (pv 1)) (pg_tup rfl (pgs_cons (pg_name (i := 3) sc_grown_pieces.nd rfl (Or.inl rfl)) (pgs_cons (pg_name (i := 4) sc_grown_pieces.nd rfl (Or.inl rfl)) pgs_nil)))
   (pss_one (ps_dput hu (pv 2) (pv 3) (pe_dfn D_piece_along (hr.mono (by decide)) rfl (pa_cons (pv 4) (pa_cons (pv 0) pa_nil))) rfl))))
   (pss_one (ps_ret (pv 2))))), ?_⟩
  have hd0 : H d = some (.dK kvs) := hide_le _ _ hd
  have hR0 : H R = some (.dK (kvR x.rules as)) := hide_le _ _ RW.dict
  refine ⟨_, rfl, d, kvs, rfl, .inl hd0, fun D hD => ?_⟩
  have nDR : D ≠ R := fun z => by rw [z, hR0] at hD; cases hD
  have nDd : D ≠ d := fun z => by rw [z, hd0] at hD; cases hD
  have hR1 : upd H D (.dK kvs) R = some (.dK (kvR x.rules as)) := by rw [upd_ne nDR.symm]; exact hR0
  refine ⟨R, _, hR1, trivial, fun od => ?_⟩
  have bL : ∀ b o, H b = some o → b ≠ R → upd (upd H D (.dK kvs)) R (.frz od (.dK (kvR x.rules as))) b = some o := fun b o e n => by rw [upd_ne n, upd_ne (ne_of_none e hD)]; exact e
  have liL : LI H (upd (upd H D (.dK kvs)) R (.frz od (.dK (kvR x.rules as)))) := (LI.new hD).trans (LI.upd hR1 rfl)
  refine ⟨_, rfl, R, od, _, rfl, upd_same, for_items (d := R) (o := od) (kvs := kvR x.rules as) (fun i σ H' => ∃ (v3 v4 : Option V) (kv2 : List (Key × V)), σ = [some (.ref d), some (.ref R), some (.ref D), v3, v4] ∧ But D (upd (upd H D (.dK kvs)) R (.frz od (.dK (kvR x.rules as)))) H' ∧ H' D = some (.dK kv2) ∧ kv2.length ≤ m + i ∧
    ∀ c, isS c → ∃ a, valV kv2 (Sum.inl (c : Int)) = some (.ref a) ∧ PieceAt CP (kk + 1) (hide B H') a (upTo (x.rules.take i) f c))
   ⟨none, none, kvs, rfl, fun b o q _ => q, by rw [upd_ne nDR]; exact upd_same, hm, fun c hc => by
    obtain ⟨a, ea, pa⟩ := hk c hc
    exact ⟨a, ea, (pa.li liL.hide).up⟩⟩ (fun i σ H' _ ⟨_, _, _, _, b5, _⟩ => b5 R _ upd_same nDR.symm) ?_ ?_⟩
  ·rintro i key vv Tp σ H' hi hT ⟨v3, v4, kv2, rfl, b5, hD5, hl2, told⟩
   obtain ⟨p, a, hp, ha, rfl, rfl⟩ := kvR_at hi
   obtain ⟨p', e1, h1⟩ := RW.at_ i a ha
   rw [hp] at e1
   cases e1
   have h1 : H a = some (.lst (vw p.2)) := hide_le _ _ h1
   have pm : p ∈ x.rules := List.mem_of_getElem? hp
   have hi5 : i < x.rules.length := (List.getElem?_eq_some_iff.mp hp).1
   have li5 : LI H H' := fun b o e n => b5 b o (liL b o e n) (fun z => by rw [z, hD] at e; cases e)
   have u1 : Same H' (upd H' Tp (.tup [kV (Sum.inl (p.1 : Int)), V.ref a])) := .new hT
   have hd5 : H' d = some (.dK kvs) := b5 d _ (bL d _ hd0 ndR) nDd.symm
   refine ⟨Tp, _, rfl, SqT.of upd_same, rfl, _, _, rfl, _, _, rfl, rfl, ?_⟩
   have tB6 : Taken B (upd H' Tp (.tup [kV (Sum.inl (p.1 : Int)), V.ref a])) := fun b hb => by
    have n0 := tB b hb
    cases e : H b with
    | none => exact absurd e n0
    | some o =>
     by_cases z : b = R
     ·subst z; rw [u1 _ _ (b5 b _ upd_same nDR.symm)]; exact fun q => nomatch q
     ·rw [u1 _ _ (b5 b _ (bL b o e z) (ne_of_none e hD))]; exact fun q => nomatch q
   refine ⟨_, rfl, _, rfl, B, kk, a, d, p.2, m, f, rfl, tB6, SqL.of (u1 _ _ (li5 _ _ h1 rfl)), (wordOk_iff.mp (g.rules p pm).2).2.2, fun c hc => (wordOk_iff.mp (g.rules p pm).2).1 c hc, ⟨kvs, hide_in (hide_out hd) (u1 _ _ hd5), hm, fun c hc => by
    obtain ⟨a', ea, pa⟩ := hk c hc
    exact ⟨a', ea, pa.li ((li5.trans (.of u1)).hide)⟩⟩, fun H2 q s2 pq => ?_⟩
   have s6 := u1.trans s2
   have hD6 := s6 _ _ hD5
   refine ⟨_, rfl, _, rfl, D, _, rfl, DPut.k (k := Sum.inl (p.1 : Int)) hD6 (lineLt1 (m := 1010000) (by omega)), ?_⟩
   have li : LI H2 (upd H2 D (.dK (putK kv2 (Sum.inl (p.1 : Int)) (.ref q)))) := LI.upd hD6 rfl
   refine ⟨_, _, _, rfl, fun b o e n => by rw [upd_ne n]; exact s6 _ _ (b5 b o e n), upd_same, Nat.le_trans (length_putK _ _ _) (by omega), fun c hc => ?_⟩
   rw [take_snoc' hp, upTo_new f (take_new nd hp), valV_put]
   by_cases e : c = p.1
   ·subst e
    rw [if_pos rfl, if_pos rfl]
    exact ⟨q, rfl, pq.li li.hide⟩
   ·rw [if_neg (key_ne e), if_neg e]
    obtain ⟨a', ea, pa⟩ := told c hc
    exact ⟨a', ea, (pa.mono (hide_same s6)).li li.hide⟩
  ·rintro σ H' ⟨v3, v4, kv2, rfl, b5, hD5, hl2, told⟩
   have el : (kvR x.rules as).length = x.rules.length := by rw [List.length_zipWith, RW.len]; omega
   rw [el] at hl2
   rw [el, List.take_length] at told
   have hR5 := b5 R _ upd_same nDR.symm
   refine ⟨hR5, _, rfl, k _ D (fun b o q => ?_) hD ⟨kv2, hide_in (tB.new hD) (by rw [upd_ne nDR]; exact hD5), by omega, fun c hc => ?_⟩⟩
   ·by_cases z : b = R
    ·subst z; rw [hR0] at q; cases q; exact upd_same
    ·rw [upd_ne z]
     exact b5 b o (bL b o q z) (ne_of_none q hD)
   ·obtain ⟨a, ea, pa⟩ := told c hc
    rw [upTo_all] at pa
    exact ⟨a, ea, pa.li (LI.hide (LI.upd hR5 rfl))⟩
end
end Gw
end
section
namespace Gw
open PySem PySem.Spec PyProof.Rows L2
def cost (v : Kg35.Word) : Nat := if v.length = 0 then 1 else 2 * v.length - 1
def costs (st : List (Addr × Kg35.Word)) : Nat := (st.map fun q => cost q.2).sum
theorem costs_snoc (st : List (Addr × Kg35.Word)) (q : Addr × Kg35.Word) : costs (st ++ [q]) = costs st + cost q.2 := by
 unfold costs; rw [List.map_append, List.sum_append]; show _ + (cost q.2 + 0) = _; rw [Nat.add_zero]
theorem cost_pos (v : Kg35.Word) : 0 < cost v := by unfold cost; split <;> omega
theorem costs_app (a b : List (Addr × Kg35.Word)) : costs (a ++ b) = costs a + costs b := by unfold costs; rw [List.map_append, List.sum_append]
theorem costs_rev (a : List (Addr × Kg35.Word)) : costs a.reverse = costs a := by
 unfold costs; rw [List.map_reverse, List.sum_reverse]
theorem costs_parts : ∀ qs : List (Addr × Kg35.Word), (∀ q ∈ qs, 0 < q.2.length) → costs qs + qs.length = 2 * (wq qs).length
 | [], _ => rfl
 | q :: qs, h => by
  have e1 : costs (q :: qs) = cost q.2 + costs qs := rfl
  have e2 : (wq (q :: qs)).length = q.2.length + (wq qs).length := by show (q.2 ++ wq qs).length = _; rw [List.length_append]
  have ih := costs_parts qs fun z hz => h z (List.mem_cons_of_mem _ hz)
  have hq := h q (List.mem_cons_self ..)
  have e3 : cost q.2 = 2 * q.2.length - 1 := by unfold cost; rw [if_neg (by omega)]
  rw [e1, e2, e3, List.length_cons]; omega
theorem wq_app (a b : List (Addr × Kg35.Word)) : wq (a ++ b) = wq a ++ wq b := by
 show ((a ++ b).map (·.2)).flatten = _
 rw [List.map_append, List.flatten_append]
theorem wq_one (q : Addr × Kg35.Word) : wq [q] = q.2 := by show q.2 ++ [] = q.2; rw [List.append_nil]
theorem cut_any {xs : List V} {y z : Int} (i d : Nat) (e : y = (i : Int)) (e' : z = ((i + d : Nat) : Int)) (h : i ≤ xs.length) : cutV xs (some y) (some z) = (xs.drop i).take d := by
 subst e e'
 unfold cutV
 have e1 : HT.sIx xs.length 0 (some (i : Int)) = i := by
  show (if (i : Int) < 0 then ((i : Int) + (xs.length : Int)).toNat else min ((i : Int)).toNat xs.length) = i
  rw [if_neg (by omega), Int.toNat_natCast]; omega
 have e2 : HT.sIx xs.length xs.length (some ((i + d : Nat) : Int)) = min (i + d) xs.length := by
  show (if ((i + d : Nat) : Int) < 0 then (((i + d : Nat) : Int) + (xs.length : Int)).toNat else min (((i + d : Nat) : Int)).toNat xs.length) = _
  rw [if_neg (by omega), Int.toNat_natCast]
 rw [e1, e2]
 by_cases q : i + d ≤ xs.length
 ·rw [Nat.min_eq_left q, Nat.add_sub_cancel_left]
 ·rw [Nat.min_eq_right (by omega), List.take_of_length_le (by rw [List.length_drop]; omega), List.take_of_length_le (by rw [List.length_drop]; omega)]
section
variable {P : Program} {w : World} {K : PySem.W.Frag} {mg : Str → Option Value} {base : Heap}
def spFrom (CP : Addr) : Sp := fun vs H Q _ => ∃ (k : Nat) (p : Addr) (first most : Nat) (v : Kg35.Word), vs = [.ref p, .int (first : Int), .int (most : Int)] ∧ PieceAt CP k H p v ∧ k ≤ 100 ∧ ((v.drop first).take most).length < 16777216 ∧
 ∀ (H' : Hp) (l : Addr), Same H H' → H l = none → H' l = some (.lst (vw ((v.drop first).take most))) → Q (.ref l) H'
abbrev st_signs_from : Stmt := top 39
theorem sc_signs_from : FnScope ["piece", "first", "most", "found", "ahead", "nearest"] ["piece", "first", "most"] (defScope st_signs_from) := ⟨rfl, rfl, rfl, by decide +kernel, rfl, by decide +kernel, by decide +kernel⟩
theorem ok_signs_from {f CP : Addr} {fd : FuncData} (F : Fun K "signs_from" "signs_from" st_signs_from f fd) (T : Txt K mg) (TP : TxtP K CP) : FnOk P w K mg base CX0 1 f fd ["piece", "first", "most"] (spFrom CP) := by
 refine F.ok sc_signs_from (fun vs H Q E h => ?_) (fun cdv A outer s H vs Q E hr h => ?_)
 ·obtain ⟨kk, p, first, most, v, rfl, _⟩ := h
  rfl
 ·obtain ⟨kk, p, first, most, v, rfl, hp, hkk, hbig, k⟩ := h
  refine ⟨_, (pss_cons (ps_set (i := 3) sc_signs_from.nd rfl (Or.inl rfl) (pe_lst pa_nil))
   (pss_cons (ps_set (i := 4) sc_signs_from.nd rfl (Or.inl rfl) (pe_lst (pa_cons (pv 0) pa_nil)))
   (pss_cons (ps_while PassesOwn.never (PW.pt (pw_and (pt_cmpR op_gt (pe_callB call_len_seq (by rfl) T.b_len PySem.boot_len (pa_cons (pv 4) pa_nil)) pe_int (nomark _)) (pw_and1 (pt_cmpR op_lt (pe_callB call_len_seq (by rfl) T.b_len PySem.boot_len (pa_cons (pv 3) pa_nil)) (pv 2) (nomark _)))))
   (pss_cons (ps_set (i := 5) sc_signs_from.nd rfl (Or.inl rfl) (pe_bm0 PySem.F.plainAttrs_list PySem.F.slot_list_pop PySem.F.type_list_pop mt_pop (pv 4)))
   (pss_one (ps_if (pt_cmpR op_ge (pv 1) (pe_fld (pv 5) rfl) (nomark _))
   (pss_one (ps_aug (i := 1) sc_signs_from.nd rfl (Or.inl rfl) (pe_fld (pv 5) rfl) ip_sub))
   (pss_one (ps_if (pt_cmpR op_gt (pe_callB call_len_seq (by rfl) T.b_len PySem.boot_len (pa_cons (pe_fld (pv 5) rfl) pa_nil)) pe_int (nomark _))
   (pss_one (ps_expr (pe_bm PySem.F.plainAttrs_list PySem.F.slot_list_extend PySem.F.type_list_extend mt_extend (pv 4) (pa_cons (pe_listRev rfl rfl T.b_list rfl T.b_reversed (pe_fld (pv 5) rfl)) pa_nil))))
   (pss_cons (ps_expr (pe_bm PySem.F.plainAttrs_list PySem.F.slot_list_extend PySem.F.type_list_extend mt_extend (pv 3) (pa_cons (pe_slice sl_list (pe_fld (pv 5) rfl) (po_some (pv 1)) (po_some (pe_op op_sub (pe_op op_add (pv 1) (pv 2)) (pe_callB call_len_seq (by rfl) T.b_len PySem.boot_len (pa_cons (pv 3) pa_nil))))) pa_nil)))
   (pss_one (ps_set (i := 1) sc_signs_from.nd rfl (Or.inl rfl) pe_int)))))))))
   (pss_one (ps_ret (pv 3)))))), ?_⟩
  refine ⟨Nat.zero_le _, fun FN hFN => ⟨_, rfl, (by show 1 ≤ sizeLine; decide), fun AH hAH => ?_⟩⟩
  have nAF : AH ≠ FN := fun z => by rw [z, upd_same] at hAH; cases hAH
  have hAH' : H AH = none := (Same.new hFN).free hAH
  obtain ⟨res, hres⟩ : ∃ res, res = (v.drop first).take most := ⟨_, rfl⟩
  rw [← hres] at hbig k
  refine ⟨fun m σ H' => ∃ (v5 : Option V) (st : List (Addr × Kg35.Word)) (fnd : Kg35.Word) (fs : Nat), m = costs st ∧ σ = [some (.ref p), some (.int (fs : Int)), some (.int (most : Int)), some (.ref FN), some (.ref AH), v5] ∧ Same H H' ∧ H' FN = some (.lst (vw fnd)) ∧ H' AH = some (.lst (vq st)) ∧ fnd.length ≤ most ∧
    fnd ++ ((wq st.reverse).drop fs).take (most - fnd.length) = res ∧ ∀ (i : Nat) (q : Addr × Kg35.Word), st[i]? = some q → ∃ r, PieceAt CP r H q.1 q.2 ∧ r ≤ kk ∧ i ≤ 256 * (kk - r),
   ⟨_, none, [(p, v)], [], first, rfl, rfl, (Same.new hFN).trans (.new hAH), by rw [upd_ne nAF.symm]; exact upd_same, upd_same, Nat.zero_le _, ?_, fun i q h => ?_⟩, ?_⟩
  ·show [] ++ ((wq [(p, v)]).drop first).take (most - 0) = res
   rw [wq_one, hres]; rfl
  ·cases i with
   | zero =>
    have e : (p, v) = q := by simpa using h
    subst e
    exact ⟨kk, hp, Nat.le_refl _, Nat.zero_le _⟩
   | succ i => simp at h
  rintro m σ H' ⟨v5, st, fnd, fs, rfl, rfl, s5, hF, hA, hfm, hinv, hst⟩
  have fin : ((wq st.reverse).drop fs).take (most - fnd.length) = [] → Q (.ref FN) H' := fun z => by
   rw [z, List.append_nil] at hinv
   subst hinv
   exact k H' FN s5 hFN hF
  refine ⟨_, rfl, AH, _, rfl, .inl (SqL.of hA), _, _, rfl, rfl, _, rfl, ?_⟩
  refine iteD (fun h1 => ?_) (fun h1 => ?_)
  ·have h1 : (0 : Int) < (((vq st).length : Nat) : Int) := h1
   rw [List.length_map] at h1
   refine ⟨_, rfl, FN, _, rfl, .inl (SqL.of hF), _, rfl, _, _, rfl, rfl, _, rfl, ?_⟩
   refine iteD (fun h2 => ?_) (fun h2 => ?_)
   ·have h2 : (((vw fnd).length : Nat) : Int) < (most : Int) := h2
    rw [List.length_map] at h2
    rcases List.eq_nil_or_concat st with z | ⟨st0, q, z⟩
    ·rw [z] at h1; simp at h1
    rw [List.concat_eq_append] at z
    subst z
    obtain ⟨r, pr, hr1, hr2⟩ := hst st0.length q (by rw [List.getElem?_append_right (Nat.le_refl _), Nat.sub_self]; rfl)
    have hst0 : ∀ (i : Nat) (q : Addr × Kg35.Word), st0[i]? = some q → ∃ r, PieceAt CP r H q.1 q.2 ∧ r ≤ kk ∧ i ≤ 256 * (kk - r) := fun i q' h => hst i q' (by rw [List.getElem?_append_left (List.getElem?_eq_some_iff.mp h).1]; exact h)
    have erev : wq (st0 ++ [q]).reverse = q.2 ++ wq st0.reverse := by rw [List.reverse_append, wq_app]; show wq [q] ++ _ = _; rw [wq_one]
    rw [erev] at hinv
    refine ⟨fun σ' H5 => ∃ (v5 : Option V) (st' : List (Addr × Kg35.Word)) (fnd' : Kg35.Word) (fs' : Nat), costs st' < costs (st0 ++ [q]) ∧ σ' = [some (.ref p), some (.int (fs' : Int)), some (.int (most : Int)), some (.ref FN), some (.ref AH), v5] ∧ Same H H5 ∧ H5 FN = some (.lst (vw fnd')) ∧ H5 AH = some (.lst (vq st')) ∧ fnd'.length ≤ most ∧
      fnd' ++ ((wq st'.reverse).drop fs').take (most - fnd'.length) = res ∧ ∀ (i : Nat) (q : Addr × Kg35.Word), st'[i]? = some q → ∃ r, PieceAt CP r H q.1 q.2 ∧ r ≤ kk ∧ i ≤ 256 * (kk - r),
     fun σ' H5 ⟨v5, st', fnd', fs', e1, e2, e3, e4, e5, e6, e7, e8⟩ => ⟨costs st', e1, v5, st', fnd', fs', rfl, e2, e3, e4, e5, e6, e7, e8⟩, ?_⟩
    have elast : (vq (st0 ++ [q]))[(vq (st0 ++ [q])).length - 1]? = some (V.ref q.1) := by
     rw [List.length_map, List.length_append, List.getElem?_map]
     show ((st0 ++ [q])[st0.length + 1 - 1]?).map _ = _
     rw [Nat.add_sub_cancel, List.getElem?_append_right (Nat.le_refl _), Nat.sub_self]; rfl
    have edrop : (vq (st0 ++ [q])).dropLast = vq st0 := by
     show (List.map _ (st0 ++ [q])).dropLast = _
     rw [List.map_append]
     show (_ ++ [_]).dropLast = _
     rw [List.dropLast_concat]
    refine ⟨_, rfl, .inl ⟨rfl, _, SqL.of hA⟩, AH, _, _, rfl, rfl, hA, elast, ?_⟩
    rw [edrop]
    have hp5 := pr.mono s5
    have kA : ∀ b o, b ≠ AH → H' b = some o → upd H' AH (.lst (vq st0)) b = some o := fun b o n e => by rw [upd_ne n]; exact e
    have sA : Same H (upd H' AH (.lst (vq st0))) := fun b o e => kA b o (ne_of_none e hAH') (s5 b o e)
    have hF6 : upd H' AH (.lst (vq st0)) FN = some (.lst (vw fnd)) := kA FN _ nAF.symm hF
    have less : costs st0 < costs (st0 ++ [q]) := by rw [costs_snoc]; have := cost_pos q.2; omega
    cases r with
    | zero => exact pr.elim
    | succ r =>
     obtain ⟨dx, ls, lp, hq, hcase⟩ := pr
     have hq6 := sA _ _ hq
     refine ⟨_, rfl, _, rfl, q.1, CP, dx, _, _, rfl, hq6, TP.cl, TP.n1, pf_length _ _ _, _, _, rfl, rfl, _, rfl, ?_⟩
     refine iteD (fun h3 => ?_) (fun h3 => ?_)
     ·have h3 : ((q.2.length : Nat) : Int) ≤ (fs : Int) := h3
      refine ⟨_, rfl, _, rfl, q.1, CP, dx, _, _, rfl, hq6, TP.cl, TP.n1, pf_length _ _ _, _, _, rfl, rfl, ?_⟩
      refine ⟨some (.ref q.1), st0, fnd, fs - q.2.length, less, ?_, sA, hF6, upd_same, hfm, ?_, hst0⟩
      ·have e : ((fs - q.2.length : Nat) : Int) = (fs : Int) - (q.2.length : Nat) := by omega
       rw [e]; rfl
      ·rw [List.drop_append, List.drop_of_length_le (by omega : q.2.length ≤ fs), List.nil_append] at hinv
       exact hinv
     ·have h3 : ¬ ((q.2.length : Nat) : Int) ≤ (fs : Int) := h3
      have h3 : fs < q.2.length := by omega
      rcases hcase with ⟨hl1, hl2, hl3⟩ | ⟨hl1, qs, hl2, hl3, hl4, hl5, hl6⟩
      ·-- a leaf
       refine ⟨_, rfl, q.1, CP, dx, _, _, rfl, hq6, TP.cl, TP.n3, pf_parts _ _ _, lp, _, rfl, .inl (SqL.of (sA _ _ hl3)), _, _, rfl, rfl, _, rfl, ?_⟩
       refine iteD (fun h4 => absurd (show (0 : Int) < ((0 : Nat) : Int) from h4) (by decide)) (fun _ => ?_)
       have hls := sA _ _ hl2
       refine ⟨_, rfl, .inl ⟨rfl, _, SqL.of hF6⟩, _, rfl, q.1, CP, dx, _, _, rfl, hq6, TP.cl, TP.n2, pf_signs _ _ _, _, rfl, _, rfl, _, rfl, _, rfl, _, _, rfl, rfl, _, rfl, FN, _, rfl, .inl (SqL.of hF6), _, _, rfl, rfl, _, rfl, ls, _, rfl, SqL.of hls, fun c hc => ?_⟩
       have ecut : cutV (vw q.2) (some (fs : Int)) (some ((fs : Int) + (most : Int) - (((vw fnd).length : Nat) : Int))) = vw ((q.2.drop fs).take (most - fnd.length)) := by
        rw [cut_any fs (most - fnd.length) rfl (by rw [List.length_map]; omega) (by rw [List.length_map]; omega), ← List.map_drop, ← List.map_take]
       rw [ecut]
       have sC : Same (upd H' AH (.lst (vq st0))) (upd (upd H' AH (.lst (vq st0))) c (.lst (vw ((q.2.drop fs).take (most - fnd.length))))) := .new hc
       have nAc : AH ≠ c := fun z => by rw [← z, upd_same] at hc; cases hc
       have eres : fnd ++ (q.2.drop fs).take (most - fnd.length) ++ ((wq st0.reverse).take (most - (fnd ++ (q.2.drop fs).take (most - fnd.length)).length)) = res := by
        rw [← hinv, List.drop_append_of_le_length (by omega), List.take_append, List.append_assoc]
        congr 3
        rw [List.length_append, List.length_take]
        omega
       refine ⟨FN, c, _, _, rfl, rfl, sC _ _ hF6, upd_same, ?_, ?_⟩
       ·rw [← List.length_append, ← vw_append, List.length_map]
        have := congrArg List.length eres
        rw [List.length_append] at this
        show _ ≤ 2 ^ 24
        omega
       ·rw [← vw_append]
        refine ⟨some (.ref q.1), st0, fnd ++ (q.2.drop fs).take (most - fnd.length), 0, less, rfl, fun b o e => ?_, upd_same, ?_, ?_, ?_, hst0⟩
        ·rw [upd_ne (ne_of_none e hFN)]; exact sC _ _ (sA b o e)
        ·rw [upd_ne nAF]; exact sC _ _ upd_same
        ·rw [List.length_append, List.length_take]; omega
        ·rw [List.drop_zero]; exact eres
      ·-- its parts
       refine ⟨_, rfl, q.1, CP, dx, _, _, rfl, hq6, TP.cl, TP.n3, pf_parts _ _ _, lp, _, rfl, .inl (SqL.of (sA _ _ hl2)), _, _, rfl, rfl, _, rfl, ?_⟩
       refine iteD (fun _ => ?_) (fun h4 => absurd (show (0 : Int) < (((vq qs).length : Nat) : Int) by rw [List.length_map]; omega) h4)
       refine ⟨_, rfl, .inl ⟨rfl, _, SqL.of upd_same⟩, _, rfl, q.1, CP, dx, _, _, rfl, hq6, TP.cl, TP.n3, pf_parts _ _ _, lp, _, rfl, SqL.of (sA _ _ hl2), fun c hc => ?_⟩
       have sC : Same (upd H' AH (.lst (vq st0))) (upd (upd H' AH (.lst (vq st0))) c (.lst (vq qs).reverse)) := .new hc
       have hlen0 : st0.length ≤ 256 * 100 := Nat.le_trans hr2 (Nat.mul_le_mul_left _ (by omega))
       refine ⟨AH, c, _, _, rfl, rfl, sC _ _ upd_same, upd_same, ?_, ?_⟩
       ·rw [List.length_map, List.length_reverse, List.length_map]
        exact Nat.le_of_lt (lineLt1 (m := 30000) (by omega))
       ·have ev : vq st0 ++ (vq qs).reverse = vq (st0 ++ qs.reverse) := by
         show List.map _ st0 ++ (List.map _ qs).reverse = List.map _ (st0 ++ qs.reverse)
         rw [List.map_append, List.map_reverse]
        rw [ev]
        refine ⟨some (.ref q.1), st0 ++ qs.reverse, fnd, fs, ?_, rfl, fun b o e => ?_, ?_, upd_same, hfm, ?_, fun i q' h => ?_⟩
        ·rw [costs_app, costs_rev, costs_snoc]
         have e1 := costs_parts qs fun z hz => (hl6 z hz).1
         have e2 : cost q.2 = 2 * q.2.length - 1 := by unfold cost; rw [if_neg (by omega)]
         rw [e2, hl5]
         omega
        ·rw [upd_ne (ne_of_none e hAH')]; exact sC _ _ (sA b o e)
        ·rw [upd_ne nAF.symm]; exact sC _ _ hF6
        ·rw [List.reverse_append, List.reverse_reverse, wq_app, ← hl5]; exact hinv
        ·by_cases hi : i < st0.length
         ·rw [List.getElem?_append_left hi] at h; exact hst0 i q' h
         ·rw [List.getElem?_append_right (by omega)] at h
          have hm := List.mem_of_getElem? h
          have hi2 : i - st0.length < qs.length := by
           have := (List.getElem?_eq_some_iff.mp h).1
           rw [List.length_reverse] at this; exact this
          refine ⟨r, (hl6 q' (List.mem_reverse.mp hm)).2, by omega, ?_⟩
          have e3 : kk - r = (kk - (r + 1)) + 1 := by omega
          rw [e3, Nat.mul_add]
          omega
   ·have h2 : ¬ (((vw fnd).length : Nat) : Int) < (most : Int) := h2
    rw [List.length_map] at h2
    exact ⟨_, rfl, fin (by rw [show most - fnd.length = 0 by omega, List.take_zero])⟩
  ·have h1 : ¬ (0 : Int) < (((vq st).length : Nat) : Int) := h1
   rw [List.length_map] at h1
   have e : st = [] := List.eq_nil_of_length_eq_zero (by omega)
   subst e
   exact ⟨_, rfl, fin (by show (([] : List Nat).drop fs).take _ = []; rw [List.drop_nil, List.take_nil])⟩
end
end Gw
end
section
namespace Gw
open PySem PySem.Spec PyProof.Rows L2
abbrev vi (ns : List Int) : List V := ns.map V.int
def wf (T : Int) (le lr : Addr) (m : Bool) : List (Str × V) := putF "moves" (.bl m) (putF "reach" (.ref lr) (putF "ends" (.ref le) (putF "turn" (.int T) [])))
theorem wf_turn (T : Int) (le lr : Addr) (m : Bool) : (wf T le lr m).lookup ("turn" : Str) = some (.int T) := by
 unfold wf; rw [lookup_putF, if_neg (by decide +kernel), lookup_putF, if_neg (by decide +kernel), lookup_putF, if_neg (by decide +kernel), lookup_putF, if_pos rfl]
theorem wf_ends (T : Int) (le lr : Addr) (m : Bool) : (wf T le lr m).lookup ("ends" : Str) = some (.ref le) := by
 unfold wf; rw [lookup_putF, if_neg (by decide +kernel), lookup_putF, if_neg (by decide +kernel), lookup_putF, if_pos rfl]
theorem wf_reach (T : Int) (le lr : Addr) (m : Bool) : (wf T le lr m).lookup ("reach" : Str) = some (.ref lr) := by
 unfold wf; rw [lookup_putF, if_neg (by decide +kernel), lookup_putF, if_pos rfl]
theorem wf_moves (T : Int) (le lr : Addr) (m : Bool) : (wf T le lr m).lookup ("moves" : Str) = some (.bl m) := by
 unfold wf; rw [lookup_putF, if_pos rfl]
structure TxtW (K : PySem.W.Frag) (CW : Addr) : Prop where
 cl : Cls K CW
 n1 : NoAttr K CW "turn"
 n2 : NoAttr K CW "ends"
 n3 : NoAttr K CW "reach"
 n4 : NoAttr K CW "moves"
def WayAt (CW : Addr) (t : Nat) (H : Hp) (a : Addr) (w : Kg35.Word) : Prop := ∃ (dx le lr : Addr), H a = some (.ins CW dx (wf (wTurn t w : Nat) le lr (wMoves t w))) ∧ H le = some (.lst (vi (wEnds t w))) ∧ H lr = some (.lst (vi (wReach t w)))
theorem WayAt.li {CW : Addr} {t : Nat} {H H' : Hp} {a : Addr} {v : Kg35.Word} (s : LI H H') (x : WayAt CW t H a v) : WayAt CW t H' a v := by
 obtain ⟨dx, le, lr, h1, h2, h3⟩ := x
 exact ⟨dx, le, lr, s _ _ h1 rfl, s _ _ h2 rfl, s _ _ h3 rfl⟩
theorem WayAt.mono {CW : Addr} {t : Nat} {H H' : Hp} {a : Addr} {v : Kg35.Word} (s : Same H H') (x : WayAt CW t H a v) : WayAt CW t H' a v := x.li (.of s)
abbrev isW (c : Nat) : Prop := Kg35.isSign c = true ∧ c ≠ 91 ∧ c ≠ 93
theorem vi_app (a b : List Int) : vi (a ++ b) = vi a ++ vi b := List.map_append
theorem vi_rep (t : Nat) : (List.replicate t [V.int 0]).flatten = vi (List.replicate t 0) := by
 induction t with
 | zero => rfl
 | succ t ih =>
  rw [List.replicate_succ, List.flatten_cons, ih, List.replicate_succ]; rfl
theorem vi_get {ns : List Int} {i : Nat} {x : V} (h : (vi ns)[i]? = some x) : ∃ c, ns[i]? = some c ∧ x = V.int c := by
 rw [List.getElem?_map] at h
 cases e : ns[i]? with
 | none => rw [e] at h; cases h
 | some c => rw [e] at h; exact ⟨c, rfl, (Option.some.inj h).symm⟩
theorem vi_at {ns : List Int} {i : Nat} {z : Int} (h : ns[i]? = some z) : (vi ns)[i]? = some (V.int z) := by rw [List.getElem?_map, h]; rfl
theorem Turns.le {t : Nat} (ht : Turns t) : t ≤ 6 := by rcases ht with rfl | rfl <;> decide
section
variable {P : Program} {w : World} {K : PySem.W.Frag} {mg : Str → Option Value} {base : Heap}
def spWayInit (CW : Addr) : Sp := fun vs H Q _ => ∃ (p dx le lr : Addr) (T : Int) (ns : List Int), vs = [.ref p, .int T, .ref le, .ref lr] ∧ H p = some (.ins CW dx []) ∧ H lr = some (.lst (vi ns)) ∧ ns ≠ [] ∧ Q .non (upd H p (.ins CW dx (wf T le lr (ns.any fun z => decide (0 < z)))))
abbrev st_Way___init__ : Stmt := inClass (top 50) 0
theorem sc_Way___init__ : FnScope ["self", "turn", "ends", "reach"] ["self", "turn", "ends", "reach"] (defScope st_Way___init__) := ⟨rfl, rfl, rfl, by decide +kernel, rfl, by decide +kernel, by decide +kernel⟩
theorem ok_Way_init {f CW : Addr} {fd : FuncData} (F : Fun K "__init__" "Way.__init__" st_Way___init__ f fd) (T : Txt K mg) (TW : TxtW K CW) : FnOk P w K mg base CX0 1 f fd ["self", "turn", "ends", "reach"] (spWayInit CW) := by
 refine F.ok sc_Way___init__ (fun vs H Q E h => ?_) (fun cdv A outer s H vs Q E hr h => ?_)
 ·obtain ⟨p, dx, le, lr, n, ns, rfl, _⟩ := h
  rfl
 ·obtain ⟨p, dx, le, lr, n, ns, rfl, hp, hr', hne, k⟩ := h
  have npr : lr ≠ p := fun z => by rw [z, hp] at hr'; cases hr'
  refine ⟨_, (pss_cons (ps_fld (pv 0) (pv 1) rfl)
   (pss_cons (ps_fld (pv 0) (pv 2) rfl)
   (pss_cons (ps_fld (pv 0) (pv 3) rfl)
   (pss_one (ps_fld (pv 0) (pe_cmpR op_gt (pe_callB (cr_max rfl) (by rfl) T.b_max PyProof.Rows.boot_max (pa_cons (pv 3) pa_nil)) pe_int (nomark _)) rfl))))), ?_⟩
  refine ⟨_, rfl, _, rfl, p, CW, dx, _, rfl, hp, TW.cl, TW.n1, (by show 0 < 1000; decide), ?_⟩
  refine ⟨_, rfl, _, rfl, p, CW, dx, _, rfl, upd_same, TW.cl, TW.n2, (by show 1 < 1000; decide), ?_⟩
  refine ⟨_, rfl, _, rfl, p, CW, dx, _, rfl, upd_same, TW.cl, TW.n3, (by show 2 < 1000; decide), ?_⟩
  refine ⟨_, rfl, lr, ns, rfl, SqL.of (by rw [upd_ne npr, upd_ne npr, upd_ne npr]; exact hr'), List.length_pos_iff.mpr hne, fun m hm hmax => ⟨_, _, rfl, rfl, ?_⟩⟩
  have e : decide ((0 : Int) < m) = ns.any fun z => decide (0 < z) := by
   rw [Bool.eq_iff_iff, decide_eq_true_iff, List.any_eq_true]
   constructor
   ·exact fun z => ⟨m, hm, decide_eq_true z⟩
   ·rintro ⟨y, hy, z⟩
    have := hmax y hy
    have z := of_decide_eq_true z
    omega
  dsimp only
  rw [e]
  refine ⟨_, rfl, p, CW, dx, _, rfl, upd_same, TW.cl, TW.n4, (by show 3 < 1000; decide), ?_⟩
  rw [upd_upd, upd_upd, upd_upd]
  exact k
abbrev MkW (P : Program) (w : World) (K : PySem.W.Frag) (mg : Str → Option Value) (base : Heap) (CW : Addr) : Prop := MkrA P w K mg base "Way" CW 1 ["self", "turn", "ends", "reach"] (spWayInit CW)
theorem cut_to {xs : List V} {z : Int} (k : Nat) (e : z = (k : Int)) : cutV xs none (some z) = xs.take k := by
 subst e
 unfold cutV
 have e1 : HT.sIx xs.length 0 none = 0 := rfl
 have e2 : HT.sIx xs.length xs.length (some (k : Int)) = min k xs.length := by
  show (if (k : Int) < 0 then ((k : Int) + (xs.length : Int)).toNat else min ((k : Int)).toNat xs.length) = _
  rw [if_neg (by omega), Int.toNat_natCast]
 rw [e1, e2, List.drop_zero, Nat.sub_zero]
 by_cases q : k ≤ xs.length
 ·rw [Nat.min_eq_left q]
 ·rw [Nat.min_eq_right (by omega), List.take_of_length_le (Nat.le_refl _), List.take_of_length_le (by omega)]
def spTurned (K : PySem.W.Frag) : Sp := fun vs H Q _ => ∃ (a : Addr) (T : Nat) (ns : List Int), vs = [.ref a, .int (T : Int)] ∧ SqL K H a (vi ns) ∧ ns.length ≤ 100 ∧ ∀ (H' : Hp) (r : Addr), Same H H' → H r = none → H' r = some (.lst (vi (ns.drop T ++ ns.take T))) → Q (.ref r) H'
abbrev st_turned : Stmt := top 53
theorem sc_turned : FnScope ["row", "turn"] ["row", "turn"] (defScope st_turned) := ⟨rfl, rfl, rfl, by decide +kernel, rfl, by decide +kernel, by decide +kernel⟩
theorem ok_turned {f : Addr} {fd : FuncData} (F : Fun K "turned" "turned" st_turned f fd) : FnOk P w K mg base CX0 1 f fd ["row", "turn"] (spTurned K) := by
 refine F.ok sc_turned (fun vs H Q E h => ?_) (fun cdv A outer s H vs Q E hr h => ?_)
 ·obtain ⟨a, T, ns, rfl, _⟩ := h
  rfl
 ·obtain ⟨a, T, ns, rfl, hS, hlen, k⟩ := h
  refine ⟨_, (pss_one (ps_ret (pe_op op_cat (pe_slice sl_list (pv 0) (po_some (pv 1)) po_none) (pe_slice sl_list (pv 0) po_none (po_some (pv 1)))))), ?_⟩
  refine ⟨_, rfl, _, rfl, _, rfl, a, _, rfl, hS, fun p hp => ?_⟩
  have s1 : Same H (upd H p (.lst (cutV (vi ns) (some (T : Int)) none))) := .new hp
  refine ⟨_, rfl, _, rfl, _, rfl, a, _, rfl, s1.seq hS, fun q hq => ?_⟩
  have s2 : Same (upd H p (.lst (cutV (vi ns) (some (T : Int)) none))) (upd (upd H p (.lst (cutV (vi ns) (some (T : Int)) none))) q (.lst (cutV (vi ns) none (some (T : Int))))) := .new hq
  refine ⟨p, q, _, _, rfl, rfl, s2 _ _ upd_same, upd_same, ?_, fun r hr' => ?_⟩
  ·rw [cut_from T rfl, cut_to T rfl, List.length_drop, List.length_take, List.length_map]
   exact Nat.le_of_lt (lineLt1 (m := 200) (by omega))
  ·refine k _ r (s1.trans (s2.trans (.new hr'))) ((s1.trans s2).free hr') ?_
   rw [upd_same, cut_from T rfl, cut_to T rfl, ← List.map_drop, ← List.map_take, ← List.map_append]
def spAdded (K : PySem.W.Frag) : Sp := fun vs H Q _ => ∃ (a b : Addr) (ns ms : List Int), vs = [.ref a, .ref b] ∧ SqL K H a (vi ns) ∧ SqL K H b (vi ms) ∧ ns.length = ms.length ∧ ns.length ≤ 100 ∧ ∀ (H' : Hp) (r : Addr), Same H H' → H r = none → H' r = some (.lst (vi (List.zipWith (· + ·) ns ms))) → Q (.ref r) H'
abbrev st_added : Stmt := top 54
theorem sc_added : FnScope ["ends", "more", "end", "step"] ["ends", "more"] (defScope st_added) := ⟨rfl, rfl, rfl, by decide +kernel, rfl, by decide +kernel, by decide +kernel⟩
theorem ok_added {f : Addr} {fd : FuncData} (F : Fun K "added" "added" st_added f fd) (T : Txt K mg) : FnOk P w K mg base CX0 1 f fd ["ends", "more"] (spAdded K) := by
 refine F.ok sc_added (fun vs H Q E h => ?_) (fun cdv A outer s H vs Q E hr h => ?_)
 ·obtain ⟨a, b, ns, ms, rfl, _⟩ := h
  rfl
 ·obtain ⟨a, b, ns, ms, rfl, hA, hB, hl, hlen, k⟩ := h
  refine ⟨_, (pss_one (ps_ret (pe_lc (own := [("end", 2), ("step", 3)]) rfl sc_added.nd (pi_zip rfl T.b_zip (pa_cons (pv 0) (pa_cons (pv 1) pa_nil))) (blkOk_by (by show blkC ["ends", "more", "end", "step"] (defScope st_added) _ [("end", 2), ("step", 3)] = true; decide +kernel)) (fun _ _ _ _ _ => (pg_tupK (Kx := K) (n := 2) rfl (pgs_cons (pg_name (i := 2) sc_added.nd rfl (Or.inl rfl)) (pgs_cons (pg_name (i := 3) sc_added.nd rfl (Or.inl rfl)) pgs_nil)))) (fun _ _ _ _ _ => pts_nil) (fun _ _ _ _ _ => (pe_op op_add (pv 2) (pv 3)))))), ?_⟩
  refine ⟨_, rfl, _, rfl, a, b, _, _, rfl, hA, hB, fun D hD => ?_⟩
  refine lc_zip (K := K) (a := a) (b := b) (xs := vi ns) (ys := vi ms) (by rw [List.length_map, List.length_map]; exact hl) (fun i H' => H' D = some (.lst (vi ((List.zipWith (· + ·) ns ms).take i))) ∧ Same H H') ⟨upd_same, .new hD⟩ (fun i H' _ ⟨_, s⟩ => ⟨s.seq hA, s.seq hB⟩) ?_ ?_
  ·rintro i x y Tp H' hx hy hT ⟨hl', s⟩
   obtain ⟨n, hn, rfl⟩ := vi_get hx
   obtain ⟨m, hm, rfl⟩ := vi_get hy
   have nTD : D ≠ Tp := fun z => by rw [z, hT] at hl'; cases hl'
   have hz : (List.zipWith (· + ·) ns ms)[i]? = some (n + m) := by rw [List.getElem?_zipWith, hn, hm]
   refine ⟨Tp, _, rfl, SqT.of upd_same, rfl, _, _, rfl, _, _, rfl, rfl, rfl, ?_⟩
   refine ⟨_, rfl, _, rfl, _, _, rfl, rfl, _, by rw [upd_ne nTD]; exact hl', lineLt1 (m := 100) ?_, ?_, ?_⟩
   ·rw [List.length_map, List.length_take, List.length_zipWith]; omega
   ·rw [upd_same, take_snoc' hz, vi_app]; rfl
   ·exact fun b o e => by rw [upd_ne (ne_of_none e hD), upd_ne (ne_of_none (s b o e) hT)]; exact s b o e
  ·rintro H' ⟨hl', s⟩
   rw [List.length_map, List.take_of_length_le (by rw [List.length_zipWith]; omega)] at hl'
   exact k H' D s hD hl'
def spFar (K : PySem.W.Frag) : Sp := fun vs H Q _ => ∃ (a b c : Addr) (ns ms os : List Int), vs = [.ref a, .ref b, .ref c] ∧ SqL K H a (vi ns) ∧ SqL K H b (vi ms) ∧ SqL K H c (vi os) ∧ ns.length = ms.length ∧ ns.length = os.length ∧ ns.length ≤ 100 ∧ ∀ (H' : Hp) (r : Addr), Same H H' → H r = none → H' r = some (.lst (vi (far3 ns ms os))) → Q (.ref r) H'
theorem far3_get {ns ms os : List Int} {i : Nat} {n m o : Int} (hn : ns[i]? = some n) (hm : ms[i]? = some m) (ho : os[i]? = some o) : (far3 ns ms os)[i]? = some (if m + o < n then n else m + o) := by
 unfold far3
 rw [List.getElem?_zipWith, ho]
 have e : (ns.zip ms)[i]? = some (n, m) := by
  rw [List.zip, List.getElem?_zipWith, hn, hm]
 rw [e]
theorem far3_len {ns ms os : List Int} (h1 : ns.length = ms.length) (h2 : ns.length = os.length) : (far3 ns ms os).length = ns.length := by
 unfold far3
 rw [List.length_zipWith, List.length_zip]; omega
abbrev st_farthest : Stmt := top 55
theorem sc_farthest : FnScope ["reach", "ends", "more", "far", "end", "step"] ["reach", "ends", "more"] (defScope st_farthest) := ⟨rfl, rfl, rfl, by decide +kernel, rfl, by decide +kernel, by decide +kernel⟩
theorem ok_farthest {f : Addr} {fd : FuncData} (F : Fun K "farthest" "farthest" st_farthest f fd) (T : Txt K mg) : FnOk P w K mg base CX0 1 f fd ["reach", "ends", "more"] (spFar K) := by
 refine F.ok sc_farthest (fun vs H Q E h => ?_) (fun cdv A outer s H vs Q E hr h => ?_)
 ·obtain ⟨a, b, c, ns, ms, os, rfl, _⟩ := h
  rfl
 ·obtain ⟨a, b, c, ns, ms, os, rfl, hA, hB, hC, hl, hl2, hlen, k⟩ := h
  refine ⟨_, (pss_one (ps_ret (pe_lc (own := [("far", 3), ("end", 4), ("step", 5)]) rfl sc_farthest.nd (pi_zip3 rfl T.b_zip (pa_cons (pv 0) (pa_cons (pv 1) (pa_cons (pv 2) pa_nil)))) (blkOk_by (by show blkC ["reach", "ends", "more", "far", "end", "step"] (defScope st_farthest) _ [("far", 3), ("end", 4), ("step", 5)] = true; decide +kernel)) (fun _ _ _ _ _ => (pg_tupK (Kx := K) (n := 3) rfl (pgs_cons (pg_name (i := 3) sc_farthest.nd rfl (Or.inl rfl)) (pgs_cons (pg_name (i := 4) sc_farthest.nd rfl (Or.inl rfl)) (pgs_cons (pg_name (i := 5) sc_farthest.nd rfl (Or.inl rfl)) pgs_nil))))) (fun _ _ _ _ _ => pts_nil) (fun _ _ _ _ _ => (pe_ifExp (pt_cmpR op_gt (pv 3) (pe_op op_add (pv 4) (pv 5)) (nomark _)) (pv 3) (pe_op op_add (pv 4) (pv 5))))))), ?_⟩
  refine ⟨_, rfl, _, rfl, _, rfl, a, b, c, _, _, _, rfl, hA, hB, hC, fun D hD => ?_⟩
  refine lc_zip3 (K := K) (a := a) (b := b) (c := c) (xs := vi ns) (ys := vi ms) (zs := vi os) (by rw [List.length_map, List.length_map]; exact hl) (by rw [List.length_map, List.length_map]; exact hl2) (fun i H' => H' D = some (.lst (vi ((far3 ns ms os).take i))) ∧ Same H H') ⟨upd_same, .new hD⟩ (fun i H' _ ⟨_, s⟩ => ⟨s.seq hA, s.seq hB, s.seq hC⟩) ?_ ?_
  ·rintro i x y z Tp H' hx hy hz hT ⟨hl', s⟩
   obtain ⟨n, hn, rfl⟩ := vi_get hx
   obtain ⟨m, hm, rfl⟩ := vi_get hy
   obtain ⟨o, ho, rfl⟩ := vi_get hz
   have nTD : D ≠ Tp := fun z => by rw [z, hT] at hl'; cases hl'
   have hf := far3_get hn hm ho
   refine ⟨Tp, _, rfl, SqT.of upd_same, rfl, _, _, rfl, _, _, rfl, _, _, rfl, rfl, rfl, ?_⟩
   refine ⟨_, rfl, _, rfl, _, rfl, _, _, rfl, rfl, _, _, rfl, rfl, _, rfl, ?_⟩
   have szz : (vi ((far3 ns ms os).take i)).length ≤ 100 := by rw [List.length_map, List.length_take, far3_len hl hl2]; omega
   have sm : ∀ u, Same H (upd (upd H' Tp (.tup [V.int n, V.int m, V.int o])) D u) := fun u b o e => by rw [upd_ne (ne_of_none e hD), upd_ne (ne_of_none (s b o e) hT)]; exact s b o e
   refine iteD (fun h1 => ?_) (fun h1 => ?_)
   ·have h1 : m + o < n := h1
    rw [if_pos h1] at hf
    refine ⟨_, rfl, _, by rw [upd_ne nTD]; exact hl', lineLt1 (m := 100) szz, ?_, sm _⟩
    rw [upd_same, take_snoc' hf, vi_app]; rfl
   ·have h1 : ¬ m + o < n := h1
    rw [if_neg h1] at hf
    refine ⟨_, rfl, _, rfl, _, _, rfl, rfl, _, by rw [upd_ne nTD]; exact hl', lineLt1 (m := 100) szz, ?_, sm _⟩
    rw [upd_same, take_snoc' hf, vi_app]; rfl
  ·rintro H' ⟨hl', s⟩
   rw [List.length_map, List.take_of_length_le (by rw [far3_len hl hl2]; exact Nat.le_refl _)] at hl'
   exact k H' D s hD hl'
def spWaySign (CW : Addr) : Sp := fun vs H Q _ => ∃ (B : Addr → Prop) (c t : Nat), vs = [.int (c : Int), .int (t : Int)] ∧ Turns t ∧ Taken B H ∧ ∀ (H' : Hp) (p : Addr), Same H H' → (c ≠ 91 → c ≠ 93 → WayAt CW t (hide B H') p [c]) → Q (.ref p) H'
abbrev st_way_of_sign : Stmt := top 51
theorem sc_way_of_sign : FnScope ["sign", "directions", "ends", "step", "end"] ["sign", "directions"] (defScope st_way_of_sign) := ⟨rfl, rfl, rfl, by decide +kernel, rfl, by decide +kernel, by decide +kernel⟩
def signEnds (t c : Nat) : List Int := (List.range t).map fun d => if isStep c = true then (Kg35.way t d).1 else 0
def signReach (t c : Nat) : List Int := (signEnds t c).map fun z => if 0 < z then z else 0
theorem ok_way_of_sign {f CW : Addr} {fd : FuncData} (F : Fun K "way_of_sign" "way_of_sign" st_way_of_sign f fd) (T : Txt K mg) (TW : TxtW K CW) (M : MkW P w K mg base CW) (D_is_step : Dfn P w K mg base "is_step" 2 ["sign"] (spBool isStep)) (D_steps_of : Dfn P w K mg base "steps_of" 1 ["directions"] (spSteps K))
  (D_turn_of : Dfn P w K mg base "turn_of" 1 ["sign", "directions"] spTurn) : FnOk P w K mg base CX0 3 f fd ["sign", "directions"] (spWaySign CW) := by
 refine F.ok sc_way_of_sign (fun vs H Q E h => ?_) (fun cdv A outer s H vs Q E hr h => ?_)
 ·obtain ⟨B, c, t, rfl, _⟩ := h
  rfl
 ·obtain ⟨B, c, t, rfl, ht, tB, k⟩ := h
  refine ⟨_, (pss_cons (ps_set (i := 2) sc_way_of_sign.nd rfl (Or.inl rfl) (pe_op op_rep (pe_lst (pa_cons pe_int pa_nil)) (pv 1)))
   (pss_cons (ps_if (pt_val (pe_dfn D_is_step (hr.mono (by decide)) rfl (pa_cons (pv 0) pa_nil)))
   (pss_one (ps_setLc (i := 2) (own := [("step", 3)]) rfl sc_way_of_sign.nd rfl (by show List.lookup ("ends" : Str) (defScope st_way_of_sign).names = some .local; decide +kernel) (sw_true rfl (by show List.lookup ("ends" : Str) (defScope st_way_of_sign).names = some .local; decide +kernel) rfl (by decide +kernel)) (pi_tup (pe_dfn D_steps_of (hr.mono (by decide)) rfl (pa_cons (pv 1) pa_nil))) (blkOk_by (by show blkC ["sign", "directions", "ends", "step", "end"] (defScope st_way_of_sign) _ [("step", 3)] = true; decide +kernel)) (fun _ _ _ _ _ => (pg_name (i := 3) sc_way_of_sign.nd rfl (Or.inl rfl))) (fun _ _ _ _ _ => pts_nil) (fun _ _ _ _ _ => (pe_ix (ix_tupK (Kx := K)) (pv 3) pe_int (fun _ _ => rfl)))))
   pss_nil)
   (pss_one (ps_ret (pe_mkrA M (hr.mono (by decide)) rfl (pa_cons (pe_dfn D_turn_of (hr.mono (by decide)) rfl (pa_cons (pv 0) (pa_cons (pv 1) pa_nil))) (pa_cons (pv 2) (pa_cons (pe_lc (own := [("end", 4)]) rfl sc_way_of_sign.nd (pi_list (pv 2)) (blkOk_by (by show blkC ["sign", "directions", "ends", "step", "end"] (defScope st_way_of_sign) _ [("end", 4)] = true; decide +kernel)) (fun _ _ _ _ _ => (pg_name (i := 4) sc_way_of_sign.nd rfl (Or.inl rfl))) (fun _ _ _ _ _ => pts_nil) (fun _ _ _ _ _ => (pe_callB (call_max2 rfl) (by rfl) T.b_max PyProof.Rows.boot_max (pa_cons (pv 4) (pa_cons pe_int pa_nil))))) pa_nil)))))))), ?_⟩
  have elen : (signEnds t c).length = t := by unfold signEnds; rw [List.length_map, List.length_range]
  have hle := ht.le
  have made : ∀ (H1 : Hp) (e1 lr x dx : Addr), Same H H1 → H1 e1 = some (.lst (vi (signEnds t c))) → H e1 = none → H1 lr = some (.lst (vi (signReach t c))) → H lr = none → H1 x = none → H1 dx = none → dx ≠ x →
    spWayInit CW [.ref x, .int (turnBy t c : Nat), .ref e1, .ref lr] (upd (upd H1 dx (.own x)) x (.ins CW dx [])) (fun v H2 => v = .non ∧ Q (.ref x) H2) E0 := fun H1 e1 lr x dx s1 he fe hl fl hx hdx ne => by
   have nlx : lr ≠ x := ne_of_none hl hx
   have nld : lr ≠ dx := ne_of_none hl hdx
   refine ⟨x, dx, e1, lr, _, signReach t c, rfl, upd_same, by rw [upd_ne nlx, upd_ne nld]; exact hl, ?_, rfl, ?_⟩
   ·intro z
    have := congrArg List.length z
    unfold signReach at this
    rw [List.length_map, elen] at this
    have := ht.pos
    simp at *
    omega
   ·have s2 : Same H1 (upd (upd (upd H1 dx (.own x)) x (.ins CW dx [])) x (.ins CW dx (wf (turnBy t c : Nat) e1 lr ((signReach t c).any fun z => decide (0 < z))))) := Same.mk3 hx hdx
    refine k _ x (s1.trans s2) fun h1 h2 => ?_
    obtain ⟨w1, w2, w3⟩ := way_sign ht h1 h2
    refine ⟨dx, e1, lr, hide_in (tB.new (s1.free hx)) ?_, hide_in (tB.new fe) ?_, hide_in (tB.new fl) ?_⟩
    ·rw [upd_same]
     unfold wMoves
     rw [w1, w3, w2]; rfl
    ·rw [w2]; exact s2 _ _ he
    ·rw [w3, w2]; exact s2 _ _ hl
  refine ⟨(by show 1 ≤ sizeLine; decide), fun l0 hl0 => ⟨_, rfl, l0, _, _, rfl, rfl, upd_same, by omega, by omega, ?_, fun e0 he0 => ?_⟩⟩
  ·rw [Int.toNat_natCast]; exact Nat.le_of_lt (lineLt1 (m := 6) (by show 1 * t ≤ 6; omega))
  rw [Int.toNat_natCast, vi_rep]
  have s0 : Same H (upd H l0 (.lst [V.int 0])) := .new hl0
  have s1 : Same H (upd (upd H l0 (.lst [V.int 0])) e0 (.lst (vi (List.replicate t 0)))) := s0.trans (.new he0)
  have fe0 : H e0 = none := s0.free he0
  have hE0 : upd (upd H l0 (.lst [V.int 0])) e0 (.lst (vi (List.replicate t 0))) e0 = some (.lst (vi (List.replicate t 0))) := upd_same
  generalize upd (upd H l0 (.lst [V.int 0])) e0 (.lst (vi (List.replicate t 0))) = H1 at s1 hE0
  refine ⟨_, rfl, c, rfl, _, rfl, ?_⟩
  have rmax : ∀ z : Int, (if (0 : Int) > z then 0 else z) = if 0 < z then z else 0 := fun z => by
   by_cases q : 0 < z
   ·rw [if_pos q, if_neg (by omega)]
   ·rw [if_neg q]; by_cases q2 : (0 : Int) > z
    ·rw [if_pos q2]
    ·rw [if_neg q2]; omega
  refine iteB (fun h1 => ?_) (fun h1 => ?_)
  ·refine ⟨_, rfl, t, rfl, ht, fun M4 hM => ?_⟩
   obtain ⟨as, al, hT, ha⟩ := hM
   refine ⟨M4, rfl, ⟨_, hT _⟩, fun D hD => ?_⟩
   have eE : signEnds t c = (List.range t).map fun d => (Kg35.way t d).1 := by
    unfold signEnds
    exact List.map_congr_left fun d _ => by rw [if_pos h1]
   refine lc_tup (K := K) (a := M4) (xs := as.map V.ref) (fun i H' => H' D = some (.lst (vi ((signEnds t c).take i))) ∧ Same H1 H') ⟨upd_same, .new hD⟩ (fun i H' _ _ => hT H') ?_ ?_
   ·rintro i x H' hi ⟨hl', s⟩
    obtain ⟨a, hai, rfl⟩ : ∃ a, as[i]? = some a ∧ x = V.ref a := by
     rw [List.getElem?_map] at hi
     cases e : as[i]? with
     | none => rw [e] at hi; cases hi
     | some z => rw [e] at hi; exact ⟨z, rfl, (Option.some.inj hi).symm⟩
    obtain ⟨pr, hpr, hsq⟩ := ha i a hai
    have hit : i < t := by
     have := (List.getElem?_eq_some_iff.mp hpr).1
     simpa using this
    have epr : (signEnds t c)[i]? = some pr.1 := by
     rw [List.getElem?_map, List.getElem?_range hit] at hpr
     rw [eE, rget t _ hit]
     have : Kg35.way t i = pr := Option.some.inj hpr
     rw [this]
    refine ⟨rfl, ?_⟩
    refine ⟨_, rfl, a, _, _, _, rfl, rfl, hsq _, at_of (j := 0) rfl rfl, _, hl', lineLt1 (m := 6) ?_, ?_, ?_⟩
    ·rw [List.length_map, List.length_take]; omega
    ·rw [upd_same, take_snoc' epr, vi_app]; rfl
    ·exact fun b o e => by rw [upd_ne (ne_of_none e hD)]; exact s b o e
   ·rintro H2 ⟨hl2, s2⟩
    rw [List.length_map, al, List.length_map, List.length_range, List.take_of_length_le (by omega)] at hl2
    have s02 := s1.trans s2
    refine ⟨_, rfl, _, rfl, c, t, rfl, ht, _, rfl, _, rfl, D, rfl, ⟨_, SqL.of hl2⟩, fun D2 hD2 => ?_⟩
    refine lc_list (K := K) (a := D) (xs := vi (signEnds t c)) (fun i H' => H' D2 = some (.lst (vi ((signReach t c).take i))) ∧ Same H2 H') ⟨upd_same, .new hD2⟩ (fun i H' _ ⟨_, s⟩ => SqL.of (s _ _ hl2)) ?_ ?_
    ·rintro i x H' hi ⟨hl', s⟩
     obtain ⟨z, hz, rfl⟩ := vi_get hi
     have ez : (signReach t c)[i]? = some (if 0 < z then z else 0) := by unfold signReach; rw [List.getElem?_map, hz]; rfl
     refine ⟨rfl, ?_⟩
     refine ⟨_, rfl, _, _, rfl, _, hl', lineLt1 (m := 6) ?_, ?_, ?_⟩
     ·unfold signReach; rw [List.length_map, List.length_take, List.length_map, elen]; omega
     ·rw [upd_same, take_snoc' ez, vi_app, rmax]; rfl
     ·exact fun b o e => by rw [upd_ne (ne_of_none e hD2)]; exact s b o e
    ·rintro H3 ⟨hl3, s3⟩
     rw [List.length_map, List.take_of_length_le (by unfold signReach; rw [List.length_map]; exact Nat.le_refl _)] at hl3
     exact fun x dx hx hdx ne => made H3 D D2 x dx (s02.trans s3) (s3 _ _ hl2) (s1.free hD) hl3 (s02.free hD2) hx hdx ne
  ·have eE : signEnds t c = List.replicate t 0 := by
    unfold signEnds
    rw [show ((fun d => if isStep c = true then (Kg35.way t d).1 else (0 : Int)) : Nat → Int) = fun _ => 0 from funext fun d => by rw [h1]; rfl]
    rw [List.map_const', List.length_range]
   rw [← eE] at hE0
   refine ⟨_, rfl, _, rfl, c, t, rfl, ht, _, rfl, _, rfl, e0, rfl, ⟨_, SqL.of hE0⟩, fun D2 hD2 => ?_⟩
   refine lc_list (K := K) (a := e0) (xs := vi (signEnds t c)) (fun i H' => H' D2 = some (.lst (vi ((signReach t c).take i))) ∧ Same H1 H') ⟨upd_same, .new hD2⟩ (fun i H' _ ⟨_, s⟩ => SqL.of (s _ _ hE0)) ?_ ?_
   ·rintro i x H' hi ⟨hl', s⟩
    obtain ⟨z, hz, rfl⟩ := vi_get hi
    have ez : (signReach t c)[i]? = some (if 0 < z then z else 0) := by unfold signReach; rw [List.getElem?_map, hz]; rfl
    refine ⟨rfl, ?_⟩
    refine ⟨_, rfl, _, _, rfl, _, hl', lineLt1 (m := 6) ?_, ?_, ?_⟩
    ·unfold signReach; rw [List.length_map, List.length_take, List.length_map, elen]; omega
    ·rw [upd_same, take_snoc' ez, vi_app, rmax]; rfl
    ·exact fun b o e => by rw [upd_ne (ne_of_none e hD2)]; exact s b o e
   ·rintro H3 ⟨hl3, s3⟩
    rw [List.length_map, List.take_of_length_le (by unfold signReach; rw [List.length_map]; exact Nat.le_refl _)] at hl3
    exact fun x dx hx hdx ne => made H3 e0 D2 x dx (s1.trans s3) (s3 _ _ hE0) fe0 hl3 (s1.free hD2) hx hdx ne
def spWays0 (CW : Addr) : Sp := fun vs H Q _ => ∃ (B : Addr → Prop) (t : Nat), vs = [.int (t : Int)] ∧ Turns t ∧ Taken B H ∧ ∀ (H' : Hp) (d : Addr), Same H H' → H d = none → ODict (WayAt CW t) isW (hide B H') d 5000 (fun c => [c]) → Q (.ref d) H'
abbrev st_ways_of_signs : Stmt := top 52
theorem sc_ways_of_signs : FnScope ["directions", "ways", "sign"] ["directions"] (defScope st_ways_of_signs) := ⟨rfl, rfl, rfl, by decide +kernel, rfl, by decide +kernel, by decide +kernel⟩
theorem ok_ways_of_signs {f CW : Addr} {fd : FuncData} (F : Fun K "ways_of_signs" "ways_of_signs" st_ways_of_signs f fd) (D_all_signs : Dfn P w K mg base "all_signs" 4 [] spAll) (D_way_of_sign : Dfn P w K mg base "way_of_sign" 3 ["sign", "directions"] (spWaySign CW)) : FnOk P w K mg base CX0 5 f fd ["directions"] (spWays0 CW) := by
 refine F.ok sc_ways_of_signs (fun vs H Q E h => ?_) (fun cdv A outer s H vs Q E hr h => ?_)
 ·obtain ⟨B, t, rfl, _⟩ := h
  rfl
 ·obtain ⟨B, t, rfl, ht, tB, k⟩ := h
  have hu := hu_of hr
  refine ⟨_, (pss_cons (ps_set (i := 1) sc_ways_of_signs.nd rfl (Or.inl rfl) pe_dnewK)
   (pss_cons (ps_for PassesOwn.never rfl (pi_list (pe_dfn0 D_all_signs (hr.mono (by decide)) rfl)) (pg_name (i := 2) sc_ways_of_signs.nd rfl (Or.inl rfl))
   (pss_one (ps_dput hu (pv 1) (pv 2) (pe_dfn D_way_of_sign (hr.mono (by decide)) rfl (pa_cons (pv 2) (pa_cons (pv 0) pa_nil))) rfl)))
   (pss_one (ps_ret (pv 1))))), ?_⟩
  refine fun D hD => ⟨rfl, fun H1 l s1 fl hl => ⟨l, rfl, ⟨_, SqL.of hl⟩, ?_⟩⟩
  have hD1 : H1 D = some (.dK []) := s1 _ _ upd_same
  have nlD : l ≠ D := fun z => by rw [z, upd_same] at fl; cases fl
  have s01 : Same H H1 := (Same.new hD).trans s1
  refine for_list (K := K) (a := l) (xs := vw allSigns) (fun i σ H' => ∃ (v : Option V) (kvs : List (Key × V)), σ = [some (.int (t : Int)), some (.ref D), v] ∧ But D H1 H' ∧ H' D = some (.dK kvs) ∧ kvs.length ≤ i ∧ ∀ c ∈ allSigns.take i, c ≠ 91 → c ≠ 93 → ∃ a, valV kvs (Sum.inl (c : Int)) = some (.ref a) ∧ WayAt CW t (hide B H') a [c])
   ⟨none, [], rfl, fun b o e _ => e, hD1, Nat.zero_le _, fun c h => (nomatch h)⟩ (fun i σ H' _ ⟨_, _, _, b, _⟩ => SqL.of (b l _ hl nlD)) ?_ ?_
  ·rintro i x σ H' hi ⟨v, kvs, rfl, b5, hD5, hlen, told⟩
   obtain ⟨c, hc, rfl⟩ := vw_get hi
   have hin : i < 128 := Nat.lt_of_lt_of_le (List.getElem?_eq_some_iff.mp hc).1 allSigns_len
   have s5 : Same H H' := fun b o e => b5 b o (s01 b o e) (ne_of_none e hD)
   refine ⟨_, rfl, _, rfl, B, c, t, rfl, ht, tB.mono s5, fun H6 x t6 new => ?_⟩
   have hD6 := t6 _ _ hD5
   refine ⟨_, rfl, _, rfl, D, _, rfl, DPut.k (k := Sum.inl (c : Int)) hD6 (lineLt1 (m := 128) (by omega)), ?_⟩
   have li : LI H6 (upd H6 D (.dK (putK kvs (Sum.inl (c : Int)) (.ref x)))) := LI.upd hD6 rfl
   refine ⟨_, _, rfl, fun b o e n => by rw [upd_ne n]; exact t6 _ _ (b5 b o e n), upd_same, Nat.le_trans (length_putK _ _ _) (by omega), fun c' h n1 n2 => ?_⟩
   rw [take_snoc' hc] at h
   rw [valV_put]
   by_cases e : c' = c
   ·subst e
    exact ⟨x, if_pos rfl, (new n1 n2).li li.hide⟩
   ·rw [if_neg (key_ne e)]
    rcases List.mem_append.mp h with h | h
    ·obtain ⟨a, ea, pa⟩ := told c' h n1 n2
     exact ⟨a, ea, (pa.mono (hide_same t6)).li li.hide⟩
    ·exact absurd (List.mem_singleton.mp h) e
  ·rintro σ H' ⟨v, kvs, rfl, b5, hD5, hlen, told⟩
   rw [List.length_map] at hlen
   rw [List.length_map, List.take_length] at told
   refine ⟨_, rfl, k H' D (fun b o e => b5 b o (s01 b o e) (ne_of_none e hD)) hD ⟨kvs, hide_in (tB.new hD) hD5, Nat.le_trans hlen (Nat.le_trans allSigns_len (by decide)), fun c hc => told c (mem_allSigns hc.1) hc.2.1 hc.2.2⟩⟩
end
end Gw
end
section
namespace Gw
open PySem PySem.Spec PyProof.Rows L2
theorem bal_prefix {v : Kg35.Word} {e : Nat} (h : bal 0 v = some e) (i : Nat) : ∃ d, bal 0 (v.take i) = some d := by
 rw [← List.take_append_drop i v, bal_append] at h
 cases q : bal 0 (v.take i) with
 | none => rw [q] at h; cases h
 | some d => exact ⟨d, rfl⟩
abbrev Kept := Addr × (Nat × List Int)
abbrev vk (ks : List Kept) : List V := ks.map fun q => V.ref q.1
theorem vk_app (ks : List Kept) (q : Kept) : vk ks ++ [V.ref q.1] = vk (ks ++ [q]) := by
 show _ = List.map _ (ks ++ [q]); rw [List.map_append]; rfl
section
variable {P : Program} {w : World} {K : PySem.W.Frag} {mg : Str → Option Value} {base : Heap}
def spWAlong (K : PySem.W.Frag) (CW : Addr) : Sp := fun vs H Q _ => ∃ (B : Addr → Prop) (a d : Addr) (t : Nat) (v : Kg35.Word) (m : Nat) (f : Nat → Kg35.Word), vs = [.ref a, .ref d, .int (t : Int)] ∧ Turns t ∧ Taken B H ∧ SqL K H a (vw v) ∧ v.length ≤ 256 ∧ (∀ c ∈ v, isS c) ∧ bal 0 v = some 0 ∧ ODict (WayAt CW t) isW (hide B H) d m f ∧ (∀ c, Fine f c) ∧
 ∀ (H' : Hp) (p : Addr), Same H H' → WayAt CW t (hide B H') p (v.flatMap f) → Q (.ref p) H'
abbrev st_way_along : Stmt := top 56
theorem sc_way_along : FnScope ["word", "ways", "directions", "turn", "ends", "reach", "kept", "sign", "taken", "way"] ["word", "ways", "directions"] (defScope st_way_along) := ⟨rfl, rfl, rfl, by decide +kernel, rfl, by decide +kernel, by decide +kernel⟩
theorem ok_way_along {f CW : Addr} {fd : FuncData} (F : Fun K "way_along" "way_along" st_way_along f fd) (T0 : Txt K mg) (TW : TxtW K CW) (M : MkW P w K mg base CW) (D_turned : Dfn P w K mg base "turned" 1 ["row", "turn"] (spTurned K)) (D_added : Dfn P w K mg base "added" 1 ["ends", "more"] (spAdded K))
  (D_farthest : Dfn P w K mg base "farthest" 1 ["reach", "ends", "more"] (spFar K)) : FnOk P w K mg base CX0 3 f fd ["word", "ways", "directions"] (spWAlong K CW) := by
 refine F.ok sc_way_along (fun vs H Q E h => ?_) (fun cdv A outer s H vs Q E hr h => ?_)
 ·obtain ⟨B, a, d, t, v, m, f, rfl, _⟩ := h
  rfl
 ·obtain ⟨B, a, d, t, v, m, f, rfl, ht, tB, hS, hlen, hsg, hbal, ⟨kvs, hd, _, hk⟩, hfine, k⟩ := h
  have hu := hu_of hr
  refine ⟨_, (pss_cons (ps_set (i := 3) sc_way_along.nd rfl (Or.inl rfl) pe_int)
   (pss_cons (ps_set (i := 4) sc_way_along.nd rfl (Or.inl rfl) (pe_op op_rep (pe_lst (pa_cons pe_int pa_nil)) (pv 2)))
   (pss_cons (ps_set (i := 5) sc_way_along.nd rfl (Or.inl rfl) (pe_op op_rep (pe_lst (pa_cons pe_int pa_nil)) (pv 2)))
   (pss_cons (ps_set (i := 6) sc_way_along.nd rfl (Or.inl rfl) (pe_lst pa_nil))
   (pss_cons (ps_for PassesOwn.never rfl (pi_list (pv 0)) (pg_name (i := 7) sc_way_along.nd rfl (Or.inl rfl))
   (pss_one (ps_if (pt_cmpR op_eq (pv 7) (pe_gi rfl T0.OPENING) (nomark _))
   (pss_one (ps_expr (pe_bm PySem.F.plainAttrs_list PySem.F.slot_list_append PySem.F.type_list_append mt_append (pv 6) (pa_cons (pe_tup (pa_cons (pv 3) (pa_cons (pv 4) pa_nil))) pa_nil))))
   (pss_one (ps_if (pt_cmpR op_eq (pv 7) (pe_gi rfl T0.CLOSING) (nomark _))
   (pss_cons (ps_set (i := 8) sc_way_along.nd rfl (Or.inl rfl) (pe_bm0 PySem.F.plainAttrs_list PySem.F.slot_list_pop PySem.F.type_list_pop mt_pop (pv 6)))
   (pss_cons (ps_set (i := 3) sc_way_along.nd rfl (Or.inl rfl) (pe_ix ix_tup (pv 8) pe_int (fun _ _ => rfl)))
   (pss_one (ps_set (i := 4) sc_way_along.nd rfl (Or.inl rfl) (pe_ix ix_tup (pv 8) pe_int (fun _ _ => rfl))))))
   (pss_cons (ps_set (i := 9) sc_way_along.nd rfl (Or.inl rfl) (pe_dget hu (pv 1) (pv 7) (fun _ _ => rfl)))
   (pss_cons (ps_if (pt_val (pe_fld (pv 9) rfl))
   (pss_cons (ps_set (i := 5) sc_way_along.nd rfl (Or.inl rfl) (pe_dfn D_farthest (hr.mono (by decide)) rfl (pa_cons (pv 5) (pa_cons (pv 4) (pa_cons (pe_dfn D_turned (hr.mono (by decide)) rfl (pa_cons (pe_fld (pv 9) rfl) (pa_cons (pv 3) pa_nil))) pa_nil)))))
   (pss_one (ps_set (i := 4) sc_way_along.nd rfl (Or.inl rfl) (pe_dfn D_added (hr.mono (by decide)) rfl (pa_cons (pv 4) (pa_cons (pe_dfn D_turned (hr.mono (by decide)) rfl (pa_cons (pe_fld (pv 9) rfl) (pa_cons (pv 3) pa_nil))) pa_nil))))))
   pss_nil)
   (pss_one (ps_set (i := 3) sc_way_along.nd rfl (Or.inl rfl) (pe_op op_mod (pe_op op_add (pv 3) (pe_fld (pv 9) rfl)) (pv 2)))))))))))
   (pss_one (ps_ret (pe_mkrA M (hr.mono (by decide)) rfl (pa_cons (pv 3) (pa_cons (pv 4) (pa_cons (pv 5) pa_nil))))))))))), ?_⟩
  have hle := ht.le
  have rsz : (([V.int 0] : List V).length) * ((t : Int)).toNat ≤ sizeLine := by rw [Int.toNat_natCast]; exact Nat.le_of_lt (lineLt1 (m := 6) (by show 1 * t ≤ 6; omega))
  refine ⟨(by show 1 ≤ sizeLine; decide), fun l0 hl0 => ⟨_, rfl, l0, _, _, rfl, rfl, upd_same, by omega, by omega, rsz, fun e0 he0 => ?_⟩⟩
  rw [Int.toNat_natCast, vi_rep]
  have s1 : Same H (upd (upd H l0 (.lst [V.int 0])) e0 (.lst (vi (List.replicate t 0)))) := (Same.new hl0).trans (.new he0)
  have fe0 : H e0 = none := (Same.new hl0).free he0
  have hE1 : upd (upd H l0 (.lst [V.int 0])) e0 (.lst (vi (List.replicate t 0))) e0 = some (.lst (vi (List.replicate t 0))) := upd_same
  generalize upd (upd H l0 (.lst [V.int 0])) e0 (.lst (vi (List.replicate t 0))) = H1 at s1 hE1
  refine ⟨(by show 1 ≤ sizeLine; decide), fun l1 hl1 => ⟨_, rfl, l1, _, _, rfl, rfl, upd_same, by omega, by omega, rsz, fun r0 hr0 => ?_⟩⟩
  rw [Int.toNat_natCast, vi_rep]
  have s2 : Same H1 (upd (upd H1 l1 (.lst [V.int 0])) r0 (.lst (vi (List.replicate t 0)))) := (Same.new hl1).trans (.new hr0)
  have fr0 : H r0 = none := (s1.trans (Same.new hl1)).free hr0
  have hR2 : upd (upd H1 l1 (.lst [V.int 0])) r0 (.lst (vi (List.replicate t 0))) r0 = some (.lst (vi (List.replicate t 0))) := upd_same
  have hE2 := s2 _ _ hE1
  generalize upd (upd H1 l1 (.lst [V.int 0])) r0 (.lst (vi (List.replicate t 0))) = H2 at s2 hE2 hR2
  have s02 := s1.trans s2
  refine ⟨Nat.zero_le _, fun KP hKP => ?_⟩
  have fKP : H KP = none := s02.free hKP
  have s3 : Same H2 (upd H2 KP (.lst [])) := .new hKP
  refine ⟨_, rfl, a, rfl, ⟨_, (s02.trans s3).seq hS⟩, ?_⟩
  refine for_list (K := K) (a := a) (xs := vw v) (fun i σ H' => ∃ (v7 v8 v9 : Option V) (T : Nat) (E R : List Int) (le lr : Addr) (ks : List Kept), σ = [some (.ref a), some (.ref d), some (.int (t : Int)), some (.int (T : Int)), some (.ref le), some (.ref lr), some (.ref KP), v7, v8, v9] ∧ Same H H' ∧ H' KP = some (.lst (vk ks)) ∧ ks.length ≤ i
    ∧ hide (· = KP) H' le = some (.lst (vi E)) ∧ hide (· = KP) H' lr = some (.lst (vi R)) ∧ H le = none ∧ H lr = none
    ∧ (∀ q ∈ ks, ∃ lk, hide (· = KP) H' q.1 = some (.tup [V.int (q.2.1 : Nat), V.ref lk]) ∧ hide (· = KP) H' lk = some (.lst (vi q.2.2)) ∧ H lk = none)
    ∧ WInv t (penOf t ((v.take i).flatMap f)) T E R (ks.map (·.2)).reverse)
   ⟨none, none, none, 0, _, _, e0, r0, [], rfl, s02.trans s3, upd_same, Nat.zero_le _, hide_in (ne_of_none hE2 hKP) (s3 _ _ hE2), hide_in (ne_of_none hR2 hKP) (s3 _ _ hR2), fe0, fr0, fun q h => (nomatch h), WInv.start ht⟩ (fun i σ H' _ ⟨_, _, _, _, _, _, _, _, _, _, s, _⟩ => s.seq hS) ?_ ?_
  ·rintro i x σ H' hi ⟨v7, v8, v9, T, E, R, le, lr, ks, rfl, s5, hKP5, hks, hE, hR, fle, flr, hkept, inv⟩
   obtain ⟨c, hc, rfl⟩ := vw_get hi
   have hiv : i < v.length := (List.getElem?_eq_some_iff.mp hc).1
   have epre : (v.take (i + 1)).flatMap f = (v.take i).flatMap f ++ f c := by
    rw [take_snoc' hc, List.flatMap_append, List.flatMap_cons, List.flatMap_nil, List.append_nil]
   have epen : penOf t ((v.take (i + 1)).flatMap f) = fun d => (f c).foldl (Kg35.Pen.step t) (penOf t ((v.take i).flatMap f) d) := by
    rw [epre]; funext d; exact penOf_append t _ _ d
   have elen : E.length = t := by rw [inv.ends, List.length_map, List.length_range]
   have rlen : R.length = t := by rw [inv.reach, List.length_map, List.length_range]
   refine ⟨_, rfl, rfl, _, rfl, ?_⟩
   refine iteD (fun h1 => ?_) (fun h1 => ?_)
   ·-- [
    have h1 : c = 91 := by have := int_eq.mp h1; omega
    subst h1
    have ef : f 91 = [91] := by
     rcases hfine 91 with ⟨_, z⟩ | ⟨z, _⟩
     ·exact z
     ·exact absurd rfl z
    refine ⟨_, rfl, .inl ⟨rfl, _, SqL.of hKP5⟩, _, rfl, _, rfl, (by show 2 ≤ sizeLine; decide), fun tp htp => ?_⟩
    have u1 : Same H' (upd H' tp (.tup [V.int (T : Nat), V.ref le])) := .new htp
    refine ⟨KP, _, _, rfl, rfl, u1 _ _ hKP5, lineLt1 (m := 256) (by rw [List.length_map]; omega), ?_⟩
    have hh : ∀ {b o}, hide (· = KP) H' b = some o → hide (· = KP) (upd (upd H' tp (.tup [V.int (T : Nat), V.ref le])) KP (.lst (vk ks ++ [V.ref tp]))) b = some o := fun {b o} e => by
     rw [hide_upd (B := fun b => b = KP) rfl]; exact hide_same u1 _ _ e
    refine ⟨_, _, _, T, E, R, le, lr, ks ++ [(tp, (T, E))], rfl, fun b o e => ?_, ?_, ?_, hh hE, hh hR, fle, flr, fun q hq => ?_, ?_⟩
    ·rw [upd_ne (ne_of_none e fKP)]; exact u1 _ _ (s5 b o e)
    ·rw [upd_same, ← vk_app]
    ·rw [List.length_append]; exact Nat.succ_le_succ hks
    ·rcases List.mem_append.mp hq with hq | hq
     ·obtain ⟨lk, q1, q2, q3⟩ := hkept q hq
      exact ⟨lk, hh q1, hh q2, q3⟩
     ·rw [List.mem_singleton.mp hq]
      refine ⟨le, ?_, hh hE, fle⟩
      rw [hide_upd (B := fun b => b = KP) rfl]
      exact hide_in (fun (z : tp = KP) => by rw [z, hKP5] at htp; cases htp) upd_same
    ·rw [epen, ef, List.map_append, List.reverse_append]
     exact inv.open_
   ·have h1 : ¬ c = 91 := fun z => h1 (by rw [z]; rfl)
    refine ⟨_, rfl, rfl, _, rfl, ?_⟩
    refine iteD (fun h2 => ?_) (fun h2 => ?_)
    ·-- ]
     have h2 : c = 93 := by have := int_eq.mp h2; omega
     subst h2
     have ef : f 93 = [93] := by
      rcases hfine 93 with ⟨_, z⟩ | ⟨_, z, _⟩
      ·exact z
      ·exact absurd rfl z
     have hpos : 0 < ks.length := by
      obtain ⟨e, he⟩ := bal_prefix hbal (i + 1)
      obtain ⟨e0, he0⟩ := bal_prefix hbal i
      rw [take_snoc' hc, bal_append, he0] at he
      have he : bal e0 [93] = some e := he
      rw [bal_one, if_neg (by decide), if_pos rfl] at he
      have ne0 : e0 ≠ 0 := fun z => by rw [if_pos z] at he; cases he
      have hb2 : bal 0 ((v.take i).flatMap f) = some e0 := by rw [bal_flat _ _ (fun c _ => hfine c)]; exact he0
      have hbk := penOf_back (t := t) (d := 0) hb2
      obtain ⟨ys, e1, e2⟩ := inv.kept 0 ht.pos
      have := congrArg List.length e1
      rw [hbk, List.length_zipWith, e2, List.length_reverse, List.length_map] at this
      omega
     rcases List.eq_nil_or_concat ks with z | ⟨ks0, q, z⟩
     ·rw [z] at hpos; simp at hpos
     rw [List.concat_eq_append] at z
     subst z
     obtain ⟨lk, q1, q2, q3⟩ := hkept q (List.mem_append_right _ (List.mem_singleton.mpr rfl))
     have elast : (vk (ks0 ++ [q]))[(vk (ks0 ++ [q])).length - 1]? = some (V.ref q.1) := by
      rw [List.length_map, List.length_append, List.getElem?_map]
      show ((ks0 ++ [q])[ks0.length + 1 - 1]?).map _ = _
      rw [Nat.add_sub_cancel, List.getElem?_append_right (Nat.le_refl _), Nat.sub_self]; rfl
     have edrop : (vk (ks0 ++ [q])).dropLast = vk ks0 := by
      show (List.map _ (ks0 ++ [q])).dropLast = _
      rw [List.map_append]
      show (_ ++ [_]).dropLast = _
      rw [List.dropLast_concat]
     refine ⟨_, rfl, .inl ⟨rfl, _, SqL.of hKP5⟩, KP, _, _, rfl, rfl, hKP5, elast, ?_⟩
     rw [edrop]
     have hh : ∀ {b o}, hide (· = KP) H' b = some o → hide (· = KP) (upd H' KP (.lst (vk ks0))) b = some o := fun {b o} e => by rw [hide_upd (B := fun b => b = KP) rfl]; exact e
     have q1' := hide_le _ _ (hh q1)
     refine ⟨_, rfl, q.1, _, _, _, rfl, rfl, SqT.of q1', at_of (j := 0) rfl rfl, ?_⟩
     refine ⟨_, rfl, q.1, _, _, _, rfl, rfl, SqT.of q1', at_of (j := 1) rfl rfl, ?_⟩
     refine ⟨_, _, _, q.2.1, q.2.2, R, lk, lr, ks0, rfl, fun b o e => ?_, upd_same, ?_, hh q2, hh hR, q3, flr, fun q' hq' => ?_, ?_⟩
     ·rw [upd_ne (ne_of_none e fKP)]; exact s5 b o e
     ·rw [List.length_append] at hks; exact Nat.le_trans (Nat.le_succ _) (Nat.le_trans hks (Nat.le_succ _))
     ·obtain ⟨lk', p1, p2, p3⟩ := hkept q' (List.mem_append_left _ hq')
      exact ⟨lk', hh p1, hh p2, p3⟩
     ·rw [epen, ef]
      rw [List.map_append, List.reverse_append] at inv
      exact WInv.close_ (T0 := q.2.1) (E0 := q.2.2) inv
    ·-- all else
     have h2 : ¬ c = 93 := fun z => h2 (by rw [z]; rfl)
     have hcl : bal 0 (f c) = some 0 := by
      rcases hfine c with ⟨z, _⟩ | ⟨_, _, z⟩
      ·exact absurd z (by omega)
      ·exact z
     obtain ⟨wa, ewa, dx, we, wr, w1, w2, w3⟩ := hk c ⟨hsg c (List.mem_of_getElem? hc), h1, h2⟩
     have w1' := s5 _ _ (hide_le _ _ w1)
     have w2' := s5 _ _ (hide_le _ _ w2)
     have w3' := s5 _ _ (hide_le _ _ w3)
     obtain ⟨gt, gf⟩ := inv.go ht hcl
     have eT : ((T : Int) + ((wTurn t (f c) : Nat) : Int)) % (t : Int) = (((T + wTurn t (f c)) % t : Nat) : Int) := by rw [Int.natCast_emod, Int.natCast_add]
     refine ⟨_, rfl, _, rfl, d, V.ref wa, rfl, by rw [← ewa]; exact DGet.k (k := Sum.inl (c : Int)) (s5 _ _ (hide_le _ _ hd)), ?_⟩
     refine ⟨_, rfl, wa, CW, dx, _, _, rfl, w1', TW.cl, TW.n4, wf_moves _ _ _ _, _, rfl, ?_⟩
     have szE := wEnds_len t (f c)
     have szR := wReach_len t (f c)
     have hE' := hide_le _ _ hE
     have hR' := hide_le _ _ hR
     refine iteB (fun h3 => ?_) (fun h3 => ?_)
     ·refine ⟨_, rfl, _, rfl, _, rfl, wa, CW, dx, _, _, rfl, w1', TW.cl, TW.n3, wf_reach _ _ _ _, _, rfl, wr, T, _, rfl, SqL.of w3', by omega, fun Ha ra sa fra hra => ?_⟩
      refine ⟨lr, le, ra, R, E, _, rfl, SqL.of (sa _ _ hR'), SqL.of (sa _ _ hE'), SqL.of hra, by omega, by rw [List.length_append, List.length_drop, List.length_take]; omega, by omega, fun Hb rb sb frb hrb => ?_⟩
      have sab := sa.trans sb
      refine ⟨_, rfl, _, rfl, wa, CW, dx, _, _, rfl, sab _ _ w1', TW.cl, TW.n2, wf_ends _ _ _ _, _, rfl, we, T, _, rfl, SqL.of (sab _ _ w2'), by omega, fun Hc rc sc frc hrc => ?_⟩
      have sac := sab.trans sc
      refine ⟨le, rc, E, _, rfl, SqL.of (sac _ _ hE'), SqL.of hrc, by rw [List.length_append, List.length_drop, List.length_take]; omega, by omega, fun Hd re sd fre hre => ?_⟩
      have sad := sac.trans sd
      refine ⟨_, rfl, _, rfl, wa, CW, dx, _, _, rfl, sad _ _ w1', TW.cl, TW.n1, wf_turn _ _ _ _, _, _, rfl, rfl, _, rfl, _, _, rfl, rfl, by have := ht.pos; omega, ?_⟩
      dsimp only
      rw [eT]
      have hh : ∀ {b o}, hide (· = KP) H' b = some o → hide (· = KP) Hd b = some o := fun {b o} e => hide_same sad _ _ e
      have nb : rb ≠ KP := fun z => by rw [z, sa _ _ hKP5] at frb; cases frb
      have ne : re ≠ KP := fun z => by rw [z, sac _ _ hKP5] at fre; cases fre
      refine ⟨_, _, _, _, _, _, re, rb, ks, rfl, s5.trans sad, sad _ _ hKP5, Nat.le_trans hks (Nat.le_succ _), hide_in ne hre, hide_in nb (sd _ _ (sc _ _ hrb)), (s5.trans sac).free fre, (s5.trans sa).free frb, fun q hq => ?_, ?_⟩
      ·obtain ⟨lk, q1, q2, q3⟩ := hkept q hq
       exact ⟨lk, hh q1, hh q2, q3⟩
      ·rw [epen]; exact gt h3
     ·refine ⟨_, rfl, _, rfl, wa, CW, dx, _, _, rfl, w1', TW.cl, TW.n1, wf_turn _ _ _ _, _, _, rfl, rfl, _, rfl, _, _, rfl, rfl, by have := ht.pos; omega, ?_⟩
      dsimp only
      rw [eT]
      refine ⟨_, _, _, _, E, R, le, lr, ks, rfl, s5, hKP5, Nat.le_trans hks (Nat.le_succ _), hE, hR, fle, flr, hkept, ?_⟩
      rw [epen]; exact gf h3
  ·rintro σ H' ⟨v7, v8, v9, T, E, R, le, lr, ks, rfl, s5, hKP5, hks, hE, hR, fle, flr, hkept, inv⟩
   rw [List.length_map, List.take_length] at inv
   obtain ⟨e1, e2, e3⟩ := inv.done ht
   subst e1 e2 e3
   refine ⟨_, rfl, _, rfl, _, rfl, fun x dx hx hdx ne => ?_⟩
   have hR' := hide_le _ _ hR
   have hE' := hide_le _ _ hE
   refine ⟨x, dx, le, lr, _, _, rfl, upd_same, by rw [upd_ne (ne_of_none hR' hx), upd_ne (ne_of_none hR' hdx)]; exact hR', fun z => ?_, rfl, ?_⟩
   ·have e := wReach_len t (v.flatMap f)
    rw [z] at e
    have := ht.pos
    simp at e
    omega
   ·have s6 : Same H' (upd (upd (upd H' dx (.own x)) x (.ins CW dx [])) x (.ins CW dx (wf (wTurn t (v.flatMap f) : Nat) le lr ((wReach t (v.flatMap f)).any fun z => decide (0 < z))))) := Same.mk3 hx hdx
    exact k _ x (s5.trans s6) ⟨dx, le, lr, hide_in (tB.new (s5.free hx)) upd_same, hide_in (tB.new fle) (s6 _ _ hE'), hide_in (tB.new flr) (s6 _ _ hR')⟩
def spGrownW (CW : Addr) : Sp := fun vs H Q _ => ∃ (B : Addr → Prop) (t : Nat) (d R : Addr) (as : List Addr) (x : Kg35.Rules) (m : Nat) (f : Nat → Kg35.Word), vs = [.ref d, .ref R, .int (t : Int)] ∧ Turns t ∧ Taken B H ∧ d ≠ R ∧ ODict (WayAt CW t) isW (hide B H) d m f ∧ m ≤ 1000000 ∧ (∀ c, Fine f c) ∧ Refs (hide B H) R as x.rules WordAt ∧ Good x ∧ (x.rules.map (·.1)).Nodup ∧ x.rules.length ≤ 5000 ∧
 ∀ (H' : Hp) (d' : Addr), Same H H' → H d' = none → ODict (WayAt CW t) isW (hide B H') d' (m + 5000) (fun c => (x.of c).flatMap f) → Q (.ref d') H'
abbrev st_grown_ways : Stmt := top 57
theorem sc_grown_ways : FnScope ["ways", "rules", "directions", "after", "letter", "word"] ["ways", "rules", "directions"] (defScope st_grown_ways) := ⟨rfl, rfl, rfl, by decide +kernel, rfl, by decide +kernel, by decide +kernel⟩
theorem ok_grown_ways {f CW : Addr} {fd : FuncData} (F : Fun K "grown_ways" "grown_ways" st_grown_ways f fd) (T : Txt K mg) (D_way_along : Dfn P w K mg base "way_along" 3 ["word", "ways", "directions"] (spWAlong K CW)) : FnOk P w K mg base CX0 4 f fd ["ways", "rules", "directions"] (spGrownW CW) := by
 refine F.ok sc_grown_ways (fun vs H Q E h => ?_) (fun cdv A outer s H vs Q E hr h => ?_)
 ·obtain ⟨B, t, d, R, as, x, m, f, rfl, _⟩ := h
  rfl
 ·obtain ⟨B, t, d, R, as, x, m, f, rfl, ht, tB, ndR, ⟨kvs, hd, hm, hk⟩, hm2, hfine, RW, g, nd, hlen, k⟩ := h
  have hu := hu_of hr
  refine ⟨_, (pss_cons (ps_set (i := 3) sc_grown_ways.nd rfl (Or.inl rfl) (pe_callTy cr_dictC (by rfl) T.b_dict boot_dict7 (pa_cons (pv 0) pa_nil)))
   (pss_cons (ps_lock (ps_for PassesOwn.never rfl (pi_items (pv 1)) (pg_tup rfl (pgs_cons (pg_name (i := 4) sc_grown_ways.nd rfl (Or.inl rfl)) (pgs_cons (pg_name (i := 5) sc_grown_ways.nd rfl (Or.inl rfl)) pgs_nil)))
   (pss_one (ps_dput hu (pv 3) (pv 4) (pe_dfn D_way_along (hr.mono (by decide)) rfl (pa_cons (pv 5) (pa_cons (pv 0) (pa_cons (pv 2) pa_nil)))) rfl))))
   (pss_one (ps_ret (pv 3))))), ?_⟩
  have hd0 : H d = some (.dK kvs) := hide_le _ _ hd
  have hR0 : H R = some (.dK (kvR x.rules as)) := hide_le _ _ RW.dict
  refine ⟨_, rfl, d, kvs, rfl, .inl hd0, fun D hD => ?_⟩
  have nDR : D ≠ R := fun z => by rw [z, hR0] at hD; cases hD
  have nDd : D ≠ d := fun z => by rw [z, hd0] at hD; cases hD
  have hR1 : upd H D (.dK kvs) R = some (.dK (kvR x.rules as)) := by rw [upd_ne nDR.symm]; exact hR0
  refine ⟨R, _, hR1, trivial, fun od => ?_⟩
  have bL : ∀ b o, H b = some o → b ≠ R → upd (upd H D (.dK kvs)) R (.frz od (.dK (kvR x.rules as))) b = some o := fun b o e n => by rw [upd_ne n, upd_ne (ne_of_none e hD)]; exact e
  have liL : LI H (upd (upd H D (.dK kvs)) R (.frz od (.dK (kvR x.rules as)))) := (LI.new hD).trans (LI.upd hR1 rfl)
  refine ⟨_, rfl, R, od, _, rfl, upd_same, for_items (d := R) (o := od) (kvs := kvR x.rules as) (fun i σ H' => ∃ (v3 v4 : Option V) (kv2 : List (Key × V)), σ = [some (.ref d), some (.ref R), some (.int (t : Int)), some (.ref D), v3, v4] ∧ But D (upd (upd H D (.dK kvs)) R (.frz od (.dK (kvR x.rules as)))) H' ∧ H' D = some (.dK kv2) ∧ kv2.length ≤ m + i ∧
    ∀ c, isW c → ∃ a, valV kv2 (Sum.inl (c : Int)) = some (.ref a) ∧ WayAt CW t (hide B H') a (upTo (x.rules.take i) f c))
   ⟨none, none, kvs, rfl, fun b o q _ => q, by rw [upd_ne nDR]; exact upd_same, hm, fun c hc => by
    obtain ⟨a, ea, pa⟩ := hk c hc
    exact ⟨a, ea, pa.li liL.hide⟩⟩ (fun i σ H' _ ⟨_, _, _, _, b5, _⟩ => b5 R _ upd_same nDR.symm) ?_ ?_⟩
  ·rintro i key vv Tp σ H' hi hT ⟨v3, v4, kv2, rfl, b5, hD5, hl2, told⟩
   obtain ⟨p, a, hp, ha, rfl, rfl⟩ := kvR_at hi
   obtain ⟨p', e1, h1⟩ := RW.at_ i a ha
   rw [hp] at e1
   cases e1
   have h1 : H a = some (.lst (vw p.2)) := hide_le _ _ h1
   have pm : p ∈ x.rules := List.mem_of_getElem? hp
   have hi5 : i < x.rules.length := (List.getElem?_eq_some_iff.mp hp).1
   have li5 : LI H H' := fun b o e n => b5 b o (liL b o e n) (fun z => by rw [z, hD] at e; cases e)
   have u1 : Same H' (upd H' Tp (.tup [kV (Sum.inl (p.1 : Int)), V.ref a])) := .new hT
   have hd5 : H' d = some (.dK kvs) := b5 d _ (bL d _ hd0 ndR) nDd.symm
   refine ⟨Tp, _, rfl, SqT.of upd_same, rfl, _, _, rfl, _, _, rfl, rfl, ?_⟩
   have tB6 : Taken B (upd H' Tp (.tup [kV (Sum.inl (p.1 : Int)), V.ref a])) := fun b hb => by
    have n0 := tB b hb
    cases e : H b with
    | none => exact absurd e n0
    | some o =>
     by_cases z : b = R
     ·subst z; rw [u1 _ _ (b5 b _ upd_same nDR.symm)]; exact fun q => nomatch q
     ·rw [u1 _ _ (b5 b _ (bL b o e z) (ne_of_none e hD))]; exact fun q => nomatch q
   obtain ⟨ok1, ok2, ok3⟩ := wordOk_iff.mp (g.rules p pm).2
   refine ⟨_, rfl, _, rfl, _, rfl, B, a, d, t, p.2, m, f, rfl, ht, tB6, SqL.of (u1 _ _ (li5 _ _ h1 rfl)), ok3, fun c hc => ok1 c hc, closed_iff.mp ok2, ⟨kvs, hide_in (hide_out hd) (u1 _ _ hd5), hm, fun c hc => by
    obtain ⟨a', ea, pa⟩ := hk c hc
    exact ⟨a', ea, pa.li ((li5.trans (.of u1)).hide)⟩⟩, hfine, fun H2 q s2 pq => ?_⟩
   have s6 := u1.trans s2
   have hD6 := s6 _ _ hD5
   refine ⟨_, rfl, _, rfl, D, _, rfl, DPut.k (k := Sum.inl (p.1 : Int)) hD6 (lineLt1 (m := 1010000) (by omega)), ?_⟩
   have li : LI H2 (upd H2 D (.dK (putK kv2 (Sum.inl (p.1 : Int)) (.ref q)))) := LI.upd hD6 rfl
   refine ⟨_, _, _, rfl, fun b o e n => by rw [upd_ne n]; exact s6 _ _ (b5 b o e n), upd_same, Nat.le_trans (length_putK _ _ _) (by omega), fun c hc => ?_⟩
   rw [take_snoc' hp, upTo_new f (take_new nd hp), valV_put]
   by_cases e : c = p.1
   ·subst e
    rw [if_pos rfl, if_pos rfl]
    exact ⟨q, rfl, pq.li li.hide⟩
   ·rw [if_neg (key_ne e), if_neg e]
    obtain ⟨a', ea, pa⟩ := told c hc
    exact ⟨a', ea, (pa.mono (hide_same s6)).li li.hide⟩
  ·rintro σ H' ⟨v3, v4, kv2, rfl, b5, hD5, hl2, told⟩
   have el : (kvR x.rules as).length = x.rules.length := by rw [List.length_zipWith, RW.len]; omega
   rw [el] at hl2
   rw [el, List.take_length] at told
   have hR5 := b5 R _ upd_same nDR.symm
   refine ⟨hR5, _, rfl, k _ D (fun b o q => ?_) hD ⟨kv2, hide_in (tB.new hD) (by rw [upd_ne nDR]; exact hD5), by omega, fun c hc => ?_⟩⟩
   ·by_cases z : b = R
    ·subst z; rw [hR0] at q; cases q; exact upd_same
    ·rw [upd_ne z]
     exact b5 b o (bL b o q z) (ne_of_none q hD)
   ·obtain ⟨a, ea, pa⟩ := told c hc
    rw [upTo_all] at pa
    exact ⟨a, ea, pa.li (LI.hide (LI.upd hR5 rfl))⟩
def spTold (CW : Addr) : Sp := fun vs H Q _ => ∃ (t : Nat) (a : Addr) (v : Kg35.Word), vs = [.ref a] ∧ Turns t ∧ WayAt CW t H a v ∧ ∀ (H' : Hp) (r : Addr), Same H H' → H r = none → H' r = some (.lst (vi (legInts (legOf t v 0)))) → Q (.ref r) H'
abbrev st_told_of : Stmt := top 58
theorem sc_told_of : FnScope ["way", "half", "low", "high"] ["way"] (defScope st_told_of) := ⟨rfl, rfl, rfl, by decide +kernel, rfl, by decide +kernel, by decide +kernel⟩
theorem ok_told_of {f CW : Addr} {fd : FuncData} (F : Fun K "told_of" "told_of" st_told_of f fd) (T : Txt K mg) (TW : TxtW K CW) : FnOk P w K mg base CX0 1 f fd ["way"] (spTold CW) := by
 refine F.ok sc_told_of (fun vs H Q E h => ?_) (fun cdv A outer s H vs Q E hr h => ?_)
 ·obtain ⟨t, a, v, rfl, _⟩ := h
  rfl
 ·obtain ⟨t, a, v, rfl, ht, ⟨dx, le, lr, w1, w2, w3⟩, k⟩ := h
  refine ⟨_, (pss_cons (ps_set (i := 1) sc_told_of.nd rfl (Or.inl rfl) (pe_op op_fdiv (pe_callB call_len_seq (by rfl) T.b_len PySem.boot_len (pa_cons (pe_fld (pv 0) rfl) pa_nil)) pe_int))
   (pss_cons (ps_set (i := 2) sc_told_of.nd rfl (Or.inl rfl) (pe_lst (pa_cons (pe_un un_neg (pe_ix ix_list (pe_fld (pv 0) rfl) (pv 1) (fun _ _ => rfl))) (pa_cons (pe_un un_neg (pe_ix ix_list (pe_fld (pv 0) rfl) pe_int (fun _ _ => rfl))) pa_nil))))
   (pss_cons (ps_set (i := 3) sc_told_of.nd rfl (Or.inl rfl) (pe_lst (pa_cons (pe_ix ix_list (pe_fld (pv 0) rfl) pe_int (fun _ _ => rfl)) (pa_cons (pe_ix ix_list (pe_fld (pv 0) rfl) (pe_op op_add (pv 1) pe_int) (fun _ _ => rfl)) pa_nil))))
   (pss_one (ps_ret (pe_op op_cat (pe_op op_cat (pe_lst (pa_cons (pe_ix ix_list (pe_fld (pv 0) rfl) pe_int (fun _ _ => rfl)) (pa_cons (pe_un un_neg (pe_ix ix_list (pe_fld (pv 0) rfl) pe_int (fun _ _ => rfl))) (pa_cons (pe_fld (pv 0) rfl) pa_nil)))) (pv 2)) (pv 3))))))), ?_⟩
  obtain ⟨e1, r0, r1, r2, r3, g0, g1, g2, g3, g4, g5, gl⟩ := told_leg ht v
  have eh : ((((vi (wEnds t v)).length : Nat) : Int)) / 2 = ((t / 2 : Nat) : Int) := by rw [List.length_map, wEnds_len]; omega
  refine ⟨_, rfl, a, CW, dx, _, _, rfl, w1, TW.cl, TW.n2, wf_ends _ _ _ _, le, _, rfl, .inl (SqL.of w2), _, _, rfl, rfl, ⟨by decide, by decide⟩, ?_⟩
  dsimp only
  rw [eh]
  refine ⟨_, rfl, a, CW, dx, _, _, rfl, w1, TW.cl, TW.n3, wf_reach _ _ _ _, _, rfl, lr, _, _, _, rfl, rfl, SqL.of w3, at_of (j := t / 2) rfl (vi_at g2), _, rfl, ?_⟩
  refine ⟨_, rfl, a, CW, dx, _, _, rfl, w1, TW.cl, TW.n3, wf_reach _ _ _ _, lr, _, _, _, rfl, rfl, SqL.of w3, at_of (j := 1) rfl (vi_at g3), _, rfl, ?_⟩
  refine ⟨(by show 2 ≤ sizeLine; decide), fun lo hlo => ?_⟩
  have s1 : Same H (upd H lo (.lst [V.int (-r0), V.int (-r1)])) := .new hlo
  have w1a := s1 _ _ w1
  have w3a := s1 _ _ w3
  refine ⟨_, rfl, a, CW, dx, _, _, rfl, w1a, TW.cl, TW.n3, wf_reach _ _ _ _, lr, _, _, _, rfl, rfl, SqL.of w3a, at_of (j := 0) rfl (vi_at g4), ?_⟩
  refine ⟨_, rfl, a, CW, dx, _, _, rfl, w1a, TW.cl, TW.n3, wf_reach _ _ _ _, _, rfl, _, _, rfl, rfl, lr, _, _, _, rfl, rfl, SqL.of w3a, at_of (j := t / 2 + 1) (by omega) (vi_at g5), ?_⟩
  refine ⟨(by show 2 ≤ sizeLine; decide), fun hi hhi => ?_⟩
  have s2 := s1.trans (Same.new (o := .lst [V.int r2, V.int r3]) hhi)
  have w1b := s2 _ _ w1
  have w2b := s2 _ _ w2
  have nlh : lo ≠ hi := fun z => by rw [← z, upd_same] at hhi; cases hhi
  refine ⟨_, rfl, a, CW, dx, _, _, rfl, w1b, TW.cl, TW.n2, wf_ends _ _ _ _, le, _, _, _, rfl, rfl, SqL.of w2b, at_of (j := 0) rfl (vi_at g0), ?_⟩
  refine ⟨_, rfl, a, CW, dx, _, _, rfl, w1b, TW.cl, TW.n2, wf_ends _ _ _ _, le, _, _, _, rfl, rfl, SqL.of w2b, at_of (j := 1) rfl (vi_at g1), _, rfl, ?_⟩
  refine ⟨_, rfl, a, CW, dx, _, _, rfl, w1b, TW.cl, TW.n1, wf_turn _ _ _ _, ?_⟩
  refine ⟨(by show 3 ≤ sizeLine; decide), fun q1 hq1 => ?_⟩
  have u1 : Same (upd (upd H lo (.lst [V.int (-r0), V.int (-r1)])) hi (.lst [V.int r2, V.int r3])) (upd (upd (upd H lo (.lst [V.int (-r0), V.int (-r1)])) hi (.lst [V.int r2, V.int r3])) q1 (.lst [V.int (legOf t v 0).x, V.int (-e1), V.int (wTurn t v : Nat)])) := .new hq1
  refine ⟨_, rfl, q1, lo, _, _, rfl, rfl, upd_same, u1 _ _ (by rw [upd_ne nlh]; exact upd_same), (by show 5 ≤ sizeLine; decide), fun q2 hq2 => ?_⟩
  refine ⟨_, rfl, q2, hi, _, _, rfl, rfl, upd_same, by rw [upd_ne (fun z => by rw [← z, u1 _ _ upd_same] at hq2; cases hq2)]; exact u1 _ _ upd_same, (by show 7 ≤ sizeLine; decide), fun q3 hq3 => ?_⟩
  refine k _ q3 (s2.trans (u1.trans ((Same.new hq2).trans (.new hq3)))) ((s2.trans (u1.trans (Same.new hq2))).free hq3) ?_
  rw [upd_same, gl]; rfl
end
end Gw
end
section
namespace Gw
open PySem PySem.Spec PyProof.Rows L2
abbrev kP (q : Int × Int) : List Key := [Sum.inl q.1, Sum.inl q.2]
abbrev kT (pts : List (Int × Int)) : List (List Key × V) := pts.map fun q => (kP q, V.bl true)
theorem kP_eq (a b : Int × Int) : (kP a = kP b) = (a = b) := by
 apply propext
 constructor
 ·intro h
  obtain ⟨a1, a2⟩ := a
  obtain ⟨b1, b2⟩ := b
  have h1 : (Sum.inl a1 : Key) = Sum.inl b1 := by injection h
  have h2 : [(Sum.inl a2 : Key)] = [Sum.inl b2] := by injection h
  have h2 : (Sum.inl a2 : Key) = Sum.inl b2 := by injection h2
  injection h1 with h1
  injection h2 with h2
  rw [h1, h2]
 ·intro h; rw [h]
theorem put_kT (pts : List (Int × Int)) (q : Int × Int) : ∃ pts', putK (kT pts) (kP q) (V.bl true) = kT pts' ∧ (∀ z, z ∈ pts' ↔ z ∈ pts ∨ z = q) ∧ pts'.length ≤ pts.length + 1 := by
 have any : (kT pts).any (fun kv => decide (kv.1 = kP q)) = pts.any fun p => decide (p = q) := by
  rw [List.any_map]
  congr 1
  funext p
  show decide (kP p = kP q) = decide (p = q)
  simp only [kP_eq]
 unfold putK
 rw [any]
 by_cases h : pts.any (fun p => decide (p = q)) = true
 ·rw [if_pos h]
  refine ⟨pts, ?_, fun z => ⟨.inl, fun y => y.elim id fun e => ?_⟩, Nat.le_succ _⟩
  ·rw [List.map_map]
   refine List.map_congr_left fun p _ => ?_
   show (if kP p = kP q then (kP p, V.bl true) else (kP p, V.bl true)) = (kP p, V.bl true)
   split <;> rfl
  ·obtain ⟨p, hp, e2⟩ := List.any_eq_true.mp h
   rw [e, ← of_decide_eq_true e2]; exact hp
 ·rw [if_neg h]
  refine ⟨pts ++ [q], ?_, fun z => by rw [List.mem_append, List.mem_singleton], by rw [List.length_append]; exact Nat.le_refl _⟩
  show _ = List.map _ (pts ++ [q])
  rw [List.map_append]; rfl
def dotAt (L : List (Int × Int)) (x0 y0 : Int) (w k : Nat) : Int := if (x0 + ((k % w : Nat) : Int), y0 + ((k / w : Nat) : Int)) ∈ L then 1 else 0
theorem flat_row (F : Nat → Nat → Int) (w : Nat) (hw : 0 < w) : ∀ h, ((List.range h).flatMap fun j => (List.range w).map fun i => F i j) = (List.range (w * h)).map fun k => F (k % w) (k / w)
 | 0 => by rw [Nat.mul_zero]; rfl
 | h + 1 => by
  rw [List.range_succ, List.flatMap_append, flat_row F w hw h, Nat.mul_succ, List.range_add, List.map_append, List.map_map]
  congr 1
  rw [List.flatMap_cons, List.flatMap_nil, List.append_nil]
  refine List.map_congr_left fun i hi => ?_
  have hi := List.mem_range.mp hi
  show F i h = F ((w * h + i) % w) ((w * h + i) / w)
  rw [Nat.mul_add_mod, Nat.mod_eq_of_lt hi, Nat.mul_add_div hw, Nat.div_eq_of_lt hi, Nat.add_zero]
theorem dots_row (p : Kg35.Pen) (x0 y0 : Int) (w h : Nat) (hw : 0 < w) {L : List (Int × Int)} (hL : ∀ z, z ∈ L ↔ z ∈ p.drawn) : dots p x0 y0 w h = (List.range (w * h)).map (dotAt L x0 y0 w) := by
 unfold dots
 rw [flat_row (fun i j => if (x0 + (i : Int), y0 + (j : Int)) ∈ p.drawn then 1 else 0) w hw h]
 refine List.map_congr_left fun k _ => ?_
 unfold dotAt
 by_cases q : (x0 + ((k % w : Nat) : Int), y0 + ((k / w : Nat) : Int)) ∈ p.drawn
 ·rw [if_pos q, if_pos ((hL _).mpr q)]
 ·rw [if_neg q, if_neg fun z => q ((hL _).mp z)]
theorem dot_snoc_in {L : List (Int × Int)} {q : Int × Int} {x0 y0 : Int} {w h i j : Nat} (hi : i < w) (hj : j < h) (e : q = (x0 + (i : Int), y0 + (j : Int))) : (List.range (w * h)).map (dotAt (L ++ [q]) x0 y0 w) = ((List.range (w * h)).map (dotAt L x0 y0 w)).set (j * w + i) 1 := by
 have hw : 0 < w := by omega
 refine List.ext_getElem? fun k => ?_
 by_cases hk : k < w * h
 ·rw [rget _ _ hk]
  by_cases ek : k = j * w + i
  ·rw [List.getElem?_set, if_pos ek.symm, if_pos (by simp; omega)]
   unfold dotAt
   have e1 : k % w = i := by rw [ek, Nat.mul_comm, Nat.mul_add_mod, Nat.mod_eq_of_lt hi]
   have e2 : k / w = j := by rw [ek, Nat.mul_comm, Nat.mul_add_div hw, Nat.div_eq_of_lt hi, Nat.add_zero]
   rw [e1, e2, if_pos (List.mem_append_right _ (by rw [e]; exact List.mem_singleton.mpr rfl))]
  ·rw [List.getElem?_set_ne (fun z => ek z.symm), rget _ _ hk]
   unfold dotAt
   have ne : ¬ (x0 + ((k % w : Nat) : Int), y0 + ((k / w : Nat) : Int)) = q := fun z => by
    rw [e, Prod.mk.injEq] at z
    have z1 : k % w = i := by omega
    have z2 : k / w = j := by omega
    apply ek
    rw [← z1, ← z2, Nat.mul_comm, Nat.div_add_mod]
   by_cases m : (x0 + ((k % w : Nat) : Int), y0 + ((k / w : Nat) : Int)) ∈ L
   ·rw [if_pos m, if_pos (List.mem_append_left _ m)]
   ·rw [if_neg m, if_neg fun z => (List.mem_append.mp z).elim m fun z => ne (List.mem_singleton.mp z)]
 ·rw [List.getElem?_eq_none (by simp; omega), List.getElem?_eq_none (by simp; omega)]
theorem dot_snoc_out {L : List (Int × Int)} {q : Int × Int} {x0 y0 : Int} {w h : Nat} (hout : ¬ (0 ≤ q.1 - x0 ∧ q.1 - x0 < (w : Int) ∧ 0 ≤ q.2 - y0 ∧ q.2 - y0 < (h : Int))) : (List.range (w * h)).map (dotAt (L ++ [q]) x0 y0 w) = (List.range (w * h)).map (dotAt L x0 y0 w) := by
 refine List.map_congr_left fun k hk => ?_
 have hk := List.mem_range.mp hk
 have hw : 0 < w := by
  rcases Nat.eq_zero_or_pos w with z | z
  ·subst z; simp at hk
  ·exact z
 unfold dotAt
 have ne : ¬ (x0 + ((k % w : Nat) : Int), y0 + ((k / w : Nat) : Int)) = q := fun z => by
  apply hout
  have h1 : k % w < w := Nat.mod_lt _ hw
  have h2 : k / w < h := Nat.div_lt_of_lt_mul hk
  rw [← z]
  generalize k % w = A at h1
  generalize k / w = D at h2
  refine ⟨?_, ?_, ?_, ?_⟩ <;> dsimp only <;> omega
 by_cases m : (x0 + ((k % w : Nat) : Int), y0 + ((k / w : Nat) : Int)) ∈ L
 ·rw [if_pos m, if_pos (List.mem_append_left _ m)]
 ·rw [if_neg m, if_neg fun z => (List.mem_append.mp z).elim m fun z => ne (List.mem_singleton.mp z)]
def penAt (t : Nat) (v : Kg35.Word) : Kg35.Pen := v.foldl (Kg35.Pen.step t) Kg35.pen
theorem penAt_snoc (t : Nat) (v : Kg35.Word) (c : Nat) : penAt t (v ++ [c]) = (penAt t v).step t c := by unfold penAt; rw [List.foldl_append]; rfl
theorem penAt_d {t : Nat} (ht : Turns t) (v : Kg35.Word) : (penAt t v).d < t ∧ ∀ z ∈ (penAt t v).back, z.2.2 < t := walk_d ht.pos v Kg35.pen ht.pos (fun _ z => (nomatch z))
theorem penAt_back {t : Nat} {v : Kg35.Word} {e : Nat} (h : bal 0 v = some e) : (penAt t v).back.length = e := by
 obtain ⟨m, l⟩ := Moved.walk (t := t) (w := v) (e := e) (Moved.start Kg35.pen) h
 have := m.back
 unfold penAt
 rw [this, List.length_append, List.length_map, l]; rfl
abbrev Kept3 := Addr × (Int × Int × Nat)
abbrev vk3 (ks : List Kept3) : List V := ks.map fun q => V.ref q.1
theorem vk3_app (ks : List Kept3) (q : Kept3) : vk3 ks ++ [V.ref q.1] = vk3 (ks ++ [q]) := by
 show _ = List.map _ (ks ++ [q]); rw [List.map_append]; rfl
section
variable {P : Program} {w : World} {K : PySem.W.Frag} {mg : Str → Option Value} {base : Heap}
def spDrawn (K : PySem.W.Frag) : Sp := fun vs H Q _ => ∃ (a : Addr) (t : Nat) (v : Kg35.Word), vs = [.ref a, .int (t : Int)] ∧ Turns t ∧ SqL K H a (vw v) ∧ bal 0 v = some 0 ∧ v.length ≤ 20000 ∧
 ∀ (H' : Hp) (d : Addr) (pts : List (Int × Int)), Same H H' → H' d = some (.dT (kT pts)) → (∀ z, z ∈ pts ↔ z ∈ (penAt t v).drawn) → pts.length ≤ 40000 → Q (.ref d) H'
abbrev st_drawn_points : Stmt := top 22
theorem sc_drawn_points : FnScope ["signs", "directions", "steps", "x", "y", "direction", "kept", "drawn", "sign", "taken", "draws"] ["signs", "directions"] (defScope st_drawn_points) := ⟨rfl, rfl, rfl, by decide +kernel, rfl, by decide +kernel, by decide +kernel⟩
theorem ok_drawn_points {f : Addr} {fd : FuncData} (F : Fun K "drawn_points" "drawn_points" st_drawn_points f fd) (T : Txt K mg) (D_is_step : Dfn P w K mg base "is_step" 2 ["sign"] (spBool isStep)) (D_steps_of : Dfn P w K mg base "steps_of" 1 ["directions"] (spSteps K))
  (D_turn_of : Dfn P w K mg base "turn_of" 1 ["sign", "directions"] spTurn) (D_is_capital : Dfn P w K mg base "is_capital" 1 ["byte"] (spBool Kg35.isBig)) : FnOk P w K mg base CX0 3 f fd ["signs", "directions"] (spDrawn K) := by
 refine F.ok sc_drawn_points (fun vs H Q E h => ?_) (fun cdv A outer s H vs Q E hr h => ?_)
 ·obtain ⟨a, t, v, rfl, _⟩ := h
  rfl
 ·obtain ⟨a, t, v, rfl, ht, hS, hbal, hlen, k⟩ := h
  have hu := hu_of hr
  refine ⟨_, (pss_cons (ps_set (i := 2) sc_drawn_points.nd rfl (Or.inl rfl) (pe_dfn D_steps_of (hr.mono (by decide)) rfl (pa_cons (pv 1) pa_nil)))
   (pss_cons (ps_set (i := 3) sc_drawn_points.nd rfl (Or.inl rfl) pe_int)
   (pss_cons (ps_set (i := 4) sc_drawn_points.nd rfl (Or.inl rfl) pe_int)
   (pss_cons (ps_set (i := 5) sc_drawn_points.nd rfl (Or.inl rfl) pe_int)
   (pss_cons (ps_set (i := 6) sc_drawn_points.nd rfl (Or.inl rfl) (pe_lst pa_nil))
   (pss_cons (ps_set (i := 7) sc_drawn_points.nd rfl (Or.inl rfl) pe_dnewT)
   (pss_cons (ps_for PassesOwn.never rfl (pi_list (pv 0)) (pg_name (i := 8) sc_drawn_points.nd rfl (Or.inl rfl))
   (pss_one (ps_if (pt_cmpR op_eq (pv 8) (pe_gi rfl T.OPENING) (nomark _))
   (pss_one (ps_expr (pe_bm PySem.F.plainAttrs_list PySem.F.slot_list_append PySem.F.type_list_append mt_append (pv 6) (pa_cons (pe_tup (pa_cons (pv 3) (pa_cons (pv 4) (pa_cons (pv 5) pa_nil)))) pa_nil))))
   (pss_one (ps_if (pt_cmpR op_eq (pv 8) (pe_gi rfl T.CLOSING) (nomark _))
   (pss_cons (ps_set (i := 9) sc_drawn_points.nd rfl (Or.inl rfl) (pe_bm0 PySem.F.plainAttrs_list PySem.F.slot_list_pop PySem.F.type_list_pop mt_pop (pv 6)))
   (pss_cons (ps_set (i := 3) sc_drawn_points.nd rfl (Or.inl rfl) (pe_ix ix_tup (pv 9) pe_int (fun _ _ => rfl)))
   (pss_cons (ps_set (i := 4) sc_drawn_points.nd rfl (Or.inl rfl) (pe_ix ix_tup (pv 9) pe_int (fun _ _ => rfl)))
   (pss_one (ps_set (i := 5) sc_drawn_points.nd rfl (Or.inl rfl) (pe_ix ix_tup (pv 9) pe_int (fun _ _ => rfl)))))))
   (pss_one (ps_if (pt_val (pe_dfn D_is_step (hr.mono (by decide)) rfl (pa_cons (pv 8) pa_nil)))
   (pss_cons (ps_set (i := 10) sc_drawn_points.nd rfl (Or.inl rfl) (pe_dfn D_is_capital (hr.mono (by decide)) rfl (pa_cons (pv 8) pa_nil)))
   (pss_cons (ps_if (pt_val (pv 10))
   (pss_one (ps_dput hu (pv 7) (pe_tup (pa_cons (pv 3) (pa_cons (pv 4) pa_nil))) pe_bl rfl))
   pss_nil)
   (pss_cons (ps_aug (i := 3) sc_drawn_points.nd rfl (Or.inl rfl) (pe_ix ix_tup (pe_ix ix_tup (pv 2) (pv 5) (fun _ _ => rfl)) pe_int (fun _ _ => rfl)) ip_add)
   (pss_cons (ps_aug (i := 4) sc_drawn_points.nd rfl (Or.inl rfl) (pe_ix ix_tup (pe_ix ix_tup (pv 2) (pv 5) (fun _ _ => rfl)) pe_int (fun _ _ => rfl)) ip_add)
   (pss_one (ps_if (pt_val (pv 10))
   (pss_one (ps_dput hu (pv 7) (pe_tup (pa_cons (pv 3) (pa_cons (pv 4) pa_nil))) pe_bl rfl))
   pss_nil))))))
   (pss_one (ps_set (i := 5) sc_drawn_points.nd rfl (Or.inl rfl) (pe_op op_mod (pe_op op_add (pv 5) (pe_dfn D_turn_of (hr.mono (by decide)) rfl (pa_cons (pv 8) (pa_cons (pv 1) pa_nil)))) (pv 1)))))))))))
   (pss_one (ps_ret (pv 7)))))))))), ?_⟩
  refine ⟨_, rfl, t, rfl, ht, fun M4 hM => ?_⟩
  obtain ⟨as, al, hT, ha⟩ := hM
  have stepAt : ∀ {dd : Nat}, dd < t → ∃ sa, (as.map V.ref)[dd]? = some (V.ref sa) ∧ ∀ H, SqT K H sa [.int (Kg35.way t dd).1, .int (Kg35.way t dd).2] := fun {dd} hdd => by
   have hl : dd < as.length := by rw [al, List.length_map, List.length_range]; exact hdd
   have e := List.getElem?_eq_getElem hl
   obtain ⟨pr, hpr, hsq⟩ := ha dd _ e
   rw [List.getElem?_map, List.getElem?_range hdd] at hpr
   have : Kg35.way t dd = pr := Option.some.inj hpr
   subst this
   exact ⟨_, by rw [List.getElem?_map, e]; rfl, hsq⟩
  refine ⟨Nat.zero_le _, fun KP hKP => fun DR hDR => ?_⟩
  have nKD : KP ≠ DR := fun z => by rw [← z, upd_same] at hDR; cases hDR
  have fDR : H DR = none := (Same.new hKP).free hDR
  have s1 : Same H (upd (upd H KP (.lst [])) DR (.dT [])) := (Same.new hKP).trans (.new hDR)
  refine ⟨_, rfl, a, rfl, ⟨_, s1.seq hS⟩, ?_⟩
  refine for_list (K := K) (a := a) (xs := vw v) (fun i σ H' => ∃ (v8 v9 v10 : Option V) (ks : List Kept3) (pts : List (Int × Int)), σ = [some (.ref a), some (.int (t : Int)), some (.ref M4), some (.int (penAt t (v.take i)).x), some (.int (penAt t (v.take i)).y), some (.int ((penAt t (v.take i)).d : Nat)), some (.ref KP), some (.ref DR), v8, v9, v10] ∧ Same H H' ∧ H' KP = some (.lst (vk3 ks)) ∧ ks.length ≤ i
    ∧ H' DR = some (.dT (kT pts)) ∧ pts.length ≤ 2 * i ∧ (∀ z, z ∈ pts ↔ z ∈ (penAt t (v.take i)).drawn)
    ∧ (∀ q ∈ ks, hide (fun b => b = KP ∨ b = DR) H' q.1 = some (.tup [V.int q.2.1, V.int q.2.2.1, V.int (q.2.2.2 : Nat)])) ∧ (ks.map (·.2)).reverse = (penAt t (v.take i)).back)
   ⟨none, none, none, [], [], rfl, s1, by rw [upd_ne nKD]; exact upd_same, Nat.zero_le _, upd_same, Nat.zero_le _, fun z => Iff.rfl, fun q h => (nomatch h), rfl⟩ (fun i σ H' _ ⟨_, _, _, _, _, _, s, _⟩ => s.seq hS) ?_ ?_
  ·rintro i x σ H' hi ⟨v8, v9, v10, ks, pts, rfl, s5, hKP5, hks, hDR5, hpl, hpts, hkept, hback⟩
   obtain ⟨c, hc, rfl⟩ := vw_get hi
   have hiv : i < v.length := (List.getElem?_eq_some_iff.mp hc).1
   obtain ⟨p, hp⟩ : ∃ p, p = penAt t (v.take i) := ⟨_, rfl⟩
   have epen : penAt t (v.take (i + 1)) = p.step t c := by rw [take_snoc' hc, penAt_snoc, hp]
   obtain ⟨hpd, hpb⟩ := penAt_d ht (v.take i)
   rw [← hp] at hpts hback hpd hpb ⊢
   rw [epen]
   refine ⟨_, rfl, rfl, _, rfl, ?_⟩
   refine iteD (fun h1 => ?_) (fun h1 => ?_)
   ·have h1 : c = 91 := by have := int_eq.mp h1; omega
    subst h1
    refine ⟨_, rfl, .inl ⟨rfl, _, SqL.of hKP5⟩, _, rfl, _, rfl, _, rfl, (by show 3 ≤ sizeLine; decide), fun tp htp => ?_⟩
    have u1 : Same H' (upd H' tp (.tup [V.int p.x, V.int p.y, V.int (p.d : Nat)])) := .new htp
    refine ⟨KP, _, _, rfl, rfl, u1 _ _ hKP5, lineLt1 (m := 20000) (by rw [List.length_map]; omega), ?_⟩
    have hh : ∀ {b o}, hide (fun b => b = KP ∨ b = DR) H' b = some o → hide (fun b => b = KP ∨ b = DR) (upd (upd H' tp (.tup [V.int p.x, V.int p.y, V.int (p.d : Nat)])) KP (.lst (vk3 ks ++ [V.ref tp]))) b = some o := fun {b o} e => by
     rw [hide_upd (B := fun b => b = KP ∨ b = DR) (.inl rfl)]; exact hide_same u1 _ _ e
    refine ⟨_, _, _, ks ++ [(tp, (p.x, p.y, p.d))], pts, rfl, fun b o e => ?_, ?_, ?_, ?_, by omega, hpts, fun q hq => ?_, ?_⟩
    ·rw [upd_ne (ne_of_none e hKP)]; exact u1 _ _ (s5 b o e)
    ·rw [upd_same, ← vk3_app]
    ·rw [List.length_append]; exact Nat.succ_le_succ hks
    ·rw [upd_ne nKD.symm]; exact u1 _ _ hDR5
    ·rcases List.mem_append.mp hq with hq | hq
     ·exact hh (hkept q hq)
     ·rw [List.mem_singleton.mp hq, hide_upd (B := fun b => b = KP ∨ b = DR) (.inl rfl)]
      exact hide_in (fun (z : tp = KP ∨ tp = DR) => z.elim (fun z => by rw [z, hKP5] at htp; cases htp) fun z => by rw [z, hDR5] at htp; cases htp) upd_same
    ·rw [List.map_append, List.reverse_append, hback]; rfl
   ·have h1 : ¬ c = 91 := fun z => h1 (by rw [z]; rfl)
    refine ⟨_, rfl, rfl, _, rfl, ?_⟩
    refine iteD (fun h2 => ?_) (fun h2 => ?_)
    ·have h2 : c = 93 := by have := int_eq.mp h2; omega
     subst h2
     have hpos : 0 < ks.length := by
      obtain ⟨e, he⟩ := bal_prefix hbal (i + 1)
      obtain ⟨e0, he0⟩ := bal_prefix hbal i
      have hbk := penAt_back (t := t) he0
      rw [take_snoc' hc, bal_append, he0] at he
      have he : bal e0 [93] = some e := he
      rw [bal_one, if_neg (by decide), if_pos rfl] at he
      have ne0 : e0 ≠ 0 := fun z => by rw [if_pos z] at he; cases he
      have := congrArg List.length hback
      rw [List.length_reverse, List.length_map, hp, hbk] at this
      omega
     rcases List.eq_nil_or_concat ks with z | ⟨ks0, q, z⟩
     ·rw [z] at hpos; simp at hpos
     rw [List.concat_eq_append] at z
     subst z
     have q1 := hkept q (List.mem_append_right _ (List.mem_singleton.mpr rfl))
     have elast : (vk3 (ks0 ++ [q]))[(vk3 (ks0 ++ [q])).length - 1]? = some (V.ref q.1) := by
      rw [List.length_map, List.length_append, List.getElem?_map]
      show ((ks0 ++ [q])[ks0.length + 1 - 1]?).map _ = _
      rw [Nat.add_sub_cancel, List.getElem?_append_right (Nat.le_refl _), Nat.sub_self]; rfl
     have edrop : (vk3 (ks0 ++ [q])).dropLast = vk3 ks0 := by
      show (List.map _ (ks0 ++ [q])).dropLast = _
      rw [List.map_append]
      show (_ ++ [_]).dropLast = _
      rw [List.dropLast_concat]
     have eb : p.back = q.2 :: (ks0.map (·.2)).reverse := by rw [← hback, List.map_append, List.reverse_append]; rfl
     rw [step_close eb]
     refine ⟨_, rfl, .inl ⟨rfl, _, SqL.of hKP5⟩, KP, _, _, rfl, rfl, hKP5, elast, ?_⟩
     rw [edrop]
     have hh : ∀ {b o}, hide (fun b => b = KP ∨ b = DR) H' b = some o → hide (fun b => b = KP ∨ b = DR) (upd H' KP (.lst (vk3 ks0))) b = some o := fun {b o} e => by rw [hide_upd (B := fun b => b = KP ∨ b = DR) (.inl rfl)]; exact e
     have q1' := hide_le _ _ (hh q1)
     refine ⟨_, rfl, q.1, _, _, _, rfl, rfl, SqT.of q1', at_of (j := 0) rfl rfl, ?_⟩
     refine ⟨_, rfl, q.1, _, _, _, rfl, rfl, SqT.of q1', at_of (j := 1) rfl rfl, ?_⟩
     refine ⟨_, rfl, q.1, _, _, _, rfl, rfl, SqT.of q1', at_of (j := 2) rfl rfl, ?_⟩
     refine ⟨_, _, _, ks0, pts, rfl, fun b o e => ?_, upd_same, ?_, ?_, by omega, hpts, fun q' hq' => hh (hkept q' (List.mem_append_left _ hq')), rfl⟩
     ·rw [upd_ne (ne_of_none e hKP)]; exact s5 b o e
     ·rw [List.length_append] at hks; exact Nat.le_trans (Nat.le_succ _) (Nat.le_trans hks (Nat.le_succ _))
     ·rw [upd_ne nKD.symm]; exact hDR5
    ·have h2 : ¬ c = 93 := fun z => h2 (by rw [z]; rfl)
     refine ⟨_, rfl, c, rfl, _, rfl, ?_⟩
     refine iteB (fun h3 => ?_) (fun h3 => ?_)
     ·obtain ⟨g1, g2, g3, g4, _, g6⟩ := step_go (t := t) (p := p) h3
      obtain ⟨sa, hsa, hsq⟩ := stepAt hpd
      have put : ∀ (H6 : Hp) (pt : List (Int × Int)) (q : Int × Int) (tp : Addr), Same H H6 → H6 KP = some (.lst (vk3 ks)) → H6 DR = some (.dT (kT pt)) → pt.length ≤ 2 * i + 1 → (∀ q ∈ ks, hide (fun b => b = KP ∨ b = DR) H6 q.1 = some (.tup [V.int q.2.1, V.int q.2.2.1, V.int (q.2.2.2 : Nat)])) → H6 tp = none →
        ∃ (H7 : Hp) (pt' : List (Int × Int)), DPut (upd H6 tp (.tup [V.int q.1, V.int q.2])) DR (V.ref tp) (V.bl true) H7 ∧ Same H H7 ∧ H7 KP = some (.lst (vk3 ks)) ∧ H7 DR = some (.dT (kT pt')) ∧ pt'.length ≤ pt.length + 1 ∧ (∀ z, z ∈ pt' ↔ z ∈ pt ∨ z = q) ∧ ∀ q ∈ ks, hide (fun b => b = KP ∨ b = DR) H7 q.1 = some (.tup [V.int q.2.1, V.int q.2.2.1, V.int (q.2.2.2 : Nat)]) := fun H6 pt q tp sm hK hDD hl hkp htp => by
       obtain ⟨pt', e1, e2, e3⟩ := put_kT pt q
       have u1 : Same H6 (upd H6 tp (.tup [V.int q.1, V.int q.2])) := .new htp
       have dp := DPut.t (H := upd H6 tp (.tup [V.int q.1, V.int q.2])) (a := DR) (b := tp) (kvs := kT pt) (k := kP q) (v := V.bl true) (u1 _ _ hDD) upd_same (lineLt1 (m := 50000) (by rw [List.length_map]; omega))
       rw [e1] at dp
       refine ⟨_, pt', dp, fun b o e => ?_, ?_, upd_same, e3, e2, fun q' hq' => ?_⟩
       ·rw [upd_ne (ne_of_none e fDR)]; exact u1 _ _ (sm b o e)
       ·rw [upd_ne nKD]; exact u1 _ _ hK
       ·rw [hide_upd (B := fun b => b = KP ∨ b = DR) (.inr rfl)]; exact hide_same u1 _ _ (hkp q' hq')
      refine ⟨_, rfl, c, rfl, ?_⟩
      refine ⟨_, rfl, _, rfl, ?_⟩
      refine iteB (fun h4 => ?_) (fun h4 => ?_)
      ·refine ⟨_, rfl, _, rfl, _, rfl, (by show 2 ≤ sizeLine; decide), fun tp htp => ?_⟩
       obtain ⟨H7, pt', dp, a1, a2, a3, a4, a5, a6⟩ := put H' pts (p.x, p.y) tp s5 hKP5 hDR5 (by omega) hkept htp
       refine ⟨DR, H7, rfl, dp, ?_⟩
       refine ⟨_, rfl, _, rfl, _, rfl, M4, _, _, _, rfl, rfl, hT _, at_of (j := p.d) rfl hsa, sa, _, _, _, rfl, rfl, hsq _, at_of (j := 0) rfl rfl, _, _, rfl, rfl, ?_⟩
       refine ⟨_, rfl, _, rfl, _, rfl, M4, _, _, _, rfl, rfl, hT _, at_of (j := p.d) rfl hsa, sa, _, _, _, rfl, rfl, hsq _, at_of (j := 1) rfl rfl, _, _, rfl, rfl, ?_⟩
       refine ⟨_, rfl, _, rfl, ?_⟩
       refine iteB (fun _ => ?_) (fun z => by rw [h4] at z; cases z)
       refine ⟨_, rfl, _, rfl, _, rfl, (by show 2 ≤ sizeLine; decide), fun tq htq => ?_⟩
       obtain ⟨H8, pt2, dp2, b1, b2, b3, b4, b5, b6⟩ := put H7 pt' (p.x + (Kg35.way t p.d).1, p.y + (Kg35.way t p.d).2) tq a1 a2 a3 (by omega) a6 htq
       refine ⟨DR, H8, rfl, dp2, ?_⟩
       refine ⟨some (.int (c : Int)), v9, some (.bl (Kg35.isBig c)), ks, pt2, ?_, b1, b2, Nat.le_trans hks (Nat.le_succ _), b3, by omega, fun z => ?_, b6, by rw [g4]; exact hback⟩
       ·rw [g1, g2, g3]; rfl
       ·rw [g6, if_pos h4, b5, a5, hpts, List.mem_cons, List.mem_cons]
        constructor
        ·rintro ((z | z) | z)
         ·exact .inr (.inr z)
         ·exact .inr (.inl z)
         ·exact .inl z
        ·rintro (z | z | z)
         ·exact .inr z
         ·exact .inl (.inr z)
         ·exact .inl (.inl z)
      ·refine ⟨_, rfl, _, rfl, _, rfl, M4, _, _, _, rfl, rfl, hT _, at_of (j := p.d) rfl hsa, sa, _, _, _, rfl, rfl, hsq _, at_of (j := 0) rfl rfl, _, _, rfl, rfl, ?_⟩
       refine ⟨_, rfl, _, rfl, _, rfl, M4, _, _, _, rfl, rfl, hT _, at_of (j := p.d) rfl hsa, sa, _, _, _, rfl, rfl, hsq _, at_of (j := 1) rfl rfl, _, _, rfl, rfl, ?_⟩
       refine ⟨_, rfl, _, rfl, ?_⟩
       refine iteB (fun z => by rw [h4] at z; cases z) (fun _ => ?_)
       refine ⟨some (.int (c : Int)), v9, some (.bl (Kg35.isBig c)), ks, pts, ?_, s5, hKP5, Nat.le_trans hks (Nat.le_succ _), hDR5, by omega, fun z => ?_, hkept, by rw [g4]; exact hback⟩
       ·rw [g1, g2, g3]; rfl
       ·rw [g6, if_neg (by rw [h4]; exact Bool.false_ne_true)]; exact hpts z
     ·rw [step_stay hpd ht h3 h1 h2]
      refine ⟨_, rfl, _, rfl, _, rfl, c, t, rfl, ht, _, _, rfl, rfl, _, rfl, _, _, rfl, rfl, by have := ht.pos; omega, ?_⟩
      have eT : ((p.d : Int) + ((turnBy t c : Nat) : Int)) % (t : Int) = (((p.d + turnBy t c) % t : Nat) : Int) := by rw [Int.natCast_emod, Int.natCast_add]
      dsimp only
      rw [eT]
      exact ⟨_, _, _, ks, pts, rfl, s5, hKP5, Nat.le_trans hks (Nat.le_succ _), hDR5, by omega, hpts, hkept, hback⟩
  ·rintro σ H' ⟨v8, v9, v10, ks, pts, rfl, s5, hKP5, hks, hDR5, hpl, hpts, hkept, hback⟩
   rw [List.length_map] at hpl
   rw [List.length_map, List.take_length] at hpts
   exact ⟨_, rfl, k H' DR pts s5 hDR5 hpts (by omega)⟩
def spPicOf : Sp := fun vs H Q _ => ∃ (d : Addr) (pts : List (Int × Int)) (x y : Int) (wd ht : Nat), vs = [.ref d, .int x, .int y, .int (wd : Int), .int (ht : Int)] ∧ H d = some (.dT (kT pts)) ∧ 1 ≤ wd ∧ wd ≤ 1024 ∧ 1 ≤ ht ∧ ht ≤ 1024 ∧
 ∀ (H' : Hp) (r : Addr), Same H H' → H r = none → H' r = some (.lst (vi ((List.range (wd * ht)).map (dotAt pts x y wd)))) → Q (.ref r) H'
abbrev st_picture_of : Stmt := top 23
theorem sc_picture_of : FnScope ["points", "x", "y", "width", "height", "row", "point", "across", "along"] ["points", "x", "y", "width", "height"] (defScope st_picture_of) := ⟨rfl, rfl, rfl, by decide +kernel, rfl, by decide +kernel, by decide +kernel⟩
theorem ok_picture_of {f : Addr} {fd : FuncData} (F : Fun K "picture_of" "picture_of" st_picture_of f fd) : FnOk P w K mg base CX0 1 f fd ["points", "x", "y", "width", "height"] spPicOf := by
 refine F.ok sc_picture_of (fun vs H Q E h => ?_) (fun cdv A outer s H vs Q E hr h => ?_)
 ·obtain ⟨d, pts, x, y, wd, ht, rfl, _⟩ := h
  rfl
 ·obtain ⟨d, pts, x, y, wd, ht, rfl, hd, w1, w2, t1, t2, k⟩ := h
  refine ⟨_, (pss_cons (ps_set (i := 5) sc_picture_of.nd rfl (Or.inl rfl) (pe_op op_rep (pe_lst (pa_cons pe_int pa_nil)) (pe_op op_mul (pv 3) (pv 4))))
   (pss_cons (ps_lock (ps_for PassesOwn.never rfl (pi_keys (pv 0)) (pg_name (i := 6) sc_picture_of.nd rfl (Or.inl rfl))
   (pss_cons (ps_set (i := 7) sc_picture_of.nd rfl (Or.inl rfl) (pe_op op_sub (pe_ix ix_tup (pv 6) pe_int (fun _ _ => rfl)) (pv 1)))
   (pss_cons (ps_set (i := 8) sc_picture_of.nd rfl (Or.inl rfl) (pe_op op_sub (pe_ix ix_tup (pv 6) pe_int (fun _ _ => rfl)) (pv 2)))
   (pss_one (ps_if (PW.pt (pw_and (pt_chain op_le op_lt pe_int (pv 7) (pv 3)) (pw_and1 (pt_chain op_le op_lt pe_int (pv 8) (pv 4)))))
   (pss_one (ps_asg pe_int (pg_sub (pv 5) (pe_op op_add (pe_op op_mul (pv 8) (pv 3)) (pv 7)) set_list)))
   pss_nil))))))
   (pss_one (ps_ret (pv 5))))), ?_⟩
  have hmul : wd * ht ≤ 1048576 := Nat.mul_le_mul w2 t2
  have emul : (wd : Int) * (ht : Int) = ((wd * ht : Nat) : Int) := by rw [Int.natCast_mul]
  refine ⟨(by show 1 ≤ sizeLine; decide), fun l0 hl0 => ⟨_, rfl, _, rfl, _, _, rfl, rfl, .inl ⟨by omega, by omega⟩, ?_⟩⟩
  dsimp only
  rw [emul]
  refine ⟨l0, _, _, rfl, rfl, upd_same, by omega, by omega, ?_, fun r hr' => ?_⟩
  ·rw [Int.toNat_natCast]; exact Nat.le_of_lt (lineLt1 (m := 1048576) (by show 1 * (wd * ht) ≤ 1048576; omega))
  rw [Int.toNat_natCast, vi_rep]
  have s0 : Same H (upd H l0 (.lst [V.int 0])) := .new hl0
  have s1 : Same H (upd (upd H l0 (.lst [V.int 0])) r (.lst (vi (List.replicate (wd * ht) 0)))) := s0.trans (.new hr')
  have fr : H r = none := s0.free hr'
  have hr1 : upd (upd H l0 (.lst [V.int 0])) r (.lst (vi (List.replicate (wd * ht) 0))) r = some (.lst (vi (List.replicate (wd * ht) 0))) := upd_same
  generalize upd (upd H l0 (.lst [V.int 0])) r (.lst (vi (List.replicate (wd * ht) 0))) = H1 at s1 hr1
  have hd1 := s1 _ _ hd
  have ndr : d ≠ r := ne_of_none hd fr
  refine ⟨d, _, hd1, trivial, fun od => ?_⟩
  have e0 : (List.replicate (wd * ht) (0 : Int)) = (List.range (wd * ht)).map (dotAt (pts.take 0) x y wd) := by
   rw [show dotAt (pts.take 0) x y wd = fun _ => 0 from funext fun k => if_neg (fun z => (nomatch z)), List.map_const', List.length_range]
  refine ⟨_, rfl, d, od, rfl, .inr ⟨_, upd_same, ?_⟩⟩
  refine for_keysT (d := d) (o := od) (kvs := kT pts) (fun i σ H' => ∃ v6 v7 v8 : Option V, σ = [some (.ref d), some (.int x), some (.int y), some (.int (wd : Int)), some (.int (ht : Int)), some (.ref r), v6, v7, v8] ∧ But r (upd H1 d (.frz od (.dT (kT pts)))) H' ∧ H' r = some (.lst (vi ((List.range (wd * ht)).map (dotAt (pts.take i) x y wd)))))
   ⟨none, none, none, rfl, fun b o e _ => e, by rw [upd_ne ndr.symm, ← e0]; exact hr1⟩ (fun i σ H' _ ⟨_, _, _, _, b5, _⟩ => b5 d _ upd_same ndr) ?_ ?_
  ·rintro i key vv Tp σ H' hi hT ⟨v6, v7, v8, rfl, b5, hr5⟩
   obtain ⟨q, hq, ek⟩ : ∃ q, pts[i]? = some q ∧ (kP q, V.bl true) = (key, vv) := by
    rw [List.getElem?_map] at hi
    cases e : pts[i]? with
    | none => rw [e] at hi; cases hi
    | some z => rw [e] at hi; exact ⟨z, rfl, Option.some.inj hi⟩
   rw [Prod.mk.injEq] at ek
   obtain ⟨ek, _⟩ := ek
   subst ek
   have hT : H' Tp = some (.tup [V.int q.1, V.int q.2]) := hT
   refine ⟨_, rfl, Tp, _, _, _, rfl, rfl, SqT.of hT, at_of (j := 0) rfl rfl, _, rfl, _, _, rfl, rfl, ?_⟩
   refine ⟨_, rfl, Tp, _, _, _, rfl, rfl, SqT.of hT, at_of (j := 1) rfl rfl, _, rfl, _, _, rfl, rfl, ?_⟩
   have out : ¬ (0 ≤ q.1 - x ∧ q.1 - x < (wd : Int) ∧ 0 ≤ q.2 - y ∧ q.2 - y < (ht : Int)) → H' r = some (.lst (vi ((List.range (wd * ht)).map (dotAt (pts.take (i + 1)) x y wd)))) := fun z => by rw [take_snoc' hq, dot_snoc_out z]; exact hr5
   refine ⟨_, rfl, _, _, rfl, rfl, _, rfl, ?_⟩
   refine iteD (fun h1 => ?_) (fun h1 => ?_)
   ·have h1 : 0 ≤ q.1 - x := h1
    refine ⟨_, rfl, _, _, rfl, rfl, _, rfl, ?_⟩
    refine iteD (fun h2 => ?_) (fun h2 => ?_)
    ·have h2 : q.1 - x < (wd : Int) := h2
     refine ⟨_, rfl, _, _, rfl, rfl, _, rfl, ?_⟩
     refine iteD (fun h3 => ?_) (fun h3 => ?_)
     ·have h3 : 0 ≤ q.2 - y := h3
      refine ⟨_, rfl, _, _, rfl, rfl, _, rfl, ?_⟩
      refine iteD (fun h4 => ?_) (fun h4 => ?_)
      ·have h4 : q.2 - y < (ht : Int) := h4
       obtain ⟨ii, eii⟩ : ∃ ii : Nat, q.1 - x = (ii : Int) := ⟨(q.1 - x).toNat, by omega⟩
       obtain ⟨jj, ejj⟩ : ∃ jj : Nat, q.2 - y = (jj : Int) := ⟨(q.2 - y).toNat, by omega⟩
       have hii : ii < wd := by omega
       have hjj : jj < ht := by omega
       have eq : q = (x + (ii : Int), y + (jj : Int)) := Prod.ext (by show q.1 = x + (ii : Int); omega) (by show q.2 = y + (jj : Int); omega)
       have hj : jj * wd + ii < wd * ht := by
        have h5 : (jj + 1) * wd ≤ ht * wd := Nat.mul_le_mul_right _ hjj
        rw [Nat.succ_mul] at h5
        rw [Nat.mul_comm wd ht]; omega
       have eix : ixN (vi ((List.range (wd * ht)).map (dotAt (pts.take i) x y wd))).length ((q.2 - y) * (wd : Int) + (q.1 - x)) = some (jj * wd + ii) := by
        rw [eii, ejj, List.length_map, List.length_map, List.length_range]
        have e : (jj : Int) * (wd : Int) + (ii : Int) = ((jj * wd + ii : Nat) : Int) := by rw [Int.natCast_add, Int.natCast_mul]
        rw [e]
        unfold ixN
        rw [if_pos (by omega), if_pos (by omega), Int.toNat_natCast]
       refine ⟨_, rfl, _, rfl, _, rfl, _, _, rfl, rfl, .inr ⟨by omega, by omega⟩, _, rfl, _, _, rfl, rfl, r, _, _, jj * wd + ii, rfl, rfl, hr5, eix, ?_⟩
       refine ⟨_, _, _, rfl, fun b o e n => by rw [upd_ne n]; exact b5 b o e n, ?_⟩
       rw [upd_same, take_snoc' hq, dot_snoc_in hii hjj eq, ← List.map_set]
      ·exact ⟨_, _, _, rfl, b5, out fun z => h4 z.2.2.2⟩
     ·exact ⟨_, rfl, _, _, _, rfl, b5, out fun z => h3 z.2.2.1⟩
    ·exact ⟨_, _, _, rfl, b5, out fun z => h2 z.2.1⟩
   ·exact ⟨_, rfl, _, _, _, rfl, b5, out fun z => h1 z.1⟩
  ·rintro σ H' ⟨v6, v7, v8, rfl, b5, hr5⟩
   rw [List.length_map, List.take_length] at hr5
   refine ⟨b5 d _ upd_same ndr, _, rfl, k _ r (fun b o e => ?_) fr (by rw [upd_ne ndr.symm]; exact hr5)⟩
   by_cases z : b = d
   ·subst z; rw [hd] at e; cases e; exact upd_same
   ·rw [upd_ne z]
    exact b5 b o (by rw [upd_ne z]; exact s1 b o e) (ne_of_none e fr)
end
end Gw
end
section
namespace Gw
open PySem PySem.Spec PyProof.Rows L2
def of_ (t : Int) (fw R lt lp lw : Addr) : List (Str × V) := putF "ways" (.ref lw) (putF "pieces" (.ref lp) (putF "tallies" (.ref lt) (putF "rules" (.ref R) (putF "first_word" (.ref fw) (putF "directions" (.int t) [])))))
section
variable (t : Int) (fw R lt lp lw : Addr)
theorem of_ways : (of_ t fw R lt lp lw).lookup ("ways" : Str) = some (.ref lw) := by unfold of_; rw [lookup_putF, if_pos rfl]
theorem of_pieces : (of_ t fw R lt lp lw).lookup ("pieces" : Str) = some (.ref lp) := by unfold of_; rw [lookup_putF, if_neg (by decide +kernel), lookup_putF, if_pos rfl]
theorem of_tallies : (of_ t fw R lt lp lw).lookup ("tallies" : Str) = some (.ref lt) := by unfold of_; rw [lookup_putF, if_neg (by decide +kernel), lookup_putF, if_neg (by decide +kernel), lookup_putF, if_pos rfl]
theorem of_rules : (of_ t fw R lt lp lw).lookup ("rules" : Str) = some (.ref R) := by unfold of_; rw [lookup_putF, if_neg (by decide +kernel), lookup_putF, if_neg (by decide +kernel), lookup_putF, if_neg (by decide +kernel), lookup_putF, if_pos rfl]
theorem of_first : (of_ t fw R lt lp lw).lookup ("first_word" : Str) = some (.ref fw) := by unfold of_; rw [lookup_putF, if_neg (by decide +kernel), lookup_putF, if_neg (by decide +kernel), lookup_putF, if_neg (by decide +kernel), lookup_putF, if_neg (by decide +kernel), lookup_putF, if_pos rfl]
theorem of_dirs : (of_ t fw R lt lp lw).lookup ("directions" : Str) = some (.int t) := by unfold of_; rw [lookup_putF, if_neg (by decide +kernel), lookup_putF, if_neg (by decide +kernel), lookup_putF, if_neg (by decide +kernel), lookup_putF, if_neg (by decide +kernel), lookup_putF, if_neg (by decide +kernel), lookup_putF, if_pos rfl]
theorem of_no {m : Str} (h : ¬ m = "ways" ∧ ¬ m = "pieces" ∧ ¬ m = "tallies" ∧ ¬ m = "rules" ∧ ¬ m = "first_word" ∧ ¬ m = "directions") : (of_ t fw R lt lp lw).lookup m = none := by
 unfold of_; rw [lookup_putF, if_neg h.1, lookup_putF, if_neg h.2.1, lookup_putF, if_neg h.2.2.1, lookup_putF, if_neg h.2.2.2.1, lookup_putF, if_neg h.2.2.2.2.1, lookup_putF, if_neg h.2.2.2.2.2]; rfl
end
structure TxtO (K : PySem.W.Frag) (CO : Addr) : Prop where
 cl : Cls K CO
 n1 : NoAttr K CO "directions"
 n2 : NoAttr K CO "first_word"
 n3 : NoAttr K CO "rules"
 n4 : NoAttr K CO "tallies"
 n5 : NoAttr K CO "pieces"
 n6 : NoAttr K CO "ways"
def Levels (Ob : Nat → Hp → Addr → Kg35.Word → Prop) (S : Nat → Prop) (G : Hp) (ds : List Addr) (x : Kg35.Rules) : Prop := 1 ≤ ds.length ∧ ds.length ≤ 65 ∧ ∀ (j : Nat) (d : Addr), ds[j]? = some d → ODict (Ob (j + 1)) S G d (5000 * (j + 1)) (fun c => Kg35.grown x j [c])
structure Core (CP CW CO : Addr) (G : Hp) (wd : Addr) (x : Kg35.Rules) (dw fw R lt lp lw : Addr) (as ds dps dws : List Addr) : Prop where
 wd : G wd = some (.ins CO dw (of_ (x.turns : Nat) fw R lt lp lw))
 fw : G fw = some (.lst (vw x.first))
 ru : Refs G R as x.rules WordAt
 ta : TalsAt G lt ds x
 full : ds.length = 65 ∨ 2 ^ 62 ≤ (x.word ds.length).length
 ps : Levels (PieceAt CP) isS G dps x
 ws : Levels (fun _ => WayAt CW x.turns) isW G dws x
 rp : R ∉ dps
 rw_ : R ∉ dws
 g : Good x
 nd : (x.rules.map (·.1)).Nodup
 len : x.rules.length ≤ 5000
theorem Levels.mono {Ob : Nat → Hp → Addr → Kg35.Word → Prop} {S : Nat → Prop} {G G' : Hp} {ds : List Addr} {x : Kg35.Rules} (l : Levels Ob S G ds x) (s : Same G G') (ob : ∀ k a v, Ob k G a v → Ob k G' a v) : Levels Ob S G' ds x :=
 ⟨l.1, l.2.1, fun j d h => (l.2.2 j d h).mono s fun a v => ob _ a v⟩
theorem Refs.same {H H' : Hp} {D : Addr} {as : List Addr} {m : List (Nat × Kg35.Word)} (r : Refs H D as m WordAt) (s : Same H H') : Refs H' D as m WordAt := r.mono (s _ _ r.dict) fun a _ v hv => s _ _ hv
theorem Core.mono {CP CW CO : Addr} {G G' : Hp} {wd : Addr} {x : Kg35.Rules} {dw fw R lt lp lw : Addr} {as ds dps dws : List Addr} (c : Core CP CW CO G wd x dw fw R lt lp lw as ds dps dws) (s : Same G G') : Core CP CW CO G' wd x dw fw R lt lp lw as ds dps dws :=
 ⟨s _ _ c.wd, s _ _ c.fw, c.ru.same s, c.ta.mono s, c.full, c.ps.mono s (fun k a v h => h.mono s), c.ws.mono s (fun k a v h => h.mono s), c.rp, c.rw_, c.g, c.nd, c.len⟩
def WordsAt (CP CW CO : Addr) (B : Addr → Prop) (H : Hp) (wd : Addr) (x : Kg35.Rules) : Prop := ∃ (dw fw R lt lp lw : Addr) (as ds dps dws : List Addr), lp ≠ lw ∧ ¬ B lp ∧ ¬ B lw ∧ H lp = some (.lst (dps.map V.ref)) ∧ H lw = some (.lst (dws.map V.ref)) ∧
 Core CP CW CO (hide (fun b => B b ∨ b = lp ∨ b = lw) H) wd x dw fw R lt lp lw as ds dps dws
theorem WordsAt.mono {CP CW CO : Addr} {B : Addr → Prop} {H H' : Hp} {wd : Addr} {x : Kg35.Rules} (a : WordsAt CP CW CO B H wd x) (s : Same H H') : WordsAt CP CW CO B H' wd x := by
 obtain ⟨dw, fw, R, lt, lp, lw, as, ds, dps, dws, h1, h2, h3, h4, h5, c⟩ := a
 exact ⟨dw, fw, R, lt, lp, lw, as, ds, dps, dws, h1, h2, h3, s _ _ h4, s _ _ h5, c.mono (hide_same s)⟩
theorem WordsAt.upd {CP CW CO : Addr} {B : Addr → Prop} {H : Hp} {wd b : Addr} {o : HO} {x : Kg35.Rules} (a : WordsAt CP CW CO B H wd x) (hb : B b) : WordsAt CP CW CO B (L2.upd H b o) wd x := by
 obtain ⟨dw, fw, R, lt, lp, lw, as, ds, dps, dws, h1, h2, h3, h4, h5, c⟩ := a
 refine ⟨dw, fw, R, lt, lp, lw, as, ds, dps, dws, h1, h2, h3, by rw [upd_ne fun (z : lp = b) => h2 (by rw [z]; exact hb)]; exact h4, by rw [upd_ne fun (z : lw = b) => h3 (by rw [z]; exact hb)]; exact h5, ?_⟩
 rw [hide_upd (.inl hb)]; exact c
theorem fit_len {G : Hp} {l : Addr} {ds : List Addr} {x : Kg35.Rules} (t : TalsAt G l ds x) (e : ds.length = 65 ∨ 2 ^ 62 ≤ (x.word ds.length).length) (g : Good x) {n : Nat} (hn : n ≤ 64) : x.allFit n = true ↔ n < ds.length := by
 rw [allFit_iff g]
 constructor
 ·intro h
  rcases e with e | e
  ·omega
  ·by_cases q : ds.length ≤ n
   ·have := h ds.length q; omega
   ·omega
 ·intro h k hk
  exact t.fit k (by omega)
theorem grown_next (x : Kg35.Rules) (j c : Nat) : (x.of c).flatMap (fun c => Kg35.grown x j [c]) = Kg35.grown x (j + 1) [c] := by rw [grown_succ_one, ← grown_flat]
theorem word_flat (x : Kg35.Rules) (n : Nat) : x.first.flatMap (fun c => Kg35.grown x n [c]) = x.word n := by rw [word_eq, ← grown_flat]
theorem Levels.snoc {Ob : Nat → Hp → Addr → Kg35.Word → Prop} {S : Nat → Prop} {G : Hp} {ds : List Addr} {d : Addr} {x : Kg35.Rules} (l : Levels Ob S G ds x) (h : ds.length < 65) (o : ODict (Ob (ds.length + 1)) S G d (5000 * ds.length + 5000) (fun c => (x.of c).flatMap fun c => Kg35.grown x (ds.length - 1) [c])) : Levels Ob S G (ds ++ [d]) x := by
 obtain ⟨l1, l2, l3⟩ := l
 refine ⟨by rw [List.length_append]; exact Nat.le_add_left _ _, by rw [List.length_append]; exact h, fun j e he => ?_⟩
 by_cases hj : j < ds.length
 ·rw [List.getElem?_append_left hj] at he; exact l3 j e he
 ·rw [List.getElem?_append_right (by omega)] at he
  have e0 : j - ds.length = 0 := by
   have := (List.getElem?_eq_some_iff.mp he).1
   simp at this; omega
  rw [e0] at he
  have ee : d = e := by simpa using he
  subst ee
  have ej : j = ds.length := by omega
  subst ej
  have ef : (fun c => (x.of c).flatMap fun c => Kg35.grown x (ds.length - 1) [c]) = fun c => Kg35.grown x ds.length [c] := by
   funext c
   rw [grown_next, Nat.sub_add_cancel l1]
  rw [ef] at o
  exact o
section
variable {P : Program} {w : World} {K : PySem.W.Frag} {mg : Str → Option Value} {base : Heap} {CP CW CO : Addr}
def spWordsInit (CP CW CO : Addr) : Sp := fun vs H Q _ => ∃ (B : Addr → Prop) (x : Kg35.Rules) (wd dw fw R : Addr) (as : List Addr), vs = [.ref wd, .int (x.turns : Nat), .ref fw, .ref R] ∧ Taken B H ∧ ¬ B wd ∧ H wd = some (.ins CO dw []) ∧ hide (fun b => B b ∨ b = wd) H fw = some (.lst (vw x.first)) ∧ Refs (hide (fun b => B b ∨ b = wd) H) R as x.rules WordAt ∧ Good x ∧ (x.rules.map (·.1)).Nodup ∧ x.rules.length ≤ 5000 ∧
 ∀ H' : Hp, But wd H H' → WordsAt CP CW CO B H' wd x → Q .non H'
abbrev st_Words___init__ : Stmt := inClass (top 60) 0
theorem sc_Words___init__ : FnScope ["self", "directions", "first_word", "rules"] ["self", "directions", "first_word", "rules"] (defScope st_Words___init__) := ⟨rfl, rfl, rfl, by decide +kernel, rfl, by decide +kernel, by decide +kernel⟩
theorem ok_Words_init {f : Addr} {fd : FuncData} (F : Fun K "__init__" "Words.__init__" st_Words___init__ f fd) (TO : TxtO K CO) (D_tallies_of : Dfn P w K mg base "tallies_of" 3 ["first_word", "rules"] (spTallies K)) (D_pieces_of_signs : Dfn P w K mg base "pieces_of_signs" 5 [] (spPieces0 CP)) (D_ways_of_signs : Dfn P w K mg base "ways_of_signs" 5 ["directions"] (spWays0 CW)) :
  FnOk P w K mg base CX0 6 f fd ["self", "directions", "first_word", "rules"] (spWordsInit CP CW CO) := by
 refine F.ok sc_Words___init__ (fun vs H Q E h => ?_) (fun cdv A outer s H vs Q E hr h => ?_)
 ·obtain ⟨B, x, wd, dw, fw, R, as, rfl, _⟩ := h
  rfl
 ·obtain ⟨B, x, wd, dw, fw, R, as, rfl, tB, nB, hwd, hfw, hR, g, nd, hlen, k⟩ := h
  refine ⟨_, (pss_cons (ps_fld (pv 0) (pv 1) rfl)
   (pss_cons (ps_fld (pv 0) (pv 2) rfl)
   (pss_cons (ps_fld (pv 0) (pv 3) rfl)
   (pss_cons (ps_fld (pv 0) (pe_dfn D_tallies_of (hr.mono (by decide)) rfl (pa_cons (pv 2) (pa_cons (pv 3) pa_nil))) rfl)
   (pss_cons (ps_fld (pv 0) (pe_lst (pa_cons (pe_dfn0 D_pieces_of_signs (hr.mono (by decide)) rfl) pa_nil)) rfl)
   (pss_one (ps_fld (pv 0) (pe_lst (pa_cons (pe_dfn D_ways_of_signs (hr.mono (by decide)) rfl (pa_cons (pv 1) pa_nil)) pa_nil)) rfl))))))), ?_⟩
  refine ⟨_, rfl, _, rfl, wd, CO, dw, _, rfl, hwd, TO.cl, TO.n1, (by show 0 < 1000; decide), ?_⟩
  refine ⟨_, rfl, _, rfl, wd, CO, dw, _, rfl, upd_same, TO.cl, TO.n2, (by show 1 < 1000; decide), ?_⟩
  refine ⟨_, rfl, _, rfl, wd, CO, dw, _, rfl, upd_same, TO.cl, TO.n3, (by show 2 < 1000; decide), ?_⟩
  rw [upd_upd, upd_upd]
  have b3 : But wd H (upd H wd (.ins CO dw (putF "rules" (.ref R) (putF "first_word" (.ref fw) (putF "directions" (.int (x.turns : Nat)) []))))) := .upd
  have h3 : upd H wd (.ins CO dw (putF "rules" (.ref R) (putF "first_word" (.ref fw) (putF "directions" (.int (x.turns : Nat)) [])))) wd = _ := upd_same
  generalize upd H wd (.ins CO dw (putF "rules" (.ref R) (putF "first_word" (.ref fw) (putF "directions" (.int (x.turns : Nat)) [])))) = H3 at b3 h3
  have hb : ∀ {H' : Hp}, But wd H H' → Same (hide (fun b => B b ∨ b = wd) H) (hide (fun b => B b ∨ b = wd) H') := fun {H'} q => hide_but fun b o e n => q b o e fun z => n (.inr z)
  refine ⟨_, rfl, _, rfl, fw, R, as, x, rfl, hide_le _ _ (hb b3 _ _ hfw), (hR.same (hb b3)).same hide_le, g, nd, hlen, fun H4 lt ds s4 ta full fr => ?_⟩
  have b4 : But wd H H4 := b3.trans (s4.but wd)
  have h4 := s4 _ _ h3
  refine ⟨_, rfl, wd, CO, dw, _, rfl, h4, TO.cl, TO.n4, (by show 3 < 1000; decide), ?_⟩
  have b5 : But wd H4 (upd H4 wd (.ins CO dw (putF "tallies" (.ref lt) (putF "rules" (.ref R) (putF "first_word" (.ref fw) (putF "directions" (.int (x.turns : Nat)) [])))))) := .upd
  have h5 : upd H4 wd (.ins CO dw (putF "tallies" (.ref lt) (putF "rules" (.ref R) (putF "first_word" (.ref fw) (putF "directions" (.int (x.turns : Nat)) []))))) wd = _ := upd_same
  generalize upd H4 wd (.ins CO dw (putF "tallies" (.ref lt) (putF "rules" (.ref R) (putF "first_word" (.ref fw) (putF "directions" (.int (x.turns : Nat)) []))))) = H5 at b5 h5
  have b05 := b4.trans b5
  have taken : ∀ {H' : Hp} {o : HO}, But wd H H' → H' wd = some o → Taken (fun b => B b ∨ b = wd) H' := fun {H' o} q e b hb => by
   by_cases z : b = wd
   ·rw [z, e]; exact fun z => nomatch z
   ·have hb := hb.resolve_right z
    cases e2 : H b with
    | none => exact absurd e2 (tB b hb)
    | some u => rw [q b u e2 z]; exact fun z => nomatch z
  have t5 := taken b05 h5
  refine ⟨fun b => B b ∨ b = wd, rfl, t5, fun H6 dp s6 fdp odp => ?_⟩
  refine ⟨(by show 1 ≤ sizeLine; decide), fun lp hlp => ?_⟩
  have s7 : Same H6 (upd H6 lp (.lst [V.ref dp])) := .new hlp
  have h7 := s7 _ _ (s6 _ _ h5)
  have hlp7 : upd H6 lp (.lst [V.ref dp]) lp = some (.lst [V.ref dp]) := upd_same
  generalize upd H6 lp (.lst [V.ref dp]) = H7 at s7 h7 hlp7
  have nlw : lp ≠ wd := fun z => by rw [z, s6 _ _ h5] at hlp; cases hlp
  refine ⟨_, rfl, wd, CO, dw, _, rfl, h7, TO.cl, TO.n5, (by show 4 < 1000; decide), ?_⟩
  have b8 : But wd H7 (upd H7 wd (.ins CO dw (putF "pieces" (.ref lp) (putF "tallies" (.ref lt) (putF "rules" (.ref R) (putF "first_word" (.ref fw) (putF "directions" (.int (x.turns : Nat)) []))))))) := .upd
  have h8 : upd H7 wd (.ins CO dw (putF "pieces" (.ref lp) (putF "tallies" (.ref lt) (putF "rules" (.ref R) (putF "first_word" (.ref fw) (putF "directions" (.int (x.turns : Nat)) [])))))) wd = _ := upd_same
  generalize upd H7 wd (.ins CO dw (putF "pieces" (.ref lp) (putF "tallies" (.ref lt) (putF "rules" (.ref R) (putF "first_word" (.ref fw) (putF "directions" (.int (x.turns : Nat)) [])))))) = H8 at b8 h8
  have b58 : But wd H5 H8 := ((s6.trans s7).but wd).trans b8
  have b08 := b05.trans b58
  have hlp8 := b8 _ _ hlp7 nlw
  have t8 : Taken (fun b => (B b ∨ b = wd) ∨ b = lp) H8 := fun b hb => hb.elim (taken b08 h8 b) fun z => by rw [z, hlp8]; exact fun z => nomatch z
  refine ⟨_, rfl, fun b => (B b ∨ b = wd) ∨ b = lp, x.turns, rfl, g.turns, t8, fun H9 dq s9 fdq odq => ?_⟩
  refine ⟨(by show 1 ≤ sizeLine; decide), fun lw hlw => ?_⟩
  have s10 : Same H9 (upd H9 lw (.lst [V.ref dq])) := .new hlw
  have h10 := s10 _ _ (s9 _ _ h8)
  have hlw10 : upd H9 lw (.lst [V.ref dq]) lw = some (.lst [V.ref dq]) := upd_same
  generalize upd H9 lw (.lst [V.ref dq]) = H10 at s10 h10 hlw10
  have nww : lw ≠ wd := fun z => by rw [z, s9 _ _ h8] at hlw; cases hlw
  have nwp : lw ≠ lp := fun z => by rw [z, s9 _ _ hlp8] at hlw; cases hlw
  refine ⟨_, rfl, wd, CO, dw, _, rfl, h10, TO.cl, TO.n6, (by show 5 < 1000; decide), ?_⟩
  have b11 : But wd H10 (upd H10 wd (.ins CO dw (of_ (x.turns : Nat) fw R lt lp lw))) := .upd
  have h11 : upd H10 wd (.ins CO dw (of_ (x.turns : Nat) fw R lt lp lw)) wd = some (.ins CO dw (of_ (x.turns : Nat) fw R lt lp lw)) := upd_same
  show Q .non (upd H10 wd (.ins CO dw (of_ (x.turns : Nat) fw R lt lp lw)))
  generalize upd H10 wd (.ins CO dw (of_ (x.turns : Nat) fw R lt lp lw)) = HF at b11 h11
  have b9F : But wd H9 HF := (s10.but wd).trans b11
  have b8F : But wd H8 HF := (s9.but wd).trans b9F
  have b0F := b08.trans b8F
  have b6F : But wd H6 HF := ((s7.but wd).trans b8).trans b8F
  have flw8 : H8 lw = none := s9.free hlw
  have apart : ∀ {H' : Hp}, But wd H' HF → H' lp = none → H' lw = none → Same (hide (fun b => B b ∨ b = wd) H') (hide (fun b => B b ∨ b = lp ∨ b = lw) HF) := fun {H'} q e1 e2 b o e => by
   have n := hide_out e
   have e := hide_le _ _ e
   exact hide_in (fun z => z.elim (fun z => n (.inl z)) fun z => z.elim (ne_of_none e e1) (ne_of_none e e2)) (q b o e fun z => n (.inr z))
  have keepN : ∀ {H1 H2 : Hp}, But wd H1 H2 → ∀ {b}, b ≠ wd → H2 b = none → H1 b = none := fun {H1 H2} q {b} n e => by
   cases e1 : H1 b with
   | none => rfl
   | some u => rw [q b u e1 n] at e; cases e
  have flw6 : H6 lw = none := keepN ((s7.but wd).trans b8) nww flw8
  have flp5 : H5 lp = none := s6.free hlp
  have flw5 : H5 lw = none := s6.free flw6
  have flp4 : H4 lp = none := keepN b5 nlw flp5
  have flw4 : H4 lw = none := keepN b5 nww flw5
  have flp0 : H lp = none := keepN b4 nlw flp4
  have flw0 : H lw = none := keepN b4 nww flw4
  have sm0 := apart b0F flp0 flw0
  have sm4 := apart ((b5.trans b58).trans b8F) flp4 flw4
  have sm6 := apart b6F hlp flw6
  have sm9 : Same (hide (fun b => (B b ∨ b = wd) ∨ b = lp) H9) (hide (fun b => B b ∨ b = lp ∨ b = lw) HF) := fun b o e => by
   have n := hide_out e
   have e := hide_le _ _ e
   exact hide_in (fun z => z.elim (fun z => n (.inl (.inl z))) fun z => z.elim (fun z => n (.inr z)) (ne_of_none e hlw)) (b9F b o e fun z => n (.inl (.inr z)))
  have hR0 := hide_le _ _ hR.dict
  have nRwd : R ≠ wd := fun z => hide_out hR.dict (.inr z)
  refine k HF b0F ⟨dw, fw, R, lt, lp, lw, as, ds, [dp], [dq], nwp.symm, tB.new flp0, tB.new flw0, b8F _ _ hlp8 nlw, b11 _ _ hlw10 nww, ⟨?_, sm0 _ _ hfw, hR.same sm0, ?_, full, ?_, ?_, ?_, ?_, g, nd, hlen⟩⟩
  ·exact hide_in (fun z => z.elim nB fun z => z.elim nlw.symm nww.symm) h11
  ·have frB : ∀ b ∈ lt :: ds, ¬ (B b ∨ b = wd) := fun b hb zz => zz.elim (fun zB => by
    have e := fr b hb
    have n0 := tB b zB
    cases e0 : H b with
    | none => exact n0 e0
    | some u =>
     by_cases q : b = wd
     ·rw [q] at zB; exact nB zB
     ·rw [b3 b u e0 q] at e; cases e) fun z => by
    have e := fr b hb
    rw [z, h3] at e; cases e
   have ta4 : TalsAt (hide (fun b => B b ∨ b = wd) H4) lt ds x := ⟨hide_in (frB lt (List.mem_cons_self ..)) ta.lst, fun j d hd => by
    obtain ⟨tl, ts, hv⟩ := ta.at_ j d hd
    exact ⟨tl, ts, hide_in (frB d (List.mem_cons_of_mem _ (List.mem_of_getElem? hd))) hv⟩, ta.fit, ta.len⟩
   exact ta4.mono sm4
  ·refine ⟨Nat.le_refl _, (by show 1 ≤ 65; decide), fun j d hd => ?_⟩
   cases j with
   | zero =>
    have e : dp = d := by simpa using hd
    subst e
    exact odp.mono sm6 fun a v h => h.mono sm6
   | succ j => simp at hd
  ·refine ⟨Nat.le_refl _, (by show 1 ≤ 65; decide), fun j d hd => ?_⟩
   cases j with
   | zero =>
    have e : dq = d := by simpa using hd
    subst e
    exact odq.mono sm9 fun a v h => h.mono sm9
   | succ j => simp at hd
  ·intro z
   rw [List.mem_singleton.mp z] at hR0 nRwd
   rw [b05 _ _ hR0 nRwd] at fdp; cases fdp
  ·intro z
   rw [List.mem_singleton.mp z] at hR0 nRwd
   rw [b08 _ _ hR0 nRwd] at fdq; cases fdq
def spIsTold (CP CW CO : Addr) : Sp := fun vs H Q _ => ∃ (B : Addr → Prop) (x : Kg35.Rules) (wd : Addr) (n : Nat), vs = [.ref wd, .int (n : Int)] ∧ WordsAt CP CW CO B H wd x ∧ n ≤ 64 ∧ Q (.bl (x.allFit n)) H
abbrev st_Words_is_told : Stmt := inClass (top 60) 1
theorem sc_Words_is_told : FnScope ["self", "n"] ["self", "n"] (defScope st_Words_is_told) := ⟨rfl, rfl, rfl, by decide +kernel, rfl, by decide +kernel, by decide +kernel⟩
theorem ok_is_told {f : Addr} {fd : FuncData} (F : Fun K "is_told" "Words.is_told" st_Words_is_told f fd) (T : Txt K mg) (TO : TxtO K CO) : FnOk P w K mg base CX0 1 f fd ["self", "n"] (spIsTold CP CW CO) := by
 refine F.ok sc_Words_is_told (fun vs H Q E h => ?_) (fun cdv A outer s H vs Q E hr h => ?_)
 ·obtain ⟨B, x, wd, n, rfl, _⟩ := h
  rfl
 ·obtain ⟨B, x, wd, n, rfl, ⟨dw, fw, R, lt, lp, lw, as, ds, dps, dws, _, _, _, _, _, c⟩, hn, k⟩ := h
  refine ⟨_, (pss_one (ps_ret (pe_cmpR op_lt (pv 1) (pe_callB call_len_seq (by rfl) T.b_len PySem.boot_len (pa_cons (pe_fld (pv 0) rfl) pa_nil)) (nomark _)))), ?_⟩
  refine ⟨_, rfl, _, rfl, wd, CO, dw, _, _, rfl, hide_le _ _ c.wd, TO.cl, TO.n4, of_tallies _ _ _ _ _ _, lt, _, rfl, .inl (SqL.of (hide_le _ _ c.ta.lst)), _, _, rfl, rfl, ?_⟩
  have e : decide ((n : Int) < ((((ds.map V.ref).length : Nat)) : Int)) = x.allFit n := by
   rw [Bool.eq_iff_iff, decide_eq_true_iff, fit_len c.ta c.full c.g hn, List.length_map]
   omega
  dsimp only
  rw [e]
  exact k
def spSignsOf (CP CW CO : Addr) : Sp := fun vs H Q _ => ∃ (B : Addr → Prop) (x : Kg35.Rules) (wd : Addr) (n : Nat), vs = [.ref wd, .int (n : Int)] ∧ WordsAt CP CW CO B H wd x ∧ n ≤ 64 ∧ x.allFit n = true ∧ ∀ H', Same H H' → Q (.int ((x.word n).length : Nat)) H'
abbrev st_Words_signs_of : Stmt := inClass (top 60) 2
theorem sc_Words_signs_of : FnScope ["self", "n"] ["self", "n"] (defScope st_Words_signs_of) := ⟨rfl, rfl, rfl, by decide +kernel, rfl, by decide +kernel, by decide +kernel⟩
theorem ok_signs_of {f : Addr} {fd : FuncData} (F : Fun K "signs_of" "Words.signs_of" st_Words_signs_of f fd) (TO : TxtO K CO) (D_signs_in : Dfn P w K mg base "signs_in" 1 ["tally"] spSigns) : FnOk P w K mg base CX0 2 f fd ["self", "n"] (spSignsOf CP CW CO) := by
 refine F.ok sc_Words_signs_of (fun vs H Q E h => ?_) (fun cdv A outer s H vs Q E hr h => ?_)
 ·obtain ⟨B, x, wd, n, rfl, _⟩ := h
  rfl
 ·obtain ⟨B, x, wd, n, rfl, ⟨dw, fw, R, lt, lp, lw, as, ds, dps, dws, _, _, _, _, _, c⟩, hn, hfit, k⟩ := h
  refine ⟨_, (pss_one (ps_ret (pe_dfn D_signs_in (hr.mono (by decide)) rfl (pa_cons (pe_ix ix_list (pe_fld (pv 0) rfl) (pv 1) (fun _ _ => rfl)) pa_nil)))), ?_⟩
  have hl := (fit_len c.ta c.full c.g hn).mp hfit
  have ed := List.getElem?_eq_getElem hl
  have td : TalAt H ds[n] (x.word n) := (c.ta.at_ _ _ ed).mono hide_le
  exact ⟨_, rfl, wd, CO, dw, _, _, rfl, hide_le _ _ c.wd, TO.cl, TO.n4, of_tallies _ _ _ _ _ _, _, rfl, lt, _, _, _, rfl, rfl, SqL.of (hide_le _ _ c.ta.lst), at_of (j := n) (v := V.ref ds[n]) rfl (by rw [List.getElem?_map, ed]; rfl), ds[n], _, rfl, td, k⟩
def spTimes (CP CW CO : Addr) : Sp := fun vs H Q _ => ∃ (B : Addr → Prop) (x : Kg35.Rules) (wd : Addr) (n c : Nat), vs = [.ref wd, .int (n : Int), .int (c : Int)] ∧ WordsAt CP CW CO B H wd x ∧ n ≤ 64 ∧ x.allFit n = true ∧ Q (.int (x.times n c : Nat)) H
abbrev st_Words_times : Stmt := inClass (top 60) 3
theorem sc_Words_times : FnScope ["self", "n", "sign"] ["self", "n", "sign"] (defScope st_Words_times) := ⟨rfl, rfl, rfl, by decide +kernel, rfl, by decide +kernel, by decide +kernel⟩
theorem ok_times {f : Addr} {fd : FuncData} (F : Fun K "times" "Words.times" st_Words_times f fd) (TO : TxtO K CO) : FnOk P w K mg base CX0 1 f fd ["self", "n", "sign"] (spTimes CP CW CO) := by
 refine F.ok sc_Words_times (fun vs H Q E h => ?_) (fun cdv A outer s H vs Q E hr h => ?_)
 ·obtain ⟨B, x, wd, n, c, rfl, _⟩ := h
  rfl
 ·obtain ⟨B, x, wd, n, c, rfl, ⟨dw, fw, R, lt, lp, lw, as, ds, dps, dws, _, _, _, _, _, co⟩, hn, hfit, k⟩ := h
  have hu := hu_of hr
  refine ⟨_, (pss_one (ps_ret (pe_dget2 hu (pe_ix ix_list (pe_fld (pv 0) rfl) (pv 1) (fun _ _ => rfl)) (pv 2) pe_int ⟨rfl, rfl, rfl, rfl⟩))), ?_⟩
  have hl := (fit_len co.ta co.full co.g hn).mp hfit
  have ed := List.getElem?_eq_getElem hl
  obtain ⟨t, ts, hd⟩ := (co.ta.at_ _ _ ed).mono hide_le
  refine ⟨_, rfl, wd, CO, dw, _, _, rfl, hide_le _ _ co.wd, TO.cl, TO.n4, of_tallies _ _ _ _ _ _, _, rfl, lt, _, _, _, rfl, rfl, SqL.of (hide_le _ _ co.ta.lst), at_of (j := n) (v := V.ref ds[n]) rfl (by rw [List.getElem?_map, ed]; rfl), ds[n], rfl, .inl ⟨_, .inl hd⟩, _, rfl, _, DGet.k (k := Sum.inl (c : Int)) hd, ?_⟩
  have e := get_kvN t c 0
  rw [ts.tal.get] at e
  rw [times_eq co.g] at k
  have e : (valV (kvN t) (Sum.inl (c : Int))).getD (V.int 0) = V.int ((x.word n).count c : Nat) := e
  rw [e]
  exact k
structure Frame (B : Addr → Prop) (H H' : Hp) : Prop where
 same : ∀ b, B b → H' b = H b
 dom : ∀ b, H' b = none → H b = none
theorem Frame.trans {B : Addr → Prop} {H H1 H2 : Hp} (a : Frame B H H1) (b : Frame B H1 H2) : Frame B H H2 := ⟨fun x h => (b.same x h).trans (a.same x h), fun x h => a.dom x (b.dom x h)⟩
theorem Frame.of {B : Addr → Prop} {H H' : Hp} (t : Taken B H) (s : Same H H') : Frame B H H' := ⟨fun b hb => by
 cases e : H b with
 | none => exact absurd e (t b hb)
 | some o => exact s b o e, fun b h => s.free h⟩
theorem Frame.upd {B : Addr → Prop} {H : Hp} {a : Addr} {o : HO} (n : ¬ B a) (h : H a ≠ none) : Frame B H (L2.upd H a o) := ⟨fun b hb => upd_ne fun (z : b = a) => n (by rw [← z]; exact hb), fun b e => by
 by_cases z : b = a
 ·subst z; rw [upd_same] at e; cases e
 ·rw [upd_ne z] at e; exact e⟩
theorem Frame.taken {B : Addr → Prop} {H H' : Hp} (f : Frame B H H') (t : Taken B H) : Taken B H' := fun b hb z => t b hb (f.dom b z)
theorem Frame.sub {B C : Addr → Prop} {H H' : Hp} (f : Frame C H H') (h : ∀ b, B b → C b) : Frame B H H' := ⟨fun b hb => f.same b (h b hb), f.dom⟩
def spPieceOf (CP CW CO : Addr) : Sp := fun vs H Q _ => ∃ (B : Addr → Prop) (x : Kg35.Rules) (wd : Addr) (n : Nat), vs = [.ref wd, .int (n : Int)] ∧ Taken B H ∧ WordsAt CP CW CO B H wd x ∧ n ≤ 64 ∧
 ∀ (H' : Hp) (p : Addr), Frame B H H' → WordsAt CP CW CO B H' wd x → PieceAt CP (n + 2) H' p (x.word n) → Q (.ref p) H'
abbrev st_Words_piece_of : Stmt := inClass (top 60) 4
theorem sc_Words_piece_of : FnScope ["self", "n"] ["self", "n"] (defScope st_Words_piece_of) := ⟨rfl, rfl, rfl, by decide +kernel, rfl, by decide +kernel, by decide +kernel⟩
theorem neg_one {xs : List V} {v : V} (h : xs[xs.length - 1]? = some v) (hp : 0 < xs.length) : atI xs (-(1 : Int)) = some v := by
 rcases List.eq_nil_or_concat xs with z | ⟨ys, y, z⟩
 ·rw [z] at hp; simp at hp
 ·rw [List.concat_eq_append] at z
  subst z
  rw [List.length_append, List.getElem?_append_right (by simp)] at h
  have e : y = v := by simpa using h
  rw [e]
  exact atI_last ys v
theorem ok_piece_of {f : Addr} {fd : FuncData} (F : Fun K "piece_of" "Words.piece_of" st_Words_piece_of f fd) (T : Txt K mg) (TO : TxtO K CO) (D_grown_pieces : Dfn P w K mg base "grown_pieces" 5 ["pieces", "rules"] (spGrownP CP)) (D_piece_along : Dfn P w K mg base "piece_along" 4 ["word", "pieces"] (spAlong K CP)) :
  FnOk P w K mg base CX0 6 f fd ["self", "n"] (spPieceOf CP CW CO) := by
 refine F.ok sc_Words_piece_of (fun vs H Q E h => ?_) (fun cdv A outer s H vs Q E hr h => ?_)
 ·obtain ⟨B, x, wd, n, rfl, _⟩ := h
  rfl
 ·obtain ⟨B, x, wd, n, rfl, tB, ⟨dw, fw, R, lt, lp, lw, as, ds, dps0, dws, npw, nBp, nBw, hlp0, hlw0, c0⟩, hn, k⟩ := h
  refine ⟨_, (pss_cons (ps_while PassesOwn.never (pt_cmpR op_le (pe_callB call_len_seq (by rfl) T.b_len PySem.boot_len (pa_cons (pe_fld (pv 0) rfl) pa_nil)) (pv 1) (nomark _))
   (pss_one (ps_expr (pe_bm PySem.F.plainAttrs_list PySem.F.slot_list_append PySem.F.type_list_append mt_append (pe_fld (pv 0) rfl) (pa_cons (pe_dfn D_grown_pieces (hr.mono (by decide)) rfl (pa_cons (pe_ix ix_list (pe_fld (pv 0) rfl) (pe_un un_neg pe_int) (fun _ _ => rfl)) (pa_cons (pe_fld (pv 0) rfl) pa_nil))) pa_nil)))))
   (pss_one (ps_ret (pe_dfn D_piece_along (hr.mono (by decide)) rfl (pa_cons (pe_fld (pv 0) rfl) (pa_cons (pe_ix ix_list (pe_fld (pv 0) rfl) (pv 1) (fun _ _ => rfl)) pa_nil)))))), ?_⟩
  refine ⟨fun m σ H' => ∃ dps : List Addr, m = 66 - dps.length ∧ σ = [some (.ref wd), some (.int (n : Int))] ∧ Frame (fun b => B b ∨ b = lw) H H' ∧ H' lp = some (.lst (dps.map V.ref)) ∧ Core CP CW CO (hide (fun b => B b ∨ b = lp ∨ b = lw) H') wd x dw fw R lt lp lw as ds dps dws,
   ⟨_, dps0, rfl, rfl, ⟨fun _ _ => rfl, fun _ h => h⟩, hlp0, c0⟩, ?_⟩
  rintro m σ H' ⟨dps, rfl, rfl, fr, hlp, c⟩
  have hlw : H' lw = some (.lst (dws.map V.ref)) := by rw [fr.same lw (.inr rfl)]; exact hlw0
  have tX : Taken (fun b => B b ∨ b = lp ∨ b = lw) H' := fun b hb => hb.elim (fun z => (fr.sub fun b h => .inl h).taken tB b z) fun z => z.elim (fun z => by rw [z, hlp]; exact fun z => nomatch z) fun z => by rw [z, hlw]; exact fun z => nomatch z
  have hwd := hide_le _ _ c.wd
  obtain ⟨l1, l2, l3⟩ := c.ps
  refine ⟨_, rfl, wd, CO, dw, _, _, rfl, hwd, TO.cl, TO.n5, of_pieces _ _ _ _ _ _, lp, _, rfl, .inl (SqL.of hlp), _, rfl, _, _, rfl, rfl, _, rfl, ?_⟩
  refine iteD (fun h1 => ?_) (fun h1 => ?_)
  ·have h1 : (((dps.map V.ref).length : Nat) : Int) ≤ (n : Int) := h1
   rw [List.length_map] at h1
   refine ⟨fun σ' H5 => ∃ d' : Addr, σ' = [some (.ref wd), some (.int (n : Int))] ∧ Frame (fun b => B b ∨ b = lw) H H5 ∧ H5 lp = some (.lst ((dps ++ [d']).map V.ref)) ∧ Core CP CW CO (hide (fun b => B b ∨ b = lp ∨ b = lw) H5) wd x dw fw R lt lp lw as ds (dps ++ [d']) dws,
    fun σ' H5 ⟨d', e1, e2, e3, e4⟩ => ⟨66 - (dps ++ [d']).length, by rw [List.length_append]; show 66 - (dps.length + 1) < _; omega, dps ++ [d'], rfl, e1, e2, e3, e4⟩, ?_⟩
   have hdl : dps.length - 1 < dps.length := by omega
   have edl := List.getElem?_eq_getElem hdl
   have od := l3 _ _ edl
   have ek : dps.length - 1 + 1 = dps.length := by omega
   rw [ek] at od
   refine ⟨_, rfl, wd, CO, dw, _, _, rfl, hwd, TO.cl, TO.n5, of_pieces _ _ _ _ _ _, .inl ⟨rfl, _, SqL.of hlp⟩, _, rfl, wd, CO, dw, _, _, rfl, hwd, TO.cl, TO.n5, of_pieces _ _ _ _ _ _, _, rfl, lp, _, _, V.ref dps[dps.length - 1], rfl, rfl, SqL.of hlp, ?_, _, rfl, wd, CO, dw, _, _, rfl, hwd, TO.cl, TO.n3, of_rules _ _ _ _ _ _, ?_⟩
   ·exact neg_one (by rw [List.length_map, List.getElem?_map, edl]; rfl) (by rw [List.length_map]; omega)
   refine ⟨_, dps.length, dps[dps.length - 1], R, as, x, _, _, rfl, tX, fun z => c.rp (z ▸ List.getElem_mem hdl), od, by omega, c.ru, c.g, c.nd, c.len, fun H2 d' s2 fd' od' => ?_⟩
   refine ⟨lp, _, _, rfl, rfl, s2 _ _ hlp, lineLt1 (m := 66) (by rw [List.length_map]; omega), ?_⟩
   refine ⟨d', rfl, ?_, by rw [upd_same, List.map_append]; rfl, ?_⟩
   ·refine fr.trans ((Frame.of (fun b hb => hb.elim (fun z => tX b (.inl z)) fun z => tX b (.inr (.inr z))) s2).trans (Frame.upd (fun z => z.elim nBp npw) (by rw [s2 _ _ hlp]; exact fun z => nomatch z)))
   ·rw [hide_upd (.inr (.inl rfl))]
    have c2 := c.mono (hide_same s2)
    refine { c2 with ps := c2.ps.snoc (by omega) od', rp := fun z => (List.mem_append.mp z).elim c.rp fun z => ?_ }
    have := hide_le _ _ c.ru.dict
    rw [List.mem_singleton.mp z, fd'] at this
    cases this
  ·have h1 : ¬ (((dps.map V.ref).length : Nat) : Int) ≤ (n : Int) := h1
   rw [List.length_map] at h1
   have hnl : n < dps.length := by omega
   have en := List.getElem?_eq_getElem hnl
   obtain ⟨ok1, _, ok3⟩ := wordOk_iff.mp c.g.first
   refine ⟨_, rfl, wd, CO, dw, _, _, rfl, hwd, TO.cl, TO.n2, of_first _ _ _ _ _ _, _, rfl, wd, CO, dw, _, _, rfl, hwd, TO.cl, TO.n5, of_pieces _ _ _ _ _ _, _, rfl, lp, _, _, V.ref dps[n], rfl, rfl, SqL.of hlp, at_of (j := n) rfl (by rw [List.getElem?_map, en]; rfl), ?_⟩
   refine ⟨_, n + 1, fw, dps[n], x.first, _, _, rfl, tX, SqL.of (hide_le _ _ c.fw), ok3, fun c hc => ok1 c hc, l3 n _ en, fun H2 p s2 hp => ?_⟩
   rw [word_flat] at hp
   have sl := Frame.of (B := B) (fun b hb => tX b (.inl hb)) s2
   exact k H2 p ((fr.sub fun b h => .inl h).trans sl) ⟨dw, fw, R, lt, lp, lw, as, ds, dps, dws, npw, nBp, nBw, s2 _ _ hlp, s2 _ _ hlw, c.mono (hide_same s2)⟩ (hp.mono hide_le)
def spWayOf (CP CW CO : Addr) : Sp := fun vs H Q _ => ∃ (B : Addr → Prop) (x : Kg35.Rules) (wd : Addr) (n : Nat), vs = [.ref wd, .int (n : Int)] ∧ Taken B H ∧ WordsAt CP CW CO B H wd x ∧ n ≤ 64 ∧
 ∀ (H' : Hp) (p : Addr), Frame B H H' → WordsAt CP CW CO B H' wd x → WayAt CW x.turns H' p (x.word n) → Q (.ref p) H'
abbrev st_Words_way_of : Stmt := inClass (top 60) 5
theorem sc_Words_way_of : FnScope ["self", "n"] ["self", "n"] (defScope st_Words_way_of) := ⟨rfl, rfl, rfl, by decide +kernel, rfl, by decide +kernel, by decide +kernel⟩
theorem ok_way_of {f : Addr} {fd : FuncData} (F : Fun K "way_of" "Words.way_of" st_Words_way_of f fd) (T : Txt K mg) (TO : TxtO K CO) (D_grown_ways : Dfn P w K mg base "grown_ways" 4 ["ways", "rules", "directions"] (spGrownW CW)) (D_way_along : Dfn P w K mg base "way_along" 3 ["word", "ways", "directions"] (spWAlong K CW)) :
  FnOk P w K mg base CX0 5 f fd ["self", "n"] (spWayOf CP CW CO) := by
 refine F.ok sc_Words_way_of (fun vs H Q E h => ?_) (fun cdv A outer s H vs Q E hr h => ?_)
 ·obtain ⟨B, x, wd, n, rfl, _⟩ := h
  rfl
 ·obtain ⟨B, x, wd, n, rfl, tB, ⟨dw, fw, R, lt, lp, lw, as, ds, dps, dws0, npw, nBp, nBw, hlp0, hlw0, c0⟩, hn, k⟩ := h
  refine ⟨_, (pss_cons (ps_while PassesOwn.never (pt_cmpR op_le (pe_callB call_len_seq (by rfl) T.b_len PySem.boot_len (pa_cons (pe_fld (pv 0) rfl) pa_nil)) (pv 1) (nomark _))
   (pss_one (ps_expr (pe_bm PySem.F.plainAttrs_list PySem.F.slot_list_append PySem.F.type_list_append mt_append (pe_fld (pv 0) rfl) (pa_cons (pe_dfn D_grown_ways (hr.mono (by decide)) rfl (pa_cons (pe_ix ix_list (pe_fld (pv 0) rfl) (pe_un un_neg pe_int) (fun _ _ => rfl)) (pa_cons (pe_fld (pv 0) rfl) (pa_cons (pe_fld (pv 0) rfl) pa_nil)))) pa_nil)))))
   (pss_one (ps_ret (pe_dfn D_way_along (hr.mono (by decide)) rfl (pa_cons (pe_fld (pv 0) rfl) (pa_cons (pe_ix ix_list (pe_fld (pv 0) rfl) (pv 1) (fun _ _ => rfl)) (pa_cons (pe_fld (pv 0) rfl) pa_nil))))))), ?_⟩
  refine ⟨fun m σ H' => ∃ dws : List Addr, m = 66 - dws.length ∧ σ = [some (.ref wd), some (.int (n : Int))] ∧ Frame (fun b => B b ∨ b = lp) H H' ∧ H' lw = some (.lst (dws.map V.ref)) ∧ Core CP CW CO (hide (fun b => B b ∨ b = lp ∨ b = lw) H') wd x dw fw R lt lp lw as ds dps dws,
   ⟨_, dws0, rfl, rfl, ⟨fun _ _ => rfl, fun _ h => h⟩, hlw0, c0⟩, ?_⟩
  rintro m σ H' ⟨dws, rfl, rfl, fr, hlw, c⟩
  have hlp : H' lp = some (.lst (dps.map V.ref)) := by rw [fr.same lp (.inr rfl)]; exact hlp0
  have tX : Taken (fun b => B b ∨ b = lp ∨ b = lw) H' := fun b hb => hb.elim (fun z => (fr.sub fun b h => .inl h).taken tB b z) fun z => z.elim (fun z => by rw [z, hlp]; exact fun z => nomatch z) fun z => by rw [z, hlw]; exact fun z => nomatch z
  have hwd := hide_le _ _ c.wd
  obtain ⟨l1, l2, l3⟩ := c.ws
  have fine : ∀ j c, Fine (fun c => Kg35.grown x j [c]) c := fun j => c.g.fine j
  refine ⟨_, rfl, wd, CO, dw, _, _, rfl, hwd, TO.cl, TO.n6, of_ways _ _ _ _ _ _, lw, _, rfl, .inl (SqL.of hlw), _, rfl, _, _, rfl, rfl, _, rfl, ?_⟩
  refine iteD (fun h1 => ?_) (fun h1 => ?_)
  ·have h1 : (((dws.map V.ref).length : Nat) : Int) ≤ (n : Int) := h1
   rw [List.length_map] at h1
   refine ⟨fun σ' H5 => ∃ d' : Addr, σ' = [some (.ref wd), some (.int (n : Int))] ∧ Frame (fun b => B b ∨ b = lp) H H5 ∧ H5 lw = some (.lst ((dws ++ [d']).map V.ref)) ∧ Core CP CW CO (hide (fun b => B b ∨ b = lp ∨ b = lw) H5) wd x dw fw R lt lp lw as ds dps (dws ++ [d']),
    fun σ' H5 ⟨d', e1, e2, e3, e4⟩ => ⟨66 - (dws ++ [d']).length, by rw [List.length_append]; show 66 - (dws.length + 1) < _; omega, dws ++ [d'], rfl, e1, e2, e3, e4⟩, ?_⟩
   have hdl : dws.length - 1 < dws.length := by omega
   have edl := List.getElem?_eq_getElem hdl
   have od := l3 _ _ edl
   have ek : dws.length - 1 + 1 = dws.length := by omega
   rw [ek] at od
   refine ⟨_, rfl, wd, CO, dw, _, _, rfl, hwd, TO.cl, TO.n6, of_ways _ _ _ _ _ _, .inl ⟨rfl, _, SqL.of hlw⟩, _, rfl, wd, CO, dw, _, _, rfl, hwd, TO.cl, TO.n6, of_ways _ _ _ _ _ _, _, rfl, lw, _, _, V.ref dws[dws.length - 1], rfl, rfl, SqL.of hlw, ?_, _, rfl, wd, CO, dw, _, _, rfl, hwd, TO.cl, TO.n3, of_rules _ _ _ _ _ _, _, rfl, wd, CO, dw, _, _, rfl, hwd, TO.cl, TO.n1, of_dirs _ _ _ _ _ _, ?_⟩
   ·exact neg_one (by rw [List.length_map, List.getElem?_map, edl]; rfl) (by rw [List.length_map]; omega)
   refine ⟨_, x.turns, dws[dws.length - 1], R, as, x, _, _, rfl, c.g.turns, tX, fun z => c.rw_ (z ▸ List.getElem_mem hdl), od, by omega, fine _, c.ru, c.g, c.nd, c.len, fun H2 d' s2 fd' od' => ?_⟩
   refine ⟨lw, _, _, rfl, rfl, s2 _ _ hlw, lineLt1 (m := 66) (by rw [List.length_map]; omega), ?_⟩
   refine ⟨d', rfl, ?_, by rw [upd_same, List.map_append]; rfl, ?_⟩
   ·refine fr.trans ((Frame.of (fun b hb => hb.elim (fun z => tX b (.inl z)) fun z => tX b (.inr (.inl z))) s2).trans (Frame.upd (fun z => z.elim nBw npw.symm) (by rw [s2 _ _ hlw]; exact fun z => nomatch z)))
   ·rw [hide_upd (.inr (.inr rfl))]
    have c2 := c.mono (hide_same s2)
    refine { c2 with ws := c2.ws.snoc (by omega) od', rw_ := fun z => (List.mem_append.mp z).elim c.rw_ fun z => ?_ }
    have := hide_le _ _ c.ru.dict
    rw [List.mem_singleton.mp z, fd'] at this
    cases this
  ·have h1 : ¬ (((dws.map V.ref).length : Nat) : Int) ≤ (n : Int) := h1
   rw [List.length_map] at h1
   have hnl : n < dws.length := by omega
   have en := List.getElem?_eq_getElem hnl
   obtain ⟨ok1, ok2, ok3⟩ := wordOk_iff.mp c.g.first
   refine ⟨_, rfl, wd, CO, dw, _, _, rfl, hwd, TO.cl, TO.n2, of_first _ _ _ _ _ _, _, rfl, wd, CO, dw, _, _, rfl, hwd, TO.cl, TO.n6, of_ways _ _ _ _ _ _, _, rfl, lw, _, _, V.ref dws[n], rfl, rfl, SqL.of hlw, at_of (j := n) rfl (by rw [List.getElem?_map, en]; rfl), _, rfl, wd, CO, dw, _, _, rfl, hwd, TO.cl, TO.n1, of_dirs _ _ _ _ _ _, ?_⟩
   refine ⟨_, fw, dws[n], x.turns, x.first, _, _, rfl, c.g.turns, tX, SqL.of (hide_le _ _ c.fw), ok3, fun c hc => ok1 c hc, closed_iff.mp ok2, l3 n _ en, fine n, fun H2 p s2 hp => ?_⟩
   rw [word_flat] at hp
   have sl := Frame.of (B := B) (fun b hb => tX b (.inl hb)) s2
   exact k H2 p ((fr.sub fun b h => .inl h).trans sl) ⟨dw, fw, R, lt, lp, lw, as, ds, dps, dws, npw, nBp, nBw, s2 _ _ hlp, s2 _ _ hlw, c.mono (hide_same s2)⟩ (hp.mono hide_le)
end
end Gw
end
section
namespace Gw
open PySem PySem.Spec PyProof.Rows L2
structure Cl where
 cp : Addr
 cw : Addr
 co : Addr
 cg : Addr
def gf (v : V) : List (Str × V) := putF "words" v []
theorem gf_get (v : V) : (gf v).lookup ("words" : Str) = some v := by
 unfold gf
 rw [lookup_putF, if_pos rfl]
theorem gf_no (v : V) {m : Str} (h : ¬ m = "words") : (gf v).lookup m = none := by
 unfold gf
 rw [lookup_putF, if_neg h]
 all_goals rfl
theorem gf_put (v u : V) : putF "words" u (gf v) = gf u := by
 show (if ("words" : Str) = "words" then [(("words" : Str), u)] else _) = ([("words", u)] : List (Str × V))
 rw [if_pos rfl]
def Holds (C : Cl) (B : Addr → Prop) (H : Hp) (v : V) : Kg35.State → Prop
 | none => v = .non
 | some x => ∃ wd, v = .ref wd ∧ WordsAt C.cp C.cw C.co B H wd x
def GrowAt (C : Cl) (B : Addr → Prop) (H : Hp) (p : Addr) (s : Kg35.State) : Prop := ∃ dx v, H p = some (.ins C.cg dx (gf v)) ∧ ¬ B p ∧ Holds C (fun b => B b ∨ b = p) H v s
theorem Holds.mono {C : Cl} {B : Addr → Prop} {H H' : Hp} {v : V} (sm : Same H H') : ∀ {s : Kg35.State}, Holds C B H v s → Holds C B H' v s
 | none, h => h
 | some x, ⟨wd, e, h⟩ => ⟨wd, e, h.mono sm⟩
theorem Holds.upd {C : Cl} {B : Addr → Prop} {H : Hp} {v : V} {b : Addr} {o : HO} (hb : B b) : ∀ {s : Kg35.State}, Holds C B H v s → Holds C B (L2.upd H b o) v s
 | none, h => h
 | some x, ⟨wd, e, h⟩ => ⟨wd, e, h.upd hb⟩
theorem GrowAt.mono {C : Cl} {B : Addr → Prop} {H H' : Hp} {p : Addr} {s : Kg35.State} (g : GrowAt C B H p s) (sm : Same H H') : GrowAt C B H' p s := by
 obtain ⟨dx, v, hp, nB, hv⟩ := g
 exact ⟨dx, v, sm _ _ hp, nB, hv.mono sm⟩
theorem GrowAt.upd {C : Cl} {B : Addr → Prop} {H : Hp} {p b : Addr} {o : HO} {s : Kg35.State} (g : GrowAt C B H p s) (hb : B b) : GrowAt C B (L2.upd H b o) p s := by
 obtain ⟨dx, v, hp, nB, hv⟩ := g
 exact ⟨dx, v, by rw [upd_ne fun (z : p = b) => nB (by rw [z]; exact hb)]; exact hp, nB, hv.upd (.inl hb)⟩
structure TxtG (K : PySem.W.Frag) (mg : Str → Option Value) (CG : Addr) : Prop where
 cl : Cls K CG
 nT : NoAttr K CG "words"
 NO_RULES : GI mg "NO_RULES" (-9)
 OUT_OF_RANGE : GI mg "OUT_OF_RANGE" (-8)
 TOO_LONG : GI mg "TOO_LONG" (-6)
 WRONG_LINE : GI mg "WRONG_LINE" (-100)
 WIDEST : GI mg "WIDEST" 1024
 TOO_MANY_TO_DRAW : GI mg "TOO_MANY_TO_DRAW" 16777216
def Answered (C : Cl) (p : Addr) (B : Addr → Prop) (H : Hp) (Q : VK) (s' : Kg35.State) (ans : List Int) : Prop := ∀ (H' : Hp) (q : Addr), Frame B H H' → GrowAt C B H' p s' → H' q = some (.lst (vi ans)) → H q = none → Q (.ref q) H'
theorem Answered.same {C : Cl} {p : Addr} {B : Addr → Prop} {H H1 : Hp} {Q : VK} {s : Kg35.State} {a : List Int} (k : Answered C p B H Q s a) (f : Frame B H H1) : Answered C p B H1 Q s a :=
 fun H' q fr g e fq => k H' q (f.trans fr) g e (f.dom q fq)
theorem Frame.but {B : Addr → Prop} {wd : Addr} {H H' : Hp} (t : Taken B H) (b : But wd H H') (n : ¬ B wd) (h : H' wd ≠ none) : Frame B H H' := ⟨fun x hx => by
 cases e : H x with
 | none => exact absurd e (t x hx)
 | some o => exact b x o e fun (z : x = wd) => n (by rw [← z]; exact hx), fun x e => by
 cases e0 : H x with
 | none => rfl
 | some o =>
  by_cases z : x = wd
  ·subst z; exact absurd e h
  ·rw [b x o e0 z] at e; cases e⟩
theorem not_ref {s : Kg35.State} {n : Int} (h : ¬ refusal s n < 0) : ∃ (x : Kg35.Rules) (N : Nat), s = some x ∧ n = (N : Int) ∧ N ≤ 64 ∧ x.allFit N = true := by
 cases s with
 | none => exact absurd (show (-9 : Int) < 0 by decide) h
 | some x =>
  obtain ⟨_, h1, h2, h3⟩ := asked_told (x := x) (n := n) (fun _ _ => Kg35.num 0) h
  exact ⟨x, n.toNat, rfl, by omega, by omega, h3⟩
section
variable {P : Program} {w : World} {K : PySem.W.Frag} {mg : Str → Option Value} {base : Heap} {C : Cl}
def spInit (C : Cl) : Sp := fun vs H Q _ => ∃ (p dx : Addr), vs = [.ref p] ∧ H p = some (.ins C.cg dx []) ∧ Q .non (upd H p (.ins C.cg dx (gf .non)))
abbrev st_Grower___init__ : Stmt := inClass (top 68) 0
theorem sc_Grower___init__ : FnScope ["self"] ["self"] (defScope st_Grower___init__) := ⟨rfl, rfl, rfl, by decide +kernel, rfl, by decide +kernel, by decide +kernel⟩
theorem ok_init {f : Addr} {fd : FuncData} (F : Fun K "__init__" "Grower.__init__" st_Grower___init__ f fd) (T : TxtG K mg C.cg) : FnOk P w K mg base CX0 1 f fd ["self"] (spInit C) := by
 refine F.ok sc_Grower___init__ (fun vs H Q E h => ?_) (fun cdv A outer s H vs Q E hr h => ?_)
 ·obtain ⟨p, dx, rfl, _⟩ := h
  rfl
 ·obtain ⟨p, dx, rfl, hp, k⟩ := h
  refine ⟨_, (pss_one (ps_fld (pv 0) pe_non rfl)), ?_⟩
  exact ⟨_, rfl, p, C.cg, dx, [], rfl, hp, T.cl, T.nT, (by show 0 < 1000; decide), k⟩
def spBegin (C : Cl) : Sp := fun vs H Q _ => ∃ (B : Addr → Prop) (p : Addr) (s : Kg35.State), vs = [.ref p] ∧ Taken B H ∧ GrowAt C B H p s ∧ Answered C p B H Q none [0]
abbrev st_Grower_begin : Stmt := inClass (top 68) 1
theorem sc_Grower_begin : FnScope ["self"] ["self"] (defScope st_Grower_begin) := ⟨rfl, rfl, rfl, by decide +kernel, rfl, by decide +kernel, by decide +kernel⟩
theorem ok_begin {f : Addr} {fd : FuncData} (F : Fun K "begin" "Grower.begin" st_Grower_begin f fd) (T : TxtG K mg C.cg) : FnOk P w K mg base CX0 1 f fd ["self"] (spBegin C) := by
 refine F.ok sc_Grower_begin (fun vs H Q E h => ?_) (fun cdv A outer s H vs Q E hr h => ?_)
 ·obtain ⟨B, p, st, rfl, _⟩ := h
  rfl
 ·obtain ⟨B, p, st, rfl, tB, ⟨dx, v, hp, nB, hv⟩, k⟩ := h
  refine ⟨_, (pss_cons (ps_fld (pv 0) pe_non rfl)
   (pss_one (ps_ret (pe_lst (pa_cons pe_int pa_nil))))), ?_⟩
  refine ⟨_, rfl, p, C.cg, dx, _, rfl, hp, T.cl, T.nT, (by show 1 < 1000; decide), ?_⟩
  rw [gf_put]
  refine ⟨(by show 1 ≤ sizeLine; decide), fun q hq => ?_⟩
  have f1 : Frame B H (upd H p (.ins C.cg dx (gf .non))) := Frame.upd nB (by rw [hp]; exact fun z => nomatch z)
  have s1 : Same (upd H p (.ins C.cg dx (gf .non))) (upd (upd H p (.ins C.cg dx (gf .non))) q (.lst [.int 0])) := .new hq
  exact k _ q (f1.trans (.of (f1.taken tB) s1)) ⟨dx, .non, s1 _ _ upd_same, nB, rfl⟩ upd_same (f1.dom q hq)
def spRefusal (C : Cl) : Sp := fun vs H Q _ => ∃ (B : Addr → Prop) (p : Addr) (s : Kg35.State) (n : Int), vs = [.ref p, .int n] ∧ GrowAt C B H p s ∧ Q (.int (refusal s n)) H
abbrev st_Grower_refusal_of : Stmt := inClass (top 68) 8
theorem sc_Grower_refusal_of : FnScope ["self", "n"] ["self", "n"] (defScope st_Grower_refusal_of) := ⟨rfl, rfl, rfl, by decide +kernel, rfl, by decide +kernel, by decide +kernel⟩
theorem ok_refusal {f : Addr} {fd : FuncData} (F : Fun K "refusal_of" "Grower.refusal_of" st_Grower_refusal_of f fd) (T : TxtG K mg C.cg) (T0 : Txt K mg) (TO : TxtO K C.co) (D_is_told : Mth P w K mg base C.co "is_told" 1 ["self", "n"] (spIsTold C.cp C.cw C.co)) : FnOk P w K mg base CX0 2 f fd ["self", "n"] (spRefusal C) := by
 refine F.ok sc_Grower_refusal_of (fun vs H Q E h => ?_) (fun cdv A outer s H vs Q E hr h => ?_)
 ·obtain ⟨B, p, st, n, rfl, _⟩ := h
  rfl
 ·obtain ⟨B, p, st, n, rfl, ⟨dx, v, hp, nB, hv⟩, k⟩ := h
  refine ⟨_, (pss_cons (ps_if (pt_cmpR op_isN (pe_fld (pv 0) rfl) pe_non (nomark _))
   (pss_one (ps_ret (pe_gi rfl T.NO_RULES)))
   pss_nil)
   (pss_cons (ps_if (PW.pt (pw_or (pt_cmpR op_lt (pv 1) pe_int (nomark _)) (pw_or1 (pt_cmpR op_gt (pv 1) (pe_gi rfl T0.LAST_WORD) (nomark _)))))
   (pss_one (ps_ret (pe_gi rfl T.OUT_OF_RANGE)))
   pss_nil)
   (pss_cons (ps_if (pt_not (pt_val (pe_mth (pe_fld (pv 0) rfl) TO.cl D_is_told (hr.mono (by decide)) (pa_cons (pv 1) pa_nil))))
   (pss_one (ps_ret (pe_gi rfl T.TOO_LONG)))
   pss_nil)
   (pss_one (ps_ret pe_int))))), ?_⟩
  have out : ∀ z : Int, z = refusal st n → Q (.int z) H := fun z e => by rw [e]; exact k
  refine ⟨_, rfl, p, C.cg, dx, _, _, rfl, hp, T.cl, T.nT, gf_get v, rfl, _, rfl, ?_⟩
  cases st with
  | none =>
   have hv : v = .non := hv
   subst hv
   exact out (-9) rfl
  | some x =>
   obtain ⟨wd, rfl, wa⟩ := hv
   refine iteD (fun z => by cases z) (fun _ => ?_)
   refine ⟨_, rfl, _, _, rfl, rfl, _, rfl, ?_⟩
   refine iteD (fun h1 => ?_) (fun h1 => ?_)
   ·refine iteB (fun _ => ?_) (fun z => by cases z)
    have h1 : n < 0 := h1
    exact out (-8) (by rw [refusal_some, if_pos (.inl h1)])
   ·have h1 : ¬ n < 0 := h1
    refine ⟨_, rfl, _, _, rfl, rfl, _, rfl, ?_⟩
    refine iteD (fun h2 => ?_) (fun h2 => ?_)
    ·have h2 : 64 < n := h2
     exact out (-8) (by rw [refusal_some, if_pos (.inr h2)])
    ·have h2 : ¬ 64 < n := h2
     obtain ⟨N, rfl⟩ : ∃ N : Nat, n = (N : Int) := ⟨n.toNat, by omega⟩
     obtain ⟨dw, fw, R, lt, lp, lw, as, ds, dps, dws, _, _, _, _, _, c⟩ := id wa
     refine ⟨_, rfl, p, C.cg, dx, _, _, rfl, hp, T.cl, T.nT, gf_get _, wd, dw, _, rfl, hide_le _ _ c.wd, of_no _ _ _ _ _ _ (by decide +kernel), _, rfl, _, x, wd, N, rfl, wa, by omega, _, rfl, ?_⟩
     refine iteB (fun h3 => ?_) (fun h3 => ?_)
     ·refine out (-6) ?_
      rw [refusal_some, if_neg (by omega), if_pos (by rw [Int.toNat_natCast]; simpa using h3)]
     ·refine out 0 ?_
      rw [refusal_some, if_neg (by omega), if_neg (by rw [Int.toNat_natCast]; simpa using h3)]
theorem stepA_asked (s : Kg35.State) (a : Ask) (n : Int) (f : Kg35.Rules → Nat → Kg35.Ans) (h : Kg35.does s a.call = (s, Kg35.asked s n f)) : (refusal s n < 0 → stepA s a = (s, [refusal s n])) ∧ ∀ x, s = some x → ¬ refusal s n < 0 → stepA s a = (s, (f x n.toNat).value :: (f x n.toNat).out) := by
 constructor
 ·intro hr
  show ((Kg35.does s a.call).1, (Kg35.does s a.call).2.value :: (Kg35.does s a.call).2.out) = _
  rw [h, asked_refused _ hr]; rfl
 ·intro x e hr
  subst e
  show ((Kg35.does (some x) a.call).1, (Kg35.does (some x) a.call).2.value :: (Kg35.does (some x) a.call).2.out) = _
  rw [h, (asked_told _ hr).1]
def spLong (C : Cl) : Sp := fun vs H Q _ => ∃ (B : Addr → Prop) (p : Addr) (s : Kg35.State) (n : Int), vs = [.ref p, .int n] ∧ Taken B H ∧ GrowAt C B H p s ∧ Answered C p B H Q (stepA s (.long n)).1 (stepA s (.long n)).2
abbrev st_Grower_long : Stmt := inClass (top 68) 3
theorem sc_Grower_long : FnScope ["self", "n", "refusal"] ["self", "n"] (defScope st_Grower_long) := ⟨rfl, rfl, rfl, by decide +kernel, rfl, by decide +kernel, by decide +kernel⟩
theorem ok_long {f : Addr} {fd : FuncData} (F : Fun K "long" "Grower.long" st_Grower_long f fd) (T : TxtG K mg C.cg) (TO : TxtO K C.co) (D_refusal : Mth P w K mg base C.cg "refusal_of" 2 ["self", "n"] (spRefusal C)) (D_signs_of : Mth P w K mg base C.co "signs_of" 2 ["self", "n"] (spSignsOf C.cp C.cw C.co)) :
  FnOk P w K mg base CX0 3 f fd ["self", "n"] (spLong C) := by
 refine F.ok sc_Grower_long (fun vs H Q E h => ?_) (fun cdv A outer s H vs Q E hr h => ?_)
 ·obtain ⟨B, p, st, n, rfl, _⟩ := h
  rfl
 ·obtain ⟨B, p, st, n, rfl, tB, gr, k⟩ := h
  obtain ⟨dx, v, hp, nB, hv⟩ := id gr
  refine ⟨_, (pss_cons (ps_set (i := 2) sc_Grower_long.nd rfl (Or.inl rfl) (pe_mth (pv 0) T.cl D_refusal (hr.mono (by decide)) (pa_cons (pv 1) pa_nil)))
   (pss_cons (ps_if (pt_cmpR op_lt (pv 2) pe_int (nomark _))
   (pss_one (ps_ret (pe_lst (pa_cons (pv 2) pa_nil))))
   pss_nil)
   (pss_one (ps_ret (pe_lst (pa_cons (pe_mth (pe_fld (pv 0) rfl) TO.cl D_signs_of (hr.mono (by decide)) (pa_cons (pv 1) pa_nil)) pa_nil)))))), ?_⟩
  obtain ⟨e1, e2⟩ := stepA_asked st (.long n) n (fun x n => Kg35.num (x.count n)) rfl
  refine ⟨_, rfl, p, dx, _, rfl, hp, gf_no _ (by decide +kernel), _, rfl, B, p, st, n, rfl, gr, ?_⟩
  refine ⟨_, rfl, _, _, rfl, rfl, _, rfl, ?_⟩
  refine iteD (fun h1 => ?_) (fun h1 => ?_)
  ·have h1 : refusal st n < 0 := h1
   rw [e1 h1] at k
   refine ⟨_, rfl, (by show 1 ≤ sizeLine; decide), fun q hq => ?_⟩
   exact k _ q (.of tB (.new hq)) (gr.mono (.new hq)) upd_same hq
  ·have h1 : ¬ refusal st n < 0 := h1
   obtain ⟨x, N, rfl, rfl, hN, hfit⟩ := not_ref h1
   obtain ⟨wd, rfl, wa⟩ := hv
   obtain ⟨dw, fw, R, lt, lp, lw, as, ds, dps, dws, _, _, _, _, _, c⟩ := id wa
   rw [e2 x rfl h1, Int.toNat_natCast, count_eq c.g] at k
   refine ⟨_, rfl, p, C.cg, dx, _, _, rfl, hp, T.cl, T.nT, gf_get _, wd, dw, _, rfl, hide_le _ _ c.wd, of_no _ _ _ _ _ _ (by decide +kernel), _, rfl, _, x, wd, N, rfl, wa, hN, hfit, fun H1 s1 => ?_⟩
   refine ⟨(by show 1 ≤ sizeLine; decide), fun q hq => ?_⟩
   exact k _ q (.of tB (s1.trans (.new hq))) (gr.mono (s1.trans (.new hq))) upd_same (s1.free hq)
def spOften (C : Cl) : Sp := fun vs H Q _ => ∃ (B : Addr → Prop) (p : Addr) (s : Kg35.State) (n : Int) (c : Nat), vs = [.ref p, .int n, .int (c : Int)] ∧ Taken B H ∧ GrowAt C B H p s ∧ Answered C p B H Q (stepA s (.often n c)).1 (stepA s (.often n c)).2
abbrev st_Grower_often : Stmt := inClass (top 68) 4
theorem sc_Grower_often : FnScope ["self", "n", "sign", "refusal"] ["self", "n", "sign"] (defScope st_Grower_often) := ⟨rfl, rfl, rfl, by decide +kernel, rfl, by decide +kernel, by decide +kernel⟩
theorem ok_often {f : Addr} {fd : FuncData} (F : Fun K "often" "Grower.often" st_Grower_often f fd) (T : TxtG K mg C.cg) (TO : TxtO K C.co) (D_refusal : Mth P w K mg base C.cg "refusal_of" 2 ["self", "n"] (spRefusal C)) (D_times : Mth P w K mg base C.co "times" 1 ["self", "n", "sign"] (spTimes C.cp C.cw C.co)) :
  FnOk P w K mg base CX0 3 f fd ["self", "n", "sign"] (spOften C) := by
 refine F.ok sc_Grower_often (fun vs H Q E h => ?_) (fun cdv A outer s H vs Q E hr h => ?_)
 ·obtain ⟨B, p, st, n, c, rfl, _⟩ := h
  rfl
 ·obtain ⟨B, p, st, n, c, rfl, tB, gr, k⟩ := h
  obtain ⟨dx, v, hp, nB, hv⟩ := id gr
  refine ⟨_, (pss_cons (ps_set (i := 3) sc_Grower_often.nd rfl (Or.inl rfl) (pe_mth (pv 0) T.cl D_refusal (hr.mono (by decide)) (pa_cons (pv 1) pa_nil)))
   (pss_cons (ps_if (pt_cmpR op_lt (pv 3) pe_int (nomark _))
   (pss_one (ps_ret (pe_lst (pa_cons (pv 3) pa_nil))))
   pss_nil)
   (pss_one (ps_ret (pe_lst (pa_cons (pe_mth (pe_fld (pv 0) rfl) TO.cl D_times (hr.mono (by decide)) (pa_cons (pv 1) (pa_cons (pv 2) pa_nil))) pa_nil)))))), ?_⟩
  obtain ⟨e1, e2⟩ := stepA_asked st (.often n c) n (fun x n => Kg35.num (x.times n c)) rfl
  refine ⟨_, rfl, p, dx, _, rfl, hp, gf_no _ (by decide +kernel), _, rfl, B, p, st, n, rfl, gr, ?_⟩
  refine ⟨_, rfl, _, _, rfl, rfl, _, rfl, ?_⟩
  refine iteD (fun h1 => ?_) (fun h1 => ?_)
  ·have h1 : refusal st n < 0 := h1
   rw [e1 h1] at k
   refine ⟨_, rfl, (by show 1 ≤ sizeLine; decide), fun q hq => ?_⟩
   exact k _ q (.of tB (.new hq)) (gr.mono (.new hq)) upd_same hq
  ·have h1 : ¬ refusal st n < 0 := h1
   obtain ⟨x, N, rfl, rfl, hN, hfit⟩ := not_ref h1
   obtain ⟨wd, rfl, wa⟩ := hv
   obtain ⟨dw, fw, R, lt, lp, lw, as, ds, dps, dws, _, _, _, _, _, co⟩ := id wa
   rw [e2 x rfl h1, Int.toNat_natCast] at k
   refine ⟨_, rfl, p, C.cg, dx, _, _, rfl, hp, T.cl, T.nT, gf_get _, wd, dw, _, rfl, hide_le _ _ co.wd, of_no _ _ _ _ _ _ (by decide +kernel), _, rfl, _, rfl, _, x, wd, N, c, rfl, wa, hN, hfit, ?_⟩
   refine ⟨(by show 1 ≤ sizeLine; decide), fun q hq => ?_⟩
   exact k _ q (.of tB (.new hq)) (gr.mono (.new hq)) upd_same hq
def spPart (C : Cl) : Sp := fun vs H Q _ => ∃ (B : Addr → Prop) (p : Addr) (s : Kg35.State) (n fi mo : Int), vs = [.ref p, .int n, .int fi, .int mo] ∧ Taken B H ∧ GrowAt C B H p s ∧ (stepA s (.part n fi mo)).2.length ≤ 1000100 ∧ Answered C p B H Q (stepA s (.part n fi mo)).1 (stepA s (.part n fi mo)).2
abbrev st_Grower_part : Stmt := inClass (top 68) 5
theorem sc_Grower_part : FnScope ["self", "n", "first", "most", "refusal", "signs"] ["self", "n", "first", "most"] (defScope st_Grower_part) := ⟨rfl, rfl, rfl, by decide +kernel, rfl, by decide +kernel, by decide +kernel⟩
theorem vi_vw (v : Kg35.Word) : vi (v.map fun (c : Nat) => (c : Int)) = vw v := by
 show List.map _ (List.map _ v) = _
 rw [List.map_map]; rfl
theorem ok_part {f : Addr} {fd : FuncData} (F : Fun K "part" "Grower.part" st_Grower_part f fd) (T : TxtG K mg C.cg) (T0 : Txt K mg) (TO : TxtO K C.co) (D_refusal : Mth P w K mg base C.cg "refusal_of" 2 ["self", "n"] (spRefusal C)) (D_piece_of : Mth P w K mg base C.co "piece_of" 6 ["self", "n"] (spPieceOf C.cp C.cw C.co))
  (D_signs_from : Dfn P w K mg base "signs_from" 1 ["piece", "first", "most"] (spFrom C.cp)) : FnOk P w K mg base CX0 7 f fd ["self", "n", "first", "most"] (spPart C) := by
 refine F.ok sc_Grower_part (fun vs H Q E h => ?_) (fun cdv A outer s H vs Q E hr h => ?_)
 ·obtain ⟨B, p, st, n, fi, mo, rfl, _⟩ := h
  rfl
 ·obtain ⟨B, p, st, n, fi, mo, rfl, tB, gr, hbig, k⟩ := h
  obtain ⟨dx, v, hp, nB, hv⟩ := id gr
  refine ⟨_, (pss_cons (ps_if (PW.pt (pw_or (pt_cmpR op_lt (pv 2) pe_int (nomark _)) (pw_or1 (pt_cmpR op_lt (pv 3) pe_int (nomark _)))))
   (pss_one (ps_ret (pe_lst (pa_cons (pe_gi rfl T.OUT_OF_RANGE) pa_nil))))
   pss_nil)
   (pss_cons (ps_set (i := 4) sc_Grower_part.nd rfl (Or.inl rfl) (pe_mth (pv 0) T.cl D_refusal (hr.mono (by decide)) (pa_cons (pv 1) pa_nil)))
   (pss_cons (ps_if (pt_cmpR op_lt (pv 4) pe_int (nomark _))
   (pss_one (ps_ret (pe_lst (pa_cons (pv 4) pa_nil))))
   pss_nil)
   (pss_cons (ps_set (i := 5) sc_Grower_part.nd rfl (Or.inl rfl) (pe_dfn D_signs_from (hr.mono (by decide)) rfl (pa_cons (pe_mth (pe_fld (pv 0) rfl) TO.cl D_piece_of (hr.mono (by decide)) (pa_cons (pv 1) pa_nil)) (pa_cons (pv 2) (pa_cons (pv 3) pa_nil)))))
   (pss_one (ps_ret (pe_op op_cat (pe_lst (pa_cons (pe_callB call_len_seq (by rfl) T0.b_len PySem.boot_len (pa_cons (pv 5) pa_nil)) pa_nil)) (pv 5)))))))), ?_⟩
  have short : ∀ z : Int, stepA st (.part n fi mo) = (st, [z]) → ∀ q, H q = none → Q (.ref q) (upd H q (.lst [.int z])) := fun z e q hq => by
   rw [e] at k
   exact k _ q (.of tB (.new hq)) (gr.mono (.new hq)) upd_same hq
  refine ⟨_, rfl, _, _, rfl, rfl, _, rfl, ?_⟩
  refine iteD (fun h1 => ?_) (fun h1 => ?_)
  ·have h1 : fi < 0 := h1
   exact ⟨(by show 1 ≤ sizeLine; decide), short _ (stepA_part_below (.inl h1))⟩
  have h1 : ¬ fi < 0 := h1
  refine ⟨_, rfl, _, _, rfl, rfl, _, rfl, ?_⟩
  refine iteD (fun h2 => ?_) (fun h2 => ?_)
  ·have h2 : mo < 0 := h2
   exact ⟨(by show 1 ≤ sizeLine; decide), short _ (stepA_part_below (.inr h2))⟩
  have h2 : ¬ mo < 0 := h2
  have h12 : ¬ (fi < 0 ∨ mo < 0) := fun z => z.elim h1 h2
  refine ⟨_, rfl, p, dx, _, rfl, hp, gf_no _ (by decide +kernel), _, rfl, B, p, st, n, rfl, gr, ?_⟩
  refine ⟨_, rfl, _, _, rfl, rfl, _, rfl, ?_⟩
  refine iteD (fun h3 => ?_) (fun h3 => ?_)
  ·have h3 : refusal st n < 0 := h3
   exact ⟨_, rfl, (by show 1 ≤ sizeLine; decide), short _ (stepA_part_refused h12 h3)⟩
  ·have h3 : ¬ refusal st n < 0 := h3
   obtain ⟨x, N, rfl, rfl, hN, hfit⟩ := not_ref h3
   obtain ⟨wd, rfl, wa⟩ := hv
   obtain ⟨dw, fw, R, lt, lp, lw, as, ds, dps, dws, _, _, _, _, _, c⟩ := id wa
   have tB' : Taken (fun b => B b ∨ b = p) H := fun b hb => hb.elim (tB b) fun z => by rw [z, hp]; exact fun z => nomatch z
   rw [stepA_part c.g h12 h3, Int.toNat_natCast] at k hbig
   obtain ⟨FI, rfl⟩ : ∃ N : Nat, fi = (N : Int) := ⟨fi.toNat, by omega⟩
   obtain ⟨MO, rfl⟩ : ∃ N : Nat, mo = (N : Int) := ⟨mo.toNat, by omega⟩
   rw [Int.toNat_natCast, Int.toNat_natCast] at k hbig
   have hbig : (((x.word N).drop FI).take MO).length + 1 ≤ 1000100 := by
    have : ((((((x.word N).drop FI).take MO).length : Int)) :: (((x.word N).drop FI).take MO).map fun (c : Nat) => (c : Int)).length ≤ 1000100 := hbig
    rw [List.length_cons, List.length_map] at this
    exact this
   refine ⟨_, rfl, p, C.cg, dx, _, _, rfl, hp, T.cl, T.nT, gf_get _, wd, dw, _, rfl, hide_le _ _ c.wd, of_no _ _ _ _ _ _ (by decide +kernel), _, rfl, _, x, wd, N, rfl, tB', wa, hN, fun H1 pc fr1 wa1 hpc => ?_⟩
   refine ⟨_, rfl, _, rfl, N + 2, pc, FI, MO, _, rfl, hpc, by omega, by omega, fun H2 l s2 fl hl => ?_⟩
   refine ⟨_, rfl, l, _, rfl, .inl (SqL.of hl), (by show 1 ≤ sizeLine; decide), fun q1 hq1 => ?_⟩
   have s3 : Same H2 (upd H2 q1 (.lst [.int ((vw (((x.word N).drop FI).take MO)).length : Nat)])) := .new hq1
   refine ⟨_, rfl, q1, l, _, _, rfl, rfl, upd_same, s3 _ _ hl, ?_, fun q hq => ?_⟩
   ·rw [List.length_map]; show 1 + _ ≤ 2 ^ 24; omega
   ·have sA := s2.trans (s3.trans (Same.new (o := .lst ([V.int ((vw (((x.word N).drop FI).take MO)).length : Nat)] ++ vw (((x.word N).drop FI).take MO))) hq))
    have hp1 : H1 p = some (.ins C.cg dx (gf (.ref wd))) := by rw [fr1.same p (.inr rfl)]; exact hp
    refine k _ q ((fr1.sub fun b h => .inl h).trans (.of ((fr1.sub fun b h => .inl h).taken tB) sA)) ⟨dx, .ref wd, sA _ _ hp1, nB, wd, rfl, wa1.mono sA⟩ ?_ (fr1.dom q ((s2.trans s3).free hq))
    rw [upd_same]
    show _ = some (HO.lst (V.int _ :: vi (List.map _ _)))
    rw [vi_vw, List.length_map]; rfl
def spWalk (C : Cl) : Sp := fun vs H Q _ => ∃ (B : Addr → Prop) (p : Addr) (s : Kg35.State) (n : Int), vs = [.ref p, .int n] ∧ Taken B H ∧ GrowAt C B H p s ∧ Answered C p B H Q (stepA s (.walk n)).1 (stepA s (.walk n)).2
abbrev st_Grower_walk : Stmt := inClass (top 68) 6
theorem sc_Grower_walk : FnScope ["self", "n", "refusal"] ["self", "n"] (defScope st_Grower_walk) := ⟨rfl, rfl, rfl, by decide +kernel, rfl, by decide +kernel, by decide +kernel⟩
theorem ok_walk {f : Addr} {fd : FuncData} (F : Fun K "walk" "Grower.walk" st_Grower_walk f fd) (T : TxtG K mg C.cg) (TO : TxtO K C.co) (D_refusal : Mth P w K mg base C.cg "refusal_of" 2 ["self", "n"] (spRefusal C)) (D_way_of : Mth P w K mg base C.co "way_of" 5 ["self", "n"] (spWayOf C.cp C.cw C.co))
  (D_told_of : Dfn P w K mg base "told_of" 1 ["way"] (spTold C.cw)) : FnOk P w K mg base CX0 6 f fd ["self", "n"] (spWalk C) := by
 refine F.ok sc_Grower_walk (fun vs H Q E h => ?_) (fun cdv A outer s H vs Q E hr h => ?_)
 ·obtain ⟨B, p, st, n, rfl, _⟩ := h
  rfl
 ·obtain ⟨B, p, st, n, rfl, tB, gr, k⟩ := h
  obtain ⟨dx, v, hp, nB, hv⟩ := id gr
  refine ⟨_, (pss_cons (ps_set (i := 2) sc_Grower_walk.nd rfl (Or.inl rfl) (pe_mth (pv 0) T.cl D_refusal (hr.mono (by decide)) (pa_cons (pv 1) pa_nil)))
   (pss_cons (ps_if (pt_cmpR op_lt (pv 2) pe_int (nomark _))
   (pss_one (ps_ret (pe_lst (pa_cons (pv 2) pa_nil))))
   pss_nil)
   (pss_one (ps_ret (pe_op op_cat (pe_lst (pa_cons pe_int pa_nil)) (pe_dfn D_told_of (hr.mono (by decide)) rfl (pa_cons (pe_mth (pe_fld (pv 0) rfl) TO.cl D_way_of (hr.mono (by decide)) (pa_cons (pv 1) pa_nil)) pa_nil))))))), ?_⟩
  refine ⟨_, rfl, p, dx, _, rfl, hp, gf_no _ (by decide +kernel), _, rfl, B, p, st, n, rfl, gr, ?_⟩
  refine ⟨_, rfl, _, _, rfl, rfl, _, rfl, ?_⟩
  refine iteD (fun h1 => ?_) (fun h1 => ?_)
  ·have h1 : refusal st n < 0 := h1
   rw [stepA_walk_refused h1] at k
   refine ⟨_, rfl, (by show 1 ≤ sizeLine; decide), fun q hq => ?_⟩
   exact k _ q (.of tB (.new hq)) (gr.mono (.new hq)) upd_same hq
  ·have h1 : ¬ refusal st n < 0 := h1
   obtain ⟨x, N, rfl, rfl, hN, hfit⟩ := not_ref h1
   obtain ⟨wd, rfl, wa⟩ := hv
   refine ⟨(by show 1 ≤ sizeLine; decide), fun q0 hq0 => ?_⟩
   have s0 : Same H (upd H q0 (.lst [.int 0])) := .new hq0
   have wa0 := wa.mono s0
   have hp0 := s0 _ _ hp
   have hq00 : upd H q0 (.lst [.int 0]) q0 = some (.lst [.int 0]) := upd_same
   generalize upd H q0 (.lst [.int 0]) = H0 at s0 wa0 hp0 hq00
   obtain ⟨dw, fw, R, lt, lp, lw, as, ds, dps, dws, _, _, _, _, _, c⟩ := id wa0
   rw [stepA_walk c.g h1, Int.toNat_natCast] at k
   have tB' : Taken (fun b => B b ∨ b = p) H0 := fun b hb => hb.elim (fun z => tB.mono s0 b z) fun z => by rw [z, hp0]; exact fun z => nomatch z
   have tB0 : Taken (fun b => (B b ∨ b = p) ∨ b = q0) H0 := fun b hb => hb.elim (tB' b) fun z => by rw [z, hq00]; exact fun z => nomatch z
   have wa1 : WordsAt C.cp C.cw C.co (fun b => (B b ∨ b = p) ∨ b = q0) H0 wd x := by
    obtain ⟨dw, fw, R, lt, lp, lw, as, ds, dps, dws, n1, n2, n3, e1, e2, co⟩ := wa
    refine ⟨dw, fw, R, lt, lp, lw, as, ds, dps, dws, n1, fun z => z.elim n2 (ne_of_none e1 hq0), fun z => z.elim n3 (ne_of_none e2 hq0), s0 _ _ e1, s0 _ _ e2, co.mono fun b o e => ?_⟩
    have nb := hide_out e
    have e := hide_le _ _ e
    exact hide_in (fun z => z.elim (fun z => z.elim (fun z => nb (.inl z)) (ne_of_none e hq0)) fun z => nb (.inr z)) (s0 b o e)
   refine ⟨_, rfl, p, C.cg, dx, _, _, rfl, hp0, T.cl, T.nT, gf_get _, wd, dw, _, rfl, hide_le _ _ c.wd, of_no _ _ _ _ _ _ (by decide +kernel), _, rfl, _, x, wd, N, rfl, tB0, wa1, hN, fun H1 pc fr1 wa2 hpc => ?_⟩
   refine ⟨x.turns, pc, _, rfl, c.g.turns, hpc, fun H2 l s2 fl hl => ?_⟩
   have hq01 : H1 q0 = some (.lst [.int 0]) := by rw [fr1.same q0 (.inr rfl)]; exact hq00
   have hp1 : H1 p = some (.ins C.cg dx (gf (.ref wd))) := by rw [fr1.same p (.inl (.inr rfl))]; exact hp0
   refine ⟨q0, l, _, _, rfl, rfl, s2 _ _ hq01, hl, (by show 8 ≤ sizeLine; decide), fun q hq => ?_⟩
   have sA := s2.trans (Same.new (o := .lst ([V.int 0] ++ vi (legInts (legOf x.turns (x.word N) 0)))) hq)
   have frB : Frame B H0 H1 := fr1.sub fun b h => .inl (.inl h)
   have waB : WordsAt C.cp C.cw C.co (fun b => B b ∨ b = p) H1 wd x := by
    obtain ⟨dw, fw, R, lt, lp, lw, as, ds, dps, dws, n1, n2, n3, e1, e2, co⟩ := wa2
    exact ⟨dw, fw, R, lt, lp, lw, as, ds, dps, dws, n1, fun z => n2 (.inl z), fun z => n3 (.inl z), e1, e2, co.mono (hide_hide fun b z => z.elim (fun z => .inl (.inl z)) .inr)⟩
   exact k _ q ((Frame.of tB s0).trans (frB.trans (.of (frB.taken (tB.mono s0)) sA))) ⟨dx, .ref wd, sA _ _ hp1, nB, wd, rfl, waB.mono sA⟩ upd_same (s0.free (fr1.dom q (s2.free hq)))
end
end Gw
end
section
namespace Gw
open PySem PySem.Spec PyProof.Rows L2
section
variable {P : Program} {w : World} {K : PySem.W.Frag} {mg : Str → Option Value} {base : Heap} {C : Cl}
def spPicture (C : Cl) : Sp := fun vs H Q _ => ∃ (B : Addr → Prop) (p : Addr) (s : Kg35.State) (n x y wd ht : Int), vs = [.ref p, .int n, .int x, .int y, .int wd, .int ht] ∧ Taken B H ∧ GrowAt C B H p s ∧ (Ask.picture n x y wd ht).short s ∧ Answered C p B H Q (stepA s (.picture n x y wd ht)).1 (stepA s (.picture n x y wd ht)).2
abbrev st_Grower_picture : Stmt := inClass (top 68) 7
theorem sc_Grower_picture : FnScope ["self", "n", "x", "y", "width", "height", "refusal", "many", "signs", "points"] ["self", "n", "x", "y", "width", "height"] (defScope st_Grower_picture) := ⟨rfl, rfl, rfl, by decide +kernel, rfl, by decide +kernel, by decide +kernel⟩
theorem ok_picture {f : Addr} {fd : FuncData} (F : Fun K "picture" "Grower.picture" st_Grower_picture f fd) (T : TxtG K mg C.cg) (TO : TxtO K C.co) (D_refusal : Mth P w K mg base C.cg "refusal_of" 2 ["self", "n"] (spRefusal C)) (D_piece_of : Mth P w K mg base C.co "piece_of" 6 ["self", "n"] (spPieceOf C.cp C.cw C.co))
  (D_signs_of : Mth P w K mg base C.co "signs_of" 2 ["self", "n"] (spSignsOf C.cp C.cw C.co)) (D_signs_from : Dfn P w K mg base "signs_from" 1 ["piece", "first", "most"] (spFrom C.cp)) (D_drawn_points : Dfn P w K mg base "drawn_points" 3 ["signs", "directions"] (spDrawn K))
  (D_picture_of : Dfn P w K mg base "picture_of" 1 ["points", "x", "y", "width", "height"] spPicOf) : FnOk P w K mg base CX0 7 f fd ["self", "n", "x", "y", "width", "height"] (spPicture C) := by
 refine F.ok sc_Grower_picture (fun vs H Q E h => ?_) (fun cdv A outer s H vs Q E hr h => ?_)
 ·obtain ⟨B, p, st, n, x0, y0, wi, he, rfl, _⟩ := h
  rfl
 ·obtain ⟨B, p, st, n, x0, y0, wi, he, rfl, tB, gr, hshort, k⟩ := h
  obtain ⟨dx, v, hp, nB, hv⟩ := id gr
  refine ⟨_, (pss_cons (ps_if (PW.pt (pw_or (pt_not (pt_chain op_le op_le pe_int (pv 4) (pe_gi rfl T.WIDEST))) (pw_or1 (pt_not (pt_chain op_le op_le pe_int (pv 5) (pe_gi rfl T.WIDEST))))))
   (pss_one (ps_ret (pe_lst (pa_cons (pe_gi rfl T.OUT_OF_RANGE) pa_nil))))
   pss_nil)
   (pss_cons (ps_set (i := 6) sc_Grower_picture.nd rfl (Or.inl rfl) (pe_mth (pv 0) T.cl D_refusal (hr.mono (by decide)) (pa_cons (pv 1) pa_nil)))
   (pss_cons (ps_if (pt_cmpR op_lt (pv 6) pe_int (nomark _))
   (pss_one (ps_ret (pe_lst (pa_cons (pv 6) pa_nil))))
   pss_nil)
   (pss_cons (ps_set (i := 7) sc_Grower_picture.nd rfl (Or.inl rfl) (pe_mth (pe_fld (pv 0) rfl) TO.cl D_signs_of (hr.mono (by decide)) (pa_cons (pv 1) pa_nil)))
   (pss_cons (ps_if (pt_cmpR op_ge (pv 7) (pe_gi rfl T.TOO_MANY_TO_DRAW) (nomark _))
   (pss_one (ps_ret (pe_lst (pa_cons (pe_gi rfl T.TOO_LONG) pa_nil))))
   pss_nil)
   (pss_cons (ps_set (i := 8) sc_Grower_picture.nd rfl (Or.inl rfl) (pe_dfn D_signs_from (hr.mono (by decide)) rfl (pa_cons (pe_mth (pe_fld (pv 0) rfl) TO.cl D_piece_of (hr.mono (by decide)) (pa_cons (pv 1) pa_nil)) (pa_cons pe_int (pa_cons (pv 7) pa_nil)))))
   (pss_cons (ps_set (i := 9) sc_Grower_picture.nd rfl (Or.inl rfl) (pe_dfn D_drawn_points (hr.mono (by decide)) rfl (pa_cons (pv 8) (pa_cons (pe_fld (pe_fld (pv 0) rfl) rfl) pa_nil))))
   (pss_one (ps_ret (pe_op op_cat (pe_lst (pa_cons pe_int pa_nil)) (pe_dfn D_picture_of (hr.mono (by decide)) rfl (pa_cons (pv 9) (pa_cons (pv 2) (pa_cons (pv 3) (pa_cons (pv 4) (pa_cons (pv 5) pa_nil)))))))))))))))), ?_⟩
  have short1 : ∀ z : Int, stepA st (.picture n x0 y0 wi he) = (st, [z]) → ∀ {H1 : Hp}, Same H H1 → ∀ q, H1 q = none → Q (.ref q) (upd H1 q (.lst [.int z])) := fun z e {H1} s1 q hq => by
   rw [e] at k
   exact k _ q (.of tB (s1.trans (.new hq))) (gr.mono (s1.trans (.new hq))) upd_same (s1.free hq)
  have bad : (wi < 1 ∨ he < 1 ∨ 1024 < wi ∨ 1024 < he) → ∀ q, H q = none → Q (.ref q) (upd H q (.lst [.int (-8)])) := fun z => short1 _ (stepA_picture_below z) (.refl H)
  refine ⟨_, rfl, _, _, rfl, rfl, _, rfl, ?_⟩
  refine iteD (fun h1 => ?_) (fun h1 => ?_)
  rotate_left
  ·have h1 : ¬ 1 ≤ wi := h1
   exact ⟨_, rfl, (by show 1 ≤ sizeLine; decide), bad (.inl (by omega))⟩
  have h1 : 1 ≤ wi := h1
  obtain ⟨b2, hb2⟩ : ∃ b : Bool, decide (wi ≤ 1024) = b := ⟨_, rfl⟩
  refine ⟨_, _, rfl, rfl, b2, congrArg V.bl hb2, ?_⟩
  cases b2 with
  | false =>
   have h2 : ¬ wi ≤ 1024 := of_decide_eq_false hb2
   exact ⟨(by show 1 ≤ sizeLine; decide), bad (.inr (.inr (.inl (by omega))))⟩
  | true =>
  have h2 : wi ≤ 1024 := of_decide_eq_true hb2
  refine ⟨_, rfl, _, _, rfl, rfl, _, rfl, ?_⟩
  refine iteD (fun h3 => ?_) (fun h3 => ?_)
  rotate_left
  ·have h3 : ¬ 1 ≤ he := h3
   exact ⟨_, rfl, (by show 1 ≤ sizeLine; decide), bad (.inr (.inl (by omega)))⟩
  have h3 : 1 ≤ he := h3
  obtain ⟨b4, hb4⟩ : ∃ b : Bool, decide (he ≤ 1024) = b := ⟨_, rfl⟩
  refine ⟨_, _, rfl, rfl, b4, congrArg V.bl hb4, ?_⟩
  cases b4 with
  | false =>
   have h4 : ¬ he ≤ 1024 := of_decide_eq_false hb4
   exact ⟨(by show 1 ≤ sizeLine; decide), bad (.inr (.inr (.inr (by omega))))⟩
  | true =>
  have h4 : he ≤ 1024 := of_decide_eq_true hb4
  have hw : ¬ (wi < 1 ∨ he < 1 ∨ 1024 < wi ∨ 1024 < he) := by omega
  refine ⟨_, rfl, p, dx, _, rfl, hp, gf_no _ (by decide +kernel), _, rfl, B, p, st, n, rfl, gr, ?_⟩
  refine ⟨_, rfl, _, _, rfl, rfl, _, rfl, ?_⟩
  refine iteD (fun h5 => ?_) (fun h5 => ?_)
  ·have h5 : refusal st n < 0 := h5
   exact ⟨_, rfl, (by show 1 ≤ sizeLine; decide), short1 _ (stepA_picture_refused hw h5) (.refl H)⟩
  have h5 : ¬ refusal st n < 0 := h5
  obtain ⟨x, N, rfl, rfl, hN, hfit⟩ := not_ref h5
  obtain ⟨wd, rfl, wa⟩ := hv
  obtain ⟨dw, fw, R, lt, lp, lw, as, ds, dps, dws, _, _, _, _, _, c⟩ := id wa
  refine ⟨_, rfl, p, C.cg, dx, _, _, rfl, hp, T.cl, T.nT, gf_get _, wd, dw, _, rfl, hide_le _ _ c.wd, of_no _ _ _ _ _ _ (by decide +kernel), _, rfl, _, x, wd, N, rfl, wa, hN, hfit, fun H1 s1 => ?_⟩
  obtain ⟨b6, hb6⟩ : ∃ b : Bool, decide ((16777216 : Int) ≤ ((x.word N).length : Nat)) = b := ⟨_, rfl⟩
  refine ⟨_, rfl, _, _, rfl, rfl, b6, congrArg V.bl hb6, ?_⟩
  cases b6 with
  | true =>
   have h6 : (16777216 : Int) ≤ ((x.word N).length : Nat) := of_decide_eq_true hb6
   exact ⟨(by show 1 ≤ sizeLine; decide), short1 _ (stepA_picture_long c.g hw h5 (by rw [Int.toNat_natCast]; omega)) s1⟩
  | false =>
  have h6 : ¬ (16777216 : Int) ≤ ((x.word N).length : Nat) := of_decide_eq_false hb6
  have h6' : ¬ 2 ^ 24 ≤ (x.word N).length := by omega
  have hsh := short_picture c.g hshort hw h5 (by rw [Int.toNat_natCast]; exact h6')
  rw [Int.toNat_natCast] at hsh
  rw [stepA_picture c.g hw h5 (by rw [Int.toNat_natCast]; exact h6'), Int.toNat_natCast] at k
  have wa1 := wa.mono s1
  have hp1 := s1 _ _ hp
  have tB1' : Taken (fun b => B b ∨ b = p) H1 := fun b hb => hb.elim (tB.mono s1 b) fun z => by rw [z, hp1]; exact fun z => nomatch z
  refine ⟨_, rfl, p, C.cg, dx, _, _, rfl, hp1, T.cl, T.nT, gf_get _, wd, dw, _, rfl, s1 _ _ (hide_le _ _ c.wd), of_no _ _ _ _ _ _ (by decide +kernel), _, rfl, _, x, wd, N, rfl, tB1', wa1, hN, fun H2 pc fr2 wa2 hpc => ?_⟩
  have hdt : ((x.word N).drop 0).take (x.word N).length = x.word N := by rw [List.drop_zero, List.take_length]
  refine ⟨_, rfl, N + 2, pc, 0, (x.word N).length, _, rfl, hpc, by omega, by rw [hdt]; omega, fun H3 l s3 fl hl => ?_⟩
  rw [hdt] at hl
  have hp2 : H2 p = some (.ins C.cg dx (gf (.ref wd))) := by rw [fr2.same p (.inr rfl)]; exact hp1
  have hp3 := s3 _ _ hp2
  have wa3 := wa2.mono s3
  obtain ⟨dw', fw', R', lt', lp', lw', as', ds', dps', dws', _, _, _, _, _, c3⟩ := id wa3
  have hbal : bal 0 (x.word N) = some 0 := by
   rw [word_eq, c.g.bal_grown]
   exact closed_iff.mp (wordOk_iff.mp c.g.first).2.1
  refine ⟨_, rfl, _, rfl, p, C.cg, dx, _, _, rfl, hp3, T.cl, T.nT, gf_get _, wd, C.co, dw', _, _, rfl, hide_le _ _ c3.wd, TO.cl, TO.n1, of_dirs _ _ _ _ _ _, l, x.turns, x.word N, rfl, c.g.turns, SqL.of hl, hbal, hsh, fun H4 d pts s4 hd hpts _ => ?_⟩
  obtain ⟨WI, rfl⟩ : ∃ N : Nat, wi = (N : Int) := ⟨wi.toNat, by omega⟩
  obtain ⟨HE, rfl⟩ : ∃ N : Nat, he = (N : Int) := ⟨he.toNat, by omega⟩
  rw [Int.toNat_natCast, Int.toNat_natCast, dots_row (x.walk N) x0 y0 WI HE (by omega) (L := pts) hpts] at k
  refine ⟨(by show 1 ≤ sizeLine; decide), fun q0 hq0 => ?_⟩
  have s5 : Same H4 (upd H4 q0 (.lst [.int 0])) := .new hq0
  refine ⟨_, rfl, _, rfl, _, rfl, _, rfl, _, rfl, d, pts, x0, y0, WI, HE, rfl, s5 _ _ hd, by omega, by omega, by omega, by omega, fun H6 r s6 fr hr6 => ?_⟩
  have hmul : WI * HE ≤ 1024 * 1024 := Nat.mul_le_mul (by omega) (by omega)
  refine ⟨q0, r, _, _, rfl, rfl, s6 _ _ upd_same, hr6, ?_, fun q hq => ?_⟩
  ·rw [List.length_map, List.length_map, List.length_range]; show 1 + _ ≤ 2 ^ 24; omega
  ·have sA := s3.trans (s4.trans (s5.trans (s6.trans (Same.new (o := .lst ([V.int 0] ++ vi ((List.range (WI * HE)).map (dotAt pts x0 y0 WI)))) hq))))
   have frB : Frame B H1 H2 := fr2.sub fun b h => .inl h
   exact k _ q ((Frame.of tB s1).trans (frB.trans (.of (frB.taken (tB.mono s1)) sA))) ⟨dx, .ref wd, sA _ _ hp2, nB, wd, rfl, wa2.mono sA⟩ upd_same (s1.free (fr2.dom q ((s3.trans (s4.trans (s5.trans s6))).free hq)))
def spRead (K : PySem.W.Frag) (C : Cl) : Sp := fun vs H Q _ => ∃ (B : Addr → Prop) (p a : Addr) (s : Kg35.State) (t : Kg35.Word), vs = [.ref p, .ref a] ∧ Taken B H ∧ GrowAt C B H p s ∧ SqL K H a (vw t) ∧ t.length ≤ 4096 ∧ Answered C p B H Q (stepA s (.read t)).1 (stepA s (.read t)).2
abbrev st_Grower_read : Stmt := inClass (top 68) 2
theorem sc_Grower_read : FnScope ["self", "text", "lines", "wrong", "rules"] ["self", "text"] (defScope st_Grower_read) := ⟨rfl, rfl, rfl, by decide +kernel, rfl, by decide +kernel, by decide +kernel⟩
theorem stepA_wrong {s : Kg35.State} {t : Kg35.Word} {k : Nat} (h : Kg35.read t = .error k) : stepA s (.read t) = (none, [-100 - (k : Int)]) := by
 show ((Kg35.does s (.read (some t))).1, _) = _
 have e : Kg35.does s (.read (some t)) = (none, Kg35.num (-100 - (k : Int))) := by
  show (match Kg35.read t with | .error k => _ | .ok x => _) = _
  rw [h]
 rw [show (Ask.read t).call = .read (some t) from rfl, e]; rfl
theorem stepA_read {s : Kg35.State} {t : Kg35.Word} {x : Kg35.Rules} (h : Kg35.read t = .ok x) : stepA s (.read t) = (some x, [(x.rules.length : Int)]) := by
 show ((Kg35.does s (.read (some t))).1, _) = _
 have e : Kg35.does s (.read (some t)) = (some x, Kg35.num x.rules.length) := by
  show (match Kg35.read t with | .error k => _ | .ok x => _) = _
  rw [h]
 rw [show (Ask.read t).call = .read (some t) from rfl, e]; rfl
theorem SqL.but {H H' : Hp} {a p C dx : Addr} {fs : List (Str × V)} {xs : List V} (hp : H p = some (.ins C dx fs)) (k : But p H H') (h : SqL K H a xs) : SqL K H' a xs := by
 rcases h with (h | ⟨o, h⟩) | h
 ·exact .inl (.inl (k _ _ h (fun z => by rw [z, hp] at h; cases h)))
 ·exact .inl (.inr ⟨o, k _ _ h (fun z => by rw [z, hp] at h; cases h)⟩)
 ·exact .inr h
abbrev MkO (P : Program) (w : World) (K : PySem.W.Frag) (mg : Str → Option Value) (base : Heap) (C : Cl) : Prop := MkrA P w K mg base "Words" C.co 6 ["self", "directions", "first_word", "rules"] (spWordsInit C.cp C.cw C.co)
theorem ok_read {f : Addr} {fd : FuncData} (F : Fun K "read" "Grower.read" st_Grower_read f fd) (T : TxtG K mg C.cg) (T0 : Txt K mg) (M : MkO P w K mg base C) (D_lines_of : Dfn P w K mg base "lines_of" 1 ["text"] (spLines K)) (D_first_wrong_line : Dfn P w K mg base "first_wrong_line" 6 ["lines"] spWrong)
  (D_rules_of : Dfn P w K mg base "rules_of" 1 ["lines"] spRules) (D_directions_of : Dfn P w K mg base "directions_of" 1 ["lines"] spDirs) (D_first_word_of : Dfn P w K mg base "first_word_of" 1 ["lines"] spFirst) : FnOk P w K mg base CX0 8 f fd ["self", "text"] (spRead K C) := by
 refine F.ok sc_Grower_read (fun vs H Q E h => ?_) (fun cdv A outer s H vs Q E hr h => ?_)
 ·obtain ⟨B, p, a, st, t, rfl, _⟩ := h
  rfl
 ·obtain ⟨B, p, a, st, t, rfl, tB, ⟨dx, v, hp, nB, hv⟩, hS, hlen, k⟩ := h
  refine ⟨_, (pss_cons (ps_fld (pv 0) pe_non rfl)
   (pss_cons (ps_set (i := 2) sc_Grower_read.nd rfl (Or.inl rfl) (pe_dfn D_lines_of (hr.mono (by decide)) rfl (pa_cons (pv 1) pa_nil)))
   (pss_cons (ps_set (i := 3) sc_Grower_read.nd rfl (Or.inl rfl) (pe_dfn D_first_wrong_line (hr.mono (by decide)) rfl (pa_cons (pv 2) pa_nil)))
   (pss_cons (ps_if (pt_cmpR op_gt (pv 3) pe_int (nomark _))
   (pss_one (ps_ret (pe_lst (pa_cons (pe_op op_sub (pe_gi rfl T.WRONG_LINE) (pv 3)) pa_nil))))
   pss_nil)
   (pss_cons (ps_set (i := 4) sc_Grower_read.nd rfl (Or.inl rfl) (pe_dfn D_rules_of (hr.mono (by decide)) rfl (pa_cons (pv 2) pa_nil)))
   (pss_cons (ps_fld (pv 0) (pe_mkrA M (hr.mono (by decide)) rfl (pa_cons (pe_dfn D_directions_of (hr.mono (by decide)) rfl (pa_cons (pv 2) pa_nil)) (pa_cons (pe_dfn D_first_word_of (hr.mono (by decide)) rfl (pa_cons (pv 2) pa_nil)) (pa_cons (pv 4) pa_nil)))) rfl)
   (pss_one (ps_ret (pe_lst (pa_cons (pe_callB call_lenD (by rfl) T0.b_len PySem.boot_len (pa_cons (pv 4) pa_nil)) pa_nil)))))))))), ?_⟩
  refine ⟨_, rfl, p, C.cg, dx, _, rfl, hp, T.cl, T.nT, (by show 1 < 1000; decide), ?_⟩
  rw [gf_put]
  have b1 : But p H (upd H p (.ins C.cg dx (gf .non))) := .upd
  have hp1 : upd H p (.ins C.cg dx (gf .non)) p = some (.ins C.cg dx (gf .non)) := upd_same
  have hS1 := SqL.but hp b1 hS
  have f1 : Frame B H (upd H p (.ins C.cg dx (gf .non))) := Frame.upd nB (by rw [hp]; exact fun z => nomatch z)
  generalize upd H p (.ins C.cg dx (gf .non)) = H1 at b1 hp1 hS1 f1
  have tB1 := f1.taken tB
  refine ⟨_, rfl, a, t, rfl, hS1, hlen, fun H2 l ls s2 frl L => ?_⟩
  have ll := linesOf_len t []
  have hl5 : (Kg35.linesOf t []).length ≤ 5000 := by omega
  refine ⟨_, rfl, l, ls, _, rfl, L, hl5, fun H3 s3 => ?_⟩
  have s13 := s2.trans s3
  refine ⟨_, rfl, _, _, rfl, rfl, _, rfl, ?_⟩
  refine iteD (fun h1 => ?_) (fun h1 => ?_)
  ·have h1 : (0 : Int) < (wrongOf (Kg35.linesOf t []) : Nat) := h1
   have e := stepA_wrong (s := st) (read_wrong t (by omega))
   rw [e] at k
   refine ⟨_, rfl, _, _, rfl, rfl, (by show 1 ≤ sizeLine; decide), fun q hq => ?_⟩
   have s14 : Same H1 (upd H3 q (.lst [.int (-100 - ((wrongOf (Kg35.linesOf t []) : Nat) : Int))])) := s13.trans (.new hq)
   exact k _ q (f1.trans (.of tB1 s14)) ⟨dx, .non, s14 _ _ hp1, nB, rfl⟩ upd_same (f1.dom q (s13.free hq))
  ·have h1 : ¬ (0 : Int) < (wrongOf (Kg35.linesOf t []) : Nat) := h1
   obtain ⟨d, v1, r, m, el, hd, hw, hm, hx⟩ := read_right t (by omega)
   have e := stepA_read (s := st) hx
   rw [e] at k
   have g := read_good hx
   rw [el] at L hl5
   have told := rules_told hm
   have rl : r.length ≤ 5000 := by rw [List.length_cons, List.length_cons] at hl5; omega
   have L3 := L.mono s3
   refine ⟨_, rfl, l, ls, d, v1, r, m, rfl, L3, rl, hm, fun H4 D as s4 fD R => ?_⟩
   have s14 := s13.trans s4
   have L4 := L3.mono s4
   refine ⟨_, rfl, l, ls, d, v1 :: r, rfl, L4, hd, fun H5 s5 => ?_⟩
   have s15 := s14.trans s5
   have L5 := L4.mono s5
   refine ⟨_, rfl, l, ls, d, v1, r, rfl, L5, fun a1 m1 ha1 => ⟨_, rfl, fun wd dw hwd hdw ne => ?_⟩⟩
   have s16 : Same H5 (upd (upd H5 dw (.own wd)) wd (.ins C.co dw [])) := fun q o e => by rw [upd_ne (ne_of_none e hwd), upd_ne (ne_of_none e hdw)]; exact e
   have hwd6 : upd (upd H5 dw (.own wd)) wd (.ins C.co dw []) wd = some (.ins C.co dw []) := upd_same
   generalize upd (upd H5 dw (.own wd)) wd (.ins C.co dw []) = H6 at s16 hwd6
   have s06 := s15.trans s16
   have hp6 := s06 _ _ hp1
   have tB1' : Taken (fun b => B b ∨ b = p) H1 := fun b hb => hb.elim (tB1 b) fun z => by rw [z, hp1]; exact fun z => nomatch z
   have tB6 : Taken (fun b => B b ∨ b = p) H6 := tB1'.mono s06
   have fwd1 : H1 wd = none := s15.free hwd
   have hin : ∀ {b : Addr} {o : HO}, H1 b = none → H5 b = some o → hide (fun b => (B b ∨ b = p) ∨ b = wd) H6 b = some o := fun {b o} e1 e2 => hide_in (fun z => z.elim (tB1'.new e1) (ne_of_none e2 hwd)) (s16 _ _ e2)
   have R5 : Refs (hide (fun b => (B b ∨ b = p) ∨ b = wd) H6) D as m WordAt := by
    refine R.mono (hin (s13.free (fD D (List.mem_cons_self ..))) (s5 _ _ R.dict)) fun b hb v hv => ?_
    exact hin (s13.free (fD b (List.mem_cons_of_mem _ hb))) (s5 _ _ hv)
   refine ⟨fun b => B b ∨ b = p, ⟨d.headD 0 - 48, v1, m⟩, wd, dw, a1, D, as, rfl, tB6, tB1'.new fwd1, hwd6, hin (frl a1 m1) ha1, R5, g, told.nd, by show m.length ≤ 5000; rw [told.len]; exact rl, fun H7 b7 wa => ⟨rfl, ?_⟩⟩
   have npw : p ≠ wd := fun z => by rw [← z, hp1] at fwd1; cases fwd1
   have hp7 := b7 _ _ hp6 npw
   refine ⟨_, rfl, p, C.cg, dx, _, rfl, hp7, T.cl, T.nT, (by show 1 < 1000; decide), ?_⟩
   rw [gf_put]
   have hD7 : H7 D = some (.dK (kvR m as)) := b7 _ _ (s16 _ _ (s5 _ _ R.dict)) (ne_of_none (s5 _ _ R.dict) hwd)
   have nDp : D ≠ p := fun z => by rw [z, hp7] at hD7; cases hD7
   have lenD : (kvR m as).length = m.length := by rw [List.length_zipWith, R.len]; omega
   refine ⟨_, rfl, D, _, rfl, by rw [upd_ne nDp]; exact hD7, (by show 1 ≤ sizeLine; decide), fun q hq => ?_⟩
   have hw7 : H7 wd ≠ none := by
    obtain ⟨dw2, fw, R2, lt, lp, lw, as2, ds, dps, dws, _, _, _, _, _, c⟩ := wa
    rw [hide_le _ _ c.wd]; exact fun z => nomatch z
   have fr7 : Frame B H6 H7 := Frame.but (tB1.mono s06) b7 (fun z => tB1.new fwd1 z) hw7
   have fr8 : Frame B H7 (upd H7 p (.ins C.cg dx (gf (.ref wd)))) := Frame.upd nB (by rw [hp7]; exact fun z => nomatch z)
   have fr := f1.trans ((Frame.of tB1 s06).trans (fr7.trans fr8))
   have s9 : Same (upd H7 p (.ins C.cg dx (gf (.ref wd)))) (upd (upd H7 p (.ins C.cg dx (gf (.ref wd)))) q (.lst [.int ((kvR m as).length : Nat)])) := .new hq
   refine k _ q (fr.trans (.of (fr.taken tB) s9)) ⟨dx, .ref wd, s9 _ _ upd_same, nB, wd, rfl, (wa.upd (.inr rfl)).mono s9⟩ ?_ (fr.dom q hq)
   rw [upd_same, lenD]; rfl
end
end Gw
end
section
namespace L2
open PySem PySem.Spec PyProof.Rows
def Mkr (P : Program) (w : World) (K : PySem.W.Frag) (mg : Str → Option Value) (base : Heap) (x : Str) (C : Addr) (k : Nat) (sp : Sp) : Prop :=
 ∃ (f : Addr) (fd : FuncData), Mk K C f ∧ FnOk P w K mg base CX0 k f fd ["self"] sp ∧ mg x = some (.ref C) ∧ Binds K fd ["self"] []
theorem pe_mkr {X : Cx} {k : Nat} {C : Addr} {sp : Sp} {x : Str} {p pos : Pos} (D : Mkr X.prog X.w X.K X.mg X.base x C k sp) (hr : Room (k + 1) X.A) (hg : Gl X x) (hdb : (x == ("__debug__" : Str)) = false := by decide) :
  PE X (.Call (.Name x p) [] [] pos) (tMake C sp [] E0 tNil) := by
 obtain ⟨f, fd, M, F, hm, hb⟩ := D
 exact pe_make0 M F hr hg hm hb .nil pass0 hdb
end L2
namespace Gw
open PySem PySem.Spec PyProof.Rows L2
theorem flat_ne (a : Ask) : 0 < a.flat.length := by cases a <;> simp [Ask.flat]
theorem at_flat {pre post : List Int} {a : Ask} {i : Nat} {z : Int} (h : a.flat[i]? = some z) : ((pre ++ a.flat ++ post).map V.int)[pre.length + i]? = some (V.int z) := by
 have hi := (List.getElem?_eq_some_iff.mp h).1
 rw [List.getElem?_map, List.append_assoc, List.getElem?_append_right (by omega), Nat.add_sub_cancel_left, List.getElem?_append_left hi, h]
 rfl
theorem playA_len : ∀ (as : List Ask) (s : Kg35.State), (playA s as).length = as.length + totalA s as
 | [], _ => rfl
 | a :: as, s => by
  show (((stepA s a).2.length : Int) :: (stepA s a).2 ++ playA (stepA s a).1 as).length = _
  rw [List.length_append, List.length_cons, List.length_cons, playA_len as]
  show (stepA s a).2.length + 1 + _ = as.length + 1 + ((stepA s a).2.length + totalA (stepA s a).1 as)
  omega
abbrev sizesV : List V := ([1, 2, 2, 3, 4, 2, 6] : List Nat).map fun (n : Nat) => V.int (n : Int)
structure TxtD (K : PySem.W.Frag) (mg : Str → Option Value) : Prop where
 BEGIN : GI mg "BEGIN" 0
 READ : GI mg "READ" 1
 LONG : GI mg "LONG" 2
 OFTEN : GI mg "OFTEN" 3
 PART : GI mg "PART" 4
 WALK : GI mg "WALK" 5
 SIZES : ∃ M : Addr, mg "SIZES" = some (.ref M) ∧ ∀ H, SqT K H M sizesV
theorem ask_shape (a : Ask) : ∃ c sz : Nat, c < 7 ∧ a.flat[0]? = some (c : Int) ∧ ([1, 2, 2, 3, 4, 2, 6] : List Nat)[c]? = some sz ∧ ((c = 1 ∧ ∃ L : Nat, a.flat[1]? = some (L : Int) ∧ a.flat.length = sz + L) ∨ (c ≠ 1 ∧ a.flat.length = sz)) := by
 cases a with
 | begin_ => exact ⟨0, 1, by decide, rfl, rfl, .inr ⟨by decide, rfl⟩⟩
 | read t => exact ⟨1, 2, by decide, rfl, rfl, .inl ⟨rfl, t.length, rfl, by simp [Ask.flat]; omega⟩⟩
 | long n => exact ⟨2, 2, by decide, rfl, rfl, .inr ⟨by decide, rfl⟩⟩
 | often n c => exact ⟨3, 3, by decide, rfl, rfl, .inr ⟨by decide, rfl⟩⟩
 | part n f m => exact ⟨4, 4, by decide, rfl, rfl, .inr ⟨by decide, rfl⟩⟩
 | walk n => exact ⟨5, 2, by decide, rfl, rfl, .inr ⟨by decide, rfl⟩⟩
 | picture n x y w h => exact ⟨6, 6, by decide, rfl, rfl, .inr ⟨by decide, rfl⟩⟩
section
variable {P : Program} {w : World} {K : PySem.W.Frag} {mg : Str → Option Value} {base : Heap} {C : Cl}
def spEnd (K : PySem.W.Frag) : Sp := fun vs H Q _ => ∃ (a : Addr) (pre post : List Int) (ask : Ask), vs = [.ref a, .int (pre.length : Int)] ∧ SqL K H a ((pre ++ ask.flat ++ post).map V.int) ∧ Q (.int ((pre ++ ask.flat).length : Nat)) H
abbrev st_end_of_call : Stmt := top 78
theorem sc_end_of_call : FnScope ["calls", "start", "number", "end"] ["calls", "start"] (defScope st_end_of_call) := ⟨rfl, rfl, rfl, by decide +kernel, rfl, by decide +kernel, by decide +kernel⟩
theorem ok_end_of_call {f : Addr} {fd : FuncData} (F : Fun K "end_of_call" "end_of_call" st_end_of_call f fd) (T : TxtD K mg) (T0 : Txt K mg) : FnOk P w K mg base CX0 1 f fd ["calls", "start"] (spEnd K) := by
 obtain ⟨M, mM, hM⟩ := T.SIZES
 refine F.ok sc_end_of_call (fun vs H Q E h => ?_) (fun cdv A outer s H vs Q E hr h => ?_)
 ·obtain ⟨a, pre, post, ask, rfl, _⟩ := h
  rfl
 ·obtain ⟨a, pre, post, ask, rfl, hS, k⟩ := h
  refine ⟨_, (pss_cons (ps_set (i := 2) sc_end_of_call.nd rfl (Or.inl rfl) (pe_ix ix_list (pv 0) (pv 1) (fun _ _ => rfl)))
   (pss_cons (ps_if (PW.pt (pw_or (pt_cmpR op_lt (pv 2) pe_int (nomark _)) (pw_or1 (pt_cmpR op_ge (pv 2) (pe_callB call_len_seq (by rfl) T0.b_len PySem.boot_len (pa_cons (pe_glob (v := .ref M) rfl mM rfl) pa_nil)) (nomark _)))))
   pss_never
   pss_nil)
   (pss_cons (ps_set (i := 3) sc_end_of_call.nd rfl (Or.inl rfl) (pe_op op_add (pv 1) (pe_ix ix_tup (pe_glob (v := .ref M) rfl mM rfl) (pv 2) (fun _ _ => rfl))))
   (pss_cons (ps_if (pt_cmpR op_eq (pv 2) (pe_gi rfl T.READ) (nomark _))
   (pss_one (ps_ret (pe_op op_add (pv 3) (pe_ix ix_list (pv 0) (pe_op op_add (pv 1) pe_int) (fun _ _ => rfl)))))
   pss_nil)
   (pss_one (ps_ret (pv 3))))))), ?_⟩
  have out : ∀ z : Int, z = ((pre ++ ask.flat).length : Nat) → Q (.int z) H := fun z e => by rw [e]; exact k
  obtain ⟨c, sz, hc, h0, hsz, hcase⟩ := ask_shape ask
  refine ⟨_, rfl, _, rfl, a, _, _, _, rfl, rfl, hS, at_of (j := pre.length + 0) (by omega) (at_flat h0), ?_⟩
  refine ⟨_, rfl, _, _, rfl, rfl, _, rfl, iteD (fun z => absurd (show (c : Int) < 0 from z) (by omega)) (fun _ => ?_)⟩
  refine ⟨_, rfl, M, _, rfl, .inr (hM H), _, _, rfl, rfl, _, rfl, iteD (fun z => absurd (show ((7 : Nat) : Int) ≤ (c : Int) from z) (by omega)) (fun _ => ?_)⟩
  refine ⟨_, rfl, _, rfl, M, _, _, _, rfl, rfl, hM H, at_of (j := c) rfl (by rw [List.getElem?_map, hsz]; rfl), _, _, rfl, rfl, ?_⟩
  refine ⟨_, rfl, rfl, _, rfl, iteD (fun h1 => ?_) (fun h1 => ?_)⟩
  ·have h1 : c = 1 := by have := int_eq.mp h1; omega
   rcases hcase with ⟨_, L, h2, h3⟩ | ⟨z, _⟩
   ·refine ⟨_, rfl, _, rfl, _, rfl, _, _, rfl, rfl, a, _, _, _, rfl, rfl, hS, at_of (j := pre.length + 1) (by omega) (at_flat h2), _, _, rfl, rfl, out _ ?_⟩
    rw [List.length_append, h3]; omega
   ·exact absurd h1 z
  ·have h1 : ¬ c = 1 := fun z => h1 (by rw [z]; rfl)
   rcases hcase with ⟨z, _⟩ | ⟨_, h3⟩
   ·exact absurd z h1
   ·exact ⟨_, rfl, out _ (by rw [List.length_append, h3]; omega)⟩
def spAnswerOf (C : Cl) : Sp := fun vs H Q _ => ∃ (B : Addr → Prop) (p q : Addr) (st : Kg35.State) (ask : Ask), vs = [.ref p, .ref q] ∧ Taken B H ∧ GrowAt C B H p st ∧ H q = some (.lst (vi ask.flat)) ∧ ask.ok ∧ ask.short st ∧ (stepA st ask).2.length ≤ 1000100 ∧ Answered C p B H Q (stepA st ask).1 (stepA st ask).2
abbrev st_answer_of : Stmt := top 79
theorem sc_answer_of : FnScope ["grower", "call", "number"] ["grower", "call"] (defScope st_answer_of) := ⟨rfl, rfl, rfl, by decide +kernel, rfl, by decide +kernel, by decide +kernel⟩
theorem ok_answer_of {f : Addr} {fd : FuncData} (F : Fun K "answer_of" "answer_of" st_answer_of f fd) (T : TxtD K mg) (TG : TxtG K mg C.cg) (D_begin : Mth P w K mg base C.cg "begin" 1 ["self"] (spBegin C)) (D_read : Mth P w K mg base C.cg "read" 8 ["self", "text"] (spRead K C))
  (D_long : Mth P w K mg base C.cg "long" 3 ["self", "n"] (spLong C)) (D_often : Mth P w K mg base C.cg "often" 3 ["self", "n", "sign"] (spOften C)) (D_part : Mth P w K mg base C.cg "part" 7 ["self", "n", "first", "most"] (spPart C)) (D_walk : Mth P w K mg base C.cg "walk" 6 ["self", "n"] (spWalk C))
  (D_picture : Mth P w K mg base C.cg "picture" 7 ["self", "n", "x", "y", "width", "height"] (spPicture C)) : FnOk P w K mg base CX0 9 f fd ["grower", "call"] (spAnswerOf C) := by
 refine F.ok sc_answer_of (fun vs H Q E h => ?_) (fun cdv A outer s H vs Q E hr h => ?_)
 ·obtain ⟨B, p, q, st, ask, rfl, _⟩ := h
  rfl
 ·obtain ⟨B, p, q, st, ask, rfl, tB, gr, hq, ok, hsh, hbig, k⟩ := h
  obtain ⟨dx, v, hp, nB, hv⟩ := id gr
  refine ⟨_, (pss_cons (ps_set (i := 2) sc_answer_of.nd rfl (Or.inl rfl) (pe_ix ix_list (pv 1) pe_int (fun _ _ => rfl)))
   (pss_cons (ps_if (pt_cmpR op_eq (pv 2) (pe_gi rfl T.BEGIN) (nomark _))
   (pss_one (ps_ret (pe_mth0 (pv 0) TG.cl D_begin (hr.mono (by decide)))))
   pss_nil)
   (pss_cons (ps_if (pt_cmpR op_eq (pv 2) (pe_gi rfl T.READ) (nomark _))
   (pss_one (ps_ret (pe_mth (pv 0) TG.cl D_read (hr.mono (by decide)) (pa_cons (pe_slice sl_list (pv 1) (po_some pe_int) po_none) pa_nil))))
   pss_nil)
   (pss_cons (ps_if (pt_cmpR op_eq (pv 2) (pe_gi rfl T.LONG) (nomark _))
   (pss_one (ps_ret (pe_mth (pv 0) TG.cl D_long (hr.mono (by decide)) (pa_cons (pe_ix ix_list (pv 1) pe_int (fun _ _ => rfl)) pa_nil))))
   pss_nil)
   (pss_cons (ps_if (pt_cmpR op_eq (pv 2) (pe_gi rfl T.OFTEN) (nomark _))
   (pss_one (ps_ret (pe_mth (pv 0) TG.cl D_often (hr.mono (by decide)) (pa_cons (pe_ix ix_list (pv 1) pe_int (fun _ _ => rfl)) (pa_cons (pe_ix ix_list (pv 1) pe_int (fun _ _ => rfl)) pa_nil)))))
   pss_nil)
   (pss_cons (ps_if (pt_cmpR op_eq (pv 2) (pe_gi rfl T.PART) (nomark _))
   (pss_one (ps_ret (pe_mth (pv 0) TG.cl D_part (hr.mono (by decide)) (pa_cons (pe_ix ix_list (pv 1) pe_int (fun _ _ => rfl)) (pa_cons (pe_ix ix_list (pv 1) pe_int (fun _ _ => rfl)) (pa_cons (pe_ix ix_list (pv 1) pe_int (fun _ _ => rfl)) pa_nil))))))
   pss_nil)
   (pss_cons (ps_if (pt_cmpR op_eq (pv 2) (pe_gi rfl T.WALK) (nomark _))
   (pss_one (ps_ret (pe_mth (pv 0) TG.cl D_walk (hr.mono (by decide)) (pa_cons (pe_ix ix_list (pv 1) pe_int (fun _ _ => rfl)) pa_nil))))
   pss_nil)
   (pss_one (ps_ret (pe_mth (pv 0) TG.cl D_picture (hr.mono (by decide)) (pa_cons (pe_ix ix_list (pv 1) pe_int (fun _ _ => rfl)) (pa_cons (pe_ix ix_list (pv 1) pe_int (fun _ _ => rfl)) (pa_cons (pe_ix ix_list (pv 1) pe_int (fun _ _ => rfl)) (pa_cons (pe_ix ix_list (pv 1) pe_int (fun _ _ => rfl)) (pa_cons (pe_ix ix_list (pv 1) pe_int (fun _ _ => rfl)) pa_nil))))))))))))))), ?_⟩
  cases ask with
  | begin_ =>
   refine ⟨_, rfl, q, _, _, _, rfl, rfl, SqL.of hq, at_of (j := 0) rfl rfl, ?_⟩
   refine ⟨_, rfl, rfl, _, rfl, iteD (fun _ => ?_) (fun z => absurd rfl z)⟩
   exact ⟨_, rfl, p, dx, _, rfl, hp, gf_no _ (by decide +kernel), B, p, st, rfl, tB, gr, k⟩
  | read t =>
   refine ⟨_, rfl, q, _, _, _, rfl, rfl, SqL.of hq, at_of (j := 0) rfl rfl, ?_⟩
   refine ⟨_, rfl, rfl, _, rfl, iteD (fun z => by cases z) (fun _ => ?_)⟩
   refine ⟨_, rfl, rfl, _, rfl, iteD (fun _ => ?_) (fun z => absurd rfl z)⟩
   refine ⟨_, rfl, p, dx, _, rfl, hp, gf_no _ (by decide +kernel), _, rfl, _, rfl, q, _, rfl, SqL.of hq, fun r hr' => ?_⟩
   have sm : Same H (upd H r (.lst (cutV (vi (Ask.read t).flat) (some 2) none))) := .new hr'
   refine ⟨B, p, r, st, t, rfl, tB.mono sm, gr.mono sm, SqL.of ?_, ok.1, k.same (.of tB sm)⟩
   rw [upd_same, cut_from (z := 2) 2 rfl]
   show some (HO.lst ((t.map Int.ofNat).map V.int)) = some (HO.lst (vw t))
   rw [List.map_map]; rfl
  | long n =>
   refine ⟨_, rfl, q, _, _, _, rfl, rfl, SqL.of hq, at_of (j := 0) rfl rfl, ?_⟩
   refine ⟨_, rfl, rfl, _, rfl, iteD (fun z => by cases z) (fun _ => ?_)⟩
   refine ⟨_, rfl, rfl, _, rfl, iteD (fun z => by cases z) (fun _ => ?_)⟩
   refine ⟨_, rfl, rfl, _, rfl, iteD (fun _ => ?_) (fun z => absurd rfl z)⟩
   exact ⟨_, rfl, p, dx, _, rfl, hp, gf_no _ (by decide +kernel), _, rfl, q, _, _, _, rfl, rfl, SqL.of hq, at_of (j := 1) rfl rfl, B, p, st, n, rfl, tB, gr, k⟩
  | often n c =>
   refine ⟨_, rfl, q, _, _, _, rfl, rfl, SqL.of hq, at_of (j := 0) rfl rfl, ?_⟩
   refine ⟨_, rfl, rfl, _, rfl, iteD (fun z => by cases z) (fun _ => ?_)⟩
   refine ⟨_, rfl, rfl, _, rfl, iteD (fun z => by cases z) (fun _ => ?_)⟩
   refine ⟨_, rfl, rfl, _, rfl, iteD (fun z => by cases z) (fun _ => ?_)⟩
   refine ⟨_, rfl, rfl, _, rfl, iteD (fun _ => ?_) (fun z => absurd rfl z)⟩
   exact ⟨_, rfl, p, dx, _, rfl, hp, gf_no _ (by decide +kernel), _, rfl, q, _, _, _, rfl, rfl, SqL.of hq, at_of (j := 1) rfl rfl, _, rfl, q, _, _, _, rfl, rfl, SqL.of hq, at_of (j := 2) rfl rfl, B, p, st, n, c, rfl, tB, gr, k⟩
  | part n fi mo =>
   refine ⟨_, rfl, q, _, _, _, rfl, rfl, SqL.of hq, at_of (j := 0) rfl rfl, ?_⟩
   refine ⟨_, rfl, rfl, _, rfl, iteD (fun z => by cases z) (fun _ => ?_)⟩
   refine ⟨_, rfl, rfl, _, rfl, iteD (fun z => by cases z) (fun _ => ?_)⟩
   refine ⟨_, rfl, rfl, _, rfl, iteD (fun z => by cases z) (fun _ => ?_)⟩
   refine ⟨_, rfl, rfl, _, rfl, iteD (fun z => by cases z) (fun _ => ?_)⟩
   refine ⟨_, rfl, rfl, _, rfl, iteD (fun _ => ?_) (fun z => absurd rfl z)⟩
   exact ⟨_, rfl, p, dx, _, rfl, hp, gf_no _ (by decide +kernel), _, rfl, q, _, _, _, rfl, rfl, SqL.of hq, at_of (j := 1) rfl rfl, _, rfl, q, _, _, _, rfl, rfl, SqL.of hq, at_of (j := 2) rfl rfl, _, rfl, q, _, _, _, rfl, rfl, SqL.of hq, at_of (j := 3) rfl rfl, B, p, st, n, fi, mo, rfl, tB, gr, hbig, k⟩
  | walk n =>
   refine ⟨_, rfl, q, _, _, _, rfl, rfl, SqL.of hq, at_of (j := 0) rfl rfl, ?_⟩
   refine ⟨_, rfl, rfl, _, rfl, iteD (fun z => by cases z) (fun _ => ?_)⟩
   refine ⟨_, rfl, rfl, _, rfl, iteD (fun z => by cases z) (fun _ => ?_)⟩
   refine ⟨_, rfl, rfl, _, rfl, iteD (fun z => by cases z) (fun _ => ?_)⟩
   refine ⟨_, rfl, rfl, _, rfl, iteD (fun z => by cases z) (fun _ => ?_)⟩
   refine ⟨_, rfl, rfl, _, rfl, iteD (fun z => by cases z) (fun _ => ?_)⟩
   refine ⟨_, rfl, rfl, _, rfl, iteD (fun _ => ?_) (fun z => absurd rfl z)⟩
   exact ⟨_, rfl, p, dx, _, rfl, hp, gf_no _ (by decide +kernel), _, rfl, q, _, _, _, rfl, rfl, SqL.of hq, at_of (j := 1) rfl rfl, B, p, st, n, rfl, tB, gr, k⟩
  | picture n x y wi he =>
   refine ⟨_, rfl, q, _, _, _, rfl, rfl, SqL.of hq, at_of (j := 0) rfl rfl, ?_⟩
   refine ⟨_, rfl, rfl, _, rfl, iteD (fun z => by cases z) (fun _ => ?_)⟩
   refine ⟨_, rfl, rfl, _, rfl, iteD (fun z => by cases z) (fun _ => ?_)⟩
   refine ⟨_, rfl, rfl, _, rfl, iteD (fun z => by cases z) (fun _ => ?_)⟩
   refine ⟨_, rfl, rfl, _, rfl, iteD (fun z => by cases z) (fun _ => ?_)⟩
   refine ⟨_, rfl, rfl, _, rfl, iteD (fun z => by cases z) (fun _ => ?_)⟩
   refine ⟨_, rfl, rfl, _, rfl, iteD (fun z => by cases z) (fun _ => ?_)⟩
   exact ⟨_, rfl, p, dx, _, rfl, hp, gf_no _ (by decide +kernel), _, rfl, q, _, _, _, rfl, rfl, SqL.of hq, at_of (j := 1) rfl rfl, _, rfl, q, _, _, _, rfl, rfl, SqL.of hq, at_of (j := 2) rfl rfl, _, rfl, q, _, _, _, rfl, rfl, SqL.of hq, at_of (j := 3) rfl rfl, _, rfl, q, _, _, _, rfl, rfl, SqL.of hq, at_of (j := 4) rfl rfl, _, rfl, q, _, _, _, rfl, rfl, SqL.of hq, at_of (j := 5) rfl rfl, B, p, st, n, x, y, wi, he, rfl, tB, gr, hsh, k⟩
def spAnswersE (K : PySem.W.Frag) : Sp := fun vs H Q _ => ∃ (a : Addr) (as : List Ask), vs = [.ref a] ∧ SqL K H a ((as.flatMap Ask.flat).map V.int) ∧ (∀ x ∈ as, x.ok) ∧ shortA none as ∧ as.length ≤ 100 ∧ totalA none as ≤ 1000000 ∧ ∀ (H' : Hp) (p : Addr), H' p = some (.lst ((playA none as).map V.int)) → Q (.ref p) H'
abbrev st_answers : Stmt := top 80
theorem sc_answers : FnScope ["calls", "grower", "told", "start", "end", "answer"] ["calls"] (defScope st_answers) := ⟨rfl, rfl, rfl, by decide +kernel, rfl, by decide +kernel, by decide +kernel⟩
theorem ok_answers {f : Addr} {fd : FuncData} (F : Fun K "answers" "answers" st_answers f fd) (T0 : Txt K mg) (M : Mkr P w K mg base "Grower" C.cg 1 (spInit C)) (D_end_of_call : Dfn P w K mg base "end_of_call" 1 ["calls", "start"] (spEnd K))
  (D_answer_of : Dfn P w K mg base "answer_of" 9 ["grower", "call"] (spAnswerOf C)) : FnOk P w K mg base CX0 10 f fd ["calls"] (spAnswersE K) := by
 refine F.ok sc_answers (fun vs H Q E h => ?_) (fun cdv A outer s H vs Q E hr h => ?_)
 ·obtain ⟨a, as, rfl, _⟩ := h
  rfl
 ·obtain ⟨a, as, rfl, hS, hok, hsh, hlen, htot, k⟩ := h
  refine ⟨_, (pss_cons (ps_set (i := 1) sc_answers.nd rfl (Or.inl rfl) (pe_mkr M (hr.mono (by decide)) rfl))
   (pss_cons (ps_set (i := 2) sc_answers.nd rfl (Or.inl rfl) (pe_lst pa_nil))
   (pss_cons (ps_set (i := 3) sc_answers.nd rfl (Or.inl rfl) pe_int)
   (pss_cons (ps_while PassesOwn.never (pt_cmpR op_lt (pv 3) (pe_callB call_len_seq (by rfl) T0.b_len PySem.boot_len (pa_cons (pv 0) pa_nil)) (nomark _))
   (pss_cons (ps_set (i := 4) sc_answers.nd rfl (Or.inl rfl) (pe_dfn D_end_of_call (hr.mono (by decide)) rfl (pa_cons (pv 0) (pa_cons (pv 3) pa_nil))))
   (pss_cons (ps_set (i := 5) sc_answers.nd rfl (Or.inl rfl) (pe_dfn D_answer_of (hr.mono (by decide)) rfl (pa_cons (pv 1) (pa_cons (pe_slice sl_list (pv 0) (po_some (pv 3)) (po_some (pv 4))) pa_nil))))
   (pss_cons (ps_expr (pe_bm PySem.F.plainAttrs_list PySem.F.slot_list_append PySem.F.type_list_append mt_append (pv 2) (pa_cons (pe_callB call_len_seq (by rfl) T0.b_len PySem.boot_len (pa_cons (pv 5) pa_nil)) pa_nil)))
   (pss_cons (ps_expr (pe_bm PySem.F.plainAttrs_list PySem.F.slot_list_extend PySem.F.type_list_extend mt_extend (pv 2) (pa_cons (pv 5) pa_nil)))
   (pss_one (ps_set (i := 3) sc_answers.nd rfl (Or.inl rfl) (pv 4))))))))
   (pss_one (ps_ret (pv 2))))))), ?_⟩
  intro x dx nx ndx nex
  refine ⟨x, dx, rfl, upd_same, rfl, ?_⟩
  have s1 : Same H (upd (upd (upd H dx (.own x)) x (.ins C.cg dx [])) x (.ins C.cg dx (gf .non))) := Same.mk3 nx ndx
  have hx1 : upd (upd (upd H dx (.own x)) x (.ins C.cg dx [])) x (.ins C.cg dx (gf .non)) x = some (.ins C.cg dx (gf .non)) := upd_same
  generalize upd (upd (upd H dx (.own x)) x (.ins C.cg dx [])) x (.ins C.cg dx (gf .non)) = H1 at s1 hx1
  refine ⟨Nat.zero_le _, fun l hl => ?_⟩
  have s2 : Same H (upd H1 l (.lst [])) := s1.trans (.new hl)
  have fl : H l = none := s1.free hl
  have hx0 : upd H1 l (.lst []) x = some (.ins C.cg dx (gf .non)) := by rw [upd_ne (ne_of_none hx1 hl)]; exact hx1
  have hl0 : upd H1 l (.lst []) l = some (.lst []) := upd_same
  generalize upd H1 l (.lst []) = H0 at s2 hx0 hl0
  have nlx : l ≠ x := fun z => by rw [z, hx0] at hl0; cases hl0
  have plen := playA_len as none
  obtain ⟨B, hB⟩ : ∃ B : Addr → Prop, B = fun b => H0 b ≠ none ∧ b ≠ x := ⟨_, rfl⟩
  have Bl : B l := by rw [hB]; exact ⟨by rw [hl0]; exact fun z => (nomatch z), nlx⟩
  have Bx : ¬ B x := by rw [hB]; exact fun z => z.2 rfl
  have Bn : ∀ b, B b → H0 b ≠ none := fun b hb => by rw [hB] at hb; exact hb.1
  have sames : ∀ {H' : Hp}, (∀ b, B b → b ≠ l → H' b = H0 b) → Same H H' := fun {H'} q b o e => by
   have nb : b ≠ l := ne_of_none e fl
   rw [q b (by rw [hB]; exact ⟨by rw [s2 b o e]; exact fun z => (nomatch z), ne_of_none e nx⟩) nb]
   exact s2 b o e
  refine ⟨fun m σ H' => ∃ (v4 v5 : Option V) (done rest : List Ask) (st : Kg35.State) (out : List Int), m = rest.length ∧ σ = [some (.ref a), some (.ref x), some (.ref l), some (.int ((done.flatMap Ask.flat).length : Nat)), v4, v5] ∧ as = done ++ rest ∧ (∀ b, B b → b ≠ l → H' b = H0 b) ∧ GrowAt C B H' x st ∧ shortA st rest ∧ H' l = some (.lst (out.map V.int)) ∧ out ++ playA st rest = playA none as,
   ⟨as.length, none, none, [], as, none, [], rfl, rfl, rfl, fun b _ _ => rfl, ⟨dx, .non, hx0, Bx, rfl⟩, hsh, hl0, rfl⟩, ?_⟩
  rintro m σ H' ⟨v4, v5, done, rest, st, out, rfl, rfl, eas, b3, g3, hsh3, h3, ep⟩
  have tB3 : Taken B H' := fun b hb => by
   by_cases z : b = l
   ·rw [z, h3]; exact fun z => nomatch z
   ·rw [b3 b hb z]; exact Bn b hb
  have hS3 := (sames b3).seq hS
  refine ⟨_, rfl, _, rfl, a, _, rfl, .inl hS3, _, _, rfl, rfl, _, rfl, ?_⟩
  refine iteD (fun h1 => ?_) (fun h1 => ?_)
  ·have h1 : (((done.flatMap Ask.flat).length : Nat) : Int) < ((((as.flatMap Ask.flat).map V.int).length : Nat) : Int) := h1
   rw [List.length_map, eas, List.flatMap_append, List.length_append] at h1
   cases rest with
   | nil => simp at h1
   | cons ask rest =>
    have mem : ask ∈ as := by rw [eas]; simp
    have ok := hok ask mem
    obtain ⟨sh1, sh2⟩ := hsh3
    have efl : as.flatMap Ask.flat = done.flatMap Ask.flat ++ ask.flat ++ rest.flatMap Ask.flat := by rw [eas, List.flatMap_append, List.flatMap_cons, List.append_assoc]
    rw [efl] at hS3
    have psz : (out.map V.int).length + ((stepA st ask).2.length + 1) ≤ 1000100 ∧ (stepA st ask).2.length ≤ 1000100 := by
     have e := congrArg List.length ep
     rw [List.length_append, plen, playA_len (ask :: rest) st] at e
     have e2 : totalA st (ask :: rest) = (stepA st ask).2.length + totalA (stepA st ask).1 rest := rfl
     have e3 : as.length = done.length + (rest.length + 1) := by rw [eas, List.length_append]; rfl
     have e4 : (ask :: rest).length = rest.length + 1 := rfl
     rw [List.length_map]
     omega
    refine ⟨fun σ' H5 => ∃ (v4 v5 : Option V), σ' = [some (.ref a), some (.ref x), some (.ref l), some (.int (((done ++ [ask]).flatMap Ask.flat).length : Nat)), v4, v5] ∧ (∀ b, B b → b ≠ l → H5 b = H0 b) ∧ GrowAt C B H5 x (stepA st ask).1 ∧ H5 l = some (.lst ((out ++ (((stepA st ask).2.length : Int) :: (stepA st ask).2)).map V.int)),
     fun σ' H5 ⟨v4, v5, e1, e2, e3, e4⟩ => ⟨rest.length, Nat.lt_succ_self _, v4, v5, done ++ [ask], rest, (stepA st ask).1, out ++ (((stepA st ask).2.length : Int) :: (stepA st ask).2), rfl, e1, by rw [eas, List.append_assoc]; rfl, e2, e3, sh2, e4, ?_⟩, ?_⟩
    ·rw [← ep, List.append_assoc]; rfl
    refine ⟨_, rfl, _, rfl, a, done.flatMap Ask.flat, rest.flatMap Ask.flat, ask, rfl, hS3, ?_⟩
    refine ⟨_, rfl, _, rfl, _, rfl, _, rfl, _, rfl, _, rfl, a, _, rfl, hS3, fun q hq => ?_⟩
    have cut : cutV ((done.flatMap Ask.flat ++ ask.flat ++ rest.flatMap Ask.flat).map V.int) (some (((done.flatMap Ask.flat).length : Nat) : Int)) (some (((done.flatMap Ask.flat ++ ask.flat).length : Nat) : Int)) = ask.flat.map V.int := by
     rw [cut_mid _ _ rfl rfl (by rw [List.length_map, List.length_append (as := done.flatMap Ask.flat ++ ask.flat)]; omega) (by rw [List.length_append]; omega), ← List.map_drop, ← List.map_take]
     rw [List.append_assoc, List.drop_left, List.length_append, Nat.add_sub_cancel_left, List.take_left]
    rw [cut]
    have sm : Same H' (upd H' q (.lst (ask.flat.map V.int))) := .new hq
    refine ⟨B, x, q, st, ask, rfl, tB3.mono sm, g3.mono sm, upd_same, ok, sh1, psz.2, fun H4 r fr4 g4 hr4 fr => ?_⟩
    have nrl : r ≠ l := fun z => by rw [z, sm _ _ h3] at fr; cases fr
    have h4l : H4 l = some (.lst (out.map V.int)) := by rw [fr4.same l Bl]; exact sm _ _ h3
    have b4 : ∀ b, B b → b ≠ l → H4 b = H0 b := fun b hb n => by
     rw [fr4.same b hb, ← b3 b hb n]
     cases e : H' b with
     | none => exact absurd e (tB3 b hb)
     | some o => exact sm b o e
    refine ⟨_, rfl, .inl ⟨rfl, _, SqL.of h4l⟩, _, rfl, r, _, rfl, .inl (SqL.of hr4), l, _, _, rfl, rfl, h4l, lineLt1 (m := 1000100) (by omega), ?_⟩
    have b5 : But l H4 (upd H4 l (.lst (out.map V.int ++ [V.int (((stepA st ask).2.map V.int).length : Nat)]))) := .upd
    refine ⟨_, rfl, .inl ⟨rfl, _, SqL.of upd_same⟩, _, rfl, l, r, _, _, rfl, rfl, upd_same, b5 _ _ hr4 nrl, ?_, ?_⟩
    ·rw [List.length_append, List.length_map (as := (stepA st ask).2)]
     exact Nat.le_of_lt (lineLt1 (m := 1000100) (by rw [List.length_singleton]; omega))
    refine ⟨_, rfl, ?_⟩
    refine ⟨some (.int (((done.flatMap Ask.flat ++ ask.flat).length : Nat) : Int)), some (.ref r), ?_, fun b hb n => ?_, (g4.upd Bl).upd Bl, ?_⟩
    ·have ee : (done.flatMap Ask.flat ++ ask.flat).length = ((done ++ [ask]).flatMap Ask.flat).length := by rw [List.flatMap_append, List.flatMap_cons, List.flatMap_nil, List.append_nil]
     rw [← ee]; rfl
    ·rw [upd_ne n, upd_ne n]; exact b4 b hb n
    ·rw [upd_same, List.map_append, List.length_map, List.append_assoc]; rfl
  ·have h1 : ¬ (((done.flatMap Ask.flat).length : Nat) : Int) < ((((as.flatMap Ask.flat).map V.int).length : Nat) : Int) := h1
   rw [List.length_map, eas, List.flatMap_append, List.length_append] at h1
   cases rest with
   | nil =>
    refine ⟨_, rfl, k H' l ?_⟩
    rw [h3, ← ep]
    show _ = some (HO.lst (List.map V.int (out ++ [])))
    rw [List.append_nil]
   | cons ask rest =>
    exfalso
    have := flat_ne ask
    rw [List.flatMap_cons, List.length_append] at h1
    omega
end
end Gw
end
namespace Gw
open PySem PySem.Spec PyProof.Rows L2
open PySem.W (Codec nsIn findIn fnOf codeIn keepIn isFn plainGet hasDictIn plainOver makesIn mg_of mg_none_of)
def spAnswers (K : PySem.W.Frag) : Sp := fun vs H Q _ => ∃ (a : Addr) (ns : List Int), vs = [.ref a] ∧ SqL K H a (ns.map V.int) ∧ PyKg35.answers_asked ns = true ∧ ∀ (H' : Hp) (p : Addr), H' p = some (.lst ((PyKg35.answers ns).map V.int)) → Q (.ref p) H'
theorem steps_at {K : PySem.W.Frag} {M : Addr} {ps : List (Int × Int)} {as : List Addr} (h : ∀ H, SqT K H M (as.map V.ref)) (hl : as.length = ps.length) (ha : ∀ (j : Nat) (a : Addr) (p : Int × Int), as[j]? = some a → ps[j]? = some p → ∀ H, SqT K H a [.int p.1, .int p.2]) : StepsAt K M ps :=
 ⟨as, hl, h, fun j a e => by
  have hj : j < ps.length := by rw [← hl]; exact (List.getElem?_eq_some_iff.mp e).1
  exact ⟨_, List.getElem?_eq_getElem hj, ha j a _ e (List.getElem?_eq_getElem hj)⟩⟩
theorem all_mk {P : Program} {w : World} {K : PySem.W.Frag} {h : Heap} {mg : Str → Option Value} {fa : Addr} (X : K.In h) (G : h.Ns mainGlobals mg) (hfa : mg "answers" = some (.ref fa))
  (b_len : nsIn K mainGlobals "len" = some none)
  (b_ord : nsIn K mainGlobals "ord" = some none)
  (b_all : nsIn K mainGlobals "all" = some none)
  (b_sum : nsIn K mainGlobals "sum" = some none)
  (b_range : nsIn K mainGlobals "range" = some none)
  (b_max : nsIn K mainGlobals "max" = some none)
  (b_zip : nsIn K mainGlobals "zip" = some none)
  (b_list : nsIn K mainGlobals "list" = some none)
  (b_reversed : nsIn K mainGlobals "reversed" = some none)
  (b_dict : nsIn K mainGlobals "dict" = some none)
  (g_LAST_WORD : nsIn K mainGlobals "LAST_WORD" = some (some (.int (64) t_LAST_WORD)))
  (g_TOO_MANY_SIGNS : nsIn K mainGlobals "TOO_MANY_SIGNS" = some (some (.int (4611686018427387904) t_TOO_MANY_SIGNS)))
  (g_MOST_SIGNS : nsIn K mainGlobals "MOST_SIGNS" = some (some (.int (256) t_MOST_SIGNS)))
  (g_GOING : nsIn K mainGlobals "GOING" = some (some (.int (46) t_GOING)))
  (g_LEFT : nsIn K mainGlobals "LEFT" = some (some (.int (43) t_LEFT)))
  (g_RIGHT : nsIn K mainGlobals "RIGHT" = some (some (.int (45) t_RIGHT)))
  (g_AROUND : nsIn K mainGlobals "AROUND" = some (some (.int (124) t_AROUND)))
  (g_OPENING : nsIn K mainGlobals "OPENING" = some (some (.int (91) t_OPENING)))
  (g_CLOSING : nsIn K mainGlobals "CLOSING" = some (some (.int (93) t_CLOSING)))
  (g_LINE_END : nsIn K mainGlobals "LINE_END" = some (some (.int (10) t_LINE_END)))
  (g_LONGEST_WRITTEN : nsIn K mainGlobals "LONGEST_WRITTEN" = some (some (.int (256) t_LONGEST_WRITTEN)))
  (g_NO_RULES : nsIn K mainGlobals "NO_RULES" = some (some (.int (-9) t_NO_RULES)))
  (g_OUT_OF_RANGE : nsIn K mainGlobals "OUT_OF_RANGE" = some (some (.int (-8) t_OUT_OF_RANGE)))
  (g_TOO_LONG : nsIn K mainGlobals "TOO_LONG" = some (some (.int (-6) t_TOO_LONG)))
  (g_WRONG_LINE : nsIn K mainGlobals "WRONG_LINE" = some (some (.int (-100) t_WRONG_LINE)))
  (g_WIDEST : nsIn K mainGlobals "WIDEST" = some (some (.int (1024) t_WIDEST)))
  (g_TOO_MANY_TO_DRAW : nsIn K mainGlobals "TOO_MANY_TO_DRAW" = some (some (.int (16777216) t_TOO_MANY_TO_DRAW)))
  (g_BEGIN : nsIn K mainGlobals "BEGIN" = some (some (.int (0) t_BEGIN)))
  (g_READ : nsIn K mainGlobals "READ" = some (some (.int (1) t_READ)))
  (g_LONG : nsIn K mainGlobals "LONG" = some (some (.int (2) t_LONG)))
  (g_OFTEN : nsIn K mainGlobals "OFTEN" = some (some (.int (3) t_OFTEN)))
  (g_PART : nsIn K mainGlobals "PART" = some (some (.int (4) t_PART)))
  (g_WALK : nsIn K mainGlobals "WALK" = some (some (.int (5) t_WALK)))
  (a_MARKS : nsIn K mainGlobals "MARKS" = some (some (.ref m_MARKS)))
  (l_MARKS : K.lookup m_MARKS = some ⟨.type "tuple", od_MARKS, .seq #[.int (46) u_MARKS0, .int (43) u_MARKS1, .int (45) u_MARKS2, .int (124) u_MARKS3, .int (91) u_MARKS4, .int (93) u_MARKS5] n_MARKS, sl_MARKS⟩)
  (a_SIZES : nsIn K mainGlobals "SIZES" = some (some (.ref m_SIZES)))
  (l_SIZES : K.lookup m_SIZES = some ⟨.type "tuple", od_SIZES, .seq #[.int (1) u_SIZES0, .int (2) u_SIZES1, .int (2) u_SIZES2, .int (3) u_SIZES3, .int (4) u_SIZES4, .int (2) u_SIZES5, .int (6) u_SIZES6] n_SIZES, sl_SIZES⟩)
  (a_STEPS_OF_4 : nsIn K mainGlobals "STEPS_OF_4" = some (some (.ref m_STEPS_OF_4)))
  (l_STEPS_OF_4 : K.lookup m_STEPS_OF_4 = some ⟨.type "tuple", od_STEPS_OF_4, .seq #[.ref m_STEPS_OF_4_0, .ref m_STEPS_OF_4_1, .ref m_STEPS_OF_4_2, .ref m_STEPS_OF_4_3] n_STEPS_OF_4, sl_STEPS_OF_4⟩)
  (l_STEPS_OF_4_0 : K.lookup m_STEPS_OF_4_0 = some ⟨.type "tuple", od_STEPS_OF_4_0, .seq #[.int (1) u_STEPS_OF_4_00, .int (0) u_STEPS_OF_4_01] n_STEPS_OF_4_0, sl_STEPS_OF_4_0⟩)
  (l_STEPS_OF_4_1 : K.lookup m_STEPS_OF_4_1 = some ⟨.type "tuple", od_STEPS_OF_4_1, .seq #[.int (0) u_STEPS_OF_4_10, .int (1) u_STEPS_OF_4_11] n_STEPS_OF_4_1, sl_STEPS_OF_4_1⟩)
  (l_STEPS_OF_4_2 : K.lookup m_STEPS_OF_4_2 = some ⟨.type "tuple", od_STEPS_OF_4_2, .seq #[.int (-1) u_STEPS_OF_4_20, .int (0) u_STEPS_OF_4_21] n_STEPS_OF_4_2, sl_STEPS_OF_4_2⟩)
  (l_STEPS_OF_4_3 : K.lookup m_STEPS_OF_4_3 = some ⟨.type "tuple", od_STEPS_OF_4_3, .seq #[.int (0) u_STEPS_OF_4_30, .int (-1) u_STEPS_OF_4_31] n_STEPS_OF_4_3, sl_STEPS_OF_4_3⟩)
  (a_STEPS_OF_6 : nsIn K mainGlobals "STEPS_OF_6" = some (some (.ref m_STEPS_OF_6)))
  (l_STEPS_OF_6 : K.lookup m_STEPS_OF_6 = some ⟨.type "tuple", od_STEPS_OF_6, .seq #[.ref m_STEPS_OF_6_0, .ref m_STEPS_OF_6_1, .ref m_STEPS_OF_6_2, .ref m_STEPS_OF_6_3, .ref m_STEPS_OF_6_4, .ref m_STEPS_OF_6_5] n_STEPS_OF_6, sl_STEPS_OF_6⟩)
  (l_STEPS_OF_6_0 : K.lookup m_STEPS_OF_6_0 = some ⟨.type "tuple", od_STEPS_OF_6_0, .seq #[.int (1) u_STEPS_OF_6_00, .int (0) u_STEPS_OF_6_01] n_STEPS_OF_6_0, sl_STEPS_OF_6_0⟩)
  (l_STEPS_OF_6_1 : K.lookup m_STEPS_OF_6_1 = some ⟨.type "tuple", od_STEPS_OF_6_1, .seq #[.int (0) u_STEPS_OF_6_10, .int (1) u_STEPS_OF_6_11] n_STEPS_OF_6_1, sl_STEPS_OF_6_1⟩)
  (l_STEPS_OF_6_2 : K.lookup m_STEPS_OF_6_2 = some ⟨.type "tuple", od_STEPS_OF_6_2, .seq #[.int (-1) u_STEPS_OF_6_20, .int (1) u_STEPS_OF_6_21] n_STEPS_OF_6_2, sl_STEPS_OF_6_2⟩)
  (l_STEPS_OF_6_3 : K.lookup m_STEPS_OF_6_3 = some ⟨.type "tuple", od_STEPS_OF_6_3, .seq #[.int (-1) u_STEPS_OF_6_30, .int (0) u_STEPS_OF_6_31] n_STEPS_OF_6_3, sl_STEPS_OF_6_3⟩)
  (l_STEPS_OF_6_4 : K.lookup m_STEPS_OF_6_4 = some ⟨.type "tuple", od_STEPS_OF_6_4, .seq #[.int (0) u_STEPS_OF_6_40, .int (-1) u_STEPS_OF_6_41] n_STEPS_OF_6_4, sl_STEPS_OF_6_4⟩)
  (l_STEPS_OF_6_5 : K.lookup m_STEPS_OF_6_5 = some ⟨.type "tuple", od_STEPS_OF_6_5, .seq #[.int (1) u_STEPS_OF_6_50, .int (-1) u_STEPS_OF_6_51] n_STEPS_OF_6_5, sl_STEPS_OF_6_5⟩)
  (aCPiece : nsIn K mainGlobals "Piece" = some (some (.ref CPiece)))
  (aq0 : findIn K (.ref CPiece) "__init__" = some (some (.ref fq0)))
  (iq0 : isFn K (.ref fq0) = true)
  (lq0 : K.lookup fq0 = some ⟨ocq0, odq0, .func (fnOf "__init__" "Piece.__init__" (defArgs st_Piece___init__) (defBody st_Piece___init__) (defScope st_Piece___init__) .none kVq0 dcq0 pmq0 anq0 cdq0 ctq0), slq0⟩)
  (cq0 : codeIn K cdq0 "Piece.__init__" = true)
  (kq0 : keepIn K (.ref fq0) = true)
  (pgPiece : plainGet K CPiece Str.empty = true)
  (hdPiece : hasDictIn K CPiece = true)
  (poPiece : plainOver K CPiece = true)
  (saPiece : findIn K (.ref CPiece) "__setattr__" = some (some (.builtin "object.__setattr__")))
  (mkPiece : makesIn K CPiece = true)
  (kcPiece : keepIn K (.ref CPiece) = true)
  (nPiece_length : findIn K (.ref CPiece) "length" = some none)
  (nPiece_signs : findIn K (.ref CPiece) "signs" = some none)
  (nPiece_parts : findIn K (.ref CPiece) "parts" = some none)
  (aCWay : nsIn K mainGlobals "Way" = some (some (.ref CWay)))
  (aq1 : findIn K (.ref CWay) "__init__" = some (some (.ref fq1)))
  (iq1 : isFn K (.ref fq1) = true)
  (lq1 : K.lookup fq1 = some ⟨ocq1, odq1, .func (fnOf "__init__" "Way.__init__" (defArgs st_Way___init__) (defBody st_Way___init__) (defScope st_Way___init__) .none kVq1 dcq1 pmq1 anq1 cdq1 ctq1), slq1⟩)
  (cq1 : codeIn K cdq1 "Way.__init__" = true)
  (kq1 : keepIn K (.ref fq1) = true)
  (pgWay : plainGet K CWay Str.empty = true)
  (hdWay : hasDictIn K CWay = true)
  (poWay : plainOver K CWay = true)
  (saWay : findIn K (.ref CWay) "__setattr__" = some (some (.builtin "object.__setattr__")))
  (mkWay : makesIn K CWay = true)
  (kcWay : keepIn K (.ref CWay) = true)
  (nWay_turn : findIn K (.ref CWay) "turn" = some none)
  (nWay_ends : findIn K (.ref CWay) "ends" = some none)
  (nWay_reach : findIn K (.ref CWay) "reach" = some none)
  (nWay_moves : findIn K (.ref CWay) "moves" = some none)
  (aCWords : nsIn K mainGlobals "Words" = some (some (.ref CWords)))
  (aq2 : findIn K (.ref CWords) "__init__" = some (some (.ref fq2)))
  (iq2 : isFn K (.ref fq2) = true)
  (lq2 : K.lookup fq2 = some ⟨ocq2, odq2, .func (fnOf "__init__" "Words.__init__" (defArgs st_Words___init__) (defBody st_Words___init__) (defScope st_Words___init__) .none kVq2 dcq2 pmq2 anq2 cdq2 ctq2), slq2⟩)
  (cq2 : codeIn K cdq2 "Words.__init__" = true)
  (kq2 : keepIn K (.ref fq2) = true)
  (aq3 : findIn K (.ref CWords) "is_told" = some (some (.ref fq3)))
  (iq3 : isFn K (.ref fq3) = true)
  (lq3 : K.lookup fq3 = some ⟨ocq3, odq3, .func (fnOf "is_told" "Words.is_told" (defArgs st_Words_is_told) (defBody st_Words_is_told) (defScope st_Words_is_told) .none kVq3 dcq3 pmq3 anq3 cdq3 ctq3), slq3⟩)
  (cq3 : codeIn K cdq3 "Words.is_told" = true)
  (kq3 : keepIn K (.ref fq3) = true)
  (aq4 : findIn K (.ref CWords) "signs_of" = some (some (.ref fq4)))
  (iq4 : isFn K (.ref fq4) = true)
  (lq4 : K.lookup fq4 = some ⟨ocq4, odq4, .func (fnOf "signs_of" "Words.signs_of" (defArgs st_Words_signs_of) (defBody st_Words_signs_of) (defScope st_Words_signs_of) .none kVq4 dcq4 pmq4 anq4 cdq4 ctq4), slq4⟩)
  (cq4 : codeIn K cdq4 "Words.signs_of" = true)
  (kq4 : keepIn K (.ref fq4) = true)
  (aq5 : findIn K (.ref CWords) "times" = some (some (.ref fq5)))
  (iq5 : isFn K (.ref fq5) = true)
  (lq5 : K.lookup fq5 = some ⟨ocq5, odq5, .func (fnOf "times" "Words.times" (defArgs st_Words_times) (defBody st_Words_times) (defScope st_Words_times) .none kVq5 dcq5 pmq5 anq5 cdq5 ctq5), slq5⟩)
  (cq5 : codeIn K cdq5 "Words.times" = true)
  (kq5 : keepIn K (.ref fq5) = true)
  (aq6 : findIn K (.ref CWords) "piece_of" = some (some (.ref fq6)))
  (iq6 : isFn K (.ref fq6) = true)
  (lq6 : K.lookup fq6 = some ⟨ocq6, odq6, .func (fnOf "piece_of" "Words.piece_of" (defArgs st_Words_piece_of) (defBody st_Words_piece_of) (defScope st_Words_piece_of) .none kVq6 dcq6 pmq6 anq6 cdq6 ctq6), slq6⟩)
  (cq6 : codeIn K cdq6 "Words.piece_of" = true)
  (kq6 : keepIn K (.ref fq6) = true)
  (aq7 : findIn K (.ref CWords) "way_of" = some (some (.ref fq7)))
  (iq7 : isFn K (.ref fq7) = true)
  (lq7 : K.lookup fq7 = some ⟨ocq7, odq7, .func (fnOf "way_of" "Words.way_of" (defArgs st_Words_way_of) (defBody st_Words_way_of) (defScope st_Words_way_of) .none kVq7 dcq7 pmq7 anq7 cdq7 ctq7), slq7⟩)
  (cq7 : codeIn K cdq7 "Words.way_of" = true)
  (kq7 : keepIn K (.ref fq7) = true)
  (pgWords : plainGet K CWords Str.empty = true)
  (hdWords : hasDictIn K CWords = true)
  (poWords : plainOver K CWords = true)
  (saWords : findIn K (.ref CWords) "__setattr__" = some (some (.builtin "object.__setattr__")))
  (mkWords : makesIn K CWords = true)
  (kcWords : keepIn K (.ref CWords) = true)
  (nWords_directions : findIn K (.ref CWords) "directions" = some none)
  (nWords_first_word : findIn K (.ref CWords) "first_word" = some none)
  (nWords_rules : findIn K (.ref CWords) "rules" = some none)
  (nWords_tallies : findIn K (.ref CWords) "tallies" = some none)
  (nWords_pieces : findIn K (.ref CWords) "pieces" = some none)
  (nWords_ways : findIn K (.ref CWords) "ways" = some none)
  (aCGrower : nsIn K mainGlobals "Grower" = some (some (.ref CGrower)))
  (aq8 : findIn K (.ref CGrower) "__init__" = some (some (.ref fq8)))
  (iq8 : isFn K (.ref fq8) = true)
  (lq8 : K.lookup fq8 = some ⟨ocq8, odq8, .func (fnOf "__init__" "Grower.__init__" (defArgs st_Grower___init__) (defBody st_Grower___init__) (defScope st_Grower___init__) .none kVq8 dcq8 pmq8 anq8 cdq8 ctq8), slq8⟩)
  (cq8 : codeIn K cdq8 "Grower.__init__" = true)
  (kq8 : keepIn K (.ref fq8) = true)
  (aq9 : findIn K (.ref CGrower) "begin" = some (some (.ref fq9)))
  (iq9 : isFn K (.ref fq9) = true)
  (lq9 : K.lookup fq9 = some ⟨ocq9, odq9, .func (fnOf "begin" "Grower.begin" (defArgs st_Grower_begin) (defBody st_Grower_begin) (defScope st_Grower_begin) .none kVq9 dcq9 pmq9 anq9 cdq9 ctq9), slq9⟩)
  (cq9 : codeIn K cdq9 "Grower.begin" = true)
  (kq9 : keepIn K (.ref fq9) = true)
  (aq10 : findIn K (.ref CGrower) "read" = some (some (.ref fq10)))
  (iq10 : isFn K (.ref fq10) = true)
  (lq10 : K.lookup fq10 = some ⟨ocq10, odq10, .func (fnOf "read" "Grower.read" (defArgs st_Grower_read) (defBody st_Grower_read) (defScope st_Grower_read) .none kVq10 dcq10 pmq10 anq10 cdq10 ctq10), slq10⟩)
  (cq10 : codeIn K cdq10 "Grower.read" = true)
  (kq10 : keepIn K (.ref fq10) = true)
  (aq11 : findIn K (.ref CGrower) "long" = some (some (.ref fq11)))
  (iq11 : isFn K (.ref fq11) = true)
  (lq11 : K.lookup fq11 = some ⟨ocq11, odq11, .func (fnOf "long" "Grower.long" (defArgs st_Grower_long) (defBody st_Grower_long) (defScope st_Grower_long) .none kVq11 dcq11 pmq11 anq11 cdq11 ctq11), slq11⟩)
  (cq11 : codeIn K cdq11 "Grower.long" = true)
  (kq11 : keepIn K (.ref fq11) = true)
  (aq12 : findIn K (.ref CGrower) "often" = some (some (.ref fq12)))
  (iq12 : isFn K (.ref fq12) = true)
  (lq12 : K.lookup fq12 = some ⟨ocq12, odq12, .func (fnOf "often" "Grower.often" (defArgs st_Grower_often) (defBody st_Grower_often) (defScope st_Grower_often) .none kVq12 dcq12 pmq12 anq12 cdq12 ctq12), slq12⟩)
  (cq12 : codeIn K cdq12 "Grower.often" = true)
  (kq12 : keepIn K (.ref fq12) = true)
  (aq13 : findIn K (.ref CGrower) "part" = some (some (.ref fq13)))
  (iq13 : isFn K (.ref fq13) = true)
  (lq13 : K.lookup fq13 = some ⟨ocq13, odq13, .func (fnOf "part" "Grower.part" (defArgs st_Grower_part) (defBody st_Grower_part) (defScope st_Grower_part) .none kVq13 dcq13 pmq13 anq13 cdq13 ctq13), slq13⟩)
  (cq13 : codeIn K cdq13 "Grower.part" = true)
  (kq13 : keepIn K (.ref fq13) = true)
  (aq14 : findIn K (.ref CGrower) "walk" = some (some (.ref fq14)))
  (iq14 : isFn K (.ref fq14) = true)
  (lq14 : K.lookup fq14 = some ⟨ocq14, odq14, .func (fnOf "walk" "Grower.walk" (defArgs st_Grower_walk) (defBody st_Grower_walk) (defScope st_Grower_walk) .none kVq14 dcq14 pmq14 anq14 cdq14 ctq14), slq14⟩)
  (cq14 : codeIn K cdq14 "Grower.walk" = true)
  (kq14 : keepIn K (.ref fq14) = true)
  (aq15 : findIn K (.ref CGrower) "picture" = some (some (.ref fq15)))
  (iq15 : isFn K (.ref fq15) = true)
  (lq15 : K.lookup fq15 = some ⟨ocq15, odq15, .func (fnOf "picture" "Grower.picture" (defArgs st_Grower_picture) (defBody st_Grower_picture) (defScope st_Grower_picture) .none kVq15 dcq15 pmq15 anq15 cdq15 ctq15), slq15⟩)
  (cq15 : codeIn K cdq15 "Grower.picture" = true)
  (kq15 : keepIn K (.ref fq15) = true)
  (aq16 : findIn K (.ref CGrower) "refusal_of" = some (some (.ref fq16)))
  (iq16 : isFn K (.ref fq16) = true)
  (lq16 : K.lookup fq16 = some ⟨ocq16, odq16, .func (fnOf "refusal_of" "Grower.refusal_of" (defArgs st_Grower_refusal_of) (defBody st_Grower_refusal_of) (defScope st_Grower_refusal_of) .none kVq16 dcq16 pmq16 anq16 cdq16 ctq16), slq16⟩)
  (cq16 : codeIn K cdq16 "Grower.refusal_of" = true)
  (kq16 : keepIn K (.ref fq16) = true)
  (pgGrower : plainGet K CGrower Str.empty = true)
  (hdGrower : hasDictIn K CGrower = true)
  (poGrower : plainOver K CGrower = true)
  (saGrower : findIn K (.ref CGrower) "__setattr__" = some (some (.builtin "object.__setattr__")))
  (mkGrower : makesIn K CGrower = true)
  (kcGrower : keepIn K (.ref CGrower) = true)
  (nGrower_words : findIn K (.ref CGrower) "words" = some none)
  (aq17 : nsIn K mainGlobals "is_capital" = some (some (.ref fq17)))
  (lq17 : K.lookup fq17 = some ⟨ocq17, odq17, .func (fnOf "is_capital" "is_capital" (defArgs st_is_capital) (defBody st_is_capital) (defScope st_is_capital) .none kVq17 dcq17 pmq17 anq17 cdq17 ctq17), slq17⟩)
  (cq17 : codeIn K cdq17 "is_capital" = true)
  (kq17 : keepIn K (.ref fq17) = true)
  (aq18 : nsIn K mainGlobals "is_letter" = some (some (.ref fq18)))
  (lq18 : K.lookup fq18 = some ⟨ocq18, odq18, .func (fnOf "is_letter" "is_letter" (defArgs st_is_letter) (defBody st_is_letter) (defScope st_is_letter) .none kVq18 dcq18 pmq18 anq18 cdq18 ctq18), slq18⟩)
  (cq18 : codeIn K cdq18 "is_letter" = true)
  (kq18 : keepIn K (.ref fq18) = true)
  (aq19 : nsIn K mainGlobals "is_sign" = some (some (.ref fq19)))
  (lq19 : K.lookup fq19 = some ⟨ocq19, odq19, .func (fnOf "is_sign" "is_sign" (defArgs st_is_sign) (defBody st_is_sign) (defScope st_is_sign) .none kVq19 dcq19 pmq19 anq19 cdq19 ctq19), slq19⟩)
  (cq19 : codeIn K cdq19 "is_sign" = true)
  (kq19 : keepIn K (.ref fq19) = true)
  (aq20 : nsIn K mainGlobals "all_signs" = some (some (.ref fq20)))
  (lq20 : K.lookup fq20 = some ⟨ocq20, odq20, .func (fnOf "all_signs" "all_signs" (defArgs st_all_signs) (defBody st_all_signs) (defScope st_all_signs) .none kVq20 dcq20 pmq20 anq20 cdq20 ctq20), slq20⟩)
  (cq20 : codeIn K cdq20 "all_signs" = true)
  (kq20 : keepIn K (.ref fq20) = true)
  (aq21 : nsIn K mainGlobals "brackets_match" = some (some (.ref fq21)))
  (lq21 : K.lookup fq21 = some ⟨ocq21, odq21, .func (fnOf "brackets_match" "brackets_match" (defArgs st_brackets_match) (defBody st_brackets_match) (defScope st_brackets_match) .none kVq21 dcq21 pmq21 anq21 cdq21 ctq21), slq21⟩)
  (cq21 : codeIn K cdq21 "brackets_match" = true)
  (kq21 : keepIn K (.ref fq21) = true)
  (aq22 : nsIn K mainGlobals "is_word" = some (some (.ref fq22)))
  (lq22 : K.lookup fq22 = some ⟨ocq22, odq22, .func (fnOf "is_word" "is_word" (defArgs st_is_word) (defBody st_is_word) (defScope st_is_word) .none kVq22 dcq22 pmq22 anq22 cdq22 ctq22), slq22⟩)
  (cq22 : codeIn K cdq22 "is_word" = true)
  (kq22 : keepIn K (.ref fq22) = true)
  (aq23 : nsIn K mainGlobals "steps_of" = some (some (.ref fq23)))
  (lq23 : K.lookup fq23 = some ⟨ocq23, odq23, .func (fnOf "steps_of" "steps_of" (defArgs st_steps_of) (defBody st_steps_of) (defScope st_steps_of) .none kVq23 dcq23 pmq23 anq23 cdq23 ctq23), slq23⟩)
  (cq23 : codeIn K cdq23 "steps_of" = true)
  (kq23 : keepIn K (.ref fq23) = true)
  (aq24 : nsIn K mainGlobals "is_step" = some (some (.ref fq24)))
  (lq24 : K.lookup fq24 = some ⟨ocq24, odq24, .func (fnOf "is_step" "is_step" (defArgs st_is_step) (defBody st_is_step) (defScope st_is_step) .none kVq24 dcq24 pmq24 anq24 cdq24 ctq24), slq24⟩)
  (cq24 : codeIn K cdq24 "is_step" = true)
  (kq24 : keepIn K (.ref fq24) = true)
  (aq25 : nsIn K mainGlobals "turn_of" = some (some (.ref fq25)))
  (lq25 : K.lookup fq25 = some ⟨ocq25, odq25, .func (fnOf "turn_of" "turn_of" (defArgs st_turn_of) (defBody st_turn_of) (defScope st_turn_of) .none kVq25 dcq25 pmq25 anq25 cdq25 ctq25), slq25⟩)
  (cq25 : codeIn K cdq25 "turn_of" = true)
  (kq25 : keepIn K (.ref fq25) = true)
  (aq26 : nsIn K mainGlobals "drawn_points" = some (some (.ref fq26)))
  (lq26 : K.lookup fq26 = some ⟨ocq26, odq26, .func (fnOf "drawn_points" "drawn_points" (defArgs st_drawn_points) (defBody st_drawn_points) (defScope st_drawn_points) .none kVq26 dcq26 pmq26 anq26 cdq26 ctq26), slq26⟩)
  (cq26 : codeIn K cdq26 "drawn_points" = true)
  (kq26 : keepIn K (.ref fq26) = true)
  (aq27 : nsIn K mainGlobals "picture_of" = some (some (.ref fq27)))
  (lq27 : K.lookup fq27 = some ⟨ocq27, odq27, .func (fnOf "picture_of" "picture_of" (defArgs st_picture_of) (defBody st_picture_of) (defScope st_picture_of) .none kVq27 dcq27 pmq27 anq27 cdq27 ctq27), slq27⟩)
  (cq27 : codeIn K cdq27 "picture_of" = true)
  (kq27 : keepIn K (.ref fq27) = true)
  (aq28 : nsIn K mainGlobals "tally_of" = some (some (.ref fq28)))
  (lq28 : K.lookup fq28 = some ⟨ocq28, odq28, .func (fnOf "tally_of" "tally_of" (defArgs st_tally_of) (defBody st_tally_of) (defScope st_tally_of) .none kVq28 dcq28 pmq28 anq28 cdq28 ctq28), slq28⟩)
  (cq28 : codeIn K cdq28 "tally_of" = true)
  (kq28 : keepIn K (.ref fq28) = true)
  (aq29 : nsIn K mainGlobals "add_times" = some (some (.ref fq29)))
  (lq29 : K.lookup fq29 = some ⟨ocq29, odq29, .func (fnOf "add_times" "add_times" (defArgs st_add_times) (defBody st_add_times) (defScope st_add_times) .none kVq29 dcq29 pmq29 anq29 cdq29 ctq29), slq29⟩)
  (cq29 : codeIn K cdq29 "add_times" = true)
  (kq29 : keepIn K (.ref fq29) = true)
  (aq30 : nsIn K mainGlobals "grown" = some (some (.ref fq30)))
  (lq30 : K.lookup fq30 = some ⟨ocq30, odq30, .func (fnOf "grown" "grown" (defArgs st_grown) (defBody st_grown) (defScope st_grown) .none kVq30 dcq30 pmq30 anq30 cdq30 ctq30), slq30⟩)
  (cq30 : codeIn K cdq30 "grown" = true)
  (kq30 : keepIn K (.ref fq30) = true)
  (aq31 : nsIn K mainGlobals "signs_in" = some (some (.ref fq31)))
  (lq31 : K.lookup fq31 = some ⟨ocq31, odq31, .func (fnOf "signs_in" "signs_in" (defArgs st_signs_in) (defBody st_signs_in) (defScope st_signs_in) .none kVq31 dcq31 pmq31 anq31 cdq31 ctq31), slq31⟩)
  (cq31 : codeIn K cdq31 "signs_in" = true)
  (kq31 : keepIn K (.ref fq31) = true)
  (aq32 : nsIn K mainGlobals "tallies_of" = some (some (.ref fq32)))
  (lq32 : K.lookup fq32 = some ⟨ocq32, odq32, .func (fnOf "tallies_of" "tallies_of" (defArgs st_tallies_of) (defBody st_tallies_of) (defScope st_tallies_of) .none kVq32 dcq32 pmq32 anq32 cdq32 ctq32), slq32⟩)
  (cq32 : codeIn K cdq32 "tallies_of" = true)
  (kq32 : keepIn K (.ref fq32) = true)
  (aq33 : nsIn K mainGlobals "joined" = some (some (.ref fq33)))
  (lq33 : K.lookup fq33 = some ⟨ocq33, odq33, .func (fnOf "joined" "joined" (defArgs st_joined) (defBody st_joined) (defScope st_joined) .none kVq33 dcq33 pmq33 anq33 cdq33 ctq33), slq33⟩)
  (cq33 : codeIn K cdq33 "joined" = true)
  (kq33 : keepIn K (.ref fq33) = true)
  (aq34 : nsIn K mainGlobals "pieces_of_signs" = some (some (.ref fq34)))
  (lq34 : K.lookup fq34 = some ⟨ocq34, odq34, .func (fnOf "pieces_of_signs" "pieces_of_signs" (defArgs st_pieces_of_signs) (defBody st_pieces_of_signs) (defScope st_pieces_of_signs) .none kVq34 dcq34 pmq34 anq34 cdq34 ctq34), slq34⟩)
  (cq34 : codeIn K cdq34 "pieces_of_signs" = true)
  (kq34 : keepIn K (.ref fq34) = true)
  (aq35 : nsIn K mainGlobals "piece_along" = some (some (.ref fq35)))
  (lq35 : K.lookup fq35 = some ⟨ocq35, odq35, .func (fnOf "piece_along" "piece_along" (defArgs st_piece_along) (defBody st_piece_along) (defScope st_piece_along) .none kVq35 dcq35 pmq35 anq35 cdq35 ctq35), slq35⟩)
  (cq35 : codeIn K cdq35 "piece_along" = true)
  (kq35 : keepIn K (.ref fq35) = true)
  (aq36 : nsIn K mainGlobals "grown_pieces" = some (some (.ref fq36)))
  (lq36 : K.lookup fq36 = some ⟨ocq36, odq36, .func (fnOf "grown_pieces" "grown_pieces" (defArgs st_grown_pieces) (defBody st_grown_pieces) (defScope st_grown_pieces) .none kVq36 dcq36 pmq36 anq36 cdq36 ctq36), slq36⟩)
  (cq36 : codeIn K cdq36 "grown_pieces" = true)
  (kq36 : keepIn K (.ref fq36) = true)
  (aq37 : nsIn K mainGlobals "signs_from" = some (some (.ref fq37)))
  (lq37 : K.lookup fq37 = some ⟨ocq37, odq37, .func (fnOf "signs_from" "signs_from" (defArgs st_signs_from) (defBody st_signs_from) (defScope st_signs_from) .none kVq37 dcq37 pmq37 anq37 cdq37 ctq37), slq37⟩)
  (cq37 : codeIn K cdq37 "signs_from" = true)
  (kq37 : keepIn K (.ref fq37) = true)
  (aq38 : nsIn K mainGlobals "lines_of" = some (some (.ref fq38)))
  (lq38 : K.lookup fq38 = some ⟨ocq38, odq38, .func (fnOf "lines_of" "lines_of" (defArgs st_lines_of) (defBody st_lines_of) (defScope st_lines_of) .none kVq38 dcq38 pmq38 anq38 cdq38 ctq38), slq38⟩)
  (cq38 : codeIn K cdq38 "lines_of" = true)
  (kq38 : keepIn K (.ref fq38) = true)
  (aq39 : nsIn K mainGlobals "is_directions" = some (some (.ref fq39)))
  (lq39 : K.lookup fq39 = some ⟨ocq39, odq39, .func (fnOf "is_directions" "is_directions" (defArgs st_is_directions) (defBody st_is_directions) (defScope st_is_directions) .none kVq39 dcq39 pmq39 anq39 cdq39 ctq39), slq39⟩)
  (cq39 : codeIn K cdq39 "is_directions" = true)
  (kq39 : keepIn K (.ref fq39) = true)
  (aq40 : nsIn K mainGlobals "is_rule" = some (some (.ref fq40)))
  (lq40 : K.lookup fq40 = some ⟨ocq40, odq40, .func (fnOf "is_rule" "is_rule" (defArgs st_is_rule) (defBody st_is_rule) (defScope st_is_rule) .none kVq40 dcq40 pmq40 anq40 cdq40 ctq40), slq40⟩)
  (cq40 : codeIn K cdq40 "is_rule" = true)
  (kq40 : keepIn K (.ref fq40) = true)
  (aq41 : nsIn K mainGlobals "first_wrong_line" = some (some (.ref fq41)))
  (lq41 : K.lookup fq41 = some ⟨ocq41, odq41, .func (fnOf "first_wrong_line" "first_wrong_line" (defArgs st_first_wrong_line) (defBody st_first_wrong_line) (defScope st_first_wrong_line) .none kVq41 dcq41 pmq41 anq41 cdq41 ctq41), slq41⟩)
  (cq41 : codeIn K cdq41 "first_wrong_line" = true)
  (kq41 : keepIn K (.ref fq41) = true)
  (aq42 : nsIn K mainGlobals "directions_of" = some (some (.ref fq42)))
  (lq42 : K.lookup fq42 = some ⟨ocq42, odq42, .func (fnOf "directions_of" "directions_of" (defArgs st_directions_of) (defBody st_directions_of) (defScope st_directions_of) .none kVq42 dcq42 pmq42 anq42 cdq42 ctq42), slq42⟩)
  (cq42 : codeIn K cdq42 "directions_of" = true)
  (kq42 : keepIn K (.ref fq42) = true)
  (aq43 : nsIn K mainGlobals "first_word_of" = some (some (.ref fq43)))
  (lq43 : K.lookup fq43 = some ⟨ocq43, odq43, .func (fnOf "first_word_of" "first_word_of" (defArgs st_first_word_of) (defBody st_first_word_of) (defScope st_first_word_of) .none kVq43 dcq43 pmq43 anq43 cdq43 ctq43), slq43⟩)
  (cq43 : codeIn K cdq43 "first_word_of" = true)
  (kq43 : keepIn K (.ref fq43) = true)
  (aq44 : nsIn K mainGlobals "rules_of" = some (some (.ref fq44)))
  (lq44 : K.lookup fq44 = some ⟨ocq44, odq44, .func (fnOf "rules_of" "rules_of" (defArgs st_rules_of) (defBody st_rules_of) (defScope st_rules_of) .none kVq44 dcq44 pmq44 anq44 cdq44 ctq44), slq44⟩)
  (cq44 : codeIn K cdq44 "rules_of" = true)
  (kq44 : keepIn K (.ref fq44) = true)
  (aq45 : nsIn K mainGlobals "way_of_sign" = some (some (.ref fq45)))
  (lq45 : K.lookup fq45 = some ⟨ocq45, odq45, .func (fnOf "way_of_sign" "way_of_sign" (defArgs st_way_of_sign) (defBody st_way_of_sign) (defScope st_way_of_sign) .none kVq45 dcq45 pmq45 anq45 cdq45 ctq45), slq45⟩)
  (cq45 : codeIn K cdq45 "way_of_sign" = true)
  (kq45 : keepIn K (.ref fq45) = true)
  (aq46 : nsIn K mainGlobals "ways_of_signs" = some (some (.ref fq46)))
  (lq46 : K.lookup fq46 = some ⟨ocq46, odq46, .func (fnOf "ways_of_signs" "ways_of_signs" (defArgs st_ways_of_signs) (defBody st_ways_of_signs) (defScope st_ways_of_signs) .none kVq46 dcq46 pmq46 anq46 cdq46 ctq46), slq46⟩)
  (cq46 : codeIn K cdq46 "ways_of_signs" = true)
  (kq46 : keepIn K (.ref fq46) = true)
  (aq47 : nsIn K mainGlobals "turned" = some (some (.ref fq47)))
  (lq47 : K.lookup fq47 = some ⟨ocq47, odq47, .func (fnOf "turned" "turned" (defArgs st_turned) (defBody st_turned) (defScope st_turned) .none kVq47 dcq47 pmq47 anq47 cdq47 ctq47), slq47⟩)
  (cq47 : codeIn K cdq47 "turned" = true)
  (kq47 : keepIn K (.ref fq47) = true)
  (aq48 : nsIn K mainGlobals "added" = some (some (.ref fq48)))
  (lq48 : K.lookup fq48 = some ⟨ocq48, odq48, .func (fnOf "added" "added" (defArgs st_added) (defBody st_added) (defScope st_added) .none kVq48 dcq48 pmq48 anq48 cdq48 ctq48), slq48⟩)
  (cq48 : codeIn K cdq48 "added" = true)
  (kq48 : keepIn K (.ref fq48) = true)
  (aq49 : nsIn K mainGlobals "farthest" = some (some (.ref fq49)))
  (lq49 : K.lookup fq49 = some ⟨ocq49, odq49, .func (fnOf "farthest" "farthest" (defArgs st_farthest) (defBody st_farthest) (defScope st_farthest) .none kVq49 dcq49 pmq49 anq49 cdq49 ctq49), slq49⟩)
  (cq49 : codeIn K cdq49 "farthest" = true)
  (kq49 : keepIn K (.ref fq49) = true)
  (aq50 : nsIn K mainGlobals "way_along" = some (some (.ref fq50)))
  (lq50 : K.lookup fq50 = some ⟨ocq50, odq50, .func (fnOf "way_along" "way_along" (defArgs st_way_along) (defBody st_way_along) (defScope st_way_along) .none kVq50 dcq50 pmq50 anq50 cdq50 ctq50), slq50⟩)
  (cq50 : codeIn K cdq50 "way_along" = true)
  (kq50 : keepIn K (.ref fq50) = true)
  (aq51 : nsIn K mainGlobals "grown_ways" = some (some (.ref fq51)))
  (lq51 : K.lookup fq51 = some ⟨ocq51, odq51, .func (fnOf "grown_ways" "grown_ways" (defArgs st_grown_ways) (defBody st_grown_ways) (defScope st_grown_ways) .none kVq51 dcq51 pmq51 anq51 cdq51 ctq51), slq51⟩)
  (cq51 : codeIn K cdq51 "grown_ways" = true)
  (kq51 : keepIn K (.ref fq51) = true)
  (aq52 : nsIn K mainGlobals "told_of" = some (some (.ref fq52)))
  (lq52 : K.lookup fq52 = some ⟨ocq52, odq52, .func (fnOf "told_of" "told_of" (defArgs st_told_of) (defBody st_told_of) (defScope st_told_of) .none kVq52 dcq52 pmq52 anq52 cdq52 ctq52), slq52⟩)
  (cq52 : codeIn K cdq52 "told_of" = true)
  (kq52 : keepIn K (.ref fq52) = true)
  (aq53 : nsIn K mainGlobals "end_of_call" = some (some (.ref fq53)))
  (lq53 : K.lookup fq53 = some ⟨ocq53, odq53, .func (fnOf "end_of_call" "end_of_call" (defArgs st_end_of_call) (defBody st_end_of_call) (defScope st_end_of_call) .none kVq53 dcq53 pmq53 anq53 cdq53 ctq53), slq53⟩)
  (cq53 : codeIn K cdq53 "end_of_call" = true)
  (kq53 : keepIn K (.ref fq53) = true)
  (aq54 : nsIn K mainGlobals "answer_of" = some (some (.ref fq54)))
  (lq54 : K.lookup fq54 = some ⟨ocq54, odq54, .func (fnOf "answer_of" "answer_of" (defArgs st_answer_of) (defBody st_answer_of) (defScope st_answer_of) .none kVq54 dcq54 pmq54 anq54 cdq54 ctq54), slq54⟩)
  (cq54 : codeIn K cdq54 "answer_of" = true)
  (kq54 : keepIn K (.ref fq54) = true)
  (aq55 : nsIn K mainGlobals "answers" = some (some (.ref fq55)))
  (lq55 : K.lookup fq55 = some ⟨ocq55, odq55, .func (fnOf "answers" "answers" (defArgs st_answers) (defBody st_answers) (defScope st_answers) .none kVq55 dcq55 pmq55 anq55 cdq55 ctq55), slq55⟩)
  (cq55 : codeIn K cdq55 "answers" = true)
  (kq55 : keepIn K (.ref fq55) = true)
  : ∃ fd : FuncData, (∀ (s : Shared) (us : List Value), us.length = (["calls"] : List Str).length → BindsTo s fd ⟨us, []⟩ ((["calls"] : List Str).zip us)) ∧ ∀ base : Heap, K.In base → base.Ns mainGlobals mg → FnOk P w K mg base CX0 10 fa fd ["calls"] (spAnswers K) := by
 have e := hfa.symm.trans (PySem.W.mg_of X G aq55)
 cases e
 have Fq0 := fun_mk (st := st_Piece___init__) lq0 cq0 kq0
 have Bq0 := Fq0.binds (ps := ["self", "length", "signs", "parts"]) fun _ _ _ _ _ _ us hl => match us, hl with | [_, _, _, _], _ => rfl
 have Fq1 := fun_mk (st := st_Way___init__) lq1 cq1 kq1
 have Bq1 := Fq1.binds (ps := ["self", "turn", "ends", "reach"]) fun _ _ _ _ _ _ us hl => match us, hl with | [_, _, _, _], _ => rfl
 have Fq2 := fun_mk (st := st_Words___init__) lq2 cq2 kq2
 have Bq2 := Fq2.binds (ps := ["self", "directions", "first_word", "rules"]) fun _ _ _ _ _ _ us hl => match us, hl with | [_, _, _, _], _ => rfl
 have Fq3 := fun_mk (st := st_Words_is_told) lq3 cq3 kq3
 have Bq3 := Fq3.binds (ps := ["self", "n"]) fun _ _ _ _ _ _ us hl => match us, hl with | [_, _], _ => rfl
 have Fq4 := fun_mk (st := st_Words_signs_of) lq4 cq4 kq4
 have Bq4 := Fq4.binds (ps := ["self", "n"]) fun _ _ _ _ _ _ us hl => match us, hl with | [_, _], _ => rfl
 have Fq5 := fun_mk (st := st_Words_times) lq5 cq5 kq5
 have Bq5 := Fq5.binds (ps := ["self", "n", "sign"]) fun _ _ _ _ _ _ us hl => match us, hl with | [_, _, _], _ => rfl
 have Fq6 := fun_mk (st := st_Words_piece_of) lq6 cq6 kq6
 have Bq6 := Fq6.binds (ps := ["self", "n"]) fun _ _ _ _ _ _ us hl => match us, hl with | [_, _], _ => rfl
 have Fq7 := fun_mk (st := st_Words_way_of) lq7 cq7 kq7
 have Bq7 := Fq7.binds (ps := ["self", "n"]) fun _ _ _ _ _ _ us hl => match us, hl with | [_, _], _ => rfl
 have Fq8 := fun_mk (st := st_Grower___init__) lq8 cq8 kq8
 have Bq8 := Fq8.binds (ps := ["self"]) fun _ _ _ _ _ _ us hl => match us, hl with | [_], _ => rfl
 have Fq9 := fun_mk (st := st_Grower_begin) lq9 cq9 kq9
 have Bq9 := Fq9.binds (ps := ["self"]) fun _ _ _ _ _ _ us hl => match us, hl with | [_], _ => rfl
 have Fq10 := fun_mk (st := st_Grower_read) lq10 cq10 kq10
 have Bq10 := Fq10.binds (ps := ["self", "text"]) fun _ _ _ _ _ _ us hl => match us, hl with | [_, _], _ => rfl
 have Fq11 := fun_mk (st := st_Grower_long) lq11 cq11 kq11
 have Bq11 := Fq11.binds (ps := ["self", "n"]) fun _ _ _ _ _ _ us hl => match us, hl with | [_, _], _ => rfl
 have Fq12 := fun_mk (st := st_Grower_often) lq12 cq12 kq12
 have Bq12 := Fq12.binds (ps := ["self", "n", "sign"]) fun _ _ _ _ _ _ us hl => match us, hl with | [_, _, _], _ => rfl
 have Fq13 := fun_mk (st := st_Grower_part) lq13 cq13 kq13
 have Bq13 := Fq13.binds (ps := ["self", "n", "first", "most"]) fun _ _ _ _ _ _ us hl => match us, hl with | [_, _, _, _], _ => rfl
 have Fq14 := fun_mk (st := st_Grower_walk) lq14 cq14 kq14
 have Bq14 := Fq14.binds (ps := ["self", "n"]) fun _ _ _ _ _ _ us hl => match us, hl with | [_, _], _ => rfl
 have Fq15 := fun_mk (st := st_Grower_picture) lq15 cq15 kq15
 have Bq15 := Fq15.binds (ps := ["self", "n", "x", "y", "width", "height"]) fun _ _ _ _ _ _ us hl => match us, hl with | [_, _, _, _, _, _], _ => rfl
 have Fq16 := fun_mk (st := st_Grower_refusal_of) lq16 cq16 kq16
 have Bq16 := Fq16.binds (ps := ["self", "n"]) fun _ _ _ _ _ _ us hl => match us, hl with | [_, _], _ => rfl
 have Fq17 := fun_mk (st := st_is_capital) lq17 cq17 kq17
 have Bq17 := Fq17.binds (ps := ["byte"]) fun _ _ _ _ _ _ us hl => match us, hl with | [_], _ => rfl
 have Fq18 := fun_mk (st := st_is_letter) lq18 cq18 kq18
 have Bq18 := Fq18.binds (ps := ["byte"]) fun _ _ _ _ _ _ us hl => match us, hl with | [_], _ => rfl
 have Fq19 := fun_mk (st := st_is_sign) lq19 cq19 kq19
 have Bq19 := Fq19.binds (ps := ["byte"]) fun _ _ _ _ _ _ us hl => match us, hl with | [_], _ => rfl
 have Fq20 := fun_mk (st := st_all_signs) lq20 cq20 kq20
 have Bq20 := Fq20.binds (ps := []) fun _ _ _ _ _ _ us hl => match us, hl with | [], _ => rfl
 have Fq21 := fun_mk (st := st_brackets_match) lq21 cq21 kq21
 have Bq21 := Fq21.binds (ps := ["signs"]) fun _ _ _ _ _ _ us hl => match us, hl with | [_], _ => rfl
 have Fq22 := fun_mk (st := st_is_word) lq22 cq22 kq22
 have Bq22 := Fq22.binds (ps := ["signs"]) fun _ _ _ _ _ _ us hl => match us, hl with | [_], _ => rfl
 have Fq23 := fun_mk (st := st_steps_of) lq23 cq23 kq23
 have Bq23 := Fq23.binds (ps := ["directions"]) fun _ _ _ _ _ _ us hl => match us, hl with | [_], _ => rfl
 have Fq24 := fun_mk (st := st_is_step) lq24 cq24 kq24
 have Bq24 := Fq24.binds (ps := ["sign"]) fun _ _ _ _ _ _ us hl => match us, hl with | [_], _ => rfl
 have Fq25 := fun_mk (st := st_turn_of) lq25 cq25 kq25
 have Bq25 := Fq25.binds (ps := ["sign", "directions"]) fun _ _ _ _ _ _ us hl => match us, hl with | [_, _], _ => rfl
 have Fq26 := fun_mk (st := st_drawn_points) lq26 cq26 kq26
 have Bq26 := Fq26.binds (ps := ["signs", "directions"]) fun _ _ _ _ _ _ us hl => match us, hl with | [_, _], _ => rfl
 have Fq27 := fun_mk (st := st_picture_of) lq27 cq27 kq27
 have Bq27 := Fq27.binds (ps := ["points", "x", "y", "width", "height"]) fun _ _ _ _ _ _ us hl => match us, hl with | [_, _, _, _, _], _ => rfl
 have Fq28 := fun_mk (st := st_tally_of) lq28 cq28 kq28
 have Bq28 := Fq28.binds (ps := ["word"]) fun _ _ _ _ _ _ us hl => match us, hl with | [_], _ => rfl
 have Fq29 := fun_mk (st := st_add_times) lq29 cq29 kq29
 have Bq29 := Fq29.binds (ps := ["tally", "more", "times"]) fun _ _ _ _ _ _ us hl => match us, hl with | [_, _, _], _ => rfl
 have Fq30 := fun_mk (st := st_grown) lq30 cq30 kq30
 have Bq30 := Fq30.binds (ps := ["tally", "rule_tallies"]) fun _ _ _ _ _ _ us hl => match us, hl with | [_, _], _ => rfl
 have Fq31 := fun_mk (st := st_signs_in) lq31 cq31 kq31
 have Bq31 := Fq31.binds (ps := ["tally"]) fun _ _ _ _ _ _ us hl => match us, hl with | [_], _ => rfl
 have Fq32 := fun_mk (st := st_tallies_of) lq32 cq32 kq32
 have Bq32 := Fq32.binds (ps := ["first_word", "rules"]) fun _ _ _ _ _ _ us hl => match us, hl with | [_, _], _ => rfl
 have Fq33 := fun_mk (st := st_joined) lq33 cq33 kq33
 have Bq33 := Fq33.binds (ps := ["pieces"]) fun _ _ _ _ _ _ us hl => match us, hl with | [_], _ => rfl
 have Fq34 := fun_mk (st := st_pieces_of_signs) lq34 cq34 kq34
 have Bq34 := Fq34.binds (ps := []) fun _ _ _ _ _ _ us hl => match us, hl with | [], _ => rfl
 have Fq35 := fun_mk (st := st_piece_along) lq35 cq35 kq35
 have Bq35 := Fq35.binds (ps := ["word", "pieces"]) fun _ _ _ _ _ _ us hl => match us, hl with | [_, _], _ => rfl
 have Fq36 := fun_mk (st := st_grown_pieces) lq36 cq36 kq36
 have Bq36 := Fq36.binds (ps := ["pieces", "rules"]) fun _ _ _ _ _ _ us hl => match us, hl with | [_, _], _ => rfl
 have Fq37 := fun_mk (st := st_signs_from) lq37 cq37 kq37
 have Bq37 := Fq37.binds (ps := ["piece", "first", "most"]) fun _ _ _ _ _ _ us hl => match us, hl with | [_, _, _], _ => rfl
 have Fq38 := fun_mk (st := st_lines_of) lq38 cq38 kq38
 have Bq38 := Fq38.binds (ps := ["text"]) fun _ _ _ _ _ _ us hl => match us, hl with | [_], _ => rfl
 have Fq39 := fun_mk (st := st_is_directions) lq39 cq39 kq39
 have Bq39 := Fq39.binds (ps := ["line"]) fun _ _ _ _ _ _ us hl => match us, hl with | [_], _ => rfl
 have Fq40 := fun_mk (st := st_is_rule) lq40 cq40 kq40
 have Bq40 := Fq40.binds (ps := ["line"]) fun _ _ _ _ _ _ us hl => match us, hl with | [_], _ => rfl
 have Fq41 := fun_mk (st := st_first_wrong_line) lq41 cq41 kq41
 have Bq41 := Fq41.binds (ps := ["lines"]) fun _ _ _ _ _ _ us hl => match us, hl with | [_], _ => rfl
 have Fq42 := fun_mk (st := st_directions_of) lq42 cq42 kq42
 have Bq42 := Fq42.binds (ps := ["lines"]) fun _ _ _ _ _ _ us hl => match us, hl with | [_], _ => rfl
 have Fq43 := fun_mk (st := st_first_word_of) lq43 cq43 kq43
 have Bq43 := Fq43.binds (ps := ["lines"]) fun _ _ _ _ _ _ us hl => match us, hl with | [_], _ => rfl
 have Fq44 := fun_mk (st := st_rules_of) lq44 cq44 kq44
 have Bq44 := Fq44.binds (ps := ["lines"]) fun _ _ _ _ _ _ us hl => match us, hl with | [_], _ => rfl
 have Fq45 := fun_mk (st := st_way_of_sign) lq45 cq45 kq45
 have Bq45 := Fq45.binds (ps := ["sign", "directions"]) fun _ _ _ _ _ _ us hl => match us, hl with | [_, _], _ => rfl
 have Fq46 := fun_mk (st := st_ways_of_signs) lq46 cq46 kq46
 have Bq46 := Fq46.binds (ps := ["directions"]) fun _ _ _ _ _ _ us hl => match us, hl with | [_], _ => rfl
 have Fq47 := fun_mk (st := st_turned) lq47 cq47 kq47
 have Bq47 := Fq47.binds (ps := ["row", "turn"]) fun _ _ _ _ _ _ us hl => match us, hl with | [_, _], _ => rfl
 have Fq48 := fun_mk (st := st_added) lq48 cq48 kq48
 have Bq48 := Fq48.binds (ps := ["ends", "more"]) fun _ _ _ _ _ _ us hl => match us, hl with | [_, _], _ => rfl
 have Fq49 := fun_mk (st := st_farthest) lq49 cq49 kq49
 have Bq49 := Fq49.binds (ps := ["reach", "ends", "more"]) fun _ _ _ _ _ _ us hl => match us, hl with | [_, _, _], _ => rfl
 have Fq50 := fun_mk (st := st_way_along) lq50 cq50 kq50
 have Bq50 := Fq50.binds (ps := ["word", "ways", "directions"]) fun _ _ _ _ _ _ us hl => match us, hl with | [_, _, _], _ => rfl
 have Fq51 := fun_mk (st := st_grown_ways) lq51 cq51 kq51
 have Bq51 := Fq51.binds (ps := ["ways", "rules", "directions"]) fun _ _ _ _ _ _ us hl => match us, hl with | [_, _, _], _ => rfl
 have Fq52 := fun_mk (st := st_told_of) lq52 cq52 kq52
 have Bq52 := Fq52.binds (ps := ["way"]) fun _ _ _ _ _ _ us hl => match us, hl with | [_], _ => rfl
 have Fq53 := fun_mk (st := st_end_of_call) lq53 cq53 kq53
 have Bq53 := Fq53.binds (ps := ["calls", "start"]) fun _ _ _ _ _ _ us hl => match us, hl with | [_, _], _ => rfl
 have Fq54 := fun_mk (st := st_answer_of) lq54 cq54 kq54
 have Bq54 := Fq54.binds (ps := ["grower", "call"]) fun _ _ _ _ _ _ us hl => match us, hl with | [_, _], _ => rfl
 have Fq55 := fun_mk (st := st_answers) lq55 cq55 kq55
 have Bq55 := Fq55.binds (ps := ["calls"]) fun _ _ _ _ _ _ us hl => match us, hl with | [_], _ => rfl
 have S_STEPS_OF_4 : ∃ M : Addr, mg "STEPS_OF_4" = some (.ref M) ∧ StepsAt K M [(1, 0), (0, 1), (-1, 0), (0, -1)] := by
  refine ⟨m_STEPS_OF_4, mg_of X G a_STEPS_OF_4, steps_at (as := [m_STEPS_OF_4_0, m_STEPS_OF_4_1, m_STEPS_OF_4_2, m_STEPS_OF_4_3]) (fun H => .inr ⟨_, _, _, l_STEPS_OF_4, rfl, rfl, by show 4 ≤ sizeLine; decide, .cons rfl (.cons rfl (.cons rfl (.cons rfl (.nil))))⟩) rfl (fun j a p ea ep => ?_)⟩
  rcases j with _ | j
  ·cases ea; cases ep; exact fun H => .inr ⟨_, _, _, l_STEPS_OF_4_0, rfl, rfl, by show 2 ≤ sizeLine; decide, .cons ⟨_, rfl⟩ (.cons ⟨_, rfl⟩ (.nil))⟩
  rcases j with _ | j
  ·cases ea; cases ep; exact fun H => .inr ⟨_, _, _, l_STEPS_OF_4_1, rfl, rfl, by show 2 ≤ sizeLine; decide, .cons ⟨_, rfl⟩ (.cons ⟨_, rfl⟩ (.nil))⟩
  rcases j with _ | j
  ·cases ea; cases ep; exact fun H => .inr ⟨_, _, _, l_STEPS_OF_4_2, rfl, rfl, by show 2 ≤ sizeLine; decide, .cons ⟨_, rfl⟩ (.cons ⟨_, rfl⟩ (.nil))⟩
  rcases j with _ | j
  ·cases ea; cases ep; exact fun H => .inr ⟨_, _, _, l_STEPS_OF_4_3, rfl, rfl, by show 2 ≤ sizeLine; decide, .cons ⟨_, rfl⟩ (.cons ⟨_, rfl⟩ (.nil))⟩
  exact (nomatch ea)
 have S_STEPS_OF_6 : ∃ M : Addr, mg "STEPS_OF_6" = some (.ref M) ∧ StepsAt K M [(1, 0), (0, 1), (-1, 1), (-1, 0), (0, -1), (1, -1)] := by
  refine ⟨m_STEPS_OF_6, mg_of X G a_STEPS_OF_6, steps_at (as := [m_STEPS_OF_6_0, m_STEPS_OF_6_1, m_STEPS_OF_6_2, m_STEPS_OF_6_3, m_STEPS_OF_6_4, m_STEPS_OF_6_5]) (fun H => .inr ⟨_, _, _, l_STEPS_OF_6, rfl, rfl, by show 6 ≤ sizeLine; decide, .cons rfl (.cons rfl (.cons rfl (.cons rfl (.cons rfl (.cons rfl (.nil))))))⟩) rfl (fun j a p ea ep => ?_)⟩
  rcases j with _ | j
  ·cases ea; cases ep; exact fun H => .inr ⟨_, _, _, l_STEPS_OF_6_0, rfl, rfl, by show 2 ≤ sizeLine; decide, .cons ⟨_, rfl⟩ (.cons ⟨_, rfl⟩ (.nil))⟩
  rcases j with _ | j
  ·cases ea; cases ep; exact fun H => .inr ⟨_, _, _, l_STEPS_OF_6_1, rfl, rfl, by show 2 ≤ sizeLine; decide, .cons ⟨_, rfl⟩ (.cons ⟨_, rfl⟩ (.nil))⟩
  rcases j with _ | j
  ·cases ea; cases ep; exact fun H => .inr ⟨_, _, _, l_STEPS_OF_6_2, rfl, rfl, by show 2 ≤ sizeLine; decide, .cons ⟨_, rfl⟩ (.cons ⟨_, rfl⟩ (.nil))⟩
  rcases j with _ | j
  ·cases ea; cases ep; exact fun H => .inr ⟨_, _, _, l_STEPS_OF_6_3, rfl, rfl, by show 2 ≤ sizeLine; decide, .cons ⟨_, rfl⟩ (.cons ⟨_, rfl⟩ (.nil))⟩
  rcases j with _ | j
  ·cases ea; cases ep; exact fun H => .inr ⟨_, _, _, l_STEPS_OF_6_4, rfl, rfl, by show 2 ≤ sizeLine; decide, .cons ⟨_, rfl⟩ (.cons ⟨_, rfl⟩ (.nil))⟩
  rcases j with _ | j
  ·cases ea; cases ep; exact fun H => .inr ⟨_, _, _, l_STEPS_OF_6_5, rfl, rfl, by show 2 ≤ sizeLine; decide, .cons ⟨_, rfl⟩ (.cons ⟨_, rfl⟩ (.nil))⟩
  exact (nomatch ea)
 have T : Txt K mg := ⟨mg_none_of X G b_len, mg_none_of X G b_ord, mg_none_of X G b_all, mg_none_of X G b_sum, mg_none_of X G b_range, mg_none_of X G b_max, mg_none_of X G b_zip, mg_none_of X G b_list, mg_none_of X G b_reversed, mg_none_of X G b_dict, ⟨_, mg_of X G g_LAST_WORD⟩, ⟨_, mg_of X G g_TOO_MANY_SIGNS⟩, ⟨_, mg_of X G g_MOST_SIGNS⟩, ⟨_, mg_of X G g_GOING⟩, ⟨_, mg_of X G g_LEFT⟩, ⟨_, mg_of X G g_RIGHT⟩, ⟨_, mg_of X G g_AROUND⟩, ⟨_, mg_of X G g_OPENING⟩, ⟨_, mg_of X G g_CLOSING⟩, ⟨_, mg_of X G g_LINE_END⟩, ⟨_, mg_of X G g_LONGEST_WRITTEN⟩,
  ⟨m_MARKS, mg_of X G a_MARKS, fun H => .inr ⟨_, _, _, l_MARKS, rfl, rfl, by show 6 ≤ sizeLine; decide, .cons ⟨_, rfl⟩ (.cons ⟨_, rfl⟩ (.cons ⟨_, rfl⟩ (.cons ⟨_, rfl⟩ (.cons ⟨_, rfl⟩ (.cons ⟨_, rfl⟩ (.nil))))))⟩⟩, S_STEPS_OF_4, S_STEPS_OF_6⟩
 have TPiece : TxtP K CPiece := ⟨⟨pgPiece, hdPiece, poPiece, saPiece⟩, nPiece_length, nPiece_signs, nPiece_parts⟩
 have TWay : TxtW K CWay := ⟨⟨pgWay, hdWay, poWay, saWay⟩, nWay_turn, nWay_ends, nWay_reach, nWay_moves⟩
 have TWords : TxtO K CWords := ⟨⟨pgWords, hdWords, poWords, saWords⟩, nWords_directions, nWords_first_word, nWords_rules, nWords_tallies, nWords_pieces, nWords_ways⟩
 have TG : TxtG K mg CGrower := ⟨⟨pgGrower, hdGrower, poGrower, saGrower⟩, nGrower_words, ⟨_, mg_of X G g_NO_RULES⟩, ⟨_, mg_of X G g_OUT_OF_RANGE⟩, ⟨_, mg_of X G g_TOO_LONG⟩, ⟨_, mg_of X G g_WRONG_LINE⟩, ⟨_, mg_of X G g_WIDEST⟩, ⟨_, mg_of X G g_TOO_MANY_TO_DRAW⟩⟩
 have TD : TxtD K mg := ⟨⟨_, mg_of X G g_BEGIN⟩, ⟨_, mg_of X G g_READ⟩, ⟨_, mg_of X G g_LONG⟩, ⟨_, mg_of X G g_OFTEN⟩, ⟨_, mg_of X G g_PART⟩, ⟨_, mg_of X G g_WALK⟩, ⟨m_SIZES, mg_of X G a_SIZES, fun H => .inr ⟨_, _, _, l_SIZES, rfl, rfl, by show 7 ≤ sizeLine; decide, .cons ⟨_, rfl⟩ (.cons ⟨_, rfl⟩ (.cons ⟨_, rfl⟩ (.cons ⟨_, rfl⟩ (.cons ⟨_, rfl⟩ (.cons ⟨_, rfl⟩ (.cons ⟨_, rfl⟩ (.nil)))))))⟩⟩⟩
 refine ⟨fnOf "answers" "answers" (defArgs st_answers) (defBody st_answers) (defScope st_answers) .none kVq55 dcq55 pmq55 anq55 cdq55 ctq55, fun s us hu => match us, hu with | [_], _ => .of_eq rfl, fun base _ _ => ?_⟩
 have D_is_capital : Dfn P w K mg base "is_capital" 1 ["byte"] (spBool Kg35.isBig) := ⟨_, _, ok_is_capital Fq17 T, mg_of X G aq17, kq17, Bq17⟩
 have D_is_letter : Dfn P w K mg base "is_letter" 2 ["byte"] (spBool Kg35.isLetter) := ⟨_, _, ok_is_letter Fq18 T D_is_capital, mg_of X G aq18, kq18, Bq18⟩
 have D_is_sign : Dfn P w K mg base "is_sign" 3 ["byte"] (spBool Kg35.isSign) := ⟨_, _, ok_is_sign Fq19 T D_is_letter, mg_of X G aq19, kq19, Bq19⟩
 have D_all_signs : Dfn P w K mg base "all_signs" 4 [] (spAll) := ⟨_, _, ok_all_signs Fq20 T D_is_sign, mg_of X G aq20, kq20, Bq20⟩
 have D_brackets_match : Dfn P w K mg base "brackets_match" 1 ["signs"] (spWordB K Kg35.closed) := ⟨_, _, ok_brackets_match Fq21 T, mg_of X G aq21, kq21, Bq21⟩
 have D_is_word : Dfn P w K mg base "is_word" 4 ["signs"] (spWordB K Kg35.wordOk) := ⟨_, _, ok_is_word Fq22 T D_is_sign D_brackets_match, mg_of X G aq22, kq22, Bq22⟩
 have D_lines_of : Dfn P w K mg base "lines_of" 1 ["text"] (spLines K) := ⟨_, _, ok_lines_of Fq38 T, mg_of X G aq38, kq38, Bq38⟩
 have D_is_directions : Dfn P w K mg base "is_directions" 1 ["line"] (spWordB K isDirB) := ⟨_, _, ok_is_directions Fq39 T, mg_of X G aq39, kq39, Bq39⟩
 have D_is_rule : Dfn P w K mg base "is_rule" 5 ["line"] (spWordB K isRuleB) := ⟨_, _, ok_is_rule Fq40 T D_is_letter D_is_word, mg_of X G aq40, kq40, Bq40⟩
 have D_first_wrong_line : Dfn P w K mg base "first_wrong_line" 6 ["lines"] (spWrong) := ⟨_, _, ok_first_wrong_line Fq41 T D_is_directions D_is_word D_is_rule, mg_of X G aq41, kq41, Bq41⟩
 have D_directions_of : Dfn P w K mg base "directions_of" 1 ["lines"] (spDirs) := ⟨_, _, ok_directions_of Fq42 T, mg_of X G aq42, kq42, Bq42⟩
 have D_first_word_of : Dfn P w K mg base "first_word_of" 1 ["lines"] (spFirst) := ⟨_, _, ok_first_word_of Fq43 T, mg_of X G aq43, kq43, Bq43⟩
 have D_rules_of : Dfn P w K mg base "rules_of" 1 ["lines"] (spRules) := ⟨_, _, ok_rules_of Fq44 T, mg_of X G aq44, kq44, Bq44⟩
 have D_tally_of : Dfn P w K mg base "tally_of" 1 ["word"] (spTally K) := ⟨_, _, ok_tally_of Fq28 T, mg_of X G aq28, kq28, Bq28⟩
 have D_add_times : Dfn P w K mg base "add_times" 1 ["tally", "more", "times"] (spAdd) := ⟨_, _, ok_add_times Fq29 T, mg_of X G aq29, kq29, Bq29⟩
 have D_grown : Dfn P w K mg base "grown" 2 ["tally", "rule_tallies"] (spGrown) := ⟨_, _, ok_grown Fq30 T D_add_times, mg_of X G aq30, kq30, Bq30⟩
 have D_signs_in : Dfn P w K mg base "signs_in" 1 ["tally"] (spSigns) := ⟨_, _, ok_signs_in Fq31 T, mg_of X G aq31, kq31, Bq31⟩
 have D_tallies_of : Dfn P w K mg base "tallies_of" 3 ["first_word", "rules"] (spTallies K) := ⟨_, _, ok_tallies_of Fq32 T D_tally_of D_signs_in D_grown, mg_of X G aq32, kq32, Bq32⟩
 have D_steps_of : Dfn P w K mg base "steps_of" 1 ["directions"] (spSteps K) := ⟨_, _, ok_steps_of Fq23 T, mg_of X G aq23, kq23, Bq23⟩
 have D_is_step : Dfn P w K mg base "is_step" 2 ["sign"] (spBool isStep) := ⟨_, _, ok_is_step Fq24 T D_is_capital, mg_of X G aq24, kq24, Bq24⟩
 have D_turn_of : Dfn P w K mg base "turn_of" 1 ["sign", "directions"] (spTurn) := ⟨_, _, ok_turn_of Fq25 T, mg_of X G aq25, kq25, Bq25⟩
 have M_Piece : MkrA P w K mg base "Piece" CPiece 1 ["self", "length", "signs", "parts"] (spPieceInit CPiece) := ⟨_, _, ⟨mkPiece, aq0, iq0, kcPiece⟩, ok_Piece_init Fq0 TPiece, mg_of X G aCPiece, Bq0⟩
 have D_joined : Dfn P w K mg base "joined" 3 ["pieces"] (spJoined CPiece) := ⟨_, _, ok_joined Fq33 T TPiece M_Piece, mg_of X G aq33, kq33, Bq33⟩
 have D_pieces_of_signs : Dfn P w K mg base "pieces_of_signs" 5 [] (spPieces0 CPiece) := ⟨_, _, ok_pieces_of_signs Fq34 T M_Piece D_all_signs, mg_of X G aq34, kq34, Bq34⟩
 have D_piece_along : Dfn P w K mg base "piece_along" 4 ["word", "pieces"] (spAlong K CPiece) := ⟨_, _, ok_piece_along Fq35 T D_joined, mg_of X G aq35, kq35, Bq35⟩
 have D_grown_pieces : Dfn P w K mg base "grown_pieces" 5 ["pieces", "rules"] (spGrownP CPiece) := ⟨_, _, ok_grown_pieces Fq36 T D_piece_along, mg_of X G aq36, kq36, Bq36⟩
 have D_signs_from : Dfn P w K mg base "signs_from" 1 ["piece", "first", "most"] (spFrom CPiece) := ⟨_, _, ok_signs_from Fq37 T TPiece, mg_of X G aq37, kq37, Bq37⟩
 have M_Way : MkrA P w K mg base "Way" CWay 1 ["self", "turn", "ends", "reach"] (spWayInit CWay) := ⟨_, _, ⟨mkWay, aq1, iq1, kcWay⟩, ok_Way_init Fq1 T TWay, mg_of X G aCWay, Bq1⟩
 have D_turned : Dfn P w K mg base "turned" 1 ["row", "turn"] (spTurned K) := ⟨_, _, ok_turned Fq47 , mg_of X G aq47, kq47, Bq47⟩
 have D_added : Dfn P w K mg base "added" 1 ["ends", "more"] (spAdded K) := ⟨_, _, ok_added Fq48 T, mg_of X G aq48, kq48, Bq48⟩
 have D_farthest : Dfn P w K mg base "farthest" 1 ["reach", "ends", "more"] (spFar K) := ⟨_, _, ok_farthest Fq49 T, mg_of X G aq49, kq49, Bq49⟩
 have D_way_of_sign : Dfn P w K mg base "way_of_sign" 3 ["sign", "directions"] (spWaySign CWay) := ⟨_, _, ok_way_of_sign Fq45 T TWay M_Way D_is_step D_steps_of D_turn_of, mg_of X G aq45, kq45, Bq45⟩
 have D_ways_of_signs : Dfn P w K mg base "ways_of_signs" 5 ["directions"] (spWays0 CWay) := ⟨_, _, ok_ways_of_signs Fq46 D_all_signs D_way_of_sign, mg_of X G aq46, kq46, Bq46⟩
 have D_way_along : Dfn P w K mg base "way_along" 3 ["word", "ways", "directions"] (spWAlong K CWay) := ⟨_, _, ok_way_along Fq50 T TWay M_Way D_turned D_added D_farthest, mg_of X G aq50, kq50, Bq50⟩
 have D_grown_ways : Dfn P w K mg base "grown_ways" 4 ["ways", "rules", "directions"] (spGrownW CWay) := ⟨_, _, ok_grown_ways Fq51 T D_way_along, mg_of X G aq51, kq51, Bq51⟩
 have D_told_of : Dfn P w K mg base "told_of" 1 ["way"] (spTold CWay) := ⟨_, _, ok_told_of Fq52 T TWay, mg_of X G aq52, kq52, Bq52⟩
 have D_drawn_points : Dfn P w K mg base "drawn_points" 3 ["signs", "directions"] (spDrawn K) := ⟨_, _, ok_drawn_points Fq26 T D_is_step D_steps_of D_turn_of D_is_capital, mg_of X G aq26, kq26, Bq26⟩
 have D_picture_of : Dfn P w K mg base "picture_of" 1 ["points", "x", "y", "width", "height"] (spPicOf) := ⟨_, _, ok_picture_of Fq27 , mg_of X G aq27, kq27, Bq27⟩
 have M_Words : MkrA P w K mg base "Words" CWords 6 ["self", "directions", "first_word", "rules"] (spWordsInit CPiece CWay CWords) := ⟨_, _, ⟨mkWords, aq2, iq2, kcWords⟩, ok_Words_init Fq2 TWords D_tallies_of D_pieces_of_signs D_ways_of_signs, mg_of X G aCWords, Bq2⟩
 have D_is_told : Mth P w K mg base CWords "is_told" 1 ["self", "n"] (spIsTold CPiece CWay CWords) := ⟨_, _, ok_is_told Fq3 T TWords, ⟨aq3, iq3, kq3⟩, Bq3⟩
 have D_signs_of : Mth P w K mg base CWords "signs_of" 2 ["self", "n"] (spSignsOf CPiece CWay CWords) := ⟨_, _, ok_signs_of Fq4 TWords D_signs_in, ⟨aq4, iq4, kq4⟩, Bq4⟩
 have D_times : Mth P w K mg base CWords "times" 1 ["self", "n", "sign"] (spTimes CPiece CWay CWords) := ⟨_, _, ok_times Fq5 TWords, ⟨aq5, iq5, kq5⟩, Bq5⟩
 have D_piece_of : Mth P w K mg base CWords "piece_of" 6 ["self", "n"] (spPieceOf CPiece CWay CWords) := ⟨_, _, ok_piece_of Fq6 T TWords D_grown_pieces D_piece_along, ⟨aq6, iq6, kq6⟩, Bq6⟩
 have D_way_of : Mth P w K mg base CWords "way_of" 5 ["self", "n"] (spWayOf CPiece CWay CWords) := ⟨_, _, ok_way_of Fq7 T TWords D_grown_ways D_way_along, ⟨aq7, iq7, kq7⟩, Bq7⟩
 have M_Grower : Mkr P w K mg base "Grower" CGrower 1 (spInit ⟨CPiece, CWay, CWords, CGrower⟩) := ⟨_, _, ⟨mkGrower, aq8, iq8, kcGrower⟩, ok_init Fq8 TG, mg_of X G aCGrower, Bq8⟩
 have D_begin : Mth P w K mg base CGrower "begin" 1 ["self"] (spBegin ⟨CPiece, CWay, CWords, CGrower⟩) := ⟨_, _, ok_begin Fq9 TG, ⟨aq9, iq9, kq9⟩, Bq9⟩
 have D_refusal : Mth P w K mg base CGrower "refusal_of" 2 ["self", "n"] (spRefusal ⟨CPiece, CWay, CWords, CGrower⟩) := ⟨_, _, ok_refusal Fq16 TG T TWords D_is_told, ⟨aq16, iq16, kq16⟩, Bq16⟩
 have D_long : Mth P w K mg base CGrower "long" 3 ["self", "n"] (spLong ⟨CPiece, CWay, CWords, CGrower⟩) := ⟨_, _, ok_long Fq11 TG TWords D_refusal D_signs_of, ⟨aq11, iq11, kq11⟩, Bq11⟩
 have D_often : Mth P w K mg base CGrower "often" 3 ["self", "n", "sign"] (spOften ⟨CPiece, CWay, CWords, CGrower⟩) := ⟨_, _, ok_often Fq12 TG TWords D_refusal D_times, ⟨aq12, iq12, kq12⟩, Bq12⟩
 have D_part : Mth P w K mg base CGrower "part" 7 ["self", "n", "first", "most"] (spPart ⟨CPiece, CWay, CWords, CGrower⟩) := ⟨_, _, ok_part Fq13 TG T TWords D_refusal D_piece_of D_signs_from, ⟨aq13, iq13, kq13⟩, Bq13⟩
 have D_walk : Mth P w K mg base CGrower "walk" 6 ["self", "n"] (spWalk ⟨CPiece, CWay, CWords, CGrower⟩) := ⟨_, _, ok_walk Fq14 TG TWords D_refusal D_way_of D_told_of, ⟨aq14, iq14, kq14⟩, Bq14⟩
 have D_picture : Mth P w K mg base CGrower "picture" 7 ["self", "n", "x", "y", "width", "height"] (spPicture ⟨CPiece, CWay, CWords, CGrower⟩) := ⟨_, _, ok_picture Fq15 TG TWords D_refusal D_piece_of D_signs_of D_signs_from D_drawn_points D_picture_of, ⟨aq15, iq15, kq15⟩, Bq15⟩
 have D_read : Mth P w K mg base CGrower "read" 8 ["self", "text"] (spRead K ⟨CPiece, CWay, CWords, CGrower⟩) := ⟨_, _, ok_read Fq10 TG T M_Words D_lines_of D_first_wrong_line D_rules_of D_directions_of D_first_word_of, ⟨aq10, iq10, kq10⟩, Bq10⟩
 have D_end_of_call : Dfn P w K mg base "end_of_call" 1 ["calls", "start"] (spEnd K) := ⟨_, _, ok_end_of_call Fq53 TD T, mg_of X G aq53, kq53, Bq53⟩
 have D_answer_of : Dfn P w K mg base "answer_of" 9 ["grower", "call"] (spAnswerOf ⟨CPiece, CWay, CWords, CGrower⟩) := ⟨_, _, ok_answer_of Fq54 TD TG D_begin D_read D_long D_often D_part D_walk D_picture, mg_of X G aq54, kq54, Bq54⟩
 refine (ok_answers Fq55 T M_Grower D_end_of_call D_answer_of).imp fun vs H Q E h => ?_
 obtain ⟨a, ns, rfl, hS, hask, k⟩ := h
 obtain ⟨as, ok, el, ea, hsh, htot, hlen, _⟩ := asked_inv hask
 subst el
 exact ⟨a, as, rfl, hS, ok, hsh, hlen, htot, fun H' p hp => k H' p (by rw [ea]; exact hp)⟩
end Gw
theorem PySem.W.Fast.te13052408679150730464 : True := trivial
theorem PySem.W.Fast.te12305933238918452080 : True := trivial
open PySem PySem.W PyProof.Rows
set_option maxRecDepth 100000 in
set_option maxHeartbeats 0 in
theorem PySem.Challenge.cw_grownwords_s01_answers_holds : PySem.Challenge.rw_grownwords_s01_answers.Holds := by
 w_on; k_headS; (case hw => exact ⟨[.list [.int 0]], by decide +kernel, by decide +kernel⟩)
 k_fillS
 refine L2.walk_specK (r := PySem.Challenge.rw_grownwords_s01_answers) (k := 10) (CX := L2.CX0) (ps := ["calls"]) (sp := Gw.spAnswers) (by decide +kernel) rfl rfl ⟨rfl, by decide, by decide⟩ (fun w h Y => PySem.W.kIn_of Y) ?F ?S (fun _ _ _ _ z => z)
 case F =>
  intro w mg fa h Y KX G hmg
  refine' Gw.all_mk KX G hmg ?b_len ?b_ord ?b_all ?b_sum ?b_range ?b_max ?b_zip ?b_list ?b_reversed ?b_dict ?g_LAST_WORD ?g_TOO_MANY_SIGNS ?g_MOST_SIGNS ?g_GOING ?g_LEFT ?g_RIGHT ?g_AROUND ?g_OPENING ?g_CLOSING ?g_LINE_END ?g_LONGEST_WRITTEN ?g_NO_RULES ?g_OUT_OF_RANGE ?g_TOO_LONG ?g_WRONG_LINE ?g_WIDEST ?g_TOO_MANY_TO_DRAW ?g_BEGIN ?g_READ ?g_LONG ?g_OFTEN ?g_PART ?g_WALK ?a_MARKS ?l_MARKS ?a_SIZES ?l_SIZES ?a_STEPS_OF_4 ?l_STEPS_OF_4 ?l_STEPS_OF_4_0 ?l_STEPS_OF_4_1 ?l_STEPS_OF_4_2 ?l_STEPS_OF_4_3 ?a_STEPS_OF_6 ?l_STEPS_OF_6 ?l_STEPS_OF_6_0 ?l_STEPS_OF_6_1 ?l_STEPS_OF_6_2 ?l_STEPS_OF_6_3 ?l_STEPS_OF_6_4 ?l_STEPS_OF_6_5 ?aCPiece ?aq0 ?iq0 ?lq0 ?cq0 ?kq0 ?pgPiece ?hdPiece ?poPiece ?saPiece ?mkPiece ?kcPiece ?nPiece_length ?nPiece_signs ?nPiece_parts ?aCWay ?aq1 ?iq1 ?lq1 ?cq1 ?kq1 ?pgWay ?hdWay ?poWay ?saWay ?mkWay ?kcWay ?nWay_turn ?nWay_ends ?nWay_reach ?nWay_moves ?aCWords ?aq2 ?iq2 ?lq2 ?cq2 ?kq2 ?aq3 ?iq3 ?lq3 ?cq3 ?kq3 ?aq4 ?iq4 ?lq4 ?cq4 ?kq4 ?aq5 ?iq5 ?lq5 ?cq5 ?kq5 ?aq6 ?iq6 ?lq6 ?cq6 ?kq6 ?aq7 ?iq7 ?lq7 ?cq7 ?kq7 ?pgWords ?hdWords ?poWords ?saWords ?mkWords ?kcWords ?nWords_directions ?nWords_first_word ?nWords_rules ?nWords_tallies ?nWords_pieces ?nWords_ways ?aCGrower ?aq8 ?iq8 ?lq8 ?cq8 ?kq8 ?aq9 ?iq9 ?lq9 ?cq9 ?kq9 ?aq10 ?iq10 ?lq10 ?cq10 ?kq10 ?aq11 ?iq11 ?lq11 ?cq11 ?kq11 ?aq12 ?iq12 ?lq12 ?cq12 ?kq12 ?aq13 ?iq13 ?lq13 ?cq13 ?kq13 ?aq14 ?iq14 ?lq14 ?cq14 ?kq14 ?aq15 ?iq15 ?lq15 ?cq15 ?kq15 ?aq16 ?iq16 ?lq16 ?cq16 ?kq16 ?pgGrower ?hdGrower ?poGrower ?saGrower ?mkGrower ?kcGrower ?nGrower_words ?aq17 ?lq17 ?cq17 ?kq17 ?aq18 ?lq18 ?cq18 ?kq18 ?aq19 ?lq19 ?cq19 ?kq19 ?aq20 ?lq20 ?cq20 ?kq20 ?aq21 ?lq21 ?cq21 ?kq21 ?aq22 ?lq22 ?cq22 ?kq22 ?aq23 ?lq23 ?cq23 ?kq23 ?aq24 ?lq24 ?cq24 ?kq24 ?aq25 ?lq25 ?cq25 ?kq25 ?aq26 ?lq26 ?cq26 ?kq26 ?aq27 ?lq27 ?cq27 ?kq27 ?aq28 ?lq28 ?cq28 ?kq28 ?aq29 ?lq29 ?cq29 ?kq29 ?aq30 ?lq30 ?cq30 ?kq30 ?aq31 ?lq31 ?cq31 ?kq31 ?aq32 ?lq32 ?cq32 ?kq32 ?aq33 ?lq33 ?cq33 ?kq33 ?aq34 ?lq34 ?cq34 ?kq34 ?aq35 ?lq35 ?cq35 ?kq35 ?aq36 ?lq36 ?cq36 ?kq36 ?aq37 ?lq37 ?cq37 ?kq37 ?aq38 ?lq38 ?cq38 ?kq38 ?aq39 ?lq39 ?cq39 ?kq39 ?aq40 ?lq40 ?cq40 ?kq40 ?aq41 ?lq41 ?cq41 ?kq41 ?aq42 ?lq42 ?cq42 ?kq42 ?aq43 ?lq43 ?cq43 ?kq43 ?aq44 ?lq44 ?cq44 ?kq44 ?aq45 ?lq45 ?cq45 ?kq45 ?aq46 ?lq46 ?cq46 ?kq46 ?aq47 ?lq47 ?cq47 ?kq47 ?aq48 ?lq48 ?cq48 ?kq48 ?aq49 ?lq49 ?cq49 ?kq49 ?aq50 ?lq50 ?cq50 ?kq50 ?aq51 ?lq51 ?cq51 ?kq51 ?aq52 ?lq52 ?cq52 ?kq52 ?aq53 ?lq53 ?cq53 ?kq53 ?aq54 ?lq54 ?cq54 ?kq54 ?aq55 ?lq55 ?cq55 ?kq55
  (case b_len => k_is); (case b_ord => k_is); (case b_all => k_is); (case b_sum => k_is); (case b_range => k_is); (case b_max => k_is); (case b_zip => k_is); (case b_list => k_is)
  (case b_reversed => k_is); (case b_dict => k_is); (case g_LAST_WORD => k_is); (case g_TOO_MANY_SIGNS => k_is); (case g_MOST_SIGNS => k_is); (case g_GOING => k_is); (case g_LEFT => k_is); (case g_RIGHT => k_is)
  (case g_AROUND => k_is); (case g_OPENING => k_is); (case g_CLOSING => k_is); (case g_LINE_END => k_is); (case g_LONGEST_WRITTEN => k_is); (case g_NO_RULES => k_is); (case g_OUT_OF_RANGE => k_is); (case g_TOO_LONG => k_is)
  (case g_WRONG_LINE => k_is); (case g_WIDEST => k_is); (case g_TOO_MANY_TO_DRAW => k_is); (case g_BEGIN => k_is); (case g_READ => k_is); (case g_LONG => k_is); (case g_OFTEN => k_is); (case g_PART => k_is)
  (case g_WALK => k_is); (case a_MARKS => k_is); (case l_MARKS => k_is); (case a_SIZES => k_is); (case l_SIZES => k_is); (case a_STEPS_OF_4 => k_is); (case l_STEPS_OF_4 => k_is); (case l_STEPS_OF_4_0 => k_is)
  (case l_STEPS_OF_4_1 => k_is); (case l_STEPS_OF_4_2 => k_is); (case l_STEPS_OF_4_3 => k_is); (case a_STEPS_OF_6 => k_is); (case l_STEPS_OF_6 => k_is); (case l_STEPS_OF_6_0 => k_is); (case l_STEPS_OF_6_1 => k_is); (case l_STEPS_OF_6_2 => k_is)
  (case l_STEPS_OF_6_3 => k_is); (case l_STEPS_OF_6_4 => k_is); (case l_STEPS_OF_6_5 => k_is); (case aCPiece => k_is); (case aq0 => k_is); (case iq0 => k_is); (case lq0 => k_is); (case cq0 => k_is)
  (case kq0 => k_is); (case pgPiece => k_is); (case hdPiece => k_is); (case poPiece => k_is); (case saPiece => k_is); (case mkPiece => k_is); (case kcPiece => k_is); (case nPiece_length => k_is)
  (case nPiece_signs => k_is); (case nPiece_parts => k_is); (case aCWay => k_is); (case aq1 => k_is); (case iq1 => k_is); (case lq1 => k_is); (case cq1 => k_is); (case kq1 => k_is)
  (case pgWay => k_is); (case hdWay => k_is); (case poWay => k_is); (case saWay => k_is); (case mkWay => k_is); (case kcWay => k_is); (case nWay_turn => k_is); (case nWay_ends => k_is)
  (case nWay_reach => k_is); (case nWay_moves => k_is); (case aCWords => k_is); (case aq2 => k_is); (case iq2 => k_is); (case lq2 => k_is); (case cq2 => k_is); (case kq2 => k_is)
  (case aq3 => k_is); (case iq3 => k_is); (case lq3 => k_is); (case cq3 => k_is); (case kq3 => k_is); (case aq4 => k_is); (case iq4 => k_is); (case lq4 => k_is)
  (case cq4 => k_is); (case kq4 => k_is); (case aq5 => k_is); (case iq5 => k_is); (case lq5 => k_is); (case cq5 => k_is); (case kq5 => k_is); (case aq6 => k_is)
  (case iq6 => k_is); (case lq6 => k_is); (case cq6 => k_is); (case kq6 => k_is); (case aq7 => k_is); (case iq7 => k_is); (case lq7 => k_is); (case cq7 => k_is)
  (case kq7 => k_is); (case pgWords => k_is); (case hdWords => k_is); (case poWords => k_is); (case saWords => k_is); (case mkWords => k_is); (case kcWords => k_is); (case nWords_directions => k_is)
  (case nWords_first_word => k_is); (case nWords_rules => k_is); (case nWords_tallies => k_is); (case nWords_pieces => k_is); (case nWords_ways => k_is); (case aCGrower => k_is); (case aq8 => k_is); (case iq8 => k_is)
  (case lq8 => k_is); (case cq8 => k_is); (case kq8 => k_is); (case aq9 => k_is); (case iq9 => k_is); (case lq9 => k_is); (case cq9 => k_is); (case kq9 => k_is)
  (case aq10 => k_is); (case iq10 => k_is); (case lq10 => k_is); (case cq10 => k_is); (case kq10 => k_is); (case aq11 => k_is); (case iq11 => k_is); (case lq11 => k_is)
  (case cq11 => k_is); (case kq11 => k_is); (case aq12 => k_is); (case iq12 => k_is); (case lq12 => k_is); (case cq12 => k_is); (case kq12 => k_is); (case aq13 => k_is)
  (case iq13 => k_is); (case lq13 => k_is); (case cq13 => k_is); (case kq13 => k_is); (case aq14 => k_is); (case iq14 => k_is); (case lq14 => k_is); (case cq14 => k_is)
  (case kq14 => k_is); (case aq15 => k_is); (case iq15 => k_is); (case lq15 => k_is); (case cq15 => k_is); (case kq15 => k_is); (case aq16 => k_is); (case iq16 => k_is)
  (case lq16 => k_is); (case cq16 => k_is); (case kq16 => k_is); (case pgGrower => k_is); (case hdGrower => k_is); (case poGrower => k_is); (case saGrower => k_is); (case mkGrower => k_is)
  (case kcGrower => k_is); (case nGrower_words => k_is); (case aq17 => k_is); (case lq17 => k_is); (case cq17 => k_is); (case kq17 => k_is); (case aq18 => k_is); (case lq18 => k_is)
  (case cq18 => k_is); (case kq18 => k_is); (case aq19 => k_is); (case lq19 => k_is); (case cq19 => k_is); (case kq19 => k_is); (case aq20 => k_is); (case lq20 => k_is)
  (case cq20 => k_is); (case kq20 => k_is); (case aq21 => k_is); (case lq21 => k_is); (case cq21 => k_is); (case kq21 => k_is); (case aq22 => k_is); (case lq22 => k_is)
  (case cq22 => k_is); (case kq22 => k_is); (case aq23 => k_is); (case lq23 => k_is); (case cq23 => k_is); (case kq23 => k_is); (case aq24 => k_is); (case lq24 => k_is)
  (case cq24 => k_is); (case kq24 => k_is); (case aq25 => k_is); (case lq25 => k_is); (case cq25 => k_is); (case kq25 => k_is); (case aq26 => k_is); (case lq26 => k_is)
  (case cq26 => k_is); (case kq26 => k_is); (case aq27 => k_is); (case lq27 => k_is); (case cq27 => k_is); (case kq27 => k_is); (case aq28 => k_is); (case lq28 => k_is)
  (case cq28 => k_is); (case kq28 => k_is); (case aq29 => k_is); (case lq29 => k_is); (case cq29 => k_is); (case kq29 => k_is); (case aq30 => k_is); (case lq30 => k_is)
  (case cq30 => k_is); (case kq30 => k_is); (case aq31 => k_is); (case lq31 => k_is); (case cq31 => k_is); (case kq31 => k_is); (case aq32 => k_is); (case lq32 => k_is)
  (case cq32 => k_is); (case kq32 => k_is); (case aq33 => k_is); (case lq33 => k_is); (case cq33 => k_is); (case kq33 => k_is); (case aq34 => k_is); (case lq34 => k_is)
  (case cq34 => k_is); (case kq34 => k_is); (case aq35 => k_is); (case lq35 => k_is); (case cq35 => k_is); (case kq35 => k_is); (case aq36 => k_is); (case lq36 => k_is)
  (case cq36 => k_is); (case kq36 => k_is); (case aq37 => k_is); (case lq37 => k_is); (case cq37 => k_is); (case kq37 => k_is); (case aq38 => k_is); (case lq38 => k_is)
  (case cq38 => k_is); (case kq38 => k_is); (case aq39 => k_is); (case lq39 => k_is); (case cq39 => k_is); (case kq39 => k_is); (case aq40 => k_is); (case lq40 => k_is)
  (case cq40 => k_is); (case kq40 => k_is); (case aq41 => k_is); (case lq41 => k_is); (case cq41 => k_is); (case kq41 => k_is); (case aq42 => k_is); (case lq42 => k_is)
  (case cq42 => k_is); (case kq42 => k_is); (case aq43 => k_is); (case lq43 => k_is); (case cq43 => k_is); (case kq43 => k_is); (case aq44 => k_is); (case lq44 => k_is)
  (case cq44 => k_is); (case kq44 => k_is); (case aq45 => k_is); (case lq45 => k_is); (case cq45 => k_is); (case kq45 => k_is); (case aq46 => k_is); (case lq46 => k_is)
  (case cq46 => k_is); (case kq46 => k_is); (case aq47 => k_is); (case lq47 => k_is); (case cq47 => k_is); (case kq47 => k_is); (case aq48 => k_is); (case lq48 => k_is)
  (case cq48 => k_is); (case kq48 => k_is); (case aq49 => k_is); (case lq49 => k_is); (case cq49 => k_is); (case kq49 => k_is); (case aq50 => k_is); (case lq50 => k_is)
  (case cq50 => k_is); (case kq50 => k_is); (case aq51 => k_is); (case lq51 => k_is); (case cq51 => k_is); (case kq51 => k_is); (case aq52 => k_is); (case lq52 => k_is)
  (case cq52 => k_is); (case kq52 => k_is); (case aq53 => k_is); (case lq53 => k_is); (case cq53 => k_is); (case kq53 => k_is); (case aq54 => k_is); (case lq54 => k_is)
  (case cq54 => k_is); (case kq54 => k_is); (case aq55 => k_is); (case lq55 => k_is); (case cq55 => k_is); (case kq55 => k_is)
 case S =>
  intro K H xs a hO hwi hask hx
  cases hx with
  | cons h1 h2 =>
   cases h2
   cases h1 with
   | lst hs ha =>
    have e := L2.ints_dw a.1 _ ha
    subst e
    exact ⟨_, a.1, rfl, hs, hask, fun H' p hp => .lst (L2.SqL.of hp) (L2.dw_ints _)⟩
