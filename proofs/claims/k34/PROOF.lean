import PyProof.Rows.All
import Wide.All
import OpenK.AllK
import Wide.FinOn
import PyProof.EqAt
import PyProof.EqKinds
import PyProof.TupleCall
import KE.BitLaws
import PySem.Challenge.RW_chartscribe_k34_where_bands_begin
set_option Elab.async false
set_option linter.all false
set_option maxRecDepth 100000
/-! THE HAND LAYER, for ints, bools, texts, own classes, lists, tuples, dicts, comprehensions, walks over dicts, enumerate, zip, reversed, texts, calls, loops. Paste it whole ahead of your own text; what your proof does not reach may be deleted. -/
namespace L2
open PySem PySem.Spec PyProof.Rows

/-- a key: an int or a str -/
abbrev Key := Sum Int Str
def keyIs : Key → Value → Bool
  | .inl k, v => Value.isInt k v
  | .inr x, v => Value.isStrOf x v
def keyH (w : World) : Key → Int
  | .inl k => hashInt k
  | .inr x => hashStr w x
theorem keyIs_shape : ∀ {k : Key} {v : Value}, keyIs k v = true → (∃ i t, k = Sum.inl i ∧ v = Value.int i t) ∨ (∃ x t, k = Sum.inr x ∧ v = Value.str x t)
  | .inl i, v, h => by
    obtain ⟨t, e⟩ := Value.isInt_shape (k := i) (v := v) h
    exact .inl ⟨i, t, rfl, e⟩
  | .inr x, v, h => by
    obtain ⟨t, e⟩ := Value.isStrOf_shape (x := x) (v := v) h
    exact .inr ⟨x, t, rfl, e⟩
theorem keyIs_int (i : Int) (t : Tok) : keyIs (.inl i) (.int i t) = true := by simp [keyIs, Value.isInt]
theorem keyIs_str (x : Str) (t : Tok) : keyIs (.inr x) (.str x t) = true := by simp [keyIs, Value.isStrOf]
theorem key_ll (a b : Int) : decide ((Sum.inl a : Key) = Sum.inl b) = (a == b) := by
  by_cases e : a = b
  · subst e; simp
  · have h : ¬ (Sum.inl a : Key) = Sum.inl b := fun q => e (Sum.inl.inj q)
    rw [decide_eq_false h]
    exact (beq_eq_false_iff_ne.mpr e).symm
theorem key_rr (a b : Str) : decide ((Sum.inr a : Key) = Sum.inr b) = decide (a = b) := by
  by_cases e : a = b
  · subst e; simp
  · have h : ¬ (Sum.inr a : Key) = Sum.inr b := fun q => e (Sum.inr.inj q)
    rw [decide_eq_false h, decide_eq_false e]
theorem key_lr (a : Int) (b : Str) : decide ((Sum.inl a : Key) = Sum.inr b) = false := decide_eq_false (fun q => nomatch q)
theorem key_rl (a : Str) (b : Int) : decide ((Sum.inr a : Key) = Sum.inl b) = false := decide_eq_false (fun q => nomatch q)

def mixKind (prog : Program) (w : World) : PySem.KeyKind prog w Key where
  is := keyIs
  hash := keyH w
  inj := fun v a b ha hb => by
    rcases keyIs_shape ha with ⟨i, t, rfl, rfl⟩ | ⟨x, t, rfl, rfl⟩
    · rcases keyIs_shape hb with ⟨j, u, rfl, e⟩ | ⟨y, u, rfl, e⟩
      · injection e with e1 _; rw [e1]
      · exact nomatch e
    · rcases keyIs_shape hb with ⟨j, u, rfl, e⟩ | ⟨y, u, rfl, e⟩
      · exact nomatch e
      · injection e with e1 _; rw [e1]
  byValue := fun k v h => by
    rcases keyIs_shape h with ⟨i, t, rfl, rfl⟩ | ⟨x, t, rfl, rfl⟩ <;> rfl
  pyHash := fun hv h => by
    rcases keyIs_shape hv with ⟨i, t, rfl, rfl⟩ | ⟨x, t, rfl, rfl⟩
    · exact wpAny_pyHash_int h
    · exact wpAny_pyHash_str h
  eqBool := fun hu hv h => by
    rcases keyIs_shape hu with ⟨i, t, rfl, rfl⟩ | ⟨x, t, rfl, rfl⟩
    · rcases keyIs_shape hv with ⟨j, u, rfl, rfl⟩ | ⟨y, u, rfl, rfl⟩
      · rw [key_ll] at h; exact wpAny_eqBool_int h
      · rw [key_lr] at h; exact SeqAt.EqAt.int_str i t y u _ _ _ _ h
    · rcases keyIs_shape hv with ⟨j, u, rfl, rfl⟩ | ⟨y, u, rfl, rfl⟩
      · rw [key_rl] at h; exact SeqAt.EqAt.str_int x t j u _ _ _ _ h
      · rw [key_rr] at h; exact wpAny_eqBool_str h
  «strs» := fun k x t v h => by
    rcases keyIs_shape h with ⟨i, u, rfl, e⟩ | ⟨y, u, rfl, e⟩
    · exact nomatch e
    · injection e with e1 _
      subst e1
      cases v <;> rfl

theorem mixKind_is (prog : Program) (w : World) (k : Key) (v : Value) : (mixKind prog w).is k v = keyIs k v := rfl
theorem mixKind_int (prog : Program) (w : World) (i : Int) (t : Tok) : (mixKind prog w).is (.inl i) (.int i t) = true := keyIs_int i t
theorem mixKind_str (prog : Program) (w : World) (x : Str) (t : Tok) : (mixKind prog w).is (.inr x) (.str x t) = true := keyIs_str x t
end L2

namespace L2
open PySem PySem.Spec PyProof.Rows

/-- a value, without the heap -/
inductive V where
  | non | bl (b : Bool) | int (i : Int) | str (x : Str) | byt (b : Array UInt8) | flt (b : UInt64) | ref (a : Addr) | ty (n : String)
  deriving DecidableEq

def RelV : V → Value → Prop
  | .non, u => u = Value.none
  | .bl b, u => u = Value.bool b
  | .int i, u => ∃ t, u = Value.int i t
  | .str x, u => ∃ t, u = Value.str x t
  | .byt b, u => ∃ t, u = Value.bytes b t
  | .flt b, u => ∃ t, u = Value.float b t
  | .ref a, u => u = Value.ref a
  | .ty n, u => u = Value.type n

abbrev Vals : List V → List Value → Prop := Paired RelV
theorem Vals.length {xs : List V} {us : List Value} (r : Vals xs us) : xs.length = us.length := Paired.length r
theorem Vals.get : ∀ {xs : List V} {us : List Value} {i : Nat} {x : V}, Vals xs us → xs[i]? = some x → ∃ u, us[i]? = some u ∧ RelV x u
  | _, _, _, _, .nil, e => by simp at e
  | _, _, 0, _, .cons r _, e => by simp at e; subst e; exact ⟨_, rfl, r⟩
  | _, _, i + 1, x, .cons _ t, e => by
    obtain ⟨u, h1, h2⟩ := Vals.get (i := i) (x := x) t (by simpa using e)
    exact ⟨u, by simpa using h1, h2⟩
theorem Vals.set {x : V} {u : Value} (r : RelV x u) : ∀ {xs : List V} {us : List Value} (i : Nat), Vals xs us → Vals (xs.set i x) (us.set i u)
  | _, _, _, .nil => .nil
  | _, _, 0, .cons _ t => .cons r t
  | _, _, i + 1, .cons q t => .cons q (Vals.set r i t)
theorem Vals.append : ∀ {xs ys : List V} {us ws : List Value}, Vals xs us → Vals ys ws → Vals (xs ++ ys) (us ++ ws)
  | _, _, _, _, .nil, s => s
  | _, _, _, _, .cons r t, s => .cons r (Vals.append t s)
theorem Vals.take : ∀ {xs : List V} {us : List Value} (n : Nat), Vals xs us → Vals (xs.take n) (us.take n)
  | _, _, 0, _ => .nil
  | _, _, _ + 1, .nil => .nil
  | _, _, n + 1, .cons r t => .cons r (Vals.take n t)
theorem Vals.drop : ∀ {xs : List V} {us : List Value} (n : Nat), Vals xs us → Vals (xs.drop n) (us.drop n)
  | _, _, 0, r => r
  | _, _, _ + 1, .nil => .nil
  | _, _, n + 1, .cons _ t => Vals.drop n t
theorem Vals.none_of : ∀ {xs : List V} {us : List Value} {i : Nat}, Vals xs us → xs[i]? = none → us[i]? = none := fun {xs us i} r e => by
  have h1 := r.length
  have h2 : xs.length ≤ i := List.getElem?_eq_none_iff.mp e
  exact List.getElem?_eq_none_iff.mpr (by omega)

def RelO : Option V → Option Value → Prop
  | some v, some u => RelV v u
  | none, none => True
  | _, _ => False
def KV {κ : Type} : List (κ × V) → List (κ × Value) → Prop := Paired fun (p : κ × V) (q : κ × Value) => p.1 = q.1 ∧ RelV p.2 q.2

/-- a key of a dict (00_mix): an int or a text -/
def kV : Key → V
  | .inl i => .int i
  | .inr x => .str x

/-- what stands at a tracked address -/
inductive HO where
  /-- a list -/
  | lst (xs : List V)
  /-- a tuple (never changes) -/
  | tup (xs : List V)
  /-- a dict whose keys are ints and texts; one whose keys are tuples of ints and texts (the empty one is both) -/
  | dK (kvs : List (Key × V)) | dT (kvs : List (List Key × V))
  /-- a set of ints: its members, its size -/
  | set (S : Int → Bool) (n : Nat)
  /-- an instance of the class at C, its dict at dx, its attributes -/
  | ins (C dx : Addr) (fs : List (Str × V))
  /-- the dict of the instance at x -/
  | own (x : Addr)
  /-- the dict of an exception -/
  | xd (fs : List (Str × V))
  /-- a bound method, f of x -/
  | met (f x : Addr)
  /-- a range object lo, lo + 1, .. below hi -/
  | rng (lo hi : Int)
  /-- a thing that is known to the object (the script; a dict while a loop walks it): read, never written while it is so -/
  | frz (o : Obj) (u : HO)
  /-- a code object's table -/
  | tbl (ps : Array Value)
  /-- any other thing, by what is true of its one object (a def of one's own: SetO a S n := HO.ext fun h => ..) -/
  | ext (φ : Heap → Prop)

abbrev Hp := Addr → Option HO
def upd (H : Hp) (a : Addr) (o : HO) : Hp := fun b => if b = a then some o else H b
theorem upd_same {H : Hp} {a : Addr} {o : HO} : upd H a o a = some o := by unfold upd; rw [if_pos rfl]
theorem upd_ne {H : Hp} {a b : Addr} {o : HO} (h : b ≠ a) : upd H a o b = H b := by unfold upd; rw [if_neg h]
theorem upd_upd {H : Hp} {a : Addr} {o u : HO} : upd (upd H a o) a u = upd H a u := by
  funext b; unfold upd; split <;> rfl
/-- two objects of different content stand apart -/
theorem ne_of {H : Hp} {a b : Addr} {o u : HO} (h : H a = some o) (h' : H b = some u) (d : o ≠ u) : a ≠ b := by
  intro e; subst e; rw [h] at h'; exact d (Option.some.inj h')
theorem ne_of_none {H : Hp} {a b : Addr} {o : HO} (h : H a = some o) (h' : H b = none) : a ≠ b := by
  intro e; subst e; rw [h] at h'; cases h'

section
variable (P : Program) (w : World)
def ObjOk (H : Hp) (h : Heap) (a : Addr) : HO → Prop
  | .lst xs => xs.length ≤ sizeLine ∧ ∃ (its : List Value) (n : Nat), Vals xs its ∧ h.get? a = some { cls := .type "list", data := .seq its.toArray n }
  | .tup xs => xs.length ≤ sizeLine ∧ ∃ its : List Value, Vals xs its ∧ IsTup h a its.toArray
  | .dK kvs => kvs.length ≤ sizeLine ∧ (a == sysModules) = false ∧ ∃ vs, KV kvs vs ∧ h.DictOf (mixKind P w) a vs
  | .dT kvs => kvs.length ≤ sizeLine ∧ (a == sysModules) = false ∧ ∃ xs : List (List Key × Addr × Value),
      Paired (fun (p : List Key × V) (q : List Key × Addr × Value) => p.1 = q.1 ∧ H q.2.1 = some (.tup (p.1.map kV)) ∧ RelV p.2 q.2.2) kvs xs ∧
      ∃ o es ep, h.get? a = some o ∧ o.ExactDict ∧ o.data = .dict es ep ∧ es.toList = xs.map (entryOfKey (tupleKind (mixKind P w))) ∧ (xs.map (·.1)).Nodup
  | .set S n => h.SetOf (intKind P w) a S n
  | .ins C dx fs => H dx = some (.own a) ∧ fs.length ≤ 1000 ∧ dx ≠ a ∧ h.get? a = some (PySem.W.instObj C dx) ∧
      ∃ mA, h.Ns1 dx mA ∧ (∀ f, RelO (fs.lookup f) (mA f)) ∧ PySem.Within mA (fs.map (·.1))
  | .own _ => ∃ o, h.get? a = some o
  | .xd fs => ∃ mA, h.Ns1 a mA ∧ ∀ f, RelO (fs.lookup f) (mA f)
  | .rng lo hi => ∃ t u v, h.get? a = some { cls := .type "range", data := .fields #[.int lo t, .int hi u, .int 1 v] }
  | .frz o u => h.get? a = some o ∧ ObjOk H h a u
  | .tbl ps => h.get? a = some { cls := .none, data := .fields ps }
  | .met f x => h.get? a = some (PySem.W.methodObj (.ref f) (.ref x))
  | .ext φ => φ h ∧ (∃ o, h.get? a = some o) ∧ ∀ h1 h2 : Heap, φ h1 → (∀ o, h1.get? a = some o → h2.get? a = some o) → φ h2
/-- the abstract heap is held -/
def HOk (H : Hp) (h : Heap) : Prop := ∀ a o, H a = some o → ObjOk P w H h a o
end

section
variable {P : Program} {w : World} {H H' : Hp} {h h' : Heap} {a : Addr} {o : HO}
theorem ObjOk.lt (x : ObjOk P w H h a o) : a < h.objs.size := by
  cases o with
  | lst xs => obtain ⟨_, _, _, _, e⟩ := x; exact Heap.lt_size e
  | tup xs => obtain ⟨_, _, _, p⟩ := x; exact p.lt
  | dK kvs => obtain ⟨_, _, _, _, o, _, _, e, _⟩ := x; exact Heap.lt_size e
  | dT kvs => obtain ⟨_, _, _, _, o, _, _, e, _⟩ := x; exact Heap.lt_size e
  | set S n => obtain ⟨o, _, _, _, e, _⟩ := x; exact Heap.lt_size e
  | ins C dx fs => obtain ⟨_, _, _, e, _⟩ := x; exact Heap.lt_size e
  | own y => obtain ⟨_, e⟩ := x; exact Heap.lt_size e
  | xd fs => obtain ⟨_, ⟨_, _, _, e, _⟩, _⟩ := x; exact Heap.lt_size e
  | rng lo hi => obtain ⟨_, _, _, e⟩ := x; exact Heap.lt_size e
  | frz ob u => obtain ⟨e, _⟩ := x; exact Heap.lt_size e
  | tbl ps => exact Heap.lt_size (show h.get? a = some _ from x)
  | met f y => exact Heap.lt_size (show h.get? a = some _ from x)
  | ext φ => obtain ⟨_, ⟨_, e⟩, _⟩ := x; exact Heap.lt_size e
theorem Paired.mapP {α β : Type} {F G : α → β → Prop} : ∀ {l₁ : List α} {l₂ : List β}, Paired F l₁ l₂ → (∀ a b, F a b → G a b) → Paired G l₁ l₂
  | _, _, .nil, _ => .nil
  | _, _, .cons r t, f => .cons (f _ _ r) (Paired.mapP t f)
theorem Paired.imp' {α β : Type} {F G : α → β → Prop} (f : ∀ a b, F a b → G a b) {l₁ : List α} {l₂ : List β} (r : Paired F l₁ l₂) : Paired G l₁ l₂ := Paired.mapP r f
/-- what an object's description leans on: its own object, its own dict, the tuples -/
theorem ObjOk.stay (x : ObjOk P w H h a o) (k : ∀ b u, (b = a ∨ H b = some (.own a)) → h.get? b = some u → h'.get? b = some u)
    (ho : ∀ b, H b = some (.own a) → H' b = some (.own a)) (ht : ∀ b xs, H b = some (.tup xs) → H' b = some (.tup xs)) : ObjOk P w H' h' a o := by
  induction o with
  | lst xs => obtain ⟨z, its, n, r, e⟩ := x; exact ⟨z, its, n, r, k _ _ (.inl rfl) e⟩
  | tup xs => obtain ⟨z, its, r, ob, e, c⟩ := x; exact ⟨z, its, r, ob, k _ _ (.inl rfl) e, c⟩
  | dK kvs => obtain ⟨z, y, vs, r, ob, es, ep, e, c⟩ := x; exact ⟨z, y, vs, r, ob, es, ep, k _ _ (.inl rfl) e, c⟩
  | dT kvs =>
    obtain ⟨z, y, xs, r, ob, es, ep, e, c⟩ := x
    exact ⟨z, y, xs, Paired.mapP r fun p q z => ⟨z.1, ht _ _ z.2.1, z.2.2⟩, ob, es, ep, k _ _ (.inl rfl) e, c⟩
  | set S n => obtain ⟨ob, es, ep, t, e, c⟩ := x; exact ⟨ob, es, ep, t, k _ _ (.inl rfl) e, c⟩
  | ins C dx fs =>
    obtain ⟨d, z, ne, e, mA, ⟨od, es, ep, e2, c⟩, r⟩ := x
    exact ⟨ho _ d, z, ne, k _ _ (.inl rfl) e, mA, ⟨od, es, ep, k _ _ (.inr d) e2, c⟩, r⟩
  | own y => obtain ⟨ob, e⟩ := x; exact ⟨ob, k _ _ (.inl rfl) e⟩
  | xd fs => obtain ⟨mA, ⟨od, es, ep, e, c⟩, r⟩ := x; exact ⟨mA, ⟨od, es, ep, k _ _ (.inl rfl) e, c⟩, r⟩
  | rng lo hi => obtain ⟨t, u, v, e⟩ := x; exact ⟨t, u, v, k _ _ (.inl rfl) e⟩
  | frz ob u ih => obtain ⟨e, q⟩ := x; exact ⟨k _ _ (.inl rfl) e, ih q⟩
  | tbl ps =>
    have e : h.get? a = some { cls := .none, data := .fields ps } := x
    show h'.get? a = some { cls := .none, data := .fields ps }
    exact k a _ (.inl rfl) e
  | met f y =>
    have e : h.get? a = some (PySem.W.methodObj (.ref f) (.ref y)) := x
    show h'.get? a = some (PySem.W.methodObj (.ref f) (.ref y))
    exact k a _ (.inl rfl) e
  | ext φ => obtain ⟨p, ⟨o, e⟩, st⟩ := x; exact ⟨st _ _ p fun o q => k _ _ (.inl rfl) q, ⟨o, k _ _ (.inl rfl) e⟩, st⟩
theorem HOk.lt (x : HOk P w H h) (e : H a = some o) : a < h.objs.size := (x a o e).lt
theorem HOk.fresh (x : HOk P w H h) (e : h.objs.size ≤ a) : H a = none := by
  cases q : H a with
  | none => rfl
  | some u => exact absurd (Nat.lt_of_lt_of_le (x.lt q) e) (Nat.lt_irrefl _)
/-- every object of the heap is kept -/
theorem HOk.kept (x : HOk P w H h) (k : ∀ b u, h.get? b = some u → h'.get? b = some u) : HOk P w H h' := fun a o e =>
  (x a o e).stay (fun b u _ q => k b u q) (fun _ q => q) fun _ _ q => q
/-- a new object is laid and tracked -/
theorem HOk.laid (x : HOk P w H h) (k : ∀ b u, h.get? b = some u → h'.get? b = some u) (hp : h.objs.size ≤ a) (new : ObjOk P w (upd H a o) h' a o) : HOk P w (upd H a o) h' := fun b u e => by
  have hn := x.fresh hp
  by_cases hb : b = a
  · subst hb; rw [upd_same] at e; cases e; exact new
  · rw [upd_ne hb] at e
    exact (x b u e).stay (fun c v _ q => k c v q) (fun c q => by rw [upd_ne (ne_of_none q hn)]; exact q) fun c xs q => by rw [upd_ne (ne_of_none q hn)]; exact q
end

/-- what may be read as u: it is u, or a known u -/
def Rd (H : Hp) (a : Addr) (u : HO) : Prop := H a = some u ∨ ∃ o, H a = some (.frz o u)
theorem Rd.of {H : Hp} {a : Addr} {u : HO} (h : H a = some u) : Rd H a u := .inl h
theorem Rd.ok {P : Program} {w : World} {H : Hp} {h : Heap} {a : Addr} {u : HO} (r : Rd H a u) (x : HOk P w H h) : ObjOk P w H h a u := by
  rcases r with r | ⟨o, r⟩
  · exact x a u r
  · obtain ⟨_, q⟩ := x a _ r
    exact q
/-- what may be written -/
def Mut : Option HO → Prop
  | some (.lst _) => True
  | some (.dK _) => True
  | some (.dT _) => True
  | some (.set _ _) => True
  | some (.ins _ _ _) => True
  | some (.ext _) => True
  | _ => False
section
variable {P : Program} {w : World} {H : Hp} {h h' : Heap} {x e : Addr} {o' : HO}
/-- the object at e is changed: x itself, or the dict of the instance x -/
theorem HOk.write (ok : HOk P w H h) (mu : Mut (H x)) (he : e = x ∨ H e = some (.own x)) (k : ∀ b u, b ≠ e → h.get? b = some u → h'.get? b = some u) (heo : ∃ u, h'.get? e = some u)
    (new : ObjOk P w (upd H x o') h' x o') : HOk P w (upd H x o') h' := fun b u q => by
  have nown : ∀ c y, H c = some (.own y) → c ≠ x := fun c y r z => by subst z; rw [r] at mu; exact mu
  have ntup : ∀ c xs, H c = some (.tup xs) → c ≠ x := fun c xs r z => by subst z; rw [r] at mu; exact mu
  by_cases hb : b = x
  · subst hb; rw [upd_same] at q; cases q; exact new
  · rw [upd_ne hb] at q
    by_cases hbe : b = e
    · have q' : H b = some (.own x) := by
        rcases he with z | z
        · exact absurd (hbe.trans z) hb
        · rw [hbe]; exact z
      rw [q] at q'; cases q'
      obtain ⟨v, hv⟩ := heo
      exact ⟨v, by rw [hbe]; exact hv⟩
    · refine (ok b u q).stay (fun c v hc r => k c v ?_ r) (fun c r => by rw [upd_ne (nown c b r)]; exact r) fun c xs r => by rw [upd_ne (ntup c xs r)]; exact r
      rcases hc with rfl | hc
      · exact hbe
      · rintro rfl
        rcases he with z | z
        · exact nown c b hc z
        · rw [hc] at z; cases z; exact hb rfl
end

/-! ### kept unless tracked; of the frames at fs (the callers') the slots may change (an exception that passes writes there); of the records at ex (iterators) nothing is said -/
structure Un (fs ex : List Addr) (H H' : Hp) (h h' : Heap) : Prop where
  keep : ∀ b o, h.get? b = some o → H b = none → b ∉ fs → b ∉ ex → h'.get? b = some o
  slot : ∀ b o, h.get? b = some o → H b = none → b ∈ fs → b ∉ ex → ∃ sl, h'.get? b = some { o with slots := sl }
  free : ∀ b o, h.get? b = some o → H b = none → b ∉ ex → H' b = none
  there : ∀ b o, h.get? b = some o → b ∉ ex → ∃ o', h'.get? b = some o'
  tups : ∀ b xs, H b = some (.tup xs) → H' b = some (.tup xs)
  frzs : ∀ b o u, H b = some (.frz o u) → H' b = some (.frz o u)
  tbls : ∀ b ps, H b = some (.tbl ps) → ∃ more, H' b = some (.tbl (ps ++ more))
section
variable {fs fs' ex ex' : List Addr} {H H1 H2 : Hp} {h h1 h2 h' : Heap} {a x e : Addr} {o : HO}
theorem Un.any (u : Un fs ex H H1 h h1) {b : Addr} {ob : Obj} (q : h.get? b = some ob) (n : H b = none) (hx : b ∉ ex) : ∃ sl, h1.get? b = some { ob with slots := sl } := by
  by_cases hb : b ∈ fs
  · exact u.slot b ob q n hb hx
  · exact ⟨ob.slots, u.keep b ob q n hb hx⟩
theorem Un.trans (a : Un fs ex H H1 h h1) (b : Un fs ex H1 H2 h1 h2) : Un fs ex H H2 h h2 where
  keep := fun c ob q n hc hx => b.keep c ob (a.keep c ob q n hc hx) (a.free c ob q n hx) hc hx
  slot := fun c ob q n hc hx => by
    obtain ⟨sl, e1⟩ := a.slot c ob q n hc hx
    obtain ⟨sl', e2⟩ := b.slot c _ e1 (a.free c ob q n hx) hc hx
    exact ⟨sl', e2⟩
  free := fun c ob q n hx => by
    obtain ⟨o', e1⟩ := a.there c ob q hx
    exact b.free c o' e1 (a.free c ob q n hx) hx
  there := fun c ob q hx => by
    obtain ⟨o', e1⟩ := a.there c ob q hx
    exact b.there c o' e1 hx
  tups := fun c xs q => b.tups c xs (a.tups c xs q)
  frzs := fun c ob xs q => b.frzs c ob xs (a.frzs c ob xs q)
  tbls := fun c ps q => by
    obtain ⟨m1, e1⟩ := a.tbls c ps q
    obtain ⟨m2, e2⟩ := b.tbls c _ e1
    exact ⟨m1 ++ m2, by rw [e2, Array.append_assoc]⟩
theorem Un.kept (k : ∀ b u, h.get? b = some u → h'.get? b = some u) : Un fs ex H H h h' :=
  ⟨fun b ob q _ _ _ => k b ob q, fun b ob q _ _ _ => ⟨ob.slots, k b ob q⟩, fun _ _ _ n _ => n, fun b ob q _ => ⟨ob, k b ob q⟩, fun _ _ q => q, fun _ _ _ q => q, fun _ ps q => ⟨#[], by rw [q]; simp⟩⟩
theorem Un.refl : Un fs ex H H h h := Un.kept fun _ _ q => q
theorem Un.laid (k : ∀ b u, h.get? b = some u → h'.get? b = some u) (hp : h.objs.size ≤ a) (hn : H a = none) : Un fs ex H (upd H a o) h h' where
  keep := fun b u q _ _ _ => k b u q
  slot := fun b u q _ _ _ => ⟨u.slots, k b u q⟩
  free := fun b u q n _ => by rw [upd_ne (Nat.ne_of_lt (Nat.lt_of_lt_of_le (Heap.lt_size q) hp))]; exact n
  there := fun b u q _ => ⟨u, k b u q⟩
  tups := fun b xs q => by rw [upd_ne (ne_of_none q hn)]; exact q
  frzs := fun b u xs q => by rw [upd_ne (ne_of_none q hn)]; exact q
  tbls := fun b ps q => ⟨#[], by rw [upd_ne (ne_of_none q hn), q]; simp⟩
theorem Un.write (mu : Mut (H x)) (he : e = x ∨ H e = some (.own x)) (k : ∀ b u, b ≠ e → h.get? b = some u → h'.get? b = some u) (heo : ∃ u, h'.get? e = some u) : Un fs ex H (upd H x o) h h' := by
  have hx : ∀ b, H b = none → b ≠ x := fun b n z => by subst z; rw [n] at mu; exact mu
  have hb : ∀ b, H b = none → b ≠ e := fun b n z => by
    subst z
    rcases he with r | r
    · exact hx b n r
    · rw [n] at r; cases r
  have hm : ∀ b u, H b = some u → ¬ Mut (some u) → b ≠ x := fun b u q nm z => by subst z; rw [q] at mu; exact nm mu
  refine ⟨fun b u q n _ _ => k b u (hb b n) q, fun b u q n _ _ => ⟨u.slots, k b u (hb b n) q⟩, fun b u q n _ => by rw [upd_ne (hx b n)]; exact n, fun b u q _ => ?_,
    fun b xs q => by rw [upd_ne (hm b _ q fun z => z)]; exact q, fun b u xs q => by rw [upd_ne (hm b _ q fun z => z)]; exact q, fun b ps q => ⟨#[], by rw [upd_ne (hm b _ q fun z => z), q]; simp⟩⟩
  by_cases hbe : b = e
  · subst hbe; exact heo
  · exact ⟨u, k b u hbe q⟩
theorem Un.mono (u : Un fs ex H H1 h h1) (hs : ∀ b ∈ fs, b ∈ fs') (hx : ∀ b ∈ ex, b ∈ ex') : Un fs' ex' H H1 h h1 :=
  ⟨fun b ob q n hb he => u.keep b ob q n (fun z => hb (hs b z)) fun z => he (hx b z), fun _ _ q n _ he => u.any q n fun z => he (hx _ z), fun b ob q n he => u.free b ob q n fun z => he (hx b z), fun b ob q he => u.there b ob q fun z => he (hx b z), u.tups, u.frzs, u.tbls⟩
end

/-! ### the heap without what is tracked -/
def trk (h : Heap) (H : Hp) : List Addr := (List.range h.objs.size).filter fun a => (H a).isSome
def hidT (h : Heap) (H : Hp) : Heap := PySem.W.hideAll h (trk h H)
theorem hidT_size (h : Heap) (H : Hp) : (hidT h H).objs.size = h.objs.size := PySem.W.hideAll_size _ _
theorem hidT_get {h : Heap} {H : Hp} {b : Addr} {o : Obj} (e : h.get? b = some o) (n : H b = none) : (hidT h H).get? b = some o :=
  PySem.W.hideAll_get _ e fun hm => by
    have q : (H b).isSome = true := (List.mem_filter.mp hm).2
    rw [n] at q; simp at q
theorem of_hidT {h : Heap} {H : Hp} {b : Addr} {o : Obj} (e : (hidT h H).get? b = some o) : h.get? b = some o ∧ H b = none := by
  have e' : h.get? b = some o := PySem.W.of_hideAll (trk h H) e
  refine ⟨e', ?_⟩
  cases q : H b with
  | none => rfl
  | some x =>
    have hm : b ∈ trk h H := List.mem_filter.mpr ⟨List.mem_range.mpr (Heap.lt_size e'), by simp [q]⟩
    have z : (hidT h H).get? b = none := PySem.W.hideAll_none (trk h H) hm
    rw [z] at e; cases e

/-! ### OpenK's ledger, filled with every new object but one -/
def allNews (g h : Heap) (L : Addr) : List (Addr × Obj) := (List.range h.objs.size).filterMap fun a => if a = L ∨ (g.get? a).isSome = true then none else (h.get? a).map fun o => (a, o)
theorem mem_allNews {g h : Heap} {L a : Addr} {o : Obj} (h1 : a ≠ L) (h2 : g.get? a = none) (h3 : h.get? a = some o) : (a, o) ∈ allNews g h L :=
  List.mem_filterMap.mpr ⟨a, List.mem_range.mpr (Heap.lt_size h3), by simp [h1, h2, h3]⟩
theorem of_mem_allNews {g h : Heap} {L : Addr} {p : Addr × Obj} (hp : p ∈ allNews g h L) : p.1 ≠ L ∧ g.get? p.1 = none ∧ h.get? p.1 = some p.2 := by
  obtain ⟨b, _, e⟩ := List.mem_filterMap.mp hp
  split at e
  · cases e
  · rename_i hn
    cases q : h.get? b with
    | none => rw [q] at e; simp at e
    | some u =>
      rw [q] at e
      simp only [Option.map_some, Option.some.injEq] at e
      subst e
      refine ⟨fun z => hn (.inl z), ?_, q⟩
      show g.get? b = none
      cases r : g.get? b with
      | none => rfl
      | some v => exact (hn (.inr (by simp [r]))).elim
def rest (g h : Heap) (L d : Addr) : List (Addr × Obj) := (allNews g h L).filter fun p => decide (p.1 ≠ d)
theorem rest_ne {g h : Heap} {L d : Addr} : ∀ p ∈ rest g h L d, p.1 ≠ d := fun p hp => of_decide_eq_true (List.mem_filter.mp hp).2
theorem mem_rest {g h : Heap} {L d a : Addr} {o : Obj} (h1 : a ≠ L) (h2 : g.get? a = none) (h3 : h.get? a = some o) (h4 : a ≠ d) : (a, o) ∈ rest g h L d :=
  List.mem_filter.mpr ⟨mem_allNews h1 h2 h3, decide_eq_true h4⟩
theorem news_all {g h : Heap} {L : Addr} : News g L h (allNews g h L) := fun p hp => let ⟨a, b, c⟩ := of_mem_allNews hp; ⟨c, a, b⟩
theorem news_at {g h : Heap} {L d : Addr} {o : Obj} (h1 : d ≠ L) (h2 : g.get? d = none) (h3 : h.get? d = some o) : News g L h ((d, o) :: rest g h L d) := fun p hp => by
  rcases List.mem_cons.mp hp with rfl | hp
  · exact ⟨h3, h1, h2⟩
  · exact news_all p (List.mem_filter.mp hp).1
/-- behind a rule that changed d alone: all else but the frame is kept -/
theorem kept_of_news {g h h' : Heap} {L d : Addr} {m : Str → Option Value} (k : ∀ b o, g.get? b = some o → h.get? b = some o) (F : Fr g L h' m) (N : News g L h' (rest g h L d)) :
    ∀ b o, b ≠ L → b ≠ d → h.get? b = some o → h'.get? b = some o := fun b o h1 h2 e => by
  cases q : g.get? b with
  | some u =>
    have := k b u q
    rw [e] at this; cases this
    exact F.keep b _ q
  | none => exact (N (b, o) (mem_rest h1 q e h2)).1
end L2

namespace L2
open PySem PySem.Spec PyProof.Rows

/-- the module's facts, over the base: the heap at the law's entry without what is tracked there -/
structure Mod (K : PySem.W.Frag) (mg : Str → Option Value) (base : Heap) : Prop where
  kin : K.In base
  glob : base.Ns mainGlobals mg
  blt : ∃ mb, base.Ns builtinsNs mb ∧ ∀ x : Str, x ≠ "__name__" → mb x = bootBuiltins x
  nolimit : base.NoLimit

/-- the context: a def's body (or a comprehension's block) running. base: fixed through the whole law; s₀, H₀: the entry; outer: the frames whose slots others may change (a def's callers); stack: all frames that run;
   ex: iterators that were made ahead of the entry and are walked here (a comprehension's); fn: the names whose cells were made at the entry (a def: all; a comprehension's block: its own); calm: not within an except suite; pn: pins that every state bears; xe: what is wanted of an exception that leaves the code -/
structure Cx where
  prog : Program
  w : World
  K : PySem.W.Frag
  mg : Str → Option Value
  base : Heap
  A : Around
  N : List Str
  s_0 : Shared
  H_0 : Hp
  env : Env
  outer : List Env
  stack : List Env
  ex : List Addr
  fn : Str → Bool
  calm : Bool
  pn : List (Addr × Obj)
  xe : Value → Shared → Prop
/-- the callers' frames -/
def frs (l : List Env) : List Addr := l.filterMap (·.frame)
abbrev Cx.fs (X : Cx) : List Addr := frs X.outer

def Vis (sc : Scope) (x : Str) : Prop := sc.names.lookup x = some .local ∨ sc.names.lookup x = some .cell ∨ sc.names.lookup x = some .free
def Loc (sc : Scope) (x : Str) : Prop := sc.names.lookup x = some .local ∨ sc.names.lookup x = some .cell
def Look (env : Env) (h : Heap) (m : Str → Option Value) (x : Str) (u : Value) : Prop :=
  (env.kindOf x = some .local ∧ m x = some u) ∨ ((env.kindOf x = some .cell ∨ env.kindOf x = some .free) ∧ ∃ c, env.cells.lookup x = some c ∧ h.IsCell c (some u))

structure Cx.Ok (X : Cx) : Prop where
  mod : Mod X.K X.mg X.base
  kind : X.env.scope.kind = .function
  glob : X.env.globals = mainGlobals
  blt : X.env.builtins = builtinsNs
  above : X.s_0.heap.objs.size ≤ X.env.locals
  inj : ∀ x y c, X.env.cells.lookup x = some c → X.env.cells.lookup y = some c → x = y
  has : ∀ x, (X.env.kindOf x = some .cell ∨ X.env.kindOf x = some .free) → ∃ c, X.env.cells.lookup x = some c
  cab : ∀ x c, X.fn x = true → X.env.cells.lookup x = some c → X.s_0.heap.objs.size ≤ c
  hd : X.calm = true → X.A.handled = none
  frames : X.A.frames = some X.stack
  stk : X.stack = X.outer ∨ (X.stack = X.env :: X.outer ∧ X.env.frame = some X.env.locals)
  exf : ∀ b ∈ X.ex, b ≠ X.env.locals ∧ ∀ x c, X.env.cells.lookup x = some c → c ≠ b
  bs : ∀ b o, X.base.get? b = some o → X.s_0.heap.get? b = some o ∧ X.H_0 b = none
  bsz : X.base.objs.size ≤ X.s_0.heap.objs.size
  noex : ∀ b o, X.base.get? b = some o → b ∉ X.ex
  exfs : ∀ b ∈ X.ex, b ∉ X.fs
  funs : X.s_0.heap.FunFrames X.base X.outer
  frf : ∀ b ∈ X.fs, X.H_0 b = none

structure Inv (X : Cx) (pins : List (Addr × Obj)) (σ : List (Option V)) (H : Hp) (s : Shared) : Prop where
  ok : X.Ok
  os : s.os = X.s_0.os
  bare : AllBare s.gens
  base : Un X.fs X.ex X.H_0 H X.s_0.heap s.heap
  loc : ∃ m, s.heap.Ns X.env.locals m ∧ ∀ (i : Nat) (x : Str) (v : V), X.N[i]? = some x → σ[i]? = some (some v) → Vis X.env.scope x → ∃ u, RelV v u ∧ Look X.env s.heap m x u
  cell : ∀ x c, X.env.cells.lookup x = some c → ∃ v, s.heap.IsCell c v
  free : H X.env.locals = none
  freeC : ∀ x c, X.env.cells.lookup x = some c → H c = none
  pin : ∀ p ∈ X.pn ++ pins, s.heap.get? p.1 = some p.2 ∧ H p.1 = none ∧ p.1 ≠ X.env.locals ∧ p.1 ∉ X.fs ∧ ∀ v, p.2.data ≠ .cell v
  hok : HOk X.prog X.w H s.heap
  len : σ.length = X.N.length

section
variable {X : Cx} {pins : List (Addr × Obj)} {σ : List (Option V)} {H H' : Hp} {s : Shared} {h' : Heap}

theorem Cx.Ok.nofr (ok : X.Ok) {b : Addr} {o : Obj} (e : X.base.get? b = some o) : b ∉ X.fs := fun hb => by
  have := (ok.funs.mem hb).1
  rw [e] at this; cases this
theorem Inv.bs (I : Inv X pins σ H s) : ∀ b o, X.base.get? b = some o → s.heap.get? b = some o ∧ H b = none := fun b o e =>
  ⟨I.base.keep b o (I.ok.bs b o e).1 (I.ok.bs b o e).2 (I.ok.nofr e) (I.ok.noex b o e), I.base.free b o (I.ok.bs b o e).1 (I.ok.bs b o e).2 (I.ok.noex b o e)⟩
theorem Inv.bk (I : Inv X pins σ H s) : ∀ b o, X.base.get? b = some o → s.heap.get? b = some o := fun b o e => (I.bs b o e).1
theorem Inv.mod (I : Inv X pins σ H s) : Mod X.K X.mg X.base := I.ok.mod
theorem Inv.kIn (I : Inv X pins σ H s) : X.K.In s.heap := I.ok.mod.kin.keeps I.bk
theorem Inv.nolimit (I : Inv X pins σ H s) : s.heap.NoLimit := I.ok.mod.nolimit.keeps I.bk
/-- the frame over the base: for OpenK's rules (K.In X.base is I.mod.kin) -/
theorem Inv.fr (I : Inv X pins σ H s) : ∃ m, Fr X.base X.env.locals s.heap m :=
  let ⟨m, hn, _⟩ := I.loc
  ⟨m, hn, I.bk, Nat.le_trans I.ok.bsz I.ok.above⟩
theorem Inv.lt (I : Inv X pins σ H s) : X.env.locals < s.heap.objs.size := let ⟨_, hn, _⟩ := I.loc; hn.lt
theorem Inv.sz (I : Inv X pins σ H s) : X.s_0.heap.objs.size ≤ s.heap.objs.size := Nat.le_trans I.ok.above (Nat.le_of_lt I.lt)
theorem Inv.nofs (I : Inv X pins σ H s) {a : Addr} (h : s.heap.objs.size ≤ a) : a ∉ X.fs := fun hb => by
  obtain ⟨_, o, ho, _⟩ := I.ok.funs.mem hb
  exact absurd (Nat.lt_of_lt_of_le (Heap.lt_size ho) (Nat.le_trans I.sz h)) (Nat.lt_irrefl _)
theorem Inv.cne (I : Inv X pins σ H s) : ∀ x c, X.env.cells.lookup x = some c → c ≠ X.env.locals := fun x c e z => by
  obtain ⟨v, o, ho, hd⟩ := I.cell x c e
  obtain ⟨m, ⟨o', es, ep, ho', hd', _⟩, _⟩ := I.loc
  rw [z, ho'] at ho; cases ho; rw [hd'] at hd; cases hd
theorem Inv.funs (I : Inv X pins σ H s) : s.heap.FunFrames X.base X.outer := by
  have all : ∀ (l : List Env), (∀ b ∈ frs l, b ∈ X.fs) → X.s_0.heap.FunFrames X.base l → s.heap.FunFrames X.base l := by
    intro l
    induction l with
    | nil => intro _ _; trivial
    | cons env r ih =>
      intro hs hl
      obtain ⟨hk, ⟨L, o, hf, hn, ho, hd⟩, hr⟩ := hl
      have hL : L ∈ X.fs := hs L (by unfold frs; rw [List.filterMap_cons, hf]; exact List.mem_cons_self)
      obtain ⟨sl, e⟩ := I.base.slot L o ho (I.ok.frf L hL) hL fun z => I.ok.exfs L z hL
      exact ⟨hk, ⟨L, _, hf, hn, e, hd⟩, ih (fun b hb => hs b (by unfold frs; rw [List.filterMap_cons, hf]; exact List.mem_cons_of_mem _ hb)) hr⟩
  exact all X.outer (fun _ hb => hb) I.ok.funs

/-- the frames that run, for a call -/
theorem Inv.stack (I : Inv X pins σ H s) : s.heap.FunFrames X.base X.stack := by
  rcases I.ok.stk with e | ⟨e, hf⟩
  · rw [e]; exact I.funs
  · rw [e]
    obtain ⟨m, hn, _⟩ := I.loc
    refine .cons (by rw [I.ok.kind]; decide) hf hn ?_ I.funs
    exact Heap.get?_none_of_le (Nat.le_trans I.ok.bsz I.ok.above)
theorem Inv.stkSub (I : Inv X pins σ H s) : ∀ b ∈ frs X.stack, b ∈ X.env.locals :: X.fs := fun b hb => by
  rcases I.ok.stk with e | ⟨e, hf⟩
  · rw [e] at hb; exact List.mem_cons_of_mem _ hb
  · rw [e] at hb
    unfold frs at hb
    rw [List.filterMap_cons, hf] at hb
    exact hb
theorem Inv.stkFree (I : Inv X pins σ H s) : ∀ b ∈ frs X.stack, H b = none := fun b hb => by
  rcases List.mem_cons.mp (I.stkSub b hb) with e | hb
  · rw [e]; exact I.free
  · obtain ⟨_, o, ho, _⟩ := I.ok.funs.mem hb
    exact I.base.free b o ho (I.ok.frf b hb) fun z => I.ok.exfs b z hb

/-- THE STEP: the untracked objects but the frame and the records at ch are kept (the callers' frames up to slots), the frame's map is kept, the new abstract heap is held -/
theorem Inv.step {g' : Array GenState} {t' : Nat} {d' : Drawn} {ch : List Addr} (I : Inv X pins σ H s)
    (hch : ∀ b ∈ ch, (b ∈ X.ex ∨ X.s_0.heap.objs.size ≤ b) ∧ b ≠ X.env.locals ∧ (∀ x c, X.env.cells.lookup x = some c → c ≠ b) ∧ ∀ p ∈ X.pn ++ pins, p.1 ≠ b)
    (keep : ∀ b o, b ≠ X.env.locals → b ∉ X.fs → b ∉ ch → s.heap.get? b = some o → H b = none → h'.get? b = some o)
    (slot : ∀ b o, b ≠ X.env.locals → b ∈ X.fs → b ∉ ch → s.heap.get? b = some o → H b = none → ∃ sl, h'.get? b = some { o with slots := sl }) (free : ∀ b o, b ∉ ch → s.heap.get? b = some o → H b = none → H' b = none)
    (there : ∀ b o, b ∉ ch → s.heap.get? b = some o → ∃ o', h'.get? b = some o')
    (tups : ∀ b xs, H b = some (.tup xs) → H' b = some (.tup xs)) (frzs : ∀ b o u, H b = some (.frz o u) → H' b = some (.frz o u)) (tbls : ∀ b ps, H b = some (.tbl ps) → ∃ more, H' b = some (.tbl (ps ++ more)))
    (ns : ∀ m, s.heap.Ns X.env.locals m → h'.Ns X.env.locals m) (hok : HOk X.prog X.w H' h') (hg : AllBare g') :
    Inv X pins σ H' { s with heap := h', gens := g', drawn := d', toks := t' } := by
  have neL : ∀ b o, X.s_0.heap.get? b = some o → b ≠ X.env.locals := fun b o e => Nat.ne_of_lt (Nat.lt_of_lt_of_le (Heap.lt_size e) I.ok.above)
  have neC : ∀ b o, X.s_0.heap.get? b = some o → b ∉ X.ex → b ∉ ch := fun b o e hx hb => by
    rcases (hch b hb).1 with z | z
    · exact hx z
    · exact absurd (Nat.lt_of_lt_of_le (Heap.lt_size e) z) (Nat.lt_irrefl _)
  have cellK : ∀ x c, X.env.cells.lookup x = some c → ∀ v, s.heap.IsCell c v → h'.IsCell c v := fun x c e v ⟨o, ho, hd⟩ => by
    have nch : c ∉ ch := fun z => (hch c z).2.2.1 x c e rfl
    by_cases hc : c ∈ X.fs
    · obtain ⟨sl, q⟩ := slot c o (I.cne x c e) hc nch ho (I.freeC x c e)
      exact ⟨_, q, hd⟩
    · exact ⟨o, keep c o (I.cne x c e) hc nch ho (I.freeC x c e), hd⟩
  refine ⟨I.ok, I.os, hg, ⟨fun b o e n hb hx => ?_, fun b o e n hb hx => ?_, fun b o e n hx => ?_, fun b o e hx => ?_, fun b xs e => tups b xs (I.base.tups b xs e), fun b o xs e => frzs b o xs (I.base.frzs b o xs e), fun b ps e => ?_⟩, ?_, fun x c e => ?_, ?_, fun x c e => ?_, fun p hp => ?_, hok, I.len⟩
  · exact keep b o (neL b o e) hb (neC b o e hx) (I.base.keep b o e n hb hx) (I.base.free b o e n hx)
  · obtain ⟨sl, e1⟩ := I.base.slot b o e n hb hx
    obtain ⟨sl', e2⟩ := slot b _ (neL b o e) hb (neC b o e hx) e1 (I.base.free b o e n hx)
    exact ⟨sl', e2⟩
  · obtain ⟨o', e1⟩ := I.base.there b o e hx
    exact free b o' (neC b o e hx) e1 (I.base.free b o e n hx)
  · obtain ⟨o', e1⟩ := I.base.there b o e hx
    exact there b o' (neC b o e hx) e1
  · obtain ⟨m1, e1⟩ := I.base.tbls b ps e
    obtain ⟨m2, e2⟩ := tbls b _ e1
    exact ⟨m1 ++ m2, by rw [e2, Array.append_assoc]⟩
  · obtain ⟨m, hn, hl⟩ := I.loc
    refine ⟨m, ns m hn, fun i x v e1 e2 e3 => ?_⟩
    obtain ⟨u, r, l⟩ := hl i x v e1 e2 e3
    refine ⟨u, r, ?_⟩
    rcases l with l | ⟨k, c, e, z⟩
    · exact .inl l
    · exact .inr ⟨k, c, e, cellK x c e _ z⟩
  · obtain ⟨v, z⟩ := I.cell x c e
    exact ⟨v, cellK x c e v z⟩
  · obtain ⟨m, ⟨o, _, _, ho, _⟩, _⟩ := I.loc
    exact free _ o (fun z => (hch _ z).2.1 rfl) ho I.free
  · obtain ⟨v, o, ho, hd⟩ := I.cell x c e
    exact free c o (fun z => (hch c z).2.2.1 x c e rfl) ho (I.freeC x c e)
  · obtain ⟨e, n, ne, nf, d⟩ := I.pin p hp
    have nch : p.1 ∉ ch := fun z => (hch p.1 z).2.2.2 p hp rfl
    exact ⟨keep p.1 p.2 ne nf nch e n, free p.1 p.2 nch e n, ne, nf, d⟩
/-- .. where the frame's own object is kept too -/
theorem Inv.un {t' : Nat} (I : Inv X pins σ H s) (u : Un X.fs [] H H' s.heap h') (hok : HOk X.prog X.w H' h') : Inv X pins σ H' { s with heap := h', toks := t' } := by
  obtain ⟨m, ⟨o, es, ep, ho, r⟩, _⟩ := id I.loc
  obtain ⟨sl, hL⟩ := u.any ho I.free (by simp)
  exact I.step (g' := s.gens) (d' := s.drawn) (ch := []) (fun _ z => nomatch z) (fun b o _ hb _ e n => u.keep b o e n hb (by simp)) (fun b o _ hb _ e n => u.slot b o e n hb (by simp)) (fun b o _ e n => u.free b o e n (by simp)) (fun b o _ e => u.there b o e (by simp)) u.tups u.frzs u.tbls (fun m' hm => by
    obtain ⟨o', es', ep', ho', r'⟩ := hm
    rw [ho] at ho'; cases ho'
    exact ⟨_, es', ep', hL, r'⟩) hok I.bare
/-- behind a call (or a comprehension's block): the slots of this frame may have changed too, the records at ch may have turned -/
theorem Inv.call {g' : Array GenState} {t' : Nat} {d' : Drawn} {ch : List Addr} (I : Inv X pins σ H s) (u : Un (frs X.stack) ch H H' s.heap h') (hok : HOk X.prog X.w H' h') (hg : AllBare g')
    (hch : ∀ b ∈ ch, (b ∈ X.ex ∨ X.s_0.heap.objs.size ≤ b) ∧ b ≠ X.env.locals ∧ (∀ x c, X.env.cells.lookup x = some c → c ≠ b) ∧ ∀ p ∈ X.pn ++ pins, p.1 ≠ b) :
    Inv X pins σ H' { s with heap := h', gens := g', drawn := d', toks := t' } := by
  obtain ⟨m, ⟨o, es, ep, ho, r⟩, _⟩ := id I.loc
  obtain ⟨sl, hL⟩ := u.any ho I.free fun z => (hch _ z).2.1 rfl
  exact I.step (ch := ch) hch (fun b o hL hb hc e n => u.keep b o e n (fun z => (List.mem_cons.mp (I.stkSub b z)).elim hL hb) hc) (fun b o _ _ hc e n => u.any e n hc) (fun b o hc e n => u.free b o e n hc) (fun b o hc e => u.there b o e hc) u.tups u.frzs u.tbls (fun m' hm => by
    obtain ⟨o', es', ep', ho', r'⟩ := hm
    rw [ho] at ho'; cases ho'
    exact ⟨_, es', ep', hL, r'⟩) hok hg
/-- an untracked record of ours (an iterator) has turned -/
theorem Inv.turned {t' : Nat} {it : Addr} (I : Inv X pins σ H s) (k : ∀ b o, b ≠ it → s.heap.get? b = some o → h'.get? b = some o) (hn : H it = none) (hL : it ≠ X.env.locals)
    (h1 : it ∈ X.ex ∨ X.s_0.heap.objs.size ≤ it) (h2 : ∀ x c, X.env.cells.lookup x = some c → c ≠ it) (h3 : ∀ p ∈ X.pn ++ pins, p.1 ≠ it) : Inv X pins σ H { s with heap := h', toks := t' } := by
  have nit : ∀ b u, H b = some u → b ≠ it := fun b u e z => by rw [z, hn] at e; cases e
  refine I.step (g' := s.gens) (d' := s.drawn) (ch := [it]) (fun b hb => ?_) (fun b o _ _ hc e _ => k b o (fun z => hc (by simp [z])) e) (fun b o _ _ hc e _ => ⟨o.slots, k b o (fun z => hc (by simp [z])) e⟩) (fun _ _ _ _ n => n)
    (fun b o hc e => ⟨o, k b o (fun z => hc (by simp [z])) e⟩) (fun _ _ e => e) (fun _ _ _ e => e) (fun b ps e => ⟨#[], by rw [e]; simp⟩) (fun m hm => ?_) (fun b u e => ?_) I.bare
  · have e : b = it := by simpa using hb
    subst e
    exact ⟨h1, hL, h2, h3⟩
  · obtain ⟨o, es, ep, ho, r⟩ := hm
    exact ⟨o, es, ep, k _ o (Ne.symm hL) ho, r⟩
  · refine (I.hok b u e).stay (fun c v hc q => k c v ?_ q) (fun _ q => q) fun _ _ q => q
    rcases hc with z | z
    · rw [z]; exact nit b u e
    · exact nit c _ z
theorem Inv.tok (I : Inv X pins σ H s) (t : Nat) : Inv X pins σ H { s with toks := t } := I.un (h' := s.heap) (t' := t) Un.refl I.hok
/-- all objects kept -/
theorem Inv.kept {t' : Nat} (I : Inv X pins σ H s) (k : ∀ b u, s.heap.get? b = some u → h'.get? b = some u) : Inv X pins σ H { s with heap := h', toks := t' } := I.un (Un.kept k) (I.hok.kept k)
/-- a new object laid and tracked -/
theorem Inv.laid {a : Addr} {o : HO} {t' : Nat} (I : Inv X pins σ H s) (k : ∀ b u, s.heap.get? b = some u → h'.get? b = some u) (hp : s.heap.objs.size ≤ a) (new : ObjOk X.prog X.w (upd H a o) h' a o) :
    Inv X pins σ (upd H a o) { s with heap := h', toks := t' } := I.un (Un.laid k hp (I.hok.fresh hp)) (I.hok.laid k hp new)
/-- an object written -/
theorem Inv.write {x e : Addr} {o : HO} {t' : Nat} (I : Inv X pins σ H s) (mu : Mut (H x)) (he : e = x ∨ H e = some (.own x)) (k : ∀ b u, b ≠ e → s.heap.get? b = some u → h'.get? b = some u) (heo : ∃ u, h'.get? e = some u)
    (new : ObjOk X.prog X.w (upd H x o) h' x o) : Inv X pins σ (upd H x o) { s with heap := h', toks := t' } := I.un (Un.write mu he k heo) (I.hok.write mu he k heo new)
/-- forgetting slots, pins -/
theorem Inv.weak {σ' : List (Option V)} (I : Inv X pins σ H s) (hl : σ'.length = σ.length) (w : ∀ (i : Nat) v, σ'[i]? = some (some v) → σ[i]? = some (some v)) : Inv X pins σ' H s :=
  ⟨I.ok, I.os, I.bare, I.base, let ⟨m, hn, hl'⟩ := I.loc; ⟨m, hn, fun i x v e1 e2 e3 => hl' i x v e1 (w i v e2) e3⟩, I.cell, I.free, I.freeC, I.pin, I.hok, hl.trans I.len⟩
theorem Inv.pins_of {pins' : List (Addr × Obj)} (I : Inv X pins σ H s) (h : ∀ p ∈ pins', s.heap.get? p.1 = some p.2 ∧ H p.1 = none ∧ p.1 ≠ X.env.locals ∧ p.1 ∉ X.fs ∧ ∀ v, p.2.data ≠ .cell v) : Inv X pins' σ H s :=
  ⟨I.ok, I.os, I.bare, I.base, I.loc, I.cell, I.free, I.freeC, fun p hp => (List.mem_append.mp hp).elim (fun z => I.pin p (List.mem_append_left _ z)) (h p), I.hok, I.len⟩

theorem nodup_ix {N : List Str} (hN : N.Nodup) {i j : Nat} {x : Str} (a : N[i]? = some x) (b : N[j]? = some x) : i = j := by
  obtain ⟨h1, e1⟩ := List.getElem?_eq_some_iff.mp a
  obtain ⟨h2, e2⟩ := List.getElem?_eq_some_iff.mp b
  exact (List.getElem_inj hN).mp (e1.trans e2.symm)

/-- a name is stored; what changed -/
theorem store_ok2 {M : Model} {A : Around} {E : Value → Shared → Prop} {i : Nat} {x : Str} {v : V} {u : Value} {Q : Unit → Shared → Prop} (I : Inv X pins σ H s) (hN : X.N.Nodup) (hi : X.N[i]? = some x) (hx : Loc X.env.scope x) (r : RelV v u)
    (h : ∀ s', Inv X pins (σ.set i (some v)) H s' → (∃ a, Heap.SameBut a s.heap s'.heap ∧ (a = X.env.locals ∨ X.env.cells.lookup x = some a)) → Q () s') (hf : X.fn x = true ∨ X.env.scope.names.lookup x = some .local := by first | exact .inl rfl | exact .inr rfl | assumption) : wpAny M A (storeName X.env x u) Q E s := by
  obtain ⟨m, hn, hl⟩ := id I.loc
  have hcls : (X.env.scope.kind == .class || (X.env.scope.kind == .module && X.env.locals != X.env.globals)) = false := by rw [I.ok.kind]; rfl
  have hiσ : i < σ.length := by rw [I.len]; exact (List.getElem?_eq_some_iff.mp hi).1
  have cne := I.cne
  have tracked : ∀ {a : Addr} {h' : Heap}, (∃ o, s.heap.get? a = some o ∧ H a = none) → Heap.SameBut a s.heap h' → HOk X.prog X.w H h' := fun {a h'} ha hs b ob e => by
    obtain ⟨_, _, hfree⟩ := ha
    refine (I.hok b ob e).stay (fun c w' hc q => (hs.2 c ?_).trans q) (fun _ q => q) fun _ _ q => q
    rintro rfl
    rcases hc with rfl | hc
    · rw [hfree] at e; cases e
    · rw [hfree] at hc; cases hc
  rcases hx with hk | hk
  · refine wpAny_storeName_local hk hn (fun h' hn' hs => ?_) hcls
    obtain ⟨oL, _, _, hoL, _⟩ := id hn
    refine h _ ⟨I.ok, I.os, I.bare, ⟨fun b o e n hb hx => ?_, fun b o e n hb hx => ?_, I.base.free, fun b o e hx => ?_, I.base.tups, I.base.frzs, I.base.tbls⟩, ⟨_, hn', fun j y v' e1 e2 e3 => ?_⟩, fun y c e => ?_, I.free, I.freeC, fun p hp => ?_, tracked ⟨oL, hoL, I.free⟩ hs, by simpa using I.len⟩ ⟨_, hs, .inl rfl⟩
    · exact (hs.2 b (Nat.ne_of_lt (Nat.lt_of_lt_of_le (Heap.lt_size e) I.ok.above))).trans (I.base.keep b o e n hb hx)
    · obtain ⟨sl, e1⟩ := I.base.slot b o e n hb hx
      exact ⟨sl, (hs.2 b (Nat.ne_of_lt (Nat.lt_of_lt_of_le (Heap.lt_size e) I.ok.above))).trans e1⟩
    · obtain ⟨o', e1⟩ := I.base.there b o e hx
      exact ⟨o', (hs.2 b (Nat.ne_of_lt (Nat.lt_of_lt_of_le (Heap.lt_size e) I.ok.above))).trans e1⟩
    · by_cases hj : j = i
      · subst hj
        rw [hi] at e1; cases e1
        rw [List.getElem?_set_self hiσ] at e2
        cases e2
        exact ⟨u, r, .inl ⟨hk, by simp⟩⟩
      · rw [List.getElem?_set_ne (Ne.symm hj)] at e2
        obtain ⟨u', r', q⟩ := hl j y v' e1 e2 e3
        refine ⟨u', r', ?_⟩
        rcases q with ⟨k, e⟩ | ⟨k, c, e, z⟩
        · refine .inl ⟨k, ?_⟩
          have : y ≠ x := fun e => hj (nodup_ix hN e1 (e ▸ hi))
          simp [this, e]
        · exact .inr ⟨k, c, e, z.sameBut hs (cne y c e)⟩
    · obtain ⟨w', z⟩ := I.cell y c e
      exact ⟨w', z.sameBut hs (cne y c e)⟩
    · obtain ⟨e, n, ne, nf, d⟩ := I.pin p hp
      exact ⟨(hs.2 p.1 ne).trans e, n, ne, nf, d⟩
  · have hfn : X.fn x = true := by
      rcases hf with z | z
      · exact z
      · rw [z] at hk; cases hk
    obtain ⟨c, hc⟩ := I.ok.has x (.inl hk)
    obtain ⟨w', z⟩ := I.cell x c hc
    refine wpAny_storeName_cell I.ok.kind hk hc z (fun h' hc' hs => ?_)
    obtain ⟨oc, hoc, hocd⟩ := id z
    refine h { s with heap := h' } ⟨I.ok, I.os, I.bare, ⟨fun b o e n hb hx => ?_, fun b o e n hb hx => ?_, I.base.free, fun b o e hx => ?_, I.base.tups, I.base.frzs, I.base.tbls⟩, ⟨m, hn.sameBut hs (Ne.symm (cne x c hc)), fun j y v' e1 e2 e3 => ?_⟩, fun y c' e => ?_, I.free, I.freeC, fun p hp => ?_, tracked ⟨oc, hoc, I.freeC x c hc⟩ hs, by simpa using I.len⟩ ⟨c, hs, .inr hc⟩
    · exact (hs.2 b (Nat.ne_of_lt (Nat.lt_of_lt_of_le (Heap.lt_size e) (I.ok.cab x c hfn hc)))).trans (I.base.keep b o e n hb hx)
    · obtain ⟨sl, e1⟩ := I.base.slot b o e n hb hx
      exact ⟨sl, (hs.2 b (Nat.ne_of_lt (Nat.lt_of_lt_of_le (Heap.lt_size e) (I.ok.cab x c hfn hc)))).trans e1⟩
    · obtain ⟨o', e1⟩ := I.base.there b o e hx
      exact ⟨o', (hs.2 b (Nat.ne_of_lt (Nat.lt_of_lt_of_le (Heap.lt_size e) (I.ok.cab x c hfn hc)))).trans e1⟩
    · by_cases hj : j = i
      · subst hj
        rw [hi] at e1; cases e1
        rw [List.getElem?_set_self hiσ] at e2
        cases e2
        exact ⟨u, r, .inr ⟨.inl hk, c, hc, hc'⟩⟩
      · rw [List.getElem?_set_ne (Ne.symm hj)] at e2
        obtain ⟨u', r', q⟩ := hl j y v' e1 e2 e3
        refine ⟨u', r', ?_⟩
        rcases q with q | ⟨k, c', e, z'⟩
        · exact .inl q
        · refine .inr ⟨k, c', e, z'.sameBut hs ?_⟩
          rintro rfl
          exact hj (nodup_ix hN e1 (I.ok.inj _ _ _ e hc ▸ hi))
    · by_cases hcc : c' = c
      · subst hcc; exact ⟨_, hc'⟩
      · obtain ⟨w2, z2⟩ := I.cell y c' e
        exact ⟨w2, z2.sameBut hs hcc⟩
    · obtain ⟨e, n, ne, nf, d⟩ := I.pin p hp
      refine ⟨(hs.2 p.1 ?_).trans e, n, ne, nf, d⟩
      intro q
      rw [q, hoc] at e
      have q' : oc = p.2 := Option.some.inj e
      exact d w' (by rw [← q']; exact hocd)
theorem store_ok {M : Model} {A : Around} {E : Value → Shared → Prop} {i : Nat} {x : Str} {v : V} {u : Value} {Q : Unit → Shared → Prop} (I : Inv X pins σ H s) (hN : X.N.Nodup) (hi : X.N[i]? = some x) (hx : Loc X.env.scope x) (r : RelV v u)
    (h : ∀ s', Inv X pins (σ.set i (some v)) H s' → Q () s') (hf : X.fn x = true ∨ X.env.scope.names.lookup x = some .local := by first | exact .inl rfl | exact .inr rfl | assumption) : wpAny M A (storeName X.env x u) Q E s :=
  store_ok2 I hN hi hx r (fun s' I' _ => h s' I') hf
/-- behind a call or a block, the state as it is -/
theorem Inv.call' {s' : Shared} {ch : List Addr} (I : Inv X pins σ H s) (ho : s'.os = s.os) (u : Un (frs X.stack) ch H H' s.heap s'.heap) (hok : HOk X.prog X.w H' s'.heap) (hg : AllBare s'.gens)
    (hch : ∀ b ∈ ch, (b ∈ X.ex ∨ X.s_0.heap.objs.size ≤ b) ∧ b ≠ X.env.locals ∧ (∀ x c, X.env.cells.lookup x = some c → c ≠ b) ∧ ∀ p ∈ X.pn ++ pins, p.1 ≠ b) : Inv X pins σ H' s' := by
  obtain ⟨h', g', d', t', o'⟩ := s'
  have e : o' = s.os := ho
  subst e
  exact I.call (g' := g') (t' := t') (d' := d') u hok hg hch
end

/-! ### the judgements -/
/-- an exception: its class, its own dict's address (where it has one), the abstract heap behind it -/
abbrev XK := Value → Option Addr → Hp → Prop
abbrev St := List (Option V)
abbrev VK := V → Hp → Prop
/-- an expression's reading; a test's; an argument list's -/
abbrev TE := St → Hp → VK → Prop
abbrev TT := St → Hp → (Bool → Hp → Prop) → Prop
abbrev TA := St → Hp → (List V → Hp → Prop) → Prop
/-- what is wanted behind a statement -/
structure Ends where
  nx : St → Hp → Prop
  rt : VK
  bk : St → Hp → Prop := fun _ _ => False
  ct : St → Hp → Prop := fun _ _ => False
abbrev TS := Ends → St → Hp → Prop

def EP (X : Cx) (pins : List (Addr × Obj)) (σ : St) (Q : VK) (u : Value) (s' : Shared) : Prop := ∃ v H', Inv X pins σ H' s' ∧ RelV v u ∧ Q v H'
def TP (X : Cx) (pins : List (Addr × Obj)) (σ : St) (Q : Bool → Hp → Prop) (b : Bool) (s' : Shared) : Prop := ∃ H', Inv X pins σ H' s' ∧ Q b H'
def AP (X : Cx) (pins : List (Addr × Obj)) (σ : St) (Q : List V → Hp → Prop) (us : List Value) (s' : Shared) : Prop := ∃ vs H', Inv X pins σ H' s' ∧ Vals vs us ∧ Q vs H'
def SP (X : Cx) (pins : List (Addr × Obj)) (D : Ends) (f : Flow) (s' : Shared) : Prop :=
  match f with
  | .next => ∃ σ' H', Inv X pins σ' H' s' ∧ D.nx σ' H'
  | .brk => ∃ σ' H', Inv X pins σ' H' s' ∧ D.bk σ' H'
  | .cont => ∃ σ' H', Inv X pins σ' H' s' ∧ D.ct σ' H'
  | .ret u => ∃ v σ' H', Inv X pins σ' H' s' ∧ RelV v u ∧ D.rt v H'

def PE (X : Cx) (e : Expr) (t : TE) : Prop :=
  ∀ (pins : List (Addr × Obj)) (s : Shared) (σ : St) (H : Hp) (Q : VK), Inv X pins σ H s → t σ H Q → wpAny (model X.prog X.w) X.A (eval e X.env) (EP X pins σ Q) X.xe s
def PT (X : Cx) (e : Expr) (t : TT) : Prop :=
  ∀ (pins : List (Addr × Obj)) (s : Shared) (σ : St) (H : Hp) (Q : Bool → Hp → Prop), Inv X pins σ H s → t σ H Q → wpAny (model X.prog X.w) X.A (isTrue e X.env (eval e X.env)) (TP X pins σ Q) X.xe s
/-- a test whatever its 'whole' is (and, or) -/
def PW (X : Cx) (e : Expr) (t : TT) : Prop :=
  ∀ (whole : Sem Value) (pins : List (Addr × Obj)) (s : Shared) (σ : St) (H : Hp) (Q : Bool → Hp → Prop), Inv X pins σ H s → t σ H Q → wpAny (model X.prog X.w) X.A (isTrue e X.env whole) (TP X pins σ Q) X.xe s
theorem PW.pt {X : Cx} {e : Expr} {t : TT} (h : PW X e t) : PT X e t := h _
/-- an argument list (no star), from the left -/
def PA (X : Cx) (es : List Expr) (t : TA) : Prop :=
  ∀ (pos : Pos) (pins : List (Addr × Obj)) (s : Shared) (σ : St) (H : Hp) (Q : List V → Hp → Prop), Inv X pins σ H s → t σ H Q → wpAny (model X.prog X.w) X.A (spliced (backTo pos (starEach es X.env))) (AP X pins σ Q) X.xe s
def PS (X : Cx) (st : Stmt) (t : TS) : Prop :=
  ∀ (pins : List (Addr × Obj)) (s : Shared) (σ : St) (H : Hp) (D : Ends), Inv X pins σ H s → t D σ H → wpAny (model X.prog X.w) X.A (exec st X.env) (SP X pins D) X.xe s
def PSs (X : Cx) (st : List Stmt) (t : TS) : Prop :=
  ∀ (pins : List (Addr × Obj)) (s : Shared) (σ : St) (H : Hp) (D : Ends), Inv X pins σ H s → t D σ H → wpAny (model X.prog X.w) X.A (execs st X.env) (SP X pins D) X.xe s
/-- weaken the end -/
theorem thn {α : Type} {t : Sem α} {Q Q' : α → Shared → Prop} {M : Model} {A : Around} {E : Value → Shared → Prop} {s : Shared} (h : wpAny M A t Q E s) (hQ : ∀ a s, Q a s → Q' a s) : wpAny M A t Q' E s := wpAny_mono h hQ fun _ _ x => x
end L2

namespace L2
open PySem PySem.Spec PyProof.Rows
section
variable {X : Cx}

/-- two expressions in a row -/
theorem bin {a b : Expr} {ta tb : TE} (ha : PE X a ta) (hb : PE X b tb) {pins : List (Addr × Obj)} {s : Shared} {σ : St} {H : Hp} {R : V → V → Hp → Prop} (I : Inv X pins σ H s) (h : ta σ H fun x H1 => tb σ H1 fun y H2 => R x y H2)
    {α : Type} {Q : α → Shared → Prop} {f : Value → Value → Sem α}
    (hf : ∀ v u s2 x y H2, Inv X pins σ H2 s2 → RelV x v → RelV y u → R x y H2 → wpAny (model X.prog X.w) X.A (f v u) Q X.xe s2) :
    wpAny (model X.prog X.w) X.A (eval a X.env) (fun v s₁ => wpAny (model X.prog X.w) X.A (eval b X.env) (fun u s₂ => wpAny (model X.prog X.w) X.A (f v u) Q X.xe s₂) X.xe s₁) X.xe s := by
  refine thn (ha pins s σ H _ I h) fun v s1 ⟨x, H1, I1, r1, q1⟩ => ?_
  refine thn (hb pins s1 σ H1 _ I1 q1) fun u s2 ⟨y, H2, I2, r2, q2⟩ => ?_
  exact hf v u s2 x y H2 I2 r1 r2 q2

/-! ### names and constants -/
def tVar (i : Nat) : TE := fun σ H Q => ∃ v, σ[i]? = some (some v) ∧ Q v H
def tC (v : V) : TE := fun _ H Q => Q v H
theorem pe_var {i : Nat} {x : Str} {pos : Pos} (hN : X.N[i]? = some x) (hv : Vis X.env.scope x) (hd : (x == ("__debug__" : Str)) = false := by decide) (hcd : (x == ("__classdict__" : Str)) = false := by decide) : PE X (.Name x pos) (tVar i) := by
  intro pins s σ H Q I h
  obtain ⟨v, e, h⟩ := h
  obtain ⟨m, hn, hl⟩ := I.loc
  obtain ⟨u, r, l⟩ := hl i x v hN e hv
  have fin : EP X pins σ Q u s := ⟨v, H, I, r, h⟩
  rcases l with ⟨hk, hm⟩ | ⟨hk, c, hc, hcell⟩
  · exact wpAny_Name (wpAny_loadName_local I.ok.kind hk hn hm fin) hd
  · rcases hk with hk | hk
    · exact wpAny_Name (wpAny_loadName_cell I.ok.kind hk hc hcell fin) hd
    · exact wpAny_Name (wpAny_loadName_free I.ok.kind hk hc hcell fin hcd) hd
theorem pe_int {i j pos} : PE X (.Constant (.int i) j pos) (tC (.int i)) := fun _ _ _ H _ I h => wpAny_Constant_int ⟨.int i, H, I.tok _, ⟨_, rfl⟩, h⟩
theorem pe_bl {b j pos} : PE X (.Constant (.bool b) j pos) (tC (.bl b)) := fun _ _ _ H _ I h => Constant_bool ⟨.bl b, H, I, rfl, h⟩
theorem pe_non {j pos} : PE X (.Constant .none j pos) (tC .non) := fun _ _ _ H _ I h => Constant_none ⟨.non, H, I, rfl, h⟩
theorem pe_str {x j pos} : PE X (.Constant (.str x) j pos) (tC (.str x)) := fun _ _ _ H _ I h => Calls.Constant_str ⟨.str x, H, I.tok _, ⟨_, rfl⟩, h⟩

/-- a global name of the def -/
def Gl (X : Cx) (x : Str) : Prop := X.env.kindOf x = some .globalImplicit
theorem ld_glob {E : Value → Shared → Prop} {pins : List (Addr × Obj)} {s : Shared} {σ : St} {H : Hp} {x : Str} {u : Value} {pos : Pos} {Q : Value → Shared → Prop} (I : Inv X pins σ H s) (hg : Gl X x) (hm : X.mg x = some u) (h : Q u s)
    (hd : (x == ("__debug__" : Str)) = false := by decide) : wpAny (model X.prog X.w) X.A (eval (.Name x pos) X.env) Q E s :=
  Calls.Name_function_global I.ok.kind hg (Calls.loadGlobal_global (by rw [I.ok.glob]; exact I.mod.glob.keeps I.bk) hm h) hd
theorem ld_blt {E : Value → Shared → Prop} {pins : List (Addr × Obj)} {s : Shared} {σ : St} {H : Hp} {x : Str} {u : Value} {pos : Pos} {Q : Value → Shared → Prop} (I : Inv X pins σ H s) (hg : Gl X x) (hm : X.mg x = none) (hv : bootBuiltins x = some u) (h : Q u s)
    (hn : x ≠ "__name__" := by decide) (hd : (x == ("__debug__" : Str)) = false := by decide) : wpAny (model X.prog X.w) X.A (eval (.Name x pos) X.env) Q E s := by
  obtain ⟨mb, h1, h2⟩ := I.mod.blt
  exact Calls.Name_function_global I.ok.kind hg (Calls.loadGlobal_builtin (by rw [I.ok.glob]; exact I.mod.glob.keeps I.bk) hm (by rw [I.ok.blt]; exact h1.keeps I.bk) ((h2 x hn).trans hv) h) hd
/-- a module's constant, a class, a function, as a value -/
theorem pe_glob {x : Str} {v : V} {u : Value} {pos : Pos} (hg : Gl X x) (hm : X.mg x = some u) (r : RelV v u) (hd : (x == ("__debug__" : Str)) = false := by decide) : PE X (.Name x pos) (tC v) :=
  fun _ _ _ H _ I h => ld_glob I hg hm ⟨v, H, I, r, h⟩ hd
theorem pe_bltn {x : Str} {v : V} {u : Value} {pos : Pos} (hg : Gl X x) (hm : X.mg x = none) (hv : bootBuiltins x = some u) (r : RelV v u) (hn : x ≠ "__name__" := by decide) (hd : (x == ("__debug__" : Str)) = false := by decide) : PE X (.Name x pos) (tC v) :=
  fun _ _ _ H _ I h => ld_blt I hg hm hv ⟨v, H, I, r, h⟩ hn hd

/-! ### arithmetic -/
/-- two ints -/
def t2I (ta tb : TE) (k : Int → Int → Hp → Prop) : St → Hp → Prop := fun σ H => ta σ H fun x H1 => tb σ H1 fun y H2 => ∃ i j, x = .int i ∧ y = .int j ∧ k i j H2
def tAdd (ta tb : TE) : TE := fun σ H Q => t2I ta tb (fun i j H2 => Q (.int (i + j)) H2) σ H
def tSub (ta tb : TE) : TE := fun σ H Q => t2I ta tb (fun i j H2 => Q (.int (i - j)) H2) σ H
/-- the left factor below 2^64 -/
def tMul (ta tb : TE) : TE := fun σ H Q => t2I ta tb (fun i j H2 => (-(2 ^ 64) < i ∧ i < 2 ^ 64) ∧ Q (.int (i * j)) H2) σ H
variable {a b : Expr} {ta tb : TE} {pos : Pos}
theorem pe_add (ha : PE X a ta) (hb : PE X b tb) : PE X (.BinOp a .Add b pos) (tAdd ta tb) := by
  intro pins s σ H Q I h
  refine wpAny_BinOp (bin ha hb I h fun v u s2 x y H2 I2 rx ry q => ?_)
  obtain ⟨i, j, rfl, rfl, q⟩ := q
  obtain ⟨t, rfl⟩ := rx
  obtain ⟨t', rfl⟩ := ry
  exact add_int ⟨.int _, H2, I2.tok _, ⟨_, rfl⟩, q⟩
theorem pe_sub (ha : PE X a ta) (hb : PE X b tb) : PE X (.BinOp a .Sub b pos) (tSub ta tb) := by
  intro pins s σ H Q I h
  refine wpAny_BinOp (bin ha hb I h fun v u s2 x y H2 I2 rx ry q => ?_)
  obtain ⟨i, j, rfl, rfl, q⟩ := q
  obtain ⟨t, rfl⟩ := rx
  obtain ⟨t', rfl⟩ := ry
  exact sub_int ⟨.int _, H2, I2.tok _, ⟨_, rfl⟩, q⟩
theorem pe_mul (ha : PE X a ta) (hb : PE X b tb) : PE X (.BinOp a .Mult b pos) (tMul ta tb) := by
  intro pins s σ H Q I h
  refine wpAny_BinOp (bin ha hb I h fun v u s2 x y H2 I2 rx ry q => ?_)
  obtain ⟨i, j, rfl, rfl, ⟨q1, q2⟩, q⟩ := q
  obtain ⟨t, rfl⟩ := rx
  obtain ⟨t', rfl⟩ := ry
  exact mul_int ⟨.int _, H2, I2.tok _, ⟨_, rfl⟩, q⟩ (.of_left (intBits_le_64 q1 q2))

/-! ### comparisons -/
def PC (X : Cx) (op : CmpOp) (a b : Expr) (t : TE) : Prop :=
  ∀ (pins : List (Addr × Obj)) (s : Shared) (σ : St) (H : Hp) (Q : VK), Inv X pins σ H s → t σ H Q →
    wpAny (model X.prog X.w) X.A (eval a X.env) (fun v s₁ => wpAny (model X.prog X.w) X.A (eval b X.env) (fun u s₂ => wpAny (model X.prog X.w) X.A (compareOp op v u) (EP X pins σ Q) X.xe s₂) X.xe s₁) X.xe s
theorem nobehind (b : Expr) {op : CmpOp} (h : op ≠ .In) (h2 : op ≠ .NotIn) : behindInMarks op b = false := by
  have e1 : (op == CmpOp.In) = false := by cases op <;> first | rfl | exact absurd rfl h
  have e2 : (op == CmpOp.NotIn) = false := by cases op <;> first | rfl | exact absurd rfl h2
  cases b <;> simp [behindInMarks, e1, e2]
def tCmp (p : Int → Int → Bool) (ta tb : TE) : TE := fun σ H Q => t2I ta tb (fun i j H2 => Q (.bl (p i j)) H2) σ H
abbrev tLt : TE → TE → TE := tCmp fun i j => decide (i < j)
abbrev tLe : TE → TE → TE := tCmp fun i j => decide (i ≤ j)
abbrev tGt : TE → TE → TE := tCmp fun i j => decide (j < i)
abbrev tGe : TE → TE → TE := tCmp fun i j => decide (j ≤ i)
abbrev tEqI : TE → TE → TE := tCmp fun i j => decide (i = j)
abbrev tNeI : TE → TE → TE := tCmp fun i j => !decide (i = j)
/-- a comparison of two ints, by its rule -/
theorem pc_int {op : CmpOp} {p : Int → Int → Bool} (ha : PE X a ta) (hb : PE X b tb)
    (rule : ∀ (i j : Int) (t u : Tok) (Q : Value → Shared → Prop) (s : Shared), Q (.bool (p i j)) s → wpAny (model X.prog X.w) X.A (compareOp op (.int i t) (.int j u)) Q X.xe s) : PC X op a b (tCmp p ta tb) := by
  intro pins s σ H Q I h
  refine bin ha hb I h fun v u s2 x y H2 I2 rx ry q => ?_
  obtain ⟨i, j, rfl, rfl, q⟩ := q
  obtain ⟨t, rfl⟩ := rx
  obtain ⟨t', rfl⟩ := ry
  exact rule i j t t' _ s2 ⟨.bl _, H2, I2, rfl, q⟩
theorem pc_lt (ha : PE X a ta) (hb : PE X b tb) : PC X .Lt a b (tLt ta tb) := pc_int ha hb fun _ _ _ _ _ _ h => lt_int h
theorem pc_le (ha : PE X a ta) (hb : PE X b tb) : PC X .LtE a b (tLe ta tb) := pc_int ha hb fun _ _ _ _ _ _ h => le_int h
theorem pc_gt (ha : PE X a ta) (hb : PE X b tb) : PC X .Gt a b (tGt ta tb) := pc_int ha hb fun _ _ _ _ _ _ h => gt_int h
theorem pc_ge (ha : PE X a ta) (hb : PE X b tb) : PC X .GtE a b (tGe ta tb) := pc_int ha hb fun _ _ _ _ _ _ h => ge_int h
theorem pc_eqI (ha : PE X a ta) (hb : PE X b tb) : PC X .Eq a b (tEqI ta tb) := pc_int ha hb fun _ _ _ _ _ _ h => eq_int (by rw [Bool.beq_eq_decide_eq]; exact h)
theorem pc_neI (ha : PE X a ta) (hb : PE X b tb) : PC X .NotEq a b (tNeI ta tb) := pc_int ha hb fun _ _ _ _ _ _ h => ne_int (by rw [bne, Bool.beq_eq_decide_eq]; exact h)
/-- is None -/
def tIsN (ta : TE) : TE := fun σ H Q => ta σ H fun x H1 => Q (.bl (decide (x = .non))) H1
def tNotN (ta : TE) : TE := fun σ H Q => ta σ H fun x H1 => Q (.bl (!decide (x = .non))) H1
theorem RelV.none_iff {x : V} {v : Value} (r : RelV x v) : (v == Value.none) = decide (x = .non) := by
  cases x with
  | non => cases r; rfl
  | bl _ => cases r; rfl
  | int _ => obtain ⟨t, rfl⟩ := r; rfl
  | str _ => obtain ⟨t, rfl⟩ := r; rfl
  | byt _ => obtain ⟨t, rfl⟩ := r; rfl
  | flt _ => obtain ⟨t, rfl⟩ := r; rfl
  | ref _ => cases r; rfl
  | ty _ => cases r; rfl
theorem pc_isN {j pos'} (ha : PE X a ta) : PC X .Is a (.Constant .none j pos') (tIsN ta) := by
  intro pins s σ H Q I h
  refine thn (ha pins s σ H _ I h) fun v s1 ⟨x, H1, I1, r1, q1⟩ => ?_
  exact Constant_none (is_none_gen ⟨.bl _, H1, I1, by rw [r1.none_iff]; rfl, q1⟩)
theorem pc_notN {j pos'} (ha : PE X a ta) : PC X .IsNot a (.Constant .none j pos') (tNotN ta) := by
  intro pins s σ H Q I h
  refine thn (ha pins s σ H _ I h) fun v s1 ⟨x, H1, I1, r1, q1⟩ => ?_
  exact Constant_none (isnot_none_gen ⟨.bl _, H1, I1, by rw [r1.none_iff]; rfl, q1⟩)
/-- a comparison as a value, as a test -/
def tB (t : TE) : TT := fun σ H Q => t σ H fun x H1 => ∃ c, x = .bl c ∧ Q c H1
theorem pe_cmp {op : CmpOp} {t : TE} (h : PC X op a b t) (h1 : behindInMarks op b = false := by first | exact nobehind _ (by decide) (by decide) | rfl) : PE X (.Compare a [op] [b] pos) t := fun pins s σ H Q I hw => wpAny_Compare1 (h pins s σ H Q I hw) h1
theorem pt_cmp {op : CmpOp} {t : TE} (h : PC X op a b t) (h1 : behindInMarks op b = false := by first | exact nobehind _ (by decide) (by decide) | rfl) : PT X (.Compare a [op] [b] pos) (tB t) := by
  intro pins s σ H Q I hw
  refine wpAny_isTrue_Compare1 (thn (h pins s σ H _ I hw) fun v s1 h1 => thn h1 fun u s2 h2 => thn h2 fun c s3 ⟨x, H1, I1, r1, q1⟩ => ?_) h1
  obtain ⟨d, rfl, q⟩ := q1
  cases r1
  exact wpAny_truthy_bool ⟨H1, I1, q⟩
/-- an expression whose value is a bool, as a test -/
theorem pt_val {e : Expr} {t : TE} (h : PE X e t) (he : ∀ whole, isTrue e X.env whole = (do let v ← whole; standAt e.pos; holding [v] (truthy v)) := by intro _; rfl) : PT X e (tB t) := by
  intro pins s σ H Q I hw
  refine isTrue_plain (thn (h pins s σ H _ I hw) fun v s1 ⟨x, H1, I1, r1, q1⟩ => ?_) (he _)
  obtain ⟨d, rfl, q⟩ := q1
  cases r1
  exact wpAny_truthy_bool ⟨H1, I1, q⟩

/-! ### and, or, not -/
variable {tA tB' : TT} {rest : List Expr}
def tAnd (t u : TT) : TT := fun σ H Q => t σ H fun c H1 => if c = true then u σ H1 Q else Q false H1
def tOr (t u : TT) : TT := fun σ H Q => t σ H fun c H1 => if c = true then Q true H1 else u σ H1 Q
def tNot (t : TT) : TT := fun σ H Q => t σ H fun c H1 => Q (!c) H1
theorem pw_and1 (ha : PT X a tA) : PW X (.BoolOp .And [a] pos) tA := by
  intro wh pins s σ H Q I h
  refine isTrue_and (thn (ha pins s σ H Q I h) fun c s1 e => ?_)
  cases c with
  | true => exact isTrue_and_nil e
  | false => exact e
theorem pw_or1 (ha : PT X a tA) : PW X (.BoolOp .Or [a] pos) tA := by
  intro wh pins s σ H Q I h
  refine isTrue_or (thn (ha pins s σ H Q I h) fun c s1 e => ?_)
  cases c with
  | false => exact isTrue_or_nil e
  | true => exact e
theorem pw_and (ha : PT X a tA) (hb : PW X (.BoolOp .And (b :: rest) pos) tB') : PW X (.BoolOp .And (a :: b :: rest) pos) (tAnd tA tB') := by
  intro wh pins s σ H Q I h
  refine isTrue_and (thn (ha pins s σ H _ I h) fun c s1 ⟨H1, I1, q1⟩ => ?_)
  cases c with
  | true => exact hb wh pins s1 σ H1 Q I1 q1
  | false => exact ⟨H1, I1, q1⟩
theorem pw_or (ha : PT X a tA) (hb : PW X (.BoolOp .Or (b :: rest) pos) tB') : PW X (.BoolOp .Or (a :: b :: rest) pos) (tOr tA tB') := by
  intro wh pins s σ H Q I h
  refine isTrue_or (thn (ha pins s σ H _ I h) fun c s1 ⟨H1, I1, q1⟩ => ?_)
  cases c with
  | true => exact ⟨H1, I1, q1⟩
  | false => exact hb wh pins s1 σ H1 Q I1 q1
theorem pt_not (ha : PT X a tA) : PT X (.UnaryOp .Not a pos) (tNot tA) := by
  intro pins s σ H Q I h
  exact isTrue_not (ha pins s σ H (fun c H1 => Q (!c) H1) I h)
/-- .. as values (bools) -/
def tAndV (ta tb : TE) : TE := fun σ H Q => ta σ H fun x H1 => ∃ c, x = .bl c ∧ if c = true then tb σ H1 Q else Q (.bl false) H1
def tOrV (ta tb : TE) : TE := fun σ H Q => ta σ H fun x H1 => ∃ c, x = .bl c ∧ if c = true then Q (.bl true) H1 else tb σ H1 Q
def tNotV (ta : TE) : TE := fun σ H Q => ta σ H fun x H1 => ∃ c, x = .bl c ∧ Q (.bl (!c)) H1
theorem pe_one {op} {t : TE} (h : PE X a t) : PE X (.BoolOp op [a] pos) t := fun pins s σ H Q I hw => BoolOp_one (h pins s σ H Q I hw)
theorem pe_and (ha : PE X a ta) (hb : PE X (.BoolOp .And (b :: rest) pos) tb) : PE X (.BoolOp .And (a :: b :: rest) pos) (tAndV ta tb) := by
  intro pins s σ H Q I h
  refine BoolOp_and (thn (ha pins s σ H _ I h) fun v s1 ⟨x, H1, I1, r1, q1⟩ => ?_)
  obtain ⟨c, rfl, q1⟩ := q1
  cases r1
  refine wpAny_truthy_bool ?_
  cases c with
  | true => exact hb pins s1 σ H1 Q I1 q1
  | false => exact ⟨.bl false, H1, I1, rfl, q1⟩
theorem pe_or (ha : PE X a ta) (hb : PE X (.BoolOp .Or (b :: rest) pos) tb) : PE X (.BoolOp .Or (a :: b :: rest) pos) (tOrV ta tb) := by
  intro pins s σ H Q I h
  refine BoolOp_or (thn (ha pins s σ H _ I h) fun v s1 ⟨x, H1, I1, r1, q1⟩ => ?_)
  obtain ⟨c, rfl, q1⟩ := q1
  cases r1
  refine wpAny_truthy_bool ?_
  cases c with
  | false => exact hb pins s1 σ H1 Q I1 q1
  | true => exact ⟨.bl true, H1, I1, rfl, q1⟩
theorem pe_not (ha : PE X a ta) : PE X (.UnaryOp .Not a pos) (tNotV ta) := by
  intro pins s σ H Q I h
  refine UnaryOp_ (thn (ha pins s σ H _ I h) fun v s1 ⟨x, H1, I1, r1, q1⟩ => ?_)
  obtain ⟨c, rfl, q1⟩ := q1
  cases r1
  exact not_of (wpAny_truthy_bool ⟨.bl (!c), H1, I1, rfl, q1⟩)
/-- a if t else b -/
def tIf (t : TT) (ta tb : TE) : TE := fun σ H Q => t σ H fun c H1 => if c = true then ta σ H1 Q else tb σ H1 Q
theorem pe_ifExp {c : Expr} (hc : PT X c tA) (ha : PE X a ta) (hb : PE X b tb) : PE X (.IfExp c a b pos) (tIf tA ta tb) := by
  intro pins s σ H Q I h
  refine wpAny_IfExp (thn (hc pins s σ H _ I h) fun d s1 ⟨H1, I1, q1⟩ => ?_)
  cases d with
  | true => exact ha pins s1 σ H1 Q I1 q1
  | false => exact hb pins s1 σ H1 Q I1 q1
end
end L2

namespace L2
open PySem PySem.Spec PyProof.Rows

/-! ### a list, a tuple that is read: tracked, frozen, or an object of the module -/
def SqL (K : PySem.W.Frag) (H : Hp) (a : Addr) (xs : List V) : Prop :=
  Rd H a (.lst xs) ∨
    ∃ (o : Obj) (its : Array Value) (n : Nat), K.lookup a = some o ∧ o.cls = .type "list" ∧ o.dict = none ∧ o.data = .seq its n ∧ its.size ≤ sizeLine ∧ Vals xs its.toList
def SqT (K : PySem.W.Frag) (H : Hp) (a : Addr) (xs : List V) : Prop :=
  Rd H a (.tup xs) ∨
    ∃ (o : Obj) (its : Array Value) (n : Nat), K.lookup a = some o ∧ o.cls = .type "tuple" ∧ o.data = .seq its n ∧ its.size ≤ sizeLine ∧ Vals xs its.toList
def absV : Value → Option V
  | .none => some .non
  | .bool b => some (.bl b)
  | .int i _ => some (.int i)
  | .str x _ => some (.str x)
  | .bytes b _ => some (.byt b)
  | .float b _ => some (.flt b)
  | .ref a => some (.ref a)
  | .type n => some (.ty n)
  | _ => none
theorem RelV.abs {x : V} {u : Value} (r : RelV x u) : absV u = some x := by
  cases x with
  | non => cases r; rfl
  | bl _ => cases r; rfl
  | int _ => obtain ⟨t, rfl⟩ := r; rfl
  | str _ => obtain ⟨t, rfl⟩ := r; rfl
  | byt _ => obtain ⟨t, rfl⟩ := r; rfl
  | flt _ => obtain ⟨t, rfl⟩ := r; rfl
  | ref _ => cases r; rfl
  | ty _ => cases r; rfl
theorem RelV.inj {x y : V} {u : Value} (r : RelV x u) (q : RelV y u) : x = y := Option.some.inj (r.abs.symm.trans q.abs)
theorem Vals.inj : ∀ {xs ys : List V} {us : List Value}, Vals xs us → Vals ys us → xs = ys
  | _, _, _, .nil, .nil => rfl
  | _, _, _, .cons r t, .cons r' t' => by rw [r.inj r', Vals.inj t t']
section
variable {X : Cx} {pins : List (Addr × Obj)} {σ : St} {H : Hp} {s : Shared} {a : Addr} {xs ys : List V}
theorem SqL.of {K : PySem.W.Frag} (h : H a = some (.lst xs)) : SqL K H a xs := .inl (.inl h)
theorem SqT.of {K : PySem.W.Frag} (h : H a = some (.tup xs)) : SqT K H a xs := .inl (.inl h)
theorem Inv.list (I : Inv X pins σ H s) (h : SqL X.K H a xs) : ∃ its : List Value, Vals xs its ∧ PlainL s.heap a its.toArray ∧ xs.length ≤ sizeLine := by
  rcases h with h | ⟨o, its, n, hk, hc, hd, hs, hz, r⟩
  · obtain ⟨z, its, n, r, e⟩ := h.ok I.hok
    exact ⟨its, r, ⟨_, n, e, rfl, rfl, rfl⟩, z⟩
  · refine ⟨its.toList, r, ⟨o, n, I.kIn a o hk, hc, hd, by simpa using hs⟩, ?_⟩
    have e := r.length
    simp only [Array.length_toList] at e
    omega
theorem Inv.tuple (I : Inv X pins σ H s) (h : SqT X.K H a xs) : ∃ its : List Value, Vals xs its ∧ IsTup s.heap a its.toArray ∧ xs.length ≤ sizeLine := by
  rcases h with h | ⟨o, its, n, hk, hc, hs, hz, r⟩
  · obtain ⟨z, its, r, p⟩ := h.ok I.hok
    exact ⟨its, r, p, z⟩
  · refine ⟨its.toList, r, ⟨o, I.kIn a o hk, hc, n, by simpa using hs⟩, ?_⟩
    have e := r.length
    simp only [Array.length_toList] at e
    omega
theorem Inv.list_inj (I : Inv X pins σ H s) (h : SqL X.K H a xs) (h' : SqL X.K H a ys) : xs = ys := by
  obtain ⟨its, r, ⟨o, n, e, _, _, d⟩, _⟩ := I.list h
  obtain ⟨its', r', ⟨o', n', e', _, _, d'⟩, _⟩ := I.list h'
  rw [e] at e'; cases e'
  rw [d] at d'
  injection d' with d1 _
  have : its = its' := by simpa using congrArg Array.toList d1
  subst this
  exact r.inj r'
theorem Inv.tuple_inj (I : Inv X pins σ H s) (h : SqT X.K H a xs) (h' : SqT X.K H a ys) : xs = ys := by
  obtain ⟨its, r, ⟨o, e, _, n, d⟩, _⟩ := I.tuple h
  obtain ⟨its', r', ⟨o', e', _, n', d'⟩, _⟩ := I.tuple h'
  rw [e] at e'; cases e'
  rw [d] at d'
  injection d' with d1 _
  have : its = its' := by simpa using congrArg Array.toList d1
  subst this
  exact r.inj r'
end

/-! ### another wish about exceptions -/
abbrev Cx.wish (X : Cx) (E : Value → Shared → Prop) : Cx := { X with xe := E }
/-- no exception leaves -/
abbrev Cx.nox (X : Cx) : Cx := X.wish fun _ _ => False
theorem Cx.Ok.wish {X : Cx} (ok : X.Ok) (E : Value → Shared → Prop) : (X.wish E).Ok :=
  ⟨ok.mod, ok.kind, ok.glob, ok.blt, ok.above, ok.inj, ok.has, ok.cab, ok.hd, ok.frames, ok.stk, ok.exf, ok.bs, ok.bsz, ok.noex, ok.exfs, ok.funs, ok.frf⟩
theorem Cx.Ok.unwish {X : Cx} {E : Value → Shared → Prop} (ok : (X.wish E).Ok) : X.Ok :=
  ⟨ok.mod, ok.kind, ok.glob, ok.blt, ok.above, ok.inj, ok.has, ok.cab, ok.hd, ok.frames, ok.stk, ok.exf, ok.bs, ok.bsz, ok.noex, ok.exfs, ok.funs, ok.frf⟩
section
variable {X : Cx} {pins : List (Addr × Obj)} {σ : St} {H : Hp} {s : Shared} {E : Value → Shared → Prop}
theorem Inv.wish (I : Inv X pins σ H s) (E : Value → Shared → Prop) : Inv (X.wish E) pins σ H s := ⟨I.ok.wish E, I.os, I.bare, I.base, I.loc, I.cell, I.free, I.freeC, I.pin, I.hok, I.len⟩
theorem Inv.unwish (I : Inv (X.wish E) pins σ H s) : Inv X pins σ H s := ⟨I.ok.unwish, I.os, I.bare, I.base, I.loc, I.cell, I.free, I.freeC, I.pin, I.hok, I.len⟩
theorem SP.unwish {D : Ends} {f : Flow} {s' : Shared} (h : SP (X.wish E) pins D f s') : SP X pins D f s' := by
  cases f with
  | next => obtain ⟨σ', H', I, q⟩ := h; exact ⟨σ', H', I.unwish, q⟩
  | brk => obtain ⟨σ', H', I, q⟩ := h; exact ⟨σ', H', I.unwish, q⟩
  | cont => obtain ⟨σ', H', I, q⟩ := h; exact ⟨σ', H', I.unwish, q⟩
  | ret u => obtain ⟨v, σ', H', I, r, q⟩ := h; exact ⟨v, σ', H', I.unwish, r, q⟩
theorem PE.nox {e : Expr} {t : TE} (h : PE X.nox e t) : PE X e t := fun pins s σ H Q I hw =>
  wpAny_mono (h pins s σ H Q (I.wish _) hw) (fun _ _ ⟨v, H', I', r, q⟩ => ⟨v, H', I'.unwish, r, q⟩) fun _ _ z => False.elim z
theorem PT.nox {e : Expr} {t : TT} (h : PT X.nox e t) : PT X e t := fun pins s σ H Q I hw =>
  wpAny_mono (h pins s σ H Q (I.wish _) hw) (fun _ _ ⟨H', I', q⟩ => ⟨H', I'.unwish, q⟩) fun _ _ z => False.elim z
theorem PSs.nox {st : List Stmt} {t : TS} (h : PSs X.nox st t) : PSs X st t := fun pins s σ H D I hw =>
  wpAny_mono (h pins s σ H D (I.wish _) hw) (fun _ _ q => q.unwish) fun _ _ z => False.elim z
end

/-! ### blocks and small statements -/
section
variable {X : Cx} {st : Stmt} {rest : List Stmt} {t u : TS} {e : Expr} {te : TE} {pos : Pos}
def tNext : TS := fun D σ H => D.nx σ H
def tSeq (t u : TS) : TS := fun D σ H => t { D with nx := u D } σ H
theorem pss_nil : PSs X [] tNext := fun _ _ σ H _ I h => wpAny_execs_nil ⟨σ, H, I, h⟩
theorem pss_cons (h1 : PS X st t) (h2 : PSs X rest u) : PSs X (st :: rest) (tSeq t u) := by
  intro pins s σ H D I h
  refine wpAny_execs_cons (thn (h1 pins s σ H { D with nx := u D } I h) fun f s1 q => ?_)
  cases f with
  | next =>
    obtain ⟨σ', H', I', q⟩ := q
    exact h2 pins s1 σ' H' D I' q
  | ret v => exact q
  | brk => exact q
  | cont => exact q
theorem pss_one (h1 : PS X st t) : PSs X [st] t := by
  intro pins s σ H D I h
  refine wpAny_execs_cons (thn (h1 pins s σ H D I h) fun f s1 q => ?_)
  cases f with
  | next => exact wpAny_execs_nil q
  | ret v => exact q
  | brk => exact q
  | cont => exact q
def tBreak : TS := fun D σ H => D.bk σ H
def tCont : TS := fun D σ H => D.ct σ H
theorem ps_pass : PS X (.Pass pos) tNext := fun _ _ σ H _ I h => wpAny_Pass ⟨σ, H, I, h⟩
theorem ps_break : PS X (.Break pos) tBreak := fun _ _ σ H _ I h => wpAny_Break ⟨σ, H, I, h⟩
theorem ps_continue : PS X (.Continue pos) tCont := fun _ _ σ H _ I h => wpAny_Continue ⟨σ, H, I, h⟩
/-- in a def's body nothing is shown -/
theorem Inv.quiet {pins : List (Addr × Obj)} {σ : St} {H : Hp} {s : Shared} (I : Inv X pins σ H s) : interactive X.env = false := by simp [interactive, I.ok.kind]
/-- a docstring -/
theorem ps_doc {x j pos pos'} : PS X (.Expr (.Constant (.str x) j pos) pos') tNext := fun _ s σ H _ I h => wpAny_Expr (Calls.Constant_str (show SP X _ _ .next { s with toks := s.toks + 1 } from ⟨σ, H, I.tok _, h⟩)) I.quiet
/-- an expression whose value is dropped -/
def tDrop (te : TE) : TS := fun D σ H => te σ H fun _ H1 => D.nx σ H1
theorem ps_expr (he : PE X e te) (hs : swapsWith e none pos.line X.env = pure false := by rfl) : PS X (.Expr e pos) (tDrop te) := by
  intro pins s σ H D I h
  exact wpAny_Expr_any (thn (he pins s σ H _ I h) fun v s1 ⟨x, H1, I1, r1, q1⟩ => ⟨σ, H1, I1, q1⟩) I.quiet hs
def tRet (te : TE) : TS := fun D σ H => te σ H D.rt
theorem ps_ret (he : PE X e te) : PS X (.Return (some e) pos) (tRet te) := by
  intro pins s σ H D I h
  exact wpAny_Return_some (thn (he pins s σ H _ I h) fun v s1 ⟨x, H1, I1, r1, q1⟩ => ⟨x, σ, H1, I1, r1, q1⟩)
def tRetN : TS := fun D _ H => D.rt .non H
theorem ps_retN : PS X (.Return none pos) tRetN := fun _ _ σ H _ I h => wpAny_Return_none ⟨.non, σ, H, I, rfl, h⟩
def tIfS (c : TT) (t u : TS) : TS := fun D σ H => c σ H fun b H1 => if b = true then t D σ H1 else u D σ H1
theorem ps_if {c : Expr} {a b : List Stmt} {tc : TT} (hc : PT X c tc) (ha : PSs X a t) (hb : PSs X b u) : PS X (.If c a b pos) (tIfS tc t u) := by
  intro pins s σ H D I h
  refine wpAny_If (thn (hc pins s σ H _ I h) fun d s1 ⟨H1, I1, q1⟩ => ?_)
  cases d with
  | true => exact ha pins s1 σ H1 D I1 q1
  | false => exact hb pins s1 σ H1 D I1 q1
/-- code that the proof never comes to -/
def tNever : TS := fun _ _ _ => False
theorem ps_never : PS X st tNever := fun _ _ _ _ _ _ h => h.elim
theorem pss_never {sts : List Stmt} : PSs X sts tNever := fun _ _ _ _ _ _ h => h.elim
end

/-! ### targets -/
abbrev TG := V → St → Hp → (St → Hp → Prop) → Prop
abbrev TGs := List V → St → Hp → (St → Hp → Prop) → Prop
def PG (X : Cx) (target : Expr) (t : TG) : Prop :=
  ∀ (pins : List (Addr × Obj)) (s : Shared) (σ : St) (H : Hp) (v : V) (u : Value) (Q : St → Hp → Prop), Inv X pins σ H s → RelV v u → t v σ H Q →
    wpAny (model X.prog X.w) X.A (assign target X.env u) (fun _ s' => ∃ σ' H', Inv X pins σ' H' s' ∧ Q σ' H') X.xe s
/-- several targets, one after another -/
def PGs (X : Cx) (ts : List Expr) (t : TGs) : Prop :=
  ∀ (pins : List (Addr × Obj)) (s : Shared) (σ : St) (H : Hp) (vs : List V) (us : List Value) (Q : St → Hp → Prop), Inv X pins σ H s → Vals vs us → t vs σ H Q →
    wpAny (model X.prog X.w) X.A (assignInOrder ((assignEach ts X.env).map (·.2)) us) (fun _ s' => ∃ σ' H', Inv X pins σ' H' s' ∧ Q σ' H') X.xe s
/-- o[i] = v, by values -/
abbrev TSet := V → V → V → Hp → (Hp → Prop) → Prop
def PSet (X : Cx) (t : TSet) : Prop :=
  ∀ (pins : List (Addr × Obj)) (s : Shared) (σ : St) (H : Hp) (o i v : V) (ov iv u : Value) (Q : Hp → Prop), Inv X pins σ H s → RelV o ov → RelV i iv → RelV v u → t o i v H Q →
    wpAny (model X.prog X.w) X.A (setItem ov iv u) (fun _ s' => ∃ H', Inv X pins σ H' s' ∧ Q H') X.xe s
/-- a op= b, by values -/
abbrev TIp := V → V → Hp → VK → Prop
def PIp (X : Cx) (op : Operator) (t : TIp) : Prop :=
  ∀ (pins : List (Addr × Obj)) (s : Shared) (σ : St) (H : Hp) (x y : V) (v u : Value) (Q : VK), Inv X pins σ H s → RelV x v → RelV y u → t x y H Q →
    wpAny (model X.prog X.w) X.A (inplaceOp op v u) (EP X pins σ Q) X.xe s
section
variable {X : Cx} {pos : Pos}
def gName (i : Nat) : TG := fun v σ H Q => Q (σ.set i (some v)) H
theorem pg_name {i : Nat} {x : Str} (hN : X.N.Nodup) (hi : X.N[i]? = some x) (hx : Loc X.env.scope x) (hf : X.fn x = true ∨ X.env.scope.names.lookup x = some .local := by first | exact .inl rfl | exact .inr rfl | assumption) : PG X (.Name x pos) (gName i) := by
  intro pins s σ H v u Q I r h
  exact wpAny_assign_Name (store_ok I hN hi hx r (fun s' I' => ⟨_, H, I', h⟩) hf)
def gNil : TGs := fun vs σ H Q => vs = [] ∧ Q σ H
def gCons (t : TG) (u : TGs) : TGs := fun vs σ H Q => ∃ v r, vs = v :: r ∧ t v σ H fun σ' H' => u r σ' H' Q
theorem pgs_nil : PGs X [] gNil := by
  intro pins s σ H vs us Q I r h
  obtain ⟨e, h⟩ := h
  subst e
  cases r
  exact assignInOrder_nil ⟨σ, H, I, h⟩
theorem pgs_cons {e : Expr} {es : List Expr} {t : TG} {u : TGs} (h1 : PG X e t) (h2 : PGs X es u)
    (hs : (assignEach (e :: es) X.env).map (·.2) = assign e X.env :: (assignEach es X.env).map (·.2) := by rfl) : PGs X (e :: es) (gCons t u) := by
  intro pins s σ H vs us Q I r h
  obtain ⟨v, vr, e1, h⟩ := h
  subst e1
  cases r with
  | cons r rr =>
    rw [hs]
    refine assignInOrder_cons (thn (h1 pins s σ H _ _ _ I r h) fun _ s1 ⟨σ1, H1, I1, q1⟩ => ?_)
    exact h2 pins s1 σ1 H1 _ _ Q I1 rr q1
/-- (a, b, ..) = a tuple of that length -/
def gTup (K : PySem.W.Frag) (n : Nat) (t : TGs) : TG := fun v σ H Q => ∃ a xs, v = .ref a ∧ SqT K H a xs ∧ xs.length = n ∧ t xs σ H Q
theorem pg_tup {es : List Expr} {k : Nat} {t : TGs} {n : Nat} (hc : X.calm = true) (h : PGs X es t)
    (hn : (assignEach es X.env).length = n := by rfl) (hst : (assignEach es X.env).findIdx? (·.1) = none := by rfl) : PG X (.Tuple es k pos) (gTup X.K n t) := by
  intro pins s σ H v u Q I r hw
  obtain ⟨a, xs, e1, hq, hl, hw⟩ := hw
  subst e1
  cases r
  obtain ⟨its, rv, ht, hz⟩ := I.tuple hq
  refine assign_Tuple_tuple (I.ok.hd hc) ht (by simp [hn, ← hl, rv.length]) hst fun h' hx => ?_
  have I1 : Inv X pins σ H { s with heap := h' } := I.kept (t' := s.toks) fun b o e => hx b o (Nat.ne_of_lt (Heap.lt_size e)) e
  exact h pins _ σ H xs _ Q I1 (by simpa using rv) hw
/-- o[i] = .. -/
def gSub (to ti : TE) (t : TSet) : TG := fun v σ H Q => to σ H fun o H1 => ti σ H1 fun i H2 => t o i v H2 fun H3 => Q σ H3
theorem pg_sub {o i : Expr} {to ti : TE} {t : TSet} (ho : PE X o to) (hi : PE X i ti) (hs : PSet X t)
    (ha : ∀ v, assign (.Subscript o i pos) X.env v = (do
      let ov ← holding [v] (eval o X.env)
      let iv ← holding [v, ov] (eval i X.env)
      standAt pos
      holding [v, ov, iv] (setItem ov iv v)
      release [v, ov, iv] []) := by intro _; rfl) : PG X (.Subscript o i pos) (gSub to ti t) := by
  intro pins s σ H v u Q I r h
  rw [ha]
  refine wpAny_bind (wpAny_holding (thn (ho pins s σ H _ I h) fun ov s1 ⟨x, H1, I1, r1, q1⟩ => ?_))
  refine wpAny_bind (wpAny_holding (thn (hi pins s1 σ H1 _ I1 q1) fun iv s2 ⟨y, H2, I2, r2, q2⟩ => ?_))
  refine wpAny_bind (wpAny_standAt (wpAny_bind (wpAny_holding (thn (hs pins s2 σ H2 x y v ov iv u _ I2 r1 r2 r q2) fun _ s3 ⟨H3, I3, q3⟩ => ?_))))
  exact wpAny_release ⟨σ, H3, I3, q3⟩
/-- target = value -/
def tAsg (te : TE) (g : TG) : TS := fun D σ H => te σ H fun x H1 => g x σ H1 D.nx
theorem ps_asg {tg e : Expr} {te : TE} {g : TG} (he : PE X e te) (hg : PG X tg g) (hs : swapsWithSole [tg] e pos.line X.env = pure false := by rfl) (hw : swappedStores [tg] e X.env = pure none := by rfl)
    (h1 : (assignEach [tg] X.env).map (·.2) = [assign tg X.env] := by rfl) : PS X (.Assign [tg] e pos) (tAsg te g) := by
  intro pins s σ H D I h
  refine wpAny_Assign_stores (thn (he pins s σ H _ I h) fun v s1 ⟨x, H1, I1, r1, q1⟩ => ?_) hs hw
  rw [h1]
  exact thn (hg pins s1 σ H1 x v _ I1 r1 q1) fun _ s2 q => q
/-- name = value -/
theorem ps_set {i : Nat} {x : Str} {e : Expr} {te : TE} {pos' : Pos} (hN : X.N.Nodup) (hi : X.N[i]? = some x) (hx : Loc X.env.scope x) (he : PE X e te) (hs : swapsWith e (some (.Name x pos')) pos.line X.env = pure false := by rfl) (hf : X.fn x = true ∨ X.env.scope.names.lookup x = some .local := by first | exact .inl rfl | exact .inr rfl | assumption) :
    PS X (.Assign [.Name x pos'] e pos) (tAsg te (gName i)) := by
  intro pins s σ H D I h
  refine wpAny_Assign_Name (thn (he pins s σ H _ I h) fun v s1 ⟨y, H1, I1, r1, q1⟩ => ?_) hs
  exact store_ok I1 hN hi hx r1 (fun s2 I2 => ⟨_, H1, I2, q1⟩) hf
/-- a, b = x, y with plain local names: stored from the right; the pair itself is not tracked (the opening rows as in PyProof/Rows/TupAssign.lean:23) -/
def tPar (i j : Nat) (ta : TA) : TS := fun D σ H => ta σ H fun vs H1 => ∃ v w, vs = [v, w] ∧ D.nx ((σ.set i (some v)).set j (some w)) H1
theorem ps_par {i j : Nat} {x y : Str} {a b : Expr} {ta : TA} {px py pt : Pos} {kt k2 pt2} (hc : X.calm = true) (hN : X.N.Nodup) (hi : X.N[i]? = some x) (hj : X.N[j]? = some y) (hij : i ≠ j)
    (hx : X.env.scope.names.lookup x = some .local) (hy : X.env.scope.names.lookup y = some .local) (ha : PA X [a, b] ta)
    (hw : swappedStores [.Tuple [.Name x px, .Name y py] kt pt] (.Tuple [a, b] k2 pt2) X.env = pure (some [x, y]))
    (hs : swapsWithSole [.Tuple [.Name x px, .Name y py] kt pt] (.Tuple [a, b] k2 pt2) pos.line X.env = pure false := by rfl) :
    PS X (.Assign [.Tuple [.Name x px, .Name y py] kt pt] (.Tuple [a, b] k2 pt2) pos) (tPar i j ta) := by
  intro pins s σ H D I h
  rw [exec_Assign_arm]
  refine wpAny_bind (wpAny_standAt ?_)
  rw [hs]
  refine wpAny_bind (wpAny_pure ?_)
  rw [if_neg (by decide)]
  refine wpAny_bind (Tuple_ (thn (ha _ pins s σ H _ I h) fun us s1 ⟨vs, H1, I1, r1, q1⟩ => ?_))
  obtain ⟨v, w, e1, q1⟩ := q1
  subst e1
  obtain ⟨u1, u2, rfl, rv, rw'⟩ : ∃ u1 u2, us = [u1, u2] ∧ RelV v u1 ∧ RelV w u2 := by
    cases r1 with
    | cons p q =>
      cases q with
      | cons p' q' =>
        cases q'
        exact ⟨_, _, rfl, p, p'⟩
  refine wpAny_newObj_type ?_ (by show 2 ≤ sizeLine; decide)
  have I2 : Inv X pins σ H1 { s1 with heap := s1.heap.push { cls := .type "tuple", data := .seq [u1, u2].toArray } } := I1.kept (t' := s1.toks) fun b o e => Heap.get?_push_of_some _ e
  rw [hw]
  refine wpAny_bind (wpAny_pure ?_)
  show wpAny (model X.prog X.w) X.A (do rule "assign.swapped-stores"; let items ← unpackItems (.ref s1.heap.objs.size) 2 none; assignInOrder [fun v => bindName X.env y v, fun v => bindName X.env x v] items.reverse; pure Flow.next) _ _ _
  refine wpAny_bind (wpAny_rule (wpAny_bind (unpackItems_tuple (items := #[u1, u2]) (I.ok.hd hc) (IsTup.new s1.heap _) fun h' hx' => ?_)))
  have I3 := I2.kept (h' := h') (t' := s1.toks) fun b o e => hx' b o (Nat.ne_of_lt (Heap.lt_size e)) e
  show wpAny _ _ (assignInOrder [fun v => bindName X.env y v, fun v => bindName X.env x v] [u2, u1] >>= fun _ => pure Flow.next) _ _ _
  refine wpAny_bind (assignInOrder_cons (wpAny_bindName (store_ok I3 hN hj (.inl hy) rw' (fun s2 I4 => ?_) (.inr hy))))
  refine assignInOrder_cons (wpAny_bindName (store_ok I4 hN hi (.inl hx) rv (fun s3 I5 => assignInOrder_nil (wpAny_pure ?_)) (.inr hx)))
  rw [List.set_comm _ _ (Ne.symm hij)] at I5
  exact ⟨_, H1, I5, q1⟩
/-- name op= e -/
def tAug (i : Nat) (te : TE) (ti : TIp) : TS := fun D σ H => ∃ x, σ[i]? = some (some x) ∧ te σ H fun y H1 => ti x y H1 fun z H2 => D.nx (σ.set i (some z)) H2
theorem ps_aug {i : Nat} {x : Str} {e : Expr} {te : TE} {op : Operator} {ti : TIp} {pos' : Pos} (hN : X.N.Nodup) (hi : X.N[i]? = some x) (hx : Loc X.env.scope x) (he : PE X e te) (ho : PIp X op ti) (hf : X.fn x = true ∨ X.env.scope.names.lookup x = some .local := by first | exact .inl rfl | exact .inr rfl | assumption) :
    PS X (.AugAssign (.Name x pos') op e pos) (tAug i te ti) := by
  intro pins s σ H D I h
  obtain ⟨v, e1, h⟩ := h
  obtain ⟨m, hn, hl⟩ := I.loc
  have vis : Vis X.env.scope x := by rcases hx with k | k; exact .inl k; exact .inr (.inl k)
  obtain ⟨u, r, l⟩ := hl i x v hi e1 vis
  refine wpAny_AugAssign_Name ?_
  have go : wpAny (model X.prog X.w) X.A (eval e X.env) (fun w s₂ => wpAny (model X.prog X.w) X.A (inplaceOp op u w) (fun r s₃ => wpAny (model X.prog X.w) X.A (storeName X.env x r) (fun _ => SP X pins D .next) X.xe s₃) X.xe s₂) X.xe s := by
    refine thn (he pins s σ H _ I h) fun w s1 ⟨y, H1, I1, r1, q1⟩ => ?_
    refine thn (ho pins s1 σ H1 v y u w _ I1 r r1 q1) fun z s2 ⟨zv, H2, I2, r2, q2⟩ => ?_
    exact store_ok I2 hN hi hx r2 (fun s3 I3 => ⟨_, H2, I3, q2⟩) hf
  rcases l with ⟨hk, hm⟩ | ⟨hk, c, hc, hcell⟩
  · exact wpAny_loadName_local I.ok.kind hk hn hm go
  · rcases hk with hk | hk
    · exact wpAny_loadName_cell I.ok.kind hk hc hcell go
    · rcases hx with k | k
      · have : X.env.scope.names.lookup x = some .free := hk
        rw [k] at this; cases this
      · have : X.env.scope.names.lookup x = some .free := hk
        rw [k] at this; cases this
/-- o[i] op= e -/
def tAugS (to ti te : TE) (tget : V → V → Hp → VK → Prop) (tip : TIp) (tset : TSet) : TS := fun D σ H => to σ H fun o H1 => ti σ H1 fun i H2 => tget o i H2 fun x H3 => te σ H3 fun y H4 => tip x y H4 fun z H5 => tset o i z H5 fun H6 => D.nx σ H6
/-- o[i], by values -/
def PGet (X : Cx) (t : V → V → Hp → VK → Prop) : Prop :=
  ∀ (pins : List (Addr × Obj)) (s : Shared) (σ : St) (H : Hp) (o i : V) (ov iv : Value) (Q : VK), Inv X pins σ H s → RelV o ov → RelV i iv → t o i H Q →
    wpAny (model X.prog X.w) X.A (getItem ov iv) (EP X pins σ Q) X.xe s
theorem ps_augS {o i e : Expr} {to ti te : TE} {tget : V → V → Hp → VK → Prop} {tip : TIp} {tset : TSet} {op : Operator} {tpos : Pos} (ho : PE X o to) (hi : PE X i ti) (hg : PGet X tget) (he : PE X e te) (hp : PIp X op tip) (hs : PSet X tset)
    (ha : ∀ ov iv new, augStore i ov iv new = (do holding [new, ov, iv] (setItem ov iv new); release [new, ov, iv] []; pure .next) := by intros; rfl) : PS X (.AugAssign (.Subscript o i tpos) op e pos) (tAugS to ti te tget tip tset) := by
  intro pins s σ H D I h
  refine wpAny_AugAssign_SubscriptAny (thn (ho pins s σ H _ I h) fun ov s1 ⟨x1, H1, I1, r1, q1⟩ => ?_) ha
  refine thn (hi pins s1 σ H1 _ I1 q1) fun iv s2 ⟨x2, H2, I2, r2, q2⟩ => ?_
  refine thn (hg pins s2 σ H2 x1 x2 ov iv _ I2 r1 r2 q2) fun old s3 ⟨x3, H3, I3, r3, q3⟩ => ?_
  refine thn (he pins s3 σ H3 _ I3 q3) fun v s4 ⟨x4, H4, I4, r4, q4⟩ => ?_
  refine thn (hp pins s4 σ H4 x3 x4 old v _ I4 r3 r4 q4) fun new s5 ⟨x5, H5, I5, r5, q5⟩ => ?_
  exact thn (hs pins s5 σ H5 x1 x2 x5 ov iv new _ I5 r1 r2 r5 q5) fun _ s6 ⟨H6, I6, q6⟩ => ⟨σ, H6, I6, q6⟩
/-- ints -/
def ipI (f : Int → Int → Int) : TIp := fun x y H Q => ∃ i j, x = .int i ∧ y = .int j ∧ Q (.int (f i j)) H
theorem ip_add : PIp X .Add (ipI fun i j => i + j) := by
  intro pins s σ H x y v u Q I r1 r2 h
  obtain ⟨i, j, e1, e2, q⟩ := h
  subst e1; subst e2
  obtain ⟨t, rfl⟩ := r1
  obtain ⟨t', rfl⟩ := r2
  exact iadd_int ⟨.int _, H, I.tok _, ⟨_, rfl⟩, q⟩
theorem ip_sub : PIp X .Sub (ipI fun i j => i - j) := by
  intro pins s σ H x y v u Q I r1 r2 h
  obtain ⟨i, j, e1, e2, q⟩ := h
  subst e1; subst e2
  obtain ⟨t, rfl⟩ := r1
  obtain ⟨t', rfl⟩ := r2
  exact isub_int ⟨.int _, H, I.tok _, ⟨_, rfl⟩, q⟩
end

/-! ### while -/
section
variable {X : Cx} {pos : Pos}
/-- the invariant W with its measure -/
def tWhile (c : TT) (tb : TS) : TS := fun D σ H => ∃ W : Nat → St → Hp → Prop, (∃ m, W m σ H) ∧ ∀ m σ H, W m σ H →
  c σ H fun b H1 => if b = true then ∃ N : St → Hp → Prop, (∀ σ' H', N σ' H' → ∃ m', m' < m ∧ W m' σ' H') ∧ tb { D with nx := N, ct := N, bk := D.nx } σ H1 else D.nx σ H1
theorem ps_while {c : Expr} {body : List Stmt} {tc : TT} {tb : TS} (hp : PassesOwn (model X.prog X.w) X.A X.env X.xe) (hc : PT X c tc) (hb : PSs X body tb) : PS X (.While c body [] pos) (tWhile tc tb) := by
  intro pins s σ H D I h
  obtain ⟨W, ⟨m0, w0⟩, turn⟩ := h
  refine wpAny_While (codeAny_whileLoop (fun n s' => ∃ σ' H', Inv X pins σ' H' s' ∧ W n σ' H') ?_ m0 ⟨σ, H, I, w0⟩)
  rintro n s1 ⟨σ1, H1, I1, w1⟩
  refine wpAny_passesOwn hp (thn (hc pins s1 σ1 H1 _ I1 (turn n σ1 H1 w1)) fun b s2 ⟨H2, I2, q2⟩ => ?_)
  cases b with
  | true =>
    obtain ⟨N, hN, q2⟩ := q2
    rw [if_pos rfl]
    refine wpAny_passesOwn hp (thn (hb pins s2 σ1 H2 _ I2 q2) fun f s3 q3 => ?_)
    cases f with
    | next =>
      obtain ⟨σ3, H3, I3, n3⟩ := q3
      obtain ⟨m', hm, w3⟩ := hN σ3 H3 n3
      exact ⟨m', hm, σ3, H3, I3, w3⟩
    | cont =>
      obtain ⟨σ3, H3, I3, n3⟩ := q3
      obtain ⟨m', hm, w3⟩ := hN σ3 H3 n3
      exact ⟨m', hm, σ3, H3, I3, w3⟩
    | brk => exact q3
    | ret v => exact q3
  | false =>
    rw [if_neg Bool.false_ne_true]
    exact wpAny_execs_nil ⟨σ1, H2, I2, q2⟩
end

/-! ### what a loop or a comprehension walks -/
/-- at turn i: it yields x (the heap may grow), or it stops -/
structure It where
  go : Nat → Hp → Prop
  yld : Nat → Hp → V → Hp → Prop
  stop : Nat → Hp → Prop
/-- the iterator's own objects may turn: they are not the frame's, not pinned, younger than the entry (or a comprehension's own) -/
def FpOk (X : Cx) (pins : List (Addr × Obj)) (H : Hp) (b : Addr) : Prop :=
  H b = none ∧ b ≠ X.env.locals ∧ b ∉ X.fs ∧ (b ∈ X.ex ∨ X.s_0.heap.objs.size ≤ b) ∧ (∀ x c, X.env.cells.lookup x = some c → c ≠ b) ∧ ∀ p ∈ X.pn ++ pins, p.1 ≠ b
theorem Inv.fpOk {X : Cx} {pins : List (Addr × Obj)} {σ : St} {H H' : Hp} {s : Shared} {b : Addr} (I : Inv X pins σ H s) (hb : s.heap.objs.size ≤ b) (hn : H' b = none) : FpOk X pins H' b := by
  refine ⟨hn, Nat.ne_of_gt (Nat.lt_of_lt_of_le I.lt hb), I.nofs hb, .inr (Nat.le_trans I.sz hb), fun x c e z => ?_, fun p hp z => ?_⟩
  · obtain ⟨v, q⟩ := I.cell x c e
    exact absurd (Nat.lt_of_lt_of_le q.lt (by rw [z]; exact hb)) (Nat.lt_irrefl _)
  · exact absurd (Nat.lt_of_lt_of_le (Heap.lt_size (I.pin p hp).1) (by rw [z]; exact hb)) (Nat.lt_irrefl _)
structure Turn (P : Program) (w : World) (K : PySem.W.Frag) (tg : Expr) (J : It) (fp : List Addr) (it : Addr) (tn : Nat → Heap → Prop) : Prop where
  mem : it ∈ fp
  obj : ∀ i h, tn i h → ∀ b ∈ fp, ∃ o, h.get? b = some o ∧ ∀ v, o.data ≠ .cell v
  keep : ∀ i h h', tn i h → (∀ b ∈ fp, ∀ o, h.get? b = some o → h'.get? b = some o) → tn i h'
  item : ∀ (X : Cx), X.prog = P → X.w = w → X.K = K → X.calm = true → ∀ (i : Nat) (pins : List (Addr × Obj)) (s : Shared) (σ : St) (H : Hp) (E : Value → Shared → Prop), Inv X pins σ H s → (∀ b ∈ fp, FpOk X pins H b) → tn i s.heap → J.go i H →
    wpAny (model P w) X.A (pyNext (.ref it)) (fun r s1 => ∃ u, r = some u ∧
      wpAny (model P w) X.A (letOwnedTupleGo tg (.ref it) u) (fun _ s2 => ∃ x H', Inv X pins σ H' s2 ∧ RelV x u ∧ J.yld i H x H' ∧ tn (i + 1) s2.heap ∧ ∀ b ∈ fp, H' b = none) E s1) E s
  done : ∀ (X : Cx), X.prog = P → X.w = w → X.K = K → X.calm = true → ∀ (i : Nat) (pins : List (Addr × Obj)) (s : Shared) (σ : St) (H : Hp) (E : Value → Shared → Prop), Inv X pins σ H s → (∀ b ∈ fp, FpOk X pins H b) → tn i s.heap → J.stop i H →
    wpAny (model P w) X.A (pyNext (.ref it)) (fun r s1 => r = none ∧ Inv X pins σ H s1) E s
  self : ∀ (A : Around) (i : Nat) (s : Shared) (Q : Value → Shared → Prop) (E : Value → Shared → Prop), tn i s.heap → Q (.ref it) s → wpAny (model P w) A (pyIter (.ref it)) Q E s
abbrev TI := St → Hp → (It → Hp → Prop) → Prop
/-- an iterator has come -/
def PIE (X : Cx) (pins : List (Addr × Obj)) (σ : St) (tg : Expr) (R : It → Hp → Prop) (itv : Value) (s2 : Shared) : Prop :=
  ∃ (it : Addr) (fp : List Addr) (tn : Nat → Heap → Prop) (J : It) (H' : Hp), itv = .ref it ∧ Inv X pins σ H' s2 ∧ Turn X.prog X.w X.K tg J fp it tn ∧ tn 0 s2.heap ∧ (∀ b ∈ fp, FpOk X pins H' b) ∧ R J H'
def PI (X : Cx) (tg iter : Expr) (wi : TI) : Prop :=
  ∀ (pins : List (Addr × Obj)) (s : Shared) (σ : St) (H : Hp) (R : It → Hp → Prop), Inv X pins σ H s → wi σ H R →
    wpAny (model X.prog X.w) X.A (eval iter X.env) (fun v s1 => wpAny (model X.prog X.w) X.A (pyIter v) (PIE X pins σ tg R) X.xe s1) X.xe s

/-- the step ahead of the store is nothing for an iterator that keeps no tuple -/
theorem go_of {M : Model} {A : Around} {E : Value → Shared → Prop} {s : Shared} {tg : Expr} {it : Addr} {u : Value} {o : Obj} {n : String} {vs : Array Value} {Q : Unit → Shared → Prop} (ho : s.heap.get? it = some o) (hc : o.cls = .type n) (hd : o.data = .fields vs)
    (hn : ["enumerate", "zip", "dict_itemiterator", "dict_reverseitemiterator", "odict_iterator", "itertools.zip_longest", "itertools.pairwise"].contains n = false) (hQ : Q () s) : wpAny M A (letOwnedTupleGo tg (.ref it) u) Q E s := by
  unfold letOwnedTupleGo
  cases tg <;> first
    | exact wpAny_pure hQ
    | (cases u <;> first
        | exact wpAny_pure hQ
        | (refine wpAny_bind (wpAny_load ho ?_)
           rw [hc, hd]
           show wpAny M A (if (["enumerate", "zip", "dict_itemiterator", "dict_reverseitemiterator", "odict_iterator", "itertools.zip_longest", "itertools.pairwise"].contains n && vs[0]? == some (rawInt _)) = true then _ else _) Q E s
           rw [if_neg (by intro h; rw [hn, Bool.false_and] at h; cases h)]
           exact wpAny_pure hQ))

/-- the list at a, as it stands at each turn (a loop may append to it) -/
def Itl (K : PySem.W.Frag) (a : Addr) : It :=
  ⟨fun i H => ∃ xs x, SqL K H a xs ∧ xs[i]? = some x, fun i H x H' => H' = H ∧ ∀ xs, SqL K H a xs → xs[i]? = some x, fun i H => ∃ xs, SqL K H a xs ∧ xs.length ≤ i⟩
def Itt (K : PySem.W.Frag) (a : Addr) : It :=
  ⟨fun i H => ∃ xs x, SqT K H a xs ∧ xs[i]? = some x, fun i H x H' => H' = H ∧ ∀ xs, SqT K H a xs → xs[i]? = some x, fun i H => ∃ xs, SqT K H a xs ∧ xs.length ≤ i⟩
/-- lo, lo + 1, .. (n of them) -/
def Itr (lo : Int) (n : Nat) : It := ⟨fun i _ => i < n, fun i H x H' => H' = H ∧ x = .int (lo + i), fun i _ => n ≤ i⟩
theorem turn_list {P : Program} {w : World} {K : PySem.W.Frag} {tg : Expr} (a it : Addr) : Turn P w K tg (Itl K a) [it] it (fun i h => h.IsListIter it a i) where
  mem := by simp
  obj := fun i h st b hb => by
    have e : b = it := by simpa using hb
    subst e
    obtain ⟨o, e, c, d⟩ := st
    exact ⟨o, e, fun v z => by rw [d] at z; cases z⟩
  keep := fun i h h' st k => st.at fun o e => k it (by simp) o e
  item := by
    intro X hP hw hK hc i pins s σ H E I hf st hg
    subst hP hw hK
    obtain ⟨xs, x, hq, hx⟩ := hg
    obtain ⟨its, rv, p, hz⟩ := I.list hq
    obtain ⟨u, hu, ru⟩ := rv.get hx
    obtain ⟨f0, f1, f2, f3, f4, f5⟩ := hf it (by simp)
    refine wpAny_pyNext_list_item st p.isList (x := u) (by simpa using hu) fun h' st' sb => ?_
    have I1 : Inv X pins σ H { s with heap := h' } := I.turned (t' := s.toks) (fun b o hb e => (sb.2 b hb).trans e) f0 f1 f3 f4 f5
    obtain ⟨o, e, c, d⟩ := id st'
    exact ⟨u, rfl, go_of (s := { s with heap := h' }) e c d (by decide) ⟨x, H, I1, ru, ⟨rfl, fun ys hy => by rw [I.list_inj hy hq]; exact hx⟩, st', fun b hb => (hf b hb).1⟩⟩
  done := by
    intro X hP hw hK hc i pins s σ H E I hf st hg
    subst hP hw hK
    obtain ⟨xs, hq, hx⟩ := hg
    obtain ⟨its, rv, p, hz⟩ := I.list hq
    obtain ⟨f0, f1, f2, f3, f4, f5⟩ := hf it (by simp)
    have hl := rv.length
    exact wpAny_pyNext_list_end (I.ok.hd hc) st p.isList (by simp; omega) fun h' eb => ⟨rfl, I.turned (t' := s.toks) (fun b o hb e => eb b o hb e) f0 f1 f3 f4 f5⟩
  self := fun _ _ _ _ _ st h => wpAny_pyIter_listiter st h
theorem turn_tuple {P : Program} {w : World} {K : PySem.W.Frag} {tg : Expr} (a it : Addr) : Turn P w K tg (Itt K a) [it] it (fun i h => h.IsTupleIter it a i) where
  mem := by simp
  obj := fun i h st b hb => by
    have e : b = it := by simpa using hb
    subst e
    obtain ⟨o, e, c, d⟩ := st
    exact ⟨o, e, fun v z => by rw [d] at z; cases z⟩
  keep := fun i h h' st k => st.at fun o e => k it (by simp) o e
  item := by
    intro X hP hw hK hc i pins s σ H E I hf st hg
    subst hP hw hK
    obtain ⟨xs, x, hq, hx⟩ := hg
    obtain ⟨its, rv, p, hz⟩ := I.tuple hq
    obtain ⟨u, hu, ru⟩ := rv.get hx
    obtain ⟨f0, f1, f2, f3, f4, f5⟩ := hf it (by simp)
    refine wpAny_pyNext_tuple_item st (show s.heap.IsTuple a its.toArray from p) (x := u) (by simpa using hu) fun h' st' sb => ?_
    have I1 : Inv X pins σ H { s with heap := h' } := I.turned (t' := s.toks) (fun b o hb e => (sb.2 b hb).trans e) f0 f1 f3 f4 f5
    obtain ⟨o, e, c, d⟩ := id st'
    exact ⟨u, rfl, go_of (s := { s with heap := h' }) e c d (by decide) ⟨x, H, I1, ru, ⟨rfl, fun ys hy => by rw [I.tuple_inj hy hq]; exact hx⟩, st', fun b hb => (hf b hb).1⟩⟩
  done := by
    intro X hP hw hK hc i pins s σ H E I hf st hg
    subst hP hw hK
    obtain ⟨xs, hq, hx⟩ := hg
    obtain ⟨its, rv, p, hz⟩ := I.tuple hq
    obtain ⟨f0, f1, f2, f3, f4, f5⟩ := hf it (by simp)
    have hl := rv.length
    exact wpAny_pyNext_tuple_end (I.ok.hd hc) st (show s.heap.IsTuple a its.toArray from p) (by simp; omega) fun h' eb => ⟨rfl, I.turned (t' := s.toks) (fun b o hb e => eb b o hb e) f0 f1 f3 f4 f5⟩
  self := fun _ _ _ _ _ st h => wpAny_pyIter_tupleiter st h
theorem turn_range {P : Program} {w : World} {K : PySem.W.Frag} {tg : Expr} (it : Addr) (lo : Int) (n : Nat) : Turn P w K tg (Itr lo n) [it] it (fun i h => IsRangeIter h it (lo + (i : Nat) * 1) ((n : Int) - (i : Nat)) 1) where
  mem := by simp
  obj := fun i h st b hb => by
    have e : b = it := by simpa using hb
    subst e
    exact ⟨_, st, fun v z => by
      have z' : Data.fields _ = Data.cell v := z
      cases z'⟩
  keep := fun i h h' st k => k it (by simp) _ st
  item := by
    intro X hP hw hK hc i pins s σ H E I hf st hg
    subst hP hw hK
    obtain ⟨f0, f1, f2, f3, f4, f5⟩ := hf it (by simp)
    have W := Walks.range (prog := X.prog) (w := X.w) (I.ok.hd hc) it lo 1 n
    refine W.item i s _ _ hg st fun v h' tk hv st' kk => ?_
    obtain ⟨t, rfl⟩ := hv
    have I1 : Inv X pins σ H { s with heap := h', toks := tk } := I.turned (fun b o hb e => kk b o (by simpa using hb) e) f0 f1 f3 f4 f5
    refine ⟨_, rfl, go_of (s := { s with heap := h', toks := tk }) (n := "range_iterator") st' rfl rfl (by decide) ⟨.int (lo + i), H, I1, ⟨t, ?_⟩, ⟨rfl, rfl⟩, st', fun b hb => (hf b hb).1⟩⟩
    rw [Int.mul_one]
  done := by
    intro X hP hw hK hc i pins s σ H E I hf st hg
    subst hP hw hK
    obtain ⟨f0, f1, f2, f3, f4, f5⟩ := hf it (by simp)
    exact wpAny_pyNext_range_end (I.ok.hd hc) st (by have : n ≤ i := hg; omega) fun h' eb => ⟨rfl, I.turned (t' := s.toks) (fun b o hb e => eb b o hb e) f0 f1 f3 f4 f5⟩
  self := fun _ _ _ _ _ st h => wpAny_pyIter_rangeiter st h
end L2

namespace L2
open PySem PySem.Spec PyProof.Rows
section
variable {X : Cx} {tg : Expr}
def iList (K : PySem.W.Frag) (tl : TE) : TI := fun σ H R => tl σ H fun x H1 => ∃ a, x = .ref a ∧ (∃ xs, SqL K H1 a xs) ∧ R (Itl K a) H1
def iTup (K : PySem.W.Frag) (tl : TE) : TI := fun σ H R => tl σ H fun x H1 => ∃ a, x = .ref a ∧ (∃ xs, SqT K H1 a xs) ∧ R (Itt K a) H1
theorem pi_list {l : Expr} {tl : TE} (hl : PE X l tl) : PI X tg l (iList X.K tl) := by
  intro pins s σ H R I h
  refine thn (hl pins s σ H _ I h) fun v s1 ⟨x, H1, I1, r1, q1⟩ => ?_
  obtain ⟨a, e, ⟨xs, hq⟩, q⟩ := q1
  subst e
  cases r1
  obtain ⟨its, rv, p, hz⟩ := I1.list hq
  refine wpAny_pyIter_list p.isList ?_
  refine ⟨s1.heap.objs.size, [s1.heap.objs.size], _, _, H1, rfl, I1.kept (t' := s1.toks) fun b o e => Heap.get?_push_of_some _ e, turn_list a _, ⟨_, Heap.get?_push_size _ rfl, rfl, rfl⟩, fun b hb => ?_, q⟩
  have e : b = s1.heap.objs.size := by simpa using hb
  subst e
  exact I1.fpOk (Nat.le_refl _) (I1.hok.fresh (Nat.le_refl _))
theorem pi_tup {l : Expr} {tl : TE} (hl : PE X l tl) : PI X tg l (iTup X.K tl) := by
  intro pins s σ H R I h
  refine thn (hl pins s σ H _ I h) fun v s1 ⟨x, H1, I1, r1, q1⟩ => ?_
  obtain ⟨a, e, ⟨xs, hq⟩, q⟩ := q1
  subst e
  cases r1
  obtain ⟨its, rv, p, hz⟩ := I1.tuple hq
  refine wpAny_pyIter_tuple (show s1.heap.IsTuple a its.toArray from p) ?_
  refine ⟨s1.heap.objs.size, [s1.heap.objs.size], _, _, H1, rfl, I1.kept (t' := s1.toks) fun b o e => Heap.get?_push_of_some _ e, turn_tuple a _, ⟨_, Heap.get?_push_size _ rfl, rfl, rfl⟩, fun b hb => ?_, q⟩
  have e : b = s1.heap.objs.size := by simpa using hb
  subst e
  exact I1.fpOk (Nat.le_refl _) (I1.hok.fresh (Nat.le_refl _))
/-- a range object just made, walked -/
theorem range_it {pins : List (Addr × Obj)} {σ : St} {H : Hp} {s : Shared} {R : It → Hp → Prop} {E : Value → Shared → Prop} {lo hi : Int} {t u v : Tok} {tk : Nat} (I : Inv X pins σ H s) (h1 : -(2 ^ 62) ≤ lo) (h2 : lo < 2 ^ 62) (h3 : -(2 ^ 62) ≤ hi) (h4 : hi < 2 ^ 62)
    (q : R (Itr lo (hi - lo).toNat) H) : wpAny (model X.prog X.w) X.A (pyIter (.ref s.heap.objs.size)) (PIE X pins σ tg R) E { s with heap := s.heap.push { cls := .type "range", data := .fields #[.int lo t, .int hi u, .int 1 v] }, toks := tk } := by
  refine wpAny_pyIter_range (IsRange.new ..) (small_one h1 h2 h3 h4) ?_
  have I1 : Inv X pins σ H { s with heap := s.heap.push { cls := .type "range", data := .fields #[.int lo t, .int hi u, .int 1 v] }, toks := tk } := I.kept fun b o e => Heap.get?_push_of_some _ e
  refine ⟨(s.heap.push { cls := .type "range", data := .fields #[.int lo t, .int hi u, .int 1 v] }).objs.size, [(s.heap.push { cls := .type "range", data := .fields #[.int lo t, .int hi u, .int 1 v] }).objs.size], _, _, H, rfl,
    I1.kept (t' := tk) fun b o e => Heap.get?_push_of_some _ e, turn_range _ lo (hi - lo).toNat, ?_, fun b hb => ?_, q⟩
  · have e1 : lo + ((0 : Nat) : Int) * 1 = lo := by simp
    have e2 : (((hi - lo).toNat : Nat) : Int) - ((0 : Nat) : Int) = Builtin.Range.rangeSize lo hi 1 := by rw [rangeSize_one]; split <;> omega
    show IsRangeIter _ _ (lo + ((0 : Nat) : Int) * 1) ((((hi - lo).toNat : Nat) : Int) - ((0 : Nat) : Int)) 1
    rw [e1, e2]
    exact Heap.get?_push_size _ rfl
  · have e : b = (s.heap.push { cls := .type "range", data := .fields #[.int lo t, .int hi u, .int 1 v] }).objs.size := by simpa using hb
    subst e
    exact I1.fpOk (Nat.le_refl _) (I1.hok.fresh (Nat.le_refl _))
def iRng1 (ta : TA) : TI := fun σ H R => ta σ H fun vs H1 => ∃ j : Int, vs = [.int j] ∧ -(2 ^ 62) ≤ j ∧ j < 2 ^ 62 ∧ R (Itr 0 j.toNat) H1
def iRng2 (ta : TA) : TI := fun σ H R => ta σ H fun vs H1 => ∃ i j : Int, vs = [.int i, .int j] ∧ (-(2 ^ 62) ≤ i ∧ i < 2 ^ 62 ∧ -(2 ^ 62) ≤ j ∧ j < 2 ^ 62) ∧ R (Itr i (j - i).toNat) H1
theorem pi_range1 {a : Expr} {ta : TA} {p pos : Pos} (hg : Gl X "range") (hm : X.mg "range" = none) (ha : PA X [a] ta) (hs : starEach [a] X.env = [(false, eval a X.env)] := by rfl) : PI X tg (.Call (.Name "range" p) [a] [] pos) (iRng1 ta) := by
  intro pins s σ H R I h
  refine Call_ (ld_blt I hg hm boot_range (PyProof.Rows.callWith_type1 (thn (ha pos pins s σ H _ I h) fun us s1 ⟨vs, H1, I1, r1, q1⟩ => ?_) hs rfl))
  obtain ⟨j, e, q1, q2, q⟩ := q1
  subst e
  cases r1 with
  | cons r rr =>
    cases rr
    obtain ⟨t, rfl⟩ := r
    exact call_range_1 (range_it I1 (by omega) (by omega) q1 q2 (by simpa using q))
theorem pi_range2 {a b : Expr} {ta : TA} {p pos : Pos} (hg : Gl X "range") (hm : X.mg "range" = none) (ha : PA X [a, b] ta) (hs : starEach [a, b] X.env = [(false, eval a X.env), (false, eval b X.env)] := by rfl) (hs2 : starEach [b] X.env = [(false, eval b X.env)] := by rfl) :
    PI X tg (.Call (.Name "range" p) [a, b] [] pos) (iRng2 ta) := by
  intro pins s σ H R I h
  refine Call_ (ld_blt I hg hm boot_range (PyProof.Rows.callWith_type1 (thn (ha pos pins s σ H _ I h) fun us s1 ⟨vs, H1, I1, r1, q1⟩ => ?_) (by rw [hs, hs2]) (by rw [hs2]; rfl)))
  obtain ⟨i, j, e, ⟨q1, q2, q3, q4⟩, q⟩ := q1
  subst e
  cases r1 with
  | cons r rr =>
    cases rr with
    | cons r' rr =>
      cases rr
      obtain ⟨t, rfl⟩ := r
      obtain ⟨t', rfl⟩ := r'
      exact call_range_2 (range_it I1 q1 q2 q3 q4 q)

/-! ### for -/
/-- W: the invariant by the turn and a measure; N: what the body is to reach -/
def tFor (wi : TI) (g : TG) (tb : TS) : TS := fun D σ H => wi σ H fun J H1 => ∃ W : Nat → Nat → St → Hp → Prop, (∃ m, W 0 m σ H1) ∧ ∀ i m σ H, W i m σ H →
  (J.stop i H ∧ D.nx σ H) ∨ (J.go i H ∧ ∃ N : St → Hp → Prop, (∀ σ' H', N σ' H' → ∃ m', m' < m ∧ W (i + 1) m' σ' H') ∧ ∀ x H', J.yld i H x H' → g x σ H' fun σ2 H2 => tb { D with nx := N, ct := N, bk := D.nx } σ2 H2)
/-- the records at fp as they stand -/
def pinsAt (fp : List Addr) (h : Heap) : List (Addr × Obj) := fp.filterMap fun b => (h.get? b).map fun o => (b, o)
theorem mem_pinsAt {fp : List Addr} {h : Heap} {b : Addr} {o : Obj} (hb : b ∈ fp) (e : h.get? b = some o) : (b, o) ∈ pinsAt fp h := List.mem_filterMap.mpr ⟨b, hb, by rw [e]; rfl⟩
theorem of_pinsAt {fp : List Addr} {h : Heap} {p : Addr × Obj} (hp : p ∈ pinsAt fp h) : p.1 ∈ fp ∧ h.get? p.1 = some p.2 := by
  obtain ⟨b, hb, e⟩ := List.mem_filterMap.mp hp
  cases q : h.get? b with
  | none => rw [q] at e; cases e
  | some o =>
    rw [q] at e
    have e' : (b, o) = p := Option.some.inj e
    subst e'
    exact ⟨hb, q⟩
theorem Inv.pinned {pins : List (Addr × Obj)} {σ : St} {H : Hp} {s : Shared} {fp : List Addr} (I : Inv X pins σ H s) (hf : ∀ b ∈ fp, FpOk X pins H b) (ho : ∀ b ∈ fp, ∃ o, s.heap.get? b = some o ∧ ∀ v, o.data ≠ .cell v) : Inv X (pins ++ pinsAt fp s.heap) σ H s :=
  I.pins_of fun p hp => (List.mem_append.mp hp).elim (fun z => I.pin p (List.mem_append_right _ z)) fun z => by
    obtain ⟨hb, e⟩ := of_pinsAt z
    obtain ⟨f0, f1, f2, _⟩ := hf p.1 hb
    obtain ⟨o, e', d⟩ := ho p.1 hb
    rw [e] at e'; cases e'
    exact ⟨e, f0, f1, f2, d⟩
theorem Inv.unpinned {pins pl : List (Addr × Obj)} {σ : St} {H : Hp} {s : Shared} (I : Inv X (pins ++ pl) σ H s) : Inv X pins σ H s := I.pins_of fun p hp => I.pin p (List.mem_append_right _ (List.mem_append_left _ hp))
theorem ps_for {iter : Expr} {body : List Stmt} {wi : TI} {g : TG} {tb : TS} {pos : Pos} (hp : PassesOwn (model X.prog X.w) X.A X.env X.xe) (hc : X.calm = true) (hi : PI X tg iter wi) (hg : PG X tg g) (hb : PSs X body tb)
    (hs : ∀ x, foldedSetIterable iter X.env x = pure x := by intro _; rfl) : PS X (.For tg iter body [] pos) (tFor wi g tb) := by
  intro pins s σ H D I h
  refine wpAny_For (thn (hi pins s σ H _ I h) fun v s1 h1 => thn h1 fun itv s2 h2 => ?_) hs
  obtain ⟨it, fp, tn, J, H2, e, I2, T, st2, f2, W, ⟨m0, w0⟩, turn⟩ := h2
  subst e
  -- what stays true of the iterator's objects through the loop
  have stat : ∀ {H' : Hp}, (∀ b ∈ fp, H' b = none) → ∀ b ∈ fp, FpOk X pins H' b := fun hn b hb => ⟨hn b hb, (f2 b hb).2⟩
  refine codeAny_forLoop_any (fun n s' => ∃ i σ' H', Inv X pins σ' H' s' ∧ tn i s'.heap ∧ (∀ b ∈ fp, H' b = none) ∧ W i n σ' H') ?_ m0 ⟨0, σ, H2, I2, st2, fun b hb => (f2 b hb).1, w0⟩
  rintro n s3 ⟨i, σ3, H3, I3, st3, fr3, w3⟩
  rcases turn i n σ3 H3 w3 with ⟨stop, qn⟩ | ⟨go, N, hN, step⟩
  · refine wpAny_passesOwn hp (thn (T.done X rfl rfl rfl hc i pins s3 σ3 H3 X.xe I3 (stat fr3) st3 stop) fun r s4 ⟨hr, I4⟩ => ?_)
    subst hr
    exact wpAny_execs_nil ⟨σ3, H3, I4, qn⟩
  · refine wpAny_passesOwn hp (thn (T.item X rfl rfl rfl hc i pins s3 σ3 H3 X.xe I3 (stat fr3) st3 go) fun r s4 ⟨u, hr, h4⟩ => ?_)
    subst hr
    refine wpAny_passesOwn hp (thn h4 fun _ s5 ⟨x, H5, I5, r5, y5, st5, fr5⟩ => ?_)
    have I5' := I5.pinned (stat fr5) (T.obj _ _ st5)
    refine wpAny_passesOwn hp (thn (hg _ s5 σ3 H5 x u _ I5' r5 (step x H5 y5)) fun _ s6 ⟨σ6, H6, I6, q6⟩ => ?_)
    refine wpAny_passesOwn hp (thn (hb _ s6 σ6 H6 _ I6 q6) fun f s7 q7 => ?_)
    have again : ∀ {σ7 : St} {H7 : Hp}, Inv X (pins ++ pinsAt fp s5.heap) σ7 H7 s7 → N σ7 H7 → ∃ m, m < n ∧ ∃ i σ' H', Inv X pins σ' H' s7 ∧ tn i s7.heap ∧ (∀ b ∈ fp, H' b = none) ∧ W i m σ' H' := fun {σ7 H7} I7 n7 => by
      obtain ⟨m', hm, w7⟩ := hN σ7 H7 n7
      refine ⟨m', hm, i + 1, σ7, H7, I7.unpinned, T.keep _ _ _ st5 fun b hb o e => (I7.pin (b, o) (List.mem_append_right _ (List.mem_append_right _ (mem_pinsAt hb e)))).1, fun b hb => ?_, w7⟩
      obtain ⟨o, e, d⟩ := T.obj _ _ st5 b hb
      exact (I7.pin (b, o) (List.mem_append_right _ (List.mem_append_right _ (mem_pinsAt hb e)))).2.1
    cases f with
    | next => obtain ⟨σ7, H7, I7, n7⟩ := q7; exact again I7 n7
    | cont => obtain ⟨σ7, H7, I7, n7⟩ := q7; exact again I7 n7
    | brk => obtain ⟨σ7, H7, I7, q7⟩ := q7; exact ⟨σ7, H7, I7.unpinned, q7⟩
    | ret v => obtain ⟨x7, σ7, H7, I7, r7, q7⟩ := q7; exact ⟨x7, σ7, H7, I7.unpinned, r7, q7⟩
end

/-! ### the forms one uses -/
/-- over a list that the body leaves as it is -/
theorem for_list {K : PySem.W.Frag} {a : Addr} {xs : List V} {g : TG} {tb : TS} {D : Ends} {σ : St} {H : Hp} (Pv : Nat → St → Hp → Prop) (h0 : Pv 0 σ H) (hl : ∀ i σ H, i ≤ xs.length → Pv i σ H → SqL K H a xs)
    (hs : ∀ i x σ H, xs[i]? = some x → Pv i σ H → g x σ H fun σ2 H2 => tb { D with nx := Pv (i + 1), ct := Pv (i + 1), bk := D.nx } σ2 H2) (hd : ∀ σ H, Pv xs.length σ H → D.nx σ H) :
    ∃ W : Nat → Nat → St → Hp → Prop, (∃ m, W 0 m σ H) ∧ ∀ i m σ H, W i m σ H →
      ((Itl K a).stop i H ∧ D.nx σ H) ∨ ((Itl K a).go i H ∧ ∃ N : St → Hp → Prop, (∀ σ' H', N σ' H' → ∃ m', m' < m ∧ W (i + 1) m' σ' H') ∧ ∀ x H', (Itl K a).yld i H x H' → g x σ H' fun σ2 H2 => tb { D with nx := N, ct := N, bk := D.nx } σ2 H2) := by
  refine ⟨fun i m σ H => m = xs.length - i ∧ i ≤ xs.length ∧ Pv i σ H, ⟨xs.length, by simp, Nat.zero_le _, h0⟩, ?_⟩
  rintro i m σ H ⟨rfl, hi, p⟩
  have q := hl i σ H hi p
  by_cases hlt : i < xs.length
  · refine .inr ⟨⟨xs, xs[i], q, by simp [hlt]⟩, Pv (i + 1), fun σ' H' p' => ⟨xs.length - (i + 1), by omega, rfl, hlt, p'⟩, fun x H' y => ?_⟩
    obtain ⟨e, y⟩ := y
    subst e
    exact hs i x σ _ (y xs q) p
  · have e : i = xs.length := by omega
    subst e
    exact .inl ⟨⟨xs, q, Nat.le_refl _⟩, hd σ H p⟩
theorem for_tup {K : PySem.W.Frag} {a : Addr} {xs : List V} {g : TG} {tb : TS} {D : Ends} {σ : St} {H : Hp} (Pv : Nat → St → Hp → Prop) (h0 : Pv 0 σ H) (hl : ∀ i σ H, i ≤ xs.length → Pv i σ H → SqT K H a xs)
    (hs : ∀ i x σ H, xs[i]? = some x → Pv i σ H → g x σ H fun σ2 H2 => tb { D with nx := Pv (i + 1), ct := Pv (i + 1), bk := D.nx } σ2 H2) (hd : ∀ σ H, Pv xs.length σ H → D.nx σ H) :
    ∃ W : Nat → Nat → St → Hp → Prop, (∃ m, W 0 m σ H) ∧ ∀ i m σ H, W i m σ H →
      ((Itt K a).stop i H ∧ D.nx σ H) ∨ ((Itt K a).go i H ∧ ∃ N : St → Hp → Prop, (∀ σ' H', N σ' H' → ∃ m', m' < m ∧ W (i + 1) m' σ' H') ∧ ∀ x H', (Itt K a).yld i H x H' → g x σ H' fun σ2 H2 => tb { D with nx := N, ct := N, bk := D.nx } σ2 H2) := by
  refine ⟨fun i m σ H => m = xs.length - i ∧ i ≤ xs.length ∧ Pv i σ H, ⟨xs.length, by simp, Nat.zero_le _, h0⟩, ?_⟩
  rintro i m σ H ⟨rfl, hi, p⟩
  have q := hl i σ H hi p
  by_cases hlt : i < xs.length
  · refine .inr ⟨⟨xs, xs[i], q, by simp [hlt]⟩, Pv (i + 1), fun σ' H' p' => ⟨xs.length - (i + 1), by omega, rfl, hlt, p'⟩, fun x H' y => ?_⟩
    obtain ⟨e, y⟩ := y
    subst e
    exact hs i x σ _ (y xs q) p
  · have e : i = xs.length := by omega
    subst e
    exact .inl ⟨⟨xs, q, Nat.le_refl _⟩, hd σ H p⟩
theorem for_range {lo : Int} {n : Nat} {g : TG} {tb : TS} {D : Ends} {σ : St} {H : Hp} (Pv : Nat → St → Hp → Prop) (h0 : Pv 0 σ H)
    (hs : ∀ i σ H, i < n → Pv i σ H → g (.int (lo + i)) σ H fun σ2 H2 => tb { D with nx := Pv (i + 1), ct := Pv (i + 1), bk := D.nx } σ2 H2) (hd : ∀ σ H, Pv n σ H → D.nx σ H) :
    ∃ W : Nat → Nat → St → Hp → Prop, (∃ m, W 0 m σ H) ∧ ∀ i m σ H, W i m σ H →
      ((Itr lo n).stop i H ∧ D.nx σ H) ∨ ((Itr lo n).go i H ∧ ∃ N : St → Hp → Prop, (∀ σ' H', N σ' H' → ∃ m', m' < m ∧ W (i + 1) m' σ' H') ∧ ∀ x H', (Itr lo n).yld i H x H' → g x σ H' fun σ2 H2 => tb { D with nx := N, ct := N, bk := D.nx } σ2 H2) := by
  refine ⟨fun i m σ H => m = n - i ∧ i ≤ n ∧ Pv i σ H, ⟨n, by simp, Nat.zero_le _, h0⟩, ?_⟩
  rintro i m σ H ⟨rfl, hi, p⟩
  by_cases hlt : i < n
  · refine .inr ⟨hlt, Pv (i + 1), fun σ' H' p' => ⟨n - (i + 1), by omega, rfl, hlt, p'⟩, fun x H' y => ?_⟩
    obtain ⟨e, y⟩ := y
    subst e y
    exact hs i σ _ hlt p
  · have e : i = n := by omega
    subst e
    exact .inl ⟨Nat.le_refl _, hd σ H p⟩
/-- while, by a word and a measure of the state -/
theorem while_by {c : TT} {tb : TS} {D : Ends} {σ : St} {H : Hp} (Pv : St → Hp → Prop) (μ : St → Hp → Nat) (h0 : Pv σ H)
    (hs : ∀ σ H, Pv σ H → c σ H fun b H1 => if b = true then tb { D with nx := fun σ' H' => Pv σ' H' ∧ μ σ' H' < μ σ H, ct := fun σ' H' => Pv σ' H' ∧ μ σ' H' < μ σ H, bk := D.nx } σ H1 else D.nx σ H1)
    (mono : ∀ σ H Q Q', (∀ b H1, Q b H1 → Q' b H1) → c σ H Q → c σ H Q') : tWhile c tb D σ H := by
  refine ⟨fun m σ H => m = μ σ H ∧ Pv σ H, ⟨_, rfl, h0⟩, ?_⟩
  rintro m σ H ⟨rfl, p⟩
  refine mono σ H _ _ (fun b H1 q => ?_) (hs σ H p)
  cases b with
  | true => exact ⟨_, fun σ' H' ⟨p', l⟩ => ⟨_, l, rfl, p'⟩, q⟩
  | false => exact q
end L2

namespace L2
open PySem PySem.Spec PyProof.Rows

abbrev R2 := V → V → Hp → VK → Prop
/-- a two-place operation on values: f is binaryOp op, inplaceOp op or compareOp op -/
def OpR (X : Cx) (f : Value → Value → Sem Value) (r : R2) : Prop :=
  ∀ (pins : List (Addr × Obj)) (s : Shared) (σ : St) (H : Hp) (x y : V) (v u : Value) (Q : VK), Inv X pins σ H s → RelV x v → RelV y u → r x y H Q →
    wpAny (model X.prog X.w) X.A (f v u) (EP X pins σ Q) X.xe s
/-- a one-place operation -/
def UnR (X : Cx) (f : Value → Sem Value) (r : V → Hp → VK → Prop) : Prop :=
  ∀ (pins : List (Addr × Obj)) (s : Shared) (σ : St) (H : Hp) (x : V) (v : Value) (Q : VK), Inv X pins σ H s → RelV x v → r x H Q →
    wpAny (model X.prog X.w) X.A (f v) (EP X pins σ Q) X.xe s
/-- a call of a value that is known (a builtin, a type) with values -/
def CallR (X : Cx) (f : Value) (r : List V → Hp → VK → Prop) : Prop :=
  ∀ (pins : List (Addr × Obj)) (s : Shared) (σ : St) (H : Hp) (xs : List V) (us : List Value) (Q : VK), Inv X pins σ H s → Vals xs us → r xs H Q →
    wpAny (model X.prog X.w) X.A (call f us) (EP X pins σ Q) X.xe s
/-- a value's truth -/
def TruR (X : Cx) (r : V → Hp → (Bool → Hp → Prop) → Prop) : Prop :=
  ∀ (pins : List (Addr × Obj)) (s : Shared) (σ : St) (H : Hp) (x : V) (v : Value) (Q : Bool → Hp → Prop), Inv X pins σ H s → RelV x v → r x H Q →
    wpAny (model X.prog X.w) X.A (truthy v) (TP X pins σ Q) X.xe s

def tOp (r : R2) (ta tb : TE) : TE := fun σ H Q => ta σ H fun x H1 => tb σ H1 fun y H2 => r x y H2 Q
def tUn (r : V → Hp → VK → Prop) (ta : TE) : TE := fun σ H Q => ta σ H fun x H1 => r x H1 Q
/-- ints in, under C, and a value out -/
def rI (C : Int → Int → Prop) (g : Int → Int → V) : R2 := fun x y H Q => ∃ i j, x = .int i ∧ y = .int j ∧ C i j ∧ Q (g i j) H
def rI0 (g : Int → Int → V) : R2 := fun x y H Q => ∃ i j, x = .int i ∧ y = .int j ∧ Q (g i j) H
def rU (g : Int → V) : V → Hp → VK → Prop := fun x H Q => ∃ i, x = .int i ∧ Q (g i) H

section
variable {X : Cx} {a b c : Expr} {ta tb tc : TE} {pos : Pos}

theorem binT (ha : PE X a ta) (hb : PE X b tb) {pins : List (Addr × Obj)} {s : Shared} {σ : St} {H : Hp} {R : V → V → Hp → Prop} (I : Inv X pins σ H s)
    (h : ta σ H fun x H1 => tb σ H1 fun y H2 => R x y H2) {Q : Value → Shared → Prop} {f : Value → Value → Sem Value}
    (hf : ∀ v u s2 x y H2, Inv X pins σ H2 s2 → RelV x v → RelV y u → R x y H2 → wpAny (model X.prog X.w) X.A (f v u) Q X.xe s2) :
    wpAny (model X.prog X.w) X.A (eval a X.env) (fun v s₁ => wpAny (model X.prog X.w) X.A (eval b X.env) (fun u s₂ => wpAny (model X.prog X.w) X.A (f v u) Q X.xe s₂) X.xe s₁) X.xe s := by
  refine thn (ha pins s σ H _ I h) fun v s1 ⟨x, H1, I1, r1, q1⟩ => ?_
  refine thn (hb pins s1 σ H1 _ I1 q1) fun u s2 ⟨y, H2, I2, r2, q2⟩ => ?_
  exact hf v u s2 x y H2 I2 r1 r2 q2

theorem pe_op {op : Operator} {r : R2} (ho : OpR X (binaryOp op) r) (ha : PE X a ta) (hb : PE X b tb) : PE X (.BinOp a op b pos) (tOp r ta tb) := by
  intro pins s σ H Q I h
  exact wpAny_BinOp (binT ha hb I h fun v u s2 x y H2 I2 rx ry q => ho pins s2 σ H2 x y v u Q I2 rx ry q)
theorem pe_un {op : UnaryOp} {r : V → Hp → VK → Prop} (ho : UnR X (unaryOp op) r) (ha : PE X a ta) : PE X (.UnaryOp op a pos) (tUn r ta) := by
  intro pins s σ H Q I h
  exact UnaryOp_ (thn (ha pins s σ H _ I h) fun v s1 ⟨x, H1, I1, r1, q1⟩ => ho pins s1 σ H1 x v Q I1 r1 q1)
/-- a op= e at a name: the name's slot i -/
theorem augR {op : Operator} {r : R2} (ho : OpR X (inplaceOp op) r) {pins : List (Addr × Obj)} {s : Shared} {σ : St} {H : Hp} {x y : V} {v u : Value} {Q : VK} (I : Inv X pins σ H s)
    (rx : RelV x v) (ry : RelV y u) (q : r x y H Q) : wpAny (model X.prog X.w) X.A (inplaceOp op v u) (EP X pins σ Q) X.xe s := ho pins s σ H x y v u Q I rx ry q

/-! ### ints -/
theorem opI {f : Value → Value → Sem Value} {C : Int → Int → Prop} {g : Int → Int → Int}
    (rule : ∀ (i j : Int) (t u : Tok) (s : Shared) (Q : Value → Shared → Prop) (E : Value → Shared → Prop), C i j → Q (.int (g i j) s.toks) { s with toks := s.toks + 1 } → wpAny (model X.prog X.w) X.A (f (.int i t) (.int j u)) Q E s) :
    OpR X f (rI C fun i j => .int (g i j)) := by
  intro pins s σ H x y v u Q I rx ry h
  obtain ⟨i, j, rfl, rfl, hc, q⟩ := h
  obtain ⟨t, rfl⟩ := rx
  obtain ⟨t', rfl⟩ := ry
  exact rule i j t t' s _ _ hc ⟨.int (g i j), H, I.tok _, ⟨_, rfl⟩, q⟩
theorem opI0 {f : Value → Value → Sem Value} {g : Int → Int → Int}
    (rule : ∀ (i j : Int) (t u : Tok) (s : Shared) (Q : Value → Shared → Prop) (E : Value → Shared → Prop), Q (.int (g i j) s.toks) { s with toks := s.toks + 1 } → wpAny (model X.prog X.w) X.A (f (.int i t) (.int j u)) Q E s) :
    OpR X f (rI0 fun i j => .int (g i j)) := by
  intro pins s σ H x y v u Q I rx ry h
  obtain ⟨i, j, rfl, rfl, q⟩ := h
  obtain ⟨t, rfl⟩ := rx
  obtain ⟨t', rfl⟩ := ry
  exact rule i j t t' s _ _ ⟨.int (g i j), H, I.tok _, ⟨_, rfl⟩, q⟩
theorem opB0 {f : Value → Value → Sem Value} {g : Int → Int → Bool}
    (rule : ∀ (i j : Int) (t u : Tok) (s : Shared) (Q : Value → Shared → Prop) (E : Value → Shared → Prop), Q (.bool (g i j)) s → wpAny (model X.prog X.w) X.A (f (.int i t) (.int j u)) Q E s) :
    OpR X f (rI0 fun i j => .bl (g i j)) := by
  intro pins s σ H x y v u Q I rx ry h
  obtain ⟨i, j, rfl, rfl, q⟩ := h
  obtain ⟨t, rfl⟩ := rx
  obtain ⟨t', rfl⟩ := ry
  exact rule i j t t' s _ _ ⟨.bl (g i j), H, I, rfl, q⟩

def CDiv (i j : Int) : Prop := 0 < j ∧ j < 1073741824
def CDivN (i j : Int) : Prop := j ≠ 0 ∧ j.natAbs < 1073741824
def CPow (i j : Int) : Prop := 0 ≤ j ∧ j ≤ 1000000 ∧ i.natAbs < 2 ^ 64
def CMul (i j : Int) : Prop := (-(2 ^ 64) < i ∧ i < 2 ^ 64) ∨ (-(2 ^ 64) < j ∧ j < 2 ^ 64)
theorem CMul.ok {i j : Int} (h : CMul i j) : IntMulOk i j := by
  rcases h with ⟨h1, h2⟩ | ⟨h1, h2⟩
  · exact .of_left (intBits_le_64 h1 h2)
  · exact .of_right (intBits_le_64 h1 h2)
theorem two_pow_nn (k : Nat) : (0 : Int) ≤ 2 ^ k := by
  rw [two_pow_cast]
  exact Int.natCast_nonneg _

theorem op_add : OpR X (binaryOp .Add) (rI0 fun i j => .int (i + j)) := opI0 fun _ _ _ _ _ _ _ q => add_int q
theorem op_sub : OpR X (binaryOp .Sub) (rI0 fun i j => .int (i - j)) := opI0 fun _ _ _ _ _ _ _ q => sub_int q
theorem op_mul : OpR X (binaryOp .Mult) (rI CMul fun i j => .int (i * j)) := opI fun _ _ _ _ _ _ _ hc q => mul_int q hc.ok
/-- // by a positive divisor -/
theorem op_fdiv : OpR X (binaryOp .FloorDiv) (rI CDiv fun i j => .int (i / j)) := opI fun i j _ _ _ _ _ hc q => by
  have h1 : (0 : Int) < j := hc.1
  have h2 : j < 1073741824 := hc.2
  exact floordiv_int (by omega) (by rw [Int.fdiv_eq_ediv_of_nonneg i (by omega)]; exact q) (.inl (PyProof.noPylong_small (by omega)))
theorem op_fdivN : OpR X (binaryOp .FloorDiv) (rI CDivN fun i j => .int (i.fdiv j)) := opI fun _ _ _ _ _ _ _ hc q => floordiv_int hc.1 q (.inl (PyProof.noPylong_small hc.2))
/-- % by a positive divisor of any size -/
theorem op_mod : OpR X (binaryOp .Mod) (rI (fun _ j => 0 < j) fun i j => .int (i % j)) := opI fun i j _ _ _ _ _ hc q => by
  have h1 : (0 : Int) < j := hc
  exact mod_int' (by omega) (by rw [Int.fmod_eq_emod_of_nonneg i (by omega)]; exact q)
theorem op_modN : OpR X (binaryOp .Mod) (rI (fun _ j => j ≠ 0) fun i j => .int (i.fmod j)) := opI fun _ _ _ _ _ _ _ hc q => mod_int' hc q
theorem op_pow : OpR X (binaryOp .Pow) (rI CPow fun i j => .int (i ^ j.toNat)) := opI fun _ _ _ _ _ _ _ hc q => pow_int_small hc.1 hc.2.1 hc.2.2 q
theorem op_shl : OpR X (binaryOp .LShift) (rI CPow fun i j => .int (i * 2 ^ j.toNat)) := opI fun _ _ _ _ _ _ _ hc q => lshift_int_small hc.1 hc.2.1 hc.2.2 q
theorem op_shr : OpR X (binaryOp .RShift) (rI (fun _ j => 0 ≤ j) fun i j => .int (i / 2 ^ j.toNat)) := opI fun i j _ _ _ _ _ hc q =>
  rshift_int hc (by rw [Int.fdiv_eq_ediv_of_nonneg i (two_pow_nn _)]; exact q)
theorem op_and : OpR X (binaryOp .BitAnd) (rI0 fun i j => .int (Builtin.bitAnd i j)) := opI0 fun _ _ _ _ _ _ _ q => and_int q
theorem op_or : OpR X (binaryOp .BitOr) (rI0 fun i j => .int (Builtin.bitOr i j)) := opI0 fun _ _ _ _ _ _ _ q => or_int q
theorem op_xor : OpR X (binaryOp .BitXor) (rI0 fun i j => .int (Builtin.bitXor i j)) := opI0 fun _ _ _ _ _ _ _ q => xor_int q

theorem iop_add : OpR X (inplaceOp .Add) (rI0 fun i j => .int (i + j)) := opI0 fun _ _ _ _ _ _ _ q => iadd_int q
theorem iop_sub : OpR X (inplaceOp .Sub) (rI0 fun i j => .int (i - j)) := opI0 fun _ _ _ _ _ _ _ q => isub_int q
theorem iop_mul : OpR X (inplaceOp .Mult) (rI CMul fun i j => .int (i * j)) := opI fun _ _ _ _ _ _ _ hc q => imul_int q hc.ok
theorem iop_fdiv : OpR X (inplaceOp .FloorDiv) (rI CDiv fun i j => .int (i / j)) := opI fun i j _ _ _ _ _ hc q => by
  have h1 : (0 : Int) < j := hc.1
  have h2 : j < 1073741824 := hc.2
  exact ifloordiv_int (by omega) (by rw [Int.fdiv_eq_ediv_of_nonneg i (by omega)]; exact q) (.inl (PyProof.noPylong_small (by omega)))
theorem iop_mod : OpR X (inplaceOp .Mod) (rI (fun _ j => 0 < j) fun i j => .int (i % j)) := opI fun i j _ _ _ _ _ hc q => by
  have h1 : (0 : Int) < j := hc
  exact imod_int (by omega) (by rw [Int.fmod_eq_emod_of_nonneg i (by omega)]; exact q)
theorem iop_shl : OpR X (inplaceOp .LShift) (rI CPow fun i j => .int (i * 2 ^ j.toNat)) := opI fun _ _ _ _ _ _ _ hc q => ilshift_int_small hc.1 hc.2.1 hc.2.2 q
theorem iop_shr : OpR X (inplaceOp .RShift) (rI (fun _ j => 0 ≤ j) fun i j => .int (i / 2 ^ j.toNat)) := opI fun i j _ _ _ _ _ hc q =>
  irshift_int hc (by rw [Int.fdiv_eq_ediv_of_nonneg i (two_pow_nn _)]; exact q)
theorem iop_and : OpR X (inplaceOp .BitAnd) (rI0 fun i j => .int (Builtin.bitAnd i j)) := opI0 fun _ _ _ _ _ _ _ q => iand_int q
theorem iop_or : OpR X (inplaceOp .BitOr) (rI0 fun i j => .int (Builtin.bitOr i j)) := opI0 fun _ _ _ _ _ _ _ q => ior_int q
theorem iop_xor : OpR X (inplaceOp .BitXor) (rI0 fun i j => .int (Builtin.bitXor i j)) := opI0 fun _ _ _ _ _ _ _ q => ixor_int q

theorem unI {f : Value → Sem Value} {g : Int → Int}
    (rule : ∀ (i : Int) (t : Tok) (s : Shared) (Q : Value → Shared → Prop) (E : Value → Shared → Prop), Q (.int (g i) s.toks) { s with toks := s.toks + 1 } → wpAny (model X.prog X.w) X.A (f (.int i t)) Q E s) :
    UnR X f (rU fun i => .int (g i)) := by
  intro pins s σ H x v Q I rx h
  obtain ⟨i, rfl, q⟩ := h
  obtain ⟨t, rfl⟩ := rx
  exact rule i t s _ _ ⟨.int (g i), H, I.tok _, ⟨_, rfl⟩, q⟩
theorem un_neg : UnR X (unaryOp .USub) (rU fun i => .int (-i)) := unI fun _ _ _ _ _ q => neg_int q
theorem un_inv : UnR X (unaryOp .Invert) (rU fun i => .int (Builtin.bitNot i)) := unI fun _ _ _ _ _ q => invert_int q

/-! ### bools among ints: n += (a < b) -/
theorem op_add_ib : OpR X (binaryOp .Add) (fun x y H Q => ∃ i k, x = .int i ∧ y = .bl k ∧ Q (.int (i + b2i k)) H) := by
  intro pins s σ H x y v u Q I rx ry h
  obtain ⟨i, k, rfl, rfl, q⟩ := h
  obtain ⟨t, rfl⟩ := rx
  cases ry
  exact add_int_bool ⟨.int (i + b2i k), H, I.tok _, ⟨_, rfl⟩, q⟩
end

/-! ### comparisons -/
/-- the scalars that == tells apart as data does -/
def scal : V → V → Bool
  | .non, .non => true | .non, .int _ => true | .int _, .non => true | .non, .bl _ => true | .bl _, .non => true | .non, .str _ => true | .str _, .non => true
  | .int _, .int _ => true | .bl _, .bl _ => true | .str _, .str _ => true | .byt _, .byt _ => true
  | .int _, .str _ => true | .str _, .int _ => true | .bl _, .str _ => true | .str _, .bl _ => true
  | _, _ => false
def rEq : R2 := fun x y H Q => scal x y = true ∧ Q (.bl (decide (x = y))) H
def rNe : R2 := fun x y H Q => scal x y = true ∧ Q (.bl (!decide (x = y))) H

theorem dec_int {i j : Int} : decide (V.int i = V.int j) = (i == j) := by
  rw [Bool.eq_iff_iff]
  simp
theorem dec_bl {i j : Bool} : decide (V.bl i = V.bl j) = (i == j) := by
  rw [Bool.eq_iff_iff]
  simp
theorem dec_str {i j : Str} : decide (V.str i = V.str j) = (i == j) := by
  rw [Bool.eq_iff_iff]
  simp
theorem dec_byt {i j : Array UInt8} : decide (V.byt i = V.byt j) = (i.toList == j.toList) := by
  rw [Bool.eq_iff_iff]
  cases i
  cases j
  simp

section
variable {X : Cx} {a b c : Expr} {ta tb tc : TE} {pos : Pos}
theorem fin_bl {pins : List (Addr × Obj)} {σ : St} {H : Hp} {s : Shared} {Q : VK} {k k' : Bool} (I : Inv X pins σ H s) (q : Q (.bl k) H) (e : k = k') : EP X pins σ Q (.bool k') s := by
  subst e
  exact ⟨.bl k, H, I, rfl, q⟩
theorem op_eq : OpR X (compareOp .Eq) rEq := by
  intro pins s σ H x y v u Q I rx ry h
  obtain ⟨hs, q⟩ := h
  cases x with
  | non =>
    cases rx
    cases y with
    | non => cases ry; exact PySem.EqNone.eq_none_none (fin_bl I q (by simp))
    | bl j => cases ry; exact PySem.EqNone.eq_none_bool (fin_bl I q (by simp))
    | int j => obtain ⟨t', rfl⟩ := ry; exact PySem.EqNone.eq_none_int (fin_bl I q (by simp))
    | str j => obtain ⟨t', rfl⟩ := ry; exact PySem.EqNone.eq_none_str (fin_bl I q (by simp))
    | _ => exact absurd (show false = true from hs) Bool.false_ne_true
  | bl i =>
    cases rx
    cases y with
    | non => cases ry; exact PySem.EqNone.eq_bool_none (fin_bl I q (by simp))
    | bl j => cases ry; exact eq_bool (fin_bl I q dec_bl)
    | str j => obtain ⟨t', rfl⟩ := ry; exact PySem.EqMixed.eq_bool_str (fin_bl I q (by simp))
    | _ => exact absurd (show false = true from hs) Bool.false_ne_true
  | int i =>
    obtain ⟨t, rfl⟩ := rx
    cases y with
    | non => cases ry; exact PySem.EqNone.eq_int_none (fin_bl I q (by simp))
    | int j => obtain ⟨t', rfl⟩ := ry; exact eq_int (fin_bl I q dec_int)
    | str j => obtain ⟨t', rfl⟩ := ry; exact PySem.EqMixed.eq_int_str (fin_bl I q (by simp))
    | _ => exact absurd (show false = true from hs) Bool.false_ne_true
  | str i =>
    obtain ⟨t, rfl⟩ := rx
    cases y with
    | non => cases ry; exact PySem.EqNone.eq_str_none (fin_bl I q (by simp))
    | bl j => cases ry; exact PySem.EqMixed.eq_str_bool (fin_bl I q (by simp))
    | int j => obtain ⟨t', rfl⟩ := ry; exact PySem.EqMixed.eq_str_int (fin_bl I q (by simp))
    | str j => obtain ⟨t', rfl⟩ := ry; exact eq_str (fin_bl I q dec_str)
    | _ => exact absurd (show false = true from hs) Bool.false_ne_true
  | byt i =>
    obtain ⟨t, rfl⟩ := rx
    cases y with
    | byt j => obtain ⟨t', rfl⟩ := ry; exact PySem.W.eq_bytes (fin_bl I q dec_byt)
    | _ => exact absurd (show false = true from hs) Bool.false_ne_true
  | _ => cases y <;> exact absurd (show false = true from hs) Bool.false_ne_true
theorem op_ne : OpR X (compareOp .NotEq) rNe := by
  intro pins s σ H x y v u Q I rx ry h
  obtain ⟨hs, q⟩ := h
  cases x with
  | non =>
    cases rx
    cases y with
    | non => cases ry; exact PySem.EqNone.ne_none_none (fin_bl I q (by simp))
    | bl j => cases ry; exact PySem.EqNone.ne_none_bool (fin_bl I q (by simp))
    | int j => obtain ⟨t', rfl⟩ := ry; exact PySem.EqNone.ne_none_int (fin_bl I q (by simp))
    | str j => obtain ⟨t', rfl⟩ := ry; exact PySem.EqNone.ne_none_str (fin_bl I q (by simp))
    | _ => exact absurd (show false = true from hs) Bool.false_ne_true
  | bl i =>
    cases rx
    cases y with
    | non => cases ry; exact PySem.EqNone.ne_bool_none (fin_bl I q (by simp))
    | bl j => cases ry; exact ne_bool (fin_bl I q (congrArg not dec_bl))
    | str j => obtain ⟨t', rfl⟩ := ry; exact PySem.EqMixed.ne_bool_str (fin_bl I q (by simp))
    | _ => exact absurd (show false = true from hs) Bool.false_ne_true
  | int i =>
    obtain ⟨t, rfl⟩ := rx
    cases y with
    | non => cases ry; exact PySem.EqNone.ne_int_none (fin_bl I q (by simp))
    | int j => obtain ⟨t', rfl⟩ := ry; exact ne_int (fin_bl I q (congrArg not dec_int))
    | str j => obtain ⟨t', rfl⟩ := ry; exact PySem.EqMixed.ne_int_str (fin_bl I q (by simp))
    | _ => exact absurd (show false = true from hs) Bool.false_ne_true
  | str i =>
    obtain ⟨t, rfl⟩ := rx
    cases y with
    | non => cases ry; exact PySem.EqNone.ne_str_none (fin_bl I q (by simp))
    | bl j => cases ry; exact PySem.EqMixed.ne_str_bool (fin_bl I q (by simp))
    | int j => obtain ⟨t', rfl⟩ := ry; exact PySem.EqMixed.ne_str_int (fin_bl I q (by simp))
    | str j => obtain ⟨t', rfl⟩ := ry; exact ne_str (fin_bl I q (congrArg not dec_str))
    | _ => exact absurd (show false = true from hs) Bool.false_ne_true
  | byt i =>
    obtain ⟨t, rfl⟩ := rx
    cases y with
    | byt j => obtain ⟨t', rfl⟩ := ry; exact PySem.W.ne_bytes (fin_bl I q (congrArg not dec_byt))
    | _ => exact absurd (show false = true from hs) Bool.false_ne_true
  | _ => cases y <;> exact absurd (show false = true from hs) Bool.false_ne_true

theorem op_lt : OpR X (compareOp .Lt) (rI0 fun i j => .bl (decide (i < j))) := opB0 fun _ _ _ _ _ _ _ q => lt_int q
theorem op_le : OpR X (compareOp .LtE) (rI0 fun i j => .bl (decide (i ≤ j))) := opB0 fun _ _ _ _ _ _ _ q => le_int q
theorem op_gt : OpR X (compareOp .Gt) (rI0 fun i j => .bl (decide (j < i))) := opB0 fun _ _ _ _ _ _ _ q => gt_int q
theorem op_ge : OpR X (compareOp .GtE) (rI0 fun i j => .bl (decide (j ≤ i))) := opB0 fun _ _ _ _ _ _ _ q => ge_int q
theorem op_lt_str : OpR X (compareOp .Lt) (fun x y H Q => ∃ i j, x = .str i ∧ y = .str j ∧ Q (.bl (decide (i.cps.toList < j.cps.toList))) H) := by
  intro pins s σ H x y v u Q I rx ry h
  obtain ⟨i, j, rfl, rfl, q⟩ := h
  obtain ⟨t, rfl⟩ := rx
  obtain ⟨t', rfl⟩ := ry
  exact lt_str (fin_bl I q rfl)
/-- the one string within the other -/
theorem op_in_str : OpR X (compareOp .In) (fun x y H Q => ∃ i j, x = .str i ∧ y = .str j ∧ Q (.bl (!(Builtin.Str.occurrences j i 0 j.length 1).isEmpty)) H) := by
  intro pins s σ H x y v u Q I rx ry h
  obtain ⟨i, j, rfl, rfl, q⟩ := h
  obtain ⟨t, rfl⟩ := rx
  obtain ⟨t', rfl⟩ := ry
  exact in_str (fin_bl I q rfl)

/-- is None, is not None: the right side a value none -/
theorem op_isN : OpR X (compareOp .Is) (fun x y H Q => y = .non ∧ Q (.bl (decide (x = .non))) H) := by
  intro pins s σ H x y v u Q I rx ry h
  obtain ⟨rfl, q⟩ := h
  cases ry
  refine is_none_gen (fin_bl I q ?_)
  cases x <;> first
    | (cases rx; rfl)
    | (obtain ⟨t, rfl⟩ := rx; rfl)
theorem op_notN : OpR X (compareOp .IsNot) (fun x y H Q => y = .non ∧ Q (.bl (!decide (x = .non))) H) := by
  intro pins s σ H x y v u Q I rx ry h
  obtain ⟨rfl, q⟩ := h
  cases ry
  refine isnot_none_gen (fin_bl I q ?_)
  cases x <;> first
    | (cases rx; rfl)
    | (obtain ⟨t, rfl⟩ := rx; rfl)

theorem op_notin_str : OpR X (compareOp .NotIn) (fun x y H Q => ∃ i j, x = .str i ∧ y = .str j ∧ Q (.bl (!(!(Builtin.Str.occurrences j i 0 j.length 1).isEmpty))) H) := by
  intro pins s σ H x y v u Q I rx ry h
  obtain ⟨i, j, rfl, rfl, q⟩ := h
  obtain ⟨t, rfl⟩ := rx
  obtain ⟨t', rfl⟩ := ry
  exact notIn_str (fin_bl I q rfl)
/-- is, is not of two objects that are tracked lists or instances -/
def isObj : HO → Bool
  | .lst _ => true
  | .ins _ _ _ => true
  | _ => false
theorem obj_there {pins : List (Addr × Obj)} {s : Shared} {σ : St} {H : Hp} {a : Addr} {o : HO} (I : Inv X pins σ H s) (h : H a = some o) (p : isObj o = true) : ∃ ob, s.heap.get? a = some ob ∧ ob.cls ≠ .type "tuple" := by
  cases o with
  | lst xs =>
    obtain ⟨_, its, n, _, e⟩ : xs.length ≤ sizeLine ∧ ∃ (its : List Value) (n : Nat), Vals xs its ∧ s.heap.get? a = some { cls := .type "list", data := .seq its.toArray n } := I.hok a _ h
    exact ⟨_, e, (by show Value.type "list" ≠ .type "tuple"; decide +kernel)⟩
  | ins C dx fs =>
    have x := I.hok a _ h
    obtain ⟨_, _, _, e, _⟩ := x
    exact ⟨_, e, (by show Value.ref C ≠ .type "tuple"; exact fun z => by cases z)⟩
  | _ => exact absurd (show false = true from p) Bool.false_ne_true
theorem op_is_ref : OpR X (compareOp .Is) (fun x y H Q => ∃ a b oa ob, x = .ref a ∧ y = .ref b ∧ H a = some oa ∧ isObj oa = true ∧ H b = some ob ∧ isObj ob = true ∧ Q (.bl (decide (a = b))) H) := by
  intro pins s σ H x y v u Q I rx ry h
  obtain ⟨a, b, oa, ob, rfl, rfl, ha, pa, hb, pb, q⟩ := h
  cases rx
  cases ry
  obtain ⟨o1, e1, n1⟩ := obj_there I ha pa
  obtain ⟨o2, e2, _⟩ := obj_there I hb pb
  by_cases z : a = b
  · subst z
    exact wpAny_is_ref_self (fin_bl I q (by simp))
  · exact wpAny_is_ref_other z e1 e2 n1 (fin_bl I q (by simp [z]))
theorem op_isnot_ref : OpR X (compareOp .IsNot) (fun x y H Q => ∃ a b oa ob, x = .ref a ∧ y = .ref b ∧ H a = some oa ∧ isObj oa = true ∧ H b = some ob ∧ isObj ob = true ∧ Q (.bl (!decide (a = b))) H) := by
  intro pins s σ H x y v u Q I rx ry h
  obtain ⟨a, b, oa, ob, rfl, rfl, ha, pa, hb, pb, q⟩ := h
  cases rx
  cases ry
  obtain ⟨o1, e1, n1⟩ := obj_there I ha pa
  obtain ⟨o2, e2, _⟩ := obj_there I hb pb
  by_cases z : a = b
  · subst z
    exact wpAny_isNot_ref_self (fin_bl I q (by simp))
  · exact wpAny_isNot_ref_other z e1 e2 n1 (fin_bl I q (by simp [z]))

/-- two rules for one operation: by cases -/
theorem OpR.or {f : Value → Value → Sem Value} {r r' : R2} (h : OpR X f r) (h' : OpR X f r') : OpR X f (fun x y H Q => r x y H Q ∨ r' x y H Q) := by
  intro pins s σ H x y v u Q I rx ry q
  rcases q with q | q
  · exact h pins s σ H x y v u Q I rx ry q
  · exact h' pins s σ H x y v u Q I rx ry q

theorem nomark (b : Expr) {op : CmpOp} (h : op ≠ .In := by decide) (h2 : op ≠ .NotIn := by decide) : behindInMarks op b = false := by
  have e1 : (op == CmpOp.In) = false := by cases op <;> first | rfl | exact absurd rfl h
  have e2 : (op == CmpOp.NotIn) = false := by cases op <;> first | rfl | exact absurd rfl h2
  cases b <;> simp [behindInMarks, e1, e2]
/-- a comparison as a value; hm: nomark b, or (for in, not in) by with_unfolding_all rfl -/
theorem pe_cmpR {op : CmpOp} {r : R2} (ho : OpR X (compareOp op) r) (ha : PE X a ta) (hb : PE X b tb) (hm : behindInMarks op b = false) : PE X (.Compare a [op] [b] pos) (tOp r ta tb) := by
  intro pins s σ H Q I h
  exact wpAny_Compare1 (binT ha hb I h fun v u s2 x y H2 I2 rx ry q => ho pins s2 σ H2 x y v u Q I2 rx ry q) hm
/-- a reading of a value as a test -/
def tTest (t : TE) : TT := fun σ H Q => t σ H fun x H' => ∃ k, x = .bl k ∧ Q k H'
theorem pt_cmpR {op : CmpOp} {r : R2} (ho : OpR X (compareOp op) r) (ha : PE X a ta) (hb : PE X b tb) (hm : behindInMarks op b = false) : PT X (.Compare a [op] [b] pos) (tTest (tOp r ta tb)) := by
  intro pins s σ H Q I h
  refine wpAny_isTrue_Compare1 (thn (ha pins s σ H _ I h) fun v s1 ⟨x, H1, I1, r1, q1⟩ => thn (hb pins s1 σ H1 _ I1 q1) fun u s2 ⟨y, H2, I2, r2, q2⟩ =>
    thn (ho pins s2 σ H2 x y v u _ I2 r1 r2 q2) fun c s3 ⟨z, H3, I3, r3, k, e, q3⟩ => ?_) hm
  subst e
  cases r3
  exact wpAny_truthy_bool ⟨H3, I3, q3⟩
/-- a op1 b op2 c -/
def tChain (r r' : R2) (ta tb tc : TE) : TE := fun σ H Q => ta σ H fun x H1 => tb σ H1 fun y H2 => r x y H2 fun z H3 => ∃ k, z = .bl k ∧
  (if k = true then tc σ H3 fun w' H4 => r' y w' H4 Q else Q (.bl false) H3)
theorem pe_chain {op op' : CmpOp} {r r' : R2} (ho : OpR X (compareOp op) r) (ho' : OpR X (compareOp op') r') (ha : PE X a ta) (hb : PE X b tb) (hc : PE X c tc)
    (hm : lastMarks [op, op'] [b, c] = false := by with_unfolding_all rfl) : PE X (.Compare a [op, op'] [b, c] pos) (tChain r r' ta tb tc) := by
  intro pins s σ H Q I h
  refine Compare_chain (thn (ha pins s σ H _ I h) fun v s1 ⟨x, H1, I1, r1, q1⟩ => chain_link (thn (hb pins s1 σ H1 _ I1 q1) fun u s2 ⟨y, H2, I2, r2, q2⟩ =>
    thn (ho pins s2 σ H2 x y v u _ I2 r1 r2 q2) fun d s3 ⟨z, H3, I3, r3, k, e, q3⟩ => ?_)) hm
  subst e
  cases r3
  refine wpAny_truthy_bool ?_
  cases k with
  | false => exact ite_ff ⟨.bl false, H3, I3, rfl, q3⟩
  | true => exact ite_tt (chain_last (thn (hc pins s3 σ H3 _ I3 q3) fun w' s4 ⟨z', H4, I4, r4, q4⟩ => ho' pins s4 σ H4 y z' u w' Q I4 r2 r4 q4))
theorem pt_chain {op op' : CmpOp} {r r' : R2} (ho : OpR X (compareOp op) r) (ho' : OpR X (compareOp op') r') (ha : PE X a ta) (hb : PE X b tb) (hc : PE X c tc)
    (hm : lastMarks [op, op'] [b, c] = false := by with_unfolding_all rfl) : PT X (.Compare a [op, op'] [b, c] pos) (tTest (tChain r r' ta tb tc)) := by
  intro pins s σ H Q I h
  refine isTrue_chain (thn (ha pins s σ H _ I h) fun v s1 ⟨x, H1, I1, r1, q1⟩ => test_link (thn (hb pins s1 σ H1 _ I1 q1) fun u s2 ⟨y, H2, I2, r2, q2⟩ =>
    thn (ho pins s2 σ H2 x y v u _ I2 r1 r2 q2) fun d s3 ⟨z, H3, I3, r3, k, e, q3⟩ => ?_)) hm
  subst e
  cases r3
  refine wpAny_truthy_bool ?_
  cases k with
  | false =>
    obtain ⟨k', e', q'⟩ := q3
    cases e'
    exact ite_ff ⟨H3, I3, q'⟩
  | true =>
    refine ite_tt (test_last (thn (hc pins s3 σ H3 _ I3 q3) fun w' s4 ⟨z', H4, I4, r4, q4⟩ => thn (ho' pins s4 σ H4 y z' u w' _ I4 r2 r4 q4) fun d' s5 ⟨z2, H5, I5, r5, k2, e2, q5⟩ => ?_))
    subst e2
    cases r5
    exact wpAny_truthy_bool ⟨H5, I5, q5⟩

/-! ### truth -/
/-- a value's truth by the abstract heap -/
def TruV (K : PySem.W.Frag) (x : V) (H : Hp) (k : Bool) : Prop :=
  match x with
  | .non => k = false
  | .bl b => k = b
  | .int i => k = (i != 0)
  | .str y => y.length ≤ sizeLine ∧ k = ((y.length : Int) != 0)
  | .byt y => y.size ≤ sizeLine ∧ k = ((y.size : Int) != 0)
  | .ref p => (∃ xs, SqL K H p xs ∧ k = !xs.isEmpty) ∨ (∃ xs, SqT K H p xs ∧ k = !xs.isEmpty) ∨ ∃ kvs, H p = some (.dK kvs) ∧ k = !kvs.isEmpty
  | _ => False
theorem isEmpty_kv {κ : Type} {kvs : List (κ × V)} {vs : List (κ × Value)} (r : KV kvs vs) : (!vs.isEmpty) = !kvs.isEmpty := by
  cases r <;> rfl
theorem isEmpty_of {xs : List V} {its : List Value} (r : Vals xs its) : (!its.toArray.isEmpty) = !xs.isEmpty := by
  cases r <;> simp
theorem line63 : (sizeLine : Nat) < 2 ^ 63 := by rw [sizeLine_eq]; decide
theorem tru_ok : TruR X (fun x H Q => ∃ k, TruV X.K x H k ∧ Q k H) := by
  intro pins s σ H x v Q I rx h
  obtain ⟨k, e, q⟩ := h
  have hl := line63
  have hs : sizeLine = 16777216 := sizeLine_eq
  cases x with
  | non =>
    cases rx
    have e' : k = false := e
    subst e'
    exact truthy_none ⟨H, I, q⟩
  | bl b =>
    cases rx
    have e' : k = b := e
    subst e'
    exact wpAny_truthy_bool ⟨H, I, q⟩
  | int i =>
    obtain ⟨t, rfl⟩ := rx
    have e' : k = (i != 0) := e
    subst e'
    exact PySem.P.truthy_int ⟨H, I, q⟩
  | str y =>
    obtain ⟨t, rfl⟩ := rx
    obtain ⟨hy, e'⟩ : y.length ≤ sizeLine ∧ k = ((y.length : Int) != 0) := e
    subst e'
    exact PySem.P.truthy_str (by omega) ⟨H, I.tok _, q⟩
  | byt y =>
    obtain ⟨t, rfl⟩ := rx
    obtain ⟨hy, e'⟩ : y.size ≤ sizeLine ∧ k = ((y.size : Int) != 0) := e
    subst e'
    exact PySem.W.truthy_bytes (by omega) ⟨H, I.tok _, q⟩
  | ref p =>
    cases rx
    have e' : (∃ xs, SqL X.K H p xs ∧ k = !xs.isEmpty) ∨ (∃ xs, SqT X.K H p xs ∧ k = !xs.isEmpty) ∨ ∃ kvs, H p = some (.dK kvs) ∧ k = !kvs.isEmpty := e
    rcases e' with ⟨xs, hx, e'⟩ | ⟨xs, hx, e'⟩ | ⟨kvs, hx, e'⟩
    · subst e'
      obtain ⟨its, r, pl, hz⟩ := I.list hx
      have hlen := r.length
      exact wpAny_truthy_list pl.isList (by simp only [List.size_toArray]; omega) ⟨H, I.tok _, by rw [isEmpty_of r]; exact q⟩
    · subst e'
      obtain ⟨its, r, pl, hz⟩ := I.tuple hx
      have hlen := r.length
      exact truthy_tuple pl (by simp only [List.size_toArray]; omega) ⟨H, I.tok _, by rw [isEmpty_of r]; exact q⟩
    · subst e'
      obtain ⟨hz, hS, vs, r, m⟩ : kvs.length ≤ sizeLine ∧ (p == sysModules) = false ∧ ∃ vs, KV kvs vs ∧ s.heap.DictOf (mixKind X.prog X.w) p vs := I.hok p _ hx
      have hlen : kvs.length = vs.length := Paired.length r
      exact wpAny_truthy_dict hS m (by omega) ⟨H, I.tok _, by rw [isEmpty_kv r]; exact q⟩
  | _ => exact (show False from e).elim
/-- any expression whose test is its value's truth (a name, a call, a subscript, a field ..: he by fun _ => rfl) -/
theorem pt_truth (ha : PE X a ta) (he : ∀ whole, isTrue a X.env whole = (do let v ← whole; standAt a.pos; holding [v] (truthy v))) :
    PT X a (fun σ H Q => ta σ H fun x H' => ∃ k, TruV X.K x H' k ∧ Q k H') := by
  intro pins s σ H Q I h
  exact isTrue_plain (thn (ha pins s σ H _ I h) fun v s1 ⟨x, H1, I1, r1, q1⟩ => tru_ok pins s1 σ H1 x v Q I1 r1 q1) (he _)

/-! ### strs and bytes -/
theorem pe_byt {x : List UInt8} {k : Nat} : PE X (.Constant (.bytes x) k pos) (fun _ H Q => Q (.byt x.toArray) H) := fun _ _ _ H _ I h => PySem.W.Constant_bytes ⟨.byt x.toArray, H, I.tok _, ⟨_, rfl⟩, h⟩
theorem op_add_str : OpR X (binaryOp .Add) (fun x y H Q => ∃ i j, x = .str i ∧ y = .str j ∧ i.length + j.length ≤ sizeLine ∧ Q (.str (i ++ j)) H) := by
  intro pins s σ H x y v u Q I rx ry h
  obtain ⟨i, j, rfl, rfl, hz, q⟩ := h
  obtain ⟨t, rfl⟩ := rx
  obtain ⟨t', rfl⟩ := ry
  exact add_str (fun t' tk => ⟨.str (i ++ j), H, I.tok _, ⟨_, rfl⟩, q⟩) hz
theorem iop_add_str : OpR X (inplaceOp .Add) (fun x y H Q => ∃ i j, x = .str i ∧ y = .str j ∧ i.length + j.length ≤ sizeLine ∧ Q (.str (i ++ j)) H) := by
  intro pins s σ H x y v u Q I rx ry h
  obtain ⟨i, j, rfl, rfl, hz, q⟩ := h
  obtain ⟨t, rfl⟩ := rx
  obtain ⟨t', rfl⟩ := ry
  exact iadd_str (fun t' tk => ⟨.str (i ++ j), H, I.tok _, ⟨_, rfl⟩, q⟩) hz
theorem op_add_byt : OpR X (binaryOp .Add) (fun x y H Q => ∃ i j, x = .byt i ∧ y = .byt j ∧ i.size + j.size ≤ 16777216 ∧ Q (.byt (i ++ j)) H) := by
  intro pins s σ H x y v u Q I rx ry h
  obtain ⟨i, j, rfl, rfl, hz, q⟩ := h
  obtain ⟨t, rfl⟩ := rx
  obtain ⟨t', rfl⟩ := ry
  exact PySem.W.KBy.add_bytes hz (fun t' tk => ⟨.byt (i ++ j), H, I.tok _, ⟨_, rfl⟩, q⟩)

def PlainIxT (b : Expr) : Prop := ∀ o i, subscripted b false o i = operate [o, i] (getItem o i)
/-- s[i], 0 ≤ i < len -/
theorem pe_item_str (ha : PE X a ta) (hb : PE X b tb) (hs : PlainIxT b) :
    PE X (.Subscript a b pos) (tOp (fun x y H Q => ∃ z i c, x = .str z ∧ y = .int i ∧ 0 ≤ i ∧ i < 2 ^ 63 ∧ i < z.length ∧ z.cps[i.toNat]? = some c ∧ Q (.str ⟨#[c]⟩) H) ta tb) := by
  intro pins s σ H Q I h
  refine Subscript_ (binT ha hb I h fun v u s2 x y H2 I2 rx ry q => ?_)
  obtain ⟨z, i, c, rfl, rfl, h0, h63, h1, hc, q⟩ := q
  obtain ⟨t, rfl⟩ := rx
  obtain ⟨t', rfl⟩ := ry
  have e : seqIndex? i z.length = some i.toNat := PySem.StrLaws.seqIndex_nonneg h0 h1
  exact tail_any (typeIs_str s2 z t) slot_str_getitem.lookup (getItem_str (c := c) (by
    have e1 : decide (i < -(2 ^ 63 : Int)) = false := decide_eq_false (by omega)
    have e2 : decide (i ≥ 2 ^ 63) = false := decide_eq_false (by omega)
    rw [e1, e2] <;> rfl) (by rw [e]; exact hc) ⟨.str ⟨#[c]⟩, H2, I2.tok _, ⟨_, rfl⟩, q⟩) (hs _ _)
/-- b[i], 0 ≤ i < len -/
theorem pe_item_byt (ha : PE X a ta) (hb : PE X b tb) (hs : PlainIxT b) :
    PE X (.Subscript a b pos) (tOp (fun x y H Q => ∃ (z : List UInt8) (i : Int), x = .byt z.toArray ∧ y = .int i ∧ z.length ≤ sizeLine ∧ 0 ≤ i ∧ i < z.length ∧ Q (.int ((z.getD i.toNat 0).toNat : Nat)) H) ta tb) := by
  intro pins s σ H Q I h
  refine Subscript_ (binT ha hb I h fun v u s2 x y H2 I2 rx ry q => ?_)
  obtain ⟨z, i, rfl, rfl, hz, h0, h1, q⟩ := q
  obtain ⟨t, rfl⟩ := rx
  obtain ⟨t', rfl⟩ := ry
  have hl : sizeLine = 16777216 := sizeLine_eq
  exact tail_any (PySem.W.typeIs_bytes s2 z.toArray t) PySem.W.FB.slot_bytes_getitem.lookup (PySem.W.getItem_bytes (by omega) h0 h1 ⟨.int ((z.getD i.toNat 0).toNat : Nat), H2, I2.tok _, ⟨_, rfl⟩, q⟩) (hs _ _)

/-! ### scalar builtins, by CallR -/
theorem vals1 {x : V} {us : List Value} (r : Vals [x] us) : ∃ u, us = [u] ∧ RelV x u := by
  cases r with
  | cons r1 r2 => cases r2; exact ⟨_, rfl, r1⟩
theorem vals2 {x y : V} {us : List Value} (r : Vals [x, y] us) : ∃ u w', us = [u, w'] ∧ RelV x u ∧ RelV y w' := by
  cases r with
  | cons r1 r2 =>
    cases r2 with
    | cons r3 r4 => cases r4; exact ⟨_, _, rfl, r1, r3⟩
theorem call_abs : CallR X (.builtin "abs") (fun xs H Q => ∃ i, xs = [.int i] ∧ Q (.int (if i < 0 then -i else i)) H) := by
  intro pins s σ H xs us Q I r h
  obtain ⟨i, rfl, q⟩ := h
  obtain ⟨u, rfl, t, rfl⟩ := vals1 r
  exact call_abs_int fun u tk => ⟨.int (if i < 0 then -i else i), H, I.tok _, ⟨_, rfl⟩, q⟩
theorem call_max2 (hc : X.calm = true) : CallR X (.builtin "max") (fun xs H Q => ∃ i j, xs = [.int i, .int j] ∧ Q (.int (if j > i then j else i)) H) := by
  intro pins s σ H xs us Q I r h
  obtain ⟨i, j, rfl, q⟩ := h
  obtain ⟨u, w', rfl, ⟨t, rfl⟩, ⟨t', rfl⟩⟩ := vals2 r
  refine max_two_ints (I.ok.hd hc) fun h' tk k => ⟨_, H, I.kept k, ?_, q⟩
  by_cases hj : j > i
  · rw [if_pos hj, if_pos hj]; exact ⟨_, rfl⟩
  · rw [if_neg hj, if_neg hj]; exact ⟨_, rfl⟩
theorem call_min2 (hc : X.calm = true) : CallR X (.builtin "min") (fun xs H Q => ∃ i j, xs = [.int i, .int j] ∧ Q (.int (if j < i then j else i)) H) := by
  intro pins s σ H xs us Q I r h
  obtain ⟨i, j, rfl, q⟩ := h
  obtain ⟨u, w', rfl, ⟨t, rfl⟩, ⟨t', rfl⟩⟩ := vals2 r
  refine min_two_ints (I.ok.hd hc) fun h' tk k => ⟨_, H, I.kept k, ?_, q⟩
  by_cases hj : j < i
  · rw [if_pos hj, if_pos hj]; exact ⟨_, rfl⟩
  · rw [if_neg hj, if_neg hj]; exact ⟨_, rfl⟩
theorem call_int1 : CallR X (.type "int") (fun xs H Q => (∃ i, xs = [.int i] ∧ Q (.int i) H) ∨ ∃ k, xs = [.bl k] ∧ Q (.int (if k then 1 else 0)) H) := by
  intro pins s σ H xs us Q I r h
  rcases h with ⟨i, rfl, q⟩ | ⟨k, rfl, q⟩
  · obtain ⟨u, rfl, t, rfl⟩ := vals1 r
    exact call_int_int ⟨.int i, H, I, ⟨_, rfl⟩, q⟩
  · obtain ⟨u, rfl, r1⟩ := vals1 r
    cases r1
    exact call_int_bool ⟨.int (if k then 1 else 0), H, I.tok _, ⟨_, rfl⟩, q⟩
theorem call_bool1 : CallR X (.type "bool") (fun xs H Q => (∃ i, xs = [.int i] ∧ Q (.bl (i != 0)) H) ∨ ∃ k, xs = [.bl k] ∧ Q (.bl k) H) := by
  intro pins s σ H xs us Q I r h
  rcases h with ⟨i, rfl, q⟩ | ⟨k, rfl, q⟩
  · obtain ⟨u, rfl, t, rfl⟩ := vals1 r
    exact call_bool_int ⟨.bl (i != 0), H, I, rfl, q⟩
  · obtain ⟨u, rfl, r1⟩ := vals1 r
    cases r1
    exact call_bool_bool ⟨.bl k, H, I, rfl, q⟩
theorem call_str_int : CallR X (.type "str") (fun xs H Q => ∃ i, xs = [.int i] ∧ i.natAbs.log2 < 1920 ∧ Q (.str (toString i)) H) := by
  intro pins s σ H xs us Q I r h
  obtain ⟨i, rfl, hz, q⟩ := h
  obtain ⟨u, rfl, t, rfl⟩ := vals1 r
  exact PySem.P.str_of_int hz ⟨.str _, H, I.tok _, ⟨_, rfl⟩, q⟩
theorem call_ord : CallR X (.builtin "ord") (fun xs H Q => ∃ x, xs = [.str x] ∧ x.length = 1 ∧ Q (.int (x.cps.getD 0 0 : Nat)) H) := by
  intro pins s σ H xs us Q I r h
  obtain ⟨x, rfl, hz, q⟩ := h
  obtain ⟨u, rfl, t, rfl⟩ := vals1 r
  exact ord_of_one hz ⟨.int _, H, I.tok _, ⟨_, rfl⟩, q⟩
theorem call_chr : CallR X (.builtin "chr") (fun xs H Q => ∃ i, xs = [.int i] ∧ 0 ≤ i ∧ i ≤ 1114111 ∧ Q (.str ⟨#[i.toNat]⟩) H) := by
  intro pins s σ H xs us Q I r h
  obtain ⟨i, rfl, h0, h1, q⟩ := h
  obtain ⟨u, rfl, t, rfl⟩ := vals1 r
  exact chr_of_range h0 h1 ⟨.str _, H, I.tok _, ⟨_, rfl⟩, q⟩
/-- len of a str, a bytes, a list, a tuple -/
def LenV (K : PySem.W.Frag) (x : V) (H : Hp) (n : Nat) : Prop :=
  match x with
  | .str y => y.length ≤ sizeLine ∧ n = y.length
  | .byt y => y.size ≤ sizeLine ∧ n = y.size
  | .ref p => (∃ xs, SqL K H p xs ∧ n = xs.length) ∨ ∃ xs, SqT K H p xs ∧ n = xs.length
  | _ => False
theorem call_len : CallR X (.builtin "len") (fun xs H Q => ∃ x n, xs = [x] ∧ LenV X.K x H n ∧ Q (.int n) H) := by
  intro pins s σ H xs us Q I r h
  obtain ⟨x, n, rfl, e, q⟩ := h
  obtain ⟨u, rfl, rx⟩ := vals1 r
  have hl := line63
  have hs : sizeLine = 16777216 := sizeLine_eq
  cases x with
  | str y =>
    obtain ⟨t, rfl⟩ := rx
    obtain ⟨hy, e'⟩ : y.length ≤ sizeLine ∧ n = y.length := e
    subst e'
    exact len_str (by omega) ⟨.int _, H, I.tok _, ⟨_, rfl⟩, q⟩
  | byt y =>
    obtain ⟨t, rfl⟩ := rx
    obtain ⟨hy, e'⟩ : y.size ≤ sizeLine ∧ n = y.size := e
    subst e'
    exact PySem.W.len_bytes (by omega) ⟨.int _, H, I.tok _, ⟨_, rfl⟩, q⟩
  | ref p =>
    cases rx
    have e' : (∃ xs, SqL X.K H p xs ∧ n = xs.length) ∨ ∃ xs, SqT X.K H p xs ∧ n = xs.length := e
    rcases e' with ⟨xs, hx, e'⟩ | ⟨xs, hx, e'⟩
    · subst e'
      obtain ⟨its, r', pl, hz⟩ := I.list hx
      have hlen := r'.length
      exact Calls.call_len_list pl.isList (by simp only [List.size_toArray]; omega) ⟨.int xs.length, H, I.tok _, ⟨_, by simp only [List.size_toArray]; rw [hlen]⟩, q⟩
    · subst e'
      obtain ⟨its, r', pl, hz⟩ := I.tuple hx
      have hlen := r'.length
      exact len_tuple pl (by simp only [List.size_toArray]; omega) ⟨.int xs.length, H, I.tok _, ⟨_, by simp only [List.size_toArray]; rw [hlen]⟩, q⟩
  | _ => exact (show False from e).elim
/-- divmod: a new tuple -/
theorem call_divmod : CallR X (.builtin "divmod") (fun xs H Q => ∃ i j, xs = [.int i, .int j] ∧ CDiv i j ∧ ∀ p, H p = none → Q (.ref p) (upd H p (.tup [.int (i / j), .int (i % j)]))) := by
  intro pins s σ H xs us Q I r h
  obtain ⟨i, j, rfl, ⟨h1, h2⟩, q⟩ := h
  obtain ⟨u, w', rfl, ⟨t, rfl⟩, ⟨t', rfl⟩⟩ := vals2 r
  refine divmod_int (by omega) ?_ (.inl (PyProof.noPylong_small (by omega)))
  rw [Int.fdiv_eq_ediv_of_nonneg i (by omega), Int.fmod_eq_emod_of_nonneg i (by omega)]
  have hn : H s.heap.objs.size = none := I.hok.fresh (Nat.le_refl _)
  refine ⟨.ref s.heap.objs.size, _, ?_, rfl, q _ hn⟩
  refine I.laid (fun b o e => Heap.get?_push_of_some _ e) (Nat.le_refl _) ⟨by simp only [List.length_cons, List.length_nil]; rw [sizeLine_eq]; decide, [.int (i / j) s.toks, .int (i % j) (s.toks + 1)], .cons ⟨_, rfl⟩ (.cons ⟨_, rfl⟩ .nil), ?_⟩
  exact ⟨_, Heap.get?_push_size s.heap rfl, rfl, 0, rfl⟩
end
end L2

namespace L2
open PySem PySem.Spec PyProof.Rows

/-! ### an instance, its attributes a map -/
structure ObjM (h : Heap) (x dx C : Addr) (mA : Str → Option Value) : Prop where
  obj : h.get? x = some (PySem.W.instObj C dx)
  ns : h.Ns1 dx mA
  ne : dx ≠ x

theorem lookIn_ns {h : Heap} {dx : Addr} {mA : Str → Option Value} (n : h.Ns1 dx mA) : ∃ od, h.get? dx = some od ∧ ∀ name, PySem.W.lookIn name od = some (mA name) := by
  obtain ⟨o, es, ep, ho, hd, hk, _, hm⟩ := n
  refine ⟨o, ho, fun name => ?_⟩
  have e := hm name
  unfold nsFind findBy at e
  rw [← Array.find?_toList] at e
  unfold PySem.W.lookIn
  rw [hd]
  dsimp only
  split
  · rename_i y q
    rw [q] at e
    exact congrArg some e
  · rename_i q
    rw [q] at e
    have a : es.toList.any (·.refKey) = false := by
      rw [List.any_eq_false]
      intro y hy
      obtain ⟨z, t, hkey⟩ := hk y (Array.mem_toList_iff.mp hy)
      simp [DictEntry.refKey, hkey]
    have a' : ¬ es.toList.any (·.refKey) = true := by rw [a]; exact Bool.false_ne_true
    rw [if_neg a']
    exact congrArg some e

theorem ObjM.look {h : Heap} {x dx C : Addr} {mA : Str → Option Value} (I : ObjM h x dx C mA) : ∃ od, PySem.W.InstAt h x (PySem.W.instObj C dx) C (some od) ∧ ∀ name, PySem.W.lookIn name od = some (mA name) :=
  let ⟨od, ho, hl⟩ := lookIn_ns I.ns
  ⟨od, ⟨I.obj, rfl, rfl, ho⟩, hl⟩

section
variable {prog : Program} {w : World} {A : Around} {E : Value → Shared → Prop} {s : Shared} {K : PySem.W.Frag} {x dx C f : Addr} {mA : Str → Option Value} {name : Str} {v : Value}

theorem get_map {expr : Bool} {Q : Value → Shared → Prop} (X : K.In s.heap) (I : ObjM s.heap x dx C mA) (hg : PySem.W.plainGet K C name = true) (hh : PySem.W.hasDictIn K C = true)
    (ha : PySem.W.findIn K (.ref C) name = some none) (hv : mA name = some v) (hv' : PySem.W.handedIn v = true) (h : Q v { s with toks := s.toks + 1 }) :
    wpAny (model prog w) A (getAttr (.ref x) name expr) Q E s := by
  obtain ⟨od, J, hl⟩ := I.look
  exact PySem.W.get_value X J (PySem.W.plainGet_of hg).1 (PySem.W.findObj_own hh ha rfl (by rw [hl, hv])) hv' h

theorem get_const {expr : Bool} {a : Value} {Q : Value → Shared → Prop} (X : K.In s.heap) (I : ObjM s.heap x dx C mA) (hg : PySem.W.plainGet K C name = true) (hh : PySem.W.hasDictIn K C = true)
    (ha : PySem.W.findIn K (.ref C) name = some (some a)) (hn : PySem.W.specialIn K a "__get__" = some none) (hc : PySem.W.copiedNames.contains name = false) (hv : mA name = none) (hv' : PySem.W.handedIn a = true)
    (h : Q a { s with toks := s.toks + 1 }) : wpAny (model prog w) A (getAttr (.ref x) name expr) Q E s := by
  obtain ⟨od, J, hl⟩ := I.look
  exact PySem.W.get_value X J (PySem.W.plainGet_of hg).1 (PySem.W.findObj_cls hh ha hn hv' hc (by rw [hl, hv])) hv' h

theorem get_meth {pl : Sem Bool} {Q : Value × List Value → Shared → Prop} (X : K.In s.heap) (I : ObjM s.heap x dx C mA) (hg : PySem.W.plainGet K C name = true)
    (hf : PySem.W.findIn K (.ref C) name = some (some (.ref f))) (ht : PySem.W.isFn K (.ref f) = true) (hv : mA name = none) (h : Q (.ref f, [.ref x]) s) :
    wpAny (model prog w) A (getMethod (.ref x) name pl) Q E s := by
  obtain ⟨od, J, hl⟩ := I.look
  exact PySem.W.method_fn X J (PySem.W.plainGet_of hg).1 (PySem.W.plainGet_of hg).2 hf (beq_iff_eq.mp ht) (by show (PySem.W.lookIn name od).map (·.isSome) = some false; rw [hl, hv]; rfl) h

theorem set_map {ns : List Str} {Q : Unit → Shared → Prop} (X : K.In s.heap) (I : ObjM s.heap x dx C mA)
    (hs : PySem.W.findIn K (.ref C) "__setattr__" = some (some (.builtin "object.__setattr__"))) (hp : PySem.W.plainOver K C = true) (ht : PySem.W.takerIn K C name = some none) (hh : PySem.W.hasDictIn K C = true)
    (hw : PySem.Within mA ns) (hsz : ns.length ≤ sizeLine)
    (h : ∀ h', ObjM h' x dx C (fun y => if y = name then some v else mA y) → Heap.SameBut dx s.heap h' → Q () { s with heap := h', toks := s.toks + 2 }) :
    wpAny (model prog w) A (setAttr (.ref x) name v) Q E s := by
  obtain ⟨od, J, hl⟩ := I.look
  refine PySem.W.set_plain X J hs (PySem.W.osa_open (s := { s with toks := s.toks + 1 }) (r := none) X J hp ht fun b => ?_)
  obtain ⟨cd, hc, hd'⟩ := PySem.W.any_some hh
  have hx : s.heap.get? x = some ⟨.ref C, some dx, .plain, #[]⟩ := I.obj
  refine wpAny_bind (wpAny_pure (wpAny_bind (wpAny_bind (wpAny_loadPart hx (wpAny_bind (PySem.W.Looks.here (s := { s with toks := s.toks + 1 }) (PySem.W.looks_clsIn X hc) ?_))))))
  rw [hd']
  refine wpAny_pure (a := some dx) (wpAny_bind (wpAny_pure (wpAny_bind ?_)))
  refine wpAny_nsSet1 (s := { s with toks := s.toks + 1 }) I.ns fun h' hn2 hs2 => ?_
  obtain ⟨oD, esD, epD, hoD, hdD, hcD⟩ := hn2.count (PySem.Within.cons name v hw)
  refine wpAny_bind (wpAny_lookBehind hoD (by rw [hdD]; exact pastItsLine_dict (Nat.le_trans hcD (by rw [List.length_cons]; omega))) ?_)
  exact wpAny_pure (h _ ⟨(hs2.2 _ (Ne.symm I.ne)).trans I.obj, hn2, I.ne⟩ hs2)

/-- C(..): the dict at the heap's end, the instance behind it; then its __init__ -/
theorem make_map {R : Result → Shared → Prop} {vs : List Value} {kw : List (Str × Value)} (X : K.In s.heap) (hm : PySem.W.makesIn K C = true)
    (hi : PySem.W.findIn K (.ref C) "__init__" = some (some (.ref f))) (hf : PySem.W.typeIn K (.ref f) = some (.type "function"))
    (h : codeAny (model prog w) (A.under (.builtin "type.__call__" ⟨.ref C :: vs, kw⟩)) (.call (.ref f) ⟨.ref (s.heap.objs.size + 1) :: vs, kw⟩) (PySem.W.InitBack (s.heap.objs.size + 1) R)
      { s with heap := (s.heap.push PySem.W.emptyDict).push (PySem.W.instObj C s.heap.objs.size) }) :
    codeAny (model prog w) A (.call (.ref C) ⟨vs, kw⟩) R s := by
  obtain ⟨hh, g, d, t, os⟩ := s
  exact PySem.W.make_core (PySem.W.makes_of X hm) (PySem.W.looks_findIn X hi) (fun self => PySem.W.bind_fn X self hf) (.inl rfl) h
/-- C() where there is no __init__ but object's -/
theorem make_map0 {R : Result → Shared → Prop} (X : K.In s.heap) (hm : PySem.W.makesIn K C = true)
    (hi : PySem.W.findIn K (.ref C) "__init__" = some (some (.builtin "object.__init__")))
    (hb : ∀ self, PySem.W.Looks (model prog w) s.heap (bindSpecial (.builtin "object.__init__") self) (.builtin "object.__init__", [self]))
    (h : codeAny (model prog w) (A.under (.builtin "type.__call__" ⟨[.ref C], []⟩)) (.call (.builtin "object.__init__") ⟨[.ref (s.heap.objs.size + 1)], []⟩) (PySem.W.InitBack (s.heap.objs.size + 1) R)
      { s with heap := (s.heap.push PySem.W.emptyDict).push (PySem.W.instObj C s.heap.objs.size) }) :
    codeAny (model prog w) A (.call (.ref C) ⟨[], []⟩) R s := by
  obtain ⟨hh, g, d, t, os⟩ := s
  exact PySem.W.make_core (PySem.W.makes_of X hm) (PySem.W.looks_findIn X hi) hb (.inr ⟨rfl, rfl⟩) h
end

/-! ### the attributes as a list of pairs -/
def putF (f : Str) (v : V) : List (Str × V) → List (Str × V)
  | [] => [(f, v)]
  | (g, x) :: r => if g = f then (g, v) :: r else (g, x) :: putF f v r
theorem lookup_putF (f g : Str) (v : V) : ∀ fs : List (Str × V), (putF f v fs).lookup g = if g = f then some v else fs.lookup g
  | [] => by
    show List.lookup g [(f, v)] = _
    by_cases h : g = f
    · have hb : (g == f) = true := beq_iff_eq.mpr h
      simp only [List.lookup, hb, if_pos h]
    · have hb : (g == f) = false := beq_eq_false_iff_ne.mpr h
      simp only [List.lookup, hb, if_neg h]
  | (k, x) :: r => by
    have ih := lookup_putF f g v r
    rw [show putF f v ((k, x) :: r) = (if k = f then (k, v) :: r else (k, x) :: putF f v r) from rfl]
    by_cases hk : k = f
    · rw [if_pos hk]
      by_cases h : g = k
      · have hb : (g == k) = true := beq_iff_eq.mpr h
        simp only [List.lookup, hb, if_pos (h.trans hk)]
      · have hb : (g == k) = false := beq_eq_false_iff_ne.mpr h
        simp only [List.lookup, hb, if_neg (fun e : g = f => h (e.trans hk.symm))]
    · rw [if_neg hk]
      by_cases h : g = k
      · have hb : (g == k) = true := beq_iff_eq.mpr h
        simp only [List.lookup, hb, if_neg (fun e : g = f => hk (h.symm.trans e))]
      · have hb : (g == k) = false := beq_eq_false_iff_ne.mpr h
        simp only [List.lookup, hb]
        exact ih
theorem keys_putF (f : Str) (v : V) : ∀ fs : List (Str × V), f ∈ (putF f v fs).map (·.1) ∧ ∀ g, g ∈ fs.map (·.1) → g ∈ (putF f v fs).map (·.1)
  | [] => ⟨by simp [putF], fun g h => by simp at h⟩
  | (k, x) :: r => by
    obtain ⟨i1, i2⟩ := keys_putF f v r
    rw [show putF f v ((k, x) :: r) = (if k = f then (k, v) :: r else (k, x) :: putF f v r) from rfl]
    by_cases hk : k = f
    · rw [if_pos hk]
      subst hk
      exact ⟨by simp, fun g h => by simpa using h⟩
    · rw [if_neg hk]
      refine ⟨?_, fun g h => ?_⟩
      · rw [List.map_cons]
        exact List.mem_cons_of_mem _ i1
      · rw [List.map_cons] at h ⊢
        rcases List.mem_cons.mp h with e | e
        · exact List.mem_cons.mpr (.inl e)
        · exact List.mem_cons_of_mem _ (i2 g e)
theorem length_putF (f : Str) (v : V) : ∀ fs : List (Str × V), (putF f v fs).length ≤ fs.length + 1
  | [] => by simp [putF]
  | (k, x) :: r => by
    have ih := length_putF f v r
    rw [show putF f v ((k, x) :: r) = (if k = f then (k, v) :: r else (k, x) :: putF f v r) from rfl]
    by_cases hk : k = f
    · rw [if_pos hk, List.length_cons, List.length_cons]; omega
    · rw [if_neg hk, List.length_cons, List.length_cons]; omega

theorem RelO.some_of {v : V} {o : Option Value} (r : RelO (some v) o) : ∃ u, o = some u ∧ RelV v u := by
  cases o with
  | none => exact (show False from r).elim
  | some u => exact ⟨u, rfl, r⟩
theorem RelO.none_of {o : Option Value} (r : RelO none o) : o = none := by
  cases o with
  | none => rfl
  | some u => exact (show False from r).elim
theorem handed_of {v : V} {u : Value} (r : RelV v u) : PySem.W.handedIn u = true := by
  cases v with
  | non => cases (show u = Value.none from r); rfl
  | bl b => cases (show u = Value.bool b from r); rfl
  | int i => obtain ⟨t, e⟩ := (show ∃ t, u = Value.int i t from r); cases e; rfl
  | str x => obtain ⟨t, e⟩ := (show ∃ t, u = Value.str x t from r); cases e; rfl
  | byt b => obtain ⟨t, e⟩ := (show ∃ t, u = Value.bytes b t from r); cases e; rfl
  | flt b => obtain ⟨t, e⟩ := (show ∃ t, u = Value.float b t from r); cases e; rfl
  | ref a => cases (show u = Value.ref a from r); rfl
  | ty n => cases (show u = Value.type n from r); rfl

section
variable {P : Program} {w : World} {H H' : Hp} {h h' : Heap} {a C dx : Addr} {fs fs' : List (Str × V)}
theorem ins_get (hok : HOk P w H h) (e : H a = some (.ins C dx fs)) : ∃ mA, ObjM h a dx C mA ∧ (∀ f, RelO (fs.lookup f) (mA f)) ∧ PySem.Within mA (fs.map (·.1)) ∧ fs.length ≤ 1000 ∧ H dx = some (.own a) := by
  obtain ⟨d, z, ne, ob, mA, n, r, q⟩ := (show ObjOk P w H h a (.ins C dx fs) from hok a _ e)
  exact ⟨mA, ⟨ob, n, ne⟩, r, q, z, d⟩
end

/-! ### what of the text a class must have -/
structure Cls (K : PySem.W.Frag) (C : Addr) : Prop where
  pg : PySem.W.plainGet K C Str.empty = true
  hd : PySem.W.hasDictIn K C = true
  po : PySem.W.plainOver K C = true
  sa : PySem.W.findIn K (.ref C) "__setattr__" = some (some (.builtin "object.__setattr__"))
theorem Cls.get {K : PySem.W.Frag} {C : Addr} (c : Cls K C) (f : Str) : PySem.W.plainGet K C f = true := c.pg
/-- no class of it has the name -/
def NoAttr (K : PySem.W.Frag) (C : Addr) (f : Str) : Prop := PySem.W.findIn K (.ref C) f = some none
theorem NoAttr.taker {K : PySem.W.Frag} {C : Addr} {f : Str} (n : NoAttr K C f) : PySem.W.takerIn K C f = some none := by
  unfold PySem.W.takerIn
  rw [show PySem.W.findIn K (.ref C) f = some none from n]
  rfl
/-- a constant of the class -/
structure Con (K : PySem.W.Frag) (C : Addr) (f : Str) (v : V) (u : Value) : Prop where
  at_ : PySem.W.findIn K (.ref C) f = some (some u)
  rel : RelV v u
  get : PySem.W.specialIn K u "__get__" = some none
  cp : PySem.W.copiedNames.contains f = false
/-- a method: a plain def of the class or of one above it -/
structure Meth (K : PySem.W.Frag) (C : Addr) (m : Str) (f : Addr) : Prop where
  at_ : PySem.W.findIn K (.ref C) m = some (some (.ref f))
  fn : PySem.W.isFn K (.ref f) = true
  kp : PySem.W.keepIn K (.ref f) = true

section
variable {X : Cx} {pins : List (Addr × Obj)} {σ : St} {H : Hp} {s : Shared} {a C dx : Addr} {fs : List (Str × V)} {f : Str} {v : V} {A : Around} {E : Value → Shared → Prop}

theorem getattr_ok {b : Bool} {Q : Value → Shared → Prop} (I : Inv X pins σ H s) (e : H a = some (.ins C dx fs)) (c : Cls X.K C) (n : NoAttr X.K C f) (l : fs.lookup f = some v)
    (h : ∀ u s', Inv X pins σ H s' → RelV v u → Q u s') : wpAny (model X.prog X.w) A (getAttr (.ref a) f b) Q E s := by
  obtain ⟨mA, O, r, _, _, _⟩ := ins_get I.hok e
  obtain ⟨u, hu, ru⟩ := RelO.some_of (v := v) (o := mA f) (by rw [← l]; exact r f)
  exact get_map I.kIn O (c.get f) c.hd n hu (handed_of ru) (h u _ (I.tok _) ru)

theorem getcon_ok {b : Bool} {u : Value} {Q : Value → Shared → Prop} (I : Inv X pins σ H s) (e : H a = some (.ins C dx fs)) (c : Cls X.K C) (k : Con X.K C f v u) (l : fs.lookup f = none)
    (h : ∀ s', Inv X pins σ H s' → Q u s') : wpAny (model X.prog X.w) A (getAttr (.ref a) f b) Q E s := by
  obtain ⟨mA, O, r, _, _, _⟩ := ins_get I.hok e
  have hn : mA f = none := RelO.none_of (by rw [← l]; exact r f)
  exact get_const I.kIn O (c.get f) c.hd k.at_ k.get k.cp hn (handed_of k.rel) (h _ (I.tok _))

theorem getmeth_ok {m : Str} {g : Addr} {pl : Sem Bool} {Q : Value × List Value → Shared → Prop} (I : Inv X pins σ H s) (e : H a = some (.ins C dx fs)) (c : Cls X.K C) (k : Meth X.K C m g) (l : fs.lookup m = none)
    (h : Q (.ref g, [.ref a]) s) : wpAny (model X.prog X.w) A (getMethod (.ref a) m pl) Q E s := by
  obtain ⟨mA, O, r, _, _, _⟩ := ins_get I.hok e
  have hn : mA m = none := RelO.none_of (by rw [← l]; exact r m)
  exact get_meth I.kIn O (c.get m) k.at_ k.fn hn h

theorem setattr_ok {y : V} {u : Value} {Q : Unit → Shared → Prop} (I : Inv X pins σ H s) (e : H a = some (.ins C dx fs)) (c : Cls X.K C) (n : NoAttr X.K C f) (hl : fs.length < 1000) (ry : RelV y u)
    (h : ∀ s', Inv X pins σ (upd H a (.ins C dx (putF f y fs))) s' → Q () s') : wpAny (model X.prog X.w) A (setAttr (.ref a) f u) Q E s := by
  obtain ⟨mA, O, r, wi, _, ho⟩ := ins_get I.hok e
  have hz : (fs.map (·.1)).length ≤ sizeLine := by rw [List.length_map, sizeLine_eq]; omega
  refine set_map I.kIn O c.sa c.po n.taker c.hd wi hz fun h' O' sb => h _ ?_
  have hd : ∃ o, h'.get? dx = some o := let ⟨o, _, _, e', _⟩ := O'.ns; ⟨o, e'⟩
  refine I.write (x := a) (e := dx) (by rw [e]; exact True.intro) (.inr ho) (fun b q hb z => (sb.2 b hb).trans z) hd ?_
  refine ⟨by rw [upd_ne O.ne]; exact ho, ?_, O.ne, O'.obj, _, O'.ns, fun g => ?_, fun g hg => ?_⟩
  · have := length_putF f y fs; omega
  · show RelO ((putF f y fs).lookup g) (if g = f then some u else mA g)
    rw [lookup_putF]
    by_cases q : g = f
    · rw [if_pos q, if_pos q]; exact ry
    · rw [if_neg q, if_neg q]; exact r g
  · by_cases q : g = f
    · rw [q]; exact (keys_putF f y fs).1
    · refine (keys_putF f y fs).2 g (wi g fun z => hg ?_)
      show (if g = f then some u else mA g) = none
      rw [if_neg q]; exact z

/-- a new instance, tracked, without attributes -/
theorem Inv.made (I : Inv X pins σ H s) : Inv X pins σ (upd (upd H s.heap.objs.size (.own (s.heap.objs.size + 1))) (s.heap.objs.size + 1) (.ins C s.heap.objs.size []))
    { s with heap := (s.heap.push PySem.W.emptyDict).push (PySem.W.instObj C s.heap.objs.size) } := by
  have e1 : (s.heap.push PySem.W.emptyDict).get? s.heap.objs.size = some PySem.W.emptyDict := Heap.get?_push_size s.heap rfl
  have e2 : ((s.heap.push PySem.W.emptyDict).push (PySem.W.instObj C s.heap.objs.size)).get? (s.heap.objs.size + 1) = some (PySem.W.instObj C s.heap.objs.size) := by
    have := Heap.get?_push_size (s.heap.push PySem.W.emptyDict) (o := PySem.W.instObj C s.heap.objs.size) rfl
    rwa [Heap.size_push] at this
  have e3 : (s.heap.push PySem.W.emptyDict).Ns s.heap.objs.size (fun _ => none) := ⟨PySem.W.emptyDict, #[], _, e1, rfl, (fun e he => absurd he (by simp)), fun _ => rfl⟩
  have I1 := I.laid (a := s.heap.objs.size) (o := .own (s.heap.objs.size + 1)) (h' := s.heap.push PySem.W.emptyDict) (t' := s.toks) (fun b u q => Heap.get?_push_of_some _ q) (Nat.le_refl _) ⟨_, e1⟩
  refine I1.laid (a := s.heap.objs.size + 1) (o := .ins C s.heap.objs.size []) (t' := s.toks) (fun b u q => Heap.get?_push_of_some _ q) (Nat.le_of_eq (Heap.size_push _ _)) ?_
  have ne : s.heap.objs.size ≠ s.heap.objs.size + 1 := Nat.ne_of_lt (Nat.lt_succ_self _)
  refine ⟨by rw [upd_ne ne, upd_same], Nat.zero_le _, ne, e2, fun _ => none, (Heap.Ns1.of_empty e3).at fun o q => Heap.get?_push_of_some _ q, fun _ => True.intro, fun y hy => absurd rfl hy⟩

/-- e.f where nothing but the object is asked: through attributeBase (super) and the last hold -/
theorem attr_of {prog : Program} {w : World} {env : Env} {e : Expr} {f : Str} {pos : Pos} {s : Shared} {Q : Value → Shared → Prop} (hb : attributeBase e f env (eval e env) = eval e env)
    (h : wpAny (model prog w) A (eval e env) (fun o s₁ => wpAny (model prog w) A (getAttr o f true) Q E s₁) E s) : wpAny (model prog w) A (eval (.Attribute e f pos) env) Q E s :=
  Attribute_any_ h (by rw [arm_eval_Attribute, hb])
end

/-! ### readings and rules -/
/-- e.f, an attribute of the instance -/
def tFld (K : PySem.W.Frag) (ta : TE) (f : Str) : TE := fun σ H Q => ta σ H fun x H1 => ∃ a C dx fs v, x = .ref a ∧ H1 a = some (.ins C dx fs) ∧ Cls K C ∧ NoAttr K C f ∧ fs.lookup f = some v ∧ Q v H1
/-- e.f, a constant of the class -/
def tCon (K : PySem.W.Frag) (ta : TE) (f : Str) : TE := fun σ H Q => ta σ H fun x H1 => ∃ a C dx fs v u, x = .ref a ∧ H1 a = some (.ins C dx fs) ∧ Cls K C ∧ Con K C f v u ∧ fs.lookup f = none ∧ Q v H1
/-- e.f = value -/
def sFld (K : PySem.W.Frag) (ta tv : TE) (f : Str) : TS := fun D σ H => tv σ H fun y H1 => ta σ H1 fun x H2 => ∃ a C dx fs, x = .ref a ∧ H2 a = some (.ins C dx fs) ∧ Cls K C ∧ NoAttr K C f ∧ fs.length < 1000 ∧
  D.nx σ (upd H2 a (.ins C dx (putF f y fs)))
/-- an augmented operator on two values -/
def InOp (X : Cx) (op : Operator) (rd : V → V → Hp → VK → Prop) : Prop :=
  ∀ (pins : List (Addr × Obj)) (s : Shared) (σ : St) (H : Hp) (x y : V) (u v : Value) (Q : VK), Inv X pins σ H s → RelV x u → RelV y v → rd x y H Q → wpAny (model X.prog X.w) X.A (inplaceOp op u v) (EP X pins σ Q) X.xe s
/-- e.f op= value -/
def sFldAug (K : PySem.W.Frag) (ta tv : TE) (rd : V → V → Hp → VK → Prop) (f : Str) : TS := fun D σ H => ta σ H fun x H1 => ∃ a C dx fs v, x = .ref a ∧ H1 a = some (.ins C dx fs) ∧ Cls K C ∧ NoAttr K C f ∧ fs.lookup f = some v ∧
  tv σ H1 fun y H2 => rd v y H2 fun z H3 => ∃ dx' fs', H3 a = some (.ins C dx' fs') ∧ fs'.length < 1000 ∧ D.nx σ (upd H3 a (.ins C dx' (putF f z fs')))

section
variable {X : Cx} {o e value : Expr} {f : Str} {pos pos' tpos : Pos} {ta tv : TE}
theorem pe_fld (he : PE X e ta) (hb : attributeBase e f X.env (eval e X.env) = eval e X.env) : PE X (.Attribute e f pos) (tFld X.K ta f) := by
  intro pins s σ H Q I h
  refine attr_of hb (thn (he pins s σ H _ I h) fun u s1 ⟨x, H1, I1, rx, a, C, dx, fs, v, ex, ea, c, n, l, q⟩ => ?_)
  subst ex
  obtain rfl : u = Value.ref a := rx
  exact getattr_ok I1 ea c n l fun u' s2 I2 ru => ⟨v, H1, I2, ru, q⟩
theorem pe_con (he : PE X e ta) (hb : attributeBase e f X.env (eval e X.env) = eval e X.env) : PE X (.Attribute e f pos) (tCon X.K ta f) := by
  intro pins s σ H Q I h
  refine attr_of hb (thn (he pins s σ H _ I h) fun u s1 ⟨x, H1, I1, rx, a, C, dx, fs, v, u0, ex, ea, c, k, l, q⟩ => ?_)
  subst ex
  obtain rfl : u = Value.ref a := rx
  exact getcon_ok I1 ea c k l fun s2 I2 => ⟨v, H1, I2, k.rel, q⟩
theorem ps_fld (ha : PE X o ta) (hv : PE X value tv) (hs : swapsWith value (some (.Attribute o f pos')) pos.line X.env = pure false) : PS X (.Assign [.Attribute o f pos'] value pos) (sFld X.K ta tv f) := by
  intro pins s σ H D I h
  refine plainObj_wpAny_Assign_Attribute (thn (hv pins s σ H _ I h) fun u s1 ⟨y, H1, I1, ry, q⟩ => thn (ha pins s1 σ H1 _ I1 q) fun ov s2 ⟨x, H2, I2, rx, a, C, dx, fs, ex, ea, c, n, l, q2⟩ => ?_) hs
  subst ex
  obtain rfl : ov = Value.ref a := rx
  exact setattr_ok I2 ea c n l ry fun s3 I3 => ⟨σ, _, I3, q2⟩
theorem ps_fldaug {op : Operator} {rd : V → V → Hp → VK → Prop} (ha : PE X o ta) (hv : PE X value tv) (hop : InOp X op rd) : PS X (.AugAssign (.Attribute o f tpos) op value pos) (sFldAug X.K ta tv rd f) := by
  intro pins s σ H D I h
  refine wpAny_AugAssign_AttributeAny (thn (ha pins s σ H _ I h) fun ov s1 ⟨x, H1, I1, rx, a, C, dx, fs, v, ex, ea, c, n, l, q⟩ => ?_)
  subst ex
  obtain rfl : ov = Value.ref a := rx
  refine getattr_ok I1 ea c n l fun u s2 I2 ru => thn (hv pins s2 σ H1 _ I2 q) fun w3 s3 ⟨y, H2, I3, ry, q3⟩ => thn (hop pins s3 σ H2 v y u w3 _ I3 ru ry q3) fun w4 s4 ⟨z, H3, I4, rz, dx', fs', ea', l', q4⟩ => ?_
  exact setattr_ok I4 ea' c n l' rz fun s5 I5 => ⟨σ, _, I5, q4⟩
def rAdd : V → V → Hp → VK → Prop := fun x y H Q => ∃ i j, x = .int i ∧ y = .int j ∧ Q (.int (i + j)) H
def rSub : V → V → Hp → VK → Prop := fun x y H Q => ∃ i j, x = .int i ∧ y = .int j ∧ Q (.int (i - j)) H
theorem in_add : InOp X .Add rAdd := by
  rintro pins s σ H x y u v Q I rx ry ⟨i, j, rfl, rfl, q⟩
  obtain ⟨t, rfl⟩ := (show ∃ t, u = Value.int i t from rx)
  obtain ⟨t', rfl⟩ := (show ∃ t', v = Value.int j t' from ry)
  exact PyProof.Rows.iadd_int ⟨.int (i + j), H, I.tok _, ⟨_, rfl⟩, q⟩
theorem in_sub : InOp X .Sub rSub := by
  rintro pins s σ H x y u v Q I rx ry ⟨i, j, rfl, rfl, q⟩
  obtain ⟨t, rfl⟩ := (show ∃ t, u = Value.int i t from rx)
  obtain ⟨t', rfl⟩ := (show ∃ t', v = Value.int j t' from ry)
  exact PyProof.Rows.isub_int ⟨.int (i - j), H, I.tok _, ⟨_, rfl⟩, q⟩

/-- what is between an instance and its method: the tree of a method call -/
theorem methcall_of {pl : Sem Bool} {m : Str} {apos : Pos} {args : List Expr} {pins : List (Addr × Obj)} {s : Shared} {σ : St} {H : Hp} {Q : Value → Shared → Prop} {te : TE} (he : PE X e te) (I : Inv X pins σ H s)
    (h : te σ H fun x H1 => ∃ a C dx fs g, x = .ref a ∧ H1 a = some (.ins C dx fs) ∧ Cls X.K C ∧ Meth X.K C m g ∧ fs.lookup m = none ∧
      ∀ s1, Inv X pins σ H1 s1 → wpAny (model X.prog X.w) X.A (callWith pos (.ref g) [.ref a] (backTo pos (starEach args X.env)) (backToKw pos (keywordEach [] X.env))) Q X.xe s1)
    (ht : eval (.Call (.Attribute e m apos) args [] pos) X.env = (do
      let ov ← eval e X.env
      standAt apos.atName
      let (f, first) ← holding [ov] (getMethod ov m pl)
      callWith pos f first (backTo pos (starEach args X.env)) (backToKw pos (keywordEach [] X.env)))) :
    wpAny (model X.prog X.w) X.A (eval (.Call (.Attribute e m apos) args [] pos) X.env) Q X.xe s := by
  refine PySem.W.methodCall_KW (pl := pl) (thn (he pins s σ H _ I h) fun u s1 ⟨x, H1, I1, rx, a, C, dx, fs, g, ex, ea, c, k, l, q⟩ => ?_) ht
  subst ex
  obtain rfl : u = Value.ref a := rx
  exact getmeth_ok I1 ea c k l (q s1 I1)
end

/-! ### isinstance -/
section
variable {X : Cx} {pins : List (Addr × Obj)} {σ : St} {H : Hp} {s : Shared} {A : Around} {E : Value → Shared → Prop} {Q : Value → Shared → Prop} {c : Value} {b : Bool}
/-- the type of a value, as the fragment's deciders take it; for an instance its class -/
inductive TyOf (K : PySem.W.Frag) (H : Hp) : V → Value → Prop where
  | non : TyOf K H .non (.type "NoneType")
  | bl (x : Bool) : TyOf K H (.bl x) (.type "bool")
  | int (i : Int) : TyOf K H (.int i) (.type "int")
  | str (x : Str) : TyOf K H (.str x) (.type "str")
  | flt (x : UInt64) : TyOf K H (.flt x) (.type "float")
  | lst {a : Addr} {xs : List V} (e : H a = some (.lst xs)) : TyOf K H (.ref a) (.type "list")
  | frz {a : Addr} {o : Obj} {xs : List V} (e : H a = some (.frz o (.lst xs))) : TyOf K H (.ref a) (.type "list")
  | tup {a : Addr} {xs : List V} (e : H a = some (.tup xs)) : TyOf K H (.ref a) (.type "tuple")
  | dK {a : Addr} {kvs : List (Key × V)} (e : H a = some (.dK kvs)) : TyOf K H (.ref a) (.type "dict")
  | dT {a : Addr} {kvs : List (List Key × V)} (e : H a = some (.dT kvs)) : TyOf K H (.ref a) (.type "dict")
  | ins {a C dx : Addr} {fs : List (Str × V)} (e : H a = some (.ins C dx fs)) (cl : Cls K C) (ha : PySem.W.findIn K (.ref C) "__class__" = some (some (.builtin "object.__class__")))
      (hn : PySem.W.specialIn K (.builtin "object.__class__") "__get__" = some (some (.builtin "getset_descriptor.__get__"))) (htk : PySem.W.takesIn K (.builtin "object.__class__") = some true)
      (hm : PySem.W.mroIn K C (.type "object") = some true) : TyOf K H (.ref a) (.ref C)
/-- isinstance(x, c) for one class c, a built-in or an own one: kitOne's answer -/
theorem isinst_ok {x : V} {u t : Value} (I : Inv X pins σ H s) (rx : RelV x u) (ty : TyOf X.K H x t) (e : PySem.W.kitOne X.K t c = some b) (h : ∀ tk, Q (.bool b) { s with toks := tk }) :
    wpAny (model X.prog X.w) A (call (.builtin "isinstance") [u, c]) Q E s := by
  cases ty with
  | non => cases (show u = Value.none from rx); exact PySem.W.kia_one PySem.W.kitx_none I.kIn True.intro e (fun z => nomatch z) h
  | bl y => cases (show u = Value.bool y from rx); exact PySem.W.kia_one PySem.W.kitx_bool I.kIn True.intro e (fun z => nomatch z) h
  | int i => obtain ⟨t, q⟩ := (show ∃ t, u = Value.int i t from rx); cases q; exact PySem.W.kia_one PySem.W.kitx_int I.kIn True.intro e (fun z => nomatch z) h
  | str y => obtain ⟨t, q⟩ := (show ∃ t, u = Value.str y t from rx); cases q; exact PySem.W.kia_one PySem.W.kitx_str I.kIn True.intro e (fun z => nomatch z) h
  | flt y => obtain ⟨t, q⟩ := (show ∃ t, u = Value.float y t from rx); cases q; exact PySem.W.kia_one PySem.W.kitx_float I.kIn True.intro e (fun z => nomatch z) h
  | @lst a xs ea =>
    cases (show u = Value.ref a from rx)
    obtain ⟨_, _, n, _, h1⟩ := (show ObjOk X.prog X.w H s.heap a (.lst xs) from I.hok a _ ea)
    exact PySem.W.kia_one PySem.W.kitx_list I.kIn ⟨_, h1, rfl⟩ e (fun z => nomatch z) h
  | @frz a ob xs ea =>
    cases (show u = Value.ref a from rx)
    obtain ⟨_, _, _, n, _, h1⟩ := (show ObjOk X.prog X.w H s.heap a (.frz ob (.lst xs)) from I.hok a _ ea)
    exact PySem.W.kia_one PySem.W.kitx_list I.kIn ⟨_, h1, rfl⟩ e (fun z => nomatch z) h
  | @tup a xs ea =>
    cases (show u = Value.ref a from rx)
    obtain ⟨_, _, _, p⟩ := (show ObjOk X.prog X.w H s.heap a (.tup xs) from I.hok a _ ea)
    obtain ⟨o, h1, h2, _⟩ := p
    exact PySem.W.kia_one PySem.W.kitx_tuple I.kIn ⟨o, h1, h2⟩ e (fun z => nomatch z) h
  | @dK a kvs ea =>
    cases (show u = Value.ref a from rx)
    obtain ⟨_, _, vs, _, p⟩ := (show ObjOk X.prog X.w H s.heap a (.dK kvs) from I.hok a _ ea)
    obtain ⟨o, es, ep, h1, h2, _⟩ := p
    exact PySem.W.kia_one PySem.W.kitx_dict I.kIn ⟨o, h1, h2.1⟩ e (fun z => nomatch z) h
  | @dT a kvs ea =>
    cases (show u = Value.ref a from rx)
    obtain ⟨_, _, xs, _, o, es, ep, h1, h2, _⟩ := (show ObjOk X.prog X.w H s.heap a (.dT kvs) from I.hok a _ ea)
    exact PySem.W.kia_one PySem.W.kitx_dict I.kIn ⟨o, h1, h2.1⟩ e (fun z => nomatch z) h
  | @ins a C dx fs ea cl ha hn htk hm =>
    cases (show u = Value.ref a from rx)
    obtain ⟨mA, O, _⟩ := ins_get I.hok ea
    obtain ⟨od, J, _⟩ := O.look
    exact PySem.W.kia_one (PySem.W.kitx_own (cl.get _) cl.hd ha hn htk hm) I.kIn J e (fun z => nomatch z) h
end
end L2

namespace L2
open PySem PySem.Spec PyProof.Rows

/-! ### room -/
structure Room (k : Nat) (A : Around) : Prop where
  hd : A.handled = none
  dp : A.depth + 3 * k + 5 < recursionLimit
  un : A.units + 16 * k + 200 < cLine
theorem Room.mono {j k : Nat} {A : Around} (r : Room k A) (h : j ≤ k) : Room j A := ⟨r.hd, by have := r.dp; omega, by have := r.un; omega⟩
theorem Room.deeper {k : Nat} {A : Around} (r : Room (k + 1) A) (env : Env) : Room k (A.deeper env) :=
  ⟨r.hd, by have := r.dp; show A.depth + 1 + 3 * k + 5 < _; omega, by have := r.un; show A.units + 3 + 16 * k + 200 < _; omega⟩
theorem Room.in1 {k : Nat} {A : Around} (r : Room (k + 1) A) : Room k A.in1 :=
  ⟨r.hd, by have := r.dp; show A.depth + 3 * k + 5 < _; omega, by have := r.un; show A.units + 1 + 16 * k + 200 < _; omega⟩
theorem make_depth {A : Around} {C : Addr} {us : List Value} {kw : List (Str × Value)} : (A.under (.builtin "type.__call__" ⟨.ref C :: us, kw⟩)).depth = A.depth + 1 := by
  first | rfl | simp [Around.under, Code.weight, Code.isCreation, Code.isGuard, Code.isCaller, Code.frames, Code.isFrame, guardIds]
theorem make_units {A : Around} {C : Addr} {us : List Value} {kw : List (Str × Value)} : (A.under (.builtin "type.__call__" ⟨.ref C :: us, kw⟩)).units = A.units + 1 := by
  first | rfl | simp [Around.under, Code.cUnits, Code.frames, Code.isFrame]
theorem Room.make {k : Nat} {A : Around} (r : Room (k + 1) A) (C : Addr) (us : List Value) (kw : List (Str × Value)) : Room k (A.under (.builtin "type.__call__" ⟨.ref C :: us, kw⟩)) :=
  ⟨r.hd, by have := r.dp; rw [make_depth]; omega, by have := r.un; rw [make_units]; omega⟩
theorem Room.depth {k : Nat} {A : Around} (r : Room k A) : A.depth < recursionLimit := by have := r.dp; omega
theorem Room.units {k : Nat} {A : Around} (r : Room k A) : A.units + 64 < cLine := by have := r.un; omega
theorem Room.units0 {k : Nat} {A : Around} (r : Room k A) : A.units < cLine := by have := r.un; omega

/-! ### argument lists and displays -/
def tNil : TA := fun _ H Q => Q [] H
def tCons (ta : TE) (tr : TA) : TA := fun σ H Q => ta σ H fun x H1 => tr σ H1 fun xs H2 => Q (x :: xs) H2
section
variable {X : Cx} {e : Expr} {es : List Expr} {te : TE} {t : TA} {pos : Pos}
theorem pa_nil : PA X [] tNil := fun _ _ _ _ H Q I h => Calls.spliced_nil ⟨[], H, I, .nil, h⟩
theorem pa_cons (ha : PE X e te) (hr : PA X es t) (hs : starEach (e :: es) X.env = (false, eval e X.env) :: starEach es X.env := by rfl) : PA X (e :: es) (tCons te t) := by
  intro pos pins s σ H Q I h
  rw [hs]
  show wpAny _ _ (spliced ((false, eval e X.env) :: backTo pos (starEach es X.env))) _ _ s
  refine Calls.spliced_cons (thn (ha pins s σ H _ I h) fun u s1 ⟨x, H1, I1, r1, q1⟩ => ?_)
  exact thn (hr pos pins s1 σ H1 _ I1 q1) fun us s2 ⟨xs, H2, I2, r2, q2⟩ => ⟨x :: xs, H2, I2, .cons r1 r2, q2⟩

/-- a tuple, a list of written items -/
def tTup (t : TA) : TE := fun σ H Q => t σ H fun xs H1 => xs.length ≤ sizeLine ∧ ∀ p, H1 p = none → Q (.ref p) (upd H1 p (.tup xs))
def tLst (t : TA) : TE := fun σ H Q => t σ H fun xs H1 => xs.length ≤ sizeLine ∧ ∀ p, H1 p = none → Q (.ref p) (upd H1 p (.lst xs))
theorem pe_tup {x1} (h : PA X es t) : PE X (.Tuple es x1 pos) (tTup t) := by
  intro pins s σ H Q I hq
  refine wpAny_Tuple_spliced (thn (h pos pins s σ H _ I hq) fun us s1 ⟨xs, H1, I1, r, z, q⟩ => ⟨by rw [← r.length]; exact z, ?_⟩)
  have hf : H1 s1.heap.objs.size = none := I1.hok.fresh (Nat.le_refl _)
  refine ⟨.ref s1.heap.objs.size, upd H1 s1.heap.objs.size (.tup xs), I1.laid (t' := s1.toks) (fun b u e => Heap.get?_push_of_some _ e) (Nat.le_refl _) ?_, rfl, q _ hf⟩
  exact ⟨z, us, r, ⟨_, Heap.get?_push_size _ rfl, rfl, _, rfl⟩⟩
theorem pe_lst (h : PA X es t) : PE X (.List es pos) (tLst t) := by
  intro pins s σ H Q I hq
  refine wpAny_List_spliced (thn (h pos pins s σ H _ I hq) fun us s1 ⟨xs, H1, I1, r, z, q⟩ => ⟨by rw [← r.length]; exact z, ?_⟩)
  have hf : H1 s1.heap.objs.size = none := I1.hok.fresh (Nat.le_refl _)
  refine ⟨.ref s1.heap.objs.size, upd H1 s1.heap.objs.size (.lst xs), I1.laid (t' := s1.toks) (fun b u e => Heap.get?_push_of_some _ e) (Nat.le_refl _) ?_, rfl, q _ hf⟩
  exact ⟨z, us, 0, r, Heap.get?_push_size _ rfl⟩
end

/-! ### what a def promises -/
/-- a def's promise: the bound arguments in the parameters' order, the heap, the wanted end, the wanted exception -/
abbrev Sp := List V → Hp → VK → XK → Prop
/-- how an exception lies behind a call (file 08 gives it): the callers' frames, abstract heap and state ahead of the call, the wish, the exception, the state -/
abbrev CXT := List Env → Hp → Shared → XK → Value → Shared → Prop

/-- the state at a call -/
structure Env0 (P : Program) (w : World) (K : PySem.W.Frag) (mg : Str → Option Value) (base : Heap) (A : Around) (outer : List Env) (s : Shared) (H : Hp) : Prop where
  frames : A.frames = some outer
  mod : Mod K mg base
  bs : ∀ b o, base.get? b = some o → s.heap.get? b = some o ∧ H b = none
  bsz : base.objs.size ≤ s.heap.objs.size
  funs : s.heap.FunFrames base outer
  frf : ∀ b ∈ frs outer, H b = none
  hok : HOk P w H s.heap
  bare : AllBare s.gens
/-- a call's end -/
def CE (outer : List Env) (P : Program) (w : World) (H : Hp) (s : Shared) (Q : VK) (u : Value) (s' : Shared) : Prop :=
  ∃ v H', s'.os = s.os ∧ AllBare s'.gens ∧ Un (frs outer) [] H H' s.heap s'.heap ∧ HOk P w H' s'.heap ∧ RelV v u ∧ Q v H'
def CR (CX : CXT) (outer : List Env) (P : Program) (w : World) (H : Hp) (s : Shared) (Q : VK) (E : XK) (r : Result) (s' : Shared) : Prop :=
  match r with
  | .ok (.ret u) => CE outer P w H s Q u s'
  | .ok _ => False
  | .error e => CX outer H s E e s'
structure FnOk (P : Program) (w : World) (K : PySem.W.Frag) (mg : Str → Option Value) (base : Heap) (CX : CXT) (k : Nat) (f : Addr) (fd : FuncData) (ps : List Str) (sp : Sp) : Prop where
  len : ∀ vs H Q E, sp vs H Q E → vs.length = ps.length
  run : ∀ (A : Around) (outer : List Env) (s : Shared) (H : Hp) (args : Args) (us : List Value) (vs : List V) (Q : VK) (E : XK), Room k A → Env0 P w K mg base A outer s H → BindsTo s fd args (ps.zip us) → Vals vs us → sp vs H Q E →
    codeAny (model P w) A (.call (.ref f) args) (CR CX outer P w H s Q E) s
theorem FnOk.mono {P : Program} {w : World} {K : PySem.W.Frag} {mg : Str → Option Value} {base : Heap} {CX : CXT} {j k : Nat} {f : Addr} {fd : FuncData} {ps : List Str} {sp : Sp} (F : FnOk P w K mg base CX j f fd ps sp) (h : j ≤ k) :
    FnOk P w K mg base CX k f fd ps sp := ⟨F.len, fun A outer s H args us vs Q E hr => F.run A outer s H args us vs Q E (hr.mono h)⟩
/-- a weaker promise -/
theorem FnOk.imp {P : Program} {w : World} {K : PySem.W.Frag} {mg : Str → Option Value} {base : Heap} {CX : CXT} {k : Nat} {f : Addr} {fd : FuncData} {ps : List Str} {sp sp' : Sp} (F : FnOk P w K mg base CX k f fd ps sp)
    (h : ∀ vs H Q E, sp' vs H Q E → sp vs H Q E) : FnOk P w K mg base CX k f fd ps sp' :=
  ⟨fun vs H Q E q => F.len vs H Q E (h _ _ _ _ q), fun A outer s H args us vs Q E hr he hb hv hs => F.run A outer s H args us vs Q E hr he hb hv (h _ _ _ _ hs)⟩

theorem Env0.make {P : Program} {w : World} {K : PySem.W.Frag} {mg : Str → Option Value} {base : Heap} {A : Around} {outer : List Env} {s : Shared} {H : Hp} (e : Env0 P w K mg base A outer s H) (C : Addr) (us : List Value) (kw : List (Str × Value)) :
    Env0 P w K mg base (A.under (.builtin "type.__call__" ⟨.ref C :: us, kw⟩)) outer s H := ⟨by first | exact e.frames | (simpa [Around.under, Code.envs, Code.isFrame, pushEnvs] using e.frames), e.mod, e.bs, e.bsz, e.funs, e.frf, e.hok, e.bare⟩
theorem Env0.in1 {P : Program} {w : World} {K : PySem.W.Frag} {mg : Str → Option Value} {base : Heap} {A : Around} {outer : List Env} {s : Shared} {H : Hp} (e : Env0 P w K mg base A outer s H) :
    Env0 P w K mg base A.in1 outer s H := ⟨e.frames, e.mod, e.bs, e.bsz, e.funs, e.frf, e.hok, e.bare⟩

section
variable {X : Cx} {pins : List (Addr × Obj)} {σ : St} {H : Hp} {s s' : Shared}
/-- from a body: what a callee wants -/
theorem Inv.env0 (I : Inv X pins σ H s) : Env0 X.prog X.w X.K X.mg X.base X.A X.stack s H :=
  ⟨I.ok.frames, I.ok.mod, I.bs, Nat.le_trans I.ok.bsz I.sz, I.stack, I.stkFree, I.hok, I.bare⟩
/-- behind a call -/
theorem Inv.after {Q : VK} {u : Value} (I : Inv X pins σ H s) (h : CE X.stack X.prog X.w H s Q u s') : EP X pins σ Q u s' := by
  obtain ⟨v, H', os, bare, un, hok, r, q⟩ := h
  obtain ⟨hh, g, d, t, os'⟩ := s'
  obtain rfl : os' = s.os := os
  exact ⟨v, H', I.call (h' := hh) (g' := g) (d' := d) (t' := t) (ch := []) un hok bare (fun b z => absurd z (by simp)), r, q⟩
end

/-! ### calls -/
/-- f(..): the written arguments, then the defaults dvs; E: what is wanted of an exception -/
def tCall (sp : Sp) (dvs : List V) (E : XK) (t : TA) : TE := fun σ H Q => t σ H fun vs H1 => sp (vs ++ dvs) H1 Q E
/-- o.m(..) of an instance of the class at C -/
def tMeth (C : Addr) (m : Str) (sp : Sp) (dvs : List V) (E : XK) (ta : TE) (t : TA) : TE := fun σ H Q => ta σ H fun x H1 => ∃ a dx fs, x = .ref a ∧ H1 a = some (.ins C dx fs) ∧ fs.lookup m = none ∧
  t σ H1 fun vs H2 => sp (x :: (vs ++ dvs)) H2 Q E
/-- C(..): a new instance and its dict, then __init__ -/
def tMake (C : Addr) (sp : Sp) (dvs : List V) (E : XK) (t : TA) : TE := fun σ H Q => t σ H fun vs H1 => ∀ x dx, H1 x = none → H1 dx = none → dx ≠ x →
  sp (.ref x :: (vs ++ dvs)) (upd (upd H1 dx (.own x)) x (.ins C dx [])) (fun v H2 => v = .non ∧ Q (.ref x) H2) E

/-- how the parameters are bound: us the positional arguments, kw the keywords' values by name, ds the defaults that fill up -/
def Binds (K : PySem.W.Frag) (fd : FuncData) (ps : List Str) (ds : List Value) : Prop :=
  ∀ (s : Shared) (us : List Value), K.In s.heap → (us ++ ds).length = ps.length → BindsTo s fd ⟨us, []⟩ (ps.zip (us ++ ds))
/-- every parameter is given -/
theorem Binds.all {K : PySem.W.Frag} {fd : FuncData} {ps : List Str} (h : ∀ us : List Value, us.length = ps.length → bindArgs fd ⟨us, []⟩ = pure (ps.zip us)) : Binds K fd ps [] := fun s us _ hl => by
  rw [List.append_nil] at hl ⊢
  exact .of_eq (h us hl)

/-- an exception of a callee reaches what this body wants of exceptions -/
def Passes (CX : CXT) (X : Cx) (E : XK) : Prop := ∀ (pins : List (Addr × Obj)) (σ : St) (H : Hp) (s : Shared) (e : Value) (s' : Shared), Inv X pins σ H s → CX X.stack H s E e s' → X.xe e s'

section
variable {X : Cx} {CX : CXT} {k : Nat} {f C : Addr} {fd : FuncData} {ps : List Str} {sp : Sp} {dvs : List V} {ds : List Value} {E : XK} {x m : Str} {p pos apos : Pos} {e o : Expr} {es : List Expr} {ta : TE} {t : TA}

/-- the callee runs -/
theorem run_fn {pins : List (Addr × Obj)} {σ : St} {H : Hp} {s : Shared} {Q : VK} {us : List Value} {vs : List V} (F : FnOk X.prog X.w X.K X.mg X.base CX k f fd ps sp) (hr : Room k X.A) (hb : Binds X.K fd ps ds) (hd : Vals dvs ds) (hx : Passes CX X E)
    (I : Inv X pins σ H s) (r : Vals vs us) (h : sp (vs ++ dvs) H Q E) : wpAny (model X.prog X.w) X.A (call (.ref f) us) (EP X pins σ Q) X.xe s := by
  have r2 : Vals (vs ++ dvs) (us ++ ds) := r.append hd
  have hl : (us ++ ds).length = ps.length := by rw [← r2.length]; exact F.len _ _ _ _ h
  refine wpAny_call (codeAny_mono (F.run X.A X.stack s H ⟨us, []⟩ (us ++ ds) (vs ++ dvs) Q E hr I.env0 (hb s us I.kIn hl) r2 h) fun r s' hq => ?_)
  cases r with
  | error e => exact hx pins σ H s e s' I hq
  | ok fl =>
    cases fl with
    | ret u => exact I.after hq
    | next => exact False.elim hq
    | brk => exact False.elim hq
    | cont => exact False.elim hq

theorem pe_call (F : FnOk X.prog X.w X.K X.mg X.base CX k f fd ps sp) (hr : Room k X.A) (hg : Gl X x) (hm : X.mg x = some (.ref f)) (hk : PySem.W.keepIn X.K (.ref f) = true) (hb : Binds X.K fd ps ds) (hd : Vals dvs ds) (hx : Passes CX X E)
    (ha : PA X (e :: es) t) (hdb : (x == ("__debug__" : Str)) = false := by decide) (he : starEach (e :: es) X.env = (false, eval e X.env) :: starEach es X.env := by rfl) (hpl : (backTo pos (starEach es X.env)).any (·.1) = false := by rfl) :
    PE X (.Call (.Name x p) (e :: es) [] pos) (tCall sp dvs E t) := by
  intro pins s σ H Q I h
  refine wpAny_Call_Name_kw (ld_glob I hg hm ?_ hdb)
  refine PySem.W.callWith_K (h₀ := X.base) I.ok.mod.kin hk (thn (ha pos pins s σ H _ I h) fun us s1 ⟨vs, H1, I1, r, q⟩ => ⟨I1.kIn, ?_⟩) he hpl
  exact run_fn F hr hb hd hx I1 r q
theorem pe_call0 (F : FnOk X.prog X.w X.K X.mg X.base CX k f fd ps sp) (hr : Room k X.A) (hg : Gl X x) (hm : X.mg x = some (.ref f)) (hk : PySem.W.keepIn X.K (.ref f) = true) (hb : Binds X.K fd ps ds) (hd : Vals dvs ds) (hx : Passes CX X E)
    (hdb : (x == ("__debug__" : Str)) = false := by decide) : PE X (.Call (.Name x p) [] [] pos) (tCall sp dvs E tNil) := by
  intro pins s σ H Q I h
  refine wpAny_Call_Name_kw (ld_glob I hg hm ?_ hdb)
  exact PySem.W.callWith_K0 I.kIn hk (run_fn (us := []) F hr hb hd hx I .nil h)

/-- o.m(e, ..) -/
theorem pe_meth {pl : Sem Bool} (he : PE X o ta) (c : Cls X.K C) (hm : Meth X.K C m f) (F : FnOk X.prog X.w X.K X.mg X.base CX k f fd ps sp) (hr : Room k X.A) (hb : Binds X.K fd ps ds) (hd : Vals dvs ds) (hx : Passes CX X E) (ha : PA X (e :: es) t)
    (hst : starEach (e :: es) X.env = (false, eval e X.env) :: starEach es X.env := by rfl) (hpl : (backTo pos (starEach es X.env)).any (·.1) = false := by rfl)
    (ht : eval (.Call (.Attribute o m apos) (e :: es) [] pos) X.env = (do
      let ov ← eval o X.env
      standAt apos.atName
      let (f, first) ← holding [ov] (getMethod ov m pl)
      callWith pos f first (backTo pos (starEach (e :: es) X.env)) (backToKw pos (keywordEach [] X.env))) := by rfl) :
    PE X (.Call (.Attribute o m apos) (e :: es) [] pos) (tMeth C m sp dvs E ta t) := by
  intro pins s σ H Q I h
  refine PySem.W.methodCall_KW (pl := pl) (thn (he pins s σ H _ I h) fun u s1 ⟨x, H1, I1, rx, a, dx, fs, ex, ea, l, q⟩ => ?_) ht
  subst ex
  obtain rfl : u = Value.ref a := rx
  refine getmeth_ok I1 ea c hm l ?_
  refine PySem.W.callWith_K (first := [.ref a]) (h₀ := X.base) I.ok.mod.kin hm.kp (thn (ha pos pins s1 σ H1 _ I1 q) fun us s2 ⟨vs, H2, I2, r, q2⟩ => ⟨I2.kIn, ?_⟩) hst hpl
  exact run_fn (us := .ref a :: us) (vs := .ref a :: vs) F hr hb hd hx I2 (.cons rfl r) q2
/-- o.m() -/
theorem pe_meth0 {pl : Sem Bool} (he : PE X o ta) (c : Cls X.K C) (hm : Meth X.K C m f) (F : FnOk X.prog X.w X.K X.mg X.base CX k f fd ps sp) (hr : Room k X.A) (hb : Binds X.K fd ps ds) (hd : Vals dvs ds) (hx : Passes CX X E)
    (ht : eval (.Call (.Attribute o m apos) [] [] pos) X.env = (do
      let ov ← eval o X.env
      standAt apos.atName
      let (f, first) ← holding [ov] (getMethod ov m pl)
      callWith pos f first (backTo pos (starEach [] X.env)) (backToKw pos (keywordEach [] X.env))) := by rfl) :
    PE X (.Call (.Attribute o m apos) [] [] pos) (tMeth C m sp dvs E ta tNil) := by
  intro pins s σ H Q I h
  refine PySem.W.methodCall_KW (pl := pl) (thn (he pins s σ H _ I h) fun u s1 ⟨x, H1, I1, rx, a, dx, fs, ex, ea, l, q⟩ => ?_) ht
  subst ex
  obtain rfl : u = Value.ref a := rx
  refine getmeth_ok I1 ea c hm l ?_
  exact PySem.W.callWith_K0 (first := [.ref a]) I1.kIn hm.kp (run_fn (us := [.ref a]) (vs := [.ref a]) F hr hb hd hx I1 (.cons rfl .nil) q)

/-- what a class must have to be made -/
structure Mk (K : PySem.W.Frag) (C f : Addr) : Prop where
  makes : PySem.W.makesIn K C = true
  init : PySem.W.findIn K (.ref C) "__init__" = some (some (.ref f))
  fn : PySem.W.isFn K (.ref f) = true
  kp : PySem.W.keepIn K (.ref C) = true

theorem run_make {pins : List (Addr × Obj)} {σ : St} {H : Hp} {s : Shared} {Q : VK} {us : List Value} {vs : List V} (M : Mk X.K C f) (F : FnOk X.prog X.w X.K X.mg X.base CX k f fd ps sp) (hr : Room (k + 1) X.A) (hb : Binds X.K fd ps ds) (hd : Vals dvs ds)
    (hx : Passes CX X E) (I : Inv X pins σ H s) (r : Vals vs us)
    (h : ∀ x dx, H x = none → H dx = none → dx ≠ x → sp (.ref x :: (vs ++ dvs)) (upd (upd H dx (.own x)) x (.ins C dx [])) (fun v H2 => v = .non ∧ Q (.ref x) H2) E) :
    wpAny (model X.prog X.w) X.A (call (.ref C) us) (EP X pins σ Q) X.xe s := by
  have hq := h (s.heap.objs.size + 1) s.heap.objs.size (I.hok.fresh (Nat.le_succ _)) (I.hok.fresh (Nat.le_refl _)) (Nat.ne_of_lt (Nat.lt_succ_self _))
  have I2 := Inv.made (C := C) I
  have r2 : Vals (V.ref (s.heap.objs.size + 1) :: (vs ++ dvs)) (Value.ref (s.heap.objs.size + 1) :: (us ++ ds)) := .cons rfl (r.append hd)
  have hl : (Value.ref (s.heap.objs.size + 1) :: us ++ ds).length = ps.length := by
    have e := r2.length
    rw [F.len _ _ _ _ hq] at e
    exact e.symm
  refine wpAny_call (make_map (f := f) I.kIn M.makes M.init (beq_iff_eq.mp M.fn) (codeAny_mono (F.run _ X.stack _ _ ⟨Value.ref (s.heap.objs.size + 1) :: us, []⟩ (Value.ref (s.heap.objs.size + 1) :: (us ++ ds)) _ _ E (hr.make C us [])
    (I2.env0.make C us []) (hb _ (Value.ref (s.heap.objs.size + 1) :: us) I2.kIn hl) r2 hq) fun r s' hq' => ?_))
  cases r with
  | error e => exact hx pins σ _ _ e s' I2 hq'
  | ok fl =>
    cases fl with
    | ret u =>
      obtain ⟨v, H', I3, rv, ev, q3⟩ := I2.after hq'
      subst ev
      exact ⟨rv, ⟨V.ref (s.heap.objs.size + 1), H', I3, rfl, q3⟩⟩
    | next => exact False.elim hq'
    | brk => exact False.elim hq'
    | cont => exact False.elim hq'
theorem pe_make (M : Mk X.K C f) (F : FnOk X.prog X.w X.K X.mg X.base CX k f fd ps sp) (hr : Room (k + 1) X.A) (hg : Gl X x) (hm : X.mg x = some (.ref C)) (hb : Binds X.K fd ps ds) (hd : Vals dvs ds) (hx : Passes CX X E)
    (ha : PA X (e :: es) t) (hdb : (x == ("__debug__" : Str)) = false := by decide) (he : starEach (e :: es) X.env = (false, eval e X.env) :: starEach es X.env := by rfl) (hpl : (backTo pos (starEach es X.env)).any (·.1) = false := by rfl) :
    PE X (.Call (.Name x p) (e :: es) [] pos) (tMake C sp dvs E t) := by
  intro pins s σ H Q I h
  refine wpAny_Call_Name_kw (ld_glob I hg hm ?_ hdb)
  refine PySem.W.callWith_K (h₀ := X.base) I.ok.mod.kin M.kp (thn (ha pos pins s σ H _ I h) fun us s1 ⟨vs, H1, I1, r, q⟩ => ⟨I1.kIn, ?_⟩) he hpl
  exact run_make M F hr hb hd hx I1 r q
theorem pe_make0 (M : Mk X.K C f) (F : FnOk X.prog X.w X.K X.mg X.base CX k f fd ps sp) (hr : Room (k + 1) X.A) (hg : Gl X x) (hm : X.mg x = some (.ref C)) (hb : Binds X.K fd ps ds) (hd : Vals dvs ds) (hx : Passes CX X E)
    (hdb : (x == ("__debug__" : Str)) = false := by decide) : PE X (.Call (.Name x p) [] [] pos) (tMake C sp dvs E tNil) := by
  intro pins s σ H Q I h
  refine wpAny_Call_Name_kw (ld_glob I hg hm ?_ hdb)
  exact PySem.W.callWith_K0 I.kIn M.kp (run_make (us := []) M F hr hb hd hx I .nil h)
end

/-! ### keywords -/
/-- the values of the keywords, from the left -/
def PK (X : Cx) (kws : List Keyword) (t : TA) : Prop :=
  ∀ (pos : Pos) (pins : List (Addr × Obj)) (s : Shared) (σ : St) (H : Hp) (Q : List V → Hp → Prop), Inv X pins σ H s → t σ H Q → wpAny (model X.prog X.w) X.A (evalAll ((backToKw pos (keywordEach kws X.env)).map (·.2))) (AP X pins σ Q) X.xe s
section
variable {X : Cx} {CX : CXT} {k : Nat} {f C : Addr} {fd : FuncData} {ps ks : List Str} {sp : Sp} {E : XK} {x m : Str} {p pos apos kpos : Pos} {e o : Expr} {es : List Expr} {kws : List Keyword} {te ta : TE} {t tk : TA} {nm : Option Str}
theorem pk_nil : PK X [] tNil := fun _ _ _ _ H Q I h => wpAny_evalAll_nil ⟨[], H, I, .nil, h⟩
theorem pk_cons (ha : PE X e te) (hr : PK X kws t) : PK X (⟨nm, e, kpos⟩ :: kws) (tCons te t) := by
  intro pos pins s σ H Q I h
  show wpAny _ _ (evalAll ((do let v ← eval e X.env; standAt pos; pure v) :: (backToKw pos (keywordEach kws X.env)).map (·.2))) _ _ s
  refine wpAny_evalAll_cons (wpAny_bind (thn (ha pins s σ H _ I h) fun u s1 ⟨x, H1, I1, r1, q1⟩ => wpAny_bind (wpAny_standAt (wpAny_pure ?_))))
  exact thn (hr pos pins s1 σ H1 _ I1 q1) fun us s2 ⟨xs, H2, I2, r2, q2⟩ => ⟨x :: xs, H2, I2, .cons r1 r2, q2⟩

/-- how a call with keywords binds: g puts the positional values us and the keywords' values ws (names ks) in the parameters' order, defaults among them -/
structure KBinds (K : PySem.W.Frag) (fd : FuncData) (ps ks : List Str) (g : List Value → List Value → List Value) (gV : List V → List V → List V) : Prop where
  to : ∀ (s : Shared) (us ws : List Value), K.In s.heap → (g us ws).length = ps.length → BindsTo s fd ⟨us, ks.zip ws⟩ (ps.zip (g us ws))
  rel : ∀ {vs : List V} {us : List Value} {zs : List V} {ws : List Value}, Vals vs us → Vals zs ws → Vals (gV vs zs) (g us ws)
def tCallK (sp : Sp) (gV : List V → List V → List V) (E : XK) (t tk : TA) : TE := fun σ H Q => t σ H fun vs H1 => tk σ H1 fun zs H2 => sp (gV vs zs) H2 Q E
variable {g : List Value → List Value → List Value} {gV : List V → List V → List V}
theorem run_fnk {pins : List (Addr × Obj)} {σ : St} {H : Hp} {s : Shared} {Q : VK} {us ws : List Value} {vs zs : List V} (F : FnOk X.prog X.w X.K X.mg X.base CX k f fd ps sp) (hr : Room k X.A) (hb : KBinds X.K fd ps ks g gV) (hx : Passes CX X E)
    (I : Inv X pins σ H s) (r : Vals vs us) (rz : Vals zs ws) (h : sp (gV vs zs) H Q E) : wpAny (model X.prog X.w) X.A (call (.ref f) us (ks.zip ws)) (EP X pins σ Q) X.xe s := by
  have r2 := hb.rel r rz
  have hl : (g us ws).length = ps.length := by rw [← r2.length]; exact F.len _ _ _ _ h
  refine wpAny_call (codeAny_mono (F.run X.A X.stack s H ⟨us, ks.zip ws⟩ (g us ws) (gV vs zs) Q E hr I.env0 (hb.to s us ws I.kIn hl) r2 h) fun r s' hq => ?_)
  cases r with
  | error e => exact hx pins σ H s e s' I hq
  | ok fl =>
    cases fl with
    | ret u => exact I.after hq
    | next => exact False.elim hq
    | brk => exact False.elim hq
    | cont => exact False.elim hq
/-- f(e, .., k = v, ..) -/
theorem pe_callK (F : FnOk X.prog X.w X.K X.mg X.base CX k f fd ps sp) (hr : Room k X.A) (hg : Gl X x) (hm : X.mg x = some (.ref f)) (hk : PySem.W.keepIn X.K (.ref f) = true) (hb : KBinds X.K fd ps ks g gV) (hx : Passes CX X E)
    (ha : PA X (e :: es) t) (hkw : PK X kws tk) (hall : (backToKw pos (keywordEach kws X.env)).all (·.1.isSome) = true := by rfl) (hks : (backToKw pos (keywordEach kws X.env)).filterMap (·.1) = ks := by rfl)
    (hdb : (x == ("__debug__" : Str)) = false := by decide) (he : starEach (e :: es) X.env = (false, eval e X.env) :: starEach es X.env := by rfl)
    (hpl : ((backTo pos (starEach (e :: es) X.env)).any (·.1) || (backToKw pos (keywordEach kws X.env)).any (·.1.isNone)) = false := by rfl) :
    PE X (.Call (.Name x p) (e :: es) kws pos) (tCallK sp gV E t tk) := by
  intro pins s σ H Q I h
  refine wpAny_Call_Name_kw (ld_glob I hg hm ?_ hdb)
  refine PySem.W.callWith_KW (h₀ := X.base) I.ok.mod.kin hk hall (thn (ha pos pins s σ H _ I h) fun us s1 ⟨vs, H1, I1, r, q⟩ => ?_) hpl he
  refine thn (hkw pos pins s1 σ H1 _ I1 q) fun ws s2 ⟨zs, H2, I2, rz, q2⟩ => ⟨I2.kIn, ?_⟩
  rw [hks]
  exact run_fnk F hr hb hx I2 r rz q2
end

/-! ### a def's body keeps its promise -/
/-- names: the parameters first -/
structure FnScope (N P : List Str) (sc : Scope) : Prop where
  kind : sc.kind = .function
  co : sc.isCoroutine = false
  gen : sc.isGenerator = false
  nd : N.Nodup
  pre : N.take P.length = P
  par : ∀ x ∈ P, sc.names.lookup x = some .local ∨ sc.names.lookup x = some .cell
  nofree : ∀ y ∈ sc.names, y.2 ≠ .free

theorem bindL_out {kindOf : Str → Option NameKind} {x : Str} : ∀ {binds : List (Str × Value)} {m : Str → Option Value}, (∀ v, (x, v) ∉ binds) → bindL kindOf binds m x = m x
  | [], _, _ => rfl
  | (n, v) :: r, m, h => by
    unfold bindL
    rw [bindL_out fun w hw => h w (List.mem_cons_of_mem _ hw)]
    split
    · have : x ≠ n := by rintro rfl; exact h v List.mem_cons_self
      simp [this]
    · rfl
theorem bindC_out {kindOf : Str → Option NameKind} {x : Str} : ∀ {binds : List (Str × Value)} {m : Str → Option Value}, (∀ v, (x, v) ∉ binds) → bindC kindOf binds m x = m x
  | [], _, _ => rfl
  | (n, v) :: r, m, h => by
    unfold bindC
    rw [bindC_out fun w hw => h w (List.mem_cons_of_mem _ hw)]
    split
    · rfl
    · have : x ≠ n := by rintro rfl; exact h v List.mem_cons_self
      simp [this]
theorem bindL_get {kindOf : Str → Option NameKind} {x : Str} {v : Value} : ∀ {P : List Str} {vs : List Value} {i : Nat} {m : Str → Option Value}, P.Nodup → P[i]? = some x → vs[i]? = some v → kindOf x = some .local →
    bindL kindOf (P.zip vs) m x = some v
  | [], _, _, _, _, h, _, _ => by simp at h
  | _ :: _, [], _, _, _, _, h, _ => by simp at h
  | p :: P, w :: vs, 0, m, nd, h1, h2, hk => by
    simp at h1 h2; subst h1; subst h2
    show bindL kindOf ((p, w) :: P.zip vs) m p = _
    unfold bindL
    rw [bindL_out fun v hv => (List.nodup_cons.mp nd).1 (List.of_mem_zip hv).1, if_pos hk]
    simp
  | p :: P, w :: vs, i + 1, m, nd, h1, h2, hk => by
    show bindL kindOf ((p, w) :: P.zip vs) m x = _
    unfold bindL
    exact bindL_get (i := i) (List.nodup_cons.mp nd).2 (by simpa using h1) (by simpa using h2) hk
theorem bindC_get {kindOf : Str → Option NameKind} {x : Str} {v : Value} : ∀ {P : List Str} {vs : List Value} {i : Nat} {m : Str → Option Value}, P.Nodup → P[i]? = some x → vs[i]? = some v → kindOf x ≠ some .local →
    bindC kindOf (P.zip vs) m x = some v
  | [], _, _, _, _, h, _, _ => by simp at h
  | _ :: _, [], _, _, _, _, h, _ => by simp at h
  | p :: P, w :: vs, 0, m, nd, h1, h2, hk => by
    simp at h1 h2; subst h1; subst h2
    show bindC kindOf ((p, w) :: P.zip vs) m p = _
    unfold bindC
    rw [bindC_out fun v hv => (List.nodup_cons.mp nd).1 (List.of_mem_zip hv).1, if_neg hk]
    simp
  | p :: P, w :: vs, i + 1, m, nd, h1, h2, hk => by
    show bindC kindOf ((p, w) :: P.zip vs) m x = _
    unfold bindC
    exact bindC_get (i := i) (List.nodup_cons.mp nd).2 (by simpa using h1) (by simpa using h2) hk

/-- the names' values at the entry -/
def start (N : List Str) (vs : List V) : St := vs.map some ++ List.replicate (N.length - vs.length) none

/-- the context of a def's body, at its entry; an exception leaves the frame, then lies as CX says -/
def cxOf (CX : CXT) (P : Program) (w : World) (K : PySem.W.Frag) (mg : Str → Option Value) (base : Heap) (N : List Str) (qual : Str) (scope : Scope) (f : Addr) (cd : Value) (A : Around) (outer : List Env) (s : Shared) (H : Hp) (E : XK) : Cx where
  prog := P
  w := w
  K := K
  mg := mg
  base := base
  A := A.deeper (envOfC qual scope s.heap.objs.size f cd)
  N := N
  s_0 := s
  H_0 := H
  env := envOfC qual scope s.heap.objs.size f cd
  outer := outer
  stack := envOfC qual scope s.heap.objs.size f cd :: outer
  ex := []
  calm := true
  fn := fun _ => true
  pn := []
  xe := fun e s' => wpAny (model P w) (A.deeper (envOfC qual scope s.heap.objs.size f cd)) (leaving (envOfC qual scope s.heap.objs.size f cd) e) (fun _ s'' => CX outer H s E e s'') (fun e' s'' => CX outer H s E e' s'') s'

theorem cell_has {sc : Scope} {n : Nat} {x : Str} (h : sc.names.lookup x = some .cell) : ∃ c, (cellsFrom n sc.names []).lookup x = some c := by
  have q := PySem.W.cellsFrom_some sc.names n [] (.inl h)
  exact Option.isSome_iff_exists.mp q

theorem inv_start {CX : CXT} {P : Program} {w : World} {K : PySem.W.Frag} {mg : Str → Option Value} {base : Heap} {N ps : List Str} {qual : Str} {scope : Scope} {f : Addr} {cd : Value} {A : Around} {outer : List Env} {s s1 : Shared} {H : Hp} {E : XK} {us : List Value} {vs : List V}
    (S : FnScope N ps scope) (hd : A.handled = none) (e0 : Env0 P w K mg base A outer s H) (hl : vs.length = ps.length) (r : Vals vs us)
    (x : InCallC s s.heap.objs.size (bindL (envOfC qual scope s.heap.objs.size f cd).kindOf (ps.zip us) fun _ => none) (cellsFrom (s.heap.objs.size + 1) scope.names []) (bindC (envOfC qual scope s.heap.objs.size f cd).kindOf (ps.zip us) fun _ => none) s1) :
    Inv (cxOf CX P w K mg base N qual scope f cd A outer s H E) [] (start N vs) H s1 := by
  have hpl : ps.length ≤ N.length := by have := congrArg List.length S.pre; rw [List.length_take] at this; omega
  obtain ⟨h1, tk, rfl, hk⟩ := x.done
  have noA : ∀ b : Addr, b ∉ (cxOf CX P w K mg base N qual scope f cd A outer s H E).ex := fun b z => absurd (show b ∈ ([] : List Addr) from z) (by simp)
  refine ⟨⟨e0.mod, S.kind, rfl, rfl, Nat.le_refl _, fun y z c h1 h2 => ?_, fun y hy => ?_, fun y c _ h => ?_, fun _ => hd, Around.frames_deeper e0.frames, .inr ⟨rfl, rfl⟩, fun b z => absurd z (noA b), e0.bs, e0.bsz, fun b _ _ => noA b, fun b z => absurd z (noA b), e0.funs, e0.frf⟩,
    rfl, e0.bare, Un.kept hk, ⟨_, x.toInCall.ns, fun i y v h1 h2 h3 => ?_⟩, fun y c h => ⟨_, x.cell y c h⟩, e0.hok.fresh (Nat.le_refl _), fun y c h => ?_, fun p hp => absurd (show p ∈ ([] : List (Addr × Obj)) from hp) (by simp), e0.hok.kept hk, ?_⟩
  · exact name_of_addr x.apart (PySem.mem_of_lookup h1) (PySem.mem_of_lookup h2)
  · have hy : scope.names.lookup y = some .cell ∨ scope.names.lookup y = some .free := hy
    rcases hy with hy | hy
    · exact cell_has hy
    · exact absurd rfl (S.nofree _ (PySem.mem_of_lookup hy))
  · exact Nat.le_of_lt (x.above y c (PySem.mem_of_lookup h))
  · have hi : i < vs.length := by
      unfold start at h2
      by_cases hi : i < vs.length
      · exact hi
      · rw [List.getElem?_append_right (by simpa using hi)] at h2
        rw [List.getElem?_replicate] at h2
        split at h2 <;> cases h2
    have ha : vs[i]? = some v := by
      unfold start at h2
      rw [List.getElem?_append_left (by simpa using hi), List.getElem?_map] at h2
      cases e : vs[i]? with
      | none => rw [e] at h2; cases h2
      | some a => rw [e] at h2; cases h2; rfl
    obtain ⟨u, hu, rv⟩ := r.get ha
    have hp : ps[i]? = some y := by
      rw [← S.pre, List.getElem?_take_of_lt (by omega)]; exact h1
    have ndP : ps.Nodup := by rw [← S.pre]; exact S.nd.sublist (List.take_sublist _ _)
    refine ⟨u, rv, ?_⟩
    rcases S.par y (List.mem_of_getElem? hp) with k | k
    · exact .inl ⟨k, bindL_get ndP hp hu k⟩
    · obtain ⟨c, e⟩ := cell_has (n := s.heap.objs.size + 1) k
      refine .inr ⟨.inl k, c, e, ?_⟩
      have q := x.cell y c e
      rw [bindC_get ndP hp hu (by show scope.names.lookup y ≠ _; rw [k]; decide)] at q
      exact q
  · exact e0.hok.fresh (Nat.le_of_lt (x.above y c (PySem.mem_of_lookup h)))
  · unfold start
    show _ = N.length
    rw [List.length_append, List.length_map, List.length_replicate]
    omega

/-- THE RULE: a def (or a method) of the text, by its body. The body's reading t is chosen for each entry; it is run at the parameters' values -/
theorem fn_of {CX : CXT} {P : Program} {w : World} {K : PySem.W.Frag} {mg : Str → Option Value} {base : Heap} {k : Nat} {f : Addr} {name qual : Str} {params : Arguments} {body : List Stmt} {scope : Scope} {dV kV doc pm cdv ct oc : Value} {an od : Option Addr}
    {osl : Array (Option Value)} {N ps : List Str} {sp : Sp} (lk : K.lookup f = some ⟨oc, od, .func (PySem.W.fnOf name qual params body scope dV kV doc pm an cdv ct), osl⟩) (hcd : PySem.W.codeIn K cdv qual = true) (S : FnScope N ps scope)
    (len : ∀ vs H Q E, sp vs H Q E → vs.length = ps.length)
    (hbody : ∀ (A : Around) (outer : List Env) (s : Shared) (H : Hp) (vs : List V) (Q : VK) (E : XK), Room k (A.deeper (envOfC qual scope s.heap.objs.size f cdv)) → sp vs H Q E →
      ∃ t, PSs (cxOf CX P w K mg base N qual scope f cdv A outer s H E) body t ∧ t { nx := fun _ H' => Q .non H', rt := Q } (start N vs) H) :
    FnOk P w K mg base CX (k + 1) f (PySem.W.fnOf name qual params body scope dV kV doc pm an cdv ct) ps sp := by
  refine ⟨len, fun A outer s H args us vs Q E hr e0 hb r hsp => ?_⟩
  have hl := len _ _ _ _ hsp
  have KX : K.In s.heap := e0.mod.kin.keeps fun b o e => (e0.bs b o e).1
  have lim : s.heap.NoLimit := e0.mod.nolimit.keeps fun b o e => (e0.bs b o e).1
  have hkind : ∀ y ∈ ps.zip us, scope.names.lookup y.1 = some .local ∨ (scope.names.lookup y.1 = some .cell ∧ ((cellsFrom (s.heap.objs.size + 1) scope.names []).lookup y.1).isSome = true) := fun ⟨n, v⟩ hy => by
    rcases S.par n (List.of_mem_zip hy).1 with q | q
    · exact .inl q
    · exact .inr ⟨q, PySem.W.cellsFrom_some _ _ _ (.inl q)⟩
  refine codeAny_call_function hr.depth (KX _ _ lk) rfl S.co S.gen rfl (PySem.W.codeRec_of KX hcd) (hb _ _ _ _ ?_)
  refine wpAny_newFunctionEnv_cells S.kind hkind fun env he s1 x => ?_
  subst he
  refine ⟨lim.keeps x.toInCall.keep, codeAny_func ?_⟩
  obtain ⟨t, ht, hq⟩ := hbody A outer s H vs Q E (hr.deeper _) hsp
  have I : Inv (cxOf CX P w K mg base N qual scope f cdv A outer s H E) [] (start N vs) H s1 := inv_start S hr.hd e0 hl r x
  refine wpAny_mono (ht [] s1 (start N vs) H _ I hq) (fun fl s' hs => ?_) fun e s' hs => hs
  have fin : ∀ {σ' : St} {H' : Hp} {v : V} {u : Value}, Inv (cxOf CX P w K mg base N qual scope f cdv A outer s H E) [] σ' H' s' → RelV v u → Q v H' → CE outer P w H s Q u s' :=
    fun {σ' H' v u} J rv q => ⟨v, H', J.os, J.bare, J.base, J.hok, rv, q⟩
  cases fl with
  | ret u =>
    obtain ⟨v, σ', H', J, rv, q⟩ := hs
    exact fin J rv q
  | next =>
    obtain ⟨σ', H', J, q⟩ := hs
    exact fin (v := V.non) (u := Value.none) J rfl q
  | brk =>
    obtain ⟨_, _, _, q⟩ := hs
    exact False.elim q
  | cont =>
    obtain ⟨_, _, _, q⟩ := hs
    exact False.elim q
end L2

namespace L2
open PySem PySem.Spec PyProof.Rows
section
variable {X : Cx} {x : Str} {p pos : Pos} {e : Expr} {es : List Expr} {t : TA} {id T : String} {r : List V → Hp → VK → Prop}

def tCB (r : List V → Hp → VK → Prop) (t : TA) : TE := fun σ H Q => t σ H fun vs H1 => r vs H1 Q
/-- f(e, ..), f a built-in function -/
theorem pe_callB (hc : CallR X (.builtin id) r) (hg : Gl X x) (hm : X.mg x = none) (hv : bootBuiltins x = some (.builtin id)) (ha : PA X (e :: es) t) (hn : x ≠ "__name__" := by decide) (hdb : (x == ("__debug__" : Str)) = false := by decide)
    (he : starEach (e :: es) X.env = (false, eval e X.env) :: starEach es X.env := by rfl) (hpl : (backTo pos (starEach es X.env)).any (·.1) = false := by rfl) : PE X (.Call (.Name x p) (e :: es) [] pos) (tCB r t) := by
  intro pins s σ H Q I h
  refine wpAny_Call_Name_kw (ld_blt I hg hm hv ?_ hn hdb)
  exact PyProof.Rows.callWith_builtin1 (thn (ha pos pins s σ H _ I h) fun us s1 ⟨vs, H1, I1, r1, q1⟩ => hc pins s1 σ H1 vs us Q I1 r1 q1) he hpl
/-- T(e, ..), T a built-in type -/
theorem pe_callTy (hc : CallR X (.type T) r) (hg : Gl X x) (hm : X.mg x = none) (hv : bootBuiltins x = some (.type T)) (ha : PA X (e :: es) t) (hn : x ≠ "__name__" := by decide) (hdb : (x == ("__debug__" : Str)) = false := by decide)
    (he : starEach (e :: es) X.env = (false, eval e X.env) :: starEach es X.env := by rfl) (hpl : (backTo pos (starEach es X.env)).any (·.1) = false := by rfl) : PE X (.Call (.Name x p) (e :: es) [] pos) (tCB r t) := by
  intro pins s σ H Q I h
  refine wpAny_Call_Name_kw (ld_blt I hg hm hv ?_ hn hdb)
  exact PyProof.Rows.callWith_type1 (thn (ha pos pins s σ H _ I h) fun us s1 ⟨vs, H1, I1, r1, q1⟩ => hc pins s1 σ H1 vs us Q I1 r1 q1) he hpl
/-- T() -/
theorem pe_callTy0 (hc : CallR X (.type T) r) (hg : Gl X x) (hm : X.mg x = none) (hv : bootBuiltins x = some (.type T)) (hn : x ≠ "__name__" := by decide) (hdb : (x == ("__debug__" : Str)) = false := by decide) :
    PE X (.Call (.Name x p) [] [] pos) (tCB r tNil) := by
  intro pins s σ H Q I h
  refine wpAny_Call_Name_kw (ld_blt I hg hm hv ?_ hn hdb)
  exact PyProof.Rows.callWith_type0 (hc pins s σ H [] [] Q I .nil h)
end
end L2

namespace HT
open PySem PyProof.Rows

/-- t < u of tuples of ints -/
def lexLt : List Int → List Int → Bool
  | [], [] => false
  | [], _ :: _ => true
  | _ :: _, [] => false
  | x :: xs, y :: ys => if x = y then lexLt xs ys else decide (x < y)
theorem lexLt_cons (x y : Int) (xs ys : List Int) : lexLt (x :: xs) (y :: ys) = if x = y then lexLt xs ys else decide (x < y) := rfl
theorem lexLt_nil_nil : lexLt [] [] = false := rfl
theorem lexLt_nil_cons (y : Int) (ys : List Int) : lexLt [] (y :: ys) = true := rfl
theorem lexLt_cons_nil (x : Int) (xs : List Int) : lexLt (x :: xs) [] = false := rfl

theorem eqAt_int (A : Around) (s : Shared) (a : Int) (t : Tok) (c : Int) (u : Tok) : ∃ e, SeqAt.EqAt A s (.int a t) (.int c u) e ∧ (e = true ↔ a = c) :=
  ⟨(a == c), SeqAt.EqAt.int_int a t c u, by simp⟩
theorem rcLt_int (A : Around) (s : Shared) (a : Int) (t : Tok) (c : Int) (u : Tok) (prog : Program) (w : World) (E : Value → Shared → Prop) (Q : Value → Shared → Prop) (h : Q (.bool (decide (a < c))) s) :
    wpAny (model prog w) A (richCompare .Lt (.int a t) (.int c u)) Q E s :=
  (PyProof.Rows.lt_int h : wpAny (model prog w) A (compareOp .Lt (.int a t) (.int c u)) Q E s)

section
open PySem.SeqAt
open PySem.AutoSeq1 (wpAny_loadPart')
open PySem.MeetsSeq PySem.MeetsSeq2 PySem.MeetsSeq3

theorem tuple_lt_ints (l b : Addr) (items items2 : Array Value) (n n2 : Nat) (dd dd2 : Option Addr) (sl sl2 : Array (Option Value)) (ns ms : List Int) (hi : IntsAre items.toList ns) (hj : IntsAre items2.toList ms) :
    Meets (Builtin.«tuple.__lt__» ⟨[.ref l, .ref b], []⟩)
      (fun _ R s => s.heap.get? l = some { cls := .type "tuple", dict := dd, data := .seq items n, slots := sl } ∧ s.heap.get? b = some { cls := .type "tuple", dict := dd2, data := .seq items2 n2, slots := sl2 } ∧
        R (.ok (.ret (.bool (lexLt ns ms)))) s) :=
  .of_wp fun prog w A R s h => by
    obtain ⟨hp, g, d, tk, os⟩ := s; obtain ⟨hl, hb, h⟩ := h
    have f2 := AutoSeq1.sub_tuple_tuple
    have z1 : items.size = ns.length := by rw [← hi.length]; simp
    have z2 : items2.size = ms.length := by rw [← hj.length]; simp
    wp_walk using wpAny_loadPart' hl, wpAny_loadPart' hb, wpAny_forIn_list _ (fun rest b s' => b.1 = none ∧ s' = ⟨hp, g, d, tk, os⟩ ∧ ∃ (vs ws : List Value) (ns' ms' : List Int), rest = vs.zip ws ∧
      IntsAre vs ns' ∧ IntsAre ws ms' ∧ ns'.length + items2.size = ms'.length + items.size ∧ R (.ok (.ret (.bool (lexLt ns' ms')))) ⟨hp, g, d, tk, os⟩) _
    case turn =>
      rintro ⟨y, x⟩ rest b s' ⟨hb', rfl, vs, ws, ns', ms', hz, hvi, hwi, hlen, hR⟩
      cases hvi with
      | nil => rw [List.zip_nil_left] at hz; cases hz
      | cons a t hvi' =>
        cases hwi with
        | nil => rw [List.zip_nil_right] at hz; cases hz
        | cons c u hwi' =>
          rw [List.zip_cons_cons] at hz
          injection hz with hyx hrest
          injection hyx with hy hx
          subst hy hx
          rw [lexLt_cons] at hR
          simp only [List.length_cons] at hlen
          obtain ⟨e, he, hiff⟩ := eqAt_int A.in1 ⟨hp, g, d, tk, os⟩ a t c u
          refine wpAny_bind (he prog w _ _ ?_)
          cases e with
          | true =>
            rw [if_pos (hiff.mp rfl)] at hR
            wp_walk
            exact ⟨rfl, rfl, _, _, _, _, hrest, hvi', hwi', by omega, hR⟩
          | false =>
            rw [if_neg (fun q => absurd (hiff.mpr q) Bool.false_ne_true)] at hR
            have hri := rcLt_int A.in1 ⟨hp, g, d, tk, os⟩ a t c u prog w
            wp_walk using hri
            exact ⟨_, rfl, by simpa using hR⟩
    case fin =>
      rintro ⟨b1, b2⟩ s' ⟨hb', rfl, vs, ws, ns', ms', hz, hvi, hwi, hlen, hR⟩
      simp only at hb'
      subst hb'
      have hv : lexLt ns' ms' = decide (items.size < items2.size) := by
        cases hvi with
        | nil =>
          cases hwi with
          | nil =>
            simp only [List.length_nil] at hlen
            rw [lexLt_nil_nil]
            exact (decide_eq_false (by omega)).symm
          | cons c u hw =>
            simp only [List.length_nil, List.length_cons] at hlen
            rw [lexLt_nil_cons]
            exact (decide_eq_true (by omega)).symm
        | cons a t hv =>
          cases hwi with
          | nil =>
            simp only [List.length_nil, List.length_cons] at hlen
            rw [lexLt_cons_nil]
            exact (decide_eq_false (by omega)).symm
          | cons c u hw =>
            rw [List.zip_cons_cons] at hz
            cases hz
      rw [hv] at hR
      wp_walk
      exact ⟨_, rfl, by simpa [Builtin.Tuple.tupleCompareSizes] using hR⟩
    case h =>
      exact ⟨rfl, rfl, items.toList, items2.toList, ns, ms, rfl, hi, hj, by omega, h⟩
end

section
variable {prog : Program} {w : World} {A : Around} {E : Value → Shared → Prop} {s : Shared}

theorem lt_tupInts {l b : Addr} {items items2 : Array Value} {ns ms : List Int} {Q : Value → Shared → Prop} (hl : IsTup s.heap l items) (hb : IsTup s.heap b items2) (hi : IntsAre items.toList ns) (hj : IntsAre items2.toList ms)
    (hu : A.units < cLine) (h : Q (.bool (lexLt ns ms)) s) : wpAny (model prog w) A (compareOp .Lt (.ref l) (.ref b)) Q E s := by
  obtain ⟨⟨cls, dd, data, sl⟩, ho, hc, n, hd⟩ := id hl
  obtain ⟨⟨cls2, dd2, data2, sl2⟩, ho2, hc2, n2, hd2⟩ := id hb
  simp only at hc hd hc2 hd2
  subst hc hd hc2 hd2
  exact richCompare_meets_room (op := .Lt) ⟨_, ho, rfl⟩ ⟨_, ho2, rfl⟩ PySem.F.slot_tuple_lt PySem.F.entry_tuple_lt (PySem.F.args_tuple_lt_2 _ _) (tuple_lt_ints l b items items2 n n2 dd dd2 sl sl2 ns ms hi hj)
    ⟨ho, ho2, show Value.bool (lexLt ns ms) ≠ Value.notImplemented ∧ Q (.bool (lexLt ns ms)) s from ⟨(fun x => nomatch x), h⟩⟩ hu

/-- t + u, t not empty -/
theorem cat_tup {t b : Addr} {vs ws : List Value} {Q : Value → Shared → Prop} (ht : IsTup s.heap t vs.toArray) (hb : IsTup s.heap b ws.toArray) (hv : vs ≠ [])
    (h1 : ws = [] → Q (.ref t) s) (h2 : ws ≠ [] → Q (.ref s.heap.objs.size) { s with heap := s.heap.push { cls := .type "tuple", data := .seq (vs ++ ws).toArray } })
    (hsz : vs.length + ws.length ≤ sizeLine) : wpAny (model prog w) A (binaryOp .Add (.ref t) (.ref b)) Q E s := by
  obtain ⟨⟨cls, dd, data, sl⟩, ho, hc, n, hd⟩ := id ht
  obtain ⟨⟨cls2, dd2, data2, sl2⟩, ho2, hc2, n2, hd2⟩ := id hb
  simp only at hc hd hc2 hd2
  subst hc hd hc2 hd2
  have e : vs.toArray ++ ws.toArray = (vs ++ ws).toArray := by simp
  by_cases hw : ws = []
  · exact concat_meets ⟨_, ho, rfl⟩ ⟨_, ho2, rfl⟩ noFill_tuple_add seq_tuple_add PySem.F.slot_tuple_add PySem.F.entry_tuple_add (PySem.F.args_tuple_add_2 _ _)
      (tuple_addW1 t b vs.toArray ws.toArray n n2 dd dd2 sl sl2 (by simpa using hv) (by simp [hw])) ⟨ho, ho2, h1 hw⟩
  · refine concat_meets ⟨_, ho, rfl⟩ ⟨_, ho2, rfl⟩ noFill_tuple_add seq_tuple_add PySem.F.slot_tuple_add PySem.F.entry_tuple_add (PySem.F.args_tuple_add_2 _ _)
      (tuple_addW2 t b vs.toArray ws.toArray n n2 dd dd2 sl sl2 (by simpa using hv) (by simpa using hw) (by rw [List.size_toArray, List.size_toArray]; exact hsz)) ⟨ho, ho2, ?_⟩
    rw [e]
    exact h2 hw

/-! ### t[a:b], not the whole -/
/-- a slice's bound as a place among n (d where it is left out) -/
def sIx (n d : Nat) : Option Int → Nat
  | none => d
  | some v => if v < 0 then (v + (n : Int)).toNat else min v.toNat n
theorem sIx_none (n d : Nat) : sIx n d none = d := rfl
theorem sIx_nat (n d k : Nat) : sIx n d (some (k : Int)) = min k n := by
  show (if (k : Int) < 0 then ((k : Int) + (n : Int)).toNat else min (k : Int).toNat n) = min k n
  rw [if_neg (by omega), Int.toNat_natCast]
theorem sIx_le (n d : Nat) (hd : d ≤ n) (o : Option Int) : sIx n d o ≤ n := by
  cases o with
  | none => exact hd
  | some v =>
    show (if v < 0 then (v + (n : Int)).toNat else min v.toNat n) ≤ n
    by_cases hv : v < 0
    · rw [if_pos hv]; omega
    · rw [if_neg hv]; exact Nat.min_le_right _ _
theorem clip_eq (v : Int) (n d : Nat) : (if v < 0 then max (v + (n : Int)) 0 else min v (n : Int)) = ((sIx n d (some v) : Nat) : Int) := by
  show (if v < 0 then max (v + (n : Int)) 0 else min v (n : Int)) = (((if v < 0 then (v + (n : Int)).toNat else min v.toNat n) : Nat) : Int)
  by_cases hv : v < 0
  · simp only [if_pos hv]; omega
  · simp only [if_neg hv]; omega
theorem adjust_gen (lo hi : Option Int) (n : Nat) : Builtin.Slice.sliceAdjust lo hi 1 (n : Int) = (((sIx n 0 lo : Nat) : Int), ((sIx n n hi : Nat) : Int)) := by
  have h1 : ¬ ((1 : Int) < 0) := by omega
  unfold Builtin.Slice.sliceAdjust
  simp only [h1, if_false]
  refine Prod.ext ?_ ?_
  · cases lo with
    | none => rfl
    | some v => exact clip_eq v n 0
  · cases hi with
    | none => rfl
    | some v => exact clip_eq v n n
theorem places_gen (i j : Nat) : Builtin.Slice.slicePlaces (i : Int) (j : Int) 1 = j - i := by
  unfold Builtin.Slice.slicePlaces
  have h1 : (1 : Int) > 0 := by omega
  simp only [h1, if_true, Int.ediv_one]
  split <;> omega
theorem slicePart_ {v : Value} {o : Option Int} {Q : Option Int → Shared → Prop} (p : IsPart v o) (h : Q o s) : wpAny (model prog w) A (Builtin.Slice.slicePartIndex v) Q E s := by
  cases p with
  | none => exact slicePart_none h
  | int i t => exact slicePart_int h
theorem sliceApplied_gen {sl : Addr} {vl vu : Value} {lo hi : Option Int} {n : Nat} {Q : Int × Int × Nat → Shared → Prop} (hs : s.heap.IsSliceOf sl vl vu .none) (pl : IsPart vl lo) (pu : IsPart vu hi)
    (h : Q (((sIx n 0 lo : Nat) : Int), 1, sIx n n hi - sIx n 0 lo) s) : wpAny (model prog w) A (Builtin.Slice.sliceApplied (.ref sl) (pure (n : Int))) Q E s := by
  obtain ⟨os, hos, hcs, hds⟩ := id hs
  unfold Builtin.Slice.sliceApplied Builtin.Slice.sliceFields
  refine wpAny_bind (wpAny_bind (wpAny_field hos hds (x := vl) rfl (wpAny_bind (wpAny_field hos hds (x := vu) rfl (wpAny_bind (wpAny_field hos hds (x := .none) rfl (wpAny_pure ?_)))))))
  refine wpAny_bind (slicePart_none ?_)
  show wpAny _ _ (if ((1 : Int) == 0) = true then _ else _) _ _ s
  rw [if_neg (by decide)]
  refine wpAny_bind (slicePart_ pl (wpAny_bind (slicePart_ pu (wpAny_bind (wpAny_pure ?_)))))
  show wpAny _ _ (match Builtin.Slice.sliceAdjust lo hi 1 (n : Int) with | (lo, hi) => pure (lo, (1 : Int), Builtin.Slice.slicePlaces lo hi 1)) _ _ s
  rw [adjust_gen lo hi n]
  show wpAny _ _ (pure (((sIx n 0 lo : Nat) : Int), (1 : Int), Builtin.Slice.slicePlaces ((sIx n 0 lo : Nat) : Int) ((sIx n n hi : Nat) : Int) 1)) _ _ s
  rw [places_gen]
  exact wpAny_pure h
theorem pick_gen (xs : Array Value) (i k : Nat) : ((List.range k).filterMap fun (m : Nat) => xs[((i : Int) + (m : Int) * 1).toNat]?).toArray = ((xs.toList.drop i).take k).toArray := by
  have e : (fun (m : Nat) => xs[((i : Int) + (m : Int) * 1).toNat]?) = fun m => xs[i + m]? := by
    funext m
    have : ((i : Int) + (m : Int) * 1).toNat = i + m := by omega
    rw [this]
  rw [e]
  have := pick_run xs i k
  rw [List.filterMap_map] at this
  have e2 : ((fun x => xs[x]?) ∘ fun x => i + x) = fun m => xs[i + m]? := rfl
  rw [e2] at this
  rw [this]

theorem getItem_tuple_cut {t sl : Addr} {items : Array Value} {vl vu : Value} {lo hi : Option Int} {Q : Value → Shared → Prop} (ht : IsTup s.heap t items) (hs : s.heap.IsSliceOf sl vl vu .none) (pl : IsPart vl lo) (pu : IsPart vu hi)
    (hw : ¬ (sIx items.size 0 lo = 0 ∧ sIx items.size items.size hi = items.size))
    (h : Q (.ref s.heap.objs.size) { s with heap := s.heap.push { cls := .type "tuple", data := .seq ((items.toList.drop (sIx items.size 0 lo)).take (sIx items.size items.size hi - sIx items.size 0 lo)).toArray } })
    (hsz : items.size ≤ sizeLine) : wpAny (model prog w) A (getItem (.ref t) (.ref sl)) Q E s := by
  have htake : sizeOk (.seq ((items.toList.drop (sIx items.size 0 lo)).take (sIx items.size items.size hi - sIx items.size 0 lo)).toArray) := by
    show ((items.toList.drop (sIx items.size 0 lo)).take (sIx items.size items.size hi - sIx items.size 0 lo)).toArray.size ≤ sizeLine
    rw [List.size_toArray, List.length_take, List.length_drop, Array.length_toList]
    omega
  have hj : sIx items.size items.size hi ≤ items.size := sIx_le _ _ (Nat.le_refl _) hi
  obtain ⟨os, hos, hcs, hds⟩ := id hs
  have hTs : s.TypeIs (.ref sl) "slice" := ⟨os, hos, hcs⟩
  unfold getItem
  try with_reducible refine wpAny_holding ?_
  first | refine wpAny_bind (wpAny_pure ?_) | skip
  refine wpAny_bind (wpAny_sequenceKey ht.typeIs (by decide) ?_)
  refine wpAny_bind (wpAny_callSpecial?_slot (name := Str.ofString "__getitem__") ht.typeIs PyProof.Rows.slot_tuple_getitem
    (wpAny_call_entry PyProof.Rows.slot_tuple_getitem ht.typeIs entry_tuple_getitem ?_ (args_tuple_getitem _ _)))
  show wpAny _ _ (Builtin.Tuple.tupleItemsOf (.ref t) >>= _) _ _ s
  refine wpAny_bind (tupleItemsOf_ ht ?_)
  refine wpAny_bind (wpAny_typeOf hTs ?_)
  rw [if_pos (by decide)]
  refine wpAny_bind (sliceApplied_gen hs pl pu ?_)
  have hno : ¬ ((((sIx items.size 0 lo : Nat) : Int) == 0 && (1 : Int) == 1 && (sIx items.size items.size hi - sIx items.size 0 lo) == items.size) = true) := by
    intro q
    rw [Bool.and_eq_true, Bool.and_eq_true] at q
    have q1 : ((sIx items.size 0 lo : Nat) : Int) = 0 := eq_of_beq q.1.1
    have q2 : sIx items.size items.size hi - sIx items.size 0 lo = items.size := eq_of_beq q.2
    exact hw ⟨by omega, by omega⟩
  show wpAny _ _ (if (((sIx items.size 0 lo : Nat) : Int) == 0 && (1 : Int) == 1 && (sIx items.size items.size hi - sIx items.size 0 lo) == items.size) = true then _ else _) _ _ s
  rw [if_neg hno, pick_gen]
  first
    | exact wpAny_bind (m := Builtin.Tuple.tupleExact _) (wpAny_newObj_type (wpAny_pure ⟨_, rfl, wpAny_pure h⟩) htake)
    | exact wpAny_bind (m := Builtin.Tuple.tupleExact _) (wpAny_newObj_type (wpAny_bind (wpAny_pure (wpAny_pure ⟨_, rfl, wpAny_pure h⟩))) htake)
    | exact wpAny_bind (wpAny_bind (m := Builtin.Tuple.tupleExact _) (wpAny_newObj_type (wpAny_pure (wpAny_pure ⟨_, rfl, wpAny_pure h⟩)) htake))
    | exact wpAny_bind (wpAny_bind (m := Builtin.Tuple.tupleExact _) (wpAny_newObj_type (wpAny_pure ⟨_, rfl, wpAny_pure h⟩) htake))
end
end HT

namespace L2
open PySem PySem.Spec PyProof.Rows

/-! ### the parts of a slice -/
abbrev TO := St → Hp → (Option Int → Hp → Prop) → Prop
/-- a slice's part (left out, or an int) -/
def PO (X : Cx) (e : Option Expr) (t : TO) : Prop :=
  ∀ (pins : List (Addr × Obj)) (s : Shared) (σ : St) (H : Hp) (Q : Option Int → Hp → Prop), Inv X pins σ H s → t σ H Q →
    wpAny (model X.prog X.w) X.A (evalPart e X.env) (fun u s' => ∃ o H', Inv X pins σ H' s' ∧ IsPart u o ∧ Q o H') X.xe s
def tNoPart : TO := fun _ H Q => Q none H
def tPart (t : TE) : TO := fun σ H Q => t σ H fun x H1 => ∃ i, x = .int i ∧ Q (some i) H1

theorem intsAre_of {ns : List Int} : ∀ {us : List Value}, Vals (ns.map V.int) us → IntsAre us ns := by
  induction ns with
  | nil => intro us r; rw [List.map_nil] at r; cases r; exact .nil
  | cons n ns ih =>
    intro us r
    rw [List.map_cons] at r
    cases r with
    | cons r1 r2 =>
      obtain ⟨t, e⟩ := r1
      subst e
      exact .cons n t (ih r2)

section
variable {X : Cx} {e : Expr} {te : TE} {lo hi : Option Expr} {tl th : TO} {pos p2 : Pos}

theorem po_none : PO X none tNoPart := by
  intro pins s σ H Q I h
  rw [evalPart_none]
  exact wpAny_pure ⟨none, H, I, .none, h⟩
theorem po_some (h : PE X e te) : PO X (some e) (tPart te) := by
  intro pins s σ H Q I hw
  rw [evalPart_some]
  refine thn (h pins s σ H _ I hw) fun u s1 ⟨x, H1, I1, r1, q1⟩ => ?_
  obtain ⟨i, rfl, q⟩ := q1
  obtain ⟨t, rfl⟩ := r1
  exact ⟨some i, H1, I1, .int i t, q⟩

/-- what a slice of a value is, by values: the slice object stands at sl -/
def SlR (X : Cx) (r : V → Option Int → Option Int → Hp → VK → Prop) : Prop :=
  ∀ (pins : List (Addr × Obj)) (s : Shared) (σ : St) (H : Hp) (x : V) (v vl vu : Value) (lo hi : Option Int) (sl : Addr) (Q : VK), Inv X pins σ H s → RelV x v → s.heap.IsSliceOf sl vl vu .none → IsPart vl lo → IsPart vu hi → r x lo hi H Q →
    ∃ T id, typeLookup (.type T) "__getitem__" = pure (some (.builtin id)) ∧ s.TypeIs v T ∧ wpAny (model X.prog X.w) X.A (getItem v (.ref sl)) (EP X pins σ Q) X.xe s
theorem SlR.or {r r' : V → Option Int → Option Int → Hp → VK → Prop} (h : SlR X r) (h' : SlR X r') : SlR X (fun x lo hi H Q => r x lo hi H Q ∨ r' x lo hi H Q) := by
  intro pins s σ H x v vl vu lo hi sl Q I rx hs pl pu q
  rcases q with q | q
  · exact h pins s σ H x v vl vu lo hi sl Q I rx hs pl pu q
  · exact h' pins s σ H x v vl vu lo hi sl Q I rx hs pl pu q
def tSl (r : V → Option Int → Option Int → Hp → VK → Prop) (te : TE) (tl th : TO) : TE := fun σ H Q => te σ H fun x H1 => tl σ H1 fun l H2 => th σ H2 fun u H3 => r x l u H3 Q
/-- a[lo:hi], any a -/
theorem pe_slice {r : V → Option Int → Option Int → Hp → VK → Prop} (hr : SlR X r) (he : PE X e te) (hl : PO X lo tl) (hu : PO X hi th) : PE X (.Subscript e (.Slice lo hi none p2) pos) (tSl r te tl th) := by
  intro pins s σ H Q I h
  refine Subscript_ (thn (he pins s σ H _ I h) fun v s1 ⟨x, H1, I1, r1, q1⟩ => ?_)
  refine wpAny_Slice (thn (hl pins s1 σ H1 _ I1 q1) fun vl s2 ⟨l, H2, I2, pl, q2⟩ => thn (hu pins s2 σ H2 _ I2 q2) fun vu s3 ⟨u, H3, I3, pu, q3⟩ => ?_)
  rw [evalPart_none]
  refine wpAny_pure ?_
  have I4 : Inv X pins σ H3 { s3 with heap := s3.heap.push { cls := .type "slice", data := .fields #[vl, vu, .none] } } := I3.kept (t' := s3.toks) fun b ob q => Heap.get?_push_of_some _ q
  obtain ⟨T, id, hT, ht, hg⟩ := hr pins { s3 with heap := s3.heap.push { cls := .type "slice", data := .fields #[vl, vu, .none] } } σ H3 x v vl vu l u s3.heap.objs.size Q I4 r1 (Heap.IsSliceOf.new ..) pl pu q3
  show wpAny (model X.prog X.w) X.A (subscriptTail e (.Slice lo hi none p2) v (.ref s3.heap.objs.size)) (EP X pins σ Q) X.xe { s3 with heap := s3.heap.push { cls := .type "slice", data := .fields #[vl, vu, .none] } }
  exact tail_any (ops := [.ref s3.heap.objs.size, v]) ht hT hg (by with_unfolding_all rfl)

/-- the items of xs[lo:hi] -/
def cutV (xs : List V) (lo hi : Option Int) : List V := (xs.drop (HT.sIx xs.length 0 lo)).take (HT.sIx xs.length xs.length hi - HT.sIx xs.length 0 lo)
theorem cutV_length (xs : List V) (lo hi : Option Int) : (cutV xs lo hi).length ≤ xs.length := by
  unfold cutV
  rw [List.length_take, List.length_drop]
  omega
/-- t[lo:hi], not the whole of it (the whole would be t itself) -/
def rSlT (K : PySem.W.Frag) : V → Option Int → Option Int → Hp → VK → Prop := fun x lo hi H Q => ∃ a xs, x = .ref a ∧ SqT K H a xs ∧
  ¬ (HT.sIx xs.length 0 lo = 0 ∧ HT.sIx xs.length xs.length hi = xs.length) ∧ ∀ p, H p = none → Q (.ref p) (upd H p (.tup (cutV xs lo hi)))
theorem sl_tup : SlR X (rSlT X.K) := by
  intro pins s σ H x v vl vu lo hi sl Q I rx hs pl pu h
  obtain ⟨a, xs, rfl, hx, hw, q⟩ := h
  cases rx
  obtain ⟨its, r, ht, hz⟩ := I.tuple hx
  have hlen : its.toArray.size = xs.length := by rw [List.size_toArray]; exact r.length.symm
  refine ⟨"tuple", _, PyProof.Rows.slot_tuple_getitem.lookup, ht.typeIs, ?_⟩
  refine HT.getItem_tuple_cut ht hs pl pu (by rw [hlen]; exact hw) ?_ (by rw [hlen]; exact hz)
  rw [hlen]
  refine ⟨.ref s.heap.objs.size, _, I.laid (t' := s.toks) (o := .tup (cutV xs lo hi)) (fun b ob q => Heap.get?_push_of_some _ q) (Nat.le_refl _) ?_, rfl, q _ (I.hok.fresh (Nat.le_refl _))⟩
  exact ⟨Nat.le_trans (cutV_length xs lo hi) hz, _, (r.drop (HT.sIx xs.length 0 lo)).take (HT.sIx xs.length xs.length hi - HT.sIx xs.length 0 lo), IsTup.new _ _⟩

/-! ### t < u, t + u -/
def rLtT (K : PySem.W.Frag) : R2 := fun x y H Q => ∃ a b ns ms, x = .ref a ∧ y = .ref b ∧ SqT K H a (ns.map V.int) ∧ SqT K H b (ms.map V.int) ∧ Q (.bl (HT.lexLt ns ms)) H
theorem op_ltT (hu : X.A.units < cLine) : OpR X (compareOp .Lt) (rLtT X.K) := by
  intro pins s σ H x y v u Q I rx ry h
  obtain ⟨a, b, ns, ms, rfl, rfl, ha, hb, q⟩ := h
  cases rx
  cases ry
  obtain ⟨its, r1, p1, _⟩ := I.tuple ha
  obtain ⟨its2, r2, p2, _⟩ := I.tuple hb
  have i1 : IntsAre its.toArray.toList ns := intsAre_of r1
  have i2 : IntsAre its2.toArray.toList ms := intsAre_of r2
  exact HT.lt_tupInts p1 p2 i1 i2 hu ⟨.bl (HT.lexLt ns ms), H, I, rfl, q⟩
/-- t + u, t not empty: u empty gives t itself -/
def rCatT (K : PySem.W.Frag) : R2 := fun x y H Q => ∃ a b xs ys, x = .ref a ∧ y = .ref b ∧ SqT K H a xs ∧ SqT K H b ys ∧ xs ≠ [] ∧ xs.length + ys.length ≤ sizeLine ∧
  (ys = [] → Q (.ref a) H) ∧ (ys ≠ [] → ∀ p, H p = none → Q (.ref p) (upd H p (.tup (xs ++ ys))))
theorem Vals.nil_iff {xs : List V} {us : List Value} (r : Vals xs us) : us = [] ↔ xs = [] := by
  cases r with
  | nil => simp
  | cons _ _ => simp
theorem op_catT : OpR X (binaryOp .Add) (rCatT X.K) := by
  intro pins s σ H x y v u Q I rx ry h
  obtain ⟨a, b, xs, ys, rfl, rfl, ha, hb, hx, hz, q1, q2⟩ := h
  cases rx
  cases ry
  obtain ⟨its, r1, p1, _⟩ := I.tuple ha
  obtain ⟨its2, r2, p2, _⟩ := I.tuple hb
  refine HT.cat_tup p1 p2 (fun z => hx (r1.nil_iff.mp z)) (fun z => ⟨.ref a, H, I, rfl, q1 (r2.nil_iff.mp z)⟩) (fun z => ?_) (by rw [← r1.length, ← r2.length]; exact hz)
  refine ⟨.ref s.heap.objs.size, _, I.laid (t' := s.toks) (o := .tup (xs ++ ys)) (fun b ob q => Heap.get?_push_of_some _ q) (Nat.le_refl _) ?_, rfl, q2 (fun w => z (r2.nil_iff.mpr w)) _ (I.hok.fresh (Nat.le_refl _))⟩
  exact ⟨by rw [List.length_append]; exact hz, _, r1.append r2, IsTup.new _ _⟩
/-- tuple(t) -/
theorem call_tupleT : CallR X (.type "tuple") (fun xs H Q => ∃ a ys, xs = [.ref a] ∧ SqT X.K H a ys ∧ Q (.ref a) H) := by
  intro pins s σ H xs us Q I r h
  obtain ⟨a, ys, rfl, ha, q⟩ := h
  obtain ⟨u, rfl, ru⟩ := vals1 r
  cases ru
  obtain ⟨its, _, p1, _⟩ := I.tuple ha
  exact call_tuple_same (items := its.toArray) p1 ⟨.ref a, H, I, rfl, q⟩
end
end L2

namespace L2
open PySem PySem.Spec PyProof.Rows

/-! ### places -/
/-- the place that an index of any sign means -/
def ixN (n : Nat) (i : Int) : Option Nat := if 0 ≤ i then (if i < n then some i.toNat else none) else if -(n : Int) ≤ i then some (i + n).toNat else none
def atI {α : Type} (xs : List α) (i : Int) : Option α := (ixN xs.length i).bind fun j => xs[j]?
theorem ixN_seq {n : Nat} {i : Int} {j : Nat} (h : ixN n i = some j) : seqIndex? i n = some j ∧ j < n ∧ -(n : Int) ≤ i ∧ i < n := by
  unfold ixN at h
  by_cases h0 : 0 ≤ i
  · rw [if_pos h0] at h
    by_cases h1 : i < n
    · rw [if_pos h1] at h
      have e : i.toNat = j := Option.some.inj h
      exact ⟨by rw [seqIndex_of h0 h1, e], by omega, by omega, h1⟩
    · rw [if_neg h1] at h; cases h
  · rw [if_neg h0] at h
    by_cases h1 : -(n : Int) ≤ i
    · rw [if_pos h1] at h
      have e : (i + n).toNat = j := Option.some.inj h
      exact ⟨by rw [seqIndex_neg (by omega) h1, e], by omega, h1, by omega⟩
    · rw [if_neg h1] at h; cases h
theorem atI_get {α : Type} {xs : List α} {i : Int} {v : α} (h : atI xs i = some v) : ∃ j, seqIndex? i xs.length = some j ∧ xs[j]? = some v ∧ j < xs.length ∧ -(xs.length : Int) ≤ i ∧ i < xs.length := by
  unfold atI at h
  cases e : ixN xs.length i with
  | none => rw [e] at h; cases h
  | some j =>
    rw [e] at h
    obtain ⟨h1, h2, h3, h4⟩ := ixN_seq e
    exact ⟨j, h1, h, h2, h3, h4⟩
theorem atI_nat {α : Type} {xs : List α} {j : Nat} {v : α} (h : xs[j]? = some v) : atI xs (j : Int) = some v := by
  have hj : j < xs.length := (List.getElem?_eq_some_iff.mp h).1
  have e : ixN xs.length (j : Int) = some j := by
    unfold ixN
    rw [if_pos (by omega), if_pos (by omega)]; simp
  unfold atI; rw [e]; exact h
theorem atI_last {α : Type} (xs : List α) (v : α) : atI (xs ++ [v]) (-1) = some v := by
  have hl : (xs ++ [v]).length = xs.length + 1 := by simp
  have e : ixN (xs ++ [v]).length (-1) = some xs.length := by
    unfold ixN
    rw [hl, if_neg (by decide), if_pos (by omega)]
    congr 1
    omega
  unfold atI
  rw [e]
  show (xs ++ [v])[xs.length]? = some v
  simp

/-! ### what may be subscripted -/
/-- what stands as an index of a plain subscript -/
def PlainIx (b : Expr) : Prop := ∀ o i, subscripted b false o i = operate [o, i] (getItem o i)
/-- a subscript by values -/
def IxR (X : Cx) (r : R2) : Prop :=
  ∀ (value slice : Expr) (pins : List (Addr × Obj)) (s : Shared) (σ : St) (H : Hp) (x y : V) (v u : Value) (Q : VK), Inv X pins σ H s → RelV x v → RelV y u → r x y H Q →
    subscripted slice false v u = operate [v, u] (getItem v u) → wpAny (model X.prog X.w) X.A (subscriptTail value slice v u) (EP X pins σ Q) X.xe s
/-- a call of a builtin's method by values: the receiver, the arguments -/
def MtR (X : Cx) (id : String) (r : V → List V → Hp → VK → Prop) : Prop :=
  ∀ (pins : List (Addr × Obj)) (s : Shared) (σ : St) (H : Hp) (x : V) (xs : List V) (v : Value) (us : List Value) (Q : VK), Inv X pins σ H s → RelV x v → Vals xs us → r x xs H Q →
    wpAny (model X.prog X.w) X.A (call (.builtin id) (v :: us)) (EP X pins σ Q) X.xe s
section
variable {X : Cx} {a b : Expr} {ta tb : TE} {pos : Pos}
theorem IxR.or {r r' : R2} (h : IxR X r) (h' : IxR X r') : IxR X (fun x y H Q => r x y H Q ∨ r' x y H Q) := by
  intro value slice pins s σ H x y v u Q I rx ry q hs
  rcases q with q | q
  · exact h value slice pins s σ H x y v u Q I rx ry q hs
  · exact h' value slice pins s σ H x y v u Q I rx ry q hs
theorem MtR.or {id : String} {r r' : V → List V → Hp → VK → Prop} (h : MtR X id r) (h' : MtR X id r') : MtR X id (fun x xs H Q => r x xs H Q ∨ r' x xs H Q) := by
  intro pins s σ H x xs v us Q I rx rs q
  rcases q with q | q
  · exact h pins s σ H x xs v us Q I rx rs q
  · exact h' pins s σ H x xs v us Q I rx rs q
/-- a[b] -/
theorem pe_ix {r : R2} (hr : IxR X r) (ha : PE X a ta) (hb : PE X b tb) (hs : PlainIx b) : PE X (.Subscript a b pos) (tOp r ta tb) := by
  intro pins s σ H Q I h
  exact Subscript_ (binT ha hb I h fun v u s2 x y H2 I2 rx ry q => hr a b pins s2 σ H2 x y v u Q I2 rx ry q (hs _ _))

def rIxL (K : PySem.W.Frag) : R2 := fun x y H Q => ∃ p xs i v, x = .ref p ∧ y = .int i ∧ SqL K H p xs ∧ atI xs i = some v ∧ Q v H
def rIxT (K : PySem.W.Frag) : R2 := fun x y H Q => ∃ p xs i v, x = .ref p ∧ y = .int i ∧ SqT K H p xs ∧ atI xs i = some v ∧ Q v H
def rIxS : R2 := fun x y H Q => ∃ z i c, x = .str z ∧ y = .int i ∧ z.length ≤ sizeLine ∧ atI z.cps.toList i = some c ∧ Q (.str ⟨#[c]⟩) H
theorem ix_list : IxR X (rIxL X.K) := by
  intro value slice pins s σ H x y v u Q I rx ry h hs
  obtain ⟨p, xs, i, z, rfl, rfl, hq, he, q⟩ := h
  cases rx
  obtain ⟨t, rfl⟩ := ry
  obtain ⟨its, r, pl, hz⟩ := I.list hq
  obtain ⟨j, h1, h2, h3, h4, h5⟩ := atI_get he
  obtain ⟨w, ew, rw'⟩ := r.get h2
  have hl := r.length
  have hn := line63
  have fin : EP X pins σ Q w s := ⟨z, H, I, rw', q⟩
  by_cases h0 : 0 ≤ i
  · have hj : i.toNat = j := by
      rw [seqIndex_of h0 h5] at h1
      exact Option.some.inj h1
    exact item_listR pl.isList h0 (by omega) (by rw [hj]; simpa using ew) fin hs
  · have hj : (i + (its.toArray.size : Int)).toNat = j := by
      rw [seqIndex_neg (by omega) h4] at h1
      rw [List.size_toArray, ← hl]
      exact Option.some.inj h1
    exact subscriptTail_builtinR (x := w) pl.isList.typeIs slot_list_getitem.lookup
      (wpAny_getItem_list_neg (Q := fun r s' => r = w ∧ EP X pins σ Q r s') pl.isList (by omega) (by rw [List.size_toArray] <;> omega) (by omega) (by rw [hj]; simpa using ew) ⟨rfl, fin⟩) hs
theorem ix_tup : IxR X (rIxT X.K) := by
  intro value slice pins s σ H x y v u Q I rx ry h hs
  obtain ⟨p, xs, i, z, rfl, rfl, hq, he, q⟩ := h
  cases rx
  obtain ⟨t, rfl⟩ := ry
  obtain ⟨its, r, pl, hz⟩ := I.tuple hq
  obtain ⟨j, h1, h2, h3, h4, h5⟩ := atI_get he
  obtain ⟨w, ew, rw'⟩ := r.get h2
  have hl := r.length
  have hn := line63
  have fin : EP X pins σ Q w s := ⟨z, H, I, rw', q⟩
  exact subscriptTail_builtinR (x := w) pl.typeIs slot_tuple_getitem.lookup
    (getItem_tuple (j := j) (Q := fun r s' => r = w ∧ EP X pins σ Q r s') pl (by omega) (by omega) (by rw [List.size_toArray, ← hl]; exact h1) (by simpa using ew) ⟨rfl, fin⟩) hs
theorem ix_str : IxR X rIxS := by
  intro value slice pins s σ H x y v u Q I rx ry h hs
  obtain ⟨z, i, c, rfl, rfl, hz, he, q⟩ := h
  obtain ⟨t, rfl⟩ := rx
  obtain ⟨t', rfl⟩ := ry
  obtain ⟨j, h1, h2, h3, h4, h5⟩ := atI_get he
  have hl : z.cps.toList.length = z.length := by simp [Str.length]
  rw [hl] at h1 h4 h5
  have hn := line63
  exact tail_any (typeIs_str s z t) slot_str_getitem.lookup (getItem_str (c := c) (by
    have e1 : decide (i < -(2 ^ 63 : Int)) = false := decide_eq_false (by omega)
    have e2 : decide (i ≥ 2 ^ 63) = false := decide_eq_false (by omega)
    rw [e1, e2, Bool.or_false]) (by rw [h1]; simpa using h2) ⟨.str ⟨#[c]⟩, H, I.tok _, ⟨_, rfl⟩, q⟩) hs
/-- list, tuple or str -/
def rIx (K : PySem.W.Frag) : R2 := fun x y H Q => rIxL K x y H Q ∨ rIxT K x y H Q ∨ rIxS x y H Q
theorem ix_seq : IxR X (rIx X.K) := ix_list.or (ix_tup.or ix_str)

/-! ### xs[i] = v, any sign -/
/-- the list's object behind a store -/
theorem mapSeq_set (its : List Value) (n j : Nat) (u : Value) : Obj.mapSeq (·.setIfInBounds j u) { cls := .type "list", data := .seq its.toArray n } = { cls := .type "list", data := .seq (its.set j u).toArray n } := by
  simp [Obj.mapSeq]
theorem Inv.lst {pins : List (Addr × Obj)} {σ : St} {H : Hp} {s : Shared} {p : Addr} {xs : List V} (I : Inv X pins σ H s) (h : H p = some (.lst xs)) :
    ∃ (its : List Value) (n : Nat), Vals xs its ∧ s.heap.get? p = some { cls := .type "list", data := .seq its.toArray n } ∧ xs.length ≤ sizeLine := by
  obtain ⟨z, its, n, r, e⟩ := I.hok p _ h
  exact ⟨its, n, r, e, z⟩
/-- the list at p is written by an update of its object -/
theorem Inv.lstUpd {pins : List (Addr × Obj)} {σ : St} {H : Hp} {s : Shared} {p : Addr} {xs ys : List V} {its its' : List Value} {n n' : Nat} {f : Obj → Obj} (I : Inv X pins σ H s) (h : H p = some (.lst xs))
    (ho : s.heap.get? p = some { cls := .type "list", data := .seq its.toArray n }) (hf : f { cls := .type "list", data := .seq its.toArray n } = { cls := .type "list", data := .seq its'.toArray n' }) (r : Vals ys its') (hz : ys.length ≤ sizeLine) (t : Nat) :
    Inv X pins σ (upd H p (.lst ys)) { s with heap := s.heap.update p f, toks := t } := by
  have e : (s.heap.update p f).get? p = some { cls := .type "list", data := .seq its'.toArray n' } := by
    rw [Heap.get?_update_self f ho (by rw [hf] <;> rfl), hf]
  refine I.write (x := p) (e := p) (by rw [h]; trivial) (.inl rfl) (fun b u hb q => (Heap.get?_update_other _ _ (Ne.symm hb)).trans q) ⟨_, e⟩ ?_
  exact ⟨hz, its', n', r, e⟩
def rSetL : V → V → V → Hp → (Hp → Prop) → Prop := fun o i v H Q => ∃ p xs k j, o = .ref p ∧ i = .int k ∧ H p = some (.lst xs) ∧ ixN xs.length k = some j ∧ Q (upd H p (.lst (xs.set j v)))
theorem set_list : PSet X rSetL := by
  intro pins s σ H o i v ov iv u Q I ro ri rv h
  obtain ⟨p, xs, k, j, rfl, rfl, hp, hj, q⟩ := h
  cases ro
  obtain ⟨t, rfl⟩ := ri
  obtain ⟨its, n, r, ho, hz⟩ := I.lst hp
  obtain ⟨h1, h2, h3, h4⟩ := ixN_seq hj
  have hl := r.length
  have hn := line63
  have I' : Inv X pins σ (upd H p (.lst (xs.set j v))) { s with heap := s.heap.update p (Obj.mapSeq (·.setIfInBounds j u)) } :=
    I.lstUpd hp ho (mapSeq_set its n j u) (r.set rv j) (by rw [List.length_set]; exact hz) s.toks
  by_cases h0 : 0 ≤ k
  · have hk : k.toNat = j := by
      rw [seqIndex_of h0 h4] at h1
      exact Option.some.inj h1
    exact PySem.W.ki_setAt ho h0 (by omega) (by rw [List.size_toArray, ← hl]; exact h4) (by rw [hk]; exact ⟨_, I', q⟩)
  · have hk : (k + (its.toArray.size : Int)).toNat = j := by
      rw [seqIndex_neg (by omega) h3] at h1
      rw [List.size_toArray, ← hl]
      exact Option.some.inj h1
    exact PySem.W.ki_setBack ho (by omega) (by rw [List.size_toArray, ← hl]; exact h3) (by omega) (by rw [hk]; exact ⟨_, I', q⟩)

/-! ### slices -/
theorem slice_bounds (lo hi : Option Int) (n : Nat) : (sliceBounds lo hi none n).1 = ((HT.sIx n 0 lo : Nat) : Int) ∧ (sliceBounds lo hi none n).2.1 = ((HT.sIx n n hi : Nat) : Int) ∧ (sliceBounds lo hi none n).2.2 = 1 := by
  refine ⟨?_, ?_, rfl⟩
  · cases lo with
    | none => simp [sliceBounds, HT.sIx]
    | some i =>
      simp only [sliceBounds, HT.sIx, Option.getD_none, show (1 : Int) > 0 by decide, if_true]
      by_cases h : i < 0
      · simp only [h, if_true] <;> omega
      · simp only [h, if_false] <;> omega
  · cases hi with
    | none => simp [sliceBounds, HT.sIx]
    | some i =>
      simp only [sliceBounds, HT.sIx, Option.getD_none, show (1 : Int) > 0 by decide, if_true]
      by_cases h : i < 0
      · simp only [h, if_true] <;> omega
      · simp only [h, if_false] <;> omega
theorem slicePick_cut (its : List Value) (lo hi : Option Int) : slicePick its.toArray lo hi none = ((its.drop (HT.sIx its.length 0 lo)).take (HT.sIx its.length its.length hi - HT.sIx its.length 0 lo)).toArray := by
  obtain ⟨h1, h2, h3⟩ := slice_bounds lo hi its.toArray.size
  unfold slicePick
  rw [h1, h2, h3]
  simp only [sliceRange_one, pick_run, List.size_toArray] <;> rfl
/-- xs[lo:hi] of a list: a new list -/
def rSlL (K : PySem.W.Frag) : V → Option Int → Option Int → Hp → VK → Prop := fun x lo hi H Q => ∃ a xs, x = .ref a ∧ SqL K H a xs ∧ ∀ p, H p = none → Q (.ref p) (upd H p (.lst (cutV xs lo hi)))
theorem sl_list : SlR X (rSlL X.K) := by
  intro pins s σ H x v vl vu lo hi sl Q I rx hs pl pu h
  obtain ⟨a, xs, rfl, hx, q⟩ := h
  cases rx
  obtain ⟨its, r, ht, hz⟩ := I.list hx
  have hlen := r.length
  refine ⟨"list", _, slot_list_getitem.lookup, ht.isList.typeIs, ?_⟩
  refine wpAny_getItem_list_slice ht.isList hs pl pu .none (by simp) ?_ (by rw [List.size_toArray] <;> omega)
  rw [slicePick_cut, ← hlen]
  refine ⟨.ref s.heap.objs.size, _, I.laid (t' := s.toks) (o := .lst (cutV xs lo hi)) (fun b ob q => Heap.get?_push_of_some _ q) (Nat.le_refl _) ?_, rfl, q _ (I.hok.fresh (Nat.le_refl _))⟩
  exact ⟨Nat.le_trans (cutV_length xs lo hi) hz, _, 0, (r.drop (HT.sIx xs.length 0 lo)).take (HT.sIx xs.length xs.length hi - HT.sIx xs.length 0 lo), Heap.get?_push_size _ rfl⟩

/-! ### in, not in: flat items -/
def flatV : V → Bool
  | .non => true
  | .bl _ => true
  | .int _ => true
  | .str _ => true
  | _ => false
/-- == of flat values -/
def eqV : V → V → Bool
  | .non, .non => true
  | .bl a, .bl b => a == b
  | .bl a, .int b => (if a then 1 else 0) == b
  | .int a, .bl b => a == (if b then 1 else 0)
  | .int a, .int b => a == b
  | .str a, .str b => a == b
  | _, _ => false
theorem eqAt_V {A : Around} {s : Shared} {y x : V} {u v : Value} (ry : RelV y u) (rx : RelV x v) (fy : flatV y = true) (fx : flatV x = true) : SeqAt.EqAt A s u v (eqV y x) := by
  cases y with
  | non =>
    cases ry
    cases x with
    | non => cases rx; exact SeqAt.EqAt.same _
    | bl b => cases rx; exact SeqAt.EqAt.none_bool b
    | int b => obtain ⟨t, rfl⟩ := rx; exact SeqAt.EqAt.none_int b t
    | str b => obtain ⟨t, rfl⟩ := rx; exact SeqAt.EqAt.none_str b t
    | _ => exact absurd (show false = true from fx) Bool.false_ne_true
  | bl a =>
    cases ry
    cases x with
    | non => cases rx; exact SeqAt.EqAt.bool_none a
    | bl b => cases rx; exact SeqAt.EqAt.bool_bool a b
    | int b => obtain ⟨t, rfl⟩ := rx; exact SeqAt.EqAt.bool_int a b t
    | str b => obtain ⟨t, rfl⟩ := rx; exact SeqAt.EqAt.bool_str a b t
    | _ => exact absurd (show false = true from fx) Bool.false_ne_true
  | int a =>
    obtain ⟨t', rfl⟩ := ry
    cases x with
    | non => cases rx; exact SeqAt.EqAt.int_none a t'
    | bl b => cases rx; exact SeqAt.EqAt.int_bool a t' b
    | int b => obtain ⟨t, rfl⟩ := rx; exact SeqAt.EqAt.int_int a t' b t
    | str b => obtain ⟨t, rfl⟩ := rx; exact SeqAt.EqAt.int_str a t' b t
    | _ => exact absurd (show false = true from fx) Bool.false_ne_true
  | str a =>
    obtain ⟨t', rfl⟩ := ry
    cases x with
    | non => cases rx; exact SeqAt.EqAt.str_none a t'
    | bl b => cases rx; exact SeqAt.EqAt.str_bool a t' b
    | int b => obtain ⟨t, rfl⟩ := rx; exact SeqAt.EqAt.str_int a t' b t
    | str b => obtain ⟨t, rfl⟩ := rx; exact SeqAt.EqAt.str_str a t' b t
    | _ => exact absurd (show false = true from fx) Bool.false_ne_true
  | _ => exact absurd (show false = true from fy) Bool.false_ne_true
/-- the items' answers, read off the values (a value's own answer does not lean on its token) -/
def eqU (x : V) (u : Value) : Bool := match u with
  | .none => eqV .non x
  | .bool b => eqV (.bl b) x
  | .int i _ => eqV (.int i) x
  | .str z _ => eqV (.str z) x
  | _ => false
theorem eqU_of {x y : V} {u : Value} (r : RelV y u) (f : flatV y = true) : eqU x u = eqV y x := by
  cases y with
  | non => cases r; rfl
  | bl b => cases r; rfl
  | int i => obtain ⟨t, rfl⟩ := r; rfl
  | str z => obtain ⟨t, rfl⟩ := r; rfl
  | _ => exact absurd (show false = true from f) Bool.false_ne_true
theorem any_eqU {x : V} : ∀ {xs : List V} {us : List Value}, Vals xs us → xs.all flatV = true → us.any (eqU x) = xs.any fun y => eqV y x
  | _, _, .nil, _ => rfl
  | y :: xs, u :: us, .cons r t, f => by
    rw [List.all_cons, Bool.and_eq_true] at f
    rw [List.any_cons, List.any_cons, eqU_of r f.1, any_eqU t f.2]
theorem mem_eqAt {A : Around} {s : Shared} {x : V} {v : Value} (rx : RelV x v) (fx : flatV x = true) : ∀ {xs : List V} {us : List Value}, Vals xs us → xs.all flatV = true → ∀ u ∈ us, SeqAt.EqAt A s u v (eqU x u)
  | _, _, .nil, _ => fun u hu => by cases hu
  | y :: xs, u :: us, .cons r t, f => fun u' hu => by
    rw [List.all_cons, Bool.and_eq_true] at f
    rcases List.mem_cons.mp hu with rfl | hu
    · rw [eqU_of r f.1]; exact eqAt_V r rx f.1 fx
    · exact mem_eqAt rx fx t f.2 u' hu
def inV (x : V) (xs : List V) : Bool := xs.any fun y => eqV y x
/-- x in a list or tuple of flat items -/
def rIn (K : PySem.W.Frag) (neg : Bool) : R2 := fun x y H Q => ∃ p xs, y = .ref p ∧ (SqL K H p xs ∨ SqT K H p xs) ∧ flatV x = true ∧ xs.all flatV = true ∧ Q (.bl (if neg then !inV x xs else inV x xs)) H
theorem op_in_seq : OpR X (compareOp .In) (rIn X.K false) := by
  intro pins s σ H x y v u Q I rx ry h
  obtain ⟨p, xs, rfl, hq, fx, fs, q⟩ := h
  cases ry
  rcases hq with hq | hq
  · obtain ⟨its, r, pl, hz⟩ := I.list hq
    refine SeqAt.in_listAt (eqU x) pl.isList (fun w hw => mem_eqAt rx fx r fs w (by simpa using hw)) ⟨.bl _, H, I, rfl, ?_⟩
    rw [show its.toArray.any (eqU x) = its.any (eqU x) by simp, any_eqU r fs]
    exact q
  · obtain ⟨its, r, pl, hz⟩ := I.tuple hq
    refine SeqAt.in_tupleAt (eqU x) pl (fun w hw => mem_eqAt rx fx r fs w (by simpa using hw)) ⟨.bl _, H, I, rfl, ?_⟩
    rw [show its.toArray.any (eqU x) = its.any (eqU x) by simp, any_eqU r fs]
    exact q
theorem op_notIn_seq : OpR X (compareOp .NotIn) (rIn X.K true) := by
  intro pins s σ H x y v u Q I rx ry h
  obtain ⟨p, xs, rfl, hq, fx, fs, q⟩ := h
  cases ry
  rcases hq with hq | hq
  · obtain ⟨its, r, pl, hz⟩ := I.list hq
    refine SeqAt.notIn_listAt (eqU x) pl.isList (fun w hw => mem_eqAt rx fx r fs w (by simpa using hw)) ⟨.bl _, H, I, rfl, ?_⟩
    rw [show its.toArray.any (eqU x) = its.any (eqU x) by simp, any_eqU r fs]
    exact q
  · obtain ⟨its, r, pl, hz⟩ := I.tuple hq
    refine SeqAt.notIn_tupleAt (eqU x) pl (fun w hw => mem_eqAt rx fx r fs w (by simpa using hw)) ⟨.bl _, H, I, rfl, ?_⟩
    rw [show its.toArray.any (eqU x) = its.any (eqU x) by simp, any_eqU r fs]
    exact q
theorem op_notIn_str : OpR X (compareOp .NotIn) (fun x y H Q => ∃ i j, x = .str i ∧ y = .str j ∧ Q (.bl (!(!(Builtin.Str.occurrences j i 0 j.length 1).isEmpty))) H) := by
  intro pins s σ H x y v u Q I rx ry h
  obtain ⟨i, j, rfl, rfl, q⟩ := h
  obtain ⟨t, rfl⟩ := rx
  obtain ⟨t', rfl⟩ := ry
  exact notIn_str ⟨.bl _, H, I, rfl, q⟩

/-! ### len, list(x), tuple(x) of any list or tuple that is read -/
theorem call_len_seq : CallR X (.builtin "len") (fun xs H Q => ∃ p ys, xs = [.ref p] ∧ (SqL X.K H p ys ∨ SqT X.K H p ys) ∧ Q (.int ys.length) H) := by
  intro pins s σ H xs us Q I r h
  obtain ⟨p, ys, rfl, hq, q⟩ := h
  obtain ⟨u, rfl, rx⟩ := vals1 r
  cases rx
  have hn := line63
  rcases hq with hq | hq
  · obtain ⟨its, r', pl, hz⟩ := I.list hq
    have hlen := r'.length
    exact Calls.call_len_list pl.isList (by simp only [List.size_toArray] <;> omega) ⟨.int ys.length, H, I.tok _, ⟨s.toks + 1, by rw [List.size_toArray, hlen]⟩, q⟩
  · obtain ⟨its, r', pl, hz⟩ := I.tuple hq
    have hlen := r'.length
    exact len_tuple pl (by simp only [List.size_toArray] <;> omega) ⟨.int ys.length, H, I.tok _, ⟨s.toks + 1, by rw [List.size_toArray, hlen]⟩, q⟩
theorem call_len_str : CallR X (.builtin "len") (fun xs H Q => ∃ z, xs = [.str z] ∧ z.length ≤ sizeLine ∧ Q (.int z.length) H) := by
  intro pins s σ H xs us Q I r h
  obtain ⟨z, rfl, hz, q⟩ := h
  obtain ⟨u, rfl, t, rfl⟩ := vals1 r
  have hn := line63
  exact len_str (by omega) ⟨.int z.length, H, I.tok _, ⟨_, rfl⟩, q⟩
theorem CallR.or {f : Value} {r r' : List V → Hp → VK → Prop} (h : CallR X f r) (h' : CallR X f r') : CallR X f (fun xs H Q => r xs H Q ∨ r' xs H Q) := by
  intro pins s σ H xs us Q I rs q
  rcases q with q | q
  · exact h pins s σ H xs us Q I rs q
  · exact h' pins s σ H xs us Q I rs q
theorem call_list_of : CallR X (.type "list") (fun xs H Q => ∃ p ys, xs = [.ref p] ∧ (SqL X.K H p ys ∨ SqT X.K H p ys) ∧ ∀ l, H l = none → Q (.ref l) (upd H l (.lst ys))) := by
  intro pins s σ H xs us Q I r h
  obtain ⟨p, ys, rfl, hq, q⟩ := h
  obtain ⟨u, rfl, rx⟩ := vals1 r
  cases rx
  have fin : ∀ (its : List Value), Vals ys its → ys.length ≤ sizeLine → ∀ (h' : Heap) (c' : Nat), (∀ b o', s.heap.get? b = some o' → h'.get? b = some o') →
      h'.get? s.heap.objs.size = some { cls := .type "list", dict := none, data := .seq its.toArray c', slots := #[] } → EP X pins σ Q (.ref s.heap.objs.size) { s with heap := h' } := fun its r' hz h' c' kp e =>
    ⟨.ref s.heap.objs.size, _, I.laid (t' := s.toks) kp (Nat.le_refl _) (show ObjOk X.prog X.w _ h' _ (.lst ys) from ⟨hz, its, c', r', e⟩), rfl, q _ (I.hok.fresh (Nat.le_refl _))⟩
  rcases hq with hq | hq
  · obtain ⟨its, r', pl, hz⟩ := I.list hq
    have hlen := r'.length
    obtain ⟨o, ho, hc, n, hd⟩ := pl.isList
    exact call_list_seq p (.inl rfl) ho hc hd (fun h' c' kp e => fin its r' hz h' c' kp e) (by simp only [List.size_toArray] <;> omega)
  · obtain ⟨its, r', pl, hz⟩ := I.tuple hq
    have hlen := r'.length
    obtain ⟨o, ho, hc, n, hd⟩ := pl
    exact call_list_seq p (.inr rfl) ho hc hd (fun h' c' kp e => fin its r' hz h' c' kp e) (by simp only [List.size_toArray] <;> omega)
theorem call_tuple_of : CallR X (.type "tuple") (fun xs H Q => ∃ p ys, xs = [.ref p] ∧ ((SqL X.K H p ys ∧ ∀ l, H l = none → Q (.ref l) (upd H l (.tup ys))) ∨ (SqT X.K H p ys ∧ Q (.ref p) H))) := by
  intro pins s σ H xs us Q I r h
  obtain ⟨p, ys, rfl, h⟩ := h
  obtain ⟨u, rfl, rx⟩ := vals1 r
  cases rx
  rcases h with ⟨hq, q⟩ | ⟨hq, q⟩
  · obtain ⟨its, r', pl, hz⟩ := I.list hq
    have hlen := r'.length
    refine call_tuple_list pl.isList (fun h' kp => ?_) (by simp only [List.size_toArray] <;> omega)
    have I1 : Inv X pins σ H { s with heap := h' } := I.kept (t' := s.toks) kp
    have I2 : Inv X pins σ (upd H h'.objs.size (.tup ys)) { s with heap := h'.push { cls := .type "tuple", data := .seq its.toArray } } :=
      I1.laid (t' := s.toks) (fun b o e => Heap.get?_push_of_some _ e) (Nat.le_refl _) (show ObjOk X.prog X.w _ _ _ (.tup ys) from ⟨hz, its, r', IsTup.new _ _⟩)
    exact ⟨.ref h'.objs.size, _, I2, rfl, q _ (I1.hok.fresh (Nat.le_refl _))⟩
  · obtain ⟨its, r', pl, hz⟩ := I.tuple hq
    exact call_tuple_same pl ⟨.ref p, H, I, rfl, q⟩

/-! ### the call of a builtin's method: o.m(..) -/
/-- the value is of that builtin type -/
def tyV (K : PySem.W.Frag) (T : String) (x : V) (H : Hp) : Prop := match x with
  | .str _ => T = "str"
  | .int _ => T = "int"
  | .ref p => (T = "list" ∧ ∃ xs, SqL K H p xs) ∨ (T = "tuple" ∧ ∃ o, K.lookup p = some o ∧ o.cls = .type "tuple" ∧ o.dict = none) ∨
      (T = "dict" ∧ ((∃ kvs, H p = some (.dK kvs)) ∨ ∃ kvs, H p = some (.dT kvs))) ∨ (T = "set" ∧ ∃ S n, H p = some (.set S n))
  | _ => False
theorem tyV_is {pins : List (Addr × Obj)} {σ : St} {H : Hp} {s : Shared} {T : String} {x : V} {v : Value} (I : Inv X pins σ H s) (r : RelV x v) (ty : tyV X.K T x H) :
    s.TypeIs v T ∧ ∀ a, v = .ref a → ∃ ob, s.heap.get? a = some ob ∧ ob.dict = none := by
  cases x with
  | str z =>
    obtain ⟨t, rfl⟩ := r
    cases (show T = "str" from ty)
    exact ⟨typeIs_str s z t, fun _ e => nomatch e⟩
  | int i =>
    obtain ⟨t, rfl⟩ := r
    cases (show T = "int" from ty)
    exact ⟨typeIs_int s i t, fun _ e => nomatch e⟩
  | ref p =>
    cases r
    rcases ty with ⟨rfl, xs, hq⟩ | ⟨rfl, o, hk, hc, hd⟩ | ⟨rfl, hk⟩ | ⟨rfl, S, n, hk⟩
    · obtain ⟨its, _, pl, _⟩ := I.list hq
      refine ⟨pl.isList.typeIs, fun a e => ?_⟩
      cases e
      obtain ⟨o, n, e, c, hd, _⟩ := pl
      exact ⟨o, e, hd⟩
    · refine ⟨⟨o, I.kIn p o hk, hc⟩, fun a e => ?_⟩
      cases e
      exact ⟨o, I.kIn _ o hk, hd⟩
    · have z : ∃ o, s.heap.get? p = some o ∧ o.ExactDict := by
        rcases hk with ⟨kvs, hk⟩ | ⟨kvs, hk⟩
        · obtain ⟨_, _, _, _, o, _, _, e, ex, _⟩ := I.hok p _ hk
          exact ⟨o, e, ex⟩
        · obtain ⟨_, _, _, _, o, _, _, e, ex, _⟩ := I.hok p _ hk
          exact ⟨o, e, ex⟩
      obtain ⟨o, e, ex⟩ := z
      refine ⟨⟨o, e, ex.1⟩, fun a e2 => ?_⟩
      cases e2
      exact ⟨o, e, ex.2.1⟩
    · obtain ⟨o, _, _, _, e, ex, _⟩ := I.hok p _ hk
      refine ⟨⟨o, e, ex.1⟩, fun a e2 => ?_⟩
      cases e2
      exact ⟨o, e, ex.2.1⟩
  | _ => exact False.elim ty
def tBM0 (K : PySem.W.Frag) (T : String) (r : V → List V → Hp → VK → Prop) (to : TE) : TE := fun σ H Q => to σ H fun x H1 => tyV K T x H1 ∧ r x [] H1 Q
def tBM (K : PySem.W.Frag) (T : String) (r : V → List V → Hp → VK → Prop) (to : TE) (t : TA) : TE := fun σ H Q => to σ H fun x H1 => tyV K T x H1 ∧ t σ H1 fun xs H2 => r x xs H2 Q
variable {o e : Expr} {es : List Expr} {to : TE} {t : TA} {name : Str} {apos cpos : Pos} {T id : String} {r : V → List V → Hp → VK → Prop}
theorem pe_bm0 (pa : PlainAttrs T) (slot : Slot T name id) (hty : typeOf (.builtin id) = pure (.type "method_descriptor")) (hm : MtR X id r) (ho : PE X o to)
    (hbase : attributeBase o name X.env (eval o X.env) = eval o X.env := by rfl) (hline : (apos.endLine == cpos.line) = true := by rfl) : PE X (.Call (.Attribute o name apos) [] [] cpos) (tBM0 X.K T r to) := by
  intro pins s σ H Q I h
  refine wpAny_Call_method0_late hbase hline (thn (ho pins s σ H _ I h) fun v s1 ⟨x, H1, I1, r1, ty, q1⟩ => ?_)
  obtain ⟨h1, h2⟩ := tyV_is I1 r1 ty
  exact ⟨T, id, pa, slot, hty, h1, h2, Calls.callWith_builtin rfl (PySem.evalArgs_none (hm pins s1 σ H1 x [] v [] Q I1 r1 .nil q1))⟩
theorem pe_bm (pa : PlainAttrs T) (slot : Slot T name id) (hty : typeOf (.builtin id) = pure (.type "method_descriptor")) (hm : MtR X id r) (ho : PE X o to) (ha : PA X (e :: es) t)
    (hbase : attributeBase o name X.env (eval o X.env) = eval o X.env := by rfl)
    (hfew : ((backTo cpos (starEach (e :: es) X.env)).all (fun x => !x.1) && (backToKw cpos (keywordEach [] X.env)).all (fun x => x.1.isSome)
      && decide ((e :: es).length + ([] : List Keyword).length + (if ([] : List Keyword).isEmpty then 0 else 1) < 30)) = true := by rfl)
    (hline : (apos.endLine == cpos.line) = true := by rfl) (hs : starEach (e :: es) X.env = (false, eval e X.env) :: starEach es X.env := by rfl) (hplain : (backTo cpos (starEach es X.env)).any (·.1) = false := by rfl) :
    PE X (.Call (.Attribute o name apos) (e :: es) [] cpos) (tBM X.K T r to t) := by
  intro pins s σ H Q I h
  refine wpAny_Call_method_late hbase hfew hline rfl (thn (ho pins s σ H _ I h) fun v s1 ⟨x, H1, I1, r1, ty, q1⟩ => ?_)
  obtain ⟨h1, h2⟩ := tyV_is I1 r1 ty
  refine ⟨T, id, pa, slot, hty, h1, h2, ?_⟩
  have hA := ha cpos pins s1 σ H1 _ I1 q1
  rw [hs] at hA ⊢
  refine Calls.callWith_builtin (by show (false || (backTo cpos (starEach es X.env)).any (·.1)) = false; rw [hplain] <;> rfl) (Calls.evalArgs_plain ?_)
  exact thn hA fun us s2 ⟨vs, H2, I2, r2, q2⟩ => hm pins s2 σ H2 x vs v us Q I2 r1 r2 q2
/- xs.append(e), list.index on a module's tuple .. are MtR facts of 06m -/
end
end L2

namespace L2
open PySem PySem.Spec PyProof.Rows

def MtM (X : Cx) (id : String) (r : V → List V → Hp → VK → Prop) : Prop :=
  ∀ (pins : List (Addr × Obj)) (s : Shared) (σ : St) (H : Hp) (x : V) (xs : List V) (v : Value) (us : List Value) (Q : VK), Inv X pins σ H s → RelV x v → Vals xs us → r x xs H Q →
    wpAny (model X.prog X.w) X.A (call (.builtin id) (v :: us)) (EP X pins σ Q) X.xe s

/-! ### lists of values -/
theorem Vals.one : ∀ {x : V} {us : List Value}, Vals [x] us → ∃ u, us = [u] ∧ RelV x u
  | _, _, .cons r .nil => ⟨_, rfl, r⟩
theorem Vals.two : ∀ {x y : V} {us : List Value}, Vals [x, y] us → ∃ u v, us = [u, v] ∧ RelV x u ∧ RelV y v
  | _, _, _, .cons r (.cons q .nil) => ⟨_, _, rfl, r, q⟩
theorem Vals.zero : ∀ {us : List Value}, Vals [] us → us = []
  | _, .nil => rfl
theorem Vals.dropLast {xs : List V} {us : List Value} (h : Vals xs us) : Vals xs.dropLast us.dropLast := by
  induction h with
  | nil => exact .nil
  | cons r t ih =>
    cases t with
    | nil => exact .nil
    | cons q t' => exact .cons r ih
theorem Vals.eraseIdx : ∀ {xs : List V} {us : List Value} (i : Nat), Vals xs us → Vals (xs.eraseIdx i) (us.eraseIdx i)
  | _, _, _, .nil => .nil
  | _, _, 0, .cons _ t => t
  | _, _, i + 1, .cons r t => .cons r (Vals.eraseIdx i t)
theorem Vals.reverse {xs : List V} {us : List Value} (h : Vals xs us) : Vals xs.reverse us.reverse := by
  induction h with
  | nil => exact .nil
  | cons r t ih => rw [List.reverse_cons, List.reverse_cons]; exact Vals.append ih (.cons r .nil)
theorem Vals.rep {xs : List V} {us : List Value} (h : Vals xs us) : ∀ k : Nat, Vals (List.replicate k xs).flatten (List.replicate k us).flatten
  | 0 => .nil
  | k + 1 => by
    rw [List.replicate_succ, List.replicate_succ, List.flatten_cons, List.flatten_cons]
    exact Vals.append h (Vals.rep h k)
theorem erase_last {α : Type} (l : List α) : l.eraseIdx (l.length - 1) = l.dropLast := by
  induction l with
  | nil => rfl
  | cons a r ih =>
    cases r with
    | nil => rfl
    | cons b r =>
      have e : (a :: b :: r).length - 1 = ((b :: r).length - 1) + 1 := by
        have h1 : (a :: b :: r).length = r.length + 2 := rfl
        have h2 : (b :: r).length = r.length + 1 := rfl
        omega
      rw [e, List.eraseIdx_cons_succ, ih]
      all_goals rfl
theorem len_erase {α : Type} : ∀ (l : List α) (i : Nat), (l.eraseIdx i).length ≤ l.length
  | [], _ => Nat.le_refl _
  | _ :: _, 0 => Nat.le_succ _
  | _ :: r, i + 1 => Nat.succ_le_succ (len_erase r i)
theorem foldl_rep (its : List Value) : ∀ (k : Nat) (acc : List Value),
    List.foldl (fun x1 x2 => x1 ++ x2) acc.toArray (List.replicate k its.toArray) = (acc ++ (List.replicate k its).flatten).toArray
  | 0, acc => by simp
  | k + 1, acc => by
    have e : acc.toArray ++ its.toArray = (acc ++ its).toArray := by simp
    have e2 : (acc ++ its) ++ (List.replicate k its).flatten = acc ++ (List.replicate (k + 1) its).flatten := by
      rw [List.replicate_succ, List.flatten_cons, List.append_assoc]
    rw [← e2, ← foldl_rep its k (acc ++ its), ← e, List.replicate_succ, List.foldl_cons]

section
variable {X : Cx} {pins : List (Addr × Obj)} {σ : St} {H : Hp} {s : Shared} {l b : Addr} {xs ys zs : List V}

/-! ### the two steps: a tracked list is rewritten, a new list is laid -/
theorem Inv.lset {its its' : List Value} {n : Nat} {f : Array Value → Array Value} {t' : Nat} (I : Inv X pins σ H s) (hH : H l = some (.lst xs))
    (e : s.heap.get? l = some { cls := .type "list", data := .seq its.toArray n }) (hf : f its.toArray = its'.toArray) (hv : Vals ys its') (hz : ys.length ≤ sizeLine) :
    Inv X pins σ (upd H l (.lst ys)) { s with heap := s.heap.update l (Obj.mapSeq f), toks := t' } := by
  have q := PySem.IsL.update e f
  rw [hf] at q
  refine I.write (x := l) (e := l) (by rw [hH]; exact trivial) (.inl rfl) (fun b' u hb hu => (Heap.get?_update_other s.heap (Obj.mapSeq f) (Ne.symm hb)).trans hu) ⟨_, q⟩ ?_
  exact ⟨hz, its', _, hv, q⟩
theorem Inv.lnew {its : List Value} {t' : Nat} (I : Inv X pins σ H s) (hv : Vals ys its) (hz : ys.length ≤ sizeLine) :
    Inv X pins σ (upd H s.heap.objs.size (.lst ys)) { s with heap := s.heap.push { cls := .type "list", data := .seq its.toArray }, toks := t' } :=
  I.laid (fun _ _ q => Heap.get?_push_of_some _ q) (Nat.le_refl _) ⟨hz, its, 0, hv, Heap.get?_push_size _ rfl⟩
theorem Inv.fresh (I : Inv X pins σ H s) : H s.heap.objs.size = none := I.hok.fresh (Nat.le_refl _)
theorem Inv.lstM (I : Inv X pins σ H s) (hH : H l = some (.lst xs)) : xs.length ≤ sizeLine ∧ ∃ (its : List Value) (n : Nat), Vals xs its ∧ xs.length = its.length ∧ s.heap.get? l = some { cls := .type "list", data := .seq its.toArray n } := by
  obtain ⟨z, its, n, r, e⟩ := I.hok l _ hH
  exact ⟨z, its, n, r, r.length, e⟩

theorem notLongL {n : Nat} (h : n ≤ sizeLine) : Builtin.List.listTooLong n = false := by
  unfold Builtin.List.listTooLong
  exact decide_eq_false (by omega)
end

section
variable {X : Cx}

/-! ### methods -/
def rAppend : V → List V → Hp → VK → Prop := fun x vs H Q => ∃ l xs y, x = .ref l ∧ vs = [y] ∧ H l = some (.lst xs) ∧ xs.length < sizeLine ∧ Q .non (upd H l (.lst (xs ++ [y])))
theorem mt_append : MtM X "list.append" rAppend := by
  intro pins s σ H x vs v us Q I rx rv h
  obtain ⟨l, xs, y, rfl, rfl, hH, hz, q⟩ := h
  cases rx
  obtain ⟨u, rfl, ru⟩ := rv.one
  obtain ⟨z, its, n, r, hl, e⟩ := I.lstM hH
  refine call_meets F.slot_list_append ⟨_, e, rfl⟩ F.entry_list_append (F.args_list_append_2 _ _) (PySem.list_append l its.toArray n u (by rw [List.size_toArray]; omega)) ⟨e, ?_⟩
  refine ⟨.non, _, I.lset (its' := its ++ [u]) hH e (by simp) (r.append (.cons ru .nil)) ?_, rfl, q⟩
  rw [List.length_append, List.length_singleton]
  omega

def rExtend : V → List V → Hp → VK → Prop := fun x vs H Q => ∃ l b xs zs, x = .ref l ∧ vs = [.ref b] ∧ H l = some (.lst xs) ∧ H b = some (.lst zs) ∧ xs.length + zs.length ≤ sizeLine ∧ Q .non (upd H l (.lst (xs ++ zs)))
theorem mt_extend : MtM X "list.extend" rExtend := by
  intro pins s σ H x vs v us Q I rx rv h
  obtain ⟨l, b, xs, zs, rfl, rfl, hH, hB, hz, q⟩ := h
  cases rx
  obtain ⟨u, rfl, ru⟩ := rv.one
  cases ru
  obtain ⟨z, its, n, r, hl, e⟩ := I.lstM hH
  obtain ⟨z2, its2, n2, r2, hl2, e2⟩ := I.lstM hB
  have hsz : its.toArray.size + its2.toArray.size ≤ sizeLine := by rw [List.size_toArray, List.size_toArray]; omega
  have hlong : ¬ (!its.toArray.isEmpty && Builtin.List.listTooLong (its.toArray.size + its2.toArray.size)) = true := by
    rw [notLongL hsz, Bool.and_false]
    exact Bool.false_ne_true
  refine call_meets F.slot_list_extend ⟨_, e, rfl⟩ F.entry_list_extend (F.args_list_extend_2 _ _)
    (AutoSeq1.list_extend_list_list_0 l its.toArray n b its2.toArray n2 hlong (by rw [List.size_toArray]; omega) (by omega)) ⟨e, e2, ?_⟩
  refine ⟨.non, _, I.lset (its' := its ++ its2) hH e (by simp) (r.append r2) ?_, rfl, q⟩
  rw [List.length_append]
  omega

def rPop : V → List V → Hp → VK → Prop := fun x vs H Q => ∃ l xs y, x = .ref l ∧ vs = [] ∧ H l = some (.lst xs) ∧ xs[xs.length - 1]? = some y ∧ Q y (upd H l (.lst xs.dropLast))
theorem mt_pop : MtM X "list.pop" rPop := by
  intro pins s σ H x vs v us Q I rx rv h
  obtain ⟨l, xs, y, rfl, rfl, hH, hy, q⟩ := h
  cases rx
  have hus := rv.zero
  subst hus
  obtain ⟨z, its, n, r, hl, e⟩ := I.lstM hH
  obtain ⟨u, hu, ru⟩ := r.get hy
  have hy' : its.toArray[its.toArray.size - 1]? = some u := by
    show its.toArray[its.length - 1]? = some u
    rw [← Array.getElem?_toList, ← hl]
    exact hu
  refine call_meets F.slot_list_pop ⟨_, e, rfl⟩ F.entry_list_pop (F.args_list_pop_1 _) (MeetsSeq.list_pop_last l its.toArray n u hy' (by rw [List.size_toArray]; omega)) ⟨e, ?_⟩
  refine ⟨y, _, I.lset (its' := its.dropLast) hH e ?_ r.dropLast ?_, ru, q⟩
  · show its.toArray.eraseIdxIfInBounds (its.toArray.size - 1) = its.dropLast.toArray
    rw [List.size_toArray, List.eraseIdxIfInBounds_toArray, erase_last]
  · rw [List.length_dropLast]
    omega

def rPopAt : V → List V → Hp → VK → Prop := fun x vs H Q => ∃ l xs i k y, x = .ref l ∧ vs = [.int i] ∧ H l = some (.lst xs) ∧ -(2 ^ 63) ≤ i ∧ i < 2 ^ 63 ∧ seqIndex? i xs.length = some k ∧ xs[k]? = some y ∧ Q y (upd H l (.lst (xs.eraseIdx k)))
theorem mt_popAt : MtM X "list.pop" rPopAt := by
  intro pins s σ H x vs v us Q I rx rv h
  obtain ⟨l, xs, i, k, y, rfl, rfl, hH, h1, h2, hk, hy, q⟩ := h
  cases rx
  obtain ⟨u, rfl, ru⟩ := rv.one
  obtain ⟨t, rfl⟩ := ru
  obtain ⟨z, its, n, r, hl, e⟩ := I.lstM hH
  obtain ⟨w, hw, rw'⟩ := r.get hy
  refine call_meets F.slot_list_pop ⟨_, e, rfl⟩ F.entry_list_pop (F.args_list_pop_2 _ _)
    (MeetsSeq.list_pop_at l its.toArray n i t k w (fitsIndex_both h1 h2) (by rw [List.size_toArray, ← hl]; exact hk) (by rw [← Array.getElem?_toList]; exact hw) (by rw [List.size_toArray]; omega)) ⟨e, ?_⟩
  refine ⟨y, _, I.lset (its' := its.eraseIdx k) hH e ?_ (r.eraseIdx k) ?_, rw', q⟩
  · show its.toArray.eraseIdxIfInBounds k = (its.eraseIdx k).toArray
    rw [List.eraseIdxIfInBounds_toArray]
  · have := len_erase xs k
    omega

def rReverse : V → List V → Hp → VK → Prop := fun x vs H Q => ∃ l xs, x = .ref l ∧ vs = [] ∧ H l = some (.lst xs) ∧ Q .non (upd H l (.lst xs.reverse))
theorem mt_reverse : MtM X "list.reverse" rReverse := by
  intro pins s σ H x vs v us Q I rx rv h
  obtain ⟨l, xs, rfl, rfl, hH, q⟩ := h
  cases rx
  have hus := rv.zero
  subst hus
  obtain ⟨z, its, n, r, hl, e⟩ := I.lstM hH
  refine call_meets F.slot_list_reverse ⟨_, e, rfl⟩ F.entry_list_reverse (F.args_list_reverse_1 _) (AutoSeq1.list_reverse_list_0 l its.toArray n (by rw [List.size_toArray]; omega)) ⟨e, ?_⟩
  refine ⟨.non, _, I.lset (its' := its.reverse) hH e (by simp) r.reverse ?_, rfl, q⟩
  rw [List.length_reverse]
  omega

def rClear : V → List V → Hp → VK → Prop := fun x vs H Q => ∃ l xs, x = .ref l ∧ vs = [] ∧ H l = some (.lst xs) ∧ Q .non (upd H l (.lst []))
theorem mt_clear : MtM X "list.clear" rClear := by
  intro pins s σ H x vs v us Q I rx rv h
  obtain ⟨l, xs, rfl, rfl, hH, q⟩ := h
  cases rx
  have hus := rv.zero
  subst hus
  obtain ⟨z, its, n, r, hl, e⟩ := I.lstM hH
  refine call_meets F.slot_list_clear ⟨_, e, rfl⟩ F.entry_list_clear (F.args_list_clear_1 _) (AutoSeq1.list_clear_list_0 l its.toArray n (by rw [List.size_toArray]; omega)) ⟨e, ?_⟩
  exact ⟨.non, _, I.lset (its' := []) (ys := []) hH e rfl .nil (Nat.zero_le _), rfl, q⟩

/-! ### list + list, list += list, list * int -/
def rCat : R2 := fun x y H Q => ∃ l b xs zs, x = .ref l ∧ y = .ref b ∧ H l = some (.lst xs) ∧ H b = some (.lst zs) ∧ xs.length + zs.length ≤ sizeLine ∧ ∀ p, H p = none → Q (.ref p) (upd H p (.lst (xs ++ zs)))
theorem op_cat : OpR X (binaryOp .Add) rCat := by
  intro pins s σ H x y v u Q I rx ry h
  obtain ⟨l, b, xs, zs, rfl, rfl, hH, hB, hz, q⟩ := h
  cases rx
  cases ry
  obtain ⟨z, its, n, r, hl, e⟩ := I.lstM hH
  obtain ⟨z2, its2, n2, r2, hl2, e2⟩ := I.lstM hB
  refine PySem.P.add_list e e2 ?_ (by rw [List.size_toArray, List.size_toArray]; omega)
  have ea : its.toArray ++ its2.toArray = (its ++ its2).toArray := by simp
  rw [ea]
  exact ⟨.ref _, _, I.lnew (t' := s.toks) (r.append r2) (by rw [List.length_append]; omega), rfl, q _ I.fresh⟩
/-- a list times an int (a negative one is nothing) -/
def rRep : R2 := fun x y H Q => ∃ l k xs, x = .ref l ∧ y = .int k ∧ H l = some (.lst xs) ∧ -(2 ^ 63) ≤ k ∧ k < 2 ^ 63 ∧ xs.length * k.toNat ≤ sizeLine ∧
  ∀ p, H p = none → Q (.ref p) (upd H p (.lst (List.replicate k.toNat xs).flatten))
theorem len_rep {α : Type} (xs : List α) (k : Nat) : (List.replicate k xs).flatten.length = k * xs.length := by
  induction k with
  | zero => simp
  | succ k ih => rw [List.replicate_succ, List.flatten_cons, List.length_append, ih, Nat.succ_mul, Nat.add_comm]
theorem op_rep : OpR X (binaryOp .Mult) rRep := by
  intro pins s σ H x y v u Q I rx ry h
  obtain ⟨l, k, xs, rfl, rfl, hH, h1, h2, hz, q⟩ := h
  cases rx
  obtain ⟨t, rfl⟩ := ry
  obtain ⟨z, its, n, r, hl, e⟩ := I.lstM hH
  have hlen : its.toArray.size * k.toNat ≤ sizeLine := by rw [List.size_toArray, ← hl]; exact hz
  have hcap : ¬ its.toArray.size * k.toNat > (2 ^ 63 - 1) / 8 := by
    have : (sizeLine : Nat) ≤ (2 ^ 63 - 1) / 8 := by decide
    omega
  have hfit : ¬ (!Builtin.List.listFitsIndex k) = true := by
    rw [fitsIndex_both h1 h2]
    exact Bool.false_ne_true
  have hlong : ¬ Builtin.List.listTooLong (its.toArray.size * k.toNat) = true := by
    rw [notLongL hlen]
    exact Bool.false_ne_true
  have hnew : List.foldl (fun x1 x2 => x1 ++ x2) #[] (List.replicate (if its.toArray.isEmpty = true then 0 else k.toNat) its.toArray) = (List.replicate k.toNat its).flatten.toArray := by
    have f0 : ∀ m : Nat, List.foldl (fun x1 x2 => x1 ++ x2) #[] (List.replicate m its.toArray) = (List.replicate m its).flatten.toArray := fun m => by
      have := foldl_rep its m []
      rw [List.nil_append] at this
      exact this
    rw [f0]
    cases its with
    | nil => simp
    | cons a r' => rw [if_neg (by simp)]
  refine wpAny_binaryOp_repeat_ref (T := "list") (U := "int") (by decide) ⟨_, e, rfl⟩ (fun s' => typeIs_int s' k t) noFill_list_mul F.fills_int_mul F.slot_int_rmul repeat_list F.slot_int_index.lookup
    (call_meets F.slot_int_rmul (typeIs_int s k t) F.entry_int_rmul (F.args_int_rmul_2 _ _) (int___rmul___int_list k t l its.toArray n)
      ⟨e, rfl, ⟨_, e, rfl⟩, call_meets F.slot_list_mul ⟨_, e, rfl⟩ F.entry_list_mul (F.args_list_mul_2 _ _) (AutoListH.list___mul___list_int_3 l its.toArray n k t hfit hcap hlong) ⟨e, ?_⟩⟩)
  rw [hnew]
  exact ⟨.ref _, _, I.lnew (t' := s.toks) (r.rep k.toNat) (by rw [len_rep, Nat.mul_comm]; exact hz), rfl, q _ I.fresh⟩

/-! ### del xs[i] -/
theorem del_list {pins : List (Addr × Obj)} {s : Shared} {σ : St} {H : Hp} {l : Addr} {xs : List V} {i : Int} {t : Tok} {k : Nat} {Q : Unit → Shared → Prop} (I : Inv X pins σ H s) (hH : H l = some (.lst xs))
    (h1 : -(2 ^ 63) ≤ i) (h2 : i < 2 ^ 63) (hk : seqIndex? i xs.length = some k) (h : ∀ s', Inv X pins σ (upd H l (.lst (xs.eraseIdx k))) s' → Q () s') :
    wpAny (model X.prog X.w) X.A (delItem (.ref l) (.int i t)) Q X.xe s := by
  obtain ⟨z, its, n, r, hl, e⟩ := I.lstM hH
  refine PySem.P.delItem_list (k := k) e (fitsIndex_both h1 h2) (by rw [List.size_toArray, ← hl]; exact hk) (h _ ?_) (by rw [List.size_toArray]; omega)
  refine I.lset (its' := its.eraseIdx k) (t' := s.toks) hH e ?_ (r.eraseIdx k) ?_
  · show its.toArray.eraseIdxIfInBounds k = (its.eraseIdx k).toArray
    rw [List.eraseIdxIfInBounds_toArray]
  · have := len_erase xs k
    omega
end

/-! ### xs[a:b] = ys -/
section
variable {prog : Program} {w : World} {A : Around} {E : Value → Shared → Prop} {s : Shared}
theorem splice_eq (its its2 : List Value) (a c : Nat) : its.toArray.extract 0 a ++ its2.toArray ++ its.toArray.extract c its.toArray.size = (its.take a ++ its2 ++ its.drop c).toArray := by
  apply Array.toList_inj.mp
  first
    | (simp
       exact List.take_of_length_le (by simp))
    | simp [List.take_of_length_le]
    | simp
theorem bounds_run {a c n : Nat} (hac : a ≤ c) (hc : c ≤ n) : sliceBounds (some (a : Int)) (some (c : Int)) none n = ((a : Int), (c : Int), 1) := by
  simp only [sliceBounds, Option.getD_none]
  have h1 : ¬ ((a : Int) < 0) := by omega
  have h2 : ¬ ((c : Int) < 0) := by omega
  simp only [h1, h2, if_false, show (1 : Int) > 0 by decide, if_true]
  congr 1
  · omega
  · congr 1; omega
set_option maxRecDepth 100000 in
/-- list.__setitem__ with a slice of step one and another list -/
theorem setItem_slice {l b sl : Addr} {items new : Array Value} {n n2 : Nat} {vl vu : Value} {a c : Nat} {Q : Unit → Shared → Prop}
    (e : s.heap.get? l = some { cls := .type "list", data := .seq items n }) (e2 : s.heap.get? b = some { cls := .type "list", data := .seq new n2 }) (hne : l ≠ b)
    (hs : s.heap.IsSliceOf sl vl vu .none) (pl : IsPart vl (some (a : Int))) (pu : IsPart vu (some (c : Int))) (hac : a ≤ c) (hc : c ≤ items.size)
    (hsz : items.size + new.size ≤ sizeLine) (h : Q () { s with heap := s.heap.update l (Obj.mapSeq fun xs => xs.extract 0 a ++ new ++ xs.extract c xs.size) }) :
    wpAny (model prog w) A (setItem (.ref l) (.ref sl) (.ref b)) Q E s := by
  have hl : s.heap.IsList l items := PySem.IsL.isList e
  have hb : s.heap.IsList b new := PySem.IsL.isList e2
  obtain ⟨os, hos, hcs, hds⟩ := id hs
  have hTs : s.TypeIs (.ref sl) "slice" := ⟨os, hos, hcs⟩
  have hstep : ¬ ((rawPart none == rawInt 0) = true) := Bool.false_ne_true
  have hsame : Builtin.List.listSameRef (.ref l) (.ref b) = false := by
    unfold Builtin.List.listSameRef
    exact beq_eq_false_iff_ne.mpr hne
  have hmax : (max (a : Int) (c : Int)).toNat = c := by omega
  have hz' : ((fun xs : Array Value => xs.extract 0 a ++ new ++ xs.extract c xs.size) items).size ≤ sizeLine + 1 := by
    simp only [Array.size_append, Array.size_extract]
    omega
  unfold setItem
  try with_reducible refine wpAny_holding ?_
  first | refine wpAny_bind (wpAny_pure ?_) | skip
  refine wpAny_bind (wpAny_sequenceKey hl.typeIs (by decide) ?_)
  refine wpAny_bind (wpAny_callSpecial?_slot (name := Str.ofString "__setitem__") hl.typeIs slot_list_setitem
    (wpAny_call_entry slot_list_setitem hl.typeIs entry_list_setitem ?_ (args_list_setitem _ _ _)))
  show wpAny _ _ (Builtin.List.listSubscript? (.ref sl) >>= _) _ _ s
  refine wpAny_bind ?_
  unfold Builtin.List.listSubscript?
  refine wpAny_bind (wpAny_specialOf hTs slice_no_index ?_)
  simp only [Option.isNone_none, if_true]
  refine wpAny_pure ?_
  show wpAny _ _ (typeOf (.ref sl) >>= _) _ _ s
  refine wpAny_bind (wpAny_typeOf hTs ?_)
  first
    | rw [if_neg (by decide)]
    | refine PySem.W.KFB.if_not (by decide) ?_
  rw [listSliceParts_eq]
  refine wpAny_bind (wpAny_bind (wpAny_field hos hds (x := .none) rfl (wpAny_bind (wpAny_listPart .none ?_))))
  rw [if_neg hstep]
  refine wpAny_bind (wpAny_field hos hds (x := vl) rfl (wpAny_bind (wpAny_listPart pl ?_)))
  refine wpAny_bind (wpAny_field hos hds (x := vu) rfl (wpAny_bind (wpAny_listPart pu (wpAny_pure ?_))))
  first
    | simp only [hsame, Bool.false_eq_true, if_false]
    | refine PySem.W.KFB.if_not hsame ?_
    | (dsimp only
       rw [if_neg (by rw [hsame]; exact Bool.false_ne_true)])
  refine wpAny_bind (m := Builtin.List.listAllItems (.ref b) "must assign iterable to extended slice") ?_
  unfold Builtin.List.listAllItems
  refine wpAny_bind (wpAny_typeOf hb.typeIs ?_)
  first
    | refine PySem.W.KFB.if_so (by decide) ?_
    | rw [if_pos (by decide)]
    | simp only [beq_self_eq_true, Bool.true_or, if_true]
  unfold Builtin.List.listItems
  refine wpAny_bind (wpAny_seqItems e2 rfl (wpAny_pure ?_))
  refine wpAny_bind (wpAny_bind (wpAny_seqItems e rfl (wpAny_pure ?_)))
  refine wpAny_bind (wpAny_of_eq ((sliceIndices_raw (some (a : Int)) (some (c : Int)) none items.size (by simp)).trans (congrArg (pure : Int × Int × Int → Sem (Int × Int × Int)) (bounds_run hac hc))) ?_)
  show wpAny _ _ (if ((1 : Int) == 1) = true then _ else _) _ _ s
  rw [if_pos (by decide)]
  refine wpAny_bind (wpAny_rule ?_)
  first
    | simp only [notLongL hsz, Bool.false_eq_true, if_false]
    | refine PySem.W.KFB.if_not (notLongL hsz) ?_
  first | refine wpAny_bind (wpAny_pure ?_) | skip
  show wpAny _ _ (updateSeq l (fun xs => xs.extract 0 ((a : Int)).toNat ++ new ++ xs.extract (max (a : Int) (c : Int)).toNat xs.size) >>= _) _ _ s
  rw [hmax, Int.toNat_natCast]
  refine wpAny_bind (wpAny_updateSeq (hz := Nat.le_trans (Nat.le_add_right _ _) hsz) (_hz' := hz') e rfl ?_)
  refine wpAny_bind (wpAny_letGo ?_)
  first
    | exact wpAny_bind (wpAny_pure (wpAny_pure ⟨.none, rfl, wpAny_pure h⟩))
    | exact wpAny_pure ⟨.none, rfl, wpAny_pure h⟩
end

section
variable {X : Cx}
/-- xs[a:c] = ys of another list, at the value level: sl is the slice object that was just made -/
theorem set_slice {pins : List (Addr × Obj)} {s : Shared} {σ : St} {H : Hp} {l b sl : Addr} {xs ys : List V} {a c : Int} {vl vu : Value} {Q : Unit → Shared → Prop} (I : Inv X pins σ H s)
    (hH : H l = some (.lst xs)) (hB : H b = some (.lst ys)) (hne : l ≠ b) (hs : s.heap.IsSliceOf sl vl vu .none) (ra : RelV (.int a) vl) (rc : RelV (.int c) vu) (h0 : 0 ≤ a) (hac : a ≤ c) (hc : c ≤ xs.length)
    (hz : xs.length + ys.length ≤ sizeLine) (h : ∀ s', Inv X pins σ (upd H l (.lst (xs.take a.toNat ++ ys ++ xs.drop c.toNat))) s' → Q () s') :
    wpAny (model X.prog X.w) X.A (setItem (.ref l) (.ref sl) (.ref b)) Q X.xe s := by
  obtain ⟨ta, rfl⟩ := ra
  obtain ⟨tc, rfl⟩ := rc
  obtain ⟨z, its, n, r, hl, e⟩ := I.lstM hH
  obtain ⟨z2, its2, n2, r2, hl2, e2⟩ := I.lstM hB
  obtain ⟨a', rfl⟩ := Int.eq_ofNat_of_zero_le h0
  obtain ⟨c', rfl⟩ := Int.eq_ofNat_of_zero_le (Int.le_trans h0 hac)
  simp only [Int.toNat_natCast] at h
  refine setItem_slice (a := a') (c := c') e e2 hne hs (.int _ _) (.int _ _) (by omega) (by rw [List.size_toArray]; omega) (by rw [List.size_toArray, List.size_toArray]; omega) (h _ ?_)
  refine I.lset (its' := its.take a' ++ its2 ++ its.drop c') (t' := s.toks) hH e ?_ (Vals.append (Vals.append (r.take _) r2) (r.drop _)) ?_
  · exact splice_eq its its2 a' c'
  · rw [List.length_append, List.length_append, List.length_take, List.length_drop]
    omega
end
end L2

namespace L2
open PySem PySem.Spec PyProof.Rows

theorem Vals.ints : ∀ {ns : List Int} {us : List Value}, Vals (ns.map V.int) us → IntsAre us ns
  | [], us, h => by
    rw [List.map_nil] at h
    cases h
    exact IntsAre.nil
  | n :: ns, us, h => by
    rw [List.map_cons] at h
    cases h with
    | cons r t =>
      obtain ⟨k, rfl⟩ := r
      exact IntsAre.cons n k (Vals.ints t)
theorem vals_of_ints : ∀ {us : List Value} {ns : List Int}, IntsAre us ns → Vals (ns.map V.int) us
  | _, _, .nil => by rw [List.map_nil]; exact Paired.nil
  | _, _, .cons n t h => by rw [List.map_cons]; exact Paired.cons (show RelV (V.int n) (Value.int n t) from ⟨t, rfl⟩) (vals_of_ints h)
theorem Vals.strs : ∀ {xs : List Str} {us : List Value}, Vals (xs.map V.str) us → StrsAre us xs
  | [], us, h => by
    rw [List.map_nil] at h
    cases h
    exact StrsAre.nil
  | x :: xs, us, h => by
    rw [List.map_cons] at h
    cases h with
    | cons r t =>
      obtain ⟨k, rfl⟩ := r
      exact StrsAre.cons x k (Vals.strs t)
theorem vals_of_strs : ∀ {us : List Value} {xs : List Str}, StrsAre us xs → Vals (xs.map V.str) us
  | _, _, .nil => by rw [List.map_nil]; exact Paired.nil
  | _, _, .cons x t h => by rw [List.map_cons]; exact Paired.cons (show RelV (V.str x) (Value.str x t) from ⟨t, rfl⟩) (vals_of_strs h)
theorem Vals.bls : ∀ {bs : List Bool} {us : List Value}, Vals (bs.map V.bl) us → us = bs.map Value.bool
  | [], us, h => by
    rw [List.map_nil] at h
    cases h
    rfl
  | b :: bs, us, h => by
    rw [List.map_cons] at h
    cases h with
    | cons r t =>
      cases r
      rw [Vals.bls t, List.map_cons]
theorem Vals.ref1 {a : Addr} {us : List Value} (r : Vals [V.ref a] us) : us = [Value.ref a] := by
  cases r with
  | cons r t =>
    cases t
    cases r
    rfl
theorem Vals.int2 {i j : Int} {us : List Value} (r : Vals [V.int i, V.int j] us) : ∃ t u, us = [Value.int i t, Value.int j u] := by
  cases r with
  | cons r t =>
    cases t with
    | cons r2 t2 =>
      cases t2
      obtain ⟨t, rfl⟩ := r
      obtain ⟨u, rfl⟩ := r2
      exact ⟨t, u, rfl⟩

/-! ### the library's walks over a list of ints, kept objects alone -/
section
variable {prog : Program} {w : World} {A : Around} {E : Value → Shared → Prop} {s : Shared} {l : Addr} {its : List Value} {ns : List Int} {Q : Value → Shared → Prop}
theorem sum_raw (hh : A.handled = none) (hl : s.heap.IsList l its.toArray) (hi : IntsAre its ns)
    (h : ∀ h' tk t', (∀ b o, s.heap.get? b = some o → h'.get? b = some o) → Q (.int ns.sum t') { s with heap := h', toks := tk }) : wpAny (model prog w) A (call (.builtin "sum") [.ref l]) Q E s := by
  obtain ⟨xs, e⟩ := hi.allInts.items
  have hn : numsOf (intItems xs).toList = ns := by rw [← e]; exact hi.numsOf
  rw [nums_intItems] at hn
  rw [e] at hl
  refine PySem.sum_intListG hh hl fun h' tk t' hk => ?_
  have := h h' tk t' hk
  rw [preSum_eq, List.take_of_length_le (by simp), hn]; exact this
theorem max_raw (hh : A.handled = none) (hl : s.heap.IsList l its.toArray) (hi : IntsAre its ns) (hne : 0 < ns.length)
    (h : ∀ h' tk M t', (∀ b o, s.heap.get? b = some o → h'.get? b = some o) → M ∈ ns → (∀ a, a ∈ ns → a ≤ M) → Q (.int M t') { s with heap := h', toks := tk }) : wpAny (model prog w) A (call (.builtin "max") [.ref l]) Q E s := by
  obtain ⟨xs, e⟩ := hi.allInts.items
  have hn : numsOf (intItems xs).toList = ns := by rw [← e]; exact hi.numsOf
  rw [nums_intItems] at hn
  subst hn
  rw [e] at hl
  have hsz : 0 < xs.size := by simpa using hne
  refine PySem.max_intList hh hl hsz fun v h' tk hv hk => ?_
  obtain ⟨t, rfl⟩ := intItems_at hv
  obtain ⟨h1, h2⟩ := argBest_gt (numAt xs) (xs.size - 1)
  refine h h' tk _ t hk ?_ fun a ha => ?_
  · rw [numAt_eq]; exact PySem.getD_mem (by rw [List.length_map, Array.length_toList]; omega)
  · obtain ⟨j, hj, rfl⟩ := mem_getD ha
    rw [List.length_map, Array.length_toList] at hj
    rw [← numAt_eq]; exact h2 j (by omega)
theorem min_raw (hh : A.handled = none) (hl : s.heap.IsList l its.toArray) (hi : IntsAre its ns) (hne : 0 < ns.length)
    (h : ∀ h' tk M t', (∀ b o, s.heap.get? b = some o → h'.get? b = some o) → M ∈ ns → (∀ a, a ∈ ns → M ≤ a) → Q (.int M t') { s with heap := h', toks := tk }) : wpAny (model prog w) A (call (.builtin "min") [.ref l]) Q E s := by
  obtain ⟨xs, e⟩ := hi.allInts.items
  have hn : numsOf (intItems xs).toList = ns := by rw [← e]; exact hi.numsOf
  rw [nums_intItems] at hn
  subst hn
  rw [e] at hl
  have hsz : 0 < xs.size := by simpa using hne
  refine PySem.min_intList hh hl hsz fun v h' tk hv hk => ?_
  obtain ⟨t, rfl⟩ := intItems_at hv
  obtain ⟨h1, h2⟩ := argBest_lt (numAt xs) (xs.size - 1)
  refine h h' tk _ t hk ?_ fun a ha => ?_
  · rw [numAt_eq]; exact PySem.getD_mem (by rw [List.length_map, Array.length_toList]; omega)
  · obtain ⟨j, hj, rfl⟩ := mem_getD ha
    rw [List.length_map, Array.length_toList] at hj
    rw [← numAt_eq]; exact h2 j (by omega)
end

/-! ### the calls, by values (CallR of 03t; MtR of 06l) -/
section
variable {X : Cx}
/-- sum(xs) of a list of ints -/
def rSum (K : PySem.W.Frag) : List V → Hp → VK → Prop := fun vs H Q => ∃ (a : Addr) (ns : List Int), vs = [V.ref a] ∧ SqL K H a (ns.map V.int) ∧ Q (.int ns.sum) H
/-- max(xs), min(xs) of a list of ints -/
def rMax (K : PySem.W.Frag) : List V → Hp → VK → Prop := fun vs H Q => ∃ (a : Addr) (ns : List Int), vs = [V.ref a] ∧ SqL K H a (ns.map V.int) ∧ 0 < ns.length ∧ ∀ m, m ∈ ns → (∀ y, y ∈ ns → y ≤ m) → Q (.int m) H
def rMin (K : PySem.W.Frag) : List V → Hp → VK → Prop := fun vs H Q => ∃ (a : Addr) (ns : List Int), vs = [V.ref a] ∧ SqL K H a (ns.map V.int) ∧ 0 < ns.length ∧ ∀ m, m ∈ ns → (∀ y, y ∈ ns → m ≤ y) → Q (.int m) H
theorem cr_sum (hc : X.calm = true) : CallR X (.builtin "sum") (rSum X.K) := by
  intro pins s σ H vs us Q I r h
  obtain ⟨a, ns, rfl, hs, q⟩ := h
  obtain ⟨its, rv, hl, _⟩ := I.list hs
  rw [Vals.ref1 r]
  exact sum_raw (I.ok.hd hc) hl.isList rv.ints fun h' tk t' hk => ⟨.int _, H, I.kept hk, ⟨_, rfl⟩, q⟩
theorem cr_max (hc : X.calm = true) : CallR X (.builtin "max") (rMax X.K) := by
  intro pins s σ H vs us Q I r h
  obtain ⟨a, ns, rfl, hs, hne, q⟩ := h
  obtain ⟨its, rv, hl, _⟩ := I.list hs
  rw [Vals.ref1 r]
  exact max_raw (I.ok.hd hc) hl.isList rv.ints hne fun h' tk m t' hk h1 h2 => ⟨.int _, H, I.kept hk, ⟨_, rfl⟩, q m h1 h2⟩
theorem cr_min (hc : X.calm = true) : CallR X (.builtin "min") (rMin X.K) := by
  intro pins s σ H vs us Q I r h
  obtain ⟨a, ns, rfl, hs, hne, q⟩ := h
  obtain ⟨its, rv, hl, _⟩ := I.list hs
  rw [Vals.ref1 r]
  exact min_raw (I.ok.hd hc) hl.isList rv.ints hne fun h' tk m t' hk h1 h2 => ⟨.int _, H, I.kept hk, ⟨_, rfl⟩, q m h1 h2⟩

/-! sorted, sort (fewer than 64 items: the library's own bound) -/
def rSorted (K : PySem.W.Frag) : List V → Hp → VK → Prop := fun vs H Q => ∃ (a : Addr) (ns : List Int), vs = [V.ref a] ∧ SqL K H a (ns.map V.int) ∧ ns.length < 64 ∧
  ∀ (ns' : List Int) (p : Addr), ns'.Perm ns → ns'.Pairwise (· ≤ ·) → H p = none → Q (.ref p) (upd H p (.lst (ns'.map V.int)))
def rSortedS (K : PySem.W.Frag) : List V → Hp → VK → Prop := fun vs H Q => ∃ (a : Addr) (xs : List Str), vs = [V.ref a] ∧ SqL K H a (xs.map V.str) ∧ xs.length < 64 ∧
  ∀ (ys : List Str) (p : Addr), ys.Perm xs → sortedS ys = true → H p = none → Q (.ref p) (upd H p (.lst (ys.map V.str)))
theorem small64 {n : Nat} (h : n < 64) : n ≤ sizeLine := by rw [sizeLine_eq]; omega
theorem cr_sorted : CallR X (.builtin "sorted") (rSorted X.K) := by
  intro pins s σ H vs us Q I r h
  obtain ⟨a, ns, rfl, hs, h64, q⟩ := h
  obtain ⟨its, rv, hl, _⟩ := I.list hs
  rw [Vals.ref1 r]
  have hi := rv.ints
  refine PyProof.Rows.sorted_ints hl.isList hi (by rw [hi.length]; exact h64) fun out ns' h1 h2 h3 => ?_
  obtain ⟨ep, he'⟩ := PyProof.Rows.sortedAll_at s.heap its out
  have hlen : (ns'.map V.int).length ≤ sizeLine := by rw [List.length_map, h2.length_eq]; exact small64 h64
  exact ⟨.ref _, upd H (s.heap.objs.size + 1) (.lst (ns'.map V.int)), I.laid (t' := s.toks) (fun _ _ => PyProof.Rows.sortedAll_old) (Nat.le_succ _) ⟨hlen, out.toList, ep, vals_of_ints h1, he'⟩, rfl, q ns' _ h2 h3 (I.hok.fresh (Nat.le_succ _))⟩
theorem cr_sortedS : CallR X (.builtin "sorted") (rSortedS X.K) := by
  intro pins s σ H vs us Q I r h
  obtain ⟨a, xs, rfl, hs, h64, q⟩ := h
  obtain ⟨its, rv, hl, _⟩ := I.list hs
  rw [Vals.ref1 r]
  have hlen0 := rv.length
  rw [List.length_map] at hlen0
  refine PyProof.Rows.sorted_strs hl.isList rv.strs (by rw [← hlen0]; exact h64) fun out ys h1 h2 h3 => ?_
  obtain ⟨ep, he'⟩ := PyProof.Rows.sortedAll_at s.heap its out
  have hlen : (ys.map V.str).length ≤ sizeLine := by rw [List.length_map, h2.length_eq]; exact small64 h64
  exact ⟨.ref _, upd H (s.heap.objs.size + 1) (.lst (ys.map V.str)), I.laid (t' := s.toks) (fun _ _ => PyProof.Rows.sortedAll_old) (Nat.le_succ _) ⟨hlen, out.toList, ep, vals_of_strs h1, he'⟩, rfl, q ys _ h2 h3 (I.hok.fresh (Nat.le_succ _))⟩
/-- xs.sort(), ints -/
def rSort : V → List V → Hp → VK → Prop := fun x xs H Q => ∃ (a : Addr) (ns : List Int), x = V.ref a ∧ xs = [] ∧ H a = some (.lst (ns.map V.int)) ∧ ns.length < 64 ∧
  ∀ ns' : List Int, ns'.Perm ns → ns'.Pairwise (· ≤ ·) → Q .non (upd H a (.lst (ns'.map V.int)))
theorem mt_sort : MtR X "list.sort" rSort := by
  intro pins s σ H x xs v us Q I rx rxs h
  obtain ⟨a, ns, rfl, rfl, ha, h64, q⟩ := h
  cases rx
  cases rxs
  obtain ⟨hz, its, n, rv, hob⟩ := I.hok a _ ha
  have hi := rv.ints
  refine wpAny_call_entry PyProof.Rows.slot_list_sort ⟨_, hob, rfl⟩ PyProof.Rows.entry_list_sort
    (PyProof.Rows.list_sort_tree hob hi (by rw [hi.length]; exact h64) fun out ns' h1 h2 h3 => ⟨.none, rfl, ?_⟩) (PyProof.Rows.args_list_sort _)
  obtain ⟨ep, he'⟩ := PyProof.Rows.sortedHeap_at (vs := its) (out := out) hob
  have hlen : (ns'.map V.int).length ≤ sizeLine := by rw [List.length_map, h2.length_eq]; exact small64 h64
  refine ⟨.non, upd H a (.lst (ns'.map V.int)), I.write (e := a) (t' := s.toks) (by rw [ha]; trivial) (.inl rfl) (fun b u hb hu => ?_) ⟨_, he'⟩ ⟨hlen, out.toList, ep, vals_of_ints h1, he'⟩, rfl, q ns' h2 h3⟩
  rw [PyProof.Rows.sortedHeap_old hb (Heap.lt_size hu)]; exact hu
end

/-! ### list.index, flat items -/
section
variable {X : Cx}
def rIndex (K : PySem.W.Frag) : V → List V → Hp → VK → Prop := fun x xs H Q => ∃ (a : Addr) (ys : List V) (y : V) (j : Nat) (z : V), x = V.ref a ∧ xs = [y] ∧ SqL K H a ys ∧ flatV y = true ∧ ys.all flatV = true ∧ ys[j]? = some z ∧ eqV z y = true ∧
  (∀ (m : Nat) (z' : V), m < j → ys[m]? = some z' → eqV z' y = false) ∧ Q (.int (j : Nat)) H
theorem flat_at {ys : List V} (f : ys.all flatV = true) {j : Nat} {z : V} (h : ys[j]? = some z) : flatV z = true := List.all_eq_true.mp f z (List.mem_of_getElem? h)
theorem mt_index : MtR X "list.index" (rIndex X.K) := by
  intro pins s σ H x xs v us Q I rx rxs h
  obtain ⟨a, ys, y, j, z, rfl, rfl, hs, fy, fys, hz, hzj, hno, q⟩ := h
  cases rx
  cases rxs with
  | cons ry rt =>
    rename_i uy ut
    cases rt
    obtain ⟨its, rv, ⟨⟨cls, dd, data, sl⟩, n, ho, hc, hdn, hd⟩, hlen⟩ := I.list hs
    simp only at hc hd
    subst hc hd
    obtain ⟨u, hu, ru⟩ := rv.get hz
    obtain ⟨hjl, hje⟩ := List.getElem?_eq_some_iff.mp hu
    have hvl := rv.length
    have hj : j < its.toArray.size := by simpa using hjl
    have hsl := sizeLine_eq
    refine call_meets PySem.F.slot_list_index ⟨_, ho, rfl⟩ PySem.F.entry_list_index (PySem.F.args_list_index_2 _ _)
      (SeqAt.list_indexAt a its.toArray n dd sl uy (eqU y) j hj (by omega) ?_ ?_) ⟨ho, fun u' hu' => mem_eqAt ry fy rv fys u' (by simpa using hu'), ?_⟩
    · have e1 : its.toArray[j] = u := by simpa using hje
      rw [e1, eqU_of ru (flat_at fys hz)]
      exact hzj
    · intro m hm hmj
      have hml : m < its.length := by simpa using hm
      have hmy : m < ys.length := by omega
      have hy' : ys[m]? = some ys[m] := List.getElem?_eq_getElem hmy
      obtain ⟨u2, hu2, ru2⟩ := rv.get hy'
      obtain ⟨_, hme⟩ := List.getElem?_eq_some_iff.mp hu2
      have e1 : its.toArray[m] = u2 := by simpa using hme
      rw [e1, eqU_of ru2 (flat_at fys hy')]
      exact hno m _ hmj hy'
    · exact ⟨.int (j : Nat), H, I.tok _, ⟨_, rfl⟩, q⟩
end

/-! ### type(x) of an own instance; is, is not of a module's class -/
section
variable {X : Cx}
theorem cr_type : CallR X (.type "type") (fun xs H Q => ∃ a C dx fs, xs = [V.ref a] ∧ H a = some (.ins C dx fs) ∧ Q (.ref C) H) := by
  intro pins s σ H xs us Q I r h
  obtain ⟨a, C, dx, fs, rfl, ha, q⟩ := h
  rw [Vals.ref1 r]
  obtain ⟨mA, O, _⟩ := ins_get I.hok ha
  obtain ⟨od, J, _⟩ := O.look
  exact PySem.W.kto_own J ⟨.ref C, H, I, rfl, q⟩
/-- an object of the module whose class is no tuple: a class of the text (makesIn says that its type is a type's heir) -/
theorem cls_there {K : PySem.W.Frag} {C : Addr} (h : PySem.W.makesIn K C = true) : ∃ o, K.lookup C = some o ∧ o.cls ≠ .type "tuple" := by
  unfold PySem.W.makesIn at h
  split at h
  · rename_i oc od cd sl ho
    refine ⟨_, ho, fun e => ?_⟩
    rw [Bool.and_eq_true] at h
    have h2 : PySem.W.instIn K (.ref C) (.type "type") = some true := beq_iff_eq.mp h.2
    have e2 : oc = .type "tuple" := e
    have h3 : PySem.W.instIn K (.ref C) (.type "type") = PySem.W.subIn K oc (.type "type") := by
      show ((K.lookup C).map (fun o => o.cls)).bind (fun t => PySem.W.subIn K t (.type "type")) = _
      rw [ho]
      all_goals rfl
    rw [h3, e2] at h2
    have h4 : PySem.W.subIn K (.type "tuple") (.type "type") = some false := by
      show (fastBuiltinMro "tuple").map (·.contains (.type "type")) = some false
      decide +kernel
    rw [h4] at h2
    cases h2
  · cases h
theorem op_is_cls : OpR X (compareOp .Is) (fun x y H Q => ∃ a b, x = V.ref a ∧ y = V.ref b ∧ (a = b ∨ (PySem.W.makesIn X.K a = true ∧ PySem.W.makesIn X.K b = true)) ∧ Q (.bl (decide (a = b))) H) := by
  intro pins s σ H x y v u Q I rx ry h
  obtain ⟨a, b, rfl, rfl, hab, q⟩ := h
  cases rx
  cases ry
  by_cases z : a = b
  · subst z
    exact wpAny_is_ref_self ⟨.bl _, H, I, by simp [RelV], q⟩
  · rcases hab with e | ⟨h1, h2⟩
    · exact absurd e z
    · obtain ⟨o1, e1, n1⟩ := cls_there h1
      obtain ⟨o2, e2, _⟩ := cls_there h2
      exact wpAny_is_ref_other z (I.kIn _ _ e1) (I.kIn _ _ e2) n1 ⟨.bl _, H, I, by simp [RelV, z], q⟩
theorem op_isnot_cls : OpR X (compareOp .IsNot) (fun x y H Q => ∃ a b, x = V.ref a ∧ y = V.ref b ∧ (a = b ∨ (PySem.W.makesIn X.K a = true ∧ PySem.W.makesIn X.K b = true)) ∧ Q (.bl (!decide (a = b))) H) := by
  intro pins s σ H x y v u Q I rx ry h
  obtain ⟨a, b, rfl, rfl, hab, q⟩ := h
  cases rx
  cases ry
  by_cases z : a = b
  · subst z
    exact wpAny_isNot_ref_self ⟨.bl _, H, I, by simp [RelV], q⟩
  · rcases hab with e | ⟨h1, h2⟩
    · exact absurd e z
    · obtain ⟨o1, e1, n1⟩ := cls_there h1
      obtain ⟨o2, e2, _⟩ := cls_there h2
      exact wpAny_isNot_ref_other z (I.kIn _ _ e1) (I.kIn _ _ e2) n1 ⟨.bl _, H, I, by simp [RelV, z], q⟩
end

/-! ### any(xs), all(xs) of a list of bools -/
theorem iter_any {prog : Program} {w : World} {A : Around} {E : Value → Shared → Prop} {s : Shared} {l : Addr} {items : Array Value} {Q : Value → Shared → Prop} (hl : s.heap.IsList l items)
    (h : ∀ s₂ : Shared, s₂ = { s with heap := s.heap.push { cls := .type "list_iterator", data := .fields #[.ref l, .int 0 0] } } →
      (s₂.heap.IsListIter s.heap.objs.size l 0 ∧ s₂.heap.IsList l items) → l ≠ s.heap.objs.size → Q (.ref s.heap.objs.size) s₂) : wpAny (model prog w) A (pyIter (.ref l)) Q E s := by
  have hlt : l < s.heap.objs.size := by obtain ⟨_, e, _⟩ := hl; exact Heap.lt_size e
  exact wpAny_pyIter_list hl (h _ rfl ⟨⟨_, Heap.get?_push_size _ rfl, rfl, rfl⟩, hl.push _⟩ (Nat.ne_of_lt hlt))
theorem truth_bools {prog : Program} {w : World} {A : Around} {bs : List Bool} {its : List Value} (e : its = bs.map Value.bool) :
    TruthOf prog w A (fun i v => its.toArray[i]? = some v) (fun i => bs.getD i false) := fun i v s Q E hv hq => by
  have hv' : its[i]? = some v := by simpa using hv
  rw [e, List.getElem?_map] at hv'
  obtain ⟨b, hb, rfl⟩ := Option.map_eq_some_iff.mp hv'
  have hg : bs.getD i false = b := by rw [List.getD_eq_getElem?_getD, hb] <;> rfl
  have hq' : Q (bs.getD i false) s := hq
  rw [hg] at hq'
  exact wpAny_truthy_bool hq'
theorem any_range : ∀ bs : List Bool, (List.range bs.length).any (fun i => bs.getD i false) = bs.any id
  | [] => rfl
  | b :: bs => by
    rw [List.length_cons, List.range_succ_eq_map, List.any_cons, List.any_map, List.any_cons, ← any_range bs]
    all_goals rfl
theorem all_range : ∀ bs : List Bool, (List.range bs.length).all (fun i => bs.getD i false) = bs.all id
  | [] => rfl
  | b :: bs => by
    rw [List.length_cons, List.range_succ_eq_map, List.all_cons, List.all_map, List.all_cons, ← all_range bs]
    all_goals rfl
section
variable {X : Cx}
def rAny (K : PySem.W.Frag) : List V → Hp → VK → Prop := fun vs H Q => ∃ (a : Addr) (bs : List Bool), vs = [V.ref a] ∧ SqL K H a (bs.map V.bl) ∧ Q (.bl (bs.any id)) H
def rAll (K : PySem.W.Frag) : List V → Hp → VK → Prop := fun vs H Q => ∃ (a : Addr) (bs : List Bool), vs = [V.ref a] ∧ SqL K H a (bs.map V.bl) ∧ Q (.bl (bs.all id)) H
theorem cr_any (hc : X.calm = true) : CallR X (.builtin "any") (rAny X.K) := by
  intro pins s σ H vs us Q I r h
  obtain ⟨a, bs, rfl, hs, q⟩ := h
  obtain ⟨its, rv, hl, _⟩ := I.list hs
  rw [Vals.ref1 r]
  have hb := rv.bls
  refine call_any_walk (iter_any hl.isList fun s₂ e2 st hne => ?_)
  subst e2
  refine ⟨_, _, _, _, _, _, _, rfl, Walks.list (A := X.A.in1) (I.ok.hd hc) _ a hne its.toArray, st, truth_bools hb, fun h' tk hk => ?_⟩
  refine ⟨.bl _, H, I.kept fun b o eo => hk b o (fun hmem => ?_) (Heap.get?_push_of_some _ eo), ?_, q⟩
  · rcases List.mem_cons.mp hmem with e1 | hmem
    · exact absurd (e1 ▸ Heap.lt_size eo) (Nat.lt_irrefl _)
    · cases hmem
  · show Value.bool _ = Value.bool _
    rw [← any_range, hb, List.size_toArray, List.length_map]
theorem cr_all (hc : X.calm = true) : CallR X (.builtin "all") (rAll X.K) := by
  intro pins s σ H vs us Q I r h
  obtain ⟨a, bs, rfl, hs, q⟩ := h
  obtain ⟨its, rv, hl, _⟩ := I.list hs
  rw [Vals.ref1 r]
  have hb := rv.bls
  refine call_all_walk (iter_any hl.isList fun s₂ e2 st hne => ?_)
  subst e2
  refine ⟨_, _, _, _, _, _, _, rfl, Walks.list (A := X.A.in1) (I.ok.hd hc) _ a hne its.toArray, st, truth_bools hb, fun h' tk hk => ?_⟩
  refine ⟨.bl _, H, I.kept fun b o eo => hk b o (fun hmem => ?_) (Heap.get?_push_of_some _ eo), ?_, q⟩
  · rcases List.mem_cons.mp hmem with e1 | hmem
    · exact absurd (e1 ▸ Heap.lt_size eo) (Nat.lt_irrefl _)
    · cases hmem
  · show Value.bool _ = Value.bool _
    rw [← all_range, hb, List.size_toArray, List.length_map]
end

/-! ### == and != of data at any depth: none, bools, ints, texts, lists, tuples -/
mutual
inductive Dp (K : PySem.W.Frag) (H : Hp) : V → PyData → Prop
  | non : Dp K H .non .none
  | bl (b : Bool) : Dp K H (.bl b) (.bool b)
  | int (i : Int) : Dp K H (.int i) (.int i)
  | str (x : Str) : Dp K H (.str x) (.str x)
  | lst {a : Addr} {xs : List V} {ds : List PyData} : SqL K H a xs → DpAll K H xs ds → Dp K H (.ref a) (.list ds)
  | tup {a : Addr} {xs : List V} {ds : List PyData} : SqT K H a xs → DpAll K H xs ds → Dp K H (.ref a) (.tuple ds)
inductive DpAll (K : PySem.W.Frag) (H : Hp) : List V → List PyData → Prop
  | nil : DpAll K H [] []
  | cons {v : V} {vs : List V} {d : PyData} {ds : List PyData} : Dp K H v d → DpAll K H vs ds → DpAll K H (v :: vs) (d :: ds)
end
section
variable {X : Cx} {pins : List (Addr × Obj)} {σ : St} {H : Hp} {s : Shared}
mutual
theorem Dp.reads (I : Inv X pins σ H s) : ∀ (d : PyData) (v : V) (u : Value), Dp X.K H v d → RelV v u → ∃ as, Reads s.heap u d as
  | .none, _, _, h, r => by
    cases h
    cases r
    exact ⟨_, Reads.none⟩
  | .bool b, _, _, h, r => by
    cases h
    cases r
    exact ⟨_, Reads.bool b⟩
  | .int i, _, _, h, r => by
    cases h
    obtain ⟨t, rfl⟩ := r
    exact ⟨_, Reads.int i t⟩
  | .str x, _, _, h, r => by
    cases h
    obtain ⟨t, rfl⟩ := r
    exact ⟨_, Reads.str x t⟩
  | .list ds, _, _, h, r => by
    cases h with
    | lst hs ha =>
      cases r
      obtain ⟨its, rv, ⟨o, n, ho, hc, _, hd⟩, _⟩ := I.list hs
      obtain ⟨as, hr⟩ := Dp.readsAll I ds _ its ha rv
      exact ⟨_, Reads.list ho hc hd hr⟩
  | .tuple ds, _, _, h, r => by
    cases h with
    | tup hs ha =>
      cases r
      obtain ⟨its, rv, ⟨o, ho, hc, n, hd⟩, _⟩ := I.tuple hs
      obtain ⟨as, hr⟩ := Dp.readsAll I ds _ its ha rv
      exact ⟨_, Reads.tuple ho hc hd hr⟩
  | .dict _, _, _, h, _ => by cases h
theorem Dp.readsAll (I : Inv X pins σ H s) : ∀ (ds : List PyData) (vs : List V) (us : List Value), DpAll X.K H vs ds → Vals vs us → ∃ as, ReadsAll s.heap us ds as
  | [], _, _, h, r => by
    cases h
    cases r
    exact ⟨_, ReadsAll.nil⟩
  | d :: ds, _, _, h, r => by
    cases h with
    | cons h1 h2 =>
      cases r with
      | cons r1 r2 =>
        obtain ⟨as, q1⟩ := Dp.reads I d _ _ h1 r1
        obtain ⟨bs, q2⟩ := Dp.readsAll I ds _ _ h2 r2
        exact ⟨_, ReadsAll.cons q1 q2⟩
end
end
section
variable {X : Cx}
def rEqD (K : PySem.W.Frag) : R2 := fun x y H Q => ∃ d e, Dp K H x d ∧ Dp K H y e ∧ SeqAt.shaped d = true ∧ SeqAt.shaped e = true ∧ Q (.bl (PyData.eqv d e)) H
def rNeD (K : PySem.W.Frag) : R2 := fun x y H Q => ∃ d e, Dp K H x d ∧ Dp K H y e ∧ SeqAt.shaped d = true ∧ SeqAt.shaped e = true ∧ Q (.bl (!PyData.eqv d e)) H
theorem op_eqD (hu : X.A.units + 64 < cLine) : OpR X (compareOp .Eq) (rEqD X.K) := by
  intro pins s σ H x y v u Q I rx ry h
  obtain ⟨d, e, hd, he, sd, se, q⟩ := h
  obtain ⟨as, r1⟩ := Dp.reads I d x v hd rx
  obtain ⟨bs, r2⟩ := Dp.reads I e y u he ry
  exact SeqAt.compareEq_shaped r1 r2 sd se hu ⟨.bl _, H, I, rfl, q⟩
theorem op_neD (hu : X.A.units + 64 < cLine) : OpR X (compareOp .NotEq) (rNeD X.K) := by
  intro pins s σ H x y v u Q I rx ry h
  obtain ⟨d, e, hd, he, sd, se, q⟩ := h
  obtain ⟨as, r1⟩ := Dp.reads I d x v hd rx
  obtain ⟨bs, r2⟩ := Dp.reads I e y u he ry
  exact SeqAt.compareNe_shaped r1 r2 sd se hu ⟨.bl _, H, I, rfl, q⟩
end
end L2

namespace L2
open PySem PySem.Spec PyProof.Rows
abbrev CellAt (h : Heap) (c : Addr) (v : Option Value) : Prop := h.IsCell c v
def relS (scope sc : Scope) : Scope :=
  { scope with names := scope.names.map fun (n, k) => if (k == .free && sc.kind == .function && sc.names.lookup n == some .cell) then (n, .cell) else (n, k) }

def cloFrom (cells : List (Str × Addr)) : List (Str × NameKind) → List (Str × Addr) → List (Str × Addr)
  | [], acc => acc
  | (n, k) :: r, acc => if k == .free then cloFrom cells r ((n, (cells.lookup n).getD 0) :: acc) else cloFrom cells r acc

theorem closure_loop (env : Env) (f : Str × NameKind → List (Str × Addr) → Sem (ForInStep (List (Str × Addr))))
    (hf : ∀ n k c, f (n, k) c = if k == .free then (do let a ← cellOf env n; pure (.yield ((n, a) :: c))) else pure (.yield c)) :
    ∀ (names : List (Str × NameKind)) (acc : List (Str × Addr)), (∀ y ∈ names, y.2 = .free → ∃ c, env.cells.lookup y.1 = some c) → forIn names acc f = pure (cloFrom env.cells names acc)
  | [], acc, _ => by rw [List.forIn_nil]; rfl
  | (n, k) :: r, acc, h => by
    rw [List.forIn_cons, hf]
    have ih := fun acc => closure_loop env f hf r acc fun y hy => h y (List.mem_cons_of_mem _ hy)
    unfold cloFrom
    by_cases hk : (k == NameKind.free) = true
    · rw [if_pos hk, if_pos hk]
      obtain ⟨c, hc⟩ := h (n, k) List.mem_cons_self (by simpa using hk)
      have e : cellOf env n = pure c := by unfold cellOf; rw [hc]
      rw [e]
      have e2 : (env.cells.lookup n).getD 0 = c := by rw [hc]; rfl
      rw [e2]
      exact ih _
    · rw [if_neg hk, if_neg hk]
      exact ih _
theorem closure_ok {scope : Scope} {env : Env} (h : ∀ y ∈ scope.names, y.2 = .free → ∃ c, env.cells.lookup y.1 = some c) : closureFor scope env = pure (cloFrom env.cells scope.names []) := by
  simp only [closureFor]
  rw [closure_loop env _ (fun n k c => rfl) scope.names [] h]
  rfl

theorem mem_lookup {α : Type} : ∀ {l : List (Str × α)} {n : Str} {c : α}, (n, c) ∈ l → ∃ c', l.lookup n = some c'
  | (k, v) :: r, n, c, h => by
    rw [List.lookup_cons]
    cases hb : n == k with
    | true => exact ⟨_, rfl⟩
    | false =>
      rcases List.mem_cons.mp h with e | h
      · cases e; simp at hb
      · exact mem_lookup h

theorem cloFrom_mem {cells : List (Str × Addr)} : ∀ {names : List (Str × NameKind)} {acc : List (Str × Addr)} {n : Str} {c : Addr}, (n, c) ∈ cloFrom cells names acc → (n, c) ∈ acc ∨ ((n, .free) ∈ names ∧ c = (cells.lookup n).getD 0)
  | [], _, _, _, h => .inl h
  | (m, k) :: r, acc, n, c, h => by
    unfold cloFrom at h
    split at h
    · rename_i hk
      have hk : k = .free := by simpa using hk
      rcases cloFrom_mem h with h | ⟨h1, h2⟩
      · rcases List.mem_cons.mp h with e | h
        · cases e; exact .inr ⟨hk ▸ List.mem_cons_self, rfl⟩
        · exact .inl h
      · exact .inr ⟨List.mem_cons_of_mem _ h1, h2⟩
    · rcases cloFrom_mem h with h | ⟨h1, h2⟩
      · exact .inl h
      · exact .inr ⟨List.mem_cons_of_mem _ h1, h2⟩
theorem cloFrom_acc {cells : List (Str × Addr)} : ∀ {names : List (Str × NameKind)} {acc : List (Str × Addr)} {p : Str × Addr}, p ∈ acc → p ∈ cloFrom cells names acc
  | [], _, _, h => h
  | (m, k) :: r, acc, p, h => by
    unfold cloFrom
    split
    · exact cloFrom_acc (List.mem_cons_of_mem _ h)
    · exact cloFrom_acc h
theorem cloFrom_has {cells : List (Str × Addr)} : ∀ {names : List (Str × NameKind)} {acc : List (Str × Addr)} {n : Str}, (n, .free) ∈ names → (n, (cells.lookup n).getD 0) ∈ cloFrom cells names acc
  | (m, k) :: r, acc, n, h => by
    unfold cloFrom
    rcases List.mem_cons.mp h with e | h
    · cases e
      exact cloFrom_acc List.mem_cons_self
    · split
      · exact cloFrom_has h
      · exact cloFrom_has h

theorem cells_mem : ∀ {names : List (Str × NameKind)} {h : Heap} {acc : List (Str × Addr)} {x : Str} {c : Addr}, (x, c) ∈ cellsFrom h.objs.size names acc →
    (x, c) ∈ acc ∨ ((x, .cell) ∈ names ∧ h.objs.size ≤ c ∧ CellAt (pushCells h names) c none)
  | [], _, _, _, _, h => .inl h
  | (n, k) :: r, h, acc, x, c, hm => by
    unfold cellsFrom at hm
    unfold pushCells
    split at hm
    · rename_i hk
      rw [if_pos hk]
      have hk : k = .cell := by simpa using hk
      rw [← Heap.size_push h { cls := .type "cell", data := .cell none }] at hm
      rcases cells_mem hm with hm | ⟨h1, h2, h3⟩
      · rcases List.mem_cons.mp hm with e | hm
        · cases e
          exact .inr ⟨hk ▸ List.mem_cons_self, Nat.le_refl _, _, pushCells_keeps r _ _ _ (Heap.get?_push_size _ rfl), rfl⟩
        · exact .inl hm
      · rw [Heap.size_push] at h2
        exact .inr ⟨List.mem_cons_of_mem _ h1, Nat.le_of_succ_le h2, h3⟩
    · rename_i hk
      rw [if_neg hk]
      rcases cells_mem hm with hm | ⟨h1, h2, h3⟩
      · exact .inl hm
      · exact .inr ⟨List.mem_cons_of_mem _ h1, h2, h3⟩
theorem cells_acc : ∀ {names : List (Str × NameKind)} {n : Nat} {acc : List (Str × Addr)} {p : Str × Addr}, p ∈ acc → p ∈ cellsFrom n names acc
  | [], _, _, _, h => h
  | (m, k) :: r, n, acc, p, h => by
    unfold cellsFrom
    split
    · exact cells_acc (List.mem_cons_of_mem _ h)
    · exact cells_acc h
theorem cells_has : ∀ {names : List (Str × NameKind)} {n : Nat} {acc : List (Str × Addr)} {x : Str}, (x, .cell) ∈ names → ∃ c, (x, c) ∈ cellsFrom n names acc
  | (m, k) :: r, n, acc, x, h => by
    unfold cellsFrom
    rcases List.mem_cons.mp h with e | h
    · cases e
      exact ⟨n, cells_acc List.mem_cons_self⟩
    · split
      · exact cells_has h
      · exact cells_has h
theorem cells_inj : ∀ {names : List (Str × NameKind)} {h : Heap} {acc : List (Str × Addr)} {x y : Str} {c : Addr}, (∀ p ∈ acc, p.2 < h.objs.size) → (∀ x y c, (x, c) ∈ acc → (y, c) ∈ acc → x = y) →
    (x, c) ∈ cellsFrom h.objs.size names acc → (y, c) ∈ cellsFrom h.objs.size names acc → x = y
  | [], _, _, _, _, _, _, hi, h1, h2 => hi _ _ _ h1 h2
  | (n, k) :: r, h, acc, x, y, c, hl, hi, h1, h2 => by
    unfold cellsFrom at h1 h2
    split at h1
    · rename_i hk
      rw [if_pos hk] at h2
      rw [← Heap.size_push h { cls := .type "cell", data := .cell none }] at h1 h2
      refine cells_inj (h := h.push _) (fun p hp => ?_) (fun x y c a b => ?_) h1 h2
      · rw [Heap.size_push]
        rcases List.mem_cons.mp hp with rfl | hp
        · exact Nat.lt_succ_self _
        · exact Nat.lt_succ_of_lt (hl p hp)
      · rcases List.mem_cons.mp a with e | a <;> rcases List.mem_cons.mp b with e' | b
        · cases e; cases e'; rfl
        · cases e; exact absurd (hl _ b) (Nat.lt_irrefl _)
        · cases e'; exact absurd (hl _ a) (Nat.lt_irrefl _)
        · exact hi _ _ _ a b
    · rename_i hk
      rw [if_neg hk] at h2
      exact cells_inj hl hi h1 h2

theorem newEnv_comp {M : Model} {A : Around} {E : Value → Shared → Prop} {s : Shared} {scope : Scope} {globals : Addr} {closure : List (Str × Addr)} {qual : Str} {func : Option Addr} {code : Value} {around : Env} {builtins : Addr} {Q : Env → Shared → Prop}
    (h : Q (newEnv scope s.heap.objs.size globals (cellsFrom (s.heap.objs.size + 1) scope.names closure) qual func code (some around) builtins)
      { s with heap := pushCells (s.heap.push { cls := .type "dict", data := .dict #[] }) scope.names }) :
    wpAny M A (newFunctionEnv scope globals closure [] qual func code (some around) builtins) Q E s := by
  simp only [newFunctionEnv, Option.isSome_some, if_true]
  refine wpAny_bind (wpAny_alloc ?_)
  refine wpAny_bind (wpAny_layCells _ (fun n k c => rfl) scope.names closure _ _ ?_)
  rw [show ({ s with heap := s.heap.push { cls := .type "dict", data := .dict #[] } } : Shared).heap.objs.size = s.heap.objs.size + 1 from Heap.size_push ..]
  rw [List.forIn_nil]
  exact wpAny_bind (wpAny_pure (wpAny_pure h))

/-- every name of the written scope, in the scope that runs -/
theorem lookup_relS {sc : Scope} : ∀ {names : List (Str × NameKind)} {x : Str} {k : NameKind},
    (names.map fun (n, k) => if (k == NameKind.free && sc.kind == .function && sc.names.lookup n == some .cell) then (n, NameKind.cell) else (n, k)).lookup x = some k →
    ∃ k', names.lookup x = some k' ∧ (k = k' ∨ (k' = .free ∧ k = .cell))
  | [], _, _, h => by simp at h
  | (n, k₀) :: r, x, k, h => by
    have ih := @lookup_relS sc r x k
    have h' : List.lookup x ((if (k₀ == NameKind.free && sc.kind == .function && sc.names.lookup n == some .cell) = true then (n, NameKind.cell) else (n, k₀)) :: (r.map _)) = some k := h
    cases hx : x == n with
    | true =>
      simp only [List.lookup_cons, hx]
      by_cases hc : (k₀ == NameKind.free && sc.kind == .function && sc.names.lookup n == some .cell) = true
      · rw [if_pos hc] at h'
        simp only [List.lookup_cons, hx] at h'
        cases h'
        simp only [Bool.and_eq_true, beq_iff_eq] at hc
        exact ⟨k₀, rfl, .inr ⟨hc.1.1, rfl⟩⟩
      · rw [if_neg hc] at h'
        simp only [List.lookup_cons, hx] at h'
        cases h'
        exact ⟨_, rfl, .inl rfl⟩
    | false =>
      simp only [List.lookup_cons, hx]
      by_cases hc : (k₀ == NameKind.free && sc.kind == .function && sc.names.lookup n == some .cell) = true
      · rw [if_pos hc] at h'
        simp only [List.lookup_cons, hx] at h'
        exact ih h'
      · rw [if_neg hc] at h'
        simp only [List.lookup_cons, hx] at h'
        exact ih h'
theorem lookup_relS_keep {sc : Scope} : ∀ {names : List (Str × NameKind)} {x : Str} {k : NameKind}, k ≠ .free → names.lookup x = some k →
    (names.map fun (n, k) => if (k == NameKind.free && sc.kind == .function && sc.names.lookup n == some .cell) then (n, NameKind.cell) else (n, k)).lookup x = some k
  | [], _, _, _, h => by simp at h
  | (n, k₀) :: r, x, k, hk, h => by
    have ih := @lookup_relS_keep sc r x k hk
    show List.lookup x ((if (k₀ == NameKind.free && sc.kind == .function && sc.names.lookup n == some .cell) = true then (n, NameKind.cell) else (n, k₀)) :: (r.map _)) = some k
    cases hx : x == n with
    | true =>
      simp only [List.lookup_cons, hx] at h
      cases h
      have : ¬ (k₀ == NameKind.free && sc.kind == .function && sc.names.lookup n == some .cell) = true := by simp [hk]
      rw [if_neg this]
      simp only [List.lookup_cons, hx]
    | false =>
      simp only [List.lookup_cons, hx] at h
      by_cases hc : (k₀ == NameKind.free && sc.kind == .function && sc.names.lookup n == some .cell) = true
      · rw [if_pos hc]; simp only [List.lookup_cons, hx]; exact ih h
      · rw [if_neg hc]; simp only [List.lookup_cons, hx]; exact ih h

theorem pushCells_size : ∀ (names : List (Str × NameKind)) (h : Heap), h.objs.size ≤ (pushCells h names).objs.size
  | [], _ => Nat.le_refl _
  | (_, k) :: r, h => by
    unfold pushCells
    split
    · refine Nat.le_trans ?_ (pushCells_size r _)
      rw [Heap.size_push]; exact Nat.le_succ _
    · exact pushCells_size r h


/-- the names of a comprehension's block: its own (with their places in N), or captured -/
structure BlkOk (N : List Str) (sc scope : Scope) (own : List (Str × Nat)) : Prop where
  kind : scope.kind = .function
  uniq : ∀ y ∈ scope.names, scope.names.lookup y.1 = some y.2
  ix : ∀ p ∈ own, N[p.2]? = some p.1
  free : ∀ y ∈ scope.names, y.2 = .free → sc.names.lookup y.1 = some .cell ∨ sc.names.lookup y.1 = some .free
  own : ∀ y ∈ scope.names, y.2 = .local ∨ y.2 = .cell → y.1 ∈ own.map (·.1) ∨ y.1 ∉ N
/-- the slots of the block's own names forgotten -/
def wipe (σ : St) : List Nat → St
  | [] => σ
  | v :: vs => (wipe σ vs).set v none
theorem wipe_length (σ : St) : ∀ vs : List Nat, (wipe σ vs).length = σ.length
  | [] => rfl
  | v :: vs => by unfold wipe; rw [List.length_set, wipe_length σ vs]
theorem wipe_some {σ : St} {i : Nat} {x : V} : ∀ {vs : List Nat}, (wipe σ vs)[i]? = some (some x) → σ[i]? = some (some x) ∧ i ∉ vs
  | [], h => ⟨h, by simp⟩
  | v :: vs, h => by
    unfold wipe at h
    by_cases hi : v = i
    · subst hi
      by_cases hv : v < (wipe σ vs).length
      · rw [List.getElem?_set_self hv] at h; cases h
      · rw [List.getElem?_eq_none (by simpa using hv)] at h; cases h
    · rw [List.getElem?_set_ne hi] at h
      obtain ⟨h1, h2⟩ := wipe_some h
      exact ⟨h1, by simp only [List.mem_cons, not_or]; exact ⟨fun e => hi e.symm, h2⟩⟩

/-- the context of a block that starts at s, its iterator's objects at fp -/
abbrev Cx.blk (X : Cx) (s : Shared) (H : Hp) (scope : Scope) (cenv : Env) (fp : List Addr) : Cx := { X with s_0 := s, H_0 := H, env := cenv, outer := X.stack, ex := fp, fn := fun x => scope.names.lookup x == some .cell, pn := [], xe := fun _ _ => False }
section
variable {X : Cx} {pins : List (Addr × Obj)} {σ : St} {H : Hp} {s : Shared}
theorem block_start {scope : Scope} {own : List (Str × Nat)} {fp : List Addr} (I : Inv X pins σ H s) (ok : BlkOk X.N X.env.scope scope own) (hN : X.N.Nodup) (hfp : ∀ b ∈ fp, FpOk X pins H b ∧ b < s.heap.objs.size) :
    Inv (X.blk s H scope (compEnvC scope (cellsFrom (s.heap.objs.size + 1) scope.names (cloFrom X.env.cells scope.names [])) s.heap.objs.size X.env) fp) [] (wipe σ (own.map (·.2))) H { s with heap := pushCells (s.heap.push { cls := .type "dict", data := .dict #[] }) scope.names } := by
  have hfree : ∀ y ∈ scope.names, y.2 = .free → ∃ c, X.env.cells.lookup y.1 = some c := fun y hy e => by
    rcases ok.free y hy e with k | k
    · exact I.ok.has _ (.inl k)
    · exact I.ok.has _ (.inr k)
  generalize hcenv : compEnvC scope (cellsFrom (s.heap.objs.size + 1) scope.names (cloFrom X.env.cells scope.names [])) s.heap.objs.size X.env = cenv
  have kp : ∀ b o, s.heap.get? b = some o → (pushCells (s.heap.push { cls := .type "dict", data := .dict #[] }) scope.names).get? b = some o := fun b o e => pushCells_keeps _ _ _ _ (Heap.get?_push_of_some _ e)
  have hL : cenv.locals = s.heap.objs.size := by rw [← hcenv]; rfl
  have hcl : cenv.cells = cellsFrom (s.heap.objs.size + 1) scope.names (cloFrom X.env.cells scope.names []) := by rw [← hcenv]; rfl
  have hsc : cenv.scope = relS scope X.env.scope := by rw [← hcenv]; rfl
  rw [← Heap.size_push s.heap { cls := .type "dict", data := .dict #[] }] at hcl
  have cm : ∀ {y c}, (y, c) ∈ cloFrom X.env.cells scope.names [] → X.env.cells.lookup y = some c ∧ c < s.heap.objs.size := fun {y c} hm => by
    rcases cloFrom_mem hm with hm | ⟨h1, rfl⟩
    · cases hm
    · obtain ⟨c, hc⟩ := hfree _ h1 rfl
      rw [hc]
      obtain ⟨w, z⟩ := I.cell _ _ hc
      exact ⟨rfl, z.lt⟩
  have mem : ∀ {y c}, cenv.cells.lookup y = some c → (X.env.cells.lookup y = some c ∧ c < s.heap.objs.size) ∨ (s.heap.objs.size + 1 ≤ c ∧ CellAt (pushCells (s.heap.push { cls := .type "dict", data := .dict #[] }) scope.names) c none) := fun {y c} e => by
    rw [hcl] at e
    rcases cells_mem (PySem.mem_of_lookup e) with hm | ⟨_, h2, h3⟩
    · exact .inl (cm hm)
    · rw [Heap.size_push] at h2; exact .inr ⟨h2, h3⟩
  have look : ∀ {y}, scope.names.lookup y = some .free → ∃ c, cenv.cells.lookup y = some c ∧ X.env.cells.lookup y = some c := fun {y} hl => by
    have hy : (y, NameKind.free) ∈ scope.names := PySem.mem_of_lookup hl
    obtain ⟨c', e'⟩ := mem_lookup (cells_acc (names := scope.names) (n := (s.heap.push { cls := .type "dict", data := .dict #[] }).objs.size) (cloFrom_has (cells := X.env.cells) (acc := []) hy))
    rw [← hcl] at e'
    refine ⟨c', e', ?_⟩
    rw [hcl] at e'
    rcases cells_mem (PySem.mem_of_lookup e') with hm | ⟨h1, _, _⟩
    · exact (cm hm).1
    · have := ok.uniq _ h1
      rw [hl] at this; cases this
  have okB : (X.blk s H scope cenv fp).Ok := by
    refine ⟨I.ok.mod, by show cenv.scope.kind = _; rw [hsc]; exact ok.kind, by show cenv.globals = _; rw [← hcenv]; exact I.ok.glob, by show cenv.builtins = _; rw [← hcenv]; exact I.ok.blt, by show s.heap.objs.size ≤ cenv.locals; rw [hL]; exact Nat.le_refl _,
      fun y z c e1 e2 => ?_, fun y hy => ?_, fun y c z e => ?_, I.ok.hd, I.ok.frames, .inl rfl, fun b hb => ⟨?_, fun y c e z => ?_⟩, I.bs, Nat.le_trans I.ok.bsz I.sz, fun b o e hb => ?_, fun b hb z => ?_, I.stack, I.stkFree⟩
    · have e1 : cenv.cells.lookup y = some c := e1
      have e2 : cenv.cells.lookup z = some c := e2
      rw [hcl] at e1 e2
      refine cells_inj (fun p hp => ?_) (fun y z c a b => I.ok.inj y z c (cm a).1 (cm b).1) (PySem.mem_of_lookup e1) (PySem.mem_of_lookup e2)
      rw [Heap.size_push]
      exact Nat.lt_succ_of_lt (cm (y := p.1) (c := p.2) hp).2
    · show ∃ c, cenv.cells.lookup y = some c
      have key : ∀ k, cenv.kindOf y = some k → (k = .cell ∨ k = .free) → ∃ c, cenv.cells.lookup y = some c := fun k hk hk' => by
        unfold Env.kindOf at hk
        rw [hsc] at hk
        obtain ⟨k', e, r⟩ := lookup_relS hk
        have : k' = .cell ∨ k' = .free := by
          rcases r with rfl | ⟨rfl, _⟩
          · exact hk'
          · exact .inr rfl
        rcases this with rfl | rfl
        · obtain ⟨c, hm⟩ := cells_has (n := (s.heap.push { cls := .type "dict", data := .dict #[] }).objs.size) (acc := cloFrom X.env.cells scope.names []) (PySem.mem_of_lookup e)
          obtain ⟨c', e'⟩ := mem_lookup hm
          exact ⟨c', by rw [hcl]; exact e'⟩
        · obtain ⟨c, h1, _⟩ := look e
          exact ⟨c, h1⟩
      rcases hy with hy | hy
      · exact key _ hy (.inl rfl)
      · exact key _ hy (.inr rfl)
    · have z : (scope.names.lookup y == some NameKind.cell) = true := z
      have z : scope.names.lookup y = some .cell := by simpa using z
      have e : cenv.cells.lookup y = some c := e
      rw [hcl] at e
      rcases cells_mem (PySem.mem_of_lookup e) with hm | ⟨_, h2, _⟩
      · rcases cloFrom_mem hm with hm | ⟨h1, _⟩
        · cases hm
        · have q := ok.uniq _ h1
          rw [z] at q; cases q
      · rw [Heap.size_push] at h2
        exact Nat.le_of_succ_le h2
    · show b ≠ cenv.locals
      rw [hL]; exact Nat.ne_of_lt (hfp b hb).2
    · have e : cenv.cells.lookup y = some c := e
      rcases mem e with ⟨h1, _⟩ | ⟨h1, _⟩
      · exact (hfp b hb).1.2.2.2.2.1 y c h1 z
      · have h2 : s.heap.objs.size + 1 ≤ b := by rw [← z]; exact h1
        exact absurd (Nat.lt_of_lt_of_le (hfp b hb).2 (Nat.le_of_succ_le h2)) (Nat.lt_irrefl _)
    · rcases (hfp b hb).1.2.2.2.1 with z | z
      · exact I.ok.noex b o e z
      · exact absurd (Nat.lt_of_lt_of_le (Heap.lt_size e) (Nat.le_trans I.ok.bsz z)) (Nat.lt_irrefl _)
    · rcases List.mem_cons.mp (I.stkSub b z) with z | z
      · exact (hfp b hb).1.2.1 z
      · exact (hfp b hb).1.2.2.1 z
  refine ⟨okB, rfl, I.bare, Un.kept kp, ⟨fun _ => none, ?_, fun i y av e1 e2 e3 => ?_⟩, fun y c e => ?_, ?_, fun y c e => ?_, fun p hp => ?_, I.hok.kept kp, by rw [wipe_length]; exact I.len⟩
  · show Heap.Ns _ cenv.locals _
    rw [hL]
    exact Heap.Ns.keeps (Heap.Ns.new ..) fun b o e => pushCells_keeps _ _ _ _ e
  · obtain ⟨e2, hne⟩ := wipe_some e2
    have hfr : scope.names.lookup y = some .free ∧ (cenv.kindOf y = some .cell ∨ cenv.kindOf y = some .free) := by
      have key : ∀ k, cenv.scope.names.lookup y = some k → k = .local ∨ k = .cell ∨ k = .free → scope.names.lookup y = some .free ∧ (cenv.kindOf y = some .cell ∨ cenv.kindOf y = some .free) := fun k hk hk' => by
        have hk0 := hk
        rw [hsc] at hk
        obtain ⟨k', e, r⟩ := lookup_relS hk
        have no : ¬ (k' = .local ∨ k' = .cell) := fun hh => by
          rcases ok.own _ (PySem.mem_of_lookup e) hh with e' | e'
          · obtain ⟨p, hp, hpy⟩ := List.mem_map.mp e'
            have e3 := ok.ix p hp
            have : p.1 = y := hpy
            rw [this] at e3
            exact hne (List.mem_map.mpr ⟨p, hp, nodup_ix hN e3 e1⟩)
          · exact e' (List.mem_of_getElem? e1)
        rcases r with rfl | ⟨rfl, rfl⟩
        · rcases hk' with rfl | rfl | rfl
          · exact absurd (.inl rfl) no
          · exact absurd (.inr rfl) no
          · exact ⟨e, .inr hk0⟩
        · exact ⟨e, .inl hk0⟩
      have e3 : Vis cenv.scope y := e3
      rcases e3 with e3 | e3 | e3
      · exact key _ e3 (.inl rfl)
      · exact key _ e3 (.inr (.inl rfl))
      · exact key _ e3 (.inr (.inr rfl))
    obtain ⟨m, hn, hl⟩ := I.loc
    have hvis : Vis X.env.scope y := (ok.free _ (PySem.mem_of_lookup hfr.1) rfl).elim (fun k => .inr (.inl k)) (fun k => .inr (.inr k))
    obtain ⟨w, r, q⟩ := hl i y av e1 e2 hvis
    refine ⟨w, r, .inr ⟨hfr.2, ?_⟩⟩
    obtain ⟨c, h1, h2⟩ := look hfr.1
    rcases q with ⟨k, _⟩ | ⟨_, c', e', z⟩
    · have k : X.env.scope.names.lookup y = some .local := k
      rcases ok.free _ (PySem.mem_of_lookup hfr.1) rfl with k' | k' <;> rw [show X.env.scope.names.lookup y = _ from k'] at k <;> cases k
    · rw [h2] at e'; cases e'
      exact ⟨c, h1, z.keeps kp⟩
  · have e : cenv.cells.lookup y = some c := e
    rcases mem e with ⟨h1, _⟩ | ⟨_, z⟩
    · obtain ⟨w, z⟩ := I.cell y c h1
      exact ⟨w, z.keeps kp⟩
    · exact ⟨_, z⟩
  · show H cenv.locals = none
    rw [hL]; exact I.hok.fresh (Nat.le_refl _)
  · have e : cenv.cells.lookup y = some c := e
    rcases mem e with ⟨h1, _⟩ | ⟨h1, _⟩
    · exact I.freeC y c h1
    · exact I.hok.fresh (Nat.le_of_succ_le h1)
  · exact absurd (show p ∈ ([] : List (Addr × Obj)) ++ [] from hp) (by simp)

/-- an item appended to a tracked list -/
theorem app_ok {E : Value → Shared → Prop} {D : Addr} {xs : List V} {y : V} {v : Value} {Q : Value → Shared → Prop} (I : Inv X pins σ H s) (hD : H D = some (.lst xs)) (hz : xs.length < sizeLine) (r : RelV y v)
    (h : ∀ s', Inv X pins σ (upd H D (.lst (xs ++ [y]))) s' → Q .none s') : wpAny (model X.prog X.w) X.A (call (.builtin "list.append") [.ref D, v]) Q E s := by
  obtain ⟨hz', its, n, ri, e⟩ := I.hok D _ hD
  have hl := ri.length
  refine append_at (hsz := by rw [List.size_toArray]; omega) e fun h' sb ho' => ?_
  refine h { s with heap := h' } (I.write (t' := s.toks) (by rw [hD]; trivial) (.inl rfl) (fun b u hb q => (sb.2 b hb).trans q) ⟨_, ho'⟩ ⟨by rw [List.length_append]; exact hz, its ++ [v], n + 1, ri.append (.cons r .nil), ?_⟩)
  rw [ho']
  simp

/-- a clause's tests -/
def PTs (X : Cx) (ifs : List Expr) (t : TT) : Prop :=
  ∀ (pins : List (Addr × Obj)) (s : Shared) (σ : St) (H : Hp) (Q : Bool → Hp → Prop), Inv X pins σ H s → t σ H Q →
    wpAny (model X.prog X.w) X.A (forIn ifs true fun c r => if r = true then do let ok ← isTrue c X.env (eval c X.env); pure (ForInStep.yield ok) else pure (ForInStep.yield r)) (TP X pins σ Q) X.xe s
def tYes : TT := fun _ H Q => Q true H
theorem pts_nil : PTs X [] tYes := fun _ _ _ H _ I h => wpAny_tests_nil ⟨H, I, h⟩
theorem pts_one {c : Expr} {t : TT} (h : PT X c t) : PTs X [c] t := fun pins s σ H Q I hw => wpAny_tests_one (h pins s σ H Q I hw)
end

theorem thnF {α : Type} {t : Sem α} {Q Q' : α → Shared → Prop} {M : Model} {A : Around} {E : Value → Shared → Prop} {s : Shared} (h : wpAny M A t Q (fun _ _ => False) s) (hQ : ∀ a s, Q a s → Q' a s) : wpAny M A t Q' E s := wpAny_mono h hQ fun _ _ z => False.elim z

/-- the loop of a list comprehension's block, the target of any form (codeAny_compLoop_tests asks a target that no tuple goes to; statement and proof follow it, PyProof/CompMap.lean:41-61, with the step letOwnedTupleGo kept) -/
theorem compLoop_any {prog : Program} {w : World} {A : Around} {R : Result → Shared → Prop} {s : Shared} {elt target iter : Expr} {ifs : List Expr} {scope : Scope} {pos : Pos} {it acc : Value} {env : Env} (I : Nat → Shared → Prop)
    (turn : ∀ n s, I n s → wpAny (model prog w) A (pyNext it) (fun r s₁ => match r with
      | none => R (.ok .next) s₁
      | some v => wpAny (model prog w) A (letOwnedTupleGo target it v) (fun _ s₁' => wpAny (model prog w) A (assign target env v) (fun _ s₂ =>
          wpAny (model prog w) A (forIn ifs true fun c r => if r = true then do let ok ← isTrue c env (eval c env); pure (ForInStep.yield ok) else pure (ForInStep.yield r)) (fun ok s₃ =>
            if ok = true then wpAny (model prog w) A (eval elt env) (fun x s₄ =>
              wpAny (model prog w) A (call (.builtin "list.append") [acc, x]) (fun _ s₅ => ∃ m, m < n ∧ I m s₅) (notedBy (model prog w) A env fun e s' => R (.error e) s') s₄) (notedBy (model prog w) A env fun e s' => R (.error e) s') s₃
            else ∃ m, m < n ∧ I m s₃) (notedBy (model prog w) A env fun e s' => R (.error e) s') s₂) (notedBy (model prog w) A env fun e s' => R (.error e) s') s₁') (notedBy (model prog w) A env fun e s' => R (.error e) s') s₁) (notedBy (model prog w) A env fun e s' => R (.error e) s') s)
    (n : Nat) (h : I n s) :
    codeAny (model prog w) A (.compLoop (.ListComp elt [⟨target, iter, ifs, 0⟩] scope pos) 0 it acc env) R s := by
  refine codeAny_loop rfl I (fun n s hI => ?_) n h
  show wpAny _ A ((compTurn (.ListComp elt [⟨target, iter, ifs, 0⟩] scope pos) 0 it acc env).onRaise (fun x => do noteFrame x env; theTreesLotGoes x)) _ _ s
  refine wpAny_noted ?_
  rw [compTurn_list]
  refine wpAny_bind (wpAny_standAt (wpAny_bind (wpAny_mono (turn n s hI) (fun r s₁ h₁ => ?_) fun _ _ h' => h')))
  cases r with
  | none => exact wpAny_pure h₁
  | some v =>
    refine wpAny_bind (wpAny_mono h₁ (fun _ s₁' h₁' => ?_) fun _ _ h' => h')
    refine wpAny_bind (wpAny_mono h₁' (fun _ s₂ h₂ => wpAny_bind (wpAny_mono h₂ (fun ok s₃ h₃ => ?_) fun _ _ h' => h')) fun _ _ h' => h')
    cases ok with
    | false => exact wpAny_pure ⟨rfl, h₃⟩
    | true =>
      exact wpAny_bind (wpAny_bind (wpAny_mono h₃ (fun x s₄ h₄ => wpAny_bind (wpAny_mono h₄ (fun _ s₅ h₅ => wpAny_pure (wpAny_pure ⟨rfl, h₅⟩)) fun _ _ h' => h')) fun _ _ h' => h'))

section
variable {X : Cx}
/-- [elt for target in iter if ..]: D the new list; W by the turn and a measure, Nx what a turn is to reach -/
def tLc (wi : TI) (g : TG) (tt : TT) (te : TE) (vs : List Nat) : TE := fun σ H Q => wi σ H fun J H1 => ∀ D, H1 D = none → ∃ W : Nat → Nat → Hp → Prop, (∃ m, W 0 m (upd H1 D (.lst []))) ∧ ∀ i m H, W i m H →
  (J.stop i H ∧ Q (.ref D) H) ∨ (J.go i H ∧ ∃ Nx : Hp → Prop, (∀ H', Nx H' → ∃ m', m' < m ∧ W (i + 1) m' H') ∧ ∀ x H', J.yld i H x H' → g x (wipe σ vs) H' fun σ2 H2 => wipe σ2 vs = wipe σ vs ∧ tt σ2 H2 fun b H3 =>
    if b = true then te σ2 H3 fun y H4 => ∃ acc, H4 D = some (.lst acc) ∧ acc.length < sizeLine ∧ Nx (upd H4 D (.lst (acc ++ [y]))) else Nx H3)
theorem lc_core {pins : List (Addr × Obj)} {s : Shared} {σ : St} {H : Hp} {Q : VK} {elt tg iter : Expr} {ifs : List Expr} {scope : Scope} {own : List (Str × Nat)} {pos pos' : Pos} {wi : TI} {g : TG} {tt : TT} {te : TE} {use : Option (Value → Sem Unit)} {Qf : Value → Shared → Prop}
    (hc : X.calm = true) (hN : X.N.Nodup) (I : Inv X pins σ H s) (hi : PI X tg iter wi) (ok : BlkOk X.N X.env.scope scope own)
    (hg : ∀ (s : Shared) (H : Hp) (C : Addr) (cl : List (Str × Addr)) (fp : List Addr), PG (X.blk s H scope (compEnvC scope cl C X.env) fp) tg g) (ht : ∀ (s : Shared) (H : Hp) (C : Addr) (cl : List (Str × Addr)) (fp : List Addr), PTs (X.blk s H scope (compEnvC scope cl C X.env) fp) ifs tt)
    (he : ∀ (s : Shared) (H : Hp) (C : Addr) (cl : List (Str × Addr)) (fp : List Addr), PE (X.blk s H scope (compEnvC scope cl C X.env) fp) elt te) (hs : ∀ x, foldedSetIterable iter X.env x = pure x)
    (h : tLc wi g tt te (own.map (·.2)) σ H Q)
    (hRR : ∀ D C s' m H', Inv X pins σ H' s' → Q (.ref D) H' → s'.heap.Ns C m → FpOk X pins H' C → compPost (model X.prog X.w) X.A X.xe use Qf (.ref D) C (.ok .next) s') :
    wpAny (model X.prog X.w) X.A (comprehension (.ListComp elt [⟨tg, iter, ifs, 0⟩] scope pos) scope X.env pos' (newList []) false (eval iter X.env) use) Qf X.xe s := by
  have hfree : ∀ y ∈ scope.names, y.2 = .free → ∃ c, X.env.cells.lookup y.1 = some c := fun y hy e => by
    rcases ok.free y hy e with k | k
    · exact I.ok.has _ (.inl k)
    · exact I.ok.has _ (.inr k)
  refine wpAny_comprehension_free (use := use) rfl hs (closure_ok hfree) ok.kind (fun y hy e => by rw [ok.uniq y hy, e])
    (thn (hi pins s σ H _ I h) fun xv s1 hx => thn hx fun itv s2 h2 => ?_)
  obtain ⟨it, fp, tn, J, H2, e, I2, T, st2, f2, q⟩ := h2
  subst e
  refine wpAny_newObj_type (newEnv_comp ?_) (by show 0 ≤ sizeLine; decide)
  generalize hD : s2.heap.objs.size = D
  have hDn : H2 D = none := I2.hok.fresh (Nat.le_of_eq hD)
  obtain ⟨W, ⟨m0, w0⟩, turn⟩ := q D hDn
  -- the new list
  generalize hs3 : ({ s2 with heap := s2.heap.push { cls := .type "list", data := .seq ([] : List Value).toArray } } : Shared) = s3
  have I3 : Inv X pins σ (upd H2 D (.lst [])) s3 := by
    rw [← hs3]
    refine I2.laid (t' := s2.toks) (fun b o e => Heap.get?_push_of_some _ e) (Nat.le_of_eq hD) ⟨Nat.zero_le _, [], 0, .nil, ?_⟩
    rw [← hD]
    exact Heap.get?_push_size _ rfl
  have h3 : s3.heap = s2.heap.push { cls := .type "list", data := .seq ([] : List Value).toArray } := by rw [← hs3]
  have sz : ∀ b ∈ fp, b < s2.heap.objs.size := fun b hb => by
    obtain ⟨o, e, _⟩ := T.obj _ _ st2 b hb
    exact Heap.lt_size e
  have f3 : ∀ b ∈ fp, FpOk X pins (upd H2 D (.lst [])) b ∧ b < s3.heap.objs.size := fun b hb => by
    have hlt := sz b hb
    refine ⟨⟨?_, (f2 b hb).2⟩, by rw [h3, Heap.size_push]; exact Nat.lt_succ_of_lt hlt⟩
    rw [upd_ne (by rw [← hD]; exact Nat.ne_of_lt hlt)]
    exact (f2 b hb).1
  have st3 : tn 0 s3.heap := T.keep _ _ _ st2 fun b _ o e => by rw [h3]; exact Heap.get?_push_of_some _ e
  have I4 := block_start I3 ok hN f3
  have pg := hg s3 (upd H2 D (.lst [])) s3.heap.objs.size (cellsFrom (s3.heap.objs.size + 1) scope.names (cloFrom X.env.cells scope.names [])) fp
  have pt := ht s3 (upd H2 D (.lst [])) s3.heap.objs.size (cellsFrom (s3.heap.objs.size + 1) scope.names (cloFrom X.env.cells scope.names [])) fp
  have pe := he s3 (upd H2 D (.lst [])) s3.heap.objs.size (cellsFrom (s3.heap.objs.size + 1) scope.names (cloFrom X.env.cells scope.names [])) fp
  show codeAny _ _ (.compStart (.ListComp elt [⟨tg, iter, ifs, 0⟩] scope pos) 0 (.ref it) (.ref D) (compEnvC scope (cellsFrom (s3.heap.objs.size + 1) scope.names (cloFrom X.env.cells scope.names [])) s3.heap.objs.size X.env)) (compPost (model X.prog X.w) X.A X.xe use Qf (.ref D) s3.heap.objs.size) { s3 with heap := pushCells (s3.heap.push { cls := .type "dict", data := .dict #[] }) scope.names }
  have nfp : ∀ b ∈ fp, (upd H2 D (.lst [])) b = none := fun b hb => (f3 b hb).1.1
  generalize hce : compEnvC scope (cellsFrom (s3.heap.objs.size + 1) scope.names (cloFrom X.env.cells scope.names [])) s3.heap.objs.size X.env = ce at I4 pg pt pe ⊢
  have cL : ce.locals = s3.heap.objs.size := by subst hce; rfl
  generalize hH3 : upd H2 D (.lst []) = H3 at I3 I4 pg pt pe w0 nfp f3
  generalize hs4 : ({ s3 with heap := pushCells (s3.heap.push { cls := .type "dict", data := .dict #[] }) scope.names } : Shared) = s4 at I4 ⊢
  have st4 : tn 0 s4.heap := T.keep _ _ _ st3 fun b _ o e => by rw [← hs4]; exact pushCells_keeps _ _ _ _ (Heap.get?_push_of_some _ e)
  have stat : ∀ {σ' : St} {H' : Hp} {s' : Shared}, Inv (X.blk s3 H3 scope ce fp) [] σ' H' s' → (∀ b ∈ fp, H' b = none) → ∀ b ∈ fp, FpOk (X.blk s3 H3 scope ce fp) [] H' b := fun {σ' H' s'} I' hn b hb =>
    ⟨hn b hb, (I'.ok.exf b hb).1, I'.ok.exfs b hb, .inl hb, fun x c e => (I'.ok.exf b hb).2 x c e, fun p hp => absurd (show p ∈ ([] : List (Addr × Obj)) ++ [] from hp) (by simp)⟩
  have loop : codeAny (model X.prog X.w) X.A (.compLoop (.ListComp elt [⟨tg, iter, ifs, 0⟩] scope pos) 0 (.ref it) (.ref D) ce) (compPost (model X.prog X.w) X.A X.xe use Qf (.ref D) s3.heap.objs.size) s4 := by
    refine compLoop_any (fun n s' => ∃ i H', Inv (X.blk s3 H3 scope ce fp) [] (wipe σ (own.map (·.2))) H' s' ∧ tn i s'.heap ∧ (∀ b ∈ fp, H' b = none) ∧ W i n H') ?_ m0 ⟨0, H3, I4, st4, nfp, w0⟩
    rintro n s5 ⟨i, H5, I5, st5, n5, w5⟩
    rcases turn i n H5 w5 with ⟨stop, qq⟩ | ⟨go, Nx, hNx, step⟩
    · have td := T.done (X.blk s3 H3 scope ce fp) rfl rfl rfl hc i [] s5 _ H5 (fun _ _ => False) I5 (stat I5 n5) st5 stop
      refine thnF td fun r s6 ⟨hr, I6⟩ => ?_
      subst hr
      -- back in the def's context
      have I7 : Inv X pins σ H5 s6 := I3.call' (ch := fp) I6.os I6.base I6.hok I6.bare fun b hb => ⟨(f3 b hb).1.2.2.2.1, (f3 b hb).1.2.1, (f3 b hb).1.2.2.2.2.1, (f3 b hb).1.2.2.2.2.2⟩
      have nC : H5 s3.heap.objs.size = none := by
        have z : H5 ce.locals = none := I6.free
        rw [cL] at z
        exact z
      obtain ⟨m, hn, _⟩ := I6.loc
      have hn : s6.heap.Ns ce.locals m := hn
      rw [cL] at hn
      exact hRR D s3.heap.objs.size s6 m H5 I7 qq hn (I3.fpOk (Nat.le_refl _) nC)
    · have ti := T.item (X.blk s3 H3 scope ce fp) rfl rfl rfl hc i [] s5 _ H5 (fun _ _ => False) I5 (stat I5 n5) st5 go
      refine thnF ti fun r s6 ⟨u, hr, h6⟩ => ?_
      subst hr
      refine thnF h6 fun _ s7 ⟨x, H7, I7, r7, y7, st7, n7⟩ => ?_
      have I7' := I7.pinned (stat I7 n7) (T.obj _ _ st7)
      refine thnF (pg _ s7 _ H7 x u _ I7' r7 (step x H7 y7)) fun _ s8 ⟨σ8, H8, I8, hw8, q8⟩ => ?_
      refine thnF (pt _ s8 σ8 H8 _ I8 q8) fun b s9 ⟨H9, I9, q9⟩ => ?_
      -- the turn's end
      have fin : ∀ {s' : Shared} {H' : Hp}, Inv (X.blk s3 H3 scope ce fp) ([] ++ pinsAt fp s7.heap) σ8 H' s' → Nx H' → ∃ m, m < n ∧ ∃ i H', Inv (X.blk s3 H3 scope ce fp) [] (wipe σ (own.map (·.2))) H' s' ∧ tn i s'.heap ∧ (∀ b ∈ fp, H' b = none) ∧ W i m H' := fun {s' H'} I' nx => by
        obtain ⟨m', hm, w'⟩ := hNx H' nx
        have pin' : ∀ b ∈ fp, ∀ o, s7.heap.get? b = some o → s'.heap.get? b = some o ∧ H' b = none := fun b hb o e =>
          let z := I'.pin (b, o) (List.mem_append_right _ (List.mem_append_right _ (mem_pinsAt hb e)))
          ⟨z.1, z.2.1⟩
        have hl : (wipe σ (own.map (·.2))).length = σ8.length := by rw [← hw8, wipe_length]
        refine ⟨m', hm, i + 1, H', (I'.unpinned (pins := [])).weak hl (fun j v e => ?_), T.keep _ _ _ st7 fun b hb o e => (pin' b hb o e).1, fun b hb => ?_, w'⟩
        · rw [← hw8] at e
          exact (wipe_some e).1
        · obtain ⟨o, e, _⟩ := T.obj _ _ st7 b hb
          exact (pin' b hb o e).2
      cases b with
      | false =>
        simp only [Bool.false_eq_true, if_false] at q9 ⊢
        exact fin I9 q9
      | true =>
        simp only [if_true] at q9 ⊢
        refine thnF (pe _ s9 σ8 H9 _ I9 q9) fun z s10 ⟨yv, H10, I10, r10, acc, hD10, hz10, nx⟩ => ?_
        exact app_ok (X := X.blk s3 H3 scope ce fp) I10 hD10 hz10 r10 fun s11 I11 => fin I11 nx
  exact codeAny_compStart_list loop (T.self X.A 0 _ _ _ st4 loop)
/-- as a value -/
theorem pe_lc {elt tg iter : Expr} {ifs : List Expr} {scope : Scope} {own : List (Str × Nat)} {pos : Pos} {wi : TI} {g : TG} {tt : TT} {te : TE} (hc : X.calm = true) (hN : X.N.Nodup) (hi : PI X tg iter wi) (ok : BlkOk X.N X.env.scope scope own)
    (hg : ∀ (s : Shared) (H : Hp) (C : Addr) (cl : List (Str × Addr)) (fp : List Addr), PG (X.blk s H scope (compEnvC scope cl C X.env) fp) tg g) (ht : ∀ (s : Shared) (H : Hp) (C : Addr) (cl : List (Str × Addr)) (fp : List Addr), PTs (X.blk s H scope (compEnvC scope cl C X.env) fp) ifs tt)
    (he : ∀ (s : Shared) (H : Hp) (C : Addr) (cl : List (Str × Addr)) (fp : List Addr), PE (X.blk s H scope (compEnvC scope cl C X.env) fp) elt te) (hs : ∀ x, foldedSetIterable iter X.env x = pure x := by intro _; rfl) :
    PE X (.ListComp elt [⟨tg, iter, ifs, 0⟩] scope pos) (tLc wi g tt te (own.map (·.2))) := by
  intro pins s σ H Q I h
  rw [eval_ListComp]
  refine lc_core hc hN I hi ok hg ht he hs h fun D C s' m H' I' q hn f => ⟨m, hn, fun h'' sb => ?_⟩
  obtain ⟨f0, f1, f2, f3, f4, f5⟩ := f
  exact ⟨.ref D, H', I'.turned (t' := s'.toks) (fun b o hb e => (sb.2 b hb).trans e) f0 f1 f3 f4 f5, rfl, q⟩
/-- name = [..] on one line, the name a local -/
theorem ps_setLc {i : Nat} {y : Str} {py : Pos} {elt tg iter : Expr} {ifs : List Expr} {scope : Scope} {own : List (Str × Nat)} {pos spos : Pos} {wi : TI} {g : TG} {tt : TT} {te : TE} (hc : X.calm = true) (hN : X.N.Nodup) (hy : X.N[i]? = some y) (hyl : X.env.scope.names.lookup y = some .local)
    (hsw : swapsWith (.ListComp elt [⟨tg, iter, ifs, 0⟩] scope pos) (some (.Name y py)) spos.line X.env = pure true) (hi : PI X tg iter wi) (ok : BlkOk X.N X.env.scope scope own)
    (hg : ∀ (s : Shared) (H : Hp) (C : Addr) (cl : List (Str × Addr)) (fp : List Addr), PG (X.blk s H scope (compEnvC scope cl C X.env) fp) tg g) (ht : ∀ (s : Shared) (H : Hp) (C : Addr) (cl : List (Str × Addr)) (fp : List Addr), PTs (X.blk s H scope (compEnvC scope cl C X.env) fp) ifs tt)
    (he : ∀ (s : Shared) (H : Hp) (C : Addr) (cl : List (Str × Addr)) (fp : List Addr), PE (X.blk s H scope (compEnvC scope cl C X.env) fp) elt te) (hs : ∀ x, foldedSetIterable iter X.env x = pure x := by intro _; rfl) :
    PS X (.Assign [.Name y py] (.ListComp elt [⟨tg, iter, ifs, 0⟩] scope pos) spos) (tAsg (tLc wi g tt te (own.map (·.2))) (gName i)) := by
  intro pins s σ H D I h
  rw [exec_Assign_Name_used _ _ _ _ hsw]
  refine wpAny_bind (wpAny_standAt (wpAny_bind ?_))
  show wpAny _ X.A (do let _ ← comprehension (.ListComp elt [⟨tg, iter, ifs, 0⟩] scope pos) scope X.env (firstIterPos [⟨tg, iter, ifs, 0⟩] pos) (newList []) false (eval iter X.env) (some (assign (.Name y py) X.env))) _ _ s
  have h : tLc wi g tt te (own.map (·.2)) σ H (fun x H1 => gName i x σ H1 D.nx) := h
  refine wpAny_bind (thn (lc_core (Qf := fun _ s' => SP X pins D .next s') hc hN I hi ok hg ht he hs h fun L C s' m H' I' q hn f => ?_) fun _ s' hq => wpAny_pure (wpAny_pure hq))
  show wpAny _ _ (assign (.Name y py) X.env (.ref L)) _ _ _
  refine wpAny_assign_Name (store_ok2 (v := V.ref L) I' hN hy (.inl hyl) rfl (fun s2 I2 ⟨a, sb, ha⟩ => ?_) (.inr hyl))
  obtain ⟨f0, f1, f2, f3, f4, f5⟩ := f
  have haC : C ≠ a := by
    rcases ha with z | z
    · rw [z]; exact f1
    · exact fun e => f4 y a z e.symm
  refine ⟨m, hn.sameBut sb haC, fun h3 sb3 => ?_⟩
  exact ⟨_, H', I2.turned (t' := s2.toks) (fun b o hb e => (sb3.2 b hb).trans e) f0 f1 f3 f4 f5, q⟩
theorem sw_true {elt : Expr} {gs : List Comprehension} {scope : Scope} {pos py : Pos} {y : Str} {l : Nat} {env : Env} (hk : env.scope.kind = .function) (hy : env.scope.names.lookup y = some .local) (hl : (py.line == pos.line) = true)
    (ha : (scope.names.any fun (n, k) => n == y && (k == .local || k == .cell)) = false) : swapsWith (.ListComp elt gs scope pos) (some (.Name y py)) l env = pure true := by
  have ky : env.kindOf y = some .local := hy
  have hb : env.blockKind = .function := by unfold Env.blockKind; rw [hk]; rfl
  unfold swapsWith
  simp only [hb, ky, ha, Expr.pos, hl]
  rfl
end

/-! ### the forms one uses -/
/-- over a range: Pv by the turn and the heap (the new list at D within) -/
theorem lc_range {lo : Int} {n : Nat} {g : TG} {tt : TT} {te : TE} {vs : List Nat} {σ : St} {H1 : Hp} {D : Addr} {Qd : Hp → Prop} (Pv : Nat → Hp → Prop) (h0 : Pv 0 (upd H1 D (.lst [])))
    (hs : ∀ i H, i < n → Pv i H → g (.int (lo + i)) (wipe σ vs) H fun σ2 H2 => wipe σ2 vs = wipe σ vs ∧ tt σ2 H2 fun b H3 =>
      if b = true then te σ2 H3 fun y H4 => ∃ acc, H4 D = some (.lst acc) ∧ acc.length < sizeLine ∧ Pv (i + 1) (upd H4 D (.lst (acc ++ [y]))) else Pv (i + 1) H3) (hd : ∀ H, Pv n H → Qd H) :
    ∃ W : Nat → Nat → Hp → Prop, (∃ m, W 0 m (upd H1 D (.lst []))) ∧ ∀ i m H, W i m H →
      ((Itr lo n).stop i H ∧ Qd H) ∨ ((Itr lo n).go i H ∧ ∃ Nx : Hp → Prop, (∀ H', Nx H' → ∃ m', m' < m ∧ W (i + 1) m' H') ∧ ∀ x H', (Itr lo n).yld i H x H' → g x (wipe σ vs) H' fun σ2 H2 => wipe σ2 vs = wipe σ vs ∧ tt σ2 H2 fun b H3 =>
        if b = true then te σ2 H3 fun y H4 => ∃ acc, H4 D = some (.lst acc) ∧ acc.length < sizeLine ∧ Nx (upd H4 D (.lst (acc ++ [y]))) else Nx H3) := by
  refine ⟨fun i m H => m = n - i ∧ i ≤ n ∧ Pv i H, ⟨n, by simp, Nat.zero_le _, h0⟩, ?_⟩
  rintro i m H ⟨rfl, hi, p⟩
  by_cases hlt : i < n
  · refine .inr ⟨hlt, Pv (i + 1), fun H' p' => ⟨n - (i + 1), by omega, rfl, hlt, p'⟩, fun x H' y => ?_⟩
    obtain ⟨e, y⟩ := y
    subst e y
    exact hs i _ hlt p
  · have e : i = n := by omega
    subst e
    exact .inl ⟨Nat.le_refl _, hd H p⟩
/-- over a list that the block leaves as it is -/
theorem lc_list {K : PySem.W.Frag} {a : Addr} {xs : List V} {g : TG} {tt : TT} {te : TE} {vs : List Nat} {σ : St} {H1 : Hp} {D : Addr} {Qd : Hp → Prop} (Pv : Nat → Hp → Prop) (h0 : Pv 0 (upd H1 D (.lst []))) (hl : ∀ i H, i ≤ xs.length → Pv i H → SqL K H a xs)
    (hs : ∀ i x H, xs[i]? = some x → Pv i H → g x (wipe σ vs) H fun σ2 H2 => wipe σ2 vs = wipe σ vs ∧ tt σ2 H2 fun b H3 =>
      if b = true then te σ2 H3 fun y H4 => ∃ acc, H4 D = some (.lst acc) ∧ acc.length < sizeLine ∧ Pv (i + 1) (upd H4 D (.lst (acc ++ [y]))) else Pv (i + 1) H3) (hd : ∀ H, Pv xs.length H → Qd H) :
    ∃ W : Nat → Nat → Hp → Prop, (∃ m, W 0 m (upd H1 D (.lst []))) ∧ ∀ i m H, W i m H →
      ((Itl K a).stop i H ∧ Qd H) ∨ ((Itl K a).go i H ∧ ∃ Nx : Hp → Prop, (∀ H', Nx H' → ∃ m', m' < m ∧ W (i + 1) m' H') ∧ ∀ x H', (Itl K a).yld i H x H' → g x (wipe σ vs) H' fun σ2 H2 => wipe σ2 vs = wipe σ vs ∧ tt σ2 H2 fun b H3 =>
        if b = true then te σ2 H3 fun y H4 => ∃ acc, H4 D = some (.lst acc) ∧ acc.length < sizeLine ∧ Nx (upd H4 D (.lst (acc ++ [y]))) else Nx H3) := by
  refine ⟨fun i m H => m = xs.length - i ∧ i ≤ xs.length ∧ Pv i H, ⟨xs.length, by simp, Nat.zero_le _, h0⟩, ?_⟩
  rintro i m H ⟨rfl, hi, p⟩
  have q := hl i H hi p
  by_cases hlt : i < xs.length
  · refine .inr ⟨⟨xs, xs[i], q, by simp [hlt]⟩, Pv (i + 1), fun H' p' => ⟨xs.length - (i + 1), by omega, rfl, hlt, p'⟩, fun x H' y => ?_⟩
    obtain ⟨e, y⟩ := y
    subst e
    exact hs i x _ (y xs q) p
  · have e : i = xs.length := by omega
    subst e
    exact .inl ⟨⟨xs, q, Nat.le_refl _⟩, hd H p⟩
/-- over a tuple -/
theorem lc_tup {K : PySem.W.Frag} {a : Addr} {xs : List V} {g : TG} {tt : TT} {te : TE} {vs : List Nat} {σ : St} {H1 : Hp} {D : Addr} {Qd : Hp → Prop} (Pv : Nat → Hp → Prop) (h0 : Pv 0 (upd H1 D (.lst []))) (hl : ∀ i H, i ≤ xs.length → Pv i H → SqT K H a xs)
    (hs : ∀ i x H, xs[i]? = some x → Pv i H → g x (wipe σ vs) H fun σ2 H2 => wipe σ2 vs = wipe σ vs ∧ tt σ2 H2 fun b H3 =>
      if b = true then te σ2 H3 fun y H4 => ∃ acc, H4 D = some (.lst acc) ∧ acc.length < sizeLine ∧ Pv (i + 1) (upd H4 D (.lst (acc ++ [y]))) else Pv (i + 1) H3) (hd : ∀ H, Pv xs.length H → Qd H) :
    ∃ W : Nat → Nat → Hp → Prop, (∃ m, W 0 m (upd H1 D (.lst []))) ∧ ∀ i m H, W i m H →
      ((Itt K a).stop i H ∧ Qd H) ∨ ((Itt K a).go i H ∧ ∃ Nx : Hp → Prop, (∀ H', Nx H' → ∃ m', m' < m ∧ W (i + 1) m' H') ∧ ∀ x H', (Itt K a).yld i H x H' → g x (wipe σ vs) H' fun σ2 H2 => wipe σ2 vs = wipe σ vs ∧ tt σ2 H2 fun b H3 =>
        if b = true then te σ2 H3 fun y H4 => ∃ acc, H4 D = some (.lst acc) ∧ acc.length < sizeLine ∧ Nx (upd H4 D (.lst (acc ++ [y]))) else Nx H3) := by
  refine ⟨fun i m H => m = xs.length - i ∧ i ≤ xs.length ∧ Pv i H, ⟨xs.length, by simp, Nat.zero_le _, h0⟩, ?_⟩
  rintro i m H ⟨rfl, hi, p⟩
  have q := hl i H hi p
  by_cases hlt : i < xs.length
  · refine .inr ⟨⟨xs, xs[i], q, by simp [hlt]⟩, Pv (i + 1), fun H' p' => ⟨xs.length - (i + 1), by omega, rfl, hlt, p'⟩, fun x H' y => ?_⟩
    obtain ⟨e, y⟩ := y
    subst e
    exact hs i x _ (y xs q) p
  · have e : i = xs.length := by omega
    subst e
    exact .inl ⟨⟨xs, q, Nat.le_refl _⟩, hd H p⟩
def blkC (N : List Str) (sc scope : Scope) (own : List (Str × Nat)) : Bool :=
  (match scope.kind with | .function => true | _ => false) && (scope.names.all fun y => decide (scope.names.lookup y.1 = some y.2)) && (own.all fun p => decide (N[p.2]? = some p.1)) &&
    (scope.names.all fun y => match y.2 with
      | .free => (match sc.names.lookup y.1 with | some .cell => true | some .free => true | _ => false)
      | .local => decide (y.1 ∈ own.map (·.1)) || decide (y.1 ∉ N)
      | .cell => decide (y.1 ∈ own.map (·.1)) || decide (y.1 ∉ N)
      | _ => true)
theorem blkOk_by {N : List Str} {sc scope : Scope} {own : List (Str × Nat)} (h : blkC N sc scope own = true) : BlkOk N sc scope own := by
  unfold blkC at h
  simp only [Bool.and_eq_true, List.all_eq_true, decide_eq_true_eq] at h
  obtain ⟨⟨⟨h1, h2⟩, h3⟩, h4⟩ := h
  refine ⟨?_, h2, h3, fun y hy e => ?_, fun y hy e => ?_⟩
  · split at h1
    · assumption
    · cases h1
  · have q := h4 y hy
    simp only [e] at q
    split at q <;> first | exact .inl (by assumption) | exact .inr (by assumption) | cases q
  · have q := h4 y hy
    rcases e with e | e <;> (simp only [e, Bool.or_eq_true, decide_eq_true_eq] at q; exact q)
end L2

namespace L2
open PySem PySem.Spec PyProof.Rows

theorem compTurn2_out (elt t0 i0 t1 i1 : Expr) (ifs0 ifs1 : List Expr) (scope : Scope) (pos : Pos) (it acc : Value) (env : Env) :
    compTurn (.ListComp elt [⟨t0, i0, ifs0, 0⟩, ⟨t1, i1, ifs1, 0⟩] scope pos) 0 it acc env = (do
      standAt i0.pos
      match ← pyNext it with
      | none => pure (.done .next)
      | some v =>
        letOwnedTupleGo t0 it v
        assign t0 env v
        let mut ok := true
        for c in ifs0 do
          if ok then ok ← isTrue c env (eval c env)
        if ok then
          let x ← eval i1 env
          standAt i1.pos
          let x ← foldedSetIterable i1 env x
          let _ ← runOwn (.compStart (.ListComp elt [⟨t0, i0, ifs0, 0⟩, ⟨t1, i1, ifs1, 0⟩] scope pos) 1 (← holding [x] (pyIter x)) acc env) env
        again (.compLoop (.ListComp elt [⟨t0, i0, ifs0, 0⟩, ⟨t1, i1, ifs1, 0⟩] scope pos) 0 it acc env)) := by rfl
theorem compTurn2_in (elt t0 i0 t1 i1 : Expr) (ifs0 ifs1 : List Expr) (scope : Scope) (pos : Pos) (it acc : Value) (env : Env) :
    compTurn (.ListComp elt [⟨t0, i0, ifs0, 0⟩, ⟨t1, i1, ifs1, 0⟩] scope pos) 1 it acc env = (do
      standAt i1.pos
      match ← pyNext it with
      | none => pure (.done .next)
      | some v =>
        letOwnedTupleGo t1 it v
        assign t1 env v
        let mut ok := true
        for c in ifs1 do
          if ok then ok ← isTrue c env (eval c env)
        if ok then
          (do let _ ← call (.builtin "list.append") [acc, ← eval elt env])
        again (.compLoop (.ListComp elt [⟨t0, i0, ifs0, 0⟩, ⟨t1, i1, ifs1, 0⟩] scope pos) 1 it acc env)) := by rfl

section
variable {prog : Program} {w : World} {A : Around} {R : Result → Shared → Prop} {s : Shared} {elt t0 i0 t1 i1 : Expr} {ifs0 ifs1 : List Expr} {scope : Scope} {pos : Pos} {it acc : Value} {env : Env}
/-- the loop of the first clause -/
theorem compLoop2_out (hs : ∀ x, foldedSetIterable i1 env x = pure x) (I : Nat → Shared → Prop)
    (turn : ∀ n s, I n s → wpAny (model prog w) A (pyNext it) (fun r s₁ => match r with
      | none => R (.ok .next) s₁
      | some v => wpAny (model prog w) A (letOwnedTupleGo t0 it v) (fun _ s₁' => wpAny (model prog w) A (assign t0 env v) (fun _ s₂ =>
          wpAny (model prog w) A (forIn ifs0 true fun c r => if r = true then do let ok ← isTrue c env (eval c env); pure (ForInStep.yield ok) else pure (ForInStep.yield r)) (fun ok s₃ =>
            if ok = true then wpAny (model prog w) A (eval i1 env) (fun x s₄ => wpAny (model prog w) A (pyIter x) (fun it1 s₅ =>
              codeAny (model prog w) A (.compStart (.ListComp elt [⟨t0, i0, ifs0, 0⟩, ⟨t1, i1, ifs1, 0⟩] scope pos) 1 it1 acc env) (fun r s' => match r with
                | .ok _ => ∃ m, m < n ∧ I m s'
                | .error _ => False) s₅) (notedBy (model prog w) A env fun e s' => R (.error e) s') s₄) (notedBy (model prog w) A env fun e s' => R (.error e) s') s₃
            else ∃ m, m < n ∧ I m s₃) (notedBy (model prog w) A env fun e s' => R (.error e) s') s₂) (notedBy (model prog w) A env fun e s' => R (.error e) s') s₁') (notedBy (model prog w) A env fun e s' => R (.error e) s') s₁) (notedBy (model prog w) A env fun e s' => R (.error e) s') s)
    (n : Nat) (h : I n s) :
    codeAny (model prog w) A (.compLoop (.ListComp elt [⟨t0, i0, ifs0, 0⟩, ⟨t1, i1, ifs1, 0⟩] scope pos) 0 it acc env) R s := by
  refine codeAny_loop rfl I (fun n s hI => ?_) n h
  show wpAny _ A ((compTurn (.ListComp elt [⟨t0, i0, ifs0, 0⟩, ⟨t1, i1, ifs1, 0⟩] scope pos) 0 it acc env).onRaise (fun x => do noteFrame x env; theTreesLotGoes x)) _ _ s
  refine wpAny_noted ?_
  rw [compTurn2_out]
  refine wpAny_bind (wpAny_standAt (wpAny_bind (wpAny_mono (turn n s hI) (fun r s₁ h₁ => ?_) fun _ _ h' => h')))
  cases r with
  | none => exact wpAny_pure h₁
  | some v =>
    refine wpAny_bind (wpAny_mono h₁ (fun _ s₁' h₁' => ?_) fun _ _ h' => h')
    refine wpAny_bind (wpAny_mono h₁' (fun _ s₂ h₂ => wpAny_bind (wpAny_mono h₂ (fun ok s₃ h₃ => ?_) fun _ _ h' => h')) fun _ _ h' => h')
    cases ok with
    | false => exact wpAny_pure ⟨rfl, h₃⟩
    | true =>
      refine wpAny_bind (wpAny_mono h₃ (fun x s₄ h₄ => ?_) fun _ _ h' => h')
      refine wpAny_bind (wpAny_standAt (wpAny_bind (wpAny_of_eq (hs x) (wpAny_bind (wpAny_holding (wpAny_mono h₄ (fun it1 s₅ h₅ => ?_) fun _ _ h' => h'))))))
      refine wpAny_bind (wpAny_runOwn ?_)
      rw [Around.mark_none]
      refine codeAny_mono h₅ fun r s' hr => ?_
      cases r with
      | ok f =>
        first
          | exact wpAny_pure ⟨rfl, hr⟩
          | exact wpAny_bind (wpAny_pure (wpAny_pure ⟨rfl, hr⟩))
      | error e => exact hr.elim
/-- the loop of the second -/
theorem compLoop2_in (I : Nat → Shared → Prop)
    (turn : ∀ n s, I n s → wpAny (model prog w) A (pyNext it) (fun r s₁ => match r with
      | none => R (.ok .next) s₁
      | some v => wpAny (model prog w) A (letOwnedTupleGo t1 it v) (fun _ s₁' => wpAny (model prog w) A (assign t1 env v) (fun _ s₂ =>
          wpAny (model prog w) A (forIn ifs1 true fun c r => if r = true then do let ok ← isTrue c env (eval c env); pure (ForInStep.yield ok) else pure (ForInStep.yield r)) (fun ok s₃ =>
            if ok = true then wpAny (model prog w) A (eval elt env) (fun x s₄ =>
              wpAny (model prog w) A (call (.builtin "list.append") [acc, x]) (fun _ s₅ => ∃ m, m < n ∧ I m s₅) (notedBy (model prog w) A env fun e s' => R (.error e) s') s₄) (notedBy (model prog w) A env fun e s' => R (.error e) s') s₃
            else ∃ m, m < n ∧ I m s₃) (notedBy (model prog w) A env fun e s' => R (.error e) s') s₂) (notedBy (model prog w) A env fun e s' => R (.error e) s') s₁') (notedBy (model prog w) A env fun e s' => R (.error e) s') s₁) (notedBy (model prog w) A env fun e s' => R (.error e) s') s)
    (n : Nat) (h : I n s) :
    codeAny (model prog w) A (.compLoop (.ListComp elt [⟨t0, i0, ifs0, 0⟩, ⟨t1, i1, ifs1, 0⟩] scope pos) 1 it acc env) R s := by
  refine codeAny_loop rfl I (fun n s hI => ?_) n h
  show wpAny _ A ((compTurn (.ListComp elt [⟨t0, i0, ifs0, 0⟩, ⟨t1, i1, ifs1, 0⟩] scope pos) 1 it acc env).onRaise (fun x => do noteFrame x env; theTreesLotGoes x)) _ _ s
  refine wpAny_noted ?_
  rw [compTurn2_in]
  refine wpAny_bind (wpAny_standAt (wpAny_bind (wpAny_mono (turn n s hI) (fun r s₁ h₁ => ?_) fun _ _ h' => h')))
  cases r with
  | none => exact wpAny_pure h₁
  | some v =>
    refine wpAny_bind (wpAny_mono h₁ (fun _ s₁' h₁' => ?_) fun _ _ h' => h')
    refine wpAny_bind (wpAny_mono h₁' (fun _ s₂ h₂ => wpAny_bind (wpAny_mono h₂ (fun ok s₃ h₃ => ?_) fun _ _ h' => h')) fun _ _ h' => h')
    cases ok with
    | false => exact wpAny_pure ⟨rfl, h₃⟩
    | true =>
      exact wpAny_bind (wpAny_bind (wpAny_mono h₃ (fun x s₄ h₄ => wpAny_bind (wpAny_mono h₄ (fun _ s₅ h₅ => wpAny_pure (wpAny_pure ⟨rfl, h₅⟩)) fun _ _ h' => h')) fun _ _ h' => h'))
/-- the second clause's start -/
theorem compStart1_ok (h0 : codeAny (model prog w) A (.compLoop (.ListComp elt [⟨t0, i0, ifs0, 0⟩, ⟨t1, i1, ifs1, 0⟩] scope pos) 1 it acc env) R s)
    (h : wpAny (model prog w) A (pyIter it) (fun it' s' => codeAny (model prog w) A (.compLoop (.ListComp elt [⟨t0, i0, ifs0, 0⟩, ⟨t1, i1, ifs1, 0⟩] scope pos) 1 it' acc env) R s')
      (notedBy (model prog w) A env fun x s' => R (.error x) s') s) :
    codeAny (model prog w) A (.compStart (.ListComp elt [⟨t0, i0, ifs0, 0⟩, ⟨t1, i1, ifs1, 0⟩] scope pos) 1 it acc env) R s := by
  refine codeAny_of_tree ?_
  show wpAny _ _ ((compStart (.ListComp elt [⟨t0, i0, ifs0, 0⟩, ⟨t1, i1, ifs1, 0⟩] scope pos) 1 it acc env).onRaise (fun x => do noteFrame x env; standAt theWindowsPlace)) _ _ s
  refine wpAny_notedAt ?_
  unfold compStart
  show wpAny _ _ (ask >>= _) _ _ s
  refine wpAny_bind (wpAny_askSetting (wpAny_ite ?_))
  split
  · first
      | exact wpAny_bind (wpAny_pure (wpAny_pure (And.intro rfl h0)))
      | exact wpAny_pure (And.intro rfl h0)
  · first
      | exact wpAny_bind (wpAny_rule (wpAny_bind (wpAny_standAt (wpAny_bind (wpAny_mono h (fun it' s' h' => wpAny_pure (And.intro rfl h')) fun _ _ x => x)))))
      | (refine wpAny_bind (wpAny_rule ?_); show wpAny _ _ (standAt i1.pos >>= _) _ _ s; exact wpAny_bind (wpAny_standAt (wpAny_bind (wpAny_mono h (fun it' s' h' => wpAny_pure (And.intro rfl h')) fun _ _ x => x))))
end

theorem wipe_out {σ : St} {i : Nat} : ∀ {vs : List Nat}, i ∉ vs → (wipe σ vs)[i]? = σ[i]?
  | [], _ => rfl
  | v :: vs, h => by
    have h1 : v ≠ i := fun e => h (by rw [e]; exact List.mem_cons_self)
    have h2 : i ∉ vs := fun m => h (List.mem_cons_of_mem _ m)
    unfold wipe
    rw [List.getElem?_set_ne h1]
    exact wipe_out h2
section
variable {X : Cx}
/-- [elt for tg in iter if .. for tg1 in iter1 if ..]: behind the first clause's store and tests the second source's own loop, from which Nx is reached. vs: the block's names; vs1: those of the second target -/
def tLc2 (wi : TI) (g : TG) (tt : TT) (wi1 : TI) (g1 : TG) (tt1 : TT) (te : TE) (vs vs1 : List Nat) : TE := fun σ H Q => wi σ H fun J H1 => ∀ D, H1 D = none → ∃ W : Nat → Nat → Hp → Prop, (∃ m, W 0 m (upd H1 D (.lst []))) ∧ ∀ i m H, W i m H →
  (J.stop i H ∧ Q (.ref D) H) ∨ (J.go i H ∧ ∃ Nx : Hp → Prop, (∀ H', Nx H' → ∃ m', m' < m ∧ W (i + 1) m' H') ∧ ∀ x H', J.yld i H x H' → g x (wipe σ vs) H' fun σ2 H2 => wipe σ2 vs = wipe σ vs ∧ tt σ2 H2 fun b H3 =>
    if b = true then wi1 σ2 H3 fun J1 H4 => ∃ W1 : Nat → Nat → Hp → Prop, (∃ m, W1 0 m H4) ∧ ∀ j k H, W1 j k H →
      (J1.stop j H ∧ Nx H) ∨ (J1.go j H ∧ ∃ Nx1 : Hp → Prop, (∀ H', Nx1 H' → ∃ k', k' < k ∧ W1 (j + 1) k' H') ∧ ∀ x H', J1.yld j H x H' → g1 x (wipe σ2 vs1) H' fun σ3 H5 => wipe σ3 vs1 = wipe σ2 vs1 ∧ tt1 σ3 H5 fun b H6 =>
        if b = true then te σ3 H6 fun y H7 => ∃ acc, H7 D = some (.lst acc) ∧ acc.length < sizeLine ∧ Nx1 (upd H7 D (.lst (acc ++ [y]))) else Nx1 H6)
    else Nx H3)
theorem lc2_core {pins : List (Addr × Obj)} {s : Shared} {σ : St} {H : Hp} {Q : VK} {elt tg iter tg1 iter1 : Expr} {ifs ifs1 : List Expr} {scope : Scope} {own : List (Str × Nat)} {vs1 : List Nat} {pos pos' : Pos} {wi wi1 : TI} {g g1 : TG} {tt tt1 : TT} {te : TE} {use : Option (Value → Sem Unit)} {Qf : Value → Shared → Prop}
    (hc : X.calm = true) (hN : X.N.Nodup) (I : Inv X pins σ H s) (hi : PI X tg iter wi) (ok : BlkOk X.N X.env.scope scope own) (hv : ∀ i ∈ vs1, i ∈ own.map (·.2))
    (hg : ∀ (s : Shared) (H : Hp) (C : Addr) (cl : List (Str × Addr)) (fp : List Addr), PG (X.blk s H scope (compEnvC scope cl C X.env) fp) tg g) (ht : ∀ (s : Shared) (H : Hp) (C : Addr) (cl : List (Str × Addr)) (fp : List Addr), PTs (X.blk s H scope (compEnvC scope cl C X.env) fp) ifs tt)
    (he : ∀ (s : Shared) (H : Hp) (C : Addr) (cl : List (Str × Addr)) (fp : List Addr), PE (X.blk s H scope (compEnvC scope cl C X.env) fp) elt te) (hs : ∀ x, foldedSetIterable iter X.env x = pure x)
    (hi1 : ∀ (s : Shared) (H : Hp) (C : Addr) (cl : List (Str × Addr)) (fp : List Addr), PI (X.blk s H scope (compEnvC scope cl C X.env) fp) tg1 iter1 wi1)
    (hg1 : ∀ (s : Shared) (H : Hp) (C : Addr) (cl : List (Str × Addr)) (fp : List Addr), PG (X.blk s H scope (compEnvC scope cl C X.env) fp) tg1 g1)
    (ht1 : ∀ (s : Shared) (H : Hp) (C : Addr) (cl : List (Str × Addr)) (fp : List Addr), PTs (X.blk s H scope (compEnvC scope cl C X.env) fp) ifs1 tt1)
    (hs1 : ∀ env x, foldedSetIterable iter1 env x = pure x)
    (h : tLc2 wi g tt wi1 g1 tt1 te (own.map (·.2)) vs1 σ H Q)
    (hRR : ∀ D C s' m H', Inv X pins σ H' s' → Q (.ref D) H' → s'.heap.Ns C m → FpOk X pins H' C → compPost (model X.prog X.w) X.A X.xe use Qf (.ref D) C (.ok .next) s') :
    wpAny (model X.prog X.w) X.A (comprehension (.ListComp elt [⟨tg, iter, ifs, 0⟩, ⟨tg1, iter1, ifs1, 0⟩] scope pos) scope X.env pos' (newList []) false (eval iter X.env) use) Qf X.xe s := by
  have hfree : ∀ y ∈ scope.names, y.2 = .free → ∃ c, X.env.cells.lookup y.1 = some c := fun y hy e => by
    rcases ok.free y hy e with k | k
    · exact I.ok.has _ (.inl k)
    · exact I.ok.has _ (.inr k)
  refine wpAny_comprehension_free (use := use) rfl hs (closure_ok hfree) ok.kind (fun y hy e => by rw [ok.uniq y hy, e])
    (thn (hi pins s σ H _ I h) fun xv s1 hx => thn hx fun itv s2 h2 => ?_)
  obtain ⟨it, fp, tn, J, H2, e, I2, T, st2, f2, q⟩ := h2
  subst e
  refine wpAny_newObj_type (newEnv_comp ?_) (by show 0 ≤ sizeLine; decide)
  generalize hD : s2.heap.objs.size = D
  have hDn : H2 D = none := I2.hok.fresh (Nat.le_of_eq hD)
  obtain ⟨W, ⟨m0, w0⟩, turn⟩ := q D hDn
  -- the new list
  generalize hs3 : ({ s2 with heap := s2.heap.push { cls := .type "list", data := .seq ([] : List Value).toArray } } : Shared) = s3
  have I3 : Inv X pins σ (upd H2 D (.lst [])) s3 := by
    rw [← hs3]
    refine I2.laid (t' := s2.toks) (fun b o e => Heap.get?_push_of_some _ e) (Nat.le_of_eq hD) ⟨Nat.zero_le _, [], 0, .nil, ?_⟩
    rw [← hD]
    exact Heap.get?_push_size _ rfl
  have h3 : s3.heap = s2.heap.push { cls := .type "list", data := .seq ([] : List Value).toArray } := by rw [← hs3]
  have sz : ∀ b ∈ fp, b < s2.heap.objs.size := fun b hb => by
    obtain ⟨o, e, _⟩ := T.obj _ _ st2 b hb
    exact Heap.lt_size e
  have f3 : ∀ b ∈ fp, FpOk X pins (upd H2 D (.lst [])) b ∧ b < s3.heap.objs.size := fun b hb => by
    have hlt := sz b hb
    refine ⟨⟨?_, (f2 b hb).2⟩, by rw [h3, Heap.size_push]; exact Nat.lt_succ_of_lt hlt⟩
    rw [upd_ne (by rw [← hD]; exact Nat.ne_of_lt hlt)]
    exact (f2 b hb).1
  have st3 : tn 0 s3.heap := T.keep _ _ _ st2 fun b _ o e => by rw [h3]; exact Heap.get?_push_of_some _ e
  have I4 := block_start I3 ok hN f3
  have pg := hg s3 (upd H2 D (.lst [])) s3.heap.objs.size (cellsFrom (s3.heap.objs.size + 1) scope.names (cloFrom X.env.cells scope.names [])) fp
  have pt := ht s3 (upd H2 D (.lst [])) s3.heap.objs.size (cellsFrom (s3.heap.objs.size + 1) scope.names (cloFrom X.env.cells scope.names [])) fp
  have pe := he s3 (upd H2 D (.lst [])) s3.heap.objs.size (cellsFrom (s3.heap.objs.size + 1) scope.names (cloFrom X.env.cells scope.names [])) fp
  have pi1 := hi1 s3 (upd H2 D (.lst [])) s3.heap.objs.size (cellsFrom (s3.heap.objs.size + 1) scope.names (cloFrom X.env.cells scope.names [])) fp
  have pg1 := hg1 s3 (upd H2 D (.lst [])) s3.heap.objs.size (cellsFrom (s3.heap.objs.size + 1) scope.names (cloFrom X.env.cells scope.names [])) fp
  have pt1 := ht1 s3 (upd H2 D (.lst [])) s3.heap.objs.size (cellsFrom (s3.heap.objs.size + 1) scope.names (cloFrom X.env.cells scope.names [])) fp
  show codeAny _ _ (.compStart (.ListComp elt [⟨tg, iter, ifs, 0⟩, ⟨tg1, iter1, ifs1, 0⟩] scope pos) 0 (.ref it) (.ref D) (compEnvC scope (cellsFrom (s3.heap.objs.size + 1) scope.names (cloFrom X.env.cells scope.names [])) s3.heap.objs.size X.env)) (compPost (model X.prog X.w) X.A X.xe use Qf (.ref D) s3.heap.objs.size) { s3 with heap := pushCells (s3.heap.push { cls := .type "dict", data := .dict #[] }) scope.names }
  have nfp : ∀ b ∈ fp, (upd H2 D (.lst [])) b = none := fun b hb => (f3 b hb).1.1
  generalize hce : compEnvC scope (cellsFrom (s3.heap.objs.size + 1) scope.names (cloFrom X.env.cells scope.names [])) s3.heap.objs.size X.env = ce at I4 pg pt pe pi1 pg1 pt1 ⊢
  have cL : ce.locals = s3.heap.objs.size := by subst hce; rfl
  generalize hH3 : upd H2 D (.lst []) = H3 at I3 I4 pg pt pe pi1 pg1 pt1 w0 nfp f3
  generalize hs4 : ({ s3 with heap := pushCells (s3.heap.push { cls := .type "dict", data := .dict #[] }) scope.names } : Shared) = s4 at I4 ⊢
  have st4 : tn 0 s4.heap := T.keep _ _ _ st3 fun b _ o e => by rw [← hs4]; exact pushCells_keeps _ _ _ _ (Heap.get?_push_of_some _ e)
  have stat : ∀ {σ' : St} {H' : Hp} {s' : Shared}, Inv (X.blk s3 H3 scope ce fp) [] σ' H' s' → (∀ b ∈ fp, H' b = none) → ∀ b ∈ fp, FpOk (X.blk s3 H3 scope ce fp) [] H' b := fun {σ' H' s'} I' hn b hb =>
    ⟨hn b hb, (I'.ok.exf b hb).1, I'.ok.exfs b hb, .inl hb, fun x c e => (I'.ok.exf b hb).2 x c e, fun p hp => absurd (show p ∈ ([] : List (Addr × Obj)) ++ [] from hp) (by simp)⟩
  have loop : codeAny (model X.prog X.w) X.A (.compLoop (.ListComp elt [⟨tg, iter, ifs, 0⟩, ⟨tg1, iter1, ifs1, 0⟩] scope pos) 0 (.ref it) (.ref D) ce) (compPost (model X.prog X.w) X.A X.xe use Qf (.ref D) s3.heap.objs.size) s4 := by
    refine compLoop2_out (hs1 ce) (fun n s' => ∃ i H', Inv (X.blk s3 H3 scope ce fp) [] (wipe σ (own.map (·.2))) H' s' ∧ tn i s'.heap ∧ (∀ b ∈ fp, H' b = none) ∧ W i n H') ?_ m0 ⟨0, H3, I4, st4, nfp, w0⟩
    rintro n s5 ⟨i, H5, I5, st5, n5, w5⟩
    rcases turn i n H5 w5 with ⟨stop, qq⟩ | ⟨go, Nx, hNx, step⟩
    · have td := T.done (X.blk s3 H3 scope ce fp) rfl rfl rfl hc i [] s5 _ H5 (fun _ _ => False) I5 (stat I5 n5) st5 stop
      refine thnF td fun r s6 ⟨hr, I6⟩ => ?_
      subst hr
      -- back in the def's context
      have I7 : Inv X pins σ H5 s6 := I3.call' (ch := fp) I6.os I6.base I6.hok I6.bare fun b hb => ⟨(f3 b hb).1.2.2.2.1, (f3 b hb).1.2.1, (f3 b hb).1.2.2.2.2.1, (f3 b hb).1.2.2.2.2.2⟩
      have nC : H5 s3.heap.objs.size = none := by
        have z : H5 ce.locals = none := I6.free
        rw [cL] at z
        exact z
      obtain ⟨m, hn, _⟩ := I6.loc
      have hn : s6.heap.Ns ce.locals m := hn
      rw [cL] at hn
      exact hRR D s3.heap.objs.size s6 m H5 I7 qq hn (I3.fpOk (Nat.le_refl _) nC)
    · have ti := T.item (X.blk s3 H3 scope ce fp) rfl rfl rfl hc i [] s5 _ H5 (fun _ _ => False) I5 (stat I5 n5) st5 go
      refine thnF ti fun r s6 ⟨u, hr, h6⟩ => ?_
      subst hr
      refine thnF h6 fun _ s7 ⟨x, H7, I7, r7, y7, st7, n7⟩ => ?_
      have I7' := I7.pinned (stat I7 n7) (T.obj _ _ st7)
      refine thnF (pg _ s7 _ H7 x u _ I7' r7 (step x H7 y7)) fun _ s8 ⟨σ8, H8, I8, hw8, q8⟩ => ?_
      refine thnF (pt _ s8 σ8 H8 _ I8 q8) fun b s9 ⟨H9, I9, q9⟩ => ?_
      -- the turn's end, from any slots that know what the block knew at its start
      have fin : ∀ {σ9 : St} {s' : Shared} {H' : Hp}, Inv (X.blk s3 H3 scope ce fp) ([] ++ pinsAt fp s7.heap) σ9 H' s' → (wipe σ (own.map (·.2))).length = σ9.length → (∀ (j : Nat) v, (wipe σ (own.map (·.2)))[j]? = some (some v) → σ9[j]? = some (some v)) → Nx H' →
          ∃ m, m < n ∧ ∃ i H', Inv (X.blk s3 H3 scope ce fp) [] (wipe σ (own.map (·.2))) H' s' ∧ tn i s'.heap ∧ (∀ b ∈ fp, H' b = none) ∧ W i m H' := fun {σ9 s' H'} I' hl hk nx => by
        obtain ⟨m', hm, w'⟩ := hNx H' nx
        have pin' : ∀ b ∈ fp, ∀ o, s7.heap.get? b = some o → s'.heap.get? b = some o ∧ H' b = none := fun b hb o e =>
          let z := I'.pin (b, o) (List.mem_append_right _ (List.mem_append_right _ (mem_pinsAt hb e)))
          ⟨z.1, z.2.1⟩
        refine ⟨m', hm, i + 1, H', (I'.unpinned (pins := [])).weak hl hk, T.keep _ _ _ st7 fun b hb o e => (pin' b hb o e).1, fun b hb => ?_, w'⟩
        obtain ⟨o, e, _⟩ := T.obj _ _ st7 b hb
        exact (pin' b hb o e).2
      have hl8 : (wipe σ (own.map (·.2))).length = σ8.length := by rw [← hw8, wipe_length]
      have hk8 : ∀ (j : Nat) v, (wipe σ (own.map (·.2)))[j]? = some (some v) → σ8[j]? = some (some v) := fun j v e => by
        rw [← hw8] at e
        exact (wipe_some e).1
      have hk9 : ∀ (j : Nat) v, (wipe σ (own.map (·.2)))[j]? = some (some v) → (wipe σ8 vs1)[j]? = some (some v) := fun j v e => by
        rw [← hw8] at e
        obtain ⟨e1, e2⟩ := wipe_some e
        rw [wipe_out fun z => e2 (hv j z)]
        exact e1
      cases b with
      | false =>
        simp only [Bool.false_eq_true, if_false] at q9 ⊢
        exact fin I9 hl8 hk8 q9
      | true =>
        simp only [if_true] at q9 ⊢
        refine thnF (pi1 _ s9 σ8 H9 _ I9 q9) fun xv s10 hx => thnF hx fun itv s11 h11 => ?_
        obtain ⟨it1, fp1, tn1, J1, H11, e1, I11, T1, st11, f11, W1, ⟨m1, w1⟩, turn1⟩ := h11
        subst e1
        -- the inner loop
        have stat1 : ∀ {H' : Hp}, (∀ b ∈ fp1, H' b = none) → ∀ b ∈ fp1, FpOk (X.blk s3 H3 scope ce fp) ([] ++ pinsAt fp s7.heap) H' b := fun hn b hb => ⟨hn b hb, (f11 b hb).2⟩
        have loop1 : codeAny (model X.prog X.w) X.A (.compLoop (.ListComp elt [⟨tg, iter, ifs, 0⟩, ⟨tg1, iter1, ifs1, 0⟩] scope pos) 1 (.ref it1) (.ref D) ce)
            (fun r s' => match r with
              | .ok _ => ∃ m, m < n ∧ ∃ i H', Inv (X.blk s3 H3 scope ce fp) [] (wipe σ (own.map (·.2))) H' s' ∧ tn i s'.heap ∧ (∀ b ∈ fp, H' b = none) ∧ W i m H'
              | .error _ => False) s11 := by
          refine compLoop2_in (fun k s' => ∃ j H', Inv (X.blk s3 H3 scope ce fp) ([] ++ pinsAt fp s7.heap) (wipe σ8 vs1) H' s' ∧ tn1 j s'.heap ∧ (∀ b ∈ fp1, H' b = none) ∧ W1 j k H') ?_ m1 ⟨0, H11, I11.weak (wipe_length _ _) (fun j v e => (wipe_some e).1), st11, fun b hb => (f11 b hb).1, w1⟩
          rintro k s12 ⟨j, H12, I12, st12, n12, w12⟩
          rcases turn1 j k H12 w12 with ⟨stop1, nx1⟩ | ⟨go1, Nx1, hNx1, step1⟩
          · refine thnF (T1.done (X.blk s3 H3 scope ce fp) rfl rfl rfl hc j _ s12 (wipe σ8 vs1) H12 (fun _ _ => False) I12 (stat1 n12) st12 stop1) fun r s13 ⟨hr, I13⟩ => ?_
            subst hr
            exact fin I13 (hl8.trans (wipe_length σ8 vs1).symm) hk9 nx1
          · refine thnF (T1.item (X.blk s3 H3 scope ce fp) rfl rfl rfl hc j _ s12 (wipe σ8 vs1) H12 (fun _ _ => False) I12 (stat1 n12) st12 go1) fun r s13 ⟨u1, hr, h13⟩ => ?_
            subst hr
            refine thnF h13 fun _ s14 ⟨x1, H14, I14, r14, y14, st14, n14⟩ => ?_
            have I14' := I14.pinned (stat1 n14) (T1.obj _ _ st14)
            refine thnF (pg1 _ s14 (wipe σ8 vs1) H14 x1 u1 _ I14' r14 (step1 x1 H14 y14)) fun _ s15 ⟨σ15, H15, I15, hw15, q15⟩ => ?_
            refine thnF (pt1 _ s15 σ15 H15 _ I15 q15) fun b1 s16 ⟨H16, I16, q16⟩ => ?_
            have fin1 : ∀ {s' : Shared} {H' : Hp}, Inv (X.blk s3 H3 scope ce fp) (([] ++ pinsAt fp s7.heap) ++ pinsAt fp1 s14.heap) σ15 H' s' → Nx1 H' → ∃ m, m < k ∧ ∃ j H', Inv (X.blk s3 H3 scope ce fp) ([] ++ pinsAt fp s7.heap) (wipe σ8 vs1) H' s' ∧ tn1 j s'.heap ∧ (∀ b ∈ fp1, H' b = none) ∧ W1 j m H' := fun {s' H'} I' nx => by
              obtain ⟨m', hm, w'⟩ := hNx1 H' nx
              have pin' : ∀ b ∈ fp1, ∀ o, s14.heap.get? b = some o → s'.heap.get? b = some o ∧ H' b = none := fun b hb o e =>
                let z := I'.pin (b, o) (List.mem_append_right _ (List.mem_append_right _ (mem_pinsAt hb e)))
                ⟨z.1, z.2.1⟩
              refine ⟨m', hm, j + 1, H', I'.unpinned.weak (by rw [← hw15, wipe_length]) (fun j v e => by rw [← hw15] at e; exact (wipe_some e).1), T1.keep _ _ _ st14 fun b hb o e => (pin' b hb o e).1, fun b hb => ?_, w'⟩
              obtain ⟨o, e, _⟩ := T1.obj _ _ st14 b hb
              exact (pin' b hb o e).2
            cases b1 with
            | false =>
              simp only [Bool.false_eq_true, if_false] at q16 ⊢
              exact fin1 I16 q16
            | true =>
              simp only [if_true] at q16 ⊢
              refine thnF (pe _ s16 σ15 H16 _ I16 q16) fun z s17 ⟨yv, H17, I17, r17, acc, hD17, hz17, nx⟩ => ?_
              exact app_ok (X := X.blk s3 H3 scope ce fp) I17 hD17 hz17 r17 fun s18 I18 => fin1 I18 nx
        exact compStart1_ok loop1 (T1.self X.A 0 _ _ _ st11 loop1)
  exact codeAny_compStart_list loop (T.self X.A 0 _ _ _ st4 loop)
/-- as a value -/
theorem pe_lc2 {elt tg iter tg1 iter1 : Expr} {ifs ifs1 : List Expr} {scope : Scope} {own : List (Str × Nat)} {vs1 : List Nat} {pos : Pos} {wi wi1 : TI} {g g1 : TG} {tt tt1 : TT} {te : TE} (hc : X.calm = true) (hN : X.N.Nodup) (hi : PI X tg iter wi) (ok : BlkOk X.N X.env.scope scope own) (hv : ∀ i ∈ vs1, i ∈ own.map (·.2))
    (hg : ∀ (s : Shared) (H : Hp) (C : Addr) (cl : List (Str × Addr)) (fp : List Addr), PG (X.blk s H scope (compEnvC scope cl C X.env) fp) tg g) (ht : ∀ (s : Shared) (H : Hp) (C : Addr) (cl : List (Str × Addr)) (fp : List Addr), PTs (X.blk s H scope (compEnvC scope cl C X.env) fp) ifs tt)
    (hi1 : ∀ (s : Shared) (H : Hp) (C : Addr) (cl : List (Str × Addr)) (fp : List Addr), PI (X.blk s H scope (compEnvC scope cl C X.env) fp) tg1 iter1 wi1)
    (hg1 : ∀ (s : Shared) (H : Hp) (C : Addr) (cl : List (Str × Addr)) (fp : List Addr), PG (X.blk s H scope (compEnvC scope cl C X.env) fp) tg1 g1) (ht1 : ∀ (s : Shared) (H : Hp) (C : Addr) (cl : List (Str × Addr)) (fp : List Addr), PTs (X.blk s H scope (compEnvC scope cl C X.env) fp) ifs1 tt1)
    (he : ∀ (s : Shared) (H : Hp) (C : Addr) (cl : List (Str × Addr)) (fp : List Addr), PE (X.blk s H scope (compEnvC scope cl C X.env) fp) elt te) (hs : ∀ x, foldedSetIterable iter X.env x = pure x := by intro _; rfl) (hs1 : ∀ env x, foldedSetIterable iter1 env x = pure x := by intro _ _; rfl) :
    PE X (.ListComp elt [⟨tg, iter, ifs, 0⟩, ⟨tg1, iter1, ifs1, 0⟩] scope pos) (tLc2 wi g tt wi1 g1 tt1 te (own.map (·.2)) vs1) := by
  intro pins s σ H Q I h
  rw [eval_ListComp]
  refine lc2_core hc hN I hi ok hv hg ht he hs hi1 hg1 ht1 hs1 h fun D C s' m H' I' q hn f => ⟨m, hn, fun h'' sb => ?_⟩
  obtain ⟨f0, f1, f2, f3, f4, f5⟩ := f
  exact ⟨.ref D, H', I'.turned (t' := s'.toks) (fun b o hb e => (sb.2 b hb).trans e) f0 f1 f3 f4 f5, rfl, q⟩
theorem ps_setLc2 {i : Nat} {y : Str} {py : Pos} {elt tg iter tg1 iter1 : Expr} {ifs ifs1 : List Expr} {scope : Scope} {own : List (Str × Nat)} {vs1 : List Nat} {pos spos : Pos} {wi wi1 : TI} {g g1 : TG} {tt tt1 : TT} {te : TE} (hc : X.calm = true) (hN : X.N.Nodup) (hy : X.N[i]? = some y) (hyl : X.env.scope.names.lookup y = some .local)
    (hsw : swapsWith (.ListComp elt [⟨tg, iter, ifs, 0⟩, ⟨tg1, iter1, ifs1, 0⟩] scope pos) (some (.Name y py)) spos.line X.env = pure true) (hi : PI X tg iter wi) (ok : BlkOk X.N X.env.scope scope own) (hv : ∀ i ∈ vs1, i ∈ own.map (·.2))
    (hg : ∀ (s : Shared) (H : Hp) (C : Addr) (cl : List (Str × Addr)) (fp : List Addr), PG (X.blk s H scope (compEnvC scope cl C X.env) fp) tg g) (ht : ∀ (s : Shared) (H : Hp) (C : Addr) (cl : List (Str × Addr)) (fp : List Addr), PTs (X.blk s H scope (compEnvC scope cl C X.env) fp) ifs tt)
    (hi1 : ∀ (s : Shared) (H : Hp) (C : Addr) (cl : List (Str × Addr)) (fp : List Addr), PI (X.blk s H scope (compEnvC scope cl C X.env) fp) tg1 iter1 wi1)
    (hg1 : ∀ (s : Shared) (H : Hp) (C : Addr) (cl : List (Str × Addr)) (fp : List Addr), PG (X.blk s H scope (compEnvC scope cl C X.env) fp) tg1 g1) (ht1 : ∀ (s : Shared) (H : Hp) (C : Addr) (cl : List (Str × Addr)) (fp : List Addr), PTs (X.blk s H scope (compEnvC scope cl C X.env) fp) ifs1 tt1)
    (he : ∀ (s : Shared) (H : Hp) (C : Addr) (cl : List (Str × Addr)) (fp : List Addr), PE (X.blk s H scope (compEnvC scope cl C X.env) fp) elt te) (hs : ∀ x, foldedSetIterable iter X.env x = pure x := by intro _; rfl) (hs1 : ∀ env x, foldedSetIterable iter1 env x = pure x := by intro _ _; rfl) :
    PS X (.Assign [.Name y py] (.ListComp elt [⟨tg, iter, ifs, 0⟩, ⟨tg1, iter1, ifs1, 0⟩] scope pos) spos) (tAsg (tLc2 wi g tt wi1 g1 tt1 te (own.map (·.2)) vs1) (gName i)) := by
  intro pins s σ H D I h
  rw [exec_Assign_Name_used _ _ _ _ hsw]
  refine wpAny_bind (wpAny_standAt (wpAny_bind ?_))
  show wpAny _ X.A (do let _ ← comprehension (.ListComp elt [⟨tg, iter, ifs, 0⟩, ⟨tg1, iter1, ifs1, 0⟩] scope pos) scope X.env (firstIterPos [⟨tg, iter, ifs, 0⟩, ⟨tg1, iter1, ifs1, 0⟩] pos) (newList []) false (eval iter X.env) (some (assign (.Name y py) X.env))) _ _ s
  have h : tLc2 wi g tt wi1 g1 tt1 te (own.map (·.2)) vs1 σ H (fun x H1 => gName i x σ H1 D.nx) := h
  refine wpAny_bind (thn (lc2_core (Qf := fun _ s' => SP X pins D .next s') hc hN I hi ok hv hg ht he hs hi1 hg1 ht1 hs1 h fun L C s' m H' I' q hn f => ?_) fun _ s' hq => wpAny_pure (wpAny_pure hq))
  show wpAny _ _ (assign (.Name y py) X.env (.ref L)) _ _ _
  refine wpAny_assign_Name (store_ok2 (v := V.ref L) I' hN hy (.inl hyl) rfl (fun s2 I2 ⟨a, sb, ha⟩ => ?_) (.inr hyl))
  obtain ⟨f0, f1, f2, f3, f4, f5⟩ := f
  have haC : C ≠ a := by
    rcases ha with z | z
    · rw [z]; exact f1
    · exact fun e => f4 y a z e.symm
  refine ⟨m, hn.sameBut sb haC, fun h3 sb3 => ?_⟩
  exact ⟨_, H', I2.turned (t' := s2.toks) (fun b o hb e => (sb3.2 b hb).trans e) f0 f1 f3 f4 f5, q⟩
end
end L2

namespace L2
open PySem PySem.Spec PyProof.Rows

/-! ### lists of pairs as tables -/
section
variable {κ : Type} [DecidableEq κ]
def valV (kvs : List (κ × V)) (k : κ) : Option V := (kvs.find? fun kv => decide (kv.1 = k)).map (·.2)
/-- in its place, or at the end -/
def putK (kvs : List (κ × V)) (k : κ) (v : V) : List (κ × V) :=
  if (kvs.any fun kv => decide (kv.1 = k)) = true then kvs.map (fun kv => if kv.1 = k then (kv.1, v) else kv) else kvs ++ [(k, v)]
def dropK (kvs : List (κ × V)) (k : κ) : List (κ × V) := kvs.filter fun kv => decide (kv.1 ≠ k)

theorem valV_nil {k : κ} : valV ([] : List (κ × V)) k = none := rfl
theorem valV_pos {p : κ × V} {r : List (κ × V)} {k : κ} (e : p.1 = k) : valV (p :: r) k = some p.2 := by simp [valV, List.find?_cons, e]
theorem valV_neg {p : κ × V} {r : List (κ × V)} {k : κ} (e : ¬ p.1 = k) : valV (p :: r) k = valV r k := by simp [valV, List.find?_cons, e]
theorem valV_any (k : κ) : ∀ kvs : List (κ × V), (kvs.any fun kv => decide (kv.1 = k)) = (valV kvs k).isSome
  | [] => rfl
  | p :: r => by
    rw [List.any_cons]
    by_cases e : p.1 = k
    · simp only [valV_pos e, decide_eq_true e, Bool.true_or, Option.isSome_some]
    · rw [valV_neg e, decide_eq_false e, Bool.false_or]; exact valV_any k r
theorem valV_map (k j : κ) (y : V) : ∀ kvs : List (κ × V), valV (kvs.map fun kv => if kv.1 = k then (kv.1, y) else kv) j = (valV kvs j).map fun x => if j = k then y else x
  | [] => rfl
  | p :: r => by
    have ih := valV_map k j y r
    rw [List.map_cons]
    by_cases h : p.1 = k
    · rw [if_pos h]
      by_cases e : p.1 = j
      · rw [valV_pos (p := (p.1, y)) e, valV_pos e, Option.map_some, if_pos (e.symm.trans h)]
      · rw [valV_neg (p := (p.1, y)) e, valV_neg e, ih]
    · rw [if_neg h]
      by_cases e : p.1 = j
      · rw [valV_pos (p := p) e, valV_pos e, Option.map_some, if_neg (fun z => h (e.trans z))]
      · rw [valV_neg (p := p) e, valV_neg e, ih]
theorem valV_snoc (k j : κ) (y : V) : ∀ kvs : List (κ × V), valV kvs k = none → valV (kvs ++ [(k, y)]) j = if j = k then some y else valV kvs j
  | [], _ => by
    by_cases e : k = j
    · rw [if_pos e.symm]; exact valV_pos (p := (k, y)) e
    · rw [if_neg (fun z => e z.symm)]; exact valV_neg (p := (k, y)) e
  | p :: r, hn => by
    rw [List.cons_append]
    have hk : ¬ p.1 = k := fun z => by rw [valV_pos z] at hn; cases hn
    rw [valV_neg hk] at hn
    have ih := valV_snoc k j y r hn
    by_cases e : p.1 = j
    · rw [valV_pos e, valV_pos e, if_neg (fun z => hk (e.trans z))]
    · rw [valV_neg e, valV_neg e, ih]
theorem valV_put (kvs : List (κ × V)) (k j : κ) (y : V) : valV (putK kvs k y) j = if j = k then some y else valV kvs j := by
  unfold putK
  by_cases a : (kvs.any fun kv => decide (kv.1 = k)) = true
  · rw [if_pos a, valV_map]
    rw [valV_any] at a
    by_cases e : j = k
    · obtain ⟨x, hx⟩ := Option.isSome_iff_exists.mp a
      rw [if_pos e, e, hx, Option.map_some, if_pos rfl]
    · rw [if_neg e]
      cases valV kvs j with
      | none => rfl
      | some x => rw [Option.map_some, if_neg e]
  · rw [if_neg a]
    refine valV_snoc k j y kvs ?_
    rw [valV_any] at a
    cases q : valV kvs k with
    | none => rfl
    | some x => rw [q] at a; exact (a rfl).elim
theorem length_putK (kvs : List (κ × V)) (k : κ) (v : V) : (putK kvs k v).length ≤ kvs.length + 1 := by
  unfold putK
  split
  · rw [List.length_map]; omega
  · rw [List.length_append, List.length_cons, List.length_nil]; omega
theorem putK_new {kvs : List (κ × V)} {k : κ} (v : V) (h : valV kvs k = none) : putK kvs k v = kvs ++ [(k, v)] := by
  unfold putK
  rw [valV_any, h]
  exact if_neg (by decide)

theorem RelO.isSome_eq {o : Option V} {u : Option Value} (r : RelO o u) : o.isSome = u.isSome := by
  cases o with
  | none => cases u with
    | none => rfl
    | some _ => exact (show False from r).elim
  | some _ => cases u with
    | none => exact (show False from r).elim
    | some _ => rfl
theorem RelO.getD {o : Option V} {u : Option Value} {d : V} {d' : Value} (r : RelO o u) (rd : RelV d d') : RelV (o.getD d) (u.getD d') := by
  cases o with
  | none => cases u with
    | none => exact rd
    | some _ => exact (show False from r).elim
  | some _ => cases u with
    | none => exact (show False from r).elim
    | some _ => exact r

/-- raw tables of the same keys -/
theorem KV.val {kvs : List (κ × V)} {vs : List (κ × Value)} (r : KV kvs vs) (k : κ) : RelO (valV kvs k) (valueAt vs k) := by
  unfold KV at r
  induction r with
  | nil => exact True.intro
  | @cons p q ps qs h t ih =>
    obtain ⟨h1, h2⟩ := h
    by_cases e : p.1 = k
    · have e' : q.1 = k := h1.symm.trans e
      have b : valueAt (q :: qs) k = some q.2 := by simp [valueAt, List.find?_cons, e']
      rw [valV_pos e, b]; exact h2
    · have e' : ¬ q.1 = k := fun z => e (h1.trans z)
      have b : valueAt (q :: qs) k = valueAt qs k := by simp [valueAt, List.find?_cons, e']
      rw [valV_neg e, b]; exact ih
theorem KV.any {kvs : List (κ × V)} {vs : List (κ × Value)} (r : KV kvs vs) (k : κ) : (kvs.any fun kv => decide (kv.1 = k)) = vs.any fun kv => decide (kv.1 = k) := by
  unfold KV at r
  induction r with
  | nil => rfl
  | cons h t ih => rw [List.any_cons, List.any_cons, ih, h.1]
theorem KV.repl {kvs : List (κ × V)} {vs : List (κ × Value)} (r : KV kvs vs) (k : κ) {y : V} {u : Value} (ry : RelV y u) :
    KV (kvs.map fun kv => if kv.1 = k then (kv.1, y) else kv) (vs.map fun kv => if kv.1 = k then (kv.1, u) else kv) := by
  unfold KV at r ⊢
  induction r with
  | nil => exact .nil
  | @cons p q ps qs h t ih =>
    rw [List.map_cons, List.map_cons]
    refine .cons ?_ ih
    obtain ⟨h1, h2⟩ := h
    by_cases e : p.1 = k
    · rw [if_pos e, if_pos (h1.symm.trans e)]; exact ⟨h1, ry⟩
    · rw [if_neg e, if_neg (fun z => e (h1.trans z))]; exact ⟨h1, h2⟩
theorem KV.put {kvs : List (κ × V)} {vs : List (κ × Value)} (r : KV kvs vs) (k : κ) {y : V} {u : Value} (ry : RelV y u) : KV (putK kvs k y) (stored vs k u) := by
  unfold putK stored
  rw [r.any k]
  by_cases e : (vs.any fun kv => decide (kv.1 = k)) = true
  · rw [if_pos e, if_pos e]; exact r.repl k ry
  · rw [if_neg e, if_neg e]; exact Paired.snoc r ⟨rfl, ry⟩
theorem KV.drop {kvs : List (κ × V)} {vs : List (κ × Value)} (r : KV kvs vs) (k : κ) : KV (dropK kvs k) (without vs k) := by
  unfold KV at r ⊢
  unfold dropK without
  induction r with
  | nil => exact .nil
  | @cons p q ps qs h t ih =>
    obtain ⟨h1, h2⟩ := h
    rw [List.filter_cons, List.filter_cons]
    by_cases e : p.1 = k
    · have a : ¬ decide (p.1 ≠ k) = true := by simp [e]
      have b : ¬ decide (q.1 ≠ k) = true := by simp [h1.symm.trans e]
      rw [if_neg a, if_neg b]; exact ih
    · have e' : ¬ q.1 = k := fun z => e (h1.trans z)
      have a : decide (p.1 ≠ k) = true := by simp [e]
      have b : decide (q.1 ≠ k) = true := by simp [e']
      rw [if_pos a, if_pos b]; exact .cons ⟨h1, h2⟩ ih
theorem KV.keys {kvs : List (κ × V)} {vs : List (κ × Value)} (r : KV kvs vs) : kvs.map (·.1) = vs.map (·.1) := by
  unfold KV at r
  induction r with
  | nil => rfl
  | cons h t ih => rw [List.map_cons, List.map_cons, ih, h.1]
theorem KV.length {kvs : List (κ × V)} {vs : List (κ × Value)} (r : KV kvs vs) : kvs.length = vs.length := Paired.length r
theorem dropK_le (kvs : List (κ × V)) (k : κ) : (dropK kvs k).length ≤ kvs.length := List.length_filter_le _ _
end


/-! ### a tracked dict, its keys ints and texts or tuples of these -/
theorem kV_is {P : Program} {w : World} {k : Key} {u : Value} (r : RelV (kV k) u) : (mixKind P w).is k u = true := by
  cases k with
  | inl i => obtain ⟨t, e⟩ := (show ∃ t, u = Value.int i t from r); subst e; exact mixKind_int P w i t
  | inr x => obtain ⟨t, e⟩ := (show ∃ t, u = Value.str x t from r); subst e; exact mixKind_str P w x t
theorem kV_inj {a b : Key} (e : kV a = kV b) : a = b := by
  cases a with
  | inl i => cases b with
    | inl j => have e' : V.int i = V.int j := e; injection e' with e'; rw [e']
    | inr y => exact nomatch (show V.int i = V.str y from e)
  | inr x => cases b with
    | inl j => exact nomatch (show V.str x = V.int j from e)
    | inr y => have e' : V.str x = V.str y := e; injection e' with e'; rw [e']
theorem kVs_inj : ∀ {a b : List Key}, a.map kV = b.map kV → a = b
  | [], [], _ => rfl
  | [], _ :: _, e => by simp at e
  | _ :: _, [], e => by simp at e
  | x :: xs, y :: ys, e => by
    rw [List.map_cons, List.map_cons] at e
    injection e with e1 e2
    rw [kV_inj e1, kVs_inj e2]
theorem items_are {P : Program} {w : World} : ∀ {ks : List Key} {us : List Value}, Vals (ks.map kV) us → ItemsAre (mixKind P w) ks us
  | [], _, r => by rw [List.map_nil] at r; cases r; exact .nil
  | k :: ks, _, r => by
    rw [List.map_cons] at r
    cases r with
    | cons h t => exact .cons (kV_is h) (items_are t)

/-- raw entries of a dict with tuple keys -/
abbrev KT (H : Hp) : List (List Key × V) → List (List Key × Addr × Value) → Prop := Paired fun p q => p.1 = q.1 ∧ H q.2.1 = some (.tup (p.1.map kV)) ∧ RelV p.2 q.2.2
theorem KT.val {H : Hp} {kvs : List (List Key × V)} {xs : List (List Key × Addr × Value)} (r : KT H kvs xs) (k : List Key) : RelO (valV kvs k) ((atKey xs k).map (·.2)) := by
  induction r with
  | nil => exact True.intro
  | @cons p q ps qs h t ih =>
    obtain ⟨h1, _, h2⟩ := h
    by_cases e : p.1 = k
    · have e' : q.1 = k := h1.symm.trans e
      have b : atKey (q :: qs) k = some q.2 := by simp [atKey, List.find?_cons, e']
      rw [valV_pos e, b]; exact h2
    · have e' : ¬ q.1 = k := fun z => e (h1.trans z)
      have b : atKey (q :: qs) k = atKey qs k := by simp [atKey, List.find?_cons, e']
      rw [valV_neg e, b]; exact ih
theorem KT.repl {H : Hp} {kvs : List (List Key × V)} {xs : List (List Key × Addr × Value)} (r : KT H kvs xs) (k : List Key) {y : V} {u : Value} (ry : RelV y u) :
    KT H (kvs.map fun kv => if kv.1 = k then (kv.1, y) else kv) (xs.map (putAt k u)) := by
  induction r with
  | nil => exact .nil
  | @cons p q ps qs h t ih =>
    rw [List.map_cons, List.map_cons]
    refine .cons ?_ ih
    obtain ⟨h1, h2, h3⟩ := h
    unfold putAt
    by_cases e : p.1 = k
    · rw [if_pos e, if_pos (h1.symm.trans e)]; exact ⟨h1, h2, ry⟩
    · rw [if_neg e, if_neg (fun z => e (h1.trans z))]; exact ⟨h1, h2, h3⟩
theorem KT.put {H : Hp} {kvs : List (List Key × V)} {xs : List (List Key × Addr × Value)} (r : KT H kvs xs) (k : List Key) {b : Addr} {y : V} {u : Value} (hb : H b = some (.tup (k.map kV))) (ry : RelV y u) :
    KT H (putK kvs k y) (storedH xs k b u) := by
  have e : (kvs.any fun kv => decide (kv.1 = k)) = (atKey xs k).isSome := by
    rw [valV_any, (r.val k).isSome_eq, Option.isSome_map]
  unfold putK storedH
  rw [e]
  by_cases q : (atKey xs k).isSome = true
  · rw [if_pos q, if_pos q]; exact r.repl k ry
  · rw [if_neg q, if_neg q]; exact Paired.snoc r ⟨rfl, hb, ry⟩
theorem KT.keeps {H H' : Hp} {kvs : List (List Key × V)} {xs : List (List Key × Addr × Value)} (r : KT H kvs xs) (ht : ∀ b ys, H b = some (.tup ys) → H' b = some (.tup ys)) : KT H' kvs xs :=
  Paired.mapP r fun _ _ z => ⟨z.1, ht _ _ z.2.1, z.2.2⟩

section
variable {P : Program} {w : World} {H : Hp} {h : Heap} {a : Addr}
theorem rd_of {u : HO} (ok : HOk P w H h) (e : Rd H a u) : ObjOk P w H h a u := e.ok ok
theorem dk_rd {kvs : List (Key × V)} (ok : HOk P w H h) (e : Rd H a (.dK kvs)) : kvs.length ≤ sizeLine ∧ (a == sysModules) = false ∧ ∃ vs, KV kvs vs ∧ h.DictOf (mixKind P w) a vs :=
  show ObjOk P w H h a (.dK kvs) from rd_of ok e
theorem dk_of {kvs : List (Key × V)} (ok : HOk P w H h) (e : H a = some (.dK kvs)) : kvs.length ≤ sizeLine ∧ (a == sysModules) = false ∧ ∃ vs, KV kvs vs ∧ h.DictOf (mixKind P w) a vs := dk_rd ok (.inl e)
/-- a tracked tuple of ints and texts is a key -/
theorem key_of {ks : List Key} (ok : HOk P w H h) (e : H a = some (.tup (ks.map kV))) : (tupleKind (mixKind P w)).is h ks a := by
  obtain ⟨_, its, r, o, h1, h2, n, h3⟩ := (show ObjOk P w H h a (.tup (ks.map kV)) from ok a _ e)
  exact ⟨o, its.toArray, n, h1, h2, h3, by simpa using items_are r⟩
theorem dt_rd {kvs : List (List Key × V)} (ok : HOk P w H h) (e : Rd H a (.dT kvs)) : kvs.length ≤ sizeLine ∧ (a == sysModules) = false ∧
    ∃ xs, KT H kvs xs ∧ h.DictOfH (tupleKind (mixKind P w)) a xs := by
  obtain ⟨z, y, xs, r, o, es, ep, h1, h2, h3, h4, h5⟩ := (show ObjOk P w H h a (.dT kvs) from rd_of ok e)
  refine ⟨z, y, xs, r, o, es, ep, h1, h2, h3, h4, fun x hx => ?_, h5⟩
  have all : ∀ {l : List (List Key × V)} {m : List (List Key × Addr × Value)}, KT H l m → ∀ x ∈ m, (tupleKind (mixKind P w)).is h x.1 x.2.1 := by
    intro l m q
    induction q with
    | nil => intro x hx; exact nomatch hx
    | @cons p q ps qs hq t ih =>
      intro x hx
      rcases List.mem_cons.mp hx with e | hx
      · subst e
        exact key_of ok (by rw [← hq.1]; exact hq.2.1)
      · exact ih x hx
  exact all r x hx
theorem dt_of {kvs : List (List Key × V)} (ok : HOk P w H h) (e : H a = some (.dT kvs)) : kvs.length ≤ sizeLine ∧ (a == sysModules) = false ∧
    ∃ xs, KT H kvs xs ∧ h.DictOfH (tupleKind (mixKind P w)) a xs := dt_rd ok (.inl e)
end

/-- what the dict at a holds at the key y -/
def DGet (H : Hp) (a : Addr) (y : V) (r : Option V) : Prop :=
  (∃ kvs k, Rd H a (.dK kvs) ∧ y = kV k ∧ r = valV kvs k) ∨ ∃ kvs k b, Rd H a (.dT kvs) ∧ y = .ref b ∧ H b = some (.tup (k.map kV)) ∧ r = valV kvs k
/-- the heap behind a[y] = v -/
def DPut (H : Hp) (a : Addr) (y v : V) (H' : Hp) : Prop :=
  (∃ kvs k, H a = some (.dK kvs) ∧ y = kV k ∧ kvs.length < sizeLine ∧ H' = upd H a (.dK (putK kvs k v))) ∨
  ∃ kvs k b, H a = some (.dT kvs) ∧ y = .ref b ∧ H b = some (.tup (k.map kV)) ∧ kvs.length < sizeLine ∧ H' = upd H a (.dT (putK kvs k v))
theorem DGet.k {H : Hp} {a : Addr} {kvs : List (Key × V)} {k : Key} (e : H a = some (.dK kvs)) : DGet H a (kV k) (valV kvs k) := .inl ⟨kvs, k, .inl e, rfl, rfl⟩
theorem DGet.t {H : Hp} {a b : Addr} {kvs : List (List Key × V)} {k : List Key} (e : H a = some (.dT kvs)) (eb : H b = some (.tup (k.map kV))) : DGet H a (.ref b) (valV kvs k) := .inr ⟨kvs, k, b, .inl e, rfl, eb, rfl⟩
theorem DPut.k {H : Hp} {a : Addr} {kvs : List (Key × V)} {k : Key} {v : V} (e : H a = some (.dK kvs)) (hl : kvs.length < sizeLine) : DPut H a (kV k) v (upd H a (.dK (putK kvs k v))) := .inl ⟨kvs, k, e, rfl, hl, rfl⟩
theorem DPut.t {H : Hp} {a b : Addr} {kvs : List (List Key × V)} {k : List Key} {v : V} (e : H a = some (.dT kvs)) (eb : H b = some (.tup (k.map kV))) (hl : kvs.length < sizeLine) :
    DPut H a (.ref b) v (upd H a (.dT (putK kvs k v))) := .inr ⟨kvs, k, b, e, rfl, eb, hl, rfl⟩


section
variable {X : Cx} {pins : List (Addr × Obj)} {σ : St} {H : Hp} {s : Shared} {a : Addr} {y v : V} {u r : Value} {o : Option V} {A : Around} {E : Value → Shared → Prop}

theorem Inv.big (I : Inv X pins σ H s) : sysModules < s.heap.objs.size := by
  have h : mainGlobals < s.heap.objs.size := (I.mod.glob.keeps I.bk).lt
  exact Nat.lt_trans (by decide) h

/-- d[y], there -/
theorem d_getItem {Q : Value → Shared → Prop} (hu : A.units + 1 < cLine) (I : Inv X pins σ H s) (g : DGet H a y (some v)) (ry : RelV y u) (h : ∀ w' s', Inv X pins σ H s' → RelV v w' → Q w' s') :
    wpAny (model X.prog X.w) A (getItem (.ref a) u) Q E s := by
  rcases g with ⟨kvs, k, e, ey, l⟩ | ⟨kvs, k, b, e, ey, eb, l⟩
  · subst ey
    obtain ⟨z, hd, vs, rel, dd⟩ := dk_rd I.hok e
    obtain ⟨w', hw, rw'⟩ := RelO.some_of (v := v) (o := valueAt vs k) (by rw [l]; exact rel.val k)
    exact wpAny_getItem_of (kV_is ry) dd.mapOf hw (h w' _ (I.tok _) rw')
  · subst ey
    cases (show u = Value.ref b from ry)
    obtain ⟨z, hd, xs, rel, dd⟩ := dt_rd I.hok e
    obtain ⟨w', hw, rw'⟩ := RelO.some_of (v := v) (o := (atKey xs k).map (·.2)) (by rw [l]; exact rel.val k)
    obtain ⟨p, hp, hp2⟩ := Option.map_eq_some_iff.mp hw
    refine wpAny_getItem_heap (tupleKind_room_in1 hu) (key_of I.hok eb) dd hp ?_
    rw [hp2]
    exact h w' _ (I.tok _) rw'
/-- y in d -/
theorem d_in {Q : Value → Shared → Prop} (hu : A.units + 1 < cLine) (I : Inv X pins σ H s) (g : DGet H a y o) (ry : RelV y u) (h : ∀ s', Inv X pins σ H s' → Q (.bool o.isSome) s') :
    wpAny (model X.prog X.w) A (compareOp .In u (.ref a)) Q E s := by
  rcases g with ⟨kvs, k, e, ey, l⟩ | ⟨kvs, k, b, e, ey, eb, l⟩
  · subst ey
    obtain ⟨z, hd, vs, rel, dd⟩ := dk_rd I.hok e
    refine wpAny_in_of (kV_is ry) hd dd.mapOf ?_
    rw [← (rel.val k).isSome_eq, ← l]
    exact h _ (I.tok _)
  · subst ey
    cases (show u = Value.ref b from ry)
    obtain ⟨z, hd, xs, rel, dd⟩ := dt_rd I.hok e
    refine wpAny_in_heap (tupleKind_room_in1 hu) (key_of I.hok eb) hd dd ?_
    have q := (rel.val k).isSome_eq
    rw [Option.isSome_map] at q
    rw [← q, ← l]
    exact h _ (I.tok _)
theorem d_notIn {Q : Value → Shared → Prop} (hu : A.units + 1 < cLine) (I : Inv X pins σ H s) (g : DGet H a y o) (ry : RelV y u) (h : ∀ s', Inv X pins σ H s' → Q (.bool (!o.isSome)) s') :
    wpAny (model X.prog X.w) A (compareOp .NotIn u (.ref a)) Q E s := by
  rcases g with ⟨kvs, k, e, ey, l⟩ | ⟨kvs, k, b, e, ey, eb, l⟩
  · subst ey
    obtain ⟨z, hd, vs, rel, dd⟩ := dk_rd I.hok e
    refine wpAny_notIn_of (kV_is ry) hd dd.mapOf ?_
    rw [← (rel.val k).isSome_eq, ← l]
    exact h _ (I.tok _)
  · subst ey
    cases (show u = Value.ref b from ry)
    obtain ⟨z, hd, xs, rel, dd⟩ := dt_rd I.hok e
    refine wpAny_notIn_heap (tupleKind_room_in1 hu) (key_of I.hok eb) hd dd ?_
    have q := (rel.val k).isSome_eq
    rw [Option.isSome_map] at q
    rw [← q, ← l]
    exact h _ (I.tok _)
/-- a dict's object is replaced -/
theorem d_write {h' : Heap} {t' : Nat} {ob : HO} (I : Inv X pins σ H s) (mu : Mut (H a)) (hs : Heap.SameBut a s.heap h') (he : ∃ q, h'.get? a = some q) (new : ObjOk X.prog X.w (upd H a ob) h' a ob) :
    Inv X pins σ (upd H a ob) { s with heap := h', toks := t' } :=
  I.write (x := a) (e := a) mu (.inl rfl) (fun b q hb z => (hs.2 b hb).trans z) he new
theorem dk_new {P : Program} {w : World} {H' : Hp} {h' : Heap} {kvs : List (Key × V)} {vs : List (Key × Value)} (z : kvs.length ≤ sizeLine) (hd : (a == sysModules) = false) (rel : KV kvs vs) (dd : h'.DictOf (mixKind P w) a vs) :
    ObjOk P w H' h' a (.dK kvs) := ⟨z, hd, vs, rel, dd⟩
/-- d[y] = v -/
theorem d_setItem {H' : Hp} {Q : Unit → Shared → Prop} (hu : A.units + 1 < cLine) (I : Inv X pins σ H s) (g : DPut H a y v H') (ry : RelV y u) (rv : RelV v r) (h : ∀ s', Inv X pins σ H' s' → Q () s') :
    wpAny (model X.prog X.w) A (setItem (.ref a) u r) Q E s := by
  rcases g with ⟨kvs, k, e, ey, l, eH⟩ | ⟨kvs, k, b, e, ey, eb, l, eH⟩
  · subst ey eH
    obtain ⟨z, hd, vs, rel, dd⟩ := dk_of I.hok e
    have hz : vs.length ≤ sizeLine := by rw [← rel.length]; exact z
    have hl : (putK kvs k v).length ≤ sizeLine := by have := length_putK kvs k v; omega
    refine wpAny_setItem_pairs (hsz := hz) (kV_is ry) dd fun h' dd' hs => h _ ?_
    have he : ∃ q, h'.get? a = some q := let ⟨q, _, _, hq, _⟩ := dd'; ⟨q, hq⟩
    exact d_write I (by rw [e]; exact True.intro) hs he (dk_new hl hd (rel.put k rv) dd')
  · subst ey eH
    cases (show u = Value.ref b from ry)
    obtain ⟨z, hd, xs, rel, dd⟩ := dt_of I.hok e
    have hz : xs.length ≤ sizeLine := by rw [← Paired.length rel]; exact z
    have hl : (putK kvs k v).length ≤ sizeLine := by have := length_putK kvs k v; omega
    refine wpAny_setItem_heap (hsz := hz) (tupleKind_room_in1 hu) (key_of I.hok eb) dd fun h' dd' hs => h _ ?_
    obtain ⟨q, es, ep, hq, h2, h3, h4, _, h5⟩ := dd'
    refine d_write I (by rw [e]; exact True.intro) hs ⟨q, hq⟩ ⟨hl, hd, _, (rel.put k eb rv).keeps fun c ys ec => ?_, q, es, ep, hq, h2, h3, h4, h5⟩
    rw [upd_ne (ne_of ec e (fun z => nomatch z))]
    exact ec
end

section
variable {X : Cx} {pins : List (Addr × Obj)} {σ : St} {H : Hp} {s : Shared} {a : Addr} {kvs : List (Key × V)} {k : Key} {u : Value} {A : Around} {E : Value → Shared → Prop}
/-- del d[k] -/
theorem d_delItem {Q : Unit → Shared → Prop} (I : Inv X pins σ H s) (e : H a = some (.dK kvs)) (ry : RelV (kV k) u) (l : (valV kvs k).isSome = true) (h : ∀ s', Inv X pins σ (upd H a (.dK (dropK kvs k))) s' → Q () s') :
    wpAny (model X.prog X.w) A (delItem (.ref a) u) Q E s := by
  obtain ⟨z, hd, vs, rel, dd⟩ := dk_of I.hok e
  refine wpAny_delItem_slot dd.typeIs (by decide) PySem.F.slot_dict_delitem
    (call_meetsIn PySem.F.slot_dict_delitem dd.typeIs PySem.F.entry_dict_delitem (PySem.F.args_dict_delitem_2 _ _) (meets_dict_delitem_pairs (mixKind X.prog X.w) a (kV_is ry)) ⟨vs, dd, by rw [← rel.length]; exact z, by rw [← (rel.val k).isSome_eq]; exact l, fun h' dd' hs => h _ ?_⟩)
  have he : ∃ q, h'.get? a = some q := let ⟨q, _, _, hq, _⟩ := dd'; ⟨q, hq⟩
  exact d_write I (by rw [e]; exact True.intro) hs he (dk_new (Nat.le_trans (dropK_le kvs k) z) hd (rel.drop k) dd')
/-- d.pop(k[, x]), there -/
theorem d_pop {v : V} {more : List Value} {Q : Value → Shared → Prop} (I : Inv X pins σ H s) (e : H a = some (.dK kvs)) (ry : RelV (kV k) u) (l : valV kvs k = some v) (hm : more = [] ∨ ∃ x, more = [x])
    (h : ∀ w' s', Inv X pins σ (upd H a (.dK (dropK kvs k))) s' → RelV v w' → Q w' s') : wpAny (model X.prog X.w) A (call (.builtin "dict.pop") (.ref a :: u :: more)) Q E s := by
  obtain ⟨z, hd, vs, rel, dd⟩ := dk_of I.hok e
  obtain ⟨w', hw, rw'⟩ := RelO.some_of (v := v) (o := valueAt vs k) (by rw [← l]; exact rel.val k)
  have hp : (keyPart u).isSome = true := by
    cases k with
    | inl i => obtain ⟨t, q⟩ := (show ∃ t, u = Value.int i t from ry); subst q; rfl
    | inr x => obtain ⟨t, q⟩ := (show ∃ t, u = Value.str x t from ry); subst q; rfl
  have ha : argsOk "dict.pop" ⟨.ref a :: u :: more, []⟩ := by
    rcases hm with q | ⟨x, q⟩
    · subst q; exact PySem.F.args_dict_pop_2 _ _
    · subst q; exact PySem.F.args_dict_pop_3 _ _ _
  refine call_meetsIn PySem.F.slot_dict_pop dd.typeIs PySem.F.entry_dict_pop ha (meets_dict_pop_there (mixKind X.prog X.w) a (kV_is ry) more hm hp)
    ⟨vs, w', dd, by rw [← rel.length]; exact z, hw, fun h' dd' hs => h w' _ ?_ rw'⟩
  have he : ∃ q, h'.get? a = some q := let ⟨q, _, _, hq, _⟩ := dd'; ⟨q, hq⟩
  exact d_write I (by rw [e]; exact True.intro) hs he (dk_new (Nat.le_trans (dropK_le kvs k) z) hd (rel.drop k) dd')
/-- d.pop(k, x), not there -/
theorem d_popD {r : Value} {Q : Value → Shared → Prop} (I : Inv X pins σ H s) (e : H a = some (.dK kvs)) (ry : RelV (kV k) u) (l : valV kvs k = none) (h : ∀ s', Inv X pins σ H s' → Q r s') :
    wpAny (model X.prog X.w) A (call (.builtin "dict.pop") [.ref a, u, r]) Q E s := by
  obtain ⟨z, hd, vs, rel, dd⟩ := dk_of I.hok e
  have hn : valueAt vs k = none := RelO.none_of (by rw [← l]; exact rel.val k)
  have hp : (keyPart u).isSome = true := by
    cases k with
    | inl i => obtain ⟨t, q⟩ := (show ∃ t, u = Value.int i t from ry); subst q; rfl
    | inr x => obtain ⟨t, q⟩ := (show ∃ t, u = Value.str x t from ry); subst q; rfl
  exact call_meetsIn PySem.F.slot_dict_pop dd.typeIs PySem.F.entry_dict_pop (PySem.F.args_dict_pop_3 _ _ _) (meets_dict_pop_default (mixKind X.prog X.w) a (kV_is ry) hd hp r) ⟨vs, dd, hn, h _ (I.tok _)⟩
/-- d.clear() -/
theorem d_clear {Q : Value → Shared → Prop} (I : Inv X pins σ H s) (e : H a = some (.dK kvs)) (h : ∀ s', Inv X pins σ (upd H a (.dK [])) s' → Q .none s') : wpAny (model X.prog X.w) A (call (.builtin "dict.clear") [.ref a]) Q E s := by
  obtain ⟨z, hd, vs, rel, dd⟩ := dk_of I.hok e
  refine call_meetsIn PySem.F.slot_dict_clear dd.typeIs PySem.F.entry_dict_clear (PySem.F.args_dict_clear_1 _) (meets_dict_clear (mixKind X.prog X.w) a) ⟨vs, dd, by rw [← rel.length]; exact z, fun h' dd' hs => h _ ?_⟩
  have he : ∃ q, h'.get? a = some q := let ⟨q, _, _, hq, _⟩ := dd'; ⟨q, hq⟩
  exact d_write (t' := s.toks) I (by rw [e]; exact True.intro) hs he (dk_new (Nat.zero_le _) hd .nil dd')
/-- len(d) -/
theorem d_len {Q : Value → Shared → Prop} (I : Inv X pins σ H s) (e : Rd H a (.dK kvs)) (h : ∀ t s', Inv X pins σ H s' → Q (.int kvs.length t) s') : wpAny (model X.prog X.w) A (call (.builtin "len") [.ref a]) Q E s := by
  obtain ⟨z, hd, vs, rel, dd⟩ := dk_rd I.hok e
  refine call_len_dict hd dd (by rw [← rel.length]; rw [sizeLine_eq] at z; omega) ?_
  rw [← rel.length]
  exact h _ _ (I.tok _)
/-- if d -/
theorem d_truth {Q : Bool → Shared → Prop} (I : Inv X pins σ H s) (e : Rd H a (.dK kvs)) (h : ∀ s', Inv X pins σ H s' → Q (!kvs.isEmpty) s') : wpAny (model X.prog X.w) A (truthy (.ref a)) Q E s := by
  obtain ⟨z, hd, vs, rel, dd⟩ := dk_rd I.hok e
  refine wpAny_truthy_dict hd dd (by rw [← rel.length]; rw [sizeLine_eq] at z; omega) ?_
  have q : kvs.isEmpty = vs.isEmpty := by cases rel <;> rfl
  rw [← q]
  exact h _ (I.tok _)
end


/-! ### readings and rules -/
/-- the element of a subscription, not a slice -/
def NoSl (i : Expr) : Prop := ∀ ov iv, subscripted i false ov iv = operate [ov, iv] (getItem ov iv)
theorem subD_of {prog : Program} {w : World} {A : Around} {E : Value → Shared → Prop} {s : Shared} {env : Env} {value slice : Expr} {pos : Pos} {T id : String} {Q : Value → Shared → Prop}
    (hl : typeLookup (.type T) "__getitem__" = pure (some (.builtin id))) (hs : NoSl slice)
    (h : wpAny (model prog w) A (eval value env) (fun o s₁ => wpAny (model prog w) A (eval slice env) (fun i s₂ => s₂.TypeIs o T ∧ wpAny (model prog w) A (getItem o i) Q E s₂) E s₁) E s) :
    wpAny (model prog w) A (eval (.Subscript value slice pos) env) Q E s := by
  refine Subscript_ (wpAny_mono h (fun o s₁ h₁ => wpAny_mono h₁ (fun i s₂ h₂ => ?_) fun _ _ x => x) fun _ _ x => x)
  obtain ⟨hT, h₂⟩ := h₂
  unfold subscriptTail
  refine wpAny_bind ?_
  rw [getitemInPython_of_ne hT.not_modules]
  refine wpAny_bind (wpAny_specialOf hT hl ?_)
  have fin : wpAny (model prog w) A (subscripted slice false o i) (fun r s₃ => wpAny (model prog w) A (letTemporaryGo value o r >>= fun _ => pure r) Q E s₃) E s₂ := by
    rw [hs o i]
    exact wpAny_operating (wpAny_mono h₂ (fun r s₃ h₃ => wpAny_bind (wpAny_letTemporaryGo (wpAny_pure h₃))) fun _ _ x => x)
  first
    | exact wpAny_pure (wpAny_bind fin)
    | exact wpAny_bind (wpAny_pure (wpAny_bind fin))
    | exact wpAny_bind fin

theorem dict_typeIs {X : Cx} {pins : List (Addr × Obj)} {σ : St} {H : Hp} {s : Shared} {a : Addr} {y : V} {o : Option V} (I : Inv X pins σ H s) (g : DGet H a y o) : s.TypeIs (.ref a) "dict" := by
  rcases g with ⟨kvs, k, e, _, _⟩ | ⟨kvs, k, b, e, _, _, _⟩
  · obtain ⟨_, _, vs, _, dd⟩ := dk_rd I.hok e
    exact dd.typeIs
  · obtain ⟨_, _, xs, _, dd⟩ := dt_rd I.hok e
    exact dd.typeIs
theorem dict_noDict {X : Cx} {pins : List (Addr × Obj)} {σ : St} {H : Hp} {s : Shared} {a : Addr} {y : V} {o : Option V} (I : Inv X pins σ H s) (g : DGet H a y o) :
    ∀ b, Value.ref a = .ref b → ∃ ob, s.heap.get? b = some ob ∧ ob.dict = none := fun b q => by
  cases q
  rcases g with ⟨kvs, k, e, _, _⟩ | ⟨kvs, k, b, e, _, _, _⟩
  · obtain ⟨_, _, vs, _, ob, _, _, h1, h2, _⟩ := dk_rd I.hok e
    exact ⟨ob, h1, h2.2.1⟩
  · obtain ⟨_, _, xs, _, ob, _, _, h1, h2, _⟩ := dt_rd I.hok e
    exact ⟨ob, h1, h2.2.1⟩

/-- d[y] -/
def tDGet (td ty : TE) : TE := fun σ H Q => td σ H fun x H1 => ty σ H1 fun y H2 => ∃ a v, x = .ref a ∧ DGet H2 a y (some v) ∧ Q v H2
/-- y in d, y not in d -/
def tDIn (ty td : TE) : TE := fun σ H Q => ty σ H fun y H1 => td σ H1 fun x H2 => ∃ a o, x = .ref a ∧ DGet H2 a y o ∧ Q (.bl o.isSome) H2
def tDNotIn (ty td : TE) : TE := fun σ H Q => ty σ H fun y H1 => td σ H1 fun x H2 => ∃ a o, x = .ref a ∧ DGet H2 a y o ∧ Q (.bl (!o.isSome)) H2
/-- d[y] = v -/
def sDPut (td ty tv : TE) : TS := fun D σ H => tv σ H fun v H1 => td σ H1 fun x H2 => ty σ H2 fun y H3 => ∃ a H4, x = .ref a ∧ DPut H3 a y v H4 ∧ D.nx σ H4
/-- d[y] op= v -/
def sDAug (td ty tv : TE) (rd : V → V → Hp → VK → Prop) : TS := fun D σ H => td σ H fun x H1 => ty σ H1 fun y H2 => ∃ a v, x = .ref a ∧ DGet H2 a y (some v) ∧
  tv σ H2 fun y2 H3 => rd v y2 H3 fun z H4 => ∃ H5, DPut H4 a y z H5 ∧ D.nx σ H5
/-- del d[y] -/
def sDDel (td ty : TE) : TS := fun D σ H => td σ H fun x H1 => ty σ H1 fun y H2 => ∃ a kvs k, x = .ref a ∧ H2 a = some (.dK kvs) ∧ y = kV k ∧ (valV kvs k).isSome = true ∧ D.nx σ (upd H2 a (.dK (dropK kvs k)))

section
variable {X : Cx} {o i e value : Expr} {pos pos' tpos : Pos} {td ty tv : TE}
theorem pe_dget (hu : X.A.units + 1 < cLine) (ho : PE X o td) (hi : PE X i ty) (hs : NoSl i) : PE X (.Subscript o i pos) (tDGet td ty) := by
  intro pins s σ H Q I h
  refine subD_of PySem.F.slot_dict_getitem.lookup hs (thn (ho pins s σ H _ I h) fun u s1 ⟨x, H1, I1, rx, q1⟩ => thn (hi pins s1 σ H1 _ I1 q1) fun iv s2 ⟨y, H2, I2, ry, a, v, ex, g, q2⟩ => ?_)
  subst ex
  obtain rfl : u = Value.ref a := rx
  exact ⟨dict_typeIs I2 g, d_getItem hu I2 g ry fun w' s3 I3 rw' => ⟨v, H2, I3, rw', q2⟩⟩
theorem pc_din (hu : X.A.units + 1 < cLine) (hi : PE X i ty) (ho : PE X o td) : PC X .In i o (tDIn ty td) := by
  intro pins s σ H Q I h
  refine thn (hi pins s σ H _ I h) fun iv s1 ⟨y, H1, I1, ry, q1⟩ => thn (ho pins s1 σ H1 _ I1 q1) fun u s2 ⟨x, H2, I2, rx, a, ov, ex, g, q2⟩ => ?_
  subst ex
  obtain rfl : u = Value.ref a := rx
  exact d_in hu I2 g ry fun s3 I3 => ⟨.bl ov.isSome, H2, I3, rfl, q2⟩
theorem pc_dnotin (hu : X.A.units + 1 < cLine) (hi : PE X i ty) (ho : PE X o td) : PC X .NotIn i o (tDNotIn ty td) := by
  intro pins s σ H Q I h
  refine thn (hi pins s σ H _ I h) fun iv s1 ⟨y, H1, I1, ry, q1⟩ => thn (ho pins s1 σ H1 _ I1 q1) fun u s2 ⟨x, H2, I2, rx, a, ov, ex, g, q2⟩ => ?_
  subst ex
  obtain rfl : u = Value.ref a := rx
  exact d_notIn hu I2 g ry fun s3 I3 => ⟨.bl (!ov.isSome), H2, I3, rfl, q2⟩
theorem ps_dput (hu : X.A.units + 1 < cLine) (ho : PE X o td) (hi : PE X i ty) (hv : PE X value tv) (hs : swapsWith value (some (.Subscript o i pos')) pos.line X.env = pure false) :
    PS X (.Assign [.Subscript o i pos'] value pos) (sDPut td ty tv) := by
  intro pins s σ H D I h
  refine wpAny_Assign_Subscript (thn (hv pins s σ H _ I h) fun r s1 ⟨v, H1, I1, rv, q1⟩ => thn (ho pins s1 σ H1 _ I1 q1) fun u s2 ⟨x, H2, I2, rx, q2⟩ => thn (hi pins s2 σ H2 _ I2 q2) fun iv s3 ⟨y, H3, I3, ry, a, H4, ex, g, q3⟩ => ?_) hs
  subst ex
  obtain rfl : u = Value.ref a := rx
  exact d_setItem hu I3 g ry rv fun s4 I4 => ⟨σ, H4, I4, q3⟩
theorem ps_daug {op : Operator} {rd : V → V → Hp → VK → Prop} (hu : X.A.units + 1 < cLine) (ho : PE X o td) (hi : PE X i ty) (hv : PE X value tv) (hop : InOp X op rd)
    (ha : ∀ ov iv new, augStore i ov iv new = (do holding [new, ov, iv] (setItem ov iv new); release [new, ov, iv] []; pure .next)) : PS X (.AugAssign (.Subscript o i tpos) op value pos) (sDAug td ty tv rd) := by
  intro pins s σ H D I h
  refine wpAny_AugAssign_SubscriptAny (thn (ho pins s σ H _ I h) fun u s1 ⟨x, H1, I1, rx, q1⟩ => thn (hi pins s1 σ H1 _ I1 q1) fun iv s2 ⟨y, H2, I2, ry, a, v, ex, g, q2⟩ => ?_) ha
  subst ex
  obtain rfl : u = Value.ref a := rx
  refine d_getItem hu I2 g ry fun w' s3 I3 rw' => thn (hv pins s3 σ H2 _ I3 q2) fun w2 s4 ⟨y2, H3, I4, ry2, q3⟩ => thn (hop pins s4 σ H3 v y2 w' w2 _ I4 rw' ry2 q3) fun w3 s5 ⟨z, H4, I5, rz, H5, g5, q4⟩ => ?_
  exact d_setItem hu I5 g5 ry rz fun s6 I6 => ⟨σ, H5, I6, q4⟩
theorem ps_ddel (ho : PE X o td) (hi : PE X i ty) : PS X (.Delete [.Subscript o i tpos] pos) (sDDel td ty) := by
  intro pins s σ H D I h
  refine wpAny_Delete (wpAny_deleteEach_cons (wpAny_delete_Subscript (thn (ho pins s σ H _ I h) fun u s1 ⟨x, H1, I1, rx, q1⟩ => thn (hi pins s1 σ H1 _ I1 q1) fun iv s2 ⟨y, H2, I2, ry, a, kvs, k, ex, e, ey, l, q2⟩ => ?_)))
  subst ex ey
  obtain rfl : u = Value.ref a := rx
  exact d_delItem I2 e ry l fun s3 I3 => wpAny_deleteEach_nil ⟨σ, _, I3, q2⟩
end


/-! ### displays -/
theorem dk_empty {P : Program} {w : World} {H : Hp} (h : Heap) (hb : sysModules < h.objs.size) : ObjOk P w H (h.push { cls := .type "dict", data := .dict #[] }) h.objs.size (.dK []) :=
  ⟨Nat.zero_le _, beq_eq_false_iff_ne.mpr (Ne.symm (Nat.ne_of_lt hb)), [], .nil, Heap.DictOf.new h⟩
theorem dt_empty {P : Program} {w : World} {H : Hp} (h : Heap) (hb : sysModules < h.objs.size) : ObjOk P w H (h.push { cls := .type "dict", data := .dict #[] }) h.objs.size (.dT []) :=
  ⟨Nat.zero_le _, beq_eq_false_iff_ne.mpr (Ne.symm (Nat.ne_of_lt hb)), [], .nil, _, #[], 0, Heap.get?_push_size _ rfl, ⟨rfl, rfl, rfl⟩, rfl, rfl, List.nodup_nil⟩
/-- {}, to be a dict of the kind that is wanted -/
def tDNewK : TE := fun _ H Q => ∀ p, H p = none → Q (.ref p) (upd H p (.dK []))
def tDNewT : TE := fun _ H Q => ∀ p, H p = none → Q (.ref p) (upd H p (.dT []))
section
variable {X : Cx} {pos : Pos}
theorem pe_dnewK : PE X (.Dict [] [] pos) tDNewK := fun pins s σ H Q I h =>
  wpAny_Dict_empty ⟨.ref s.heap.objs.size, _, I.laid (a := s.heap.objs.size) (o := .dK []) (t' := s.toks) (fun _ _ q => Heap.get?_push_of_some _ q) (Nat.le_refl _) (dk_empty s.heap I.big), rfl, h _ (I.hok.fresh (Nat.le_refl _))⟩
theorem pe_dnewT : PE X (.Dict [] [] pos) tDNewT := fun pins s σ H Q I h =>
  wpAny_Dict_empty ⟨.ref s.heap.objs.size, _, I.laid (a := s.heap.objs.size) (o := .dT []) (t' := s.toks) (fun _ _ q => Heap.get?_push_of_some _ q) (Nat.le_refl _) (dt_empty s.heap I.big), rfl, h _ (I.hok.fresh (Nat.le_refl _))⟩
end

/-- the pairs of a display, from the left -/
def tPairs : List (TE × TE) → St → Hp → (List (V × V) → Hp → Prop) → Prop
  | [], _, H, Q => Q [] H
  | (tk, tv) :: r, σ, H, Q => tk σ H fun x H1 => tv σ H1 fun y H2 => tPairs r σ H2 fun ps H3 => Q ((x, y) :: ps) H3
abbrev VV : List (V × V) → List (Value × Value) → Prop := Paired fun p q => RelV p.1 q.1 ∧ RelV p.2 q.2
def PPs (X : Cx) (pos : Pos) (keys : List (Option Expr)) (values : List Expr) (trs : List (TE × TE)) : Prop :=
  ∀ (pins : List (Addr × Obj)) (s : Shared) (σ : St) (H : Hp) (Q : List (V × V) → Hp → Prop), Inv X pins σ H s → tPairs trs σ H Q →
    wpAny (model X.prog X.w) X.A (evalPairs (pairTrees keys values X.env pos)) (fun vs s' => ∃ ps H', Inv X pins σ H' s' ∧ VV ps vs ∧ Q ps H') X.xe s
theorem pps_nil {X : Cx} {pos : Pos} : PPs X pos [] [] [] := fun pins s σ H Q I h => pairTrees_nil_walk ⟨[], H, I, .nil, h⟩
theorem pps_cons {X : Cx} {pos : Pos} {k v : Expr} {ks : List (Option Expr)} {vs : List Expr} {tk tv : TE} {trs : List (TE × TE)} (hk : PE X k tk) (hv : PE X v tv) (hr : PPs X pos ks vs trs) :
    PPs X pos (some k :: ks) (v :: vs) ((tk, tv) :: trs) := fun pins s σ H Q I h =>
  pairTrees_cons_walk (thn (hk pins s σ H _ I h) fun u s1 ⟨x, H1, I1, rx, q1⟩ => thn (hv pins s1 σ H1 _ I1 q1) fun w2 s2 ⟨y, H2, I2, ry, q2⟩ =>
    thn (hr pins s2 σ H2 _ I2 q2) fun ws s3 ⟨ps, H3, I3, rel, q3⟩ => ⟨(x, y) :: ps, H3, I3, .cons ⟨rx, ry⟩ rel, q3⟩)

def mergeK (kvs more : List (Key × V)) : List (Key × V) := more.foldl (fun acc kv => putK acc kv.1 kv.2) kvs
theorem KV.merge : ∀ {more : List (Key × V)} {rs : List (Key × Value)} {kvs : List (Key × V)} {vs : List (Key × Value)}, KV more rs → KV kvs vs → KV (mergeK kvs more) (merged vs rs) := by
  intro more rs kvs vs r
  unfold KV at r
  induction r generalizing kvs vs with
  | nil => intro q; exact q
  | @cons p q ps qs h t ih =>
    intro r0
    have e : KV (putK kvs p.1 p.2) (stored vs q.1 q.2) := by
      have := r0.put p.1 h.2
      rw [← h.1]; exact this
    exact ih e
theorem length_mergeK : ∀ (more kvs : List (Key × V)), (mergeK kvs more).length ≤ kvs.length + more.length
  | [], kvs => by show kvs.length ≤ kvs.length + 0; omega
  | p :: r, kvs => by
    have h1 := length_mergeK r (putK kvs p.1 p.2)
    have h2 := length_putK kvs p.1 p.2
    show (mergeK (putK kvs p.1 p.2) r).length ≤ _
    rw [List.length_cons]; omega
theorem carries_of {P : Program} {w : World} : ∀ {kvs : List (Key × V)} {ws : List (Value × Value)}, VV (kvs.map fun kv => (kV kv.1, kv.2)) ws → ∃ rs, Carries (mixKind P w) ws rs ∧ KV kvs rs
  | [], _, r => by rw [List.map_nil] at r; cases r; exact ⟨[], True.intro, .nil⟩
  | p :: kvs, _, r => by
    rw [List.map_cons] at r
    cases r with
    | @cons a b as bs h t =>
      obtain ⟨rs, c, q⟩ := carries_of (P := P) (w := w) t
      obtain ⟨b1, b2⟩ := b
      exact ⟨(p.1, b2) :: rs, ⟨kV_is h.1, rfl, c⟩, .cons ⟨rfl, h.2⟩ q⟩
/-- {k: v, ..} with keys ints and texts; the new dict stands empty while the pairs are made -/
def tDisp (trs : List (TE × TE)) : TE := fun σ H Q => ∀ p, H p = none → tPairs trs σ (upd H p (.dK [])) fun ps H2 => H2 p = some (.dK []) ∧ ∃ kvs : List (Key × V), ps = kvs.map (fun kv => (kV kv.1, kv.2)) ∧ kvs.length ≤ 15 ∧ Q (.ref p) (upd H2 p (.dK (mergeK [] kvs)))
theorem pe_disp {X : Cx} {pos : Pos} {keys : List (Option Expr)} {values : List Expr} {trs : List (TE × TE)} (h : PPs X pos keys values trs) (hall : keys.all (·.isSome) = true) (hl : keys.length = values.length) (h0 : keys ≠ [])
    (h15 : keys.length ≤ 15) : PE X (.Dict keys values pos) (tDisp trs) := by
  intro pins s σ H Q I q
  have hn := I.hok.fresh (Nat.le_refl s.heap.objs.size)
  have I1 := I.laid (a := s.heap.objs.size) (o := .dK []) (h' := s.heap.push { cls := .type "dict", data := .dict #[] }) (t' := s.toks) (fun _ _ q => Heap.get?_push_of_some _ q) (Nat.le_refl _) (dk_empty s.heap I.big)
  refine wpAny_Dict_walk (knd := mixKind X.prog X.w) hall hl h0 h15 (thn (h pins _ σ _ _ I1 (q _ hn)) fun ws s2 ⟨ps, H2, I2, rel, e, kvs, ep, lk, q2⟩ => ?_)
  subst ep
  obtain ⟨rs, c, rk⟩ := carries_of (P := X.prog) (w := X.w) rel
  obtain ⟨z, hd, vs0, r0, dd⟩ := dk_of I2.hok e
  cases r0
  refine ⟨rs, c, dd, fun h' dd' hs => ⟨.ref s.heap.objs.size, _, ?_, rfl, q2⟩⟩
  have hz : (mergeK [] kvs).length ≤ sizeLine := by
    have h1 := length_mergeK kvs []
    rw [List.length_nil] at h1
    rw [sizeLine_eq]; omega
  have he : ∃ q, h'.get? s.heap.objs.size = some q := let ⟨q, _, _, hq, _⟩ := dd'; ⟨q, hq⟩
  exact d_write I2 (by rw [e]; exact True.intro) hs he (dk_new hz hd (rk.merge .nil) dd')


/-! ### methods -/
/-- a method call o.m(e) of a built-in, with one argument: what must be seen of the text -/
structure M1 (X : Cx) (o : Expr) (m : Str) (apos : Pos) (e : Expr) (cpos : Pos) : Prop where
  base : attributeBase o m X.env (eval o X.env) = eval o X.env
  few : ((backTo cpos (starEach [e] X.env)).all (fun x => !x.1) && (backToKw cpos (keywordEach [] X.env)).all (fun x => x.1.isSome)
    && decide (([e] : List Expr).length + ([] : List Keyword).length + (if ([] : List Keyword).isEmpty then 0 else 1) < 30)) = true
  line : (apos.endLine == cpos.line) = true
  trees : backTo cpos (starEach [e] X.env) = [(false, eval e X.env)]
structure M2 (X : Cx) (o : Expr) (m : Str) (apos : Pos) (e f : Expr) (cpos : Pos) : Prop where
  base : attributeBase o m X.env (eval o X.env) = eval o X.env
  few : ((backTo cpos (starEach [e, f] X.env)).all (fun x => !x.1) && (backToKw cpos (keywordEach [] X.env)).all (fun x => x.1.isSome)
    && decide (([e, f] : List Expr).length + ([] : List Keyword).length + (if ([] : List Keyword).isEmpty then 0 else 1) < 30)) = true
  line : (apos.endLine == cpos.line) = true
  trees : backTo cpos (starEach [e, f] X.env) = [(false, eval e X.env), (false, eval f X.env)]

/-- a is a dict, whatever its keys -/
def IsD (H : Hp) (a : Addr) : Prop := (∃ kvs, Rd H a (.dK kvs)) ∨ ∃ kvs, Rd H a (.dT kvs)
theorem isD_at {X : Cx} {pins : List (Addr × Obj)} {σ : St} {H : Hp} {s : Shared} {a : Addr} (I : Inv X pins σ H s) (d : IsD H a) :
    s.TypeIs (.ref a) "dict" ∧ (∀ b, Value.ref a = .ref b → ∃ ob, s.heap.get? b = some ob ∧ ob.dict = none) ∧ (a == sysModules) = false := by
  rcases d with ⟨kvs, e⟩ | ⟨kvs, e⟩
  · obtain ⟨_, hd, vs, _, dd⟩ := dk_rd I.hok e
    refine ⟨dd.typeIs, fun b q => ?_, hd⟩
    cases q
    obtain ⟨ob, _, _, h1, h2, _⟩ := dd
    exact ⟨ob, h1, h2.2.1⟩
  · obtain ⟨_, hd, xs, _, dd⟩ := dt_rd I.hok e
    refine ⟨dd.typeIs, fun b q => ?_, hd⟩
    cases q
    obtain ⟨ob, _, _, h1, h2, _⟩ := dd
    exact ⟨ob, h1, h2.2.1⟩

section
variable {X : Cx} {pins : List (Addr × Obj)} {σ : St} {H : Hp} {s : Shared} {a : Addr} {y d : V} {u r : Value} {o : Option V} {A : Around} {E : Value → Shared → Prop}
/-- d.get(y) -/
theorem d_get1 {Q : Value → Shared → Prop} (hu : A.units + 1 < cLine) (I : Inv X pins σ H s) (g : DGet H a y o) (ry : RelV y u) (h : ∀ w' s', Inv X pins σ H s' → RelV (o.getD .non) w' → Q w' s') :
    wpAny (model X.prog X.w) A (call (.builtin "dict.get") [.ref a, u]) Q E s := by
  rcases g with ⟨kvs, k, e, ey, l⟩ | ⟨kvs, k, b, e, ey, eb, l⟩
  · subst ey
    obtain ⟨z, hd, vs, rel, dd⟩ := dk_rd I.hok e
    refine call_meetsIn PySem.F.slot_dict_get dd.typeIs PySem.F.entry_dict_get (PySem.F.args_dict_get_2 _ _) (meets_dict_get (mixKind X.prog X.w) a (kV_is ry) hd) ⟨_, dd.mapOf, h _ _ (I.tok _) ?_⟩
    rw [l]
    exact (rel.val k).getD rfl
  · subst ey
    cases (show u = Value.ref b from ry)
    obtain ⟨z, hd, xs, rel, dd⟩ := dt_rd I.hok e
    refine call_meetsIn PySem.F.slot_dict_get dd.typeIs PySem.F.entry_dict_get (PySem.F.args_dict_get_2 _ _) (meetsH_dict_get (tupleKind (mixKind X.prog X.w)) a b hd) ⟨tupleKind_room_in1 hu, k, xs, key_of I.hok eb, dd, h _ _ (I.tok _) ?_⟩
    rw [l]
    exact (rel.val k).getD rfl
/-- d.get(y, x) -/
theorem d_get2 {Q : Value → Shared → Prop} (hu : A.units + 1 < cLine) (I : Inv X pins σ H s) (g : DGet H a y o) (ry : RelV y u) (rd : RelV d r) (h : ∀ w' s', Inv X pins σ H s' → RelV (o.getD d) w' → Q w' s') :
    wpAny (model X.prog X.w) A (call (.builtin "dict.get") [.ref a, u, r]) Q E s := by
  rcases g with ⟨kvs, k, e, ey, l⟩ | ⟨kvs, k, b, e, ey, eb, l⟩
  · subst ey
    obtain ⟨z, hd, vs, rel, dd⟩ := dk_rd I.hok e
    refine call_meetsIn PySem.F.slot_dict_get dd.typeIs PySem.F.entry_dict_get (PySem.F.args_dict_get_3 _ _ _) (meets_dict_get_default (mixKind X.prog X.w) a (kV_is ry) hd r) ⟨_, dd.mapOf, h _ _ (I.tok _) ?_⟩
    rw [l]
    exact (rel.val k).getD rd
  · subst ey
    cases (show u = Value.ref b from ry)
    obtain ⟨z, hd, xs, rel, dd⟩ := dt_rd I.hok e
    refine call_meetsIn PySem.F.slot_dict_get dd.typeIs PySem.F.entry_dict_get (PySem.F.args_dict_get_3 _ _ _) (meetsH_dict_get_default (tupleKind (mixKind X.prog X.w)) a b hd r) ⟨tupleKind_room_in1 hu, k, xs, key_of I.hok eb, dd, h _ _ (I.tok _) ?_⟩
    rw [l]
    exact (rel.val k).getD rd
end

def tDGet1 (td ty : TE) : TE := fun σ H Q => td σ H fun x H1 => ∃ a, x = .ref a ∧ IsD H1 a ∧ ty σ H1 fun y H2 => ∃ o, DGet H2 a y o ∧ Q (o.getD .non) H2
def tDGet2 (td ty tx : TE) : TE := fun σ H Q => td σ H fun x H1 => ∃ a, x = .ref a ∧ IsD H1 a ∧ ty σ H1 fun y H2 => tx σ H2 fun z H3 => ∃ o, DGet H3 a y o ∧ Q (o.getD z) H3
/-- d.pop(k): there; d.pop(k, x): there or not -/
def tDPop1 (td ty : TE) : TE := fun σ H Q => td σ H fun x H1 => ∃ a, x = .ref a ∧ IsD H1 a ∧ ty σ H1 fun y H2 => ∃ kvs k v, H2 a = some (.dK kvs) ∧ y = kV k ∧ valV kvs k = some v ∧ Q v (upd H2 a (.dK (dropK kvs k)))
def tDPop2 (td ty tx : TE) : TE := fun σ H Q => td σ H fun x H1 => ∃ a, x = .ref a ∧ IsD H1 a ∧ ty σ H1 fun y H2 => tx σ H2 fun z H3 => ∃ kvs k, H3 a = some (.dK kvs) ∧ y = kV k ∧
  (∀ v, valV kvs k = some v → Q v (upd H3 a (.dK (dropK kvs k)))) ∧ (valV kvs k = none → Q z H3)
section
variable {X : Cx} {o e f : Expr} {apos cpos : Pos} {td ty tx : TE}
theorem pe_dget1 (hu : X.A.units + 1 < cLine) (ho : PE X o td) (he : PE X e ty) (m : M1 X o "get" apos e cpos) : PE X (.Call (.Attribute o "get" apos) [e] [] cpos) (tDGet1 td ty) := by
  intro pins s σ H Q I h
  refine wpAny_Call_method m.base m.few m.line PySem.F.plainAttrs_dict PySem.F.slot_dict_get PySem.F.type_dict_get (thn (ho pins s σ H _ I h) fun u s1 ⟨x, H1, I1, rx, a, ex, d, q1⟩ => ?_)
  subst ex
  obtain rfl : u = Value.ref a := rx
  obtain ⟨t1, t2, _⟩ := isD_at I1 d
  refine ⟨t1, t2, ?_⟩
  rw [m.trees]
  refine Calls.callWith_builtin rfl (Calls.evalArgs_plain (Calls.spliced_cons (thn (he pins s1 σ H1 _ I1 q1) fun iv s2 ⟨y, H2, I2, ry, ov, g, q2⟩ => Calls.spliced_nil ?_)))
  exact d_get1 hu I2 g ry fun w' s3 I3 rw' => ⟨_, H2, I3, rw', q2⟩
theorem pe_dget2 (hu : X.A.units + 1 < cLine) (ho : PE X o td) (he : PE X e ty) (hf : PE X f tx) (m : M2 X o "get" apos e f cpos) : PE X (.Call (.Attribute o "get" apos) [e, f] [] cpos) (tDGet2 td ty tx) := by
  intro pins s σ H Q I h
  refine wpAny_Call_method m.base m.few m.line PySem.F.plainAttrs_dict PySem.F.slot_dict_get PySem.F.type_dict_get (thn (ho pins s σ H _ I h) fun u s1 ⟨x, H1, I1, rx, a, ex, d, q1⟩ => ?_)
  subst ex
  obtain rfl : u = Value.ref a := rx
  obtain ⟨t1, t2, _⟩ := isD_at I1 d
  refine ⟨t1, t2, ?_⟩
  rw [m.trees]
  refine Calls.callWith_builtin rfl (Calls.evalArgs_plain (Calls.spliced_cons (thn (he pins s1 σ H1 _ I1 q1) fun iv s2 ⟨y, H2, I2, ry, q2⟩ =>
    Calls.spliced_cons (thn (hf pins s2 σ H2 _ I2 q2) fun fv s3 ⟨z, H3, I3, rz, ov, g, q3⟩ => Calls.spliced_nil ?_))))
  exact d_get2 hu I3 g ry rz fun w' s4 I4 rw' => ⟨_, H3, I4, rw', q3⟩
theorem pe_dpop1 (ho : PE X o td) (he : PE X e ty) (m : M1 X o "pop" apos e cpos) : PE X (.Call (.Attribute o "pop" apos) [e] [] cpos) (tDPop1 td ty) := by
  intro pins s σ H Q I h
  refine wpAny_Call_method m.base m.few m.line PySem.F.plainAttrs_dict PySem.F.slot_dict_pop PySem.F.type_dict_pop (thn (ho pins s σ H _ I h) fun u s1 ⟨x, H1, I1, rx, a, ex, d, q1⟩ => ?_)
  subst ex
  obtain rfl : u = Value.ref a := rx
  obtain ⟨t1, t2, _⟩ := isD_at I1 d
  refine ⟨t1, t2, ?_⟩
  rw [m.trees]
  refine Calls.callWith_builtin rfl (Calls.evalArgs_plain (Calls.spliced_cons (thn (he pins s1 σ H1 _ I1 q1) fun iv s2 ⟨y, H2, I2, ry, kvs, k, v, ea, ey, l, q2⟩ => Calls.spliced_nil ?_)))
  subst ey
  exact d_pop I2 ea ry l (.inl rfl) fun w' s3 I3 rw' => ⟨v, _, I3, rw', q2⟩
theorem pe_dpop2 (ho : PE X o td) (he : PE X e ty) (hf : PE X f tx) (m : M2 X o "pop" apos e f cpos) : PE X (.Call (.Attribute o "pop" apos) [e, f] [] cpos) (tDPop2 td ty tx) := by
  intro pins s σ H Q I h
  refine wpAny_Call_method m.base m.few m.line PySem.F.plainAttrs_dict PySem.F.slot_dict_pop PySem.F.type_dict_pop (thn (ho pins s σ H _ I h) fun u s1 ⟨x, H1, I1, rx, a, ex, d, q1⟩ => ?_)
  subst ex
  obtain rfl : u = Value.ref a := rx
  obtain ⟨t1, t2, _⟩ := isD_at I1 d
  refine ⟨t1, t2, ?_⟩
  rw [m.trees]
  refine Calls.callWith_builtin rfl (Calls.evalArgs_plain (Calls.spliced_cons (thn (he pins s1 σ H1 _ I1 q1) fun iv s2 ⟨y, H2, I2, ry, q2⟩ =>
    Calls.spliced_cons (thn (hf pins s2 σ H2 _ I2 q2) fun fv s3 ⟨z, H3, I3, rz, kvs, k, ea, ey, q3, q4⟩ => Calls.spliced_nil ?_))))
  subst ey
  cases l : valV kvs k with
  | some v => exact d_pop I3 ea ry l (.inr ⟨fv, rfl⟩) fun w' s4 I4 rw' => ⟨v, _, I4, rw', q3 v l⟩
  | none => exact d_popD I3 ea ry l fun s4 I4 => ⟨z, H3, I4, rz, q4 l⟩
end

/-! ### dict(d): a copy -/
section
variable {X : Cx} {pins : List (Addr × Obj)} {σ : St} {H : Hp} {s : Shared} {a : Addr} {kvs : List (Key × V)} {A : Around} {E : Value → Shared → Prop}
theorem d_copyOf {Q : Value → Shared → Prop} (I : Inv X pins σ H s) (e : Rd H a (.dK kvs)) (h : ∀ p s', H p = none → Inv X pins σ (upd H p (.dK kvs)) s' → Q (.ref p) s') : wpAny (model X.prog X.w) A (call (.type "dict") [.ref a]) Q E s := by
  obtain ⟨z, hd, vs, rel, dd⟩ := dk_rd I.hok e
  refine kt_call_dict hd dd (by rw [← rel.length]; exact z) fun h' dd' hs => ?_
  refine h _ _ (I.hok.fresh (Nat.le_refl _)) (I.laid (a := s.heap.objs.size) (o := .dK kvs) (t' := s.toks) (fun b q hq => ?_) (Nat.le_refl _) (dk_new z (beq_eq_false_iff_ne.mpr (Ne.symm (Nat.ne_of_lt I.big))) rel dd'))
  exact (hs.2 b (Nat.ne_of_lt (Heap.lt_size hq))).trans (Heap.get?_push_of_some _ hq)
end


section
variable {X : Cx} {pins : List (Addr × Obj)} {σ : St} {H : Hp} {s : Shared} {a : Addr} {y : V} {u : Value} {A : Around} {E : Value → Shared → Prop}
/-- d[y], not there: a KeyError -/
theorem d_missing {Q : Value → Shared → Prop} (hu : A.units + 1 < cLine) (hh : A.handled = none) (I : Inv X pins σ H s) (g : DGet H a y none) (ry : RelV y u)
    (h : ∀ h' e t', Heap.NewExc s.heap h' e "KeyError" → E (.ref e) { s with heap := h', toks := t' }) : wpAny (model X.prog X.w) A (getItem (.ref a) u) Q E s := by
  rcases g with ⟨kvs, k, e, ey, l⟩ | ⟨kvs, k, b, e, ey, eb, l⟩
  · subst ey
    obtain ⟨z, hd, vs, rel, dd⟩ := dk_rd I.hok e
    have hn : valueAt vs k = none := RelO.none_of (by rw [l]; exact rel.val k)
    exact wpAny_getItem_missing_of (kV_is ry) hd hh dd.mapOf hn fun h' ex ne => h h' ex _ ne
  · subst ey
    cases (show u = Value.ref b from ry)
    obtain ⟨z, hd, xs, rel, dd⟩ := dt_rd I.hok e
    have hn : (atKey xs k).map (·.2) = none := RelO.none_of (by rw [l]; exact rel.val k)
    exact wpAny_getItem_missing_heap (tupleKind_room_in1 hu) (key_of I.hok eb) hd hh dd (Option.map_eq_none_iff.mp hn) fun h' ex ne => h h' ex _ ne
end
end L2

namespace L2
open PySem PySem.Spec PyProof.Rows

theorem list_keys_none : typeLookup (.type "list") "keys" = pure none := am_miss_of_fast (by first | decide +kernel | rfl)
theorem ud_entry : entryFor table "dict.update.loop" = some Builtin.«dict.update.loop» := entryFor_of_tree (by kernel_rfl)
theorem ud_plain : plainId "dict.update.loop" = true := by decide +kernel

section
variable {prog : Program} {w : World} {A : Around} {E : Value → Shared → Prop}
/-- a list has no attribute 'keys': an AttributeError is made, and forgotten -/
theorem miss_list {s : Shared} {a : Addr} {o : Obj} {xs : Array Value} {k : Nat} {Q : Option Value → Shared → Prop} (hx : s.heap.get? a = some o) (hc : o.cls = .type "list") (hdat : o.data = .seq xs k) (hd : o.dict = none) (hA : A.handled = none)
    (h : ∀ h' tk, (∀ b ob, s.heap.get? b = some ob → h'.get? b = some ob) → Q none { s with heap := h', toks := tk }) : wpAny (model prog w) A (getAttr? (.ref a) "keys") Q E s := by
  obtain ⟨c, dct, dat, sl⟩ := o
  simp only at hc hdat hd
  subst hc hdat hd
  obtain ⟨hp, g, d, tk, os⟩ := s
  have hT : ∀ tk', (⟨hp, g, d, tk', os⟩ : Shared).TypeIs (.ref a) "list" := fun _ => ⟨_, hx, rfl⟩
  have hmiss := list_keys_none
  have hname : (["__module__", "__name__", "__qualname__", "__doc__", "__annotations__"] : List Str).contains "keys" = false := by decide +kernel
  have hsz : ("keys" : Str).length + 100 ≤ sizeLine := by first | size_fits | decide +kernel
  have f1 := sub_AttributeError
  have f3 := PySem.F.slot_list_getattribute.lookup
  have f4 := PySem.F.slot_list_getattribute.bind (.ref a)
  have f5 := am_list_getattr_none
  unfold getAttr? getAttrBy? getAttrBy
  repeat (any_goals (first | assumption | exact hT _ | ((with_reducible show wpAny _ _ (call (Value.builtin "list.__getattribute__") _ _) _ _ _); refine call_meets PySem.F.slot_list_getattribute (hT _) am_entry_list_getattribute (PySem.F.args_list_getattribute_2 _ _) (meets_getattribute_miss_list a xs k sl "keys" _ hmiss hname hsz) ⟨hx, hA, fun h' tk' e hx' => ?_⟩) | wp_step))
  obtain ⟨t', u', he⟩ := hx'.there
  show wpAny _ _ (getattributeRaised _ _ _ _ _ _ _) _ _ _
  unfold getattributeRaised
  repeat (any_goals (first | assumption | wp_step))
  all_goals first | exact h _ _ hx'.keeps | (dsimp only; repeat (any_goals (first | assumption | exact h _ _ hx'.keeps | wp_step)))

/-- the walk over the pairs -/
theorem upd_loop {R : Result → Shared → Prop} {S I l : Addr} {items : Array Value} {res : Value} (hh : A.handled = none) (hlI : l ≠ I) (hSI : S ≠ I) (hSl : S ≠ l) :
    ∀ (rest : List (Key × Value)) (i : Nat) (acc : List (Key × Value)) (ix : Int) (t : Tok) (s : Shared), items.size = i + rest.length → acc.length + rest.length ≤ sizeLine →
      (∀ (j : Nat) (q : Key × Value), rest[j]? = some q → ∃ (b : Addr) (u : Value), items[i + j]? = some (.ref b) ∧ b ≠ S ∧ b ≠ I ∧ IsTup s.heap b #[u, q.2] ∧ keyIs q.1 u = true) →
      s.heap.IsListIter I l i → s.heap.IsList l items → s.heap.DictOf (mixKind prog w) S acc →
      (∀ h' tk, h'.DictOf (mixKind prog w) S (merged acc rest) → (∀ b o, b ≠ S → b ≠ I → s.heap.get? b = some o → h'.get? b = some o) → R (.ok (.ret res)) { s with heap := h', toks := tk }) →
      codeAny (model prog w) A (.builtin "dict.update.loop" ⟨[.ref S, .ref I, .int ix t, res], []⟩) R s
  | [], i, acc, ix, t, s, hsz, hln, ht, hit, hl, hm, hR => by
    refine codeAny_builtin ud_entry ?_
    rw [Around.under_plainId ud_plain _]
    show wpAny _ A.in1 (pyNext (.ref I) >>= _) _ _ s
    refine wpAny_bind (wpAny_pyNext_list_end (A := A.in1) hh hit hl (by first | exact Array.getElem?_eq_none (Nat.le_of_eq hsz) | (simp at hsz; simp; omega)) fun h' he => ?_)
    show wpAny _ A.in1 (Builtin.Dict.addKeywords S [] >>= _) _ _ _
    refine wpAny_bind (wpAny_pure (wpAny_pure ?_))
    exact hR h' s.toks (hm.extBut he hSI) fun b o _ hb e => he b o hb e
  | q :: rest, i, acc, ix, t, s, hsz, hln, ht, hit, hl, hm, hR => by
    obtain ⟨b, u, hb, hbS, hbI, htup, hk⟩ := ht 0 q rfl
    rw [List.length_cons] at hsz hln
    refine codeAny_builtin ud_entry ?_
    rw [Around.under_plainId ud_plain _]
    show wpAny _ A.in1 (pyNext (.ref I) >>= _) _ _ s
    refine wpAny_bind (wpAny_pyNext_list_item (x := .ref b) hit hl (by simpa using hb) fun h1 hit1 hs1 => ?_)
    have ht1 : IsTup h1 b #[u, q.2] := htup.extBut hs1.extBut hbI
    have hl1 : h1.IsList l items := hl.extBut hs1.extBut hlI
    have hm1 : h1.DictOf (mixKind prog w) S acc := hm.extBut hs1.extBut hSI
    obtain ⟨o, ho, hc, n, hd⟩ := id ht1
    show wpAny _ A.in1 (holding [Value.ref b] _ >>= _) _ _ _
    refine wpAny_bind (wpAny_holding ?_)
    refine wpAny_bind (wpAny_tryCatch ?_)
    unfold Builtin.Dict.pairItems
    refine wpAny_bind (wpAny_typeOf (T := "tuple") ⟨o, ho, hc⟩ ?_)
    rw [if_pos (by first | decide | rfl | simp)]
    refine wpAny_bind (wpAny_seqItems ho hd (wpAny_pure ?_))
    show wpAny _ A.in1 (holding [u, q.2] (dictSet S u q.2)) _ _ _
    refine wpAny_holding (wpAny_dictSet_pairs (knd := mixKind prog w) (k := q.1) hk hm1 (fun h2 hm2 hs2 => ?_) (by omega))
    refine wpAny_pure ⟨plainId_quiet ud_plain _, upd_loop (items := items) hh hlI hSI hSl rest (i + 1) (stored acc q.1 q.2) (ix + 1) 0 _ (show items.size = i + 1 + rest.length by omega) ?_ (fun j q' e => ?_) ?_ ?_ hm2 fun h' tk hd' k => ?_⟩
    · have z := stored_length_le acc q.1 q.2
      omega
    · obtain ⟨b', u', hb', hbS', hbI', htup', hk'⟩ := ht (j + 1) q' (by simpa using e)
      refine ⟨b', u', ?_, hbS', hbI', (htup'.extBut hs1.extBut hbI').extBut hs2.extBut hbS', hk'⟩
      rw [show i + 1 + j = i + (j + 1) by omega]
      exact hb'
    · exact hit1.at fun o' e => hs2.extBut I o' (Ne.symm hSI) e
    · exact hl1.extBut hs2.extBut (Ne.symm hSl)
    · exact hR h' tk hd' fun c oc h3 h4 e => k c oc h3 h4 (hs2.extBut c oc h3 (hs1.extBut c oc h4 e))

/-- dict(l) of a list of pairs -/
theorem call_dict_pairs {s : Shared} {l : Addr} {ol : Obj} {items : Array Value} {n : Nat} {prs : List (Key × Value)} {Q : Value → Shared → Prop} (hh : A.handled = none) (hl : s.heap.get? l = some ol) (hc : ol.cls = .type "list") (hd : ol.dict = none)
    (hdat : ol.data = .seq items n) (hsz : items.size = prs.length) (hln : prs.length ≤ sizeLine)
    (ht : ∀ (j : Nat) (q : Key × Value), prs[j]? = some q → ∃ (b : Addr) (u : Value), items[j]? = some (.ref b) ∧ IsTup s.heap b #[u, q.2] ∧ keyIs q.1 u = true)
    (h : ∀ h' tk, h'.DictOf (mixKind prog w) s.heap.objs.size (merged [] prs) → (∀ b o, s.heap.get? b = some o → h'.get? b = some o) → Q (.ref s.heap.objs.size) { s with heap := h', toks := tk }) :
    wpAny (model prog w) A (call (.type "dict") [.ref l]) Q E s := by
  refine callType_codes (Q₁ := fun obj s₁ => obj = .ref s.heap.objs.size ∧ s₁ = { s with heap := s.heap.push { cls := .type "dict", data := .dict #[] } }) PySem.F.kt_called_dict (PySem.F.kt_typeCall_dict_1 _) PySem.F.entry_dict_init (kt_code_dict_new _ ⟨rfl, rfl⟩) ?_
  rintro obj s₁ ⟨rfl, rfl⟩
  have hnew : (s.heap.push { cls := .type "dict", data := .dict #[] }).DictOf (mixKind prog w) s.heap.objs.size [] := Heap.DictOf.new s.heap
  have k0 : ∀ b o, s.heap.get? b = some o → (s.heap.push { cls := .type "dict", data := .dict #[] }).get? b = some o := fun b o e => Heap.get?_push_of_some _ e
  refine ⟨hnew.typeIs, PySem.F.args_dict_init_2 _ _, ?_⟩
  unfold Builtin.«dict.__init__»
  refine wpAny_bind ?_
  unfold Builtin.Dict.selfAndRest
  refine wpAny_bind (wpAny_notOrdered_dict hnew.typeIs ?_)
  show wpAny _ _ (pure (s.heap.objs.size, [Value.ref l])) _ _ _
  refine wpAny_pure ?_
  show wpAny _ _ (Builtin.Dict.updateFrom "dict.__init__" s.heap.objs.size (.ref l) [] .none) _ _ _
  unfold Builtin.Dict.updateFrom
  refine wpAny_bind (wpAny_typeOf (T := "list") ⟨ol, k0 _ _ hl, hc⟩ ?_)
  rw [if_pos (by first | decide | rfl | simp)]
  refine wpAny_bind (miss_list (k0 _ _ hl) hc hdat hd hh fun h1 tk1 hk1 => ?_)
  rw [if_pos (show (none : Option Value).isNone = true from rfl)]
  refine wpAny_bind (wpAny_rule ?_)
  have hl1 : h1.IsList l items := ⟨ol, hk1 _ _ (k0 _ _ hl), hc, n, hdat⟩
  have hS1 : s.heap.objs.size < h1.objs.size := by
    have e : (s.heap.push { cls := .type "dict", data := .dict #[] }).get? s.heap.objs.size = some { cls := .type "dict", data := .dict #[] } := Heap.get?_push_size _ rfl
    exact Heap.lt_size (hk1 _ _ e)
  refine wpAny_bind (wpAny_pyIter_list hl1 ?_)
  have k2 : ∀ b o, h1.get? b = some o → (h1.push { cls := .type "list_iterator", data := .fields #[.ref l, .int 0 0] }).get? b = some o := fun b o e => Heap.get?_push_of_some _ e
  have hlt : l < s.heap.objs.size := Heap.lt_size hl
  have key := upd_loop (prog := prog) (w := w) (A := A.in1) (R := wants (fun r s₂ => r = .none ∧ Q (.ref s.heap.objs.size) s₂) E) (S := s.heap.objs.size) (I := h1.objs.size) (l := l) (items := items) (res := Value.none) hh
    (Nat.ne_of_lt (Nat.lt_trans hlt hS1)) (Nat.ne_of_lt hS1) (Nat.ne_of_gt hlt) prs 0 [] 0 0
    { s with heap := h1.push { cls := .type "list_iterator", data := .fields #[.ref l, .int 0 0] }, toks := tk1 } (by rw [hsz, Nat.zero_add]) (by rw [List.length_nil, Nat.zero_add]; exact hln)
    (fun j q e => by
      obtain ⟨b, u, e1, e2, e3⟩ := ht j q e
      have hb : b < s.heap.objs.size := e2.lt
      exact ⟨b, u, by rw [Nat.zero_add]; exact e1, Nat.ne_of_lt hb, Nat.ne_of_lt (Nat.lt_trans hb hS1), e2.keeps fun c o z => k2 _ _ (hk1 _ _ (k0 _ _ z)), e3⟩)
    ⟨_, Heap.get?_push_size _ rfl, rfl, rfl⟩ (hl1.at fun o e => k2 _ _ e) ((hnew.at fun o e => hk1 _ _ e).at fun o e => k2 _ _ e)
    (fun h' tk hd' k => ⟨rfl, h h' tk hd' fun b o e => k b o (Nat.ne_of_lt (Heap.lt_size e)) (Nat.ne_of_lt (Nat.lt_trans (Heap.lt_size e) hS1)) (k2 _ _ (hk1 _ _ (k0 _ _ e)))⟩)
  first
    | exact wpAny_pure ⟨plainId_quiet ud_plain _, key⟩
    | exact wpAny_bind (wpAny_pure (wpAny_pure ⟨plainId_quiet ud_plain _, key⟩))
end

section
variable {X : Cx}
theorem pairs_of {pins : List (Addr × Obj)} {σ : St} {H : Hp} {s : Shared} (I : Inv X pins σ H s) : ∀ {ps : List Addr} {kvs : List (Key × V)}, Paired (fun p kv => SqT X.K H p [kV kv.1, kv.2]) ps kvs →
    ∃ prs : List (Key × Value), KV kvs prs ∧ prs.length = ps.length ∧ ∀ (j : Nat) (q : Key × Value), prs[j]? = some q → ∃ (b : Addr) (u : Value), ps[j]? = some b ∧ IsTup s.heap b #[u, q.2] ∧ keyIs q.1 u = true
  | _, _, .nil => ⟨[], .nil, rfl, fun j q e => by simp at e⟩
  | _, _, .cons (a := p) (b := kv) h t => by
    obtain ⟨prs, r, hl, hp⟩ := pairs_of I t
    obtain ⟨its, rv, ht, _⟩ := I.tuple h
    obtain ⟨u, y, ei, ru, ry⟩ := vals2 rv
    subst ei
    refine ⟨(kv.1, y) :: prs, .cons ⟨rfl, ry⟩ r, by rw [List.length_cons, List.length_cons, hl], fun j q e => ?_⟩
    cases j with
    | zero =>
      have e' : (kv.1, y) = q := Option.some.inj e
      subst e'
      exact ⟨p, u, rfl, ht, kV_is (P := X.prog) (w := X.w) ru⟩
    | succ j =>
      obtain ⟨b, u', e1, e2, e3⟩ := hp j q (by simpa using e)
      exact ⟨b, u', by simpa using e1, e2, e3⟩
theorem refs_at : ∀ {ps : List Addr} {us : List Value}, Vals (ps.map V.ref) us → us = ps.map Value.ref
  | [], us, r => by
    rw [List.map_nil] at r
    cases r
    rfl
  | p :: ps, us, r => by
    rw [List.map_cons] at r
    cases r with
    | cons h t =>
      cases h
      rw [List.map_cons, ← refs_at t]
/-- dict(xs) of a list of pairs (key, value): later pairs win, the place is the first one's -/
theorem call_dictP (hcalm : X.calm = true) : CallR X (.type "dict") (fun xs H Q => ∃ (a : Addr) (ps : List Addr) (kvs : List (Key × V)), xs = [.ref a] ∧ SqL X.K H a (ps.map V.ref) ∧ Paired (fun p kv => SqT X.K H p [kV kv.1, kv.2]) ps kvs ∧
    ∀ p, H p = none → Q (.ref p) (upd H p (.dK (mergeK [] kvs)))) := by
  intro pins s σ H xs us Q I r q
  obtain ⟨a, ps, kvs, ex, hq, hp, q⟩ := q
  subst ex
  obtain ⟨u, eu, rx⟩ := vals1 r
  subst eu
  cases rx
  obtain ⟨its, rv, pl, hz⟩ := I.list hq
  have ei := refs_at rv
  subst ei
  rw [List.length_map] at hz
  obtain ⟨prs, rel, hl, hpr⟩ := pairs_of I hp
  obtain ⟨o, n, ho, hc, hd, hdat⟩ := pl
  refine call_dict_pairs (prs := prs) (I.ok.hd hcalm) ho hc hd hdat (by simp [hl]) (by rw [hl]; exact hz) (fun j q' e => ?_) fun h' tk hd' k => ?_
  · obtain ⟨b, u, e1, e2, e3⟩ := hpr j q' e
    exact ⟨b, u, by simp [e1], e2, e3⟩
  · have hm : (s.heap.objs.size == sysModules) = false := beq_eq_false_iff_ne.mpr (Nat.ne_of_gt I.big)
    have hlen : (mergeK [] kvs).length ≤ sizeLine := by
      refine Nat.le_trans (length_mergeK kvs []) ?_
      rw [List.length_nil, Nat.zero_add, rel.length, hl]
      exact hz
    exact ⟨.ref s.heap.objs.size, upd H s.heap.objs.size (.dK (mergeK [] kvs)), I.laid (t' := tk) k (Nat.le_refl _) (show ObjOk X.prog X.w _ _ _ (.dK (mergeK [] kvs)) from ⟨hlen, hm, merged [] prs, KV.merge rel .nil, hd'⟩), rfl, q _ (I.hok.fresh (Nat.le_refl _))⟩
end
end L2

namespace L2
open PySem PySem.Spec PyProof.Rows

theorem boot_reversed5 : bootBuiltins "reversed" = some (.type "reversed") := by decide +kernel

section
variable {X : Cx} {pins : List (Addr × Obj)} {σ : St} {H : Hp} {s : Shared} {h' : Heap}
/-- several records of ours have turned -/
theorem Inv.turnedL {t' : Nat} {ch : List Addr} (I : Inv X pins σ H s) (k : ∀ b o, b ∉ ch → s.heap.get? b = some o → h'.get? b = some o) (hf : ∀ b ∈ ch, FpOk X pins H b) : Inv X pins σ H { s with heap := h', toks := t' } := by
  have nit : ∀ b u, H b = some u → b ∉ ch := fun b u e z => by
    have q := (hf b z).1
    rw [q] at e; cases e
  refine I.step (g' := s.gens) (d' := s.drawn) (ch := ch) (fun b hb => ⟨(hf b hb).2.2.2.1, (hf b hb).2.1, (hf b hb).2.2.2.2.1, (hf b hb).2.2.2.2.2⟩) (fun b o _ _ hc e _ => k b o hc e) (fun b o _ _ hc e _ => ⟨o.slots, k b o hc e⟩)
    (fun _ _ _ _ n => n) (fun b o hc e => ⟨o, k b o hc e⟩) (fun _ _ e => e) (fun _ _ _ e => e) (fun b ps e => ⟨#[], by rw [e]; simp⟩) (fun m hm => ?_) (fun b u e => ?_) I.bare
  · obtain ⟨o, es, ep, ho, r⟩ := hm
    exact ⟨o, es, ep, k _ o (fun z => (hf _ z).2.1 rfl) ho, r⟩
  · refine (I.hok b u e).stay (fun c v hc q => k c v ?_ q) (fun _ q => q) fun _ _ q => q
    rcases hc with z | z
    · rw [z]; exact nit b u e
    · exact nit c _ z
/-- .. and one new object is laid -/
theorem Inv.turnedNew {t' : Nat} {ch : List Addr} {T : Addr} {ob : HO} (I : Inv X pins σ H s) (k : ∀ b o, b ∉ ch → s.heap.get? b = some o → h'.get? b = some o) (hf : ∀ b ∈ ch, FpOk X pins H b) (hT : s.heap.objs.size ≤ T)
    (new : ObjOk X.prog X.w (upd H T ob) h' T ob) : Inv X pins σ (upd H T ob) { s with heap := h', toks := t' } := by
  have hn : H T = none := I.hok.fresh hT
  have nit : ∀ b u, H b = some u → b ∉ ch := fun b u e z => by
    have q := (hf b z).1
    rw [q] at e; cases e
  refine I.step (g' := s.gens) (d' := s.drawn) (ch := ch) (fun b hb => ⟨(hf b hb).2.2.2.1, (hf b hb).2.1, (hf b hb).2.2.2.2.1, (hf b hb).2.2.2.2.2⟩) (fun b o _ _ hc e _ => k b o hc e) (fun b o _ _ hc e _ => ⟨o.slots, k b o hc e⟩)
    (fun b o _ e n => ?_) (fun b o hc e => ⟨o, k b o hc e⟩) (fun b xs e => ?_) (fun b o u e => ?_) (fun b ps e => ⟨#[], ?_⟩) (fun m hm => ?_) (fun b u e => ?_) I.bare
  · rw [upd_ne (Nat.ne_of_lt (Nat.lt_of_lt_of_le (Heap.lt_size e) hT))]; exact n
  · rw [upd_ne (ne_of_none e hn)]; exact e
  · rw [upd_ne (ne_of_none e hn)]; exact e
  · rw [upd_ne (ne_of_none e hn), e]; simp
  · obtain ⟨o, es, ep, ho, r⟩ := hm
    exact ⟨o, es, ep, k _ o (fun z => (hf _ z).2.1 rfl) ho, r⟩
  · by_cases hb : b = T
    · subst hb
      rw [upd_same] at e
      cases e
      exact new
    · rw [upd_ne hb] at e
      refine (I.hok b u e).stay (fun c v hc q => k c v ?_ q) (fun c q => by rw [upd_ne (ne_of_none q hn)]; exact q) fun c xs q => by rw [upd_ne (ne_of_none q hn)]; exact q
      rcases hc with z | z
      · rw [z]; exact nit b u e
      · exact nit c _ z

/-! ### locking a thing while a statement runs -/
theorem Inv.lock {d : Addr} {u : HO} (I : Inv X pins σ H s) (h : H d = some u) (mu : Mut (some u)) : ∃ od, Inv X pins σ (upd H d (.frz od u)) s := by
  have x := I.hok d u h
  have ex : ∃ od, s.heap.get? d = some od := by
    cases u with
    | lst xs => obtain ⟨_, _, _, _, e⟩ := x; exact ⟨_, e⟩
    | dK kvs => obtain ⟨_, _, _, _, o, _, _, e, _⟩ := x; exact ⟨o, e⟩
    | dT kvs => obtain ⟨_, _, _, _, o, _, _, e, _⟩ := x; exact ⟨o, e⟩
    | set S n => obtain ⟨o, _, _, _, e, _⟩ := x; exact ⟨o, e⟩
    | ins C dx fs => obtain ⟨_, _, _, e, _⟩ := x; exact ⟨_, e⟩
    | ext φ => obtain ⟨_, ⟨_, e⟩, _⟩ := x; exact ⟨_, e⟩
    | _ => exact False.elim mu
  obtain ⟨od, e⟩ := ex
  have new : ObjOk X.prog X.w (upd H d (.frz od u)) s.heap d (.frz od u) := by
    refine ⟨e, x.stay (fun b v _ q => q) (fun b q => ?_) fun b xs q => ?_⟩
    · rw [upd_ne (fun z => by rw [z, h] at q; cases q; exact mu)]; exact q
    · rw [upd_ne (fun z => by rw [z, h] at q; cases q; exact mu)]; exact q
  exact ⟨od, I.write (x := d) (e := d) (t' := s.toks) (h' := s.heap) (by rw [h]; exact mu) (.inl rfl) (fun b v _ q => q) ⟨od, e⟩ new⟩
theorem Inv.nofrz {d : Addr} {u : HO} (I : Inv X pins σ H s) (h : H d = some u) (mu : Mut (some u)) : ∀ o' u', X.H_0 d ≠ some (.frz o' u') := fun o' u' e => by
  have q := I.base.frzs d o' u' e
  rw [h] at q
  cases q
  exact mu
theorem Inv.unlock {d : Addr} {od : Obj} {u : HO} (I : Inv X pins σ H s) (h : H d = some (.frz od u)) (hn : ∀ o' u', X.H_0 d ≠ some (.frz o' u')) : Inv X pins σ (upd H d u) s := by
  have neH : ∀ b o, H b = some o → (∀ o' u', o ≠ .frz o' u') → b ≠ d := fun b o e hne z => by
    rw [z, h] at e
    cases e
    exact hne _ _ rfl
  have neN : ∀ b, H b = none → b ≠ d := fun b e z => by rw [z, h] at e; cases e
  refine ⟨I.ok, I.os, I.bare, ⟨I.base.keep, I.base.slot, fun b o e n hx => ?_, I.base.there, fun b xs e => ?_, fun b o x e => ?_, fun b ps e => ?_⟩, I.loc, I.cell, ?_, fun x c e => ?_, fun p hp => ?_, fun b o e => ?_, I.len⟩
  · rw [upd_ne (neN b (I.base.free b o e n hx))]; exact I.base.free b o e n hx
  · have q := I.base.tups b xs e
    rw [upd_ne (neH b _ q (fun _ _ z => nomatch z))]; exact q
  · have q := I.base.frzs b o x e
    rw [upd_ne (fun z => by rw [z] at e; exact hn _ _ e)]; exact q
  · obtain ⟨m, q⟩ := I.base.tbls b ps e
    exact ⟨m, by rw [upd_ne (neH b _ q (fun _ _ z => nomatch z))]; exact q⟩
  · rw [upd_ne (neN _ I.free)]; exact I.free
  · rw [upd_ne (neN c (I.freeC x c e))]; exact I.freeC x c e
  · obtain ⟨e, n, r⟩ := I.pin p hp
    exact ⟨e, by rw [upd_ne (neN _ n)]; exact n, r⟩
  · by_cases hb : b = d
    · rw [hb, upd_same] at e
      cases e
      rw [hb]
      obtain ⟨_, x⟩ := I.hok d _ h
      exact x.stay (fun c v _ q => q) (fun c q => by rw [upd_ne (neH c _ q (fun _ _ z => nomatch z))]; exact q) fun c xs q => by rw [upd_ne (neH c _ q (fun _ _ z => nomatch z))]; exact q
    · rw [upd_ne hb] at e
      exact (I.hok b o e).stay (fun c v _ q => q) (fun c q => by rw [upd_ne (neH c _ q (fun _ _ z => nomatch z))]; exact q) fun c xs q => by rw [upd_ne (neH c _ q (fun _ _ z => nomatch z))]; exact q
end
/-- the statement runs while the thing at d is locked (read, not written); d and what stands there are the reading's choice -/
def tLock (t : TS) : TS := fun D σ H => ∃ d u, H d = some u ∧ Mut (some u) ∧ ∀ od, t ⟨fun σ' H' => H' d = some (.frz od u) ∧ D.nx σ' (upd H' d u), fun v H' => H' d = some (.frz od u) ∧ D.rt v (upd H' d u), fun σ' H' => H' d = some (.frz od u) ∧ D.bk σ' (upd H' d u), fun σ' H' => H' d = some (.frz od u) ∧ D.ct σ' (upd H' d u)⟩ σ (upd H d (.frz od u))
def tLockE (t : TE) : TE := fun σ H Q => ∃ d u, H d = some u ∧ Mut (some u) ∧ ∀ od, t σ (upd H d (.frz od u)) fun v H' => H' d = some (.frz od u) ∧ Q v (upd H' d u)
section
variable {X : Cx}
theorem ps_lock {st : Stmt} {t : TS} (h : PS X st t) : PS X st (tLock t) := by
  intro pins s σ H D I hw
  obtain ⟨d, u, hd, mu, hw⟩ := hw
  obtain ⟨od, I1⟩ := I.lock hd mu
  refine thn (h pins s σ _ _ I1 (hw od)) fun f s1 q => ?_
  cases f with
  | next => obtain ⟨σ', H', I2, e, q⟩ := q; exact ⟨σ', _, I2.unlock e (I.nofrz hd mu), q⟩
  | brk => obtain ⟨σ', H', I2, e, q⟩ := q; exact ⟨σ', _, I2.unlock e (I.nofrz hd mu), q⟩
  | cont => obtain ⟨σ', H', I2, e, q⟩ := q; exact ⟨σ', _, I2.unlock e (I.nofrz hd mu), q⟩
  | ret v => obtain ⟨x, σ', H', I2, r, e, q⟩ := q; exact ⟨x, σ', _, I2.unlock e (I.nofrz hd mu), r, q⟩
theorem pe_lock {e : Expr} {t : TE} (h : PE X e t) : PE X e (tLockE t) := by
  intro pins s σ H Q I hw
  obtain ⟨d, u, hd, mu, hw⟩ := hw
  obtain ⟨od, I1⟩ := I.lock hd mu
  refine thn (h pins s σ _ _ I1 (hw od)) fun v s1 ⟨x, H1, I2, r, e2, q⟩ => ?_
  exact ⟨x, _, I2.unlock e2 (I.nofrz hd mu), r, q⟩

/-! ### one iterator just laid -/
theorem pi_one {tg : Expr} {pins : List (Addr × Obj)} {σ : St} {H : Hp} {s : Shared} {R : It → Hp → Prop} {J : It} {tn : Nat → Heap → Prop} {tk : Nat} (I : Inv X pins σ H s) (o : Obj)
    (T : Turn X.prog X.w X.K tg J [s.heap.objs.size] s.heap.objs.size tn) (st : tn 0 (s.heap.push o)) (q : R J H) : PIE X pins σ tg R (.ref s.heap.objs.size) { s with heap := s.heap.push o, toks := tk } := by
  refine ⟨s.heap.objs.size, [s.heap.objs.size], tn, J, H, rfl, I.kept fun b ob e => Heap.get?_push_of_some _ e, T, st, fun b hb => ?_, q⟩
  have e : b = s.heap.objs.size := by simpa using hb
  subst e
  exact I.fpOk (Nat.le_refl _) (I.hok.fresh (Nat.le_refl _))
end

/-! ### range with a step -/
/-- lo, lo + c, .. (n of them) -/
def Itc (lo c : Int) (n : Nat) : It := ⟨fun i _ => i < n, fun i H x H' => H' = H ∧ x = .int (lo + (i : Nat) * c), fun i _ => n ≤ i⟩
theorem turn_rangeC {P : Program} {w : World} {K : PySem.W.Frag} {tg : Expr} (it : Addr) (lo c : Int) (n : Nat) : Turn P w K tg (Itc lo c n) [it] it (fun i h => IsRangeIter h it (lo + (i : Nat) * c) ((n : Int) - (i : Nat)) c) where
  mem := by simp
  obj := fun i h st b hb => by
    have e : b = it := by simpa using hb
    subst e
    exact ⟨_, st, fun v z => nomatch z⟩
  keep := fun i h h' st k => k it (by simp) _ st
  item := by
    intro X hP hw hK hc i pins s σ H E I hf st hg
    subst hP hw hK
    obtain ⟨f0, f1, f2, f3, f4, f5⟩ := hf it (by simp)
    have W := Walks.range (prog := X.prog) (w := X.w) (I.ok.hd hc) it lo c n
    refine W.item i s _ _ hg st fun v h' tk hv st' kk => ?_
    obtain ⟨t, rfl⟩ := hv
    have I1 : Inv X pins σ H { s with heap := h', toks := tk } := I.turned (fun b o hb e => kk b o (by simpa using hb) e) f0 f1 f3 f4 f5
    exact ⟨_, rfl, go_of (s := { s with heap := h', toks := tk }) (n := "range_iterator") st' rfl rfl (by decide) ⟨.int (lo + (i : Nat) * c), H, I1, ⟨t, rfl⟩, ⟨rfl, rfl⟩, st', fun b hb => (hf b hb).1⟩⟩
  done := by
    intro X hP hw hK hc i pins s σ H E I hf st hg
    subst hP hw hK
    obtain ⟨f0, f1, f2, f3, f4, f5⟩ := hf it (by simp)
    exact wpAny_pyNext_range_end (I.ok.hd hc) st (by have : n ≤ i := hg; omega) fun h' eb => ⟨rfl, I.turned (t' := s.toks) (fun b o hb e => eb b o hb e) f0 f1 f3 f4 f5⟩
  self := fun A i s Q E st h => wpAny_pyIter_rangeiter st h
/-- range(i, j, c): small bounds, n items -/
def RgC (i j c : Int) (n : Nat) : Prop := c ≠ 0 ∧ c.natAbs < 1073741824 ∧ Builtin.Range.small i j c = true ∧ Builtin.Range.rangeSize i j c = n
theorem RgC.neg {i j : Int} (ha : -(2 ^ 62) ≤ i) (ha' : i < 2 ^ 62) (hb : -(2 ^ 62) ≤ j) (hb' : j < 2 ^ 62) : RgC i j (-1) (i - j).toNat :=
  ⟨by decide, by decide, PySem.W.small_down ha ha' hb hb', PySem.W.rangeSize_downNat i j⟩
def iRng3 (ta : TA) : TI := fun σ H R => ta σ H fun vs H1 => ∃ (i j c : Int) (n : Nat), vs = [.int i, .int j, .int c] ∧ RgC i j c n ∧ R (Itc i c n) H1
section
variable {X : Cx} {tg : Expr}
theorem pi_range3 {a b c : Expr} {ta : TA} {p pos : Pos} (hg : Gl X "range") (hm : X.mg "range" = none) (ha : PA X [a, b, c] ta)
    (hs : starEach [a, b, c] X.env = (false, eval a X.env) :: starEach [b, c] X.env := by rfl) (hpl : (backTo pos (starEach [b, c] X.env)).any (·.1) = false := by rfl) :
    PI X tg (.Call (.Name "range" p) [a, b, c] [] pos) (iRng3 ta) := by
  intro pins s σ H R I h
  refine Call_ (ld_blt I hg hm boot_range (PyProof.Rows.callWith_type1 (thn (ha pos pins s σ H _ I h) fun us s1 ⟨vs, H1, I1, r1, q1⟩ => ?_) hs hpl))
  obtain ⟨i, j, k, n, e, ⟨c0, c1, c2, c3⟩, q⟩ := q1
  subst e
  cases r1 with
  | cons r rr =>
    cases rr with
    | cons r' rr =>
      cases rr with
      | cons r'' rr =>
        cases rr
        obtain ⟨t, rfl⟩ := r
        obtain ⟨t', rfl⟩ := r'
        obtain ⟨t'', rfl⟩ := r''
        refine call_range_3 c0 ?_ (.inl (PyProof.noPylong_small c1))
        refine wpAny_pyIter_range (IsRange.new ..) c2 ?_
        have I2 : Inv X pins σ H1 { s1 with heap := s1.heap.push { cls := .type "range", data := .fields #[.int i t, .int j t', .int k t''] } } := I1.kept (t' := s1.toks) fun b o e => Heap.get?_push_of_some _ e
        refine pi_one (tk := s1.toks) I2 _ (turn_rangeC _ i k n) ?_ q
        have e1 : i + ((0 : Nat) : Int) * k = i := by simp
        have e2 : (n : Int) - ((0 : Nat) : Int) = Builtin.Range.rangeSize i j k := by rw [c3]; simp
        show IsRangeIter _ _ (i + ((0 : Nat) : Int) * k) ((n : Int) - ((0 : Nat) : Int)) k
        rw [e1, e2]
        exact Heap.get?_push_size _ rfl
end
/-- the turns of a step range, for the for loop -/
theorem for_rangeC {lo c : Int} {n : Nat} {g : TG} {tb : TS} {D : Ends} {σ : St} {H : Hp} (Pv : Nat → St → Hp → Prop) (h0 : Pv 0 σ H)
    (hs : ∀ i σ H, i < n → Pv i σ H → g (.int (lo + (i : Nat) * c)) σ H fun σ2 H2 => tb { D with nx := Pv (i + 1), ct := Pv (i + 1), bk := D.nx } σ2 H2) (hd : ∀ σ H, Pv n σ H → D.nx σ H) :
    ∃ W : Nat → Nat → St → Hp → Prop, (∃ m, W 0 m σ H) ∧ ∀ i m σ H, W i m σ H →
      ((Itc lo c n).stop i H ∧ D.nx σ H) ∨ ((Itc lo c n).go i H ∧ ∃ N : St → Hp → Prop, (∀ σ' H', N σ' H' → ∃ m', m' < m ∧ W (i + 1) m' σ' H') ∧ ∀ x H', (Itc lo c n).yld i H x H' → g x σ H' fun σ2 H2 => tb { D with nx := N, ct := N, bk := D.nx } σ2 H2) := by
  refine ⟨fun i m σ H => m = n - i ∧ i ≤ n ∧ Pv i σ H, ⟨n, by simp, Nat.zero_le _, h0⟩, ?_⟩
  rintro i m σ H ⟨rfl, hi, p⟩
  by_cases hlt : i < n
  · refine .inr ⟨hlt, Pv (i + 1), fun σ' H' p' => ⟨n - (i + 1), by omega, rfl, hlt, p'⟩, fun x H' y => ?_⟩
    obtain ⟨e, y⟩ := y
    subst e y
    exact hs i σ _ hlt p
  · have e : i = n := by omega
    subst e
    exact .inl ⟨Nat.le_refl _, hd σ H p⟩

/-! ### reversed(list) -/
/-- the list at a (n items at the start, which the loop leaves there), from its end -/
def Itv (K : PySem.W.Frag) (a : Addr) (n : Nat) : It :=
  ⟨fun i H => i < n ∧ ∃ (xs : List V) (x : V), SqL K H a xs ∧ xs[n - 1 - i]? = some x, fun i H x H' => H' = H ∧ ∀ xs, SqL K H a xs → xs[n - 1 - i]? = some x, fun i _ => n ≤ i⟩
theorem turn_rev {P : Program} {w : World} {K : PySem.W.Frag} {tg : Expr} (a it : Addr) (n : Nat) : Turn P w K tg (Itv K a n) [it] it (fun i h => i ≤ n ∧ h.IsRevIter it a ((n : Int) - 1 - (i : Nat))) where
  mem := by simp
  obj := fun i h st b hb => by
    have e : b = it := by simpa using hb
    subst e
    obtain ⟨_, o, e, c, d⟩ := st
    exact ⟨o, e, fun v z => by rw [d] at z; cases z⟩
  keep := fun i h h' st k => ⟨st.1, st.2.at fun o e => k it (by simp) o e⟩
  item := by
    intro X hP hw hK hc i pins s σ H E I hf st hg
    subst hP hw hK
    obtain ⟨hin, xs, x, hq, hx⟩ := hg
    obtain ⟨its, rv, p, hz⟩ := I.list hq
    obtain ⟨u, hu, ru⟩ := rv.get hx
    obtain ⟨f0, f1, f2, f3, f4, f5⟩ := hf it (by simp)
    obtain ⟨_, hit⟩ := st
    have e1 : (n : Int) - 1 - ((i : Nat) : Int) = ((n - 1 - i : Nat) : Int) := by omega
    rw [e1] at hit
    refine wpAny_pyNext_rev_item hit p.isList (x := u) (by simpa using hu) fun h' st' sb => ?_
    have e2 : ((n - 1 - i : Nat) : Int) - 1 = (n : Int) - 1 - ((i + 1 : Nat) : Int) := by omega
    rw [e2] at st'
    have I1 : Inv X pins σ H { s with heap := h' } := I.turned (t' := s.toks) (fun b o hb e => (sb.2 b hb).trans e) f0 f1 f3 f4 f5
    obtain ⟨o, e, c, d⟩ := id st'
    exact ⟨u, rfl, go_of (s := { s with heap := h' }) e c d (by decide) ⟨x, H, I1, ru, ⟨rfl, fun ys hy => by rw [I.list_inj hy hq]; exact hx⟩, ⟨hin, st'⟩, fun b hb => (hf b hb).1⟩⟩
  done := by
    intro X hP hw hK hc i pins s σ H E I hf st hg
    subst hP hw hK
    obtain ⟨f0, f1, f2, f3, f4, f5⟩ := hf it (by simp)
    obtain ⟨hin, hit⟩ := st
    have hge : n ≤ i := hg
    have e1 : (n : Int) - 1 - ((i : Nat) : Int) = -1 := by omega
    rw [e1] at hit
    exact wpAny_pyNext_rev_end (I.ok.hd hc) hit fun h' eb => ⟨rfl, I.turned (t' := s.toks) (fun b o hb e => eb b o hb e) f0 f1 f3 f4 f5⟩
  self := fun A i s Q E st h => wpAny_pyIter_revIter st.2 h
def iRev (K : PySem.W.Frag) (ta : TA) : TI := fun σ H R => ta σ H fun vs H1 => ∃ (a : Addr) (xs : List V), vs = [.ref a] ∧ SqL K H1 a xs ∧ R (Itv K a xs.length) H1
section
variable {X : Cx} {tg : Expr}
theorem pi_reversed {e : Expr} {ta : TA} {p pos : Pos} (hg : Gl X "reversed") (hm : X.mg "reversed" = none) (ha : PA X [e] ta) (hs : starEach [e] X.env = [(false, eval e X.env)] := by rfl) : PI X tg (.Call (.Name "reversed" p) [e] [] pos) (iRev X.K ta) := by
  intro pins s σ H R I h
  refine Call_ (ld_blt I hg hm boot_reversed5 (PyProof.Rows.callWith_type1 (thn (ha pos pins s σ H _ I h) fun us s1 ⟨vs, H1, I1, r1, q1⟩ => ?_) hs rfl))
  obtain ⟨a, xs, e, hq, q⟩ := q1
  subst e
  cases r1 with
  | cons r rr =>
    cases rr
    cases r
    obtain ⟨its, rv, p', hz⟩ := I1.list hq
    have hl := rv.length
    have e1 : ((its.toArray.size : Nat) : Int) - 1 = (xs.length : Int) - 1 - ((0 : Nat) : Int) := by simp only [List.size_toArray]; omega
    refine call_reversed_list p'.isList (wpAny_pyIter_revIter (l := a) (i := ((its.toArray.size : Nat) : Int) - 1) ⟨_, Heap.get?_push_size _ rfl, rfl, rfl⟩ ?_)
    refine pi_one (tk := s1.toks) I1 _ (turn_rev a _ xs.length) ⟨Nat.zero_le _, ?_⟩ q
    rw [← e1]
    exact ⟨_, Heap.get?_push_size _ rfl, rfl, rfl⟩
end

/-! ### a str -/
def Its (x : Str) : It := ⟨fun i _ => i < x.cps.size, fun i H v H' => H' = H ∧ ∃ c, x.cps[i]? = some c ∧ v = .str ⟨#[c]⟩, fun i _ => x.cps.size ≤ i⟩
theorem turn_str {P : Program} {w : World} {K : PySem.W.Frag} {tg : Expr} (it : Addr) (x : Str) (t : Tok) (ty : String) (hty : ty = "str_ascii_iterator" ∨ ty = "str_iterator") :
    Turn P w K tg (Its x) [it] it (fun i h => h.IsStrIter it ty x t i) where
  mem := by simp
  obj := fun i h st b hb => by
    have e : b = it := by simpa using hb
    subst e
    obtain ⟨o, e, c, d⟩ := st
    exact ⟨o, e, fun v z => by rw [d] at z; cases z⟩
  keep := fun i h h' st k => let ⟨o, ho, r⟩ := st; ⟨o, k it (by simp) o ho, r⟩
  item := by
    intro X hP hw hK hc i pins s σ H E I hf st hg
    subst hP hw hK
    obtain ⟨f0, f1, f2, f3, f4, f5⟩ := hf it (by simp)
    have W : Walks X.prog X.w X.A it [it] [it] x.cps.size (SignAt x) (fun i h => h.IsStrIter it ty x t i) := by
      rcases hty with e | e
      · rw [e]; exact Walks.strAscii (I.ok.hd hc) it x t
      · rw [e]; exact Walks.strWide (I.ok.hd hc) it x t
    have hno : ["enumerate", "zip", "dict_itemiterator", "dict_reverseitemiterator", "odict_iterator", "itertools.zip_longest", "itertools.pairwise"].contains ty = false := by
      rcases hty with e | e
      · rw [e]; decide
      · rw [e]; decide
    refine W.item i s _ _ hg st fun v h' tk hv st' kk => ?_
    obtain ⟨c, u, hcx, rfl⟩ := hv
    have I1 : Inv X pins σ H { s with heap := h', toks := tk } := I.turned (fun b o hb e => kk b o (by simpa using hb) e) f0 f1 f3 f4 f5
    obtain ⟨oi, e, cc, dd⟩ := id st'
    exact ⟨_, rfl, go_of (s := { s with heap := h', toks := tk }) e cc dd hno ⟨.str ⟨#[c]⟩, H, I1, ⟨u, rfl⟩, ⟨rfl, c, hcx, rfl⟩, st', fun b hb => (hf b hb).1⟩⟩
  done := by
    intro X hP hw hK hc i pins s σ H E I hf st hg
    subst hP hw hK
    obtain ⟨f0, f1, f2, f3, f4, f5⟩ := hf it (by simp)
    have hx : x.cps[i]? = none := Array.getElem?_eq_none hg
    rcases hty with e | e
    · rw [e] at st
      exact wpAny_pyNext_ascii_end (I.ok.hd hc) st hx fun h' eb => ⟨rfl, I.turned (t' := s.toks) (fun b o hb e => eb b o hb e) f0 f1 f3 f4 f5⟩
    · rw [e] at st
      exact wpAny_pyNext_wide_end (I.ok.hd hc) st hx fun h' eb => ⟨rfl, I.turned (t' := s.toks) (fun b o hb e => eb b o hb e) f0 f1 f3 f4 f5⟩
  self := fun A i s Q E st h => by
    rcases hty with e | e
    · rw [e] at st; exact wpAny_pyIter_striter_ascii st h
    · rw [e] at st; exact wpAny_pyIter_striter_wide st h
def iStr (te : TE) : TI := fun σ H R => te σ H fun v H1 => ∃ x, v = .str x ∧ R (Its x) H1
theorem pi_str {X : Cx} {tg e : Expr} {te : TE} (he : PE X e te) : PI X tg e (iStr te) := by
  intro pins s σ H R I h
  refine thn (he pins s σ H _ I h) fun v s1 ⟨y, H1, I1, r1, x, ex, q⟩ => ?_
  subst ex
  obtain ⟨t, rfl⟩ := r1
  cases ha : x.cps.all (· < 128)
  · exact wpAny_pyIter_wide ha (pi_one (tk := s1.toks) I1 _ (turn_str _ x t "str_iterator" (.inr rfl)) ⟨_, Heap.get?_push_size _ rfl, rfl, rfl⟩ q)
  · exact wpAny_pyIter_ascii ha (pi_one (tk := s1.toks) I1 _ (turn_str _ x t "str_ascii_iterator" (.inl rfl)) ⟨_, Heap.get?_push_size _ rfl, rfl, rfl⟩ q)

/-! ### a dict's keys: any dict's entries -/
section
variable {prog : Program} {w : World} {A : Around} {E : Value → Shared → Prop} {s : Shared}
theorem iter_keys {d : Addr} {o : Obj} {es : Array DictEntry} {ep : Nat} {Q : Value → Shared → Prop} (hd : (d == sysModules) = false) (ho : s.heap.get? d = some o) (hc : o.ExactDict) (hdat : o.data = .dict es ep)
    (hQ : Q (.ref s.heap.objs.size) { s with heap := s.heap.push { cls := .type "dict_keyiterator", data := .fields #[.ref d, .int 0 0, .int es.size 0, .int ep 0] } }) :
    wpAny (model prog w) A (pyIter (.ref d)) Q E s := by
  have hT : s.TypeIs (.ref d) "dict" := ⟨o, ho, hc.1⟩
  refine wpAny_pyIter_slot hT F.slot_dict_iter (wpAny_call_entry F.slot_dict_iter hT F.entry_dict_iter ?_ (F.args_dict_iter_1 _))
  unfold Builtin.«dict.__iter__»
  refine wpAny_bind ?_
  unfold Builtin.Dict.dictSlotNone
  refine wpAny_bind (wpAny_notOrdered_dict hT ?_)
  show wpAny _ _ (pure (Value.ref d)) _ _ s
  refine wpAny_pure ?_
  show wpAny _ _ (Builtin.Dict.showsAll d >>= _) _ _ s
  unfold Builtin.Dict.showsAll
  rw [if_neg (by rw [hd]; exact Bool.false_ne_true)]
  refine wpAny_bind (wpAny_pure ?_)
  refine wpAny_bind (wpAny_dictEntries ho hdat ?_)
  refine wpAny_bind (wpAny_dictEpoch ho hdat ?_)
  refine wpAny_bind (wpAny_newObj_type (wpAny_pure ⟨_, rfl, "dict_keyiterator", _, ⟨_, Heap.get?_push_size _ rfl, rfl⟩, F.slot_dict_keyiterator_next.lookup, ?_⟩))
  simpa [rawInt] using hQ
theorem next_key_item {it d : Addr} {i n ep : Nat} {od : Obj} {es : Array DictEntry} {en : DictEntry} {Q : Option Value → Shared → Prop} (hit : s.heap.IsKeyIter it d i n ep) (hod : s.heap.get? d = some od) (hdd : od.data = .dict es ep)
    (hsz : es.size = n) (hx : es[i]? = some en) (hQ : ∀ h', h'.IsKeyIter it d (i + 1) n ep → Heap.SameBut it s.heap h' → Q (some en.key) { s with heap := h' }) : wpAny (model prog w) A (pyNext (.ref it)) Q E s := by
  obtain ⟨o, ho, hc, hd⟩ := id hit
  unfold pyNext
  refine wpAny_bind (wpAny_attempt (wpAny_callSpecial?_slot (name := Str.ofString "__next__") hit.typeIs F.slot_dict_keyiterator_next
    (wpAny_call_entry F.slot_dict_keyiterator_next hit.typeIs F.entry_dict_keyiterator_next ?_ (F.args_dict_keyiterator_next_1 _))))
  refine wpAny_bind (wpAny_pure ?_)
  refine wpAny_bind ?_
  refine wpAny_bind ?_
  first | refine wpAny_bind (wpAny_typeNameOfWhole_keyiter hit.typeIs (wpAny_pure ?_)) | refine wpAny_bind (wpAny_typeNameOf_keyiter hit.typeIs (wpAny_pure ?_))
  refine wpAny_bind (wpAny_fieldsOf ho hd ?_)
  have hown : Builtin.Dict_items.ownsTuple "dict_keyiterator" = false := by decide
  simp only [hown, Bool.false_eq_true, if_false]
  show wpAny _ _ (if (Value.ref d == Value.none) = true then _ else _) _ _ s
  rw [if_neg (show ¬ ((Value.ref d == Value.none) = true) from Bool.false_ne_true)]
  refine wpAny_bind (wpAny_pure ?_)
  refine wpAny_bind (wpAny_dictEntries hod hdd ?_)
  rw [if_neg (by rw [hsz]; simp)]
  refine wpAny_bind (wpAny_pure ?_)
  refine wpAny_bind (wpAny_dictEpoch hod hdd ?_)
  rw [if_neg (by simp)]
  refine wpAny_pure ?_
  obtain ⟨hlt', hen⟩ := Array.getElem?_eq_some_iff.mp hx
  simp only [show ¬ ((i : Int) < 0) from by omega, if_false, Int.toNat_natCast, Array.getElem?_eq_getElem hlt']
  refine wpAny_bind ?_
  first | refine wpAny_bind (wpAny_typeNameOfWhole_keyiter hit.typeIs (wpAny_pure ?_)) | refine wpAny_bind (wpAny_typeNameOf_keyiter hit.typeIs (wpAny_pure ?_))
  refine wpAny_bind (wpAny_isOneOf_keyiter hit.typeIs ?_)
  show wpAny _ _ (setField (.ref it) 1 (rawInt ((i : Int) + 1)) >>= _) _ _ s
  refine wpAny_bind (wpAny_setField ho hd (by simp) ?_)
  have hit' : (s.heap.update it (Obj.mapFields (·.setIfInBounds 1 (rawInt ((i : Int) + 1))))).IsKeyIter it d (i + 1) n ep :=
    ⟨_, Heap.get?_update_self _ ho (Obj.isFreed_of_fields (Obj.data_mapFields hd _)), (Obj.cls_mapFields ..).trans hc, by rw [Obj.data_mapFields hd]; simp [rawInt]⟩
  refine wpAny_bind (wpAny_holding ?_)
  refine wpAny_bind (wpAny_isOneOf_keyiter (s := { s with heap := s.heap.update it (Obj.mapFields (·.setIfInBounds 1 (rawInt ((i : Int) + 1)))) }) hit'.typeIs ?_)
  show wpAny _ _ (pure es[i].key) _ _ _
  rw [hen]
  exact wpAny_pure (wpAny_pure ⟨_, rfl, wpAny_pure (hQ _ hit' (Heap.SameBut.update ..))⟩)
theorem next_key_end {it d : Addr} {i n ep : Nat} {od : Obj} {es : Array DictEntry} {Q : Option Value → Shared → Prop} (hh : A.handled = none) (hit : s.heap.IsKeyIter it d i n ep) (hod : s.heap.get? d = some od) (hdd : od.data = .dict es ep)
    (hsz : es.size = n) (hge : n ≤ i) (hQ : ∀ h', Heap.ExtBut it s.heap h' → Q none { s with heap := h' }) : wpAny (model prog w) A (pyNext (.ref it)) Q E s := by
  obtain ⟨o, ho, hc, hd⟩ := id hit
  unfold pyNext
  refine wpAny_bind (wpAny_attempt (wpAny_callSpecial?_slot (name := Str.ofString "__next__") hit.typeIs F.slot_dict_keyiterator_next
    (wpAny_call_entry F.slot_dict_keyiterator_next hit.typeIs F.entry_dict_keyiterator_next ?_ (F.args_dict_keyiterator_next_1 _))))
  refine wpAny_bind (wpAny_pure ?_)
  refine wpAny_bind ?_
  refine wpAny_bind ?_
  first | refine wpAny_bind (wpAny_typeNameOfWhole_keyiter hit.typeIs (wpAny_pure ?_)) | refine wpAny_bind (wpAny_typeNameOf_keyiter hit.typeIs (wpAny_pure ?_))
  refine wpAny_bind (wpAny_fieldsOf ho hd ?_)
  have hown : Builtin.Dict_items.ownsTuple "dict_keyiterator" = false := by decide
  simp only [hown, Bool.false_eq_true, if_false]
  show wpAny _ _ (if (Value.ref d == Value.none) = true then _ else _) _ _ s
  rw [if_neg (show ¬ ((Value.ref d == Value.none) = true) from Bool.false_ne_true)]
  refine wpAny_bind (wpAny_pure ?_)
  refine wpAny_bind (wpAny_dictEntries hod hdd ?_)
  rw [if_neg (by rw [hsz]; simp)]
  refine wpAny_bind (wpAny_pure ?_)
  refine wpAny_bind (wpAny_dictEpoch hod hdd ?_)
  rw [if_neg (by simp)]
  refine wpAny_pure ?_
  have hge' : es.size ≤ i := by rw [hsz]; exact hge
  simp only [show ¬ ((i : Int) < 0) from by omega, if_false, Int.toNat_natCast, Array.getElem?_eq_none hge']
  refine wpAny_bind ?_
  first | refine wpAny_bind (wpAny_typeNameOfWhole_keyiter hit.typeIs (wpAny_pure ?_)) | refine wpAny_bind (wpAny_typeNameOf_keyiter hit.typeIs (wpAny_pure ?_))
  show wpAny _ _ (setField (.ref it) 0 .none >>= _) _ _ s
  refine wpAny_bind (wpAny_setField ho hd (by simp) ?_)
  show wpAny _ _ (newExc (.type "StopIteration") [] >>= _) _ _ _
  refine wpAny_bind ?_
  simp only [newExc, newTuple]
  refine wpAny_bind (wpAny_newObj_type ?_ (by size_fits))
  refine wpAny_bind (m := firstArgMember _ _) (wpAny_of_eq (a := Value.none) (by first | rfl | (simp only [firstArgMember]; rfl)) ?_)
  refine wpAny_newObj_type ?_ (by size_fits)
  simp only [raiseNew]
  refine wpAny_bind (wpAny_handled ?_)
  rw [show A.in1.handled = none from hh]
  refine wpAny_bind (wpAny_pure (wpAny_throw ?_))
  refine wpAny_bind (wpAny_isInstance (T := "StopIteration") (b := true) ⟨_, Heap.get?_push_size _ rfl, rfl⟩ isSubtype_stop ?_)
  exact wpAny_pure (hQ _ (((Heap.SameBut.update ..).extBut.push _).push _))
end

/-! ### a locked dict -/
theorem kv_get {κ : Type} {kvs : List (κ × V)} {vs : List (κ × Value)} (h : KV kvs vs) : ∀ {i : Nat} {k : κ} {v : V}, kvs[i]? = some (k, v) → ∃ u, vs[i]? = some (k, u) ∧ RelV v u := by
  unfold KV at h
  induction h with
  | nil => intro i k v e; simp at e
  | @cons a b l₁ l₂ r t ih =>
    intro i k v e
    cases i with
    | zero =>
      simp only [List.getElem?_cons_zero, Option.some.injEq] at e
      subst e
      refine ⟨b.2, ?_, r.2⟩
      simp only [List.getElem?_cons_zero]
      exact congrArg some (Prod.ext r.1.symm rfl)
    | succ j =>
      simp only [List.getElem?_cons_succ] at e ⊢
      exact ih e
theorem paired_get {α β : Type} {G : α → β → Prop} {l₁ : List α} {l₂ : List β} (h : Paired G l₁ l₂) : ∀ {i : Nat} {a : α}, l₁[i]? = some a → ∃ b, l₂[i]? = some b ∧ G a b := by
  induction h with
  | nil => intro i a e; simp at e
  | @cons a b l₁ l₂ r t ih =>
    intro i a' e
    cases i with
    | zero =>
      simp only [List.getElem?_cons_zero, Option.some.injEq] at e
      subst e
      exact ⟨b, rfl, r⟩
    | succ j =>
      simp only [List.getElem?_cons_succ] at e ⊢
      exact ih e
theorem relV_key {k : Key} {u : Value} (h : keyIs k u = true) : RelV (kV k) u := by
  rcases keyIs_shape h with ⟨i, t, rfl, rfl⟩ | ⟨x, t, rfl, rfl⟩
  · exact ⟨t, rfl⟩
  · exact ⟨t, rfl⟩
section
variable {X : Cx} {pins : List (Addr × Obj)} {σ : St} {H : Hp} {s : Shared} {d : Addr} {o : Obj}
theorem Inv.frzK {kvs : List (Key × V)} (I : Inv X pins σ H s) (h : H d = some (.frz o (.dK kvs))) :
    (d == sysModules) = false ∧ s.heap.get? d = some o ∧ o.ExactDict ∧ ∃ (es : Array DictEntry) (ep : Nat) (vs : List (Key × Value)), o.data = .dict es ep ∧ es.size = kvs.length ∧ KV kvs vs ∧ s.heap.DictAt (mixKind X.prog X.w) d vs ep := by
  obtain ⟨hd, z, hs, vs, kv, o', es, ep, ho, hx, hdt, r⟩ := I.hok d _ h
  rw [hd] at ho
  cases ho
  refine ⟨hs, hd, hx, es, ep, vs, hdt, ?_, kv, o, es, hd, hx, hdt, r⟩
  have l1 := r.2.1.length
  have l2 : kvs.length = vs.length := Paired.length kv
  rw [Array.length_toList] at l1
  omega
/-- the same for tuple keys -/
theorem Inv.frzT {kvs : List (List Key × V)} (I : Inv X pins σ H s) (h : H d = some (.frz o (.dT kvs))) :
    (d == sysModules) = false ∧ s.heap.get? d = some o ∧ o.ExactDict ∧ ∃ (es : Array DictEntry) (ep : Nat), o.data = .dict es ep ∧ es.size = kvs.length ∧
      ∀ (i : Nat) (k : List Key) (v : V), kvs[i]? = some (k, v) → ∃ (en : DictEntry) (q : Addr), es[i]? = some en ∧ en.key = .ref q ∧ H q = some (.tup (k.map kV)) := by
  obtain ⟨hd, z, hs, xs, pr, o', es, ep, ho, hx, hdt, he, _⟩ := I.hok d _ h
  rw [hd] at ho
  cases ho
  refine ⟨hs, hd, hx, es, ep, hdt, ?_, fun i k v e => ?_⟩
  · have l1 : es.size = xs.length := size_of_entries he
    have l2 : kvs.length = xs.length := Paired.length pr
    omega
  · obtain ⟨b, hb, e1, e2, _⟩ := paired_get pr e
    have q := entry_at he i
    rw [hb] at q
    exact ⟨_, b.2.1, q, rfl, e2⟩
end

/-- the keys of the locked dict at d, in their order -/
def Itk (d : Addr) (o : Obj) (kvs : List (Key × V)) : It :=
  ⟨fun i H => H d = some (.frz o (.dK kvs)) ∧ i < kvs.length, fun i H x H' => H' = H ∧ ∃ k v, kvs[i]? = some (k, v) ∧ x = kV k, fun i H => H d = some (.frz o (.dK kvs)) ∧ kvs.length ≤ i⟩
/-- .. of tuple keys: the key's own tuple -/
def Itkt (d : Addr) (o : Obj) (kvs : List (List Key × V)) : It :=
  ⟨fun i H => H d = some (.frz o (.dT kvs)) ∧ i < kvs.length, fun i H x H' => H' = H ∧ ∃ (k : List Key) (v : V) (q : Addr), kvs[i]? = some (k, v) ∧ x = .ref q ∧ H q = some (.tup (k.map kV)), fun i H => H d = some (.frz o (.dT kvs)) ∧ kvs.length ≤ i⟩
/-- the values -/
def Itd (d : Addr) (o : Obj) (kvs : List (Key × V)) : It :=
  ⟨fun i H => H d = some (.frz o (.dK kvs)) ∧ i < kvs.length, fun i H x H' => H' = H ∧ ∃ k, kvs[i]? = some (k, x), fun i H => H d = some (.frz o (.dK kvs)) ∧ kvs.length ≤ i⟩
/-- the pairs, each a new tuple -/
def Iti (d : Addr) (o : Obj) (kvs : List (Key × V)) : It :=
  ⟨fun i H => H d = some (.frz o (.dK kvs)) ∧ i < kvs.length, fun i H x H' => ∃ T k v, kvs[i]? = some (k, v) ∧ x = .ref T ∧ H T = none ∧ H' = upd H T (.tup [kV k, v]), fun i H => H d = some (.frz o (.dK kvs)) ∧ kvs.length ≤ i⟩
theorem dict_ep {o : Obj} {es es' : Array DictEntry} {ep ep' : Nat} (h : o.data = .dict es ep) (h' : o.data = .dict es' ep') : es' = es ∧ ep' = ep := by
  rw [h] at h'
  cases h'
  exact ⟨rfl, rfl⟩
section
variable {P : Program} {w : World} {K : PySem.W.Frag} {tg : Expr} {d : Addr} {o : Obj} {es : Array DictEntry} {ep : Nat}
theorem turn_keys {kvs : List (Key × V)} (it : Addr) (hod : o.data = .dict es ep) : Turn P w K tg (Itk d o kvs) [it] it (fun i h => h.IsKeyIter it d i kvs.length ep) where
  mem := by simp
  obj := fun i h st b hb => by
    have e : b = it := by simpa using hb
    subst e
    obtain ⟨oi, e, c, dd⟩ := st
    exact ⟨oi, e, fun v z => by rw [dd] at z; cases z⟩
  keep := fun i h h' st k => st.at fun oi e => k it (by simp) oi e
  item := by
    intro X hP hw hK hc i pins s σ H E I hf st hg
    subst hP hw hK
    obtain ⟨hd, hi⟩ := hg
    obtain ⟨f0, f1, f2, f3, f4, f5⟩ := hf it (by simp)
    obtain ⟨hs, hgd, hx, es', ep', vs, hdt, hsz, kv, hm⟩ := I.frzK hd
    obtain ⟨rfl, rfl⟩ := dict_ep hod hdt
    obtain ⟨⟨k, v⟩, hkv⟩ : ∃ p, kvs[i]? = some p := ⟨kvs[i], List.getElem?_eq_getElem hi⟩
    obtain ⟨u, hu, ru⟩ := kv_get kv hkv
    have hl : kvs.length = vs.length := Paired.length kv
    rw [hl] at st
    refine wpAny_pyNext_dict_item st hm hu fun key h' hkey st' sb => ?_
    have I1 : Inv X pins σ H { s with heap := h' } := I.turned (t' := s.toks) (fun b ob hb e => (sb.2 b hb).trans e) f0 f1 f3 f4 f5
    obtain ⟨oi, e, c, dd⟩ := id st'
    refine ⟨key, rfl, go_of (s := { s with heap := h' }) e c dd (by decide) ⟨kV k, H, I1, relV_key (show keyIs k key = true from hkey), ⟨rfl, k, v, hkv, rfl⟩, ?_, fun b hb => (hf b hb).1⟩⟩
    show h'.IsKeyIter it d (i + 1) kvs.length _
    rw [hl]
    exact st'
  done := by
    intro X hP hw hK hc i pins s σ H E I hf st hg
    subst hP hw hK
    obtain ⟨hd, hi⟩ := hg
    obtain ⟨f0, f1, f2, f3, f4, f5⟩ := hf it (by simp)
    obtain ⟨hs, hgd, hx, es', ep', vs, hdt, hsz, kv, hm⟩ := I.frzK hd
    obtain ⟨rfl, rfl⟩ := dict_ep hod hdt
    exact next_key_end (I.ok.hd hc) st hgd hdt hsz hi fun h' eb => ⟨rfl, I.turned (t' := s.toks) (fun b ob hb e => eb b ob hb e) f0 f1 f3 f4 f5⟩
  self := fun A i s Q E st h => wpAny_pyIter_keyiter st h
theorem turn_keysT {kvs : List (List Key × V)} (it : Addr) (hod : o.data = .dict es ep) : Turn P w K tg (Itkt d o kvs) [it] it (fun i h => h.IsKeyIter it d i kvs.length ep) where
  mem := by simp
  obj := fun i h st b hb => by
    have e : b = it := by simpa using hb
    subst e
    obtain ⟨oi, e, c, dd⟩ := st
    exact ⟨oi, e, fun v z => by rw [dd] at z; cases z⟩
  keep := fun i h h' st k => st.at fun oi e => k it (by simp) oi e
  item := by
    intro X hP hw hK hc i pins s σ H E I hf st hg
    subst hP hw hK
    obtain ⟨hd, hi⟩ := hg
    obtain ⟨f0, f1, f2, f3, f4, f5⟩ := hf it (by simp)
    obtain ⟨hs, hgd, hx, es', ep', hdt, hsz, ent⟩ := I.frzT hd
    obtain ⟨rfl, rfl⟩ := dict_ep hod hdt
    obtain ⟨⟨k, v⟩, hkv⟩ : ∃ p, kvs[i]? = some p := ⟨kvs[i], List.getElem?_eq_getElem hi⟩
    obtain ⟨en, q, hen, hkey, hq⟩ := ent i k v hkv
    refine next_key_item st hgd hdt hsz hen fun h' st' sb => ?_
    have I1 : Inv X pins σ H { s with heap := h' } := I.turned (t' := s.toks) (fun b ob hb e => (sb.2 b hb).trans e) f0 f1 f3 f4 f5
    obtain ⟨oi, e, c, dd⟩ := id st'
    exact ⟨en.key, rfl, go_of (s := { s with heap := h' }) e c dd (by decide) ⟨.ref q, H, I1, hkey, ⟨rfl, k, v, q, hkv, rfl, hq⟩, st', fun b hb => (hf b hb).1⟩⟩
  done := by
    intro X hP hw hK hc i pins s σ H E I hf st hg
    subst hP hw hK
    obtain ⟨hd, hi⟩ := hg
    obtain ⟨f0, f1, f2, f3, f4, f5⟩ := hf it (by simp)
    obtain ⟨hs, hgd, hx, es', ep', hdt, hsz, ent⟩ := I.frzT hd
    obtain ⟨rfl, rfl⟩ := dict_ep hod hdt
    exact next_key_end (I.ok.hd hc) st hgd hdt hsz hi fun h' eb => ⟨rfl, I.turned (t' := s.toks) (fun b ob hb e => eb b ob hb e) f0 f1 f3 f4 f5⟩
  self := fun A i s Q E st h => by
    refine wpAny_pyIter_slot st.typeIs F.slot_dict_keyiterator_iter (wpAny_call_entry F.slot_dict_keyiterator_iter st.typeIs F.entry_dict_keyiterator_iter ?_ (F.args_dict_keyiterator_iter_1 _))
    show wpAny _ _ (ret (.ref it)) _ _ s
    exact wpAny_pure ⟨_, rfl, "dict_keyiterator", _, st.typeIs, F.slot_dict_keyiterator_next.lookup, h⟩
theorem turn_vals {kvs : List (Key × V)} (it : Addr) (hod : o.data = .dict es ep) : Turn P w K tg (Itd d o kvs) [it] it (fun i h => h.IsValIter it d i kvs.length ep) where
  mem := by simp
  obj := fun i h st b hb => by
    have e : b = it := by simpa using hb
    subst e
    obtain ⟨oi, e, c, dd⟩ := st
    exact ⟨oi, e, fun v z => by rw [dd] at z; cases z⟩
  keep := fun i h h' st k => st.at fun oi e => k it (by simp) oi e
  item := by
    intro X hP hw hK hc i pins s σ H E I hf st hg
    subst hP hw hK
    obtain ⟨hd, hi⟩ := hg
    obtain ⟨f0, f1, f2, f3, f4, f5⟩ := hf it (by simp)
    obtain ⟨hs, hgd, hx, es', ep', vs, hdt, hsz, kv, hm⟩ := I.frzK hd
    obtain ⟨rfl, rfl⟩ := dict_ep hod hdt
    obtain ⟨⟨k, v⟩, hkv⟩ : ∃ p, kvs[i]? = some p := ⟨kvs[i], List.getElem?_eq_getElem hi⟩
    obtain ⟨u, hu, ru⟩ := kv_get kv hkv
    have hl : kvs.length = vs.length := Paired.length kv
    rw [hl] at st
    refine wpAny_pyNext_values_item st hm hu fun h' st' sb => ?_
    have I1 : Inv X pins σ H { s with heap := h' } := I.turned (t' := s.toks) (fun b ob hb e => (sb.2 b hb).trans e) f0 f1 f3 f4 f5
    obtain ⟨oi, e, c, dd⟩ := id st'
    refine ⟨u, rfl, go_of (s := { s with heap := h' }) e c dd (by decide) ⟨v, H, I1, ru, ⟨rfl, k, hkv⟩, ?_, fun b hb => (hf b hb).1⟩⟩
    show h'.IsValIter it d (i + 1) kvs.length _
    rw [hl]
    exact st'
  done := by
    intro X hP hw hK hc i pins s σ H E I hf st hg
    subst hP hw hK
    obtain ⟨hd, hi⟩ := hg
    obtain ⟨f0, f1, f2, f3, f4, f5⟩ := hf it (by simp)
    obtain ⟨hs, hgd, hx, es', ep', vs, hdt, hsz, kv, hm⟩ := I.frzK hd
    obtain ⟨rfl, rfl⟩ := dict_ep hod hdt
    have hl : kvs.length = vs.length := Paired.length kv
    rw [hl] at st
    exact wpAny_pyNext_values_end (I.ok.hd hc) st hm (List.getElem?_eq_none (by omega)) fun h' eb => ⟨rfl, I.turned (t' := s.toks) (fun b ob hb e => eb b ob hb e) f0 f1 f3 f4 f5⟩
  self := fun A i s Q E st h => wpAny_pyIter_valiter st h
theorem turn_items {kvs : List (Key × V)} {elts : List Expr} {kk : Nat} {tpos : Pos} (it : Addr) (hod : o.data = .dict es ep) :
    Turn P w K (.Tuple elts kk tpos) (Iti d o kvs) [it] it (fun i h => ∃ ok ov, IsItemIter h it d i kvs.length ep ok ov) where
  mem := by simp
  obj := fun i h st b hb => by
    have e : b = it := by simpa using hb
    subst e
    obtain ⟨ok, ov, e⟩ := st
    exact ⟨_, e, fun v z => nomatch z⟩
  keep := fun i h h' st k => let ⟨ok, ov, e⟩ := st; ⟨ok, ov, k it (by simp) _ e⟩
  item := by
    intro X hP hw hK hc i pins s σ H E I hf st hg
    subst hP hw hK
    obtain ⟨hd, hi⟩ := hg
    obtain ⟨hs, hgd, hx, es', ep', vs, hdt, hsz, kv, hm⟩ := I.frzK hd
    obtain ⟨rfl, rfl⟩ := dict_ep hod hdt
    obtain ⟨⟨k, v⟩, hkv⟩ : ∃ p, kvs[i]? = some p := ⟨kvs[i], List.getElem?_eq_getElem hi⟩
    obtain ⟨u, hu, ru⟩ := kv_get kv hkv
    have hl : kvs.length = vs.length := Paired.length kv
    obtain ⟨ok, ov, he⟩ := st
    rw [hl] at he
    have hlt : it < s.heap.objs.size := Heap.lt_size he
    refine wpAny_pyNext_items_item he hm hu fun key h' hkey ho hT hz hk => ?_
    refine ⟨_, rfl, wpAny_letOwnedTupleGo_items (s := { s with heap := h' }) ho fun h'' he' sb => ?_⟩
    have hT2 : h''.get? s.heap.objs.size = some { cls := .type "tuple", data := .seq #[key, u] } := (sb.2 _ (Nat.ne_of_gt hlt)).trans hT
    have new : ObjOk X.prog X.w (upd H s.heap.objs.size (.tup [kV k, v])) h'' s.heap.objs.size (.tup [kV k, v]) :=
      ⟨by show 2 ≤ sizeLine; decide, [key, u], .cons (relV_key (show keyIs k key = true from hkey)) (.cons ru .nil), ⟨_, hT2, rfl, _, rfl⟩⟩
    have I1 : Inv X pins σ (upd H s.heap.objs.size (.tup [kV k, v])) { s with heap := h'' } :=
      I.turnedNew (t' := s.toks) (ch := [it]) (fun b ob hb e => (sb.2 b (by simpa using hb)).trans (hk b ob (by simpa using hb) e)) hf (Nat.le_refl _) new
    refine ⟨.ref s.heap.objs.size, _, I1, rfl, ⟨_, k, v, hkv, rfl, I.hok.fresh (Nat.le_refl _), rfl⟩, ⟨key, u, ?_⟩, fun b hb => ?_⟩
    · rw [hl]; exact he'
    · have e : b = it := by simpa using hb
      rw [e, upd_ne (Nat.ne_of_lt hlt)]
      exact (hf it (by simp)).1
  done := by
    intro X hP hw hK hc i pins s σ H E I hf st hg
    subst hP hw hK
    obtain ⟨hd, hi⟩ := hg
    obtain ⟨f0, f1, f2, f3, f4, f5⟩ := hf it (by simp)
    obtain ⟨hs, hgd, hx, es', ep', vs, hdt, hsz, kv, hm⟩ := I.frzK hd
    obtain ⟨rfl, rfl⟩ := dict_ep hod hdt
    have hl : kvs.length = vs.length := Paired.length kv
    obtain ⟨ok, ov, he⟩ := st
    rw [hl] at he
    exact wpAny_pyNext_items_end (I.ok.hd hc) he hm (List.getElem?_eq_none (by omega)) fun h' eb => ⟨rfl, I.turned (t' := s.toks) (fun b ob hb e => eb b ob hb e) f0 f1 f3 f4 f5⟩
  self := fun A i s Q E st h => let ⟨_, _, e⟩ := st; PySem.W.kcp_self e h
end

/-! ### for k in d, d.keys(), d.values(), d.items() -/
/-- the dict is locked (tLock, or by the caller) -/
def iKeys (td : TE) : TI := fun σ H R => td σ H fun x H1 => ∃ d o, x = .ref d ∧ ((∃ kvs, H1 d = some (.frz o (.dK kvs)) ∧ R (Itk d o kvs) H1) ∨ ∃ kvs, H1 d = some (.frz o (.dT kvs)) ∧ R (Itkt d o kvs) H1)
def iVals (td : TE) : TI := fun σ H R => td σ H fun x H1 => ∃ d o kvs, x = .ref d ∧ H1 d = some (.frz o (.dK kvs)) ∧ R (Itd d o kvs) H1
def iItems (td : TE) : TI := fun σ H R => td σ H fun x H1 => ∃ d o kvs, x = .ref d ∧ H1 d = some (.frz o (.dK kvs)) ∧ R (Iti d o kvs) H1
def iKeysM (td : TE) : TI := fun σ H R => td σ H fun x H1 => ∃ d o kvs, x = .ref d ∧ H1 d = some (.frz o (.dK kvs)) ∧ R (Itk d o kvs) H1
section
variable {X : Cx} {tg e : Expr} {td : TE} {apos cpos : Pos}
theorem pi_keys (he : PE X e td) : PI X tg e (iKeys td) := by
  intro pins s σ H R I h
  refine thn (he pins s σ H _ I h) fun u s1 ⟨x, H1, I1, rx, d, o, ex, q⟩ => ?_
  subst ex
  obtain rfl : u = Value.ref d := rx
  rcases q with ⟨kvs, hd, q⟩ | ⟨kvs, hd, q⟩
  · obtain ⟨hs, hgd, hx, es, ep, vs, hdt, hsz, kv, hm⟩ := I1.frzK hd
    refine iter_keys hs hgd hx hdt (pi_one (tk := s1.toks) I1 _ (turn_keys _ hdt) ⟨_, Heap.get?_push_size _ rfl, rfl, ?_⟩ q)
    rw [hsz] <;> rfl
  · obtain ⟨hs, hgd, hx, es, ep, hdt, hsz, ent⟩ := I1.frzT hd
    refine iter_keys hs hgd hx hdt (pi_one (tk := s1.toks) I1 _ (turn_keysT _ hdt) ⟨_, Heap.get?_push_size _ rfl, rfl, ?_⟩ q)
    rw [hsz] <;> rfl
theorem pi_values (he : PE X e td) (hbase : attributeBase e "values" X.env (eval e X.env) = eval e X.env := by rfl) (hline : (apos.endLine == cpos.line) = true := by rfl) : PI X tg (.Call (.Attribute e "values" apos) [] [] cpos) (iVals td) := by
  intro pins s σ H R I h
  refine wpAny_Call_method (T := "dict") (id := "dict.values") hbase rfl hline F.plainAttrs_dict F.slot_dict_values F.type_dict_values (thn (he pins s σ H _ I h) fun u s1 ⟨x, H1, I1, rx, d, o, kvs, ex, hd, q⟩ => ?_)
  subst ex
  obtain rfl : u = Value.ref d := rx
  obtain ⟨hs, hgd, hx, es, ep, vs, hdt, hsz, kv, hm⟩ := I1.frzK hd
  have hl : kvs.length = vs.length := Paired.length kv
  refine ⟨hm.dictOf.typeIs, hm.dictOf.mapOf.noDict, ?_⟩
  have I2 : Inv X pins σ H1 { s1 with heap := s1.heap.push { cls := .type "dict_values", data := .fields #[.ref d] } } := I1.kept (t' := s1.toks) fun b ob q => Heap.get?_push_of_some _ q
  have fin : wpAny (model X.prog X.w) X.A (pyIter (.ref s1.heap.objs.size)) (PIE X pins σ tg R) X.xe { s1 with heap := s1.heap.push { cls := .type "dict_values", data := .fields #[.ref d] } } := by
    refine wpAny_pyIter_values (d := d) (knd := mixKind X.prog X.w) ⟨_, Heap.get?_push_size _ rfl, rfl, rfl⟩ (hm.push _) (pi_one (tk := s1.toks) I2 _ (turn_vals _ hdt) ⟨_, Heap.get?_push_size _ rfl, rfl, ?_⟩ q)
    rw [hl] <;> rfl
  show wpAny _ _ (callWith cpos (.builtin "dict.values") [.ref d] [] []) _ X.xe s1
  exact method_meetsIn F.slot_dict_values F.entry_dict_values rfl (PySem.evalArgs_none ⟨rfl, hm.dictOf.typeIs, F.args_dict_values_1 _, _, meets_dict_values (mixKind X.prog X.w) d hs, ⟨vs, hm.dictOf⟩, fin⟩)
theorem pi_items {elts : List Expr} {kk : Nat} {tpos : Pos} (he : PE X e td) (hbase : attributeBase e "items" X.env (eval e X.env) = eval e X.env := by rfl) (hline : (apos.endLine == cpos.line) = true := by rfl) :
    PI X (.Tuple elts kk tpos) (.Call (.Attribute e "items" apos) [] [] cpos) (iItems td) := by
  intro pins s σ H R I h
  refine wpAny_Call_method (T := "dict") (id := "dict.items") hbase rfl hline F.plainAttrs_dict F.slot_dict_items F.type_dict_items (thn (he pins s σ H _ I h) fun u s1 ⟨x, H1, I1, rx, d, o, kvs, ex, hd, q⟩ => ?_)
  subst ex
  obtain rfl : u = Value.ref d := rx
  obtain ⟨hs, hgd, hx, es, ep, vs, hdt, hsz, kv, hm⟩ := I1.frzK hd
  have hl : kvs.length = vs.length := Paired.length kv
  refine ⟨hm.dictOf.typeIs, hm.dictOf.mapOf.noDict, ?_⟩
  have I2 : Inv X pins σ H1 { s1 with heap := s1.heap.push { cls := .type "dict_items", data := .fields #[.ref d] } } := I1.kept (t' := s1.toks) fun b ob q => Heap.get?_push_of_some _ q
  have fin : wpAny (model X.prog X.w) X.A (pyIter (.ref s1.heap.objs.size)) (PIE X pins σ (.Tuple elts kk tpos) R) X.xe { s1 with heap := s1.heap.push { cls := .type "dict_items", data := .fields #[.ref d] } } := by
    refine wpAny_pyIter_items (d := d) (knd := mixKind X.prog X.w) ⟨_, Heap.get?_push_size _ rfl, rfl, rfl⟩ (hm.push _) (pi_one (tk := s1.toks) I2 _ (turn_items _ hdt) ⟨.none, .none, ?_⟩ q)
    rw [hl]
    exact Heap.get?_push_size _ rfl
  show wpAny _ _ (callWith cpos (.builtin "dict.items") [.ref d] [] []) _ X.xe s1
  exact method_meetsIn F.slot_dict_items F.entry_dict_items rfl (PySem.evalArgs_none ⟨rfl, hm.dictOf.typeIs, F.args_dict_items_1 _, _, meets_dict_items (mixKind X.prog X.w) d hs, ⟨vs, hm.dictOf⟩, fin⟩)
theorem pi_keysM (he : PE X e td) (hbase : attributeBase e "keys" X.env (eval e X.env) = eval e X.env := by rfl) (hline : (apos.endLine == cpos.line) = true := by rfl) : PI X tg (.Call (.Attribute e "keys" apos) [] [] cpos) (iKeysM td) := by
  intro pins s σ H R I h
  refine wpAny_Call_method (T := "dict") (id := "dict.keys") hbase rfl hline F.plainAttrs_dict F.slot_dict_keys F.type_dict_keys (thn (he pins s σ H _ I h) fun u s1 ⟨x, H1, I1, rx, d, o, kvs, ex, hd, q⟩ => ?_)
  subst ex
  obtain rfl : u = Value.ref d := rx
  obtain ⟨hs, hgd, hx, es, ep, vs, hdt, hsz, kv, hm⟩ := I1.frzK hd
  have hl : kvs.length = vs.length := Paired.length kv
  refine ⟨hm.dictOf.typeIs, hm.dictOf.mapOf.noDict, ?_⟩
  have I2 : Inv X pins σ H1 { s1 with heap := s1.heap.push { cls := .type "dict_keys", data := .fields #[.ref d] } } := I1.kept (t' := s1.toks) fun b ob q => Heap.get?_push_of_some _ q
  have fin : wpAny (model X.prog X.w) X.A (pyIter (.ref s1.heap.objs.size)) (PIE X pins σ tg R) X.xe { s1 with heap := s1.heap.push { cls := .type "dict_keys", data := .fields #[.ref d] } } := by
    refine PySem.W.kdl_pyIter_keys (d := d) (knd := mixKind X.prog X.w) ⟨_, Heap.get?_push_size _ rfl, rfl, rfl⟩ (hm.push _) (pi_one (tk := s1.toks) I2 _ (turn_keys _ hdt) ⟨_, Heap.get?_push_size _ rfl, rfl, ?_⟩ q)
    rw [hl] <;> rfl
  show wpAny _ _ (callWith cpos (.builtin "dict.keys") [.ref d] [] []) _ X.xe s1
  exact method_meetsIn F.slot_dict_keys F.entry_dict_keys rfl (PySem.evalArgs_none ⟨rfl, hm.dictOf.typeIs, F.args_dict_keys_1 _, _, PySem.W.kdl_meets_keys (mixKind X.prog X.w) d hs, ⟨vs, hm.dictOf⟩, fin⟩)
end

/-! ### enumerate(list) -/
/-- the list at a as it stands at each turn, each item in a new pair -/
def Ite (K : PySem.W.Frag) (a : Addr) : It :=
  ⟨fun i H => ∃ (xs : List V) (x : V), SqL K H a xs ∧ xs[i]? = some x, fun i H v H' => ∃ T x, v = .ref T ∧ H T = none ∧ H' = upd H T (.tup [.int (i : Nat), x]) ∧ ∀ xs, SqL K H a xs → xs[i]? = some x, fun i H => ∃ xs : List V, SqL K H a xs ∧ xs.length ≤ i⟩
theorem turn_enum {P : Program} {w : World} {K : PySem.W.Frag} {elts : List Expr} {kk : Nat} {tpos : Pos} (a e it : Addr) :
    Turn P w K (.Tuple elts kk tpos) (Ite K a) [e, it] e (fun i h => (∃ old, IsEnum h e it ((i : Nat) : Int) old) ∧ h.IsListIter it a i ∧ e ≠ it) where
  mem := by simp
  obj := fun i h st b hb => by
    obtain ⟨⟨old, he⟩, ⟨o, ho, hc, hd⟩, _⟩ := st
    have e' : b = e ∨ b = it := by simpa using hb
    rcases e' with z | z
    · rw [z]; exact ⟨_, he, fun v q => nomatch q⟩
    · rw [z]; exact ⟨o, ho, fun v q => by rw [hd] at q; cases q⟩
  keep := fun i h h' st k => let ⟨⟨old, he⟩, hi, hne⟩ := st; ⟨⟨old, k e (by simp) _ he⟩, hi.at fun o q => k it (by simp) o q, hne⟩
  item := by
    intro X hP hw hK hc i pins s σ H E I hf st hg
    subst hP hw hK
    obtain ⟨⟨old, he⟩, hit, hne⟩ := st
    obtain ⟨xs, x, hq, hx⟩ := hg
    obtain ⟨its, rv, p, hz⟩ := I.list hq
    obtain ⟨u, hu, ru⟩ := rv.get hx
    have hel : e < s.heap.objs.size := Heap.lt_size he
    have hil : it < s.heap.objs.size := by obtain ⟨_, q, _⟩ := hit; exact Heap.lt_size q
    refine wpAny_pyNext_enum_item he hit p.isList (x := u) (by simpa using hu) hne fun h' ho hit' hT hsz hk => ?_
    refine ⟨_, rfl, wpAny_letOwnedTupleGo_enum (s := { s with heap := h', toks := s.toks + 1 }) ho fun h'' he' sb => ?_⟩
    have hT2 : h''.get? s.heap.objs.size = some { cls := .type "tuple", data := .seq #[.int i s.toks, u] } := (sb.2 _ (Nat.ne_of_gt hel)).trans hT
    have new : ObjOk X.prog X.w (upd H s.heap.objs.size (.tup [.int (i : Nat), x])) h'' s.heap.objs.size (.tup [.int (i : Nat), x]) :=
      ⟨by show 2 ≤ sizeLine; decide, [.int i s.toks, u], .cons ⟨_, rfl⟩ (.cons ru .nil), ⟨_, hT2, rfl, _, rfl⟩⟩
    have I1 : Inv X pins σ (upd H s.heap.objs.size (.tup [.int (i : Nat), x])) { s with heap := h'', toks := s.toks + 1 } :=
      I.turnedNew (ch := [e, it]) (fun b ob hb q => (sb.2 b (fun z => hb (by simp [z]))).trans (hk b ob (fun z => hb (by simp [z])) (fun z => hb (by simp [z])) q)) hf (Nat.le_refl _) new
    refine ⟨.ref s.heap.objs.size, _, I1, rfl, ⟨_, x, rfl, I.hok.fresh (Nat.le_refl _), rfl, fun ys hy => by rw [I.list_inj hy hq]; exact hx⟩, ⟨⟨u, ?_⟩, hit'.at fun o q => (sb.2 it (Ne.symm hne)).trans q, hne⟩, fun b hb => ?_⟩
    · have e1 : ((i + 1 : Nat) : Int) = (i : Int) + 1 := by omega
      rw [e1]; exact he'
    · have hb' : b < s.heap.objs.size := by
        have e' : b = e ∨ b = it := by simpa using hb
        rcases e' with z | z
        · rw [z]; exact hel
        · rw [z]; exact hil
      rw [upd_ne (Nat.ne_of_lt hb')]
      exact (hf b hb).1
  done := by
    intro X hP hw hK hc i pins s σ H E I hf st hg
    subst hP hw hK
    obtain ⟨⟨old, he⟩, hit, hne⟩ := st
    obtain ⟨xs, hq, hx⟩ := hg
    obtain ⟨its, rv, p, hz⟩ := I.list hq
    obtain ⟨f0, f1, f2, f3, f4, f5⟩ := hf it (by simp)
    have hl := rv.length
    exact wpAny_pyNext_enum_end (I.ok.hd hc) he hit p.isList (by simp; omega) fun h' eb => ⟨rfl, I.turned (t' := s.toks) (fun b o hb q => eb b o hb q) f0 f1 f3 f4 f5⟩
  self := fun A i s Q E st h => let ⟨⟨_, he⟩, _⟩ := st; wpAny_pyIter_enum he h
def iEnum (K : PySem.W.Frag) (ta : TA) : TI := fun σ H R => ta σ H fun vs H1 => ∃ a xs, vs = [.ref a] ∧ SqL K H1 a xs ∧ R (Ite K a) H1
theorem pi_enum {X : Cx} {e : Expr} {ta : TA} {p pos tpos : Pos} {elts : List Expr} {kk : Nat} (hg : Gl X "enumerate") (hm : X.mg "enumerate" = none) (ha : PA X [e] ta) (hs : starEach [e] X.env = [(false, eval e X.env)] := by rfl) :
    PI X (.Tuple elts kk tpos) (.Call (.Name "enumerate" p) [e] [] pos) (iEnum X.K ta) := by
  intro pins s σ H R I h
  refine Call_ (ld_blt I hg hm boot_enumerate (PyProof.Rows.callWith_type1 (thn (ha pos pins s σ H _ I h) fun us s1 ⟨vs, H1, I1, r1, q1⟩ => ?_) hs rfl))
  obtain ⟨a, xs, ex, hq, q⟩ := q1
  subst ex
  cases r1 with
  | cons r rr =>
    cases rr
    cases r
    obtain ⟨its, rv, p', hz⟩ := I1.list hq
    refine call_enumerate_list p'.isList fun h' he hit hsz hk => wpAny_pyIter_enum he ?_
    have I2 : Inv X pins σ H1 { s1 with heap := h' } := I1.kept (t' := s1.toks) hk
    refine ⟨s1.heap.objs.size + 1, [s1.heap.objs.size + 1, s1.heap.objs.size], _, _, H1, rfl, I2, turn_enum a (s1.heap.objs.size + 1) s1.heap.objs.size, ⟨⟨.none, he⟩, hit, Nat.succ_ne_self _⟩, fun b hb => ?_, q⟩
    have e' : b = s1.heap.objs.size + 1 ∨ b = s1.heap.objs.size := by simpa using hb
    have hle : s1.heap.objs.size ≤ b := by
      rcases e' with z | z
      · rw [z]; exact Nat.le_add_right _ _
      · rw [z]; exact Nat.le_refl _
    exact I1.fpOk hle (I1.hok.fresh hle)
/-! ### zip(list, list) -/
theorem boot_zip5 : bootBuiltins "zip" = some (.type "zip") := by decide +kernel
/-- the lists at a and b as they stand at each turn, the items in new pairs -/
def Itz (K : PySem.W.Frag) (a b : Addr) : It :=
  ⟨fun i H => ∃ (xs ys : List V) (x y : V), SqL K H a xs ∧ SqL K H b ys ∧ xs[i]? = some x ∧ ys[i]? = some y,
    fun i H v H' => ∃ T x y, v = .ref T ∧ H T = none ∧ H' = upd H T (.tup [x, y]) ∧ (∀ xs, SqL K H a xs → xs[i]? = some x) ∧ ∀ ys, SqL K H b ys → ys[i]? = some y,
    fun i H => ∃ xs ys : List V, SqL K H a xs ∧ SqL K H b ys ∧ (xs.length ≤ i ∨ ys.length ≤ i)⟩
theorem turn_zip {P : Program} {w : World} {K : PySem.W.Frag} {elts : List Expr} {kk : Nat} {tpos : Pos} {a b z TI TO i1 i2 : Addr} (D : ZipApart z TI TO i1 i2 a b) :
    Turn P w K (.Tuple elts kk tpos) (Itz K a b) [z, TI, TO, i1, i2] z (fun i h => IsZip h z TI TO .none ∧ IsPair h TI (.ref i1) (.ref i2) ∧ (∃ x y, IsPair h TO x y) ∧ h.IsListIter i1 a i ∧ h.IsListIter i2 b i) where
  mem := by simp
  obj := fun i h st c hc => by
    obtain ⟨hz, hTI, ⟨x, y, hTO⟩, ⟨o1, e1, _, d1⟩, ⟨o2, e2, _, d2⟩⟩ := st
    have e' : c = z ∨ c = TI ∨ c = TO ∨ c = i1 ∨ c = i2 := by simpa using hc
    rcases e' with q | q | q | q | q
    · rw [q]; exact ⟨_, hz, fun v q => nomatch q⟩
    · rw [q]; exact ⟨_, hTI, fun v q => nomatch q⟩
    · rw [q]; exact ⟨_, hTO, fun v q => nomatch q⟩
    · rw [q]; exact ⟨o1, e1, fun v q => by rw [d1] at q; cases q⟩
    · rw [q]; exact ⟨o2, e2, fun v q => by rw [d2] at q; cases q⟩
  keep := fun i h h' st k => by
    obtain ⟨hz, hTI, ⟨x, y, hTO⟩, h1, h2⟩ := st
    exact ⟨k z (by simp) _ hz, k TI (by simp) _ hTI, ⟨x, y, k TO (by simp) _ hTO⟩, h1.at fun o q => k i1 (by simp) o q, h2.at fun o q => k i2 (by simp) o q⟩
  item := by
    intro X hP hw hK hc i pins s σ H E I hf st hg
    subst hP hw hK
    obtain ⟨hz, hTI, ⟨x0, y0, hTO⟩, h1, h2⟩ := st
    obtain ⟨xs, ys, x, y, hqx, hqy, hx, hy⟩ := hg
    obtain ⟨its, rv, p, _⟩ := I.list hqx
    obtain ⟨its2, rv2, p2, _⟩ := I.list hqy
    obtain ⟨u, hu, ru⟩ := rv.get hx
    obtain ⟨u2, hu2, ru2⟩ := rv2.get hy
    have hzl : z < s.heap.objs.size := Heap.lt_size hz
    refine wpAny_pyNext_zip_item D hz hTI hTO h1 h2 p.isList p2.isList (x := u) (y := u2) (by simpa using hu) (by simpa using hu2) fun h' z' TO' h1' h2' hT hsz hk => ?_
    refine ⟨_, rfl, wpAny_letOwnedTupleGo_zip (s := { s with heap := h' }) z' fun h'' z'' sb => ?_⟩
    have hT2 : h''.get? s.heap.objs.size = some { cls := .type "tuple", data := .seq #[u, u2] } := (sb.2 _ (Nat.ne_of_gt hzl)).trans hT
    have new : ObjOk X.prog X.w (upd H s.heap.objs.size (.tup [x, y])) h'' s.heap.objs.size (.tup [x, y]) :=
      ⟨by show 2 ≤ sizeLine; decide, [u, u2], .cons ru (.cons ru2 .nil), ⟨_, hT2, rfl, _, rfl⟩⟩
    have I1 : Inv X pins σ (upd H s.heap.objs.size (.tup [x, y])) { s with heap := h'' } :=
      I.turnedNew (t' := s.toks) (ch := [z, TI, TO, i1, i2]) (fun c o hb q => (sb.2 c (fun q' => hb (by simp [q']))).trans (hk c o (fun q' => hb (by simp [q'])) (fun q' => hb (by simp [q'])) (fun q' => hb (by simp [q'])) (fun q' => hb (by simp [q'])) q)) hf (Nat.le_refl _) new
    refine ⟨.ref s.heap.objs.size, _, I1, rfl, ⟨_, x, y, rfl, I.hok.fresh (Nat.le_refl _), rfl, fun l hl => by rw [I.list_inj hl hqx]; exact hx, fun l hl => by rw [I.list_inj hl hqy]; exact hy⟩, ⟨z'', ?_, ⟨u, u2, ?_⟩, ?_, ?_⟩, fun c hcm => ?_⟩
    · exact (sb.2 _ D.TIz).trans (hk _ _ D.TIz D.TITO D.TIi1 D.TIi2 hTI)
    · exact (sb.2 _ D.TOz).trans TO'
    · exact h1'.at fun o q => (sb.2 _ D.i1z).trans q
    · exact h2'.at fun o q => (sb.2 _ D.i2z).trans q
    · have hlt : c < s.heap.objs.size := by
        have e' : c = z ∨ c = TI ∨ c = TO ∨ c = i1 ∨ c = i2 := by simpa using hcm
        rcases e' with q | q | q | q | q
        · rw [q]; exact hzl
        · rw [q]; exact Heap.lt_size hTI
        · rw [q]; exact Heap.lt_size hTO
        · rw [q]; obtain ⟨_, e1, _⟩ := h1; exact Heap.lt_size e1
        · rw [q]; obtain ⟨_, e2, _⟩ := h2; exact Heap.lt_size e2
      rw [upd_ne (Nat.ne_of_lt hlt)]
      exact (hf c hcm).1
  done := by
    intro X hP hw hK hc i pins s σ H E I hf st hg
    subst hP hw hK
    obtain ⟨hz, hTI, ⟨x0, y0, hTO⟩, h1, h2⟩ := st
    obtain ⟨xs, ys, hqx, hqy, hend⟩ := hg
    obtain ⟨its, rv, p, _⟩ := I.list hqx
    obtain ⟨its2, rv2, p2, _⟩ := I.list hqy
    have l1 := rv.length
    have l2 := rv2.length
    have he : its.toArray[i]? = none ∨ its2.toArray[i]? = none := by
      rcases hend with q | q
      · exact .inl (by simp; omega)
      · exact .inr (by simp; omega)
    exact wpAny_pyNext_zip_end (I.ok.hd hc) D hz hTI hTO h1 h2 p.isList p2.isList he fun h' hk => ⟨rfl, I.turnedL (t' := s.toks) (ch := [z, TI, TO, i1, i2]) (fun c o hb q =>
      hk c o (fun q' => hb (by simp [q'])) (fun q' => hb (by simp [q'])) (fun q' => hb (by simp [q'])) (fun q' => hb (by simp [q'])) q) hf⟩
  self := fun A i s Q E st h => wpAny_pyIter_zip st.1 h
def iZip (K : PySem.W.Frag) (ta : TA) : TI := fun σ H R => ta σ H fun vs H1 => ∃ a b xs ys, vs = [.ref a, .ref b] ∧ SqL K H1 a xs ∧ SqL K H1 b ys ∧ R (Itz K a b) H1
theorem pi_zip {X : Cx} {e e2 : Expr} {ta : TA} {p pos tpos : Pos} {elts : List Expr} {kk : Nat} (hg : Gl X "zip") (hm : X.mg "zip" = none) (ha : PA X [e, e2] ta)
    (hs : starEach [e, e2] X.env = (false, eval e X.env) :: starEach [e2] X.env := by rfl) (hpl : (backTo pos (starEach [e2] X.env)).any (·.1) = false := by rfl) :
    PI X (.Tuple elts kk tpos) (.Call (.Name "zip" p) [e, e2] [] pos) (iZip X.K ta) := by
  intro pins s σ H R I h
  refine Call_ (ld_blt I hg hm boot_zip5 (PyProof.Rows.callWith_type1 (thn (ha pos pins s σ H _ I h) fun us s1 ⟨vs, H1, I1, r1, q1⟩ => ?_) hs hpl))
  obtain ⟨a, b, xs, ys, ex, hqx, hqy, q⟩ := q1
  subst ex
  cases r1 with
  | cons r rr =>
    cases rr with
    | cons r' rr =>
      cases rr
      cases r
      cases r'
      obtain ⟨its, rv, p1, _⟩ := I1.list hqx
      obtain ⟨its2, rv2, p2, _⟩ := I1.list hqy
      have la : a < s1.heap.objs.size := p1.lt
      have lb : b < s1.heap.objs.size := p2.lt
      refine call_zip_2 p1.isList p2.isList fun h' hz hTI hTO h1 h2 hsz hk => wpAny_pyIter_zip hz ?_
      have I2 : Inv X pins σ H1 { s1 with heap := h' } := I1.kept (t' := s1.toks) hk
      refine ⟨s1.heap.objs.size + 4, [s1.heap.objs.size + 4, s1.heap.objs.size + 2, s1.heap.objs.size + 3, s1.heap.objs.size, s1.heap.objs.size + 1], _, _, H1, rfl, I2, turn_zip (PySem.W.ktu_apart s1.heap.objs.size a b la lb), ⟨hz, hTI, ⟨_, _, hTO⟩, h1, h2⟩, fun c hcm => ?_, q⟩
      have e' : c = s1.heap.objs.size + 4 ∨ c = s1.heap.objs.size + 2 ∨ c = s1.heap.objs.size + 3 ∨ c = s1.heap.objs.size ∨ c = s1.heap.objs.size + 1 := by simpa using hcm
      have hle : s1.heap.objs.size ≤ c := by
        rcases e' with z | z | z | z | z
        · rw [z]; exact Nat.le_add_right _ _
        · rw [z]; exact Nat.le_add_right _ _
        · rw [z]; exact Nat.le_add_right _ _
        · rw [z]; exact Nat.le_refl _
        · rw [z]; exact Nat.le_add_right _ _
      exact I1.fpOk hle (I1.hok.fresh hle)
end L2

section 
namespace Bits
open PySem PyProof.Rows

theorem nat_and_mul_pow (k : Nat) : ∀ a b : Nat, a < 2 ^ k → a &&& (b * 2 ^ k) = 0 := by
  induction k with
  | zero =>
    intro a b h
    have h0 : a = 0 := by
      rw [Nat.pow_zero] at h
      omega
    subst h0
    simp
  | succ k ih =>
    intro a b h
    have hm : (b * 2 ^ (k + 1)) = (b * 2 ^ k) * 2 := by rw [Nat.pow_succ, Nat.mul_assoc]
    have hlt : a / 2 < 2 ^ k := by
      rw [Nat.pow_succ] at h
      generalize 2 ^ k = m at h ⊢
      omega
    have i := ih (a / 2) b hlt
    rw [hm]
    generalize b * 2 ^ k = B at i ⊢
    have e : (a &&& (B * 2)) / 2 = a / 2 &&& (B * 2) / 2 := Nat.and_div_two
    have e2 : (B * 2) / 2 = B := by omega
    have o := @Nat.and_mod_two_eq_one a (B * 2)
    rw [e2, i] at e
    omega

theorem natCast_mul_pow (m k : Nat) : (m : Int) * 2 ^ k = ((m * 2 ^ k : Nat) : Int) := by
  rw [two_pow_cast]
  first
    | exact (Int.natCast_mul _ _).symm
    | simp

/-- low bits a, high part b: (b << k) | a -/
theorem bitOr_join {a b : Int} {k : Nat} (h0 : 0 ≤ a) (h1 : a < 2 ^ k) (hb : 0 ≤ b) : Builtin.bitOr a (b * 2 ^ k) = a + b * 2 ^ k := by
  obtain ⟨n, rfl⟩ := Int.eq_ofNat_of_zero_le h0
  obtain ⟨m, rfl⟩ := Int.eq_ofNat_of_zero_le hb
  have hn : n < 2 ^ k := by
    rw [two_pow_cast] at h1
    omega
  have e : Builtin.bitAnd (n : Int) ((m * 2 ^ k : Nat) : Int) = 0 := by
    rw [bitAnd_pp (by omega) (by omega), Int.toNat_natCast, Int.toNat_natCast, nat_and_mul_pow k n m hn] <;> rfl
  rw [natCast_mul_pow, bitOr_and, e]
  omega
theorem bitOr_join' {a b : Int} {k : Nat} (h0 : 0 ≤ a) (h1 : a < 2 ^ k) (hb : 0 ≤ b) : Builtin.bitOr (b * 2 ^ k) a = a + b * 2 ^ k := by
  rw [bitOr_comm]
  exact bitOr_join h0 h1 hb

/-- x & ((1 << k) - 1) -/
theorem bitAnd_mask {x : Int} (k : Nat) (hx : 0 ≤ x) : Builtin.bitAnd x (2 ^ k - 1) = x % 2 ^ k := by
  obtain ⟨n, rfl⟩ := Int.eq_ofNat_of_zero_le hx
  have hp : 0 < 2 ^ k := Nat.two_pow_pos k
  rw [two_pow_cast]
  have e : ((2 ^ k : Nat) : Int) - 1 = ((2 ^ k - 1 : Nat) : Int) := by
    generalize (2 : Nat) ^ k = m at hp
    omega
  rw [e, bitAnd_pp (by omega) (by omega), Int.toNat_natCast, Int.toNat_natCast, Nat.and_two_pow_sub_one_eq_mod]
  first
    | rfl
    | exact Int.natCast_emod _ _
    | simp

/-- (x >> i) & 1 -/
theorem bit_at {x : Int} (i : Nat) : Builtin.bitAnd (x.fdiv (2 ^ i)) 1 = x / 2 ^ i % 2 := by
  have hp : (0 : Int) ≤ 2 ^ i := by
    rw [two_pow_cast]
    exact Int.natCast_nonneg _
  rw [Int.fdiv_eq_ediv_of_nonneg _ hp, bitAnd_m1]

theorem nat_xor_add_and (m : Nat) : ∀ n : Nat, (m ^^^ n) + 2 * (m &&& n) = m + n := by
  induction m using Nat.strongRecOn with
  | _ m ih =>
    intro n
    by_cases h0 : m = 0
    · subst h0
      simp
    · have ih' := ih (m / 2) (by omega) (n / 2)
      rw [← Nat.xor_div_two, ← Nat.and_div_two] at ih'
      have o1 := @Nat.xor_mod_two_eq_one m n
      have a1 := @Nat.and_mod_two_eq_one m n
      omega

theorem bitXor_pp {x y : Int} (hx : 0 ≤ x) (hy : 0 ≤ y) : Builtin.bitXor x y = ((x.toNat ^^^ y.toNat : Nat) : Int) := by
  have e := nat_xor_add_and x.toNat y.toNat
  rw [bitXor_and, bitAnd_pp hx hy]
  omega
theorem bitOr_pp {x y : Int} (hx : 0 ≤ x) (hy : 0 ≤ y) : Builtin.bitOr x y = ((x.toNat ||| y.toNat : Nat) : Int) := by
  have e := nat_or_add_and x.toNat y.toNat
  rw [bitOr_and, bitAnd_pp hx hy]
  omega
theorem bitXor_nonneg {x y : Int} (hx : 0 ≤ x) (hy : 0 ≤ y) : 0 ≤ Builtin.bitXor x y := by
  rw [bitXor_pp hx hy]
  omega
theorem bitOr_nonneg {x y : Int} (hx : 0 ≤ x) (hy : 0 ≤ y) : 0 ≤ Builtin.bitOr x y := by
  rw [bitOr_pp hx hy]
  omega

end Bits
end 

section 
namespace TL
open PySem PySem.Builtin PySem.Builtin.Str PySem.StrLaws

abbrev tl (x : Str) : List Nat := x.cps.toList
theorem len_tl (x : Str) : x.length = (tl x).length := by simp [tl, Str.length]
theorem ext_tl {x y : Str} (h : tl x = tl y) : x = y := Str.ext' (Array.toList_inj.mp h)
theorem tl_append (x y : Str) : tl (x ++ y) = tl x ++ tl y := by
  show (x ++ y).cps.toList = _
  rw [Str.cps_append, Array.toList_append]
theorem tl_mk (l : List Nat) : tl ⟨l.toArray⟩ = l := rfl
theorem mk_tl (x : Str) : (⟨(tl x).toArray⟩ : Str) = x := ext_tl rfl
theorem map_tl_inj : ∀ {l m : List Str}, l.map tl = m.map tl → l = m
  | [], [], _ => rfl
  | [], _ :: _, h => by simp at h
  | _ :: _, [], h => by simp at h
  | x :: l, y :: m, h => by
    rw [List.map_cons, List.map_cons] at h
    injection h with h1 h2
    rw [ext_tl h1, map_tl_inj h2]
theorem tl_ofString (s : String) : tl (Str.ofString s) = s.toList.map Char.toNat := PyProof.Rows.signs_ofString s

/-! ### the list functions -/
/-- S stands at the head of l -/
def pre (S l : List Nat) : Bool := l.take S.length == S
/-- l cut at each S from the left; k signs are still to be passed over -/
def spl (S : List Nat) : Nat → List Nat → List Nat → List (List Nat)
  | _, acc, [] => [acc]
  | 0, acc, c :: r => if pre S (c :: r) = true then acc :: spl S (S.length - 1) [] r else spl S 0 (acc ++ [c]) r
  | k + 1, acc, _ :: r => spl S k acc r
/-- what stands before the first S, and behind it -/
def par (S : List Nat) : List Nat → List Nat → Option (List Nat × List Nat)
  | _, [] => none
  | acc, c :: r => if pre S (c :: r) = true then some (acc, (c :: r).drop S.length) else par S (acc ++ [c]) r

theorem spl_nil (S : List Nat) (k : Nat) (acc : List Nat) : spl S k acc [] = [acc] := by cases k <;> rfl
theorem spl_hit {S acc r : List Nat} {c : Nat} (h : pre S (c :: r) = true) : spl S 0 acc (c :: r) = acc :: spl S (S.length - 1) [] r := by
  show (if pre S (c :: r) = true then acc :: spl S (S.length - 1) [] r else spl S 0 (acc ++ [c]) r) = _
  rw [if_pos h]
theorem spl_miss {S acc r : List Nat} {c : Nat} (h : pre S (c :: r) = false) : spl S 0 acc (c :: r) = spl S 0 (acc ++ [c]) r := by
  show (if pre S (c :: r) = true then acc :: spl S (S.length - 1) [] r else spl S 0 (acc ++ [c]) r) = _
  rw [if_neg (by rw [h]; exact Bool.false_ne_true)]
theorem spl_pass (S : List Nat) : ∀ (k : Nat) (acc l : List Nat), spl S k acc l = spl S 0 acc (l.drop k)
  | 0, _, _ => by rw [List.drop_zero]
  | k + 1, acc, [] => by rw [List.drop_nil, spl_nil, spl_nil]
  | k + 1, acc, c :: r => by
    show spl S k acc r = spl S 0 acc (r.drop k)
    exact spl_pass S k acc r
theorem par_hit {S acc r : List Nat} {c : Nat} (h : pre S (c :: r) = true) : par S acc (c :: r) = some (acc, (c :: r).drop S.length) := by
  show (if pre S (c :: r) = true then some (acc, (c :: r).drop S.length) else par S (acc ++ [c]) r) = _
  rw [if_pos h]
theorem par_miss {S acc r : List Nat} {c : Nat} (h : pre S (c :: r) = false) : par S acc (c :: r) = par S (acc ++ [c]) r := by
  show (if pre S (c :: r) = true then some (acc, (c :: r).drop S.length) else par S (acc ++ [c]) r) = _
  rw [if_neg (by rw [h]; exact Bool.false_ne_true)]

theorem pre_nil {S : List Nat} (hS : S ≠ []) : pre S [] = false := by
  cases S with
  | nil => exact absurd rfl hS
  | cons s S => rfl
theorem pre_of_head {s c : Nat} (S r : List Nat) (h : c ≠ s) : pre (s :: S) (c :: r) = false := by
  cases hp : pre (s :: S) (c :: r) with
  | false => rfl
  | true =>
    have e : (c :: r).take (s :: S).length = s :: S := eq_of_beq hp
    rw [List.length_cons, List.take_succ_cons] at e
    injection e with e1 e2
    exact absurd e1 h
theorem pre_self (S r : List Nat) : pre S (S ++ r) = true := by
  show ((S ++ r).take S.length == S) = true
  have e : (S ++ r).take S.length = S := List.take_left
  rw [e] <;> exact beq_self_eq_true S

theorem getElem_drop_cons {L : List Nat} {a : Nat} (h : a < L.length) : ∃ c, L.drop a = c :: L.drop (a + 1) := ⟨L[a], List.drop_eq_getElem_cons h⟩
theorem spl_run (S L : List Nat) : ∀ (m a : Nat) (acc : List Nat), a + m ≤ L.length → (∀ k, a ≤ k → k < a + m → pre S (L.drop k) = false) →
    spl S 0 acc (L.drop a) = spl S 0 (acc ++ (L.drop a).take m) (L.drop (a + m))
  | 0, a, acc, _, _ => by rw [List.take_zero, List.append_nil, Nat.add_zero]
  | m + 1, a, acc, h, hn => by
    have hlt : a < L.length := by omega
    obtain ⟨c, e⟩ := getElem_drop_cons hlt
    have h0 := hn a (Nat.le_refl _) (by omega)
    have ih := spl_run S L m (a + 1) (acc ++ [c]) (by omega) (fun k h1 h2 => hn k (by omega) (by omega))
    have e2 : a + 1 + m = a + (m + 1) := by omega
    rw [e2] at ih
    rw [e] at h0
    rw [e, spl_miss h0, ih, List.take_succ_cons, List.append_assoc] <;> rfl
theorem par_run (S L : List Nat) : ∀ (m a : Nat) (acc : List Nat), a + m ≤ L.length → (∀ k, a ≤ k → k < a + m → pre S (L.drop k) = false) →
    par S acc (L.drop a) = par S (acc ++ (L.drop a).take m) (L.drop (a + m))
  | 0, a, acc, _, _ => by rw [List.take_zero, List.append_nil, Nat.add_zero]
  | m + 1, a, acc, h, hn => by
    have hlt : a < L.length := by omega
    obtain ⟨c, e⟩ := getElem_drop_cons hlt
    have h0 := hn a (Nat.le_refl _) (by omega)
    have ih := par_run S L m (a + 1) (acc ++ [c]) (by omega) (fun k h1 h2 => hn k (by omega) (by omega))
    have e2 : a + 1 + m = a + (m + 1) := by omega
    rw [e2] at ih
    rw [e] at h0
    rw [e, par_miss h0, ih, List.take_succ_cons, List.append_assoc] <;> rfl
theorem drop_two (L : List Nat) (a b : Nat) : (L.drop a).drop b = L.drop (a + b) := by
  first
    | rw [List.drop_drop]
    | rw [List.drop_drop, Nat.add_comm]
theorem spl_at {S L : List Nat} (hS : S ≠ []) {c : Nat} {acc : List Nat} (h : pre S (L.drop c) = true) : spl S 0 acc (L.drop c) = acc :: spl S 0 [] (L.drop (c + S.length)) := by
  rw [← drop_two]
  cases e : L.drop c with
  | nil => rw [e, pre_nil hS] at h; cases h
  | cons d r =>
    rw [e] at h
    rw [spl_hit h, spl_pass]
    cases S with
    | nil => exact absurd rfl hS
    | cons s S => rfl
theorem par_at {S L : List Nat} (hS : S ≠ []) {c : Nat} {acc : List Nat} (h : pre S (L.drop c) = true) : par S acc (L.drop c) = some (acc, L.drop (c + S.length)) := by
  rw [← drop_two]
  cases e : L.drop c with
  | nil => rw [e, pre_nil hS] at h; cases h
  | cons d r =>
    rw [e] at h
    rw [par_hit h]

/-! ### the model's split and partition are these -/
theorem at_iff {x y : Str} (hy : tl y ≠ []) (i : Nat) : At x y x.length i ↔ pre (tl y) ((tl x).drop i) = true := by
  have hx := len_tl x
  have hl := len_tl y
  constructor
  · intro h
    have h2 := h.2
    rw [subAt_eq, hl] at h2
    exact h2
  · intro h
    have e : ((tl x).drop i).take (tl y).length = tl y := eq_of_beq h
    have e1 := congrArg List.length e
    rw [List.length_take, List.length_drop] at e1
    have e2 : 0 < (tl y).length := List.length_pos_iff.mpr hy
    refine ⟨by omega, ?_⟩
    rw [subAt_eq, hl]
    exact h
theorem no_at {x y : Str} (hy : tl y ≠ []) {i : Nat} (h : ¬ At x y x.length i) : pre (tl y) ((tl x).drop i) = false := by
  cases hp : pre (tl y) ((tl x).drop i) with
  | false => rfl
  | true => exact absurd ((at_iff hy i).mpr hp) h
theorem len1 {y : Str} (hy : tl y ≠ []) : 1 ≤ y.length := by
  have e2 : 0 < (tl y).length := List.length_pos_iff.mpr hy
  rw [len_tl y]
  exact e2
theorem tl_strSub (x : Str) (i j : Nat) : tl (strSub x i j) = ((tl x).drop i).take (j - i) := strSub_toList x i j
theorem tl_strSub_end (x : Str) (i : Nat) : tl (strSub x i x.length) = (tl x).drop i := by
  rw [tl_strSub, len_tl x]
  exact List.take_of_length_le (by rw [List.length_drop] <;> omega)

theorem parts_spl {x y : Str} (hy : tl y ≠ []) : ∀ (cuts : List Nat) (a f : Nat), a ≤ (tl x).length → ChainG x y x.length a cuts f → (∀ k, f ≤ k → ¬ At x y x.length k) →
    (partsFrom x y.length a cuts).map tl = spl (tl y) 0 [] ((tl x).drop a)
  | [], a, f, ha, h, hn => by
    have e : f = a := h
    subst e
    show [tl (strSub x f x.length)] = _
    have run := spl_run (tl y) (tl x) ((tl x).length - f) f [] (by omega) (fun k h1 _ => no_at hy (hn k h1))
    have e2 : f + ((tl x).length - f) = (tl x).length := by omega
    rw [e2, List.drop_length, spl_nil, List.nil_append, List.take_of_length_le (by rw [List.length_drop] <;> omega)] at run
    rw [run, tl_strSub_end]
  | c :: r, a, f, ha, h, hn => by
    obtain ⟨h1, h2, h3, h4⟩ := h
    have hc : c + y.length ≤ x.length := h2.1
    have hx := len_tl x
    have hl := len_tl y
    have ih := parts_spl hy r (c + y.length) f (by omega) h4 hn
    show tl (strSub x a c) :: (partsFrom x y.length (c + y.length) r).map tl = _
    have run := spl_run (tl y) (tl x) (c - a) a [] (by omega) (fun k k1 k2 => no_at hy (h3 k k1 (by omega)))
    have e2 : a + (c - a) = c := by omega
    rw [e2, List.nil_append, spl_at hy ((at_iff hy c).mp h2)] at run
    rw [run, ih, tl_strSub, hl]

/-- hk: by kind_ok where the separator is plain -/
theorem split_spl (x y : Str) (hy : tl y ≠ []) (hk : ¬ Builtin.Str.strKind x < Builtin.Str.strKind y) : (Txt.split x y).map tl = spl (tl y) 0 [] (tl x) := by
  obtain ⟨f, g, hn⟩ := occ_tight x y (len1 hy)
  have key := parts_spl hy _ 0 f (Nat.zero_le _) g hn
  rw [List.drop_zero] at key
  have none_case : occurrences x y 0 x.length (x.length + 1) = [] → [x].map tl = spl (tl y) 0 [] (tl x) := fun ho => by
    rw [ho] at key
    rw [← key]
    show [tl x] = [tl (strSub x 0 x.length)]
    rw [sub_whole]
  unfold Txt.split
  by_cases h1 : (decide (x.length < y.length) || decide (Builtin.Str.strKind x < Builtin.Str.strKind y)) = true
  · rw [if_pos h1]
    have hlt : x.length < y.length := by
      simp only [Bool.or_eq_true, decide_eq_true_eq] at h1
      rcases h1 with h | h
      · exact h
      · exact absurd h hk
    refine none_case ?_
    cases ho : occurrences x y 0 x.length (x.length + 1) with
    | nil => rfl
    | cons c r =>
      rw [ho] at g
      have hc : c + y.length ≤ x.length := g.2.1.1
      omega
  · rw [if_neg h1]
    by_cases h2 : (occurrences x y 0 x.length (x.length + 1)).isEmpty = true
    · rw [if_pos h2]
      exact none_case (List.isEmpty_iff.mp h2)
    · rw [if_neg h2, partsBetween_eq]
      exact key
theorem kind_ok {x y : Str} (h : y.cps.all (· < 256) = true) : ¬ Builtin.Str.strKind x < Builtin.Str.strKind y := by
  have e : Builtin.Str.strKind y = 1 := by unfold PySem.Builtin.Str.strKind; rw [if_pos h]
  rw [e]
  unfold PySem.Builtin.Str.strKind
  split
  · omega
  · split <;> omega

theorem partition_par (x y : Str) (hy : tl y ≠ []) :
    Txt.partition x y = (match par (tl y) [] (tl x) with | some (a, b) => (⟨a.toArray⟩, y, ⟨b.toArray⟩) | none => (x, Str.empty, Str.empty)) := by
  have hx := len_tl x
  have hl := len_tl y
  rcases PyProof.Rows.partition_whole x y with ⟨e, hn⟩ | ⟨i, e, hi, hn⟩
  · have run := par_run (tl y) (tl x) (tl x).length 0 [] (by omega) (fun k _ _ => no_at hy (hn k))
    rw [List.drop_zero, Nat.zero_add, List.drop_length] at run
    rw [e, run] <;> rfl
  · have hb : i + y.length ≤ x.length := hi.1
    have run := par_run (tl y) (tl x) i 0 [] (by omega) (fun k _ k2 => no_at hy (hn k (by omega)))
    rw [List.drop_zero, Nat.zero_add, List.nil_append, par_at hy ((at_iff hy i).mp hi)] at run
    rw [e, run]
    have e1 : strSub x 0 i = ⟨((tl x).take i).toArray⟩ := ext_tl (by rw [tl_strSub, List.drop_zero, Nat.sub_zero])
    have e2 : strSub x (i + y.length) x.length = ⟨((tl x).drop (i + (tl y).length)).toArray⟩ := ext_tl (by rw [tl_strSub_end, hl])
    rw [e1, e2] <;> rfl

/-! ### computing spl and par -/
/-- a part that the separator does not begin in, then the separator -/
theorem spl_part {S p rest acc : List Nat} (hS : S ≠ []) (h : ∀ i, i < p.length → pre S ((p ++ (S ++ rest)).drop i) = false) :
    spl S 0 acc (p ++ (S ++ rest)) = (acc ++ p) :: spl S 0 [] rest := by
  have run := spl_run S (p ++ (S ++ rest)) p.length 0 acc (by rw [List.length_append]; omega) (fun k _ k2 => h k (by omega))
  have ed : (p ++ (S ++ rest)).drop p.length = S ++ rest := List.drop_left
  rw [List.drop_zero, Nat.zero_add, List.take_left] at run
  rw [run, spl_at hS (by rw [ed]; exact pre_self S rest), ← drop_two, ed, List.drop_left]
theorem spl_last {S p acc : List Nat} (h : ∀ i, i < p.length → pre S (p.drop i) = false) : spl S 0 acc p = [acc ++ p] := by
  have run := spl_run S p p.length 0 acc (by omega) (fun k _ k2 => h k (by omega))
  rw [List.drop_zero, Nat.zero_add, List.drop_length, spl_nil, List.take_length] at run
  exact run
theorem par_part {S p rest acc : List Nat} (hS : S ≠ []) (h : ∀ i, i < p.length → pre S ((p ++ (S ++ rest)).drop i) = false) :
    par S acc (p ++ (S ++ rest)) = some (acc ++ p, rest) := by
  have run := par_run S (p ++ (S ++ rest)) p.length 0 acc (by rw [List.length_append]; omega) (fun k _ k2 => h k (by omega))
  have ed : (p ++ (S ++ rest)).drop p.length = S ++ rest := List.drop_left
  rw [List.drop_zero, Nat.zero_add, List.take_left] at run
  rw [run, par_at hS (by rw [ed]; exact pre_self S rest), ← drop_two, ed, List.drop_left]
theorem par_none {S p acc : List Nat} (h : ∀ i, i < p.length → pre S (p.drop i) = false) : par S acc p = none := by
  have run := par_run S p p.length 0 acc (by omega) (fun k _ k2 => h k (by omega))
  rw [List.drop_zero, Nat.zero_add, List.drop_length] at run
  exact run
/-- the separator's first sign is not in the part -/
theorem free_of {s : Nat} {S p q : List Nat} (h : s ∉ p) : ∀ i, i < p.length → pre (s :: S) ((p ++ q).drop i) = false := fun i hi => by
  have hlt : i < (p ++ q).length := by rw [List.length_append]; omega
  have e : (p ++ q).drop i = (p ++ q)[i] :: (p ++ q).drop (i + 1) := List.drop_eq_getElem_cons hlt
  rw [e]
  refine pre_of_head _ _ fun z => h ?_
  have e1 : (p ++ q)[i] = p[i] := List.getElem_append_left hi
  rw [← z, e1]
  exact List.getElem_mem hi
theorem spl_part1 {s : Nat} {S p rest acc : List Nat} (h : s ∉ p) : spl (s :: S) 0 acc (p ++ (s :: S ++ rest)) = (acc ++ p) :: spl (s :: S) 0 [] rest :=
  spl_part (by simp) (free_of h)
theorem spl_last1 {s : Nat} {S p acc : List Nat} (h : s ∉ p) : spl (s :: S) 0 acc p = [acc ++ p] := spl_last fun i hi => by
  have z := free_of (S := S) (q := []) h i hi
  rw [List.append_nil] at z
  exact z
theorem par_part1 {s : Nat} {S p rest acc : List Nat} (h : s ∉ p) : par (s :: S) acc (p ++ (s :: S ++ rest)) = some (acc ++ p, rest) := par_part (by simp) (free_of h)
theorem par_none1 {s : Nat} {S p acc : List Nat} (h : s ∉ p) : par (s :: S) acc p = none := par_none fun i hi => by
  have z := free_of (S := S) (q := []) h i hi
  rw [List.append_nil] at z
  exact z

/-- joined lists -/
def joinL (S : List Nat) : List (List Nat) → List Nat
  | [] => []
  | [p] => p
  | p :: q :: r => p ++ (S ++ joinL S (q :: r))
theorem tl_join (y : Str) : ∀ parts : List Str, tl (Str.join y parts) = joinL (tl y) (parts.map tl)
  | [] => rfl
  | [_] => rfl
  | x :: z :: r => by
    show tl (x ++ y ++ Str.join y (z :: r)) = tl x ++ (tl y ++ joinL (tl y) ((z :: r).map tl))
    rw [tl_append, tl_append, tl_join y (z :: r), List.append_assoc]
theorem spl_join {s : Nat} {S : List Nat} : ∀ {parts : List (List Nat)}, parts ≠ [] → (∀ p ∈ parts, s ∉ p) → spl (s :: S) 0 [] (joinL (s :: S) parts) = parts
  | [], h, _ => absurd rfl h
  | [p], _, hp => by
    show spl (s :: S) 0 [] p = [p]
    rw [spl_last1 (hp p (List.mem_singleton.mpr rfl)), List.nil_append]
  | p :: q :: r, _, hp => by
    show spl (s :: S) 0 [] (p ++ (s :: S ++ joinL (s :: S) (q :: r))) = p :: q :: r
    rw [spl_part1 (hp p (List.mem_cons_self ..)), List.nil_append, spl_join (by simp) fun z hz => hp z (List.mem_cons_of_mem _ hz)]
theorem join_eq (y : Str) (parts : List Str) : Txt.join y parts = Str.join y parts := glued_eq_join y parts
/-- THE READ-BACK: a joined text, split -/
theorem split_join {y : Str} {s : Nat} {S : List Nat} (ey : tl y = s :: S) (hk : y.cps.all (· < 256) = true) {parts : List Str} (hne : parts ≠ []) (hp : ∀ p ∈ parts, s ∉ tl p) :
    Txt.split (Txt.join y parts) y = parts := by
  refine map_tl_inj ?_
  rw [split_spl _ y (by rw [ey]; simp) (kind_ok hk), join_eq, tl_join, ey]
  refine spl_join (fun e => hne (List.map_eq_nil_iff.mp e)) fun p h => ?_
  obtain ⟨z, hz, rfl⟩ := List.mem_map.mp h
  exact hp z hz
/-- a text cut at its first separator -/
theorem partition_app {y : Str} {s : Nat} {S : List Nat} (ey : tl y = s :: S) {a b : Str} (h : s ∉ tl a) : Txt.partition (a ++ y ++ b) y = (a, y, b) := by
  rw [partition_par _ y (by rw [ey]; simp), tl_append, tl_append, List.append_assoc, ey, par_part1 h]
  show ((⟨([] ++ tl a).toArray⟩ : Str), y, (⟨(tl b).toArray⟩ : Str)) = _
  rw [List.nil_append, mk_tl, mk_tl]
theorem partition_none {y : Str} {s : Nat} {S : List Nat} (ey : tl y = s :: S) {a : Str} (h : s ∉ tl a) : Txt.partition a y = (a, Str.empty, Str.empty) := by
  rw [partition_par _ y (by rw [ey]; simp), ey, par_none1 h]

/-! ### digits -/
/-- the signs of a number -/
def numL (n : Nat) : List Nat := (Nat.toDigits 10 n).map Char.toNat
theorem tl_num (n : Nat) : tl (Str.ofString (toString ((n : Nat) : Int))) = numL n := PySem.W.KIN.signs_num n
theorem digitChar_nat : ∀ d : Nat, d < 10 → (Nat.digitChar d).toNat = 48 + d := by decide
theorem numL_lt {n : Nat} (h : n < 10) : numL n = [48 + n] := by
  unfold numL
  rw [Nat.toDigits_of_lt_base h]
  show [(Nat.digitChar n).toNat] = _
  rw [digitChar_nat n h]
theorem numL_step {n : Nat} (h : 10 ≤ n) : numL n = numL (n / 10) ++ [48 + n % 10] := by
  have hm : n % 10 < 10 := Nat.mod_lt n (by decide)
  have t : Nat.toDigits 10 (n / 10) ++ Nat.toDigits 10 (n % 10) = Nat.toDigits 10 (10 * (n / 10) + n % 10) := Nat.toDigits_append_toDigits (by decide) (by omega) hm
  rw [Nat.div_add_mod] at t
  show (Nat.toDigits 10 n).map Char.toNat = _
  rw [← t, List.map_append, Nat.toDigits_of_lt_base hm]
  show (Nat.toDigits 10 (n / 10)).map Char.toNat ++ [(Nat.digitChar (n % 10)).toNat] = _
  rw [digitChar_nat _ hm] <;> rfl
theorem numL_digits (n : Nat) : NumText.AllDigits (numL n) := by
  induction n using Nat.strongRecOn with
  | _ n ih =>
    by_cases h : n < 10
    · rw [numL_lt h]
      intro c hc
      rw [List.mem_singleton.mp hc]
      omega
    · rw [numL_step (by omega)]
      intro c hc
      rcases List.mem_append.mp hc with hc | hc
      · exact ih (n / 10) (by omega) c hc
      · have hm : n % 10 < 10 := Nat.mod_lt n (by decide)
        rw [List.mem_singleton.mp hc]
        omega
theorem numL_ne (n : Nat) : numL n ≠ [] := by
  by_cases h : n < 10
  · rw [numL_lt h]
    simp
  · rw [numL_step (by omega)]
    simp
theorem numL_free {n s : Nat} (h : s < 48 ∨ 57 < s) : s ∉ numL n := fun hm => by
  have r := numL_digits n s hm
  omega
theorem numL_val (n : Nat) : NumText.digitsVal (numL n) = n := PySem.W.KIN.val_back n
theorem numL_inj {m n : Nat} (h : numL m = numL n) : m = n := by
  have e := congrArg NumText.digitsVal h
  rw [numL_val, numL_val] at e
  exact e
theorem numL_len {n k : Nat} (hk : 0 < k) (h : n < 10 ^ k) : (numL n).length ≤ k := by
  have z := PyProof.Rows.toString_length_le (v := (n : Int)) (by omega) hk (by
    have e : ((10 : Int) ^ k) = ((10 ^ k : Nat) : Int) := by
      first
        | exact (Int.natCast_pow 10 k).symm
        | simp
    rw [e]
    first | exact Int.ofNat_lt.mpr h | omega)
  rw [len_tl, tl_num] at z
  exact z
/-- int(str(n)) -/
theorem int_num {n : Nat} (h : (numL n).length ≤ 4300) : intText? (Str.ofString (toString ((n : Nat) : Int))) = some (n : Int) := by
  have e := intText_digits (x := Str.ofString (toString ((n : Nat) : Int))) (by rw [show (Str.ofString (toString ((n : Nat) : Int))).cps.toList = numL n from tl_num n]; exact numL_digits n)
    (by rw [show (Str.ofString (toString ((n : Nat) : Int))).cps.toList = numL n from tl_num n]; exact numL_ne n) (by rw [len_tl, tl_num]; exact h)
  rw [show (Str.ofString (toString ((n : Nat) : Int))).cps.toList = numL n from tl_num n, numL_val] at e
  exact e
/-- a program's own loop over digits: total = total * 10 + (ord(sign) - ord("0")) -/
theorem fold_digits : ∀ (l : List Nat) (a : Nat), NumText.AllDigits l → l.foldl (fun (t : Int) (c : Nat) => t * 10 + ((c : Int) - 48)) (a : Int) = ((l.foldl (fun acc c => acc * 10 + (c - 48)) a : Nat) : Int)
  | [], _, _ => rfl
  | c :: r, a, h => by
    have hc := h.head
    rw [List.foldl_cons, List.foldl_cons, ← fold_digits r _ h.tail]
    have e : (a : Int) * 10 + ((c : Int) - 48) = ((a * 10 + (c - 48) : Nat) : Int) := by omega
    rw [e]
theorem fold_num (n : Nat) : (numL n).foldl (fun (t : Int) (c : Nat) => t * 10 + ((c : Int) - 48)) 0 = (n : Int) := by
  have e := fold_digits (numL n) 0 (numL_digits n)
  have v := numL_val n
  unfold NumText.digitsVal at v
  rw [v] at e
  exact e

/-! ### words: x.split() -/
def wstep (st : List (List Nat) × List Nat) (c : Nat) : List (List Nat) × List Nat :=
  if Unicode.isSpace c = true then (if st.2 = [] then st else (st.1 ++ [st.2], [])) else (st.1, st.2 ++ [c])
def wfin (st : List (List Nat) × List Nat) : List (List Nat) := if st.2 = [] then st.1 else st.1 ++ [st.2]
theorem len0_tl (x : Str) : x.length = 0 ↔ tl x = [] := by
  rw [len_tl]
  exact List.length_eq_zero_iff
theorem step_tl (ws : List Str) (u : Str) (c : Nat) : ((KWd.step (ws, u) c).1.map tl, tl (KWd.step (ws, u) c).2) = wstep (ws.map tl, tl u) c := by
  by_cases hc : Unicode.isSpace c = true
  · by_cases hu : u.length = 0
    · have a : KWd.step (ws, u) c = (ws, u) := (if_pos hc).trans (if_pos hu)
      have b : wstep (ws.map tl, tl u) c = (ws.map tl, tl u) := (if_pos hc).trans (if_pos ((len0_tl u).mp hu))
      rw [a, b] <;> rfl
    · have a : KWd.step (ws, u) c = (ws ++ [u], Str.empty) := (if_pos hc).trans (if_neg hu)
      have b : wstep (ws.map tl, tl u) c = (ws.map tl ++ [tl u], []) := (if_pos hc).trans (if_neg fun z => hu ((len0_tl u).mpr z))
      rw [a, b]
      show ((ws ++ [u]).map tl, ([] : List Nat)) = _
      rw [List.map_append] <;> rfl
  · have a : KWd.step (ws, u) c = (ws, u ++ ⟨#[c]⟩) := if_neg hc
    have b : wstep (ws.map tl, tl u) c = (ws.map tl, tl u ++ [c]) := if_neg hc
    rw [a, b]
    show (ws.map tl, tl (u ++ ⟨#[c]⟩)) = _
    rw [tl_append] <;> rfl
theorem scan_tl : ∀ (l : List Nat) (st : KWd.St), ((l.foldl KWd.step st).1.map tl, tl (l.foldl KWd.step st).2) = l.foldl wstep (st.1.map tl, tl st.2)
  | [], _ => rfl
  | c :: r, (ws, u) => by
    show ((r.foldl KWd.step (KWd.step (ws, u) c)).1.map tl, tl (r.foldl KWd.step (KWd.step (ws, u) c)).2) = r.foldl wstep (wstep (ws.map tl, tl u) c)
    exact (scan_tl r (KWd.step (ws, u) c)).trans (congrArg (fun z => r.foldl wstep z) (step_tl ws u c))
theorem fin_tl : ∀ q : KWd.St, (KWd.fin q).map tl = wfin (q.1.map tl, tl q.2)
  | (ws, u) => by
    show (if u.length = 0 then ws else ws ++ [u]).map tl = (if tl u = [] then ws.map tl else ws.map tl ++ [tl u])
    by_cases hu : u.length = 0
    · rw [if_pos hu, if_pos ((len0_tl u).mp hu)]
    · rw [if_neg hu, if_neg (fun z => hu ((len0_tl u).mpr z)), List.map_append] <;> rfl
theorem words_tl (x : Str) : (Txt.words x).map tl = wfin ((tl x).foldl wstep ([], [])) := by
  rw [KWd.words_scan]
  exact (fin_tl (KWd.scan x)).trans (congrArg wfin (scan_tl (tl x) ([], Str.empty)))
/-- a run of signs that are no blanks -/
theorem wfold_word : ∀ (p : List Nat) (ws : List (List Nat)) (u : List Nat), (∀ c ∈ p, Unicode.isSpace c = false) → p.foldl wstep (ws, u) = (ws, u ++ p)
  | [], ws, u, _ => by rw [List.append_nil] <;> rfl
  | c :: r, ws, u, h => by
    have hc := h c (List.mem_cons_self ..)
    rw [List.foldl_cons]
    have e : wstep (ws, u) c = (ws, u ++ [c]) := if_neg (by rw [hc]; exact Bool.false_ne_true)
    rw [e, wfold_word r ws (u ++ [c]) fun d hd => h d (List.mem_cons_of_mem _ hd), List.append_assoc] <;> rfl
theorem isSpace_plain {c : Nat} (h1 : 33 ≤ c) (h2 : c ≤ 126) : Unicode.isSpace c = false := PySem.W.KWk.nosp h1 h2
/-- words joined by one blank -/
theorem wfold_join : ∀ (ps : List (List Nat)) (ws : List (List Nat)), ps ≠ [] → (∀ p ∈ ps, p ≠ [] ∧ ∀ c ∈ p, Unicode.isSpace c = false) → wfin ((joinL [32] ps).foldl wstep (ws, [])) = ws ++ ps
  | [], _, h, _ => absurd rfl h
  | [p], ws, _, h => by
    obtain ⟨h1, h2⟩ := h p (List.mem_singleton.mpr rfl)
    show wfin (p.foldl wstep (ws, [])) = _
    rw [wfold_word p ws [] h2, List.nil_append]
    exact if_neg h1
  | p :: q :: r, ws, _, h => by
    obtain ⟨h1, h2⟩ := h p (List.mem_cons_self ..)
    show wfin ((p ++ ([32] ++ joinL [32] (q :: r))).foldl wstep (ws, [])) = _
    rw [List.foldl_append, wfold_word p ws [] h2, List.nil_append, List.foldl_append]
    have e : [32].foldl wstep (ws, p) = (ws ++ [p], []) := by
      have hs : Unicode.isSpace 32 = true := by decide +kernel
      have a : wstep (ws, p) 32 = (if p = [] then (ws, p) else (ws ++ [p], [])) := if_pos hs
      exact a.trans (if_neg h1)
    rw [e, wfold_join (q :: r) (ws ++ [p]) (by simp) fun z hz => h z (List.mem_cons_of_mem _ hz), List.append_assoc] <;> rfl
end TL
end 

namespace L2
open PySem PySem.Spec PyProof.Rows

theorem notLong {n : Nat} (h : n ≤ 16777216) : Builtin.Str.tooLong n = false := by
  have e : (2 : Nat) ^ 24 = 16777216 := by decide
  unfold Builtin.Str.tooLong sizeLine
  exact decide_eq_false (by omega)

/-- a list of texts, of numbered texts -/
theorem vals_strs : ∀ l : List (Str × Tok), Vals ((l.map (·.1)).map V.str) (strValues l)
  | [] => .nil
  | p :: r => .cons ⟨p.2, rfl⟩ (vals_strs r)
theorem strs_of_vals : ∀ {ys : List Str} {us : List Value}, Vals (ys.map V.str) us → StrsAre us ys
  | [], _, .nil => .nil
  | y :: ys, _, .cons r t => by
    obtain ⟨k, rfl⟩ := r
    exact .cons y k (strs_of_vals t)

/-- a new list of texts, tracked -/
def rNewStrs (ys : List Str) : Hp → VK → Prop := fun H Q => ∀ p, H p = none → Q (.ref p) (upd H p (.lst (ys.map V.str)))

section
variable {X : Cx} {pins : List (Addr × Obj)} {σ : St} {H : Hp} {s : Shared} {Q : VK}
theorem laid_strs {l : List (Str × Tok)} {ys : List Str} {k : Nat} (I : Inv X pins σ H s) (e : l.map (·.1) = ys) (hz : ys.length ≤ sizeLine) (h : rNewStrs ys H Q) :
    EP X pins σ Q (.ref s.heap.objs.size) { s with toks := k, heap := s.heap.push { cls := .type "list", data := .seq (strValues l).toArray } } := by
  have hp := I.hok.fresh (Nat.le_refl _)
  refine ⟨.ref s.heap.objs.size, upd H s.heap.objs.size (.lst (ys.map V.str)), I.laid (fun b u q => Heap.get?_push_of_some _ q) (Nat.le_refl _) ⟨by rw [List.length_map]; exact hz, strValues l, _, ?_, Heap.get?_push_size _ rfl⟩, rfl, h _ hp⟩
  rw [← e]
  exact vals_strs l
theorem laid_parts {x y z : Str} {t u v : Tok} {k : Nat} (I : Inv X pins σ H s) (h : ∀ p, H p = none → Q (.ref p) (upd H p (.tup [.str x, .str y, .str z]))) :
    EP X pins σ Q (.ref s.heap.objs.size) { s with toks := k, heap := s.heap.push { cls := .type "tuple", data := .seq [Value.str x t, .str y u, .str z v].toArray } } := by
  have hp := I.hok.fresh (Nat.le_refl _)
  exact ⟨.ref s.heap.objs.size, upd H s.heap.objs.size (.tup [.str x, .str y, .str z]), I.laid (fun b u q => Heap.get?_push_of_some _ q) (Nat.le_refl _)
    ⟨by show 3 ≤ sizeLine; decide, [Value.str x t, .str y u, .str z v], .cons ⟨t, rfl⟩ (.cons ⟨u, rfl⟩ (.cons ⟨v, rfl⟩ .nil)), _, Heap.get?_push_size _ rfl, rfl, _, rfl⟩, rfl, h _ hp⟩
end

section
variable {X : Cx}

/-- x.split(sep) -/
theorem mt_split : MtR X "str.split" (fun x xs H Q => ∃ a b, x = .str a ∧ xs = [.str b] ∧ (b.length == 0) = false ∧ a.length + 2 ≤ sizeLine ∧ rNewStrs (Txt.split a b) H Q) := by
  intro pins s σ H x xs v us Q I rx rs h
  obtain ⟨a, b, rfl, rfl, hb, hz, h⟩ := h
  obtain ⟨t, rfl⟩ := rx
  cases rs with
  | cons r1 rs =>
    cases rs
    obtain ⟨u, rfl⟩ := r1
    have hl : (Txt.split a b).length ≤ sizeLine := Nat.le_trans (PyProof.Rows.split_le a b) hz
    have hn : (Builtin.Str.partsBetween a (Builtin.Str.occurrences a b 0 a.length (a.length + 1)) b.length).length ≤ sizeLine := by
      have e1 := StrLaws.occ_length_le a b 0 a.length (a.length + 1)
      rw [length_partsBetween]; omega
    cases h1 : (decide (a.length < b.length) || decide (Builtin.Str.strKind a < Builtin.Str.strKind b))
    · cases hf : (Builtin.Str.occurrences a b 0 a.length (a.length + 1)).isEmpty
      · refine call_meets F.slot_str_split (typeIs_str _ _ _) F.entry_str_split (F.args_str_split_2 _ _) (meets_str_split_sep a b t u h1 hb hf (by omega) hn) ?_
        show EP X pins σ Q (.ref s.heap.objs.size) { s with toks := _, heap := s.heap.push { cls := .type "list", data := .seq (strsFrom s.toks (Builtin.Str.partsBetween a (Builtin.Str.occurrences a b 0 a.length (a.length + 1)) b.length)).toArray } }
        rw [strsFrom_eq]
        exact laid_strs (ys := Txt.split a b) I ((numbered_texts _ _).trans ((if_neg (ne_true_of_eq_false h1)).trans (if_neg (ne_true_of_eq_false hf))).symm) hl h
      · refine call_meets F.slot_str_split (typeIs_str _ _ _) F.entry_str_split (F.args_str_split_2 _ _) (meets_str_split_not_found a b t u h1 hb hf) ?_
        exact laid_strs (l := [(a, t)]) (ys := Txt.split a b) (k := s.toks) I ((if_neg (ne_true_of_eq_false h1)).trans (if_pos hf)).symm hl h
    · refine call_meets F.slot_str_split (typeIs_str _ _ _) F.entry_str_split (F.args_str_split_2 _ _) (meets_str_split_cannot_occur a b t u h1) ?_
      exact laid_strs (l := [(a, t)]) (ys := Txt.split a b) (k := s.toks) I (if_pos h1).symm hl h

theorem words_le (x : Str) : (Txt.words x).length ≤ x.length + 1 := by
  have e1 := StrLaws.words_weight x
  omega
/-- x.split() -/
theorem mt_words : MtR X "str.split" (fun x xs H Q => ∃ a, x = .str a ∧ xs = [] ∧ a.length + 2 ≤ sizeLine ∧ rNewStrs (Txt.words a) H Q) := by
  intro pins s σ H x xs v us Q I rx rs h
  obtain ⟨a, rfl, rfl, hz, h⟩ := h
  obtain ⟨t, rfl⟩ := rx
  cases rs
  have hl : (Txt.words a).length ≤ sizeLine := Nat.le_trans (words_le a) (by omega)
  have hn : (Builtin.Str.spaceWords a (a.length + 1)).length ≤ sizeLine := by
    have e1 := (StrLaws.sw_weight a).1
    have e2 := StrLaws.len_le_wsum (Builtin.Str.spaceWords a (a.length + 1))
    omega
  refine call_meets F.slot_str_split (typeIs_str _ _ _) F.entry_str_split (F.args_str_split_1 _) (meets_str_split_space a t (by omega) hn) ?_
  cases hw : Builtin.Str.spaceWords a (a.length + 1) == [(0, a.length)]
  · simp only [Bool.false_eq_true, if_false]
    rw [strsFrom_eq]
    exact laid_strs (ys := Txt.words a) I ((numbered_texts _ _).trans (if_neg (ne_true_of_eq_false hw)).symm) hl h
  · simp only [if_true]
    exact laid_strs (l := [(a, t)]) (ys := Txt.words a) (k := s.toks) I (if_pos hw).symm hl h

/-- x.partition(sep) -/
theorem mt_partition : MtR X "str.partition" (fun x xs H Q => ∃ a b, x = .str a ∧ xs = [.str b] ∧ (b.length == 0) = false ∧ a.length ≤ sizeLine ∧
    ∀ p, H p = none → Q (.ref p) (upd H p (.tup [.str (Txt.partition a b).1, .str (Txt.partition a b).2.1, .str (Txt.partition a b).2.2]))) := by
  intro pins s σ H x xs v us Q I rx rs h
  obtain ⟨a, b, rfl, rfl, hb, hz, h⟩ := h
  obtain ⟨t, rfl⟩ := rx
  cases rs with
  | cons r1 rs =>
    cases rs
    obtain ⟨u, rfl⟩ := r1
    refine call_meets F.slot_str_partition (typeIs_str _ _ _) F.entry_str_partition (F.args_str_partition_2 _ _) (meets_str_partition a b t u hb hz) ?_
    unfold Txt.partition at h
    revert h
    cases Builtin.Str.occurrences a b 0 a.length 1 with
    | nil => intro h; exact laid_parts I h
    | cons i r => intro h; exact laid_parts I h

/-- sep.join(a list | a tuple of texts) -/
theorem mt_join : MtR X "str.join" (fun x xs H Q => ∃ a p, ∃ ys : List Str, x = .str a ∧ xs = [.ref p] ∧ (SqL X.K H p (ys.map V.str) ∨ SqT X.K H p (ys.map V.str)) ∧
    (ys.map (·.length)).sum + ys.length * a.length ≤ 16777216 ∧ Q (.str (Txt.join a ys)) H) := by
  intro pins s σ H x xs v us Q I rx rs h
  obtain ⟨a, p, ys, rfl, rfl, hp, hz, h⟩ := h
  obtain ⟨t, rfl⟩ := rx
  cases rs with
  | cons r1 rs =>
    cases rs
    cases r1
    rcases hp with hp | hp
    · obtain ⟨its, r, ⟨o, n, ho, hc, _, hd⟩, _⟩ := I.list hp
      exact PyProof.Rows.join_list (items := its.toArray) ⟨o, ho, hc, n, hd⟩ (by rw [List.toList_toArray]; exact strs_of_vals r) hz fun t' k => ⟨.str _, H, I.tok k, ⟨t', rfl⟩, h⟩
    · obtain ⟨its, r, ht, _⟩ := I.tuple hp
      exact PyProof.Rows.join_tuple (items := its.toArray) ht (by rw [List.toList_toArray]; exact strs_of_vals r) hz fun t' k => ⟨.str _, H, I.tok k, ⟨t', rfl⟩, h⟩

/-! ### of a text alone -/
theorem mt0 {id : String} {C : Str → Prop} {g : Str → V} (rule : ∀ (a : Str) (t : Tok) (s : Shared) (Q : Value → Shared → Prop), C a → (∀ (u : Value) (k : Nat), RelV (g a) u → Q u { s with toks := k }) →
    wpAny (model X.prog X.w) X.A (call (.builtin id) [.str a t]) Q X.xe s) : MtR X id (fun x xs H Q => ∃ a, x = .str a ∧ xs = [] ∧ C a ∧ Q (g a) H) := by
  intro pins s σ H x xs v us Q I rx rs h
  obtain ⟨a, rfl, rfl, hc, h⟩ := h
  obtain ⟨t, rfl⟩ := rx
  cases rs
  exact rule a t s _ hc fun u k r => ⟨g a, H, I.tok k, r, h⟩
theorem mt_strip : MtR X "str.strip" (fun x xs H Q => ∃ a, x = .str a ∧ xs = [] ∧ a.length ≤ sizeLine ∧ Q (.str (Txt.strip a)) H) :=
  mt0 (C := fun a => a.length ≤ sizeLine) (g := fun a => .str (Txt.strip a)) fun _ _ _ _ hc h => PySem.SC.strip (fun t' k => h _ k ⟨t', rfl⟩) hc
theorem mt_lstrip : MtR X "str.lstrip" (fun x xs H Q => ∃ a, x = .str a ∧ xs = [] ∧ a.length ≤ sizeLine ∧ Q (.str (Txt.lstrip a)) H) :=
  mt0 (C := fun a => a.length ≤ sizeLine) (g := fun a => .str (Txt.lstrip a)) fun _ _ _ _ hc h => PySem.SC.lstrip (fun t' k => h _ k ⟨t', rfl⟩) hc
theorem mt_rstrip : MtR X "str.rstrip" (fun x xs H Q => ∃ a, x = .str a ∧ xs = [] ∧ a.length ≤ sizeLine ∧ Q (.str (Txt.rstrip a)) H) :=
  mt0 (C := fun a => a.length ≤ sizeLine) (g := fun a => .str (Txt.rstrip a)) fun _ _ _ _ hc h => PySem.SC.rstrip (fun t' k => h _ k ⟨t', rfl⟩) hc
theorem mt_lower : MtR X "str.lower" (fun x xs H Q => ∃ a, x = .str a ∧ xs = [] ∧ a.length ≤ 5592405 ∧ Q (.str (Txt.lower a)) H) :=
  mt0 (C := fun a => a.length ≤ 5592405) (g := fun a => .str (Txt.lower a)) fun a _ s _ hc h =>
    PySem.SC.lower (notLong (by have h1 : a.length ≤ 5592405 := hc; have := PyProof.Rows.len_lower a; omega)) (h _ (s.toks + 1) ⟨_, rfl⟩)
theorem mt_upper : MtR X "str.upper" (fun x xs H Q => ∃ a, x = .str a ∧ xs = [] ∧ a.length ≤ 5592405 ∧ Q (.str (Txt.upper a)) H) :=
  mt0 (C := fun a => a.length ≤ 5592405) (g := fun a => .str (Txt.upper a)) fun a _ s _ hc h =>
    PySem.SC.upper (notLong (by have h1 : a.length ≤ 5592405 := hc; have := PyProof.Rows.len_upper a; omega)) (h _ (s.toks + 1) ⟨_, rfl⟩)
theorem mt_isdigit : MtR X "str.isdigit" (fun x xs H Q => ∃ a, x = .str a ∧ xs = [] ∧ True ∧ Q (.bl (Txt.isdigit a)) H) :=
  mt0 (C := fun _ => True) (g := fun a => .bl (Txt.isdigit a)) fun _ _ s _ _ h => PySem.SC.isdigit (h _ s.toks rfl)
theorem mt_isalpha : MtR X "str.isalpha" (fun x xs H Q => ∃ a, x = .str a ∧ xs = [] ∧ True ∧ Q (.bl (Txt.isalpha a)) H) :=
  mt0 (C := fun _ => True) (g := fun a => .bl (Txt.isalpha a)) fun _ _ s _ _ h => PySem.SC.isalpha (h _ s.toks rfl)
theorem mt_isalnum : MtR X "str.isalnum" (fun x xs H Q => ∃ a, x = .str a ∧ xs = [] ∧ True ∧ Q (.bl (Txt.isalnum a)) H) :=
  mt0 (C := fun _ => True) (g := fun a => .bl (Txt.isalnum a)) fun _ _ s _ _ h => PySem.SC.isalnum (h _ s.toks rfl)
theorem mt_isspace : MtR X "str.isspace" (fun x xs H Q => ∃ a, x = .str a ∧ xs = [] ∧ True ∧ Q (.bl (Txt.isspace a)) H) :=
  mt0 (C := fun _ => True) (g := fun a => .bl (Txt.isspace a)) fun _ _ s _ _ h => PySem.SC.isspace (h _ s.toks rfl)

/-! ### of a text and a text -/
theorem mt1 {id : String} {g : Str → Str → V} (rule : ∀ (a b : Str) (t u : Tok) (s : Shared) (Q : Value → Shared → Prop), (∀ (v : Value) (k : Nat), RelV (g a b) v → Q v { s with toks := k }) →
    wpAny (model X.prog X.w) X.A (call (.builtin id) [.str a t, .str b u]) Q X.xe s) : MtR X id (fun x xs H Q => ∃ a b, x = .str a ∧ xs = [.str b] ∧ Q (g a b) H) := by
  intro pins s σ H x xs v us Q I rx rs h
  obtain ⟨a, b, rfl, rfl, h⟩ := h
  obtain ⟨t, rfl⟩ := rx
  cases rs with
  | cons r1 rs =>
    cases rs
    obtain ⟨u, rfl⟩ := r1
    exact rule a b t u s _ fun v k r => ⟨g a b, H, I.tok k, r, h⟩
theorem mt_startswith : MtR X "str.startswith" (fun x xs H Q => ∃ a b, x = .str a ∧ xs = [.str b] ∧ Q (.bl (Txt.startswith a b)) H) :=
  mt1 (g := fun a b => .bl (Txt.startswith a b)) fun _ _ _ _ s _ h => PySem.SC.startswith (h _ s.toks rfl)
theorem mt_endswith : MtR X "str.endswith" (fun x xs H Q => ∃ a b, x = .str a ∧ xs = [.str b] ∧ Q (.bl (Txt.endswith a b)) H) :=
  mt1 (g := fun a b => .bl (Txt.endswith a b)) fun _ _ _ _ s _ h => PySem.SC.endswith (h _ s.toks rfl)
theorem mt_find : MtR X "str.find" (fun x xs H Q => ∃ a b, x = .str a ∧ xs = [.str b] ∧ Q (.int (Txt.find a b)) H) :=
  mt1 (g := fun a b => .int (Txt.find a b)) fun _ _ _ _ s _ h => PySem.SC.find (h _ (s.toks + 1) ⟨_, rfl⟩)
theorem mt_count : MtR X "str.count" (fun x xs H Q => ∃ a b, x = .str a ∧ xs = [.str b] ∧ Q (.int (Txt.count a b)) H) :=
  mt1 (g := fun a b => .int (Txt.count a b)) fun _ _ _ _ s _ h => PySem.SC.count (h _ (s.toks + 1) ⟨_, rfl⟩)

/-- int(text) -/
theorem call_int_str : CallR X (.type "int") (fun xs H Q => ∃ a n, xs = [.str a] ∧ PySem.intText? a = some n ∧ a.length ≤ 640 ∧ Q (.int n) H) := by
  intro pins s σ H xs us Q I rs h
  obtain ⟨a, n, rfl, hn, hl, h⟩ := h
  cases rs with
  | cons r1 rs =>
    cases rs
    obtain ⟨t, rfl⟩ := r1
    exact PySem.W.KIN.call_text hn hl ⟨.int n, H, I.tok _, ⟨_, rfl⟩, h⟩
end

section
variable {X : Cx} {o e : Expr} {to te : TE}
def tM0 (r : V → List V → Hp → VK → Prop) (to : TE) : TE := fun σ H Q => to σ H fun x H1 => (∃ a, x = .str a) ∧ r x [] H1 Q
def tM1 (r : V → List V → Hp → VK → Prop) (to te : TE) : TE := fun σ H Q => to σ H fun x H1 => (∃ a, x = .str a) ∧ te σ H1 fun y H2 => r x [y] H2 Q
theorem pe_m0 {id : String} {name : Str} {apos pos : Pos} {r : V → List V → Hp → VK → Prop} (slot : Slot "str" name id) (ty : typeOf (.builtin id) = pure (.type "method_descriptor")) (rule : MtR X id r) (ho : PE X o to)
    (hbase : attributeBase o name X.env (eval o X.env) = eval o X.env := by rfl) (hline : (apos.endLine == pos.line) = true := by rfl) : PE X (.Call (.Attribute o name apos) [] [] pos) (tM0 r to) := by
  intro pins s σ H Q I h
  refine PySem.Call_method0 hbase hline (thn (ho pins s σ H _ I h) fun v s1 ⟨x, H1, I1, r1, q1⟩ => ?_)
  obtain ⟨⟨a, rfl⟩, q1⟩ := q1
  obtain ⟨t, rfl⟩ := _root_.id r1
  exact ⟨"str", _, F.plainAttrs_str, slot, ty, typeIs_str _ _ _, (fun _ e => nomatch e), Calls.callWith_builtin rfl (PySem.evalArgs_none (rule pins s1 σ H1 _ [] _ [] Q I1 r1 .nil q1))⟩
theorem pe_m1 {id : String} {name : Str} {apos pos : Pos} {r : V → List V → Hp → VK → Prop} (slot : Slot "str" name id) (ty : typeOf (.builtin id) = pure (.type "method_descriptor")) (rule : MtR X id r) (ho : PE X o to) (he : PE X e te)
    (hs : starEach [e] X.env = [(false, eval e X.env)] := by rfl) (hbase : attributeBase o name X.env (eval o X.env) = eval o X.env := by rfl) (hline : (apos.endLine == pos.line) = true := by rfl) :
    PE X (.Call (.Attribute o name apos) [e] [] pos) (tM1 r to te) := by
  intro pins s σ H Q I h
  refine PySem.Call_method1 hbase hs hline (thn (ho pins s σ H _ I h) fun v s1 ⟨x, H1, I1, r1, q1⟩ => ?_)
  obtain ⟨⟨a, rfl⟩, q1⟩ := q1
  obtain ⟨t, rfl⟩ := _root_.id r1
  refine ⟨"str", _, F.plainAttrs_str, slot, ty, typeIs_str _ _ _, (fun _ e => nomatch e), Calls.callWith_builtin rfl (Calls.evalArgs_plain (Calls.spliced_cons ?_))⟩
  exact thn (he pins s1 σ H1 _ I1 q1) fun u s2 ⟨y, H2, I2, r2, q2⟩ => Calls.spliced_nil (rule pins s2 σ H2 _ [y] _ [u] Q I2 r1 (.cons r2 .nil) q2)

theorem pe_split {apos pos : Pos} (ho : PE X o to) (he : PE X e te) (hs : starEach [e] X.env = [(false, eval e X.env)] := by rfl) (hbase : attributeBase o "split" X.env (eval o X.env) = eval o X.env := by rfl) (hline : (apos.endLine == pos.line) = true := by rfl) :
    PE X (.Call (.Attribute o "split" apos) [e] [] pos) (tM1 (fun x xs H Q => ∃ a b, x = .str a ∧ xs = [.str b] ∧ (b.length == 0) = false ∧ a.length + 2 ≤ sizeLine ∧ rNewStrs (Txt.split a b) H Q) to te) :=
  pe_m1 F.slot_str_split F.type_str_split mt_split ho he hs hbase hline
theorem pe_words {apos pos : Pos} (ho : PE X o to) (hbase : attributeBase o "split" X.env (eval o X.env) = eval o X.env := by rfl) (hline : (apos.endLine == pos.line) = true := by rfl) :
    PE X (.Call (.Attribute o "split" apos) [] [] pos) (tM0 (fun x xs H Q => ∃ a, x = .str a ∧ xs = [] ∧ a.length + 2 ≤ sizeLine ∧ rNewStrs (Txt.words a) H Q) to) :=
  pe_m0 F.slot_str_split F.type_str_split mt_words ho hbase hline
theorem pe_partition {apos pos : Pos} (ho : PE X o to) (he : PE X e te) (hs : starEach [e] X.env = [(false, eval e X.env)] := by rfl) (hbase : attributeBase o "partition" X.env (eval o X.env) = eval o X.env := by rfl) (hline : (apos.endLine == pos.line) = true := by rfl) :
    PE X (.Call (.Attribute o "partition" apos) [e] [] pos) (tM1 (fun x xs H Q => ∃ a b, x = .str a ∧ xs = [.str b] ∧ (b.length == 0) = false ∧ a.length ≤ sizeLine ∧
      ∀ p, H p = none → Q (.ref p) (upd H p (.tup [.str (Txt.partition a b).1, .str (Txt.partition a b).2.1, .str (Txt.partition a b).2.2]))) to te) :=
  pe_m1 F.slot_str_partition F.type_str_partition mt_partition ho he hs hbase hline
theorem pe_join {apos pos : Pos} (ho : PE X o to) (he : PE X e te) (hs : starEach [e] X.env = [(false, eval e X.env)] := by rfl) (hbase : attributeBase o "join" X.env (eval o X.env) = eval o X.env := by rfl) (hline : (apos.endLine == pos.line) = true := by rfl) :
    PE X (.Call (.Attribute o "join" apos) [e] [] pos) (tM1 (fun x xs H Q => ∃ a p, ∃ ys : List Str, x = .str a ∧ xs = [.ref p] ∧ (SqL X.K H p (ys.map V.str) ∨ SqT X.K H p (ys.map V.str)) ∧
      (ys.map (·.length)).sum + ys.length * a.length ≤ 16777216 ∧ Q (.str (Txt.join a ys)) H) to te) :=
  pe_m1 F.slot_str_join F.type_str_join mt_join ho he hs hbase hline
theorem pe_strip {apos pos : Pos} (ho : PE X o to) (hbase : attributeBase o "strip" X.env (eval o X.env) = eval o X.env := by rfl) (hline : (apos.endLine == pos.line) = true := by rfl) :
    PE X (.Call (.Attribute o "strip" apos) [] [] pos) (tM0 (fun x xs H Q => ∃ a, x = .str a ∧ xs = [] ∧ a.length ≤ sizeLine ∧ Q (.str (Txt.strip a)) H) to) :=
  pe_m0 F.slot_str_strip F.type_str_strip mt_strip ho hbase hline
theorem pe_lower {apos pos : Pos} (ho : PE X o to) (hbase : attributeBase o "lower" X.env (eval o X.env) = eval o X.env := by rfl) (hline : (apos.endLine == pos.line) = true := by rfl) :
    PE X (.Call (.Attribute o "lower" apos) [] [] pos) (tM0 (fun x xs H Q => ∃ a, x = .str a ∧ xs = [] ∧ a.length ≤ 5592405 ∧ Q (.str (Txt.lower a)) H) to) :=
  pe_m0 F.slot_str_lower F.type_str_lower mt_lower ho hbase hline
theorem pe_upper {apos pos : Pos} (ho : PE X o to) (hbase : attributeBase o "upper" X.env (eval o X.env) = eval o X.env := by rfl) (hline : (apos.endLine == pos.line) = true := by rfl) :
    PE X (.Call (.Attribute o "upper" apos) [] [] pos) (tM0 (fun x xs H Q => ∃ a, x = .str a ∧ xs = [] ∧ a.length ≤ 5592405 ∧ Q (.str (Txt.upper a)) H) to) :=
  pe_m0 F.slot_str_upper F.type_str_upper mt_upper ho hbase hline
end
end L2

namespace L2
open PySem PySem.Spec PyProof.Rows

section
variable {X : Cx}
theorem op_le_str : OpR X (compareOp .LtE) (fun x y H Q => ∃ i j, x = .str i ∧ y = .str j ∧ Q (.bl (!decide (j.cps.toList < i.cps.toList))) H) := by
  intro pins s σ H x y v u Q I rx ry h
  obtain ⟨i, j, rfl, rfl, q⟩ := h
  obtain ⟨t, rfl⟩ := rx
  obtain ⟨t', rfl⟩ := ry
  exact PySem.P.le_str (fin_bl I q rfl)
theorem op_gt_str : OpR X (compareOp .Gt) (fun x y H Q => ∃ i j, x = .str i ∧ y = .str j ∧ Q (.bl (decide (j.cps.toList < i.cps.toList))) H) := by
  intro pins s σ H x y v u Q I rx ry h
  obtain ⟨i, j, rfl, rfl, q⟩ := h
  obtain ⟨t, rfl⟩ := rx
  obtain ⟨t', rfl⟩ := ry
  exact PySem.P.gt_str (fin_bl I q rfl)
theorem op_ge_str : OpR X (compareOp .GtE) (fun x y H Q => ∃ i j, x = .str i ∧ y = .str j ∧ Q (.bl (!decide (i.cps.toList < j.cps.toList))) H) := by
  intro pins s σ H x y v u Q I rx ry h
  obtain ⟨i, j, rfl, rfl, q⟩ := h
  obtain ⟨t, rfl⟩ := rx
  obtain ⟨t', rfl⟩ := ry
  exact PySem.P.ge_str (fin_bl I q rfl)
/-- one sign in a text -/
theorem op_in_sign : OpR X (compareOp .In) (fun x y H Q => ∃ (c : Nat) (z : Str), x = .str ⟨#[c]⟩ ∧ y = .str z ∧ Q (.bl (decide (c ∈ z.cps.toList))) H) := by
  intro pins s σ H x y v u Q I rx ry h
  obtain ⟨c, z, rfl, rfl, q⟩ := h
  obtain ⟨t, rfl⟩ := rx
  obtain ⟨t', rfl⟩ := ry
  exact PyProof.Rows.in_str (fin_bl I q (PySem.StrLaws.found_one z c).symm)
theorem op_notIn_sign : OpR X (compareOp .NotIn) (fun x y H Q => ∃ (c : Nat) (z : Str), x = .str ⟨#[c]⟩ ∧ y = .str z ∧ Q (.bl (!decide (c ∈ z.cps.toList))) H) := by
  intro pins s σ H x y v u Q I rx ry h
  obtain ⟨c, z, rfl, rfl, q⟩ := h
  obtain ⟨t, rfl⟩ := rx
  obtain ⟨t', rfl⟩ := ry
  exact PyProof.Rows.notIn_str (fin_bl I q (congrArg Bool.not (PySem.StrLaws.found_one z c).symm))
end

/-! ### slices of a text -/
theorem IsPart.raw {v : Value} {o : Option Int} (p : IsPart v o) : ∃ l : Option (Int × Tok), v = partValue l ∧ l.map (·.1) = o := by
  cases p with
  | none => exact ⟨none, rfl, rfl⟩
  | int i t => exact ⟨some (i, t), rfl, rfl⟩

/-- a part, clipped, as the text's slice reckons it -/
def clipS (n d : Nat) : Option Int → Int
  | none => (d : Int)
  | some i => max 0 (min (if i < 0 then i + (n : Int) else i) (n : Int))
theorem clipS_eq (n d : Nat) (o : Option Int) : clipS n d o = ((HT.sIx n d o : Nat) : Int) := by
  cases o with
  | none => rfl
  | some v =>
    show max (0 : Int) (min (if v < 0 then v + (n : Int) else v) (n : Int)) = (((if v < 0 then (v + (n : Int)).toNat else min v.toNat n) : Nat) : Int)
    by_cases hv : v < 0
    · simp only [if_pos hv]
      omega
    · simp only [if_neg hv]
      omega
theorem sidx_clip (a b : Option Int) (n : Nat) : Builtin.Str.strSliceIndices a b 1 n = sliceRange (clipS n 0 a) (clipS n n b) 1 := by
  have h1 : ((1 : Int) > 0) = True := by simp
  cases a <;> cases b <;> first
    | rfl
    | (simp only [Builtin.Str.strSliceIndices, clipS, h1, if_true]; rfl)
    | simp [Builtin.Str.strSliceIndices, clipS]
theorem sidx (a b : Option Int) (n : Nat) : Builtin.Str.strSliceIndices a b 1 n = (List.range (HT.sIx n n b - HT.sIx n 0 a)).map (fun k => HT.sIx n 0 a + k) := by
  rw [sidx_clip, clipS_eq, clipS_eq]
  generalize HT.sIx n 0 a = p
  generalize HT.sIx n n b = q
  simp only [sliceRange, show ((1 : Int) > 0) = True from by simp, if_true]
  by_cases hlt : (p : Int) < q
  · have e3 : (((q : Int) - p + 1 - 1) / 1).toNat = q - p := by first | omega | (simp; done) | (simp; omega)
    simp only [hlt, if_true, e3]
    refine List.map_congr_left fun k _ => ?_
    omega
  · have : q - p = 0 := by omega
    simp [hlt, this]

/-- z[lo:hi] -/
def cutS (z : Str) (lo hi : Option Int) : Str :=
  ⟨((z.cps.toList.drop (HT.sIx z.length 0 lo)).take (HT.sIx z.length z.length hi - HT.sIx z.length 0 lo)).toArray⟩
theorem sliceText_cut (z : Str) (lo hi : Option Int) : PySem.StrLaws.sliceText z lo hi = cutS z lo hi := by
  have h1 : HT.sIx z.length 0 lo ≤ z.length := HT.sIx_le _ _ (Nat.zero_le _) _
  have h2 : HT.sIx z.length z.length hi ≤ z.length := HT.sIx_le _ _ (Nat.le_refl _) _
  have hp : HT.sIx z.length 0 lo ≤ max (HT.sIx z.length 0 lo) (HT.sIx z.length z.length hi) := Nat.le_max_left _ _
  have hq : max (HT.sIx z.length 0 lo) (HT.sIx z.length z.length hi) ≤ z.length := Nat.max_le.mpr ⟨h1, h2⟩
  have hd : max (HT.sIx z.length 0 lo) (HT.sIx z.length z.length hi) - HT.sIx z.length 0 lo = HT.sIx z.length z.length hi - HT.sIx z.length 0 lo := by omega
  have e : Builtin.Str.strSliceIndices lo hi 1 z.length =
      Builtin.Str.strSliceIndices (some ((HT.sIx z.length 0 lo : Nat) : Int)) (some ((max (HT.sIx z.length 0 lo) (HT.sIx z.length z.length hi) : Nat) : Int)) 1 z.length := by
    rw [PySem.StrLaws.strSliceIndices_plain hp hq, hd, sidx]
  have e2 : PySem.StrLaws.sliceText z lo hi =
      PySem.StrLaws.sliceText z (some ((HT.sIx z.length 0 lo : Nat) : Int)) (some ((max (HT.sIx z.length 0 lo) (HT.sIx z.length z.length hi) : Nat) : Int)) := by
    unfold PySem.StrLaws.sliceText
    rw [e]
  rw [e2, PySem.StrLaws.sliceText_nat z hp hq, hd]
  rfl
theorem cutS_length (z : Str) (lo hi : Option Int) : (cutS z lo hi).length ≤ z.length := by
  show (((z.cps.toList.drop (HT.sIx z.length 0 lo)).take (HT.sIx z.length z.length hi - HT.sIx z.length 0 lo)).toArray).size ≤ z.cps.size
  rw [List.size_toArray, List.length_take, List.length_drop, Array.length_toList]
  omega
def rSlS : V → Option Int → Option Int → Hp → VK → Prop := fun x lo hi H Q => ∃ z, x = .str z ∧ z.length ≤ sizeLine ∧ Q (.str (cutS z lo hi)) H
theorem sl_str {X : Cx} : SlR X rSlS := by
  intro pins s σ H x v vl vu lo hi sl Q I rx hs pl pu h
  obtain ⟨z, rfl, hz, q⟩ := h
  obtain ⟨t, rfl⟩ := rx
  obtain ⟨os, hos, hcs, hds⟩ := hs
  obtain ⟨l, rfl, rfl⟩ := IsPart.raw pl
  obtain ⟨u, rfl, rfl⟩ := IsPart.raw pu
  refine ⟨"str", _, F.slot_str_getitem.lookup, typeIs_str _ _ _, ?_⟩
  refine wpAny_getItem_str_slice (l := l) (u := u) (st := none) ⟨os, hos, hcs, hds⟩ rfl ?_
  have hl : (PySem.StrLaws.sliceText z (l.map (·.1)) (u.map (·.1))).length ≤ sizeLine := by
    rw [sliceText_cut]
    exact Nat.le_trans (cutS_length z _ _) hz
  rw [← sliceText_cut] at q
  unfold PySem.StrLaws.sliceText at q hl
  show Made.post (if ((1 : Int) == 1 && (Builtin.Str.strSliceIndices (l.map (·.1)) (u.map (·.1)) 1 z.length).length == z.length) = true then Made.val (.str z t)
    else Made.str ⟨((Builtin.Str.strSliceIndices (l.map (·.1)) (u.map (·.1)) 1 z.length).filterMap (z.cps[·]?)).toArray⟩) (EP X pins σ Q) s
  by_cases c : ((1 : Int) == 1 && (Builtin.Str.strSliceIndices (l.map (·.1)) (u.map (·.1)) 1 z.length).length == z.length) = true
  · rw [if_pos c] at q ⊢
    exact ⟨.str z, H, I, ⟨t, rfl⟩, q⟩
  · rw [if_neg c] at q hl ⊢
    exact ⟨hl, .str _, H, I.tok _, ⟨_, rfl⟩, q⟩
end L2

namespace Att
open PySem PySem.W PySem.Calls PyProof.Rows

/-! ### the script -/
theorem ints_of_wellAll {P : Params} {h : Heap} : ∀ (ns : List Int) (vs : List Value), WellAll P h vs (ns.map WData.int) → IntsAre vs ns := by
  intro ns
  induction ns with
  | nil =>
    intro vs w
    rw [List.map_nil] at w
    cases w
    exact .nil
  | cons n ns ih =>
    intro vs w
    rw [List.map_cons] at w
    cases w with
    | cons a b =>
      cases a
      exact .cons _ _ (ih _ b)

theorem script_of {l : OpenLaw} {n : Nat} (hn : l.most = some n) {P : Params} {h : Heap} {args : List WData} {vals : List Value}
    (hpre : l.row.toRowW.claim.pre args = true) (hwl : WellAll P h vals args) :
    ∃ a vs ns, vals = [Value.ref a] ∧ args = [WData.list (ns.map WData.int)] ∧ h.get? a = some { cls := .type "list", data := .seq vs.toArray } ∧ IntsAre vs ns ∧ ns.length ≤ n := by
  have hsh : WShape.hasAll [] args [.list .int] = true := (pre_splitW hpre).1
  have hc : l.pre.holds [] { args := args } = true := (pre_splitW hpre).2
  obtain ⟨d, r, rfl, h1, h2⟩ := hasAllW_cons hsh
  obtain rfl := hasAllW_nil h2
  obtain ⟨xs, rfl, h3⟩ := hasW_list h1
  obtain ⟨ns, rfl⟩ := items_int h3
  have hlen : ns.length ≤ n := by
    unfold OpenLaw.pre at hc
    have h4 : (WTm.not (.lt (.lit (.int (n : Int))) (.len (.arg 0)))).holds [] { args := [.list (ns.map .int)] } = true := by
      have h4 := (holds_andW hc).1
      rw [hn] at h4
      exact h4
    have h5 := condW_of h4 (w_not (w_lt w_lit (w_len_list (w_arg rfl))))
    rw [List.length_map] at h5
    refine Nat.le_of_not_lt fun q => ?_
    have q' : (n : Int) < ((ns.length : Nat) : Int) := by omega
    first
      | (rw [decide_eq_true q'] at h5; exact absurd h5 (by decide))
      | (simp at h5; omega)
  cases hwl with
  | cons w1 w2 =>
    cases w2
    cases w1 with
    | list ho hall => exact ⟨_, _, ns, rfl, rfl, ho, ints_of_wellAll ns _ hall, hlen⟩

theorem post_true (l : OpenLaw) (args : List WData) : l.row.toRowW.claim.post args (.bool true) args = true :=
  postW_of (r := l.row.toRowW) (X := (true == true))
    (show WShape.has [] (.bool true) .bool = true by first | rfl | decide | simp [WShape.has, WShape.arms, WShape.armsAll])
    (show (WTm.eq .res (.lit (.bool true))).value [] { args := args, res := some (.bool true), after := args } = some (.bool (true == true)) from w_eq_bool (w_res rfl) w_lit) rfl

/-! ### the attachment: holds_open's last premise (the goal 'hc' behind k_head) from a wpAny of the law's body -/
theorem attach {l : OpenLaw} {n : Nat} {q : Program} {loose : List Str} {XP : (Str → Option Value) → Heap → Prop} {YP : World → Heap → Prop} {d : DefRec} {x : Str}
    (hn : l.most = some n) (hdf : d.params.defaults = [])
    (hbind : ∀ pm cd doc v : Value, bindArgs (docDef d.name d.params d.body d.scope pm cd doc) ⟨[v], []⟩ = pure [(x, v)])
    (hx : d.scope.names.lookup x = some .local ∨ d.scope.names.lookup x = some .cell)
    (hk : d.scope.kind = .function) (hco : d.scope.isCoroutine = false) (hgen : d.scope.isGenerator = false)
    (body : ∀ (w : World) (s₀ s₁ s : Shared) (mg mb : Str → Option Value) (fa : Addr) (o : Obj) (pm cd doc : Value) (a : Addr) (vs : List Value) (ns : List Int),
      Ground q loose [] XP w s₀ mg mb s₁.heap → YP w s₁.heap →
      s₁.heap.get? fa = some o → o.data = .func (docDef d.name d.params d.body d.scope pm cd doc) → s₁.heap.CodeRec cd d.name → mg d.name = some (.ref fa) →
      s₁.heap.get? a = some { cls := .type "list", data := .seq vs.toArray } → IntsAre vs ns → ns.length ≤ n →
      s.gens = #[] → s.os = s₁.os →
      Fr s₁.heap s₁.heap.objs.size s.heap (bindL (envOfC d.name d.scope s₁.heap.objs.size fa cd).kindOf [(x, .ref a)] fun _ => none) →
      Cl s₁.heap.objs.size (cellsFrom (s₁.heap.objs.size + 1) d.scope.names []) s.heap (bindC (envOfC d.name d.scope s₁.heap.objs.size fa cd).kindOf [(x, .ref a)] fun _ => none) →
      wpAny (model l.prog w) (callerA.deeper (envOfC d.name d.scope s₁.heap.objs.size fa cd)) (execs d.body (envOfC d.name d.scope s₁.heap.objs.size fa cd))
        (fun f s' => f = .ret (.bool true) ∧ OldK s₁.heap s'.heap ∧ s'.os = s₁.os ∧ AllBare s'.gens) (fun _ _ => False) s) :
    WalkO q loose XP YP l.row.toRowW d [] (fun f vs => PySem.call f vs) := by
  intro w s₀ s₁ mg mb G Y fa o pm cd doc dV kV ho hd hcd hD hmg hg args vals as hpre hlay hrd hwl hlo
  obtain rfl : dV = .none := Dflts.none hD hdf
  obtain rfl : kV = .none := Dflts.noKw hD
  obtain ⟨a, vs, ns, rfl, rfl, hobj, hints, hlen⟩ := script_of hn hpre hwl
  refine enter_call ?_
  refine call_cells_ret (o := o) (by rw [depth_caller]; decide) ho (fd_plain hd) G.T.nolimit hcd (hbind pm cd doc (.ref a)) (fun y hy => ?_) (fun h₁ tk F X => ?_) hco hgen hk
  · obtain rfl : y = (x, Value.ref a) := List.mem_singleton.mp hy
    rcases hx with e | e
    · exact .inl e
    · exact .inr ⟨e, cellsFrom_some _ _ _ (.inl e)⟩
  · refine wpAny_mono (body w s₀ s₁ { s₁ with heap := h₁, toks := tk } mg mb fa o pm cd doc a vs ns G Y ho (fd_plain hd) hcd hmg hobj hints hlen hg rfl F X) (fun f s' hq => ?_) (fun _ _ hq => hq)
    obtain ⟨rfl, h2, h3, h4⟩ := hq
    exact ⟨.inl ⟨.bool true, .bool true, [], rfl, fun _ => rfl, .bool true, post_true l _, fun _ => ⟨List.Pairwise.nil, fun _ hm => (nomatch hm)⟩⟩, h2, h3, h4⟩

/-- the same from a codeAny of the CALL (for a layer whose function contracts speak of calls) -/
theorem attach_call {l : OpenLaw} {n : Nat} {q : Program} {loose : List Str} {XP : (Str → Option Value) → Heap → Prop} {YP : World → Heap → Prop} {d : DefRec}
    (hn : l.most = some n) (hdf : d.params.defaults = [])
    (call : ∀ (w : World) (s₀ s₁ : Shared) (mg mb : Str → Option Value) (fa : Addr) (o : Obj) (pm cd doc : Value) (a : Addr) (vs : List Value) (ns : List Int),
      Ground q loose [] XP w s₀ mg mb s₁.heap → YP w s₁.heap →
      s₁.heap.get? fa = some o → o.data = .func (docDef d.name d.params d.body d.scope pm cd doc) → s₁.heap.CodeRec cd d.name → mg d.name = some (.ref fa) →
      s₁.heap.get? a = some { cls := .type "list", data := .seq vs.toArray } → IntsAre vs ns → ns.length ≤ n → s₁.gens = #[] →
      codeAny (model l.prog w) callerA (.call (.ref fa) ⟨[.ref a], []⟩) (fun r s' => r = .ok (.ret (.bool true)) ∧ OldK s₁.heap s'.heap ∧ s'.os = s₁.os ∧ AllBare s'.gens) s₁) :
    WalkO q loose XP YP l.row.toRowW d [] (fun f vs => PySem.call f vs) := by
  intro w s₀ s₁ mg mb G Y fa o pm cd doc dV kV ho hd hcd hD hmg hg args vals as hpre hlay hrd hwl hlo
  obtain rfl : dV = .none := Dflts.none hD hdf
  obtain rfl : kV = .none := Dflts.noKw hD
  obtain ⟨a, vs, ns, rfl, rfl, hobj, hints, hlen⟩ := script_of hn hpre hwl
  refine enter_call (codeAny_mono (call w s₀ s₁ mg mb fa o pm cd doc a vs ns G Y ho (fd_plain hd) hcd hmg hobj hints hlen hg) fun r s' hq => ?_)
  obtain ⟨rfl, h2, h3, h4⟩ := hq
  exact ⟨.inl ⟨.bool true, .bool true, [], rfl, fun _ => rfl, .bool true, post_true l _, fun _ => ⟨List.Pairwise.nil, fun _ hm => (nomatch hm)⟩⟩, h2, h3, h4⟩

/-- the same where the top left finished generators (o_head chose holds_openN): nothing may have changed at all and no generator may be left -/
theorem attachN {l : OpenLaw} {n : Nat} {q : Program} {loose : List Str} {XP : (Str → Option Value) → Heap → Prop} {YP : World → Heap → Prop} {d : DefRec} {x : Str}
    (hn : l.most = some n) (hdf : d.params.defaults = [])
    (hbind : ∀ pm cd doc v : Value, bindArgs (docDef d.name d.params d.body d.scope pm cd doc) ⟨[v], []⟩ = pure [(x, v)])
    (hx : d.scope.names.lookup x = some .local ∨ d.scope.names.lookup x = some .cell)
    (hk : d.scope.kind = .function) (hco : d.scope.isCoroutine = false) (hgen : d.scope.isGenerator = false)
    (body : ∀ (w : World) (s₀ s₁ s : Shared) (mg mb : Str → Option Value) (fa : Addr) (o : Obj) (pm cd doc : Value) (a : Addr) (vs : List Value) (ns : List Int),
      Ground q loose [] XP w s₀ mg mb s₁.heap → YP w s₁.heap →
      s₁.heap.get? fa = some o → o.data = .func (docDef d.name d.params d.body d.scope pm cd doc) → s₁.heap.CodeRec cd d.name → mg d.name = some (.ref fa) →
      s₁.heap.get? a = some { cls := .type "list", data := .seq vs.toArray } → IntsAre vs ns → ns.length ≤ n →
      s.gens = #[] → s.os = s₁.os →
      Fr s₁.heap s₁.heap.objs.size s.heap (bindL (envOfC d.name d.scope s₁.heap.objs.size fa cd).kindOf [(x, .ref a)] fun _ => none) →
      Cl s₁.heap.objs.size (cellsFrom (s₁.heap.objs.size + 1) d.scope.names []) s.heap (bindC (envOfC d.name d.scope s₁.heap.objs.size fa cd).kindOf [(x, .ref a)] fun _ => none) →
      wpAny (model l.prog w) (callerA.deeper (envOfC d.name d.scope s₁.heap.objs.size fa cd)) (execs d.body (envOfC d.name d.scope s₁.heap.objs.size fa cd))
        (fun f s' => f = .ret (.bool true) ∧ (∀ b o, s₁.heap.get? b = some o → s'.heap.get? b = some o) ∧ s'.os = s₁.os ∧ s'.gens = #[]) (fun _ _ => False) s) :
    WalkN q loose XP YP l.row.toRowW d [] (fun f vs => PySem.call f vs) := by
  intro w s₀ s₁ mg mb G Y fa o pm cd doc dV kV ho hd hcd hD hmg hg args vals as hpre hlay hrd hwl hlo
  obtain rfl : dV = .none := Dflts.none hD hdf
  obtain rfl : kV = .none := Dflts.noKw hD
  obtain ⟨a, vs, ns, rfl, rfl, hobj, hints, hlen⟩ := script_of hn hpre hwl
  refine enter_callW ?_
  refine call_cells_ret (o := o) (by rw [depth_caller]; decide) ho (fd_plain hd) G.T.nolimit hcd (hbind pm cd doc (.ref a)) (fun y hy => ?_) (fun h₁ tk F X => ?_) hco hgen hk
  · obtain rfl : y = (x, Value.ref a) := List.mem_singleton.mp hy
    rcases hx with e | e
    · exact .inl e
    · exact .inr ⟨e, cellsFrom_some _ _ _ (.inl e)⟩
  · refine wpAny_mono (body w s₀ s₁ { s₁ with heap := h₁, toks := tk } mg mb fa o pm cd doc a vs ns G Y ho (fd_plain hd) hcd hmg hobj hints hlen hg rfl F X) (fun f s' hq => ?_) (fun _ _ hq => hq)
    obtain ⟨rfl, h2, h3, h4⟩ := hq
    exact ⟨.inl ⟨.bool true, .bool true, [], rfl, fun _ => rfl, .bool true, post_true l _, fun _ => ⟨List.Pairwise.nil, fun _ hm => (nomatch hm)⟩⟩, h2, h3, h4⟩

/-! ### rules over ANY heap (no ledger) from facts about the written part K: the library's own take a ledger (News) for what they write -/
section
variable {prog : Program} {w : World} {A : Around} {E : Value → Shared → Prop} {s : Shared} {K : Frag}

/-- a def of the module, or a method (qual 'C.m'), entered: the frame is the next address; cells behind it -/
theorem call_fn {R : Result → Shared → Prop} {name qual : Str} {params : Arguments} {body : List Stmt} {scope : Scope} {dV kV doc pm cdv ct oc : Value} {an od : Option Addr} {osl : Array (Option Value)} {f : Addr} {args : Args} {binds : List (Str × Value)}
    (X : K.In s.heap) (hlim : s.heap.NoLimit) (ho : K.lookup f = some ⟨oc, od, .func (fnOf name qual params body scope dV kV doc pm an cdv ct), osl⟩) (hcd : codeIn K cdv qual = true) (hroom : A.depth < recursionLimit)
    (hbind : BindsTo s (fnOf name qual params body scope dV kV doc pm an cdv ct) args binds)
    (hkind : (binds.all fun y => scope.names.lookup y.1 == some .local || scope.names.lookup y.1 == some .cell) = true)
    (h : ∀ s₁, InCallC s s.heap.objs.size (bindL (envOfC qual scope s.heap.objs.size f cdv).kindOf binds fun _ => none) (cellsFrom (s.heap.objs.size + 1) scope.names [])
        (bindC (envOfC qual scope s.heap.objs.size f cdv).kindOf binds fun _ => none) s₁ →
      wpAny (model prog w) (A.deeper (envOfC qual scope s.heap.objs.size f cdv)) (execs body (envOfC qual scope s.heap.objs.size f cdv))
        (fun fl s' => R (.ok (.ret (match fl with | .ret v => v | _ => .none))) s')
        (fun e s' => wpAny (model prog w) (A.deeper (envOfC qual scope s.heap.objs.size f cdv)) (leaving (envOfC qual scope s.heap.objs.size f cdv) e) (fun _ s'' => R (.error e) s'') (fun e' s'' => R (.error e') s'') s') s₁)
    (hco : scope.isCoroutine = false) (hgen : scope.isGenerator = false) (hk : scope.kind = .function) : codeAny (model prog w) A (.call (.ref f) args) R s := by
  refine codeAny_call_function hroom (X _ _ ho) rfl hco hgen rfl (codeRec_of X hcd) (hbind _ _ _ _ ?_)
  refine wpAny_newFunctionEnv_cells hk (kindsX hkind _) fun env he s₁ x => ?_
  subst he
  exact ⟨hlim.keeps x.toInCall.keep, codeAny_func (h s₁ x)⟩

/-- C(..): dict at size, instance at size + 1, then __init__ -/
theorem make_obj {R : Result → Shared → Prop} {C fI : Addr} {rest : List Value} {kw : List (Str × Value)}
    (X : K.In s.heap) (hm : makesIn K C = true) (hi : findIn K (.ref C) "__init__" = some (some (.ref fI))) (hf : isFn K (.ref fI) = true)
    (h : codeAny (model prog w) (A.under (.builtin "type.__call__" ⟨.ref C :: rest, kw⟩)) (.call (.ref fI) ⟨.ref (s.heap.objs.size + 1) :: rest, kw⟩) (InitBack (s.heap.objs.size + 1) R)
      { s with heap := (s.heap.push emptyDict).push (instObj C s.heap.objs.size) }) : codeAny (model prog w) A (.call (.ref C) ⟨rest, kw⟩) R s := by
  obtain ⟨hh, g, d, t, os⟩ := s
  exact make_core (makes_of X hm) (looks_findIn X hi) (fun self => bind_fn X self (beq_iff_eq.mp hf)) (.inl rfl) h

/-- x.name where the instance's dict holds the name and the class does not -/
theorem get_field {x C : Addr} {ox : Obj} {es : List DictEntry} {n : Nat} {name : Str} {expr : Bool} {v : Value} {Q : Value → Shared → Prop}
    (X : K.In s.heap) (I : PySem.W.InstAt s.heap x ox C (some (dictOf es n))) (hg : plainGet K C name = true) (hh : hasDictIn K C = true) (ha : findIn K (.ref C) name = some none)
    (hl : getL name es = some (some v)) (hv : handedIn v = true) (h : Q v { s with toks := s.toks + 1 }) : wpAny (model prog w) A (getAttr (.ref x) name expr) Q E s :=
  get_value X I (plainGet_of hg).1 (findObj_own hh ha rfl hl) hv h

/-- x.m(..): the method found in the class -/
theorem get_method {x C f : Addr} {ox : Obj} {es : List DictEntry} {n : Nat} {name : Str} {pl : Sem Bool} {Q : Value × List Value → Shared → Prop}
    (X : K.In s.heap) (I : PySem.W.InstAt s.heap x ox C (some (dictOf es n))) (hg : plainGet K C name = true) (hf : findIn K (.ref C) name = some (some (.ref f))) (ht : isFn K (.ref f) = true)
    (hl : getL name es = some none) (h : Q (.ref f, [.ref x]) s) : wpAny (model prog w) A (getMethod (.ref x) name pl) Q E s :=
  method_fn X I (plainGet_of hg).1 (plainGet_of hg).2 hf (beq_iff_eq.mp ht) (by show (lookIn name (dictOf es n)).map _ = _; rw [lookIn_dict, hl]; rfl) h

/-! the whole heap as the ledger: makes every rule that writes through a ledger a rule over any heap -/
def noObjs (h : Heap) : Heap := { h with objs := #[] }
theorem noObjs_get (h : Heap) (b : Addr) : (noObjs h).get? b = none := by
  cases e : (noObjs h).get? b with
  | none => rfl
  | some o => exact absurd (Heap.lt_size e) (Nat.not_lt_zero _)
def ledger (h : Heap) (L d : Addr) : List (Addr × Obj) := (List.range h.objs.size).filterMap fun a => if a = L ∨ a = d then none else (h.get? a).map fun o => (a, o)
theorem mem_ledger {h : Heap} {L d a : Addr} {o : Obj} : (a, o) ∈ ledger h L d ↔ a ≠ L ∧ a ≠ d ∧ h.get? a = some o := by
  unfold ledger
  rw [List.mem_filterMap]
  constructor
  · rintro ⟨b, _, e⟩
    split at e
    · cases e
    · rename_i hb
      obtain ⟨o', ho, e'⟩ := Option.map_eq_some_iff.mp e
      cases e'
      exact ⟨fun q => hb (.inl q), fun q => hb (.inr q), ho⟩
  · rintro ⟨n1, n2, ho⟩
    refine ⟨a, List.mem_range.mpr (Heap.lt_size ho), ?_⟩
    rw [if_neg (show ¬ (a = L ∨ a = d) from fun q => q.elim n1 n2), ho] <;> rfl
theorem news_ledger {h : Heap} {L d : Addr} {od : Obj} (hne : d ≠ L) (ho : h.get? d = some od) : News (noObjs h) L h ([] ++ (d, od) :: ledger h L d) := by
  rintro ⟨a, o⟩ hp
  rcases List.mem_cons.mp hp with e | hp
  · cases e
    exact ⟨ho, hne, noObjs_get _ _⟩
  · obtain ⟨n1, n2, e⟩ := mem_ledger.mp hp
    exact ⟨e, n1, noObjs_get _ _⟩
theorem fr_all {h : Heap} {L : Addr} {m : Str → Option Value} (n : h.Ns L m) : Fr (noObjs h) L h m :=
  ⟨n, fun b o e => (by rw [noObjs_get] at e; cases e), Nat.zero_le _⟩
/-- Upd of the head entry (for append_K, setItem_K ..) -/
theorem upd_ledger {h : Heap} {L d : Addr} {o o' : Obj} : Upd d o o' ((d, o) :: ledger h L d) ((d, o') :: ledger h L d) :=
  .head fun ⟨_, _⟩ hp => (mem_ledger.mp hp).2.1

/-- x.name = v over any heap: L is any namespace of the heap (the frame's, say): its map stays, its object is not told; all else but the dict stays -/
theorem set_field {x C dx L : Addr} {ox : Obj} {m : Str → Option Value} {es es' : List DictEntry} {n n' : Nat} {name : Str} {v : Value} {Q : Unit → Shared → Prop}
    (X : K.In s.heap) (I : PySem.W.InstAt s.heap x ox C (some (dictOf es n))) (hd : ox.dict = some dx) (hL : s.heap.Ns L m) (hne : dx ≠ L)
    (hs : findIn K (.ref C) "__setattr__" = some (some (.builtin "object.__setattr__"))) (hp : plainOver K C = true) (ht : takerIn K C name = some none) (hh : hasDictIn K C = true) (hl : (getL name es).isSome = true)
    (e : (putL name (PyData.keyHash w.params name) (.str name (s.toks + 1)) v es, putN name es n) = (es', n')) (hz : es'.length ≤ 1000)
    (h : ∀ h' : Heap, h'.Ns L m → h'.get? dx = some (dictOf es' n') → (∀ b o, b ≠ dx → b ≠ L → s.heap.get? b = some o → h'.get? b = some o) → Q () { s with heap := h', toks := s.toks + 2 }) :
    wpAny (model prog w) A (setAttr (.ref x) name v) Q E s := by
  obtain ⟨e1, e2⟩ := Prod.mk.inj e
  have hdx : s.heap.get? dx = some (dictOf es n) := by
    have := I.dict
    rw [hd] at this
    exact this
  refine set_plain X I hs (osa_dict (s := { s with toks := s.toks + 1 }) (h₀ := noObjs s.heap) (L := L) (m := m) (od := dictOf es n) (od' := dictOf es' n') (es := es') (n := n') (pre := []) (post := ledger s.heap L dx)
    (fr_all hL) (news_ledger hne hdx) X I hd hp ht hh hl (fun _ q => nomatch q) (fun ⟨_, _⟩ q => (mem_ledger.mp q).2.1) (by rw [putName_dict, e1, e2]) rfl hz fun h' F' N' => ?_)
  exact h h' F'.ns (N'.get (List.Mem.head _)) fun b o n1 n2 ho => N'.get (List.Mem.tail _ (mem_ledger.mpr ⟨n2, n1, ho⟩))
end
end Att

namespace L2
open PySem PySem.Spec PyProof.Rows

theorem vals_ints : ∀ {vs : List Value} {ns : List Int}, IntsAre vs ns → Vals (ns.map V.int) vs
  | _, _, .nil => .nil
  | _, _, .cons n t h => .cons ⟨t, rfl⟩ (vals_ints h)

/-- nothing is tracked but the script, known to the object (or it is an object of the module) -/
def Only (H : Hp) : Prop := ∀ b, H b = none ∨ ∃ o xs, H b = some (.frz o (.lst xs))

/-- THE HEAD: the law's promise, at the heap behind the top. F, the promise of the law's def, may use that base is part of the heap (so K.In base, base.Ns mainGlobals mg stand in Mod) -/
theorem law_call {P : Program} {w : World} {K : PySem.W.Frag} {mg mb : Str → Option Value} {CX : CXT} {k : Nat} {fa a : Addr} {fd : FuncData} {x : Str} {sp : Sp} {s₁ : Shared} {vs : List Value} {ns : List Int}
    (KX : K.In s₁.heap) (hns : s₁.heap.Ns mainGlobals mg) (hb : s₁.heap.Ns builtinsNs mb) (hbb : ∀ x : Str, x ≠ "__name__" → mb x = bootBuiltins x) (hlim : s₁.heap.NoLimit) (hg : s₁.gens = #[])
    (ha : s₁.heap.get? a = some { cls := .type "list", data := .seq vs.toArray }) (hi : IntsAre vs ns) (hl : ns.length ≤ sizeLine) (hr : Room k callerA)
    (F : ∀ base : Heap, K.In base → base.Ns mainGlobals mg → FnOk P w K mg base CX k fa fd [x] sp) (hbind : ∀ (s : Shared) (u : Value), BindsTo s fd ⟨[u], []⟩ [(x, u)])
    (hsp : ∀ H : Hp, Only H → SqL K H a (ns.map V.int) → sp [.ref a] H (fun v _ => v = .bl true) fun _ _ _ => False)
    (hCX : ∀ H e s', CX [] H s₁ (fun _ _ _ => False) e s' → False) :
    codeAny (model P w) callerA (.call (.ref fa) ⟨[.ref a], []⟩) (fun r s' => r = .ok (.ret (.bool true)) ∧ OldK s₁.heap s'.heap ∧ s'.os = s₁.os ∧ AllBare s'.gens) s₁ := by
  have rv := vals_ints hi
  have lenV := hi.length
  -- from an abstract heap in which nothing but the script may be tracked
  have core : ∀ H : Hp, Only H → SqL K H a (ns.map V.int) → HOk P w H s₁.heap → (∀ b, H b ≠ none → b = a) → (H a ≠ none → K.lookup a = none) →
      codeAny (model P w) callerA (.call (.ref fa) ⟨[.ref a], []⟩) (fun r s' => r = .ok (.ret (.bool true)) ∧ OldK s₁.heap s'.heap ∧ s'.os = s₁.os ∧ AllBare s'.gens) s₁ := by
    intro H hO hS hok hA hK
    have base_of : ∀ {b : Addr} {o : Obj}, s₁.heap.get? b = some o → H b = none → (hidT s₁.heap H).get? b = some o := fun e n => hidT_get e n
    have noA : ∀ {b : Addr} {o : Obj} {es : Array DictEntry} {ep : Nat}, s₁.heap.get? b = some o → o.data = .dict es ep → H b = none := fun {b o es ep} e d => by
      cases q : H b with
      | none => rfl
      | some u =>
        have e' : b = a := hA b (by rw [q]; simp)
        subst e'
        rw [ha] at e; cases e
        have d' : Data.seq vs.toArray _ = Data.dict es ep := d
        cases d'
    have nsK : ∀ {b : Addr} {m : Str → Option Value}, s₁.heap.Ns b m → (hidT s₁.heap H).Ns b m := fun {b m} ⟨o, es, ep, e, d, r⟩ => ⟨o, es, ep, base_of e (noA e d), d, r⟩
    have hKb : K.In (hidT s₁.heap H) := fun b o e => base_of (KX b o e) (by
      cases q : H b with
      | none => rfl
      | some u =>
        have e' : b = a := hA b (by rw [q]; simp)
        subst e'
        rw [hK (by rw [q]; simp)] at e; cases e)
    have hM : Mod K mg (hidT s₁.heap H) := ⟨hKb, nsK hns, ⟨mb, nsK hb, hbb⟩, let ⟨mc, h1, h2⟩ := hlim; ⟨mc, nsK h1, h2⟩⟩
    have e0 : Env0 P w K mg (hidT s₁.heap H) callerA [] s₁ H := ⟨rfl, hM, fun b o e => of_hidT e, Nat.le_of_eq (hidT_size _ _), trivial, fun b hb => absurd (show b ∈ ([] : List Addr) from hb) (by simp), hok, .of_eq hg⟩
    refine codeAny_mono ((F _ hKb (nsK hns)).run callerA [] s₁ H ⟨[.ref a], []⟩ [.ref a] [.ref a] _ _ hr e0 (hbind s₁ (.ref a)) (.cons rfl .nil) (hsp H hO hS)) fun r s' h => ?_
    cases r with
    | error e => exact (hCX H e s' h).elim
    | ok fl =>
      cases fl with
      | next => exact False.elim h
      | brk => exact False.elim h
      | cont => exact False.elim h
      | ret u =>
        obtain ⟨v, H', os, bare, un, hok', r', q⟩ := h
        have q' : v = .bl true := q
        subst q'
        obtain rfl : u = Value.bool true := r'
        refine ⟨rfl, OldK.of_keep fun b o e => ?_, os, bare⟩
        cases q : H b with
        | none => exact un.keep b o e q (by intro z; exact absurd (show b ∈ ([] : List Addr) from z) (by simp)) (by simp)
        | some u =>
          rcases hO b with z | ⟨ob, xs, z⟩
          · rw [q] at z; cases z
          · have z2 := un.frzs b ob _ z
            obtain ⟨e1, _⟩ := hok b _ z
            obtain ⟨e2, _⟩ := hok' b _ z2
            rw [e] at e1; cases e1
            exact e2
  cases hk : K.lookup a with
  | some o =>
    -- the script is one of the module's own objects
    have e := KX a o hk
    rw [ha] at e
    cases e
    refine core (fun _ => none) (fun _ => .inl rfl) (.inr ⟨_, vs.toArray, _, hk, rfl, rfl, rfl, by rw [List.size_toArray, lenV]; exact hl, by simpa using rv⟩) (fun b u z => by have z' : (none : Option HO) = some u := z; cases z') (fun b z => absurd rfl z) fun z => absurd rfl z
  | none =>
    refine core (fun b => if b = a then some (.frz { cls := .type "list", data := .seq vs.toArray } (.lst (ns.map V.int))) else none) (fun b => ?_) (.inl (.inr ⟨{ cls := .type "list", data := .seq vs.toArray }, if_pos rfl⟩)) (fun b u z => ?_) (fun b z => ?_) fun _ => hk
    · by_cases hb : b = a
      · exact .inr ⟨_, _, if_pos hb⟩
      · exact .inl (if_neg hb)
    · by_cases hb : b = a
      · have z' := (if_pos hb).symm.trans z
        cases z'
        subst hb
        exact ⟨ha, by rw [List.length_map]; exact hl, vs, _, rv, ha⟩
      · have z' := (if_neg hb).symm.trans z
        cases z'
    · by_cases hb : b = a
      · exact hb
      · exact absurd (if_neg hb) z
end L2

namespace L2
open PySem PySem.Spec PyProof.Rows

abbrev KOf {K : PySem.W.Frag} {h : Heap} (_ : K.In h) : PySem.W.Frag := K

/-- the goal that k_head leaves (case hc), from the law's promise. F gives the function object fd (K's own) once, then the promise over every base -/
theorem walk_of {l : PySem.W.OpenLaw} {n k : Nat} {q : Program} {loose : List Str} {XP : (Str → Option Value) → Heap → Prop} {YP : World → Heap → Prop} {d : DefRec} {K : Params → PySem.W.Frag} {CX : World → CXT} {sp : World → Sp} {x : Str}
    (hn : l.most = some n) (hn2 : n ≤ sizeLine) (hdf : d.params.defaults = []) (hr : Room k callerA)
    (hY : ∀ (w : World) (h : Heap), YP w h → (K w.params).In h)
    (F : ∀ (w : World) (mg : Str → Option Value) (fa : Addr) (h : Heap), (K w.params).In h → h.Ns mainGlobals mg → mg d.name = some (.ref fa) →
      ∃ fd : FuncData, (∀ (s : Shared) (u : Value), BindsTo s fd ⟨[u], []⟩ [(x, u)]) ∧
        ∀ base : Heap, (K w.params).In base → base.Ns mainGlobals mg → FnOk l.prog w (K w.params) mg base (CX w) k fa fd [x] (sp w))
    (hsp : ∀ (w : World) (H : Hp) (a : Addr) (ns : List Int), ns.length ≤ n → Only H → SqL (K w.params) H a (ns.map V.int) → sp w [.ref a] H (fun v _ => v = .bl true) fun _ _ _ => False)
    (hCX : ∀ (w : World) (H : Hp) (s : Shared) (e : Value) (s' : Shared), CX w [] H s (fun _ _ _ => False) e s' → False) :
    PySem.W.WalkO q loose XP YP l.row.toRowW d [] (fun f vs => PySem.call f vs) := by
  refine Att.attach_call hn hdf fun w s₀ s₁ mg mb fa o pm cd doc a vs ns G Y ho hd hcd hmg hobj hints hlen hg => ?_
  have KX := hY w _ Y
  obtain ⟨fd, hb, hF⟩ := F w mg fa _ KX G.T.g hmg
  exact law_call KX G.T.g G.T.b G.T.builtins G.T.nolimit hg hobj hints (Nat.le_trans hlen hn2) hr hF hb (fun H hO hS => hsp w H a ns hlen hO hS) fun H e s' => hCX w H s₁ e s'
/-- the same where the promise hangs on the written part alone: (sp := My.sp_law), no hole under a binder -/
theorem walk_ofK {l : PySem.W.OpenLaw} {n k : Nat} {q : Program} {loose : List Str} {XP : (Str → Option Value) → Heap → Prop} {YP : World → Heap → Prop} {d : DefRec} {K : Params → PySem.W.Frag} {CX : CXT} {sp : PySem.W.Frag → Sp} {x : Str}
    (hn : l.most = some n) (hn2 : n ≤ sizeLine) (hdf : d.params.defaults = []) (hr : Room k callerA)
    (hY : ∀ (w : World) (h : Heap), YP w h → (K w.params).In h)
    (F : ∀ (w : World) (mg : Str → Option Value) (fa : Addr) (h : Heap), (K w.params).In h → h.Ns mainGlobals mg → mg d.name = some (.ref fa) →
      ∃ fd : FuncData, (∀ (s : Shared) (u : Value), BindsTo s fd ⟨[u], []⟩ [(x, u)]) ∧
        ∀ base : Heap, (K w.params).In base → base.Ns mainGlobals mg → FnOk l.prog w (K w.params) mg base CX k fa fd [x] (sp (K w.params)))
    (hsp : ∀ (K : PySem.W.Frag) (H : Hp) (a : Addr) (ns : List Int), ns.length ≤ n → Only H → SqL K H a (ns.map V.int) → sp K [.ref a] H (fun v _ => v = .bl true) fun _ _ _ => False)
    (hCX : ∀ (H : Hp) (s : Shared) (e : Value) (s' : Shared), CX [] H s (fun _ _ _ => False) e s' → False) :
    PySem.W.WalkO q loose XP YP l.row.toRowW d [] (fun f vs => PySem.call f vs) :=
  walk_of (K := K) (CX := fun _ => CX) (sp := fun w => sp (K w.params)) hn hn2 hdf hr hY F (fun w H a ns h1 h2 h3 => hsp (K w.params) H a ns h1 h2 h3) fun _ H s e s' => hCX H s e s'
end L2

/- THE LAST THEOREM (shape; LID, My.* are yours):
   My.Adr: a structure of the addresses that your layer names (classes, functions); My.Txt K t: a structure (Prop) of the equations over K;
   My.txt_mk : {K} {implicit addresses ..} (e1 : nsIn K mainGlobals "law" = some (some (.ref f))) (e2 : K.lookup f = some ⟨oc, od, .func (fnOf "law" "law" params body scope dV kV doc pm an cdv ct), sl⟩) (e3 : codeIn K cdv "law" = true) .. : ∃ t, My.Txt K t

set_option maxRecDepth 100000 in
set_option maxHeartbeats 0 in
theorem PySem.Challenge.cw_LID_holds : PySem.Challenge.rw_LID.Holds := by
  w_on; o_law; k_head; (case hw => w_witness2)
  k_fill
  refine L2.walk_of (l := PySem.Challenge.rw_LID) (n := 63) (k := 40) (x := "script") (CX := fun w => ..) (sp := fun _ => My.sp_law) rfl (by decide) rfl ⟨rfl, by decide, by decide⟩ (fun w h Y => PySem.W.kIn_of Y) ?F ?S ?C
  case F =>
    intro w mg fa h KX G hmg
    have T : ∃ t, My.Txt (L2.KOf KX) t := by
      dsimp only [L2.KOf]                          -- K must stand as «<heap const> w.params» for k_is
      refine' My.txt_mk ?e1 ?e2 ?e3 ..
      (case e1 => PySem.W.k_is)                    -- in the order: a name -> its address -> its object -> its parts
      (case e2 => PySem.W.k_is)
      ..
    obtain ⟨t, T⟩ := T
    have e0 := hmg.symm.trans (PySem.W.mg_of KX G T.law)
    cases e0                                       -- fa is the law's own address
    exact ⟨_, fun s u => .of_eq rfl, fun base kb nb => My.law_fn T kb nb⟩     -- if «.of_eq rfl» comes too early: refine' ⟨_, ?b, fun base kb nb => My.law_fn T kb nb⟩; exact fun s u => .of_eq rfl
  case S => exact fun w H a ns hl hO hS => ..
  case C => exact ..
(the tactic k_is has no namespace: write k_is) -/

/-! SHORT WORDS over the layer: a def of the text, its body, what a loop and a test want. -/
namespace L2
open PySem PySem.Spec PyProof.Rows

/-! ### the text by places -/
/-- the j-th statement of a class's body -/
def inClass (s : Stmt) (j : Nat) : Stmt := match s with
  | .ClassDef _ _ _ body _ _ _ _ _ _ _ => body.getD j (.Pass ⟨0, 0, 0, 0⟩)
  | _ => .Pass ⟨0, 0, 0, 0⟩
def defArgs (s : Stmt) : Arguments := match s with
  | .FunctionDef _ a _ _ _ _ _ _ _ _ => a
  | _ => { posonlyargs := [], args := [], vararg := none, kwonlyargs := [], kw_defaults := [], kwarg := none, defaults := [] }
def defBody (s : Stmt) : List Stmt := match s with
  | .FunctionDef _ _ b _ _ _ _ _ _ _ => b
  | _ => []
def defScope (s : Stmt) : Scope := match s with
  | .FunctionDef _ _ _ _ _ _ sc _ _ _ => sc
  | _ => { kind := .function, names := [], isGenerator := false, isCoroutine := false }

/-! ### no exception leaves a def -/
abbrev CX0 : CXT := fun _ _ _ _ _ _ => False
abbrev E0 : XK := fun _ _ _ => False
theorem pass0 {X : Cx} : Passes CX0 X E0 := fun _ _ _ _ _ _ _ h => h.elim

/-! ### a def (or method) of the text as it stands behind the top -/
structure Fun (K : PySem.W.Frag) (x qual : Str) (st : Stmt) (f : Addr) (fd : FuncData) : Prop where
  ex : ∃ (oc : Value) (od : Option Addr) (kV doc pm : Value) (an : Option Addr) (cdv ct : Value) (osl : Array (Option Value)),
    fd = PySem.W.fnOf x qual (defArgs st) (defBody st) (defScope st) .none kV doc pm an cdv ct ∧ K.lookup f = some ⟨oc, od, .func fd, osl⟩ ∧ PySem.W.codeIn K cdv qual = true
  kp : PySem.W.keepIn K (.ref f) = true
section
variable {P : Program} {w : World} {K : PySem.W.Frag} {mg : Str → Option Value} {base : Heap}
/-- THE RULE for a def: its body as a term of rules, and the reading of that term -/
theorem Fun.ok {x qual : Str} {st : Stmt} {f : Addr} {fd : FuncData} {N ps : List Str} {k : Nat} {sp : Sp} (F : Fun K x qual st f fd) (S : FnScope N ps (defScope st)) (len : ∀ vs H Q E, sp vs H Q E → vs.length = ps.length)
    (hbody : ∀ (cdv : Value) (A : Around) (outer : List Env) (s : Shared) (H : Hp) (vs : List V) (Q : VK) (E : XK), Room k (A.deeper (envOfC qual (defScope st) s.heap.objs.size f cdv)) → sp vs H Q E →
      ∃ t, PSs (cxOf CX0 P w K mg base N qual (defScope st) f cdv A outer s H E).nox (defBody st) t ∧ t { nx := fun _ H' => Q .non H', rt := Q } (start N vs) H) : FnOk P w K mg base CX0 (k + 1) f fd ps sp := by
  obtain ⟨oc, od, kV, doc, pm, an, cdv, ct, osl, rfl, lk, hcd⟩ := F.ex
  refine fn_of lk hcd S len fun A outer s H vs Q E hr hsp => ?_
  obtain ⟨t, h, q⟩ := hbody cdv A outer s H vs Q E hr hsp
  exact ⟨t, h.nox, q⟩
/-- how its arguments bind (no defaults): h is «fun _ _ _ _ _ _ us hl => match us, hl with | [_, _], _ => rfl», one _ a parameter -/
theorem Fun.binds {x qual : Str} {st : Stmt} {f : Addr} {fd : FuncData} {ps : List Str} (F : Fun K x qual st f fd)
    (h : ∀ (kV doc pm : Value) (an : Option Addr) (cdv ct : Value) (us : List Value), us.length = ps.length → bindArgs (PySem.W.fnOf x qual (defArgs st) (defBody st) (defScope st) .none kV doc pm an cdv ct) ⟨us, []⟩ = pure (ps.zip us)) : Binds K fd ps [] := by
  obtain ⟨oc, od, kV, doc, pm, an, cdv, ct, osl, rfl, lk, hcd⟩ := F.ex
  exact .all (h kV doc pm an cdv ct)
theorem fun_mk {x qual : Str} {st : Stmt} {f : Addr} {oc : Value} {od an : Option Addr} {osl : Array (Option Value)} {kV doc pm cdv ct : Value} (l : K.lookup f = some ⟨oc, od, .func (PySem.W.fnOf x qual (defArgs st) (defBody st) (defScope st) .none kV doc pm an cdv ct), osl⟩)
    (c : PySem.W.codeIn K cdv qual = true) (k : PySem.W.keepIn K (.ref f) = true) : Fun K x qual st f (PySem.W.fnOf x qual (defArgs st) (defBody st) (defScope st) .none kV doc pm an cdv ct) := ⟨⟨oc, od, kV, doc, pm, an, cdv, ct, osl, rfl, l, c⟩, k⟩
end
theorem hu_of {A : Around} {k : Nat} (hr : Room k A) : A.units + 1 < cLine := Nat.lt_of_le_of_lt (Nat.add_le_add_left (by decide : 1 ≤ 64) _) hr.units
theorem small1000 {n : Nat} (h : n ≤ 1000) : n < sizeLine := Nat.lt_of_le_of_lt h (by decide)

/-! ### expressions in short: the name that stands in the i-th slot -/
section
variable {X : Cx}
theorem pv (i : Nat) {x : Str} {pos : Pos} (hN : X.N[i]? = some x := by rfl) (hv : Vis X.env.scope x := by first | exact Or.inl rfl | exact Or.inr (Or.inl rfl) | exact Or.inr (Or.inr rfl)) (hd : (x == ("__debug__" : Str)) = false := by decide)
    (hcd : (x == ("__classdict__" : Str)) = false := by decide) : PE X (.Name x pos) (tVar i) := pe_var hN hv hd hcd
/-- len of a dict -/
theorem call_lenD : CallR X (.builtin "len") (fun xs H Q => ∃ a kvs, xs = [V.ref a] ∧ H a = some (.dK kvs) ∧ Q (.int kvs.length) H) := by
  intro pins s σ H xs us Q I r h
  obtain ⟨a, kvs, rfl, ha, q⟩ := h
  obtain ⟨u, rfl, ru⟩ := vals1 r
  cases ru
  exact d_len I (.inl ha) fun t s' I' => ⟨.int kvs.length, H, I', ⟨t, rfl⟩, q⟩
end

/-! ### tests -/
theorem iteF {A B : Prop} (h : B) : if false = true then A else B := by
  rw [if_neg Bool.false_ne_true]
  exact h
theorem iteT {A B : Prop} (h : A) : if true = true then A else B := by
  rw [if_pos rfl]
  exact h
theorem ite2 {c A B : Prop} [Decidable c] (h1 : c → A) (h2 : ¬ c → B) : if c then A else B := by
  by_cases h : c
  · rw [if_pos h]
    exact h1 h
  · rw [if_neg h]
    exact h2 h
theorem iteNS {c A B : Prop} [Decidable c] (hc : c) (h : B) : if (!decide c) = true then A else B := by
  rw [decide_eq_true hc]
  exact iteF h

/-! ### heaps -/
/-- all that was tracked is as it was -/
def Same (H H' : Hp) : Prop := ∀ b o, H b = some o → H' b = some o
theorem Same.refl (H : Hp) : Same H H := fun _ _ h => h
theorem Same.trans {H H1 H2 : Hp} (a : Same H H1) (b : Same H1 H2) : Same H H2 := fun c o h => b c o (a c o h)
theorem Same.free {H H' : Hp} (e : Same H H') {l : Addr} (h : H' l = Option.none) : H l = Option.none := by
  cases q : H l with
  | none => rfl
  | some o =>
    rw [e l o q] at h
    cases h
theorem Same.seq {K : PySem.W.Frag} {H H' : Hp} {a : Addr} {xs : List V} (e : Same H H') (h : SqL K H a xs) : SqL K H' a xs := by
  rcases h with (h | ⟨o, h⟩) | h
  · exact .inl (.inl (e _ _ h))
  · exact .inl (.inr ⟨o, e _ _ h⟩)
  · exact .inr h

/-! ### a dict's pairs: keys that differ -/
section
variable {κ : Type} [DecidableEq κ]
theorem valV_not {kvs : List (κ × V)} {k : κ} (h : valV kvs k = none) : ¬ k ∈ kvs.map (·.1) := by
  intro m
  obtain ⟨p, hp, e⟩ := List.mem_map.mp m
  have q : (kvs.any fun kv => decide (kv.1 = k)) = true := List.any_eq_true.mpr ⟨p, hp, decide_eq_true e⟩
  rw [valV_any, h] at q
  exact absurd q (by simp)
theorem valV_in {kvs : List (κ × V)} {k : κ} {v : V} (h : valV kvs k = some v) : k ∈ kvs.map (·.1) := by
  have q : (kvs.any fun kv => decide (kv.1 = k)) = true := by
    rw [valV_any, h]
    all_goals rfl
  obtain ⟨p, hp, e⟩ := List.any_eq_true.mp q
  exact List.mem_map.mpr ⟨p, hp, of_decide_eq_true e⟩
theorem nd_snoc : ∀ {l : List κ} {k : κ}, l.Nodup → ¬ k ∈ l → (l ++ [k]).Nodup
  | [], k, _, _ => by simp
  | a :: r, k, h, hk => by
    obtain ⟨h1, h2⟩ := List.nodup_cons.mp h
    show (a :: (r ++ [k])).Nodup
    refine List.nodup_cons.mpr ⟨fun m => ?_, nd_snoc h2 fun m => hk (List.mem_cons.mpr (Or.inr m))⟩
    rcases List.mem_append.mp m with q | q
    · exact h1 q
    · exact hk (List.mem_cons.mpr (Or.inl (List.mem_singleton.mp q).symm))
theorem nd_putK {kvs : List (κ × V)} {k : κ} (v : V) (hn : (kvs.map (·.1)).Nodup) (h : valV kvs k = none) : ((putK kvs k v).map (·.1)).Nodup := by
  rw [putK_new v h, List.map_append]
  exact nd_snoc hn (valV_not h)
theorem dropK_pos {p : κ × V} {r : List (κ × V)} {k : κ} (e : p.1 = k) : dropK (p :: r) k = dropK r k := by
  unfold dropK
  rw [List.filter_cons, if_neg (by simp [e])]
theorem dropK_neg {p : κ × V} {r : List (κ × V)} {k : κ} (e : ¬ p.1 = k) : dropK (p :: r) k = p :: dropK r k := by
  unfold dropK
  rw [List.filter_cons, if_pos (by simp [e])]
theorem dropK_no : ∀ {kvs : List (κ × V)} {k : κ}, ¬ k ∈ kvs.map (·.1) → dropK kvs k = kvs
  | [], _, _ => rfl
  | p :: r, k, h => by
    have h' : ¬ k ∈ r.map (·.1) := fun m => by
      obtain ⟨q, hq, e⟩ := List.mem_map.mp m
      exact h (List.mem_map.mpr ⟨q, List.mem_cons.mpr (Or.inr hq), e⟩)
    rw [dropK_neg fun e => h (List.mem_map.mpr ⟨p, List.mem_cons.mpr (Or.inl rfl), e⟩), dropK_no h']
theorem dropK_mem {kvs : List (κ × V)} {k : κ} {p : κ × V} (h : p ∈ dropK kvs k) : p ∈ kvs := (List.mem_filter.mp h).1
theorem nd_dropK : ∀ {kvs : List (κ × V)} {k : κ}, (kvs.map (·.1)).Nodup → ((dropK kvs k).map (·.1)).Nodup
  | [], _, _ => List.nodup_nil
  | p :: r, k, h => by
    have h : (p.1 :: r.map (·.1)).Nodup := h
    obtain ⟨h1, h2⟩ := List.nodup_cons.mp h
    by_cases e : p.1 = k
    · rw [dropK_pos e]
      exact nd_dropK h2
    · rw [dropK_neg e]
      show (p.1 :: (dropK r k).map (·.1)).Nodup
      refine List.nodup_cons.mpr ⟨fun m => h1 ?_, nd_dropK h2⟩
      obtain ⟨q, hq, eq⟩ := List.mem_map.mp m
      exact List.mem_map.mpr ⟨q, dropK_mem hq, eq⟩
theorem dropK_len : ∀ {kvs : List (κ × V)} {k : κ}, (kvs.map (·.1)).Nodup → k ∈ kvs.map (·.1) → (dropK kvs k).length + 1 = kvs.length
  | [], _, _, m => by simp at m
  | p :: r, k, h, m => by
    have h : (p.1 :: r.map (·.1)).Nodup := h
    have m : k = p.1 ∨ k ∈ r.map (·.1) := List.mem_cons.mp m
    obtain ⟨h1, h2⟩ := List.nodup_cons.mp h
    by_cases e : p.1 = k
    · subst e
      rw [dropK_pos rfl, dropK_no h1]
      all_goals rfl
    · have m' : k ∈ r.map (·.1) := m.resolve_left fun z => e z.symm
      have q := dropK_len h2 m'
      rw [dropK_neg e, List.length_cons, List.length_cons]
      omega
end
/-! ### lists -/
theorem at_of {xs : List V} {z : Int} {j : Nat} {v : V} (e : z = (j : Int)) (h : xs[j]? = some v) : atI xs z = some v := by
  rw [e]
  exact atI_nat h
theorem nd_ix {α : Type} {l : List α} (hN : l.Nodup) {i j : Nat} {x : α} (a : l[i]? = some x) (b : l[j]? = some x) : i = j := by
  obtain ⟨h1, e1⟩ := List.getElem?_eq_some_iff.mp a
  obtain ⟨h2, e2⟩ := List.getElem?_eq_some_iff.mp b
  exact (List.getElem_inj hN).mp (e1.trans e2.symm)
theorem sum_set : ∀ {l : List Int} {j : Nat} {z y : Int}, l[j]? = some z → (l.set j y).sum = l.sum - z + y
  | [], j, z, y, h => by simp at h
  | a :: r, 0, z, y, h => by
    have e : a = z := Option.some.inj h
    subst e
    show (y :: r).sum = (a :: r).sum - a + y
    rw [List.sum_cons, List.sum_cons]
    omega
  | a :: r, j + 1, z, y, h => by
    have ih := sum_set (l := r) (j := j) (z := z) (y := y) h
    show (a :: r.set j y).sum = (a :: r).sum - z + y
    rw [List.sum_cons, List.sum_cons, ih]
    omega
theorem sum_take : ∀ {l : List Int} {i : Nat} {z : Int}, l[i]? = some z → (l.take (i + 1)).sum = (l.take i).sum + z
  | [], i, z, h => by simp at h
  | a :: r, 0, z, h => by
    have e : a = z := Option.some.inj h
    subst e
    show ([a] : List Int).sum = ([] : List Int).sum + a
    rw [List.sum_cons]
    exact Int.add_comm _ _
  | a :: r, i + 1, z, h => by
    have ih := sum_take (l := r) (i := i) (z := z) h
    show (a :: r.take (i + 1)).sum = (a :: r.take i).sum + z
    rw [List.sum_cons, List.sum_cons, ih]
    omega
/-- a new instance and its __init__ leave all that was tracked as it was -/
theorem Same.made {H H1 : Hp} {x dx C : Addr} (nx : H x = Option.none) (nd : H dx = Option.none) (k : ∀ b o, (upd (upd H dx (.own x)) x (.ins C dx [])) b = some o → b ≠ x → H1 b = some o) : Same H H1 := fun b o e =>
  k b o (by rw [upd_ne (ne_of_none e nx), upd_ne (ne_of_none e nd)]; exact e) (ne_of_none e nx)
end L2
set_option Elab.async false
set_option linter.all false
set_option maxRecDepth 100000
namespace Kx
open PySem L2 PyProof.Rows
/-! ### sizes of whole numbers -/
def Bd (n : Nat) (i : Int) : Prop := i.natAbs < 2 ^ n
theorem Bd.mono {m n : Nat} {i : Int} (h : Bd m i) (hmn : m ≤ n := by decide) : Bd n i := Nat.lt_of_lt_of_le h (Nat.pow_le_pow_right (by decide) hmn)
theorem Bd.mul {m n : Nat} {i j : Int} (h : Bd m i) (h' : Bd n j) : Bd (m + n) (i * j) := by
  unfold Bd at *
  rw [Int.natAbs_mul, Nat.pow_add]
  exact Nat.mul_lt_mul'' h h'
theorem Bd.add {n : Nat} {i j : Int} (h : Bd n i) (h' : Bd n j) : Bd (n + 1) (i + j) := by
  unfold Bd at *
  rw [Nat.pow_succ]
  omega
theorem Bd.sub {n : Nat} {i j : Int} (h : Bd n i) (h' : Bd n j) : Bd (n + 1) (i - j) := by
  unfold Bd at *
  rw [Nat.pow_succ]
  omega
theorem Bd.neg {n : Nat} {i : Int} (h : Bd n i) : Bd n (-i) := by
  unfold Bd at *
  omega
theorem Bd.log {n : Nat} {i : Int} (h : Bd n i) (hn : n ≤ 9000) (h0 : i ≠ 0) : i.natAbs.log2 < 9000 := by
  have h1 : i.natAbs.log2 < n := (Nat.log2_lt (by omega)).mpr h
  omega
theorem Bd.bits {n : Nat} {i : Int} (h : Bd n i) (hn : n ≤ 9000) : Builtin.Int.intBits i ≤ 2 ^ 20 := by
  unfold Builtin.Int.intBits
  split
  · exact Nat.zero_le _
  · rename_i h0
    have h1 : i.natAbs.log2 < 9000 := Bd.log h hn (by simpa using h0)
    omega
section
variable {X : Cx} {e : Expr} {es : List Expr} {t : TA} {x : Str} {p pos : Pos}
def CMulB (i j : Int) : Prop := (Bd 4000 i ∧ Bd 4000 j) ∨ (-(2 ^ 64) < i ∧ i < 2 ^ 64) ∨ (-(2 ^ 64) < j ∧ j < 2 ^ 64)
theorem CMulB.ok {i j : Int} (h : CMulB i j) : IntMulOk i j := by
  rcases h with ⟨h1, h2⟩ | h
  · exact .of_bits (h1.bits (by decide)) (h2.bits (by decide))
  · exact CMul.ok h
def CDivB (i j : Int) : Prop := j ≠ 0 ∧ Bd 8000 j
theorem op_mulB : OpR X (binaryOp .Mult) (rI CMulB fun i j => .int (i * j)) := opI fun _ _ _ _ _ _ _ hc q => mul_int q hc.ok
theorem op_fdivB : OpR X (binaryOp .FloorDiv) (rI CDivB fun i j => .int (i.fdiv j)) := opI fun _ _ _ _ _ _ _ hc q => floordiv_int hc.1 q (.inl (PyProof.noPylong_of_log2 (hc.2.log (by decide) hc.1)))
def CDivP (i j : Int) : Prop := 0 < j ∧ Bd 8000 j
theorem op_fdivP : OpR X (binaryOp .FloorDiv) (rI CDivP fun i j => .int (i / j)) := opI fun i j _ _ _ _ _ hc q => by
  have h1 : (0 : Int) < j := hc.1
  exact floordiv_int (by omega) (by rw [Int.fdiv_eq_ediv_of_nonneg i (by omega)]; exact q) (.inl (PyProof.noPylong_of_log2 (hc.2.log (by decide) (by omega))))
/-! ### isinstance of a plain value and a built-in class -/
def isiB : V → String → Option Bool
  | .int _, "int" => some true | .int _, "bool" => some false | .int _, "str" => some false | .int _, "tuple" => some false
  | .bl _, "int" => some true | .bl _, "bool" => some true | .bl _, "str" => some false | .bl _, "tuple" => some false
  | .str _, "str" => some true | .str _, "int" => some false | .str _, "bool" => some false | .str _, "tuple" => some false
  | _, _ => none
theorem call_isi : CallR X (.builtin "isinstance") (fun xs H Q => ∃ y T b, xs = [y, .ty T] ∧ isiB y T = some b ∧ Q (.bl b) H) := by
  intro pins s σ H xs us Q I r h
  obtain ⟨y, T, b, rfl, hb, q⟩ := h
  obtain ⟨u1, u2, rfl, r1, r2⟩ : ∃ u1 u2, us = [u1, u2] ∧ RelV y u1 ∧ RelV (.ty T) u2 := by
    cases r with | cons a r => cases r with | cons b r => cases r with | nil => exact ⟨_, _, rfl, a, b⟩
  cases r2
  have f0 : EP X pins σ Q (.bool b) s := ⟨.bl b, H, I, rfl, q⟩
  have f1 : EP X pins σ Q (.bool b) { s with toks := s.toks + 1 } := ⟨.bl b, H, I.tok _, rfl, q⟩
  unfold isiB at hb
  split at hb <;> first
    | (cases hb; cases r1; first | exact IsiPair.bool_bool f0 | exact IsiPair.bool_int f0 | exact IsiPair.bool_str f1 | exact IsiPair.bool_tuple f1)
    | (cases hb; obtain ⟨k, rfl⟩ := r1; first | exact IsiPair.int_int f0 | exact IsiPair.int_bool f1 | exact IsiPair.int_str f1 | exact IsiPair.int_tuple f1 | exact IsiPair.str_str f0 | exact IsiPair.str_int f1 | exact IsiPair.str_bool f1 | exact IsiPair.str_tuple f1)
    | (cases hb)
/-- isinstance(t, tuple), t a tuple -/
theorem call_isiTT : CallR X (.builtin "isinstance") (fun xs H Q => ∃ a ys, xs = [.ref a, .ty "tuple"] ∧ SqT X.K H a ys ∧ Q (.bl true) H) := by
  intro pins s σ H xs us Q I r h
  obtain ⟨a, ys, rfl, ha, q⟩ := h
  obtain ⟨u1, u2, rfl, r1, r2⟩ : ∃ u1 u2, us = [u1, u2] ∧ RelV (.ref a) u1 ∧ RelV (.ty "tuple") u2 := by
    cases r with | cons a r => cases r with | cons b r => cases r with | nil => exact ⟨_, _, rfl, a, b⟩
  cases r1
  cases r2
  have f0 : EP X pins σ Q (.bool true) s := ⟨.bl true, H, I, rfl, q⟩
  obtain ⟨its, _, ht, _⟩ := I.tuple ha
  exact PyProof.Rows.call_isinstance_yes (Tx := "tuple") ht.typeIs PySem.F.isi_meta_tuple PySem.F.isi_self_tuple f0
/-! ### argument lists without stars: by a look at the form alone -/
def isStar : Expr → Bool
  | .Starred _ _ => true
  | _ => false
theorem star_cons {e : Expr} {es : List Expr} {env : Env} (h : isStar e = false) : starEach (e :: es) env = (false, eval e env) :: starEach es env := by
  cases e <;> first | rfl | cases h
theorem star_any : ∀ {es : List Expr} {env : Env} {pos : Pos}, es.any isStar = false → (backTo pos (starEach es env)).any (·.1) = false
  | [], _, _, _ => rfl
  | e :: es, env, pos, h => by
    have h2 : isStar e = false ∧ es.any isStar = false := by simpa using h
    rw [star_cons h2.1]
    have q := star_any (env := env) (pos := pos) h2.2
    show (((false : Bool)) || (backTo pos (starEach es env)).any (·.1)) = false
    rw [q]
    rfl
theorem pa_c {te : TE} (ha : PE X e te) (hr : PA X es t) (hs : isStar e = false := by rfl) : PA X (e :: es) (tCons te t) := pa_cons ha hr (star_cons hs)
theorem pe_cB {id : String} {r : List V → Hp → VK → Prop} (hc : CallR X (.builtin id) r) (hg : Gl X x) (hm : X.mg x = none) (hv : bootBuiltins x = some (.builtin id)) (ha : PA X (e :: es) t) (hn : x ≠ "__name__" := by decide) (hdb : (x == ("__debug__" : Str)) = false := by decide)
    (hs : (e :: es).any isStar = false := by rfl) : PE X (.Call (.Name x p) (e :: es) [] pos) (tCB r t) :=
  have h2 : isStar e = false ∧ es.any isStar = false := by simpa using hs
  pe_callB hc hg hm hv ha hn hdb (star_cons h2.1) (star_any h2.2)
theorem pe_cT {T : String} {r : List V → Hp → VK → Prop} (hc : CallR X (.type T) r) (hg : Gl X x) (hm : X.mg x = none) (hv : bootBuiltins x = some (.type T)) (ha : PA X (e :: es) t) (hn : x ≠ "__name__" := by decide) (hdb : (x == ("__debug__" : Str)) = false := by decide)
    (hs : (e :: es).any isStar = false := by rfl) : PE X (.Call (.Name x p) (e :: es) [] pos) (tCB r t) :=
  have h2 : isStar e = false ∧ es.any isStar = false := by simpa using hs
  pe_callTy hc hg hm hv ha hn hdb (star_cons h2.1) (star_any h2.2)
theorem pa1 {e1 : Expr} {t1 : TE} (h1 : PE X e1 t1) (hs : isStar e1 = false := by rfl) : PA X [e1] (tCons t1 tNil) := pa_c h1 pa_nil hs
theorem pa2 {e1 e2 : Expr} {t1 t2 : TE} (h1 : PE X e1 t1) (h2 : PE X e2 t2) (hs : (isStar e1 || isStar e2) = false := by rfl) : PA X [e1, e2] (tCons t1 (tCons t2 tNil)) :=
  have q : isStar e1 = false ∧ isStar e2 = false := by simpa using hs
  pa_c h1 (pa1 h2 q.2) q.1
theorem pa3 {e1 e2 e3 : Expr} {t1 t2 t3 : TE} (h1 : PE X e1 t1) (h2 : PE X e2 t2) (h3 : PE X e3 t3) (hs : (isStar e1 || (isStar e2 || isStar e3)) = false := by rfl) : PA X [e1, e2, e3] (tCons t1 (tCons t2 (tCons t3 tNil))) :=
  have q := (Bool.or_eq_false_iff.mp hs)
  pa_c h1 (pa2 h2 h3 q.2) q.1
theorem pa4 {e1 e2 e3 e4 : Expr} {t1 t2 t3 t4 : TE} (h1 : PE X e1 t1) (h2 : PE X e2 t2) (h3 : PE X e3 t3) (h4 : PE X e4 t4) (hs : (isStar e1 || (isStar e2 || (isStar e3 || isStar e4))) = false := by rfl) : PA X [e1, e2, e3, e4] (tCons t1 (tCons t2 (tCons t3 (tCons t4 tNil)))) :=
  have q := (Bool.or_eq_false_iff.mp hs)
  pa_c h1 (pa3 h2 h3 h4 q.2) q.1
theorem pa5 {e1 e2 e3 e4 e5 : Expr} {t1 t2 t3 t4 t5 : TE} (h1 : PE X e1 t1) (h2 : PE X e2 t2) (h3 : PE X e3 t3) (h4 : PE X e4 t4) (h5 : PE X e5 t5) (hs : (isStar e1 || (isStar e2 || (isStar e3 || (isStar e4 || isStar e5)))) = false := by rfl) : PA X [e1, e2, e3, e4, e5] (tCons t1 (tCons t2 (tCons t3 (tCons t4 (tCons t5 tNil))))) :=
  have q := (Bool.or_eq_false_iff.mp hs)
  pa_c h1 (pa4 h2 h3 h4 h5 q.2) q.1
theorem pa6 {e1 e2 e3 e4 e5 e6 : Expr} {t1 t2 t3 t4 t5 t6 : TE} (h1 : PE X e1 t1) (h2 : PE X e2 t2) (h3 : PE X e3 t3) (h4 : PE X e4 t4) (h5 : PE X e5 t5) (h6 : PE X e6 t6) (hs : (isStar e1 || (isStar e2 || (isStar e3 || (isStar e4 || (isStar e5 || isStar e6))))) = false := by rfl) : PA X [e1, e2, e3, e4, e5, e6] (tCons t1 (tCons t2 (tCons t3 (tCons t4 (tCons t5 (tCons t6 tNil)))))) :=
  have q := (Bool.or_eq_false_iff.mp hs)
  pa_c h1 (pa5 h2 h3 h4 h5 h6 q.2) q.1
def plainTest : Expr → Bool
  | .BoolOp _ _ _ => false
  | .UnaryOp _ _ _ => false
  | .Compare _ _ _ _ => false
  | .IfExp _ _ _ _ => false
  | _ => true
theorem plain_test {e : Expr} {env : Env} (h : plainTest e = true) : ∀ whole, isTrue e env whole = (do let v ← whole; standAt e.pos; holding [v] (truthy v)) := by
  intro whole
  cases e <;> first | rfl | cases h
theorem pt_v {t : TE} (h : PE X e t) (he : plainTest e = true := by rfl) : PT X e (tB t) := pt_val h (plain_test he)
theorem pt_tr {t : TE} (h : PE X e t) (he : plainTest e = true := by rfl) : PT X e (fun σ H Q => t σ H fun x H' => ∃ k, TruV X.K x H' k ∧ Q k H') := pt_truth h (plain_test he)
/-! ### a def by its name -/
structure Cal (P : Program) (w : World) (K : PySem.W.Frag) (mg : Str → Option Value) (base : Heap) (CX : CXT) (k : Nat) (x : Str) (ps : List Str) (sp : Sp) : Prop where
  ex : ∃ (f : Addr) (fd : FuncData), FnOk P w K mg base CX k f fd ps sp ∧ Binds K fd ps [] ∧ PySem.W.keepIn K (.ref f) = true ∧ mg x = some (.ref f)
theorem pe_callC {CX : CXT} {j k : Nat} {ps : List Str} {sp : Sp} {E : XK} (C : Cal X.prog X.w X.K X.mg X.base CX j x ps sp) (hr : Room k X.A) (hx : Passes CX X E) (ha : PA X (e :: es) t) (hg : Gl X x := by rfl) (hj : j ≤ k := by decide)
    (hdb : (x == ("__debug__" : Str)) = false := by decide) (hs : (e :: es).any isStar = false := by rfl) :
    PE X (.Call (.Name x p) (e :: es) [] pos) (tCall sp [] E t) := by
  obtain ⟨f, fd, F, b, kp, m⟩ := C.ex
  have h2 : isStar e = false ∧ es.any isStar = false := by simpa using hs
  exact pe_call F (hr.mono hj) hg m kp b .nil hx ha hdb (star_cons h2.1) (star_any h2.2)
theorem Fun.cal {P : Program} {w : World} {K : PySem.W.Frag} {mg : Str → Option Value} {base : Heap} {CX : CXT} {k : Nat} {y qual : Str} {st : Stmt} {f : Addr} {fd : FuncData} {ps : List Str} {sp : Sp} (F : Fun K y qual st f fd) (h : FnOk P w K mg base CX k f fd ps sp) (b : Binds K fd ps []) (m : mg x = some (.ref f)) :
    Cal P w K mg base CX k x ps sp := ⟨f, fd, h, b, F.kp, m⟩
end
/-! ### heaps -/
theorem same_new {H : Hp} {p : Addr} (h : H p = none) (o : HO) : Same H (upd H p o) := fun b u q => by rw [upd_ne (ne_of_none q h)]; exact q
theorem Same.tup {K : PySem.W.Frag} {H H' : Hp} {a : Addr} {xs : List V} (e : Same H H') (h : SqT K H a xs) : SqT K H' a xs := by
  rcases h with (h | ⟨o, h⟩) | h
  · exact .inl (.inl (e _ _ h))
  · exact .inl (.inr ⟨o, e _ _ h⟩)
  · exact .inr h
/-- all but the row at r is as it was -/
def But (r : Addr) (H H' : Hp) : Prop := ∀ b o, b ≠ r → H b = some o → H' b = some o
theorem But.refl (r : Addr) (H : Hp) : But r H H := fun _ _ _ h => h
theorem But.trans {r : Addr} {H H1 H2 : Hp} (a : But r H H1) (b : But r H1 H2) : But r H H2 := fun c o n h => b c o n (a c o n h)
theorem But.same {r : Addr} {H H' : Hp} (h : Same H H') : But r H H' := fun b o _ q => h b o q
theorem But.upd (r : Addr) (H : Hp) (o : HO) : But r H (upd H r o) := fun b u n q => by rw [upd_ne n]; exact q
theorem But.new {r p : Addr} {H : Hp} (h : H p = none) (o : HO) : But r H (L2.upd H p o) := But.same (same_new h o)
theorem But.ofNew {r : Addr} {H H' : Hp} {o : HO} (h : H r = none) (b : But r (L2.upd H r o) H') : Same H H' := fun c u q =>
  b c u (ne_of_none q h) (by rw [upd_ne (ne_of_none q h)]; exact q)
theorem But.at {r b : Addr} {H H' : Hp} {o : HO} (g : But r H H') (h : H b = some o) (n : b ≠ r) : H' b = some o := g b o n h
/-- a row of a number and a count -/
def Row (H : Hp) (r : Addr) (N : Int) : Prop := ∃ a n : Int, H r = some (.lst [.int a, .int n]) ∧ 0 ≤ n ∧ n ≤ N
theorem Row.mono {H : Hp} {r : Addr} {M N : Int} (h : Row H r M) (l : M ≤ N) : Row H r N := let ⟨a, n, e, h0, h1⟩ := h; ⟨a, n, e, h0, by omega⟩
theorem Row.new {H : Hp} {r p : Addr} {N : Int} (h : Row H r N) (hp : H p = none) (o : HO) : Row (upd H p o) r N := let ⟨a, n, e, h0, h1⟩ := h; ⟨a, n, same_new hp o _ _ e, h0, h1⟩
theorem Row.same {H H' : Hp} {r : Addr} {N : Int} (h : Row H r N) (g : Same H H') : Row H' r N := let ⟨a, n, e, h0, h1⟩ := h; ⟨a, n, g _ _ e, h0, h1⟩
theorem tup_ne_row {H : Hp} {r p : Addr} {N : Int} {xs : List V} (h : Row H r N) (hp : H p = some (.tup xs)) : p ≠ r := by
  obtain ⟨a, n, e, _⟩ := h
  exact ne_of hp e (by intro z; cases z)
theorem row_ne_new {H : Hp} {r p : Addr} {N : Int} (h : Row H r N) (hp : H p = none) : r ≠ p := let ⟨_, _, e, _⟩ := h; ne_of_none e hp
end Kx

set_option Elab.async false
set_option linter.all false
set_option maxRecDepth 100000
namespace Kx
open PySem PySem.Spec L2 PyProof.Rows PySem.W
/-! ### an exception of an own class, flying -/
/-- B: all that stood when it was raised, but the frames -/
structure FlyOk (P : Program) (w : World) (outer : List Env) (H H' : Hp) (s : Shared) (s' : Shared) (a C t : Addr) (B : Heap) : Prop where
  os : s'.os = s.os
  bare : AllBare s'.gens
  hok : HOk P w H' B
  fly : Heap.FlyingW B outer a (.ref C) (.ref t) s'.heap
  un : Un (frs outer) [] H H' s.heap s'.heap
  keep : ∀ b o, s.heap.get? b = some o → H b = none → b ∉ frs outer → B.get? b = some o
  there : ∀ b o, s.heap.get? b = some o → b ∉ frs outer → ∃ o', B.get? b = some o'
def CXE (P : Program) (w : World) : CXT := fun outer H s E e s' => ∃ (a C t : Addr) (B : Heap) (H' : Hp), e = .ref a ∧ E (.ref C) none H' ∧ H' a = none ∧ FlyOk P w outer H H' s s' a C t B
/-- what a further step of its flight leaves -/
theorem FlyOk.un_on {P : Program} {w : World} {outer : List Env} {H H' : Hp} {s s' : Shared} {a C t : Addr} {B h6 : Heap} (x : FlyOk P w outer H H' s s' a C t B) (k : B.StaysIn h6) (u : s'.heap.UpToSlots h6) : Un (frs outer) [] H H' s.heap h6 where
  keep := fun b o q n hb _ => k b o (x.keep b o q n hb)
  slot := fun b o q n hb hx => by
    obtain ⟨sl, e1⟩ := x.un.slot b o q n hb hx
    obtain ⟨_, o2, e2, d2⟩ := x.fly.2.2.1.mem (b := b) hb
    rw [e1] at e2
    obtain ⟨sl', e3⟩ := u b _ e1 (by cases e2; exact d2)
    exact ⟨sl', e3⟩
  free := x.un.free
  there := fun b o q hx => by
    by_cases hb : b ∈ frs outer
    · obtain ⟨_, o2, e2, d2⟩ := x.fly.2.2.1.mem (b := b) hb
      obtain ⟨sl', e3⟩ := u b _ e2 d2
      exact ⟨_, e3⟩
    · obtain ⟨o', e1⟩ := x.there b o q hb
      exact ⟨o', k b o' e1⟩
  tups := x.un.tups
  frzs := x.un.frzs
  tbls := x.un.tbls
theorem obj_there {P : Program} {w : World} {H : Hp} {h : Heap} {a : Addr} {o : HO} (x : ObjOk P w H h a o) : ∃ u, h.get? a = some u := by
  cases o with
  | lst xs => exact ⟨_, x.2.choose_spec.choose_spec.2⟩
  | tup xs =>
    obtain ⟨_, its, _, o, e, _⟩ := x
    exact ⟨o, e⟩
  | dK kvs =>
    obtain ⟨_, _, _, _, o, _, _, e, _⟩ := x
    exact ⟨o, e⟩
  | dT kvs =>
    obtain ⟨_, _, _, _, o, _, _, e, _⟩ := x
    exact ⟨o, e⟩
  | set S n =>
    obtain ⟨o, _, _, _, e, _⟩ := x
    exact ⟨o, e⟩
  | ins C dx fs => exact ⟨_, x.2.2.2.1⟩
  | own y => exact x
  | xd fs =>
    obtain ⟨_, ⟨o, _, _, e, _⟩, _⟩ := x
    exact ⟨o, e⟩
  | rng lo hi =>
    obtain ⟨_, _, _, e⟩ := x
    exact ⟨_, e⟩
  | frz ob u => exact ⟨_, x.1⟩
  | tbl ps => exact ⟨_, x⟩
  | met f y => exact ⟨_, x⟩
  | ext φ => exact x.2.1
section
variable {P : Program} {w : World} {K : PySem.W.Frag} {mg : Str → Option Value} {base : Heap} {N : List Str} {qual : Str} {scope : Scope} {f : Addr} {cdv : Value} {A : Around} {outer : List Env} {s : Shared} {H : Hp} {E : XK}
/-- raised in a def's own body: it leaves the frame -/
theorem raise_out {pins : List (Addr × Obj)} {σ : L2.St} {H1 : Hp} {s1 : Shared} {h' : Heap} {e C : Addr} {vs : List Value} (hkind : scope.kind = .function) (I : Inv (cxOf (CXE P w) P w K mg base N qual scope f cdv A outer s H E) pins σ H1 s1)
    (hx : Heap.MadeExcOf s1.heap h' e (.ref C) vs) (q : E (.ref C) none H1) : (cxOf (CXE P w) P w K mg base N qual scope f cdv A outer s H E).xe (.ref e) { s1 with heap := h' } := by
  let env := envOfC qual scope s.heap.objs.size f cdv
  have hl : s1.heap.FunFrames base (env :: outer) := I.stack
  have hin : ∀ v ∈ (env :: outer), ∀ b, v.frame = some b → b ∈ (env :: outer).filterMap (·.frame) := fun v hv b hb => List.mem_filterMap.mpr ⟨v, hv, hb⟩
  let B := hideAll s1.heap ((env :: outer).filterMap (·.frame))
  have gB : ∀ b o, s1.heap.get? b = some o → b ∉ (env :: outer).filterMap (·.frame) → B.get? b = some o := fun b o q n => hideAll_get _ q n
  have ofB : ∀ b o, B.get? b = some o → s1.heap.get? b = some o := fun b o q => of_hideAll _ q
  show wpAny (model P w) (A.deeper env) (leaving env (.ref e)) _ _ _
  refine wpAny_leaves_madeW (base := B) (h := s1.heap) (L := s.heap.objs.size) I.ok.frames rfl ofB (funFrames_hide hl hin) hx fun h2 t x1 x2 x3 x4 => ?_
  have neL : ∀ b o, s.heap.get? b = some o → b ≠ s.heap.objs.size := fun b o q => Nat.ne_of_lt (Heap.lt_size q)
  have memE : ∀ b, b ∈ (env :: outer).filterMap (·.frame) → b = s.heap.objs.size ∨ b ∈ frs outer := fun b hb => by
    have z : b ∈ s.heap.objs.size :: outer.filterMap (·.frame) := hb
    exact List.mem_cons.mp z
  have trk : ∀ b o, H1 b = some o → b ∉ (env :: outer).filterMap (·.frame) := fun b o q hb => by
    have z : H1 b = none := I.stkFree b hb
    rw [z] at q
    cases q
  have u1 : Un (frs outer) [] H H1 s.heap s1.heap := I.base
  have e1 : H1 e = none := by
    cases q1 : H1 e with
    | none => rfl
    | some o =>
      obtain ⟨u, z⟩ := obj_there (I.hok e o q1)
      have z' : s1.heap.get? e = some u := z
      rw [hx.new] at z'
      cases z'
  refine ⟨e, C, t, B, H1, rfl, q, e1, ⟨I.os, I.bare, ?_, x1, ?_, ?_, ?_⟩⟩
  · exact fun b o q1 => (I.hok b o q1).stay (fun c u hc z => gB c u z (hc.elim (fun y => trk c o (y ▸ q1)) fun y => trk c _ y)) (fun _ y => y) fun _ _ y => y
  · refine ⟨fun b o q n hb _ => ?_, fun b o q n hb hx' => ?_, u1.free, fun b o q _ => ?_, u1.tups, u1.frzs, u1.tbls⟩
    · exact x1.1 b o (gB b o (u1.keep b o q n hb (by simp)) fun z => (memE b z).elim (neL b o q) hb)
    · obtain ⟨sl, e2⟩ := u1.slot b o q n hb hx'
      obtain ⟨_, o2, e3, d3⟩ := hl.mem (b := b) (List.mem_cons_of_mem _ hb)
      rw [e2] at e3
      obtain ⟨sl', e4⟩ := x4 b _ (hx.keeps _ _ e2) (by cases e3; exact d3)
      exact ⟨sl', e4⟩
    · obtain ⟨o', e2⟩ := u1.there b o q (by simp)
      by_cases hb : b ∈ frs outer
      · obtain ⟨_, o2, e3, d3⟩ := hl.mem (b := b) (List.mem_cons_of_mem _ hb)
        obtain ⟨sl', e4⟩ := x4 b _ (hx.keeps _ _ e3) d3
        exact ⟨_, e4⟩
      · exact ⟨o', x1.1 b o' (gB b o' e2 fun z => (memE b z).elim (neL b o q) hb)⟩
  · exact fun b o q n hb => gB b o (u1.keep b o q n hb (by simp)) fun z => (memE b z).elim (neL b o q) hb
  · exact fun b o q hb => by
      obtain ⟨o', e2⟩ := u1.there b o q (by simp)
      exact ⟨o', gB b o' e2 fun z => (memE b z).elim (neL b o q) hb⟩
/-- a callee's exception leaves this frame too -/
theorem pass_on : Passes (CXE P w) (cxOf (CXE P w) P w K mg base N qual scope f cdv A outer s H E) E := by
  intro pins σ H1 s1 e s' I hc
  obtain ⟨a, C, t, B, H', rfl, q, ha, F⟩ := hc
  let env := envOfC qual scope s.heap.objs.size f cdv
  have neL : ∀ b o, s.heap.get? b = some o → b ≠ s.heap.objs.size := fun b o q => Nat.ne_of_lt (Heap.lt_size q)
  have memE : ∀ b, b ∈ frs (env :: outer) → b = s.heap.objs.size ∨ b ∈ frs outer := fun b hb => by
    have z : b ∈ s.heap.objs.size :: outer.filterMap (·.frame) := hb
    exact List.mem_cons.mp z
  have u1 : Un (frs outer) [] H H1 s.heap s1.heap := I.base
  have out : ∀ b o, s.heap.get? b = some o → b ∉ frs outer → b ∉ frs (env :: outer) := fun b o q hb z => (memE b z).elim (neL b o q) hb
  show wpAny (model P w) (A.deeper env) (leaving env (.ref a)) _ _ _
  refine wpAny_leaves_onW (base := B) (L := s.heap.objs.size) I.ok.frames rfl F.fly fun h2 x1 x2 => ?_
  have u2 := F.un_on x1.1 x2
  refine ⟨a, C, t, B, H', rfl, q, ha, ⟨F.os.trans I.os, F.bare, F.hok, x1, ?_, ?_, ?_⟩⟩
  · refine ⟨fun b o q n hb hx => ?_, fun b o q n hb hx => ?_, fun b o q n hx => ?_, fun b o q hx => ?_, fun b xs q => u2.tups b xs (u1.tups b xs q), fun b o xs q => u2.frzs b o xs (u1.frzs b o xs q), fun b ps q => ?_⟩
    · exact u2.keep b o (u1.keep b o q n hb hx) (u1.free b o q n hx) (out b o q hb) hx
    · obtain ⟨sl, e1⟩ := u1.slot b o q n hb hx
      obtain ⟨sl', e2⟩ := u2.slot b _ e1 (u1.free b o q n hx) (List.mem_cons_of_mem _ hb) hx
      exact ⟨sl', e2⟩
    · obtain ⟨o', e1⟩ := u1.there b o q hx
      exact u2.free b o' e1 (u1.free b o q n hx) hx
    · obtain ⟨o', e1⟩ := u1.there b o q hx
      exact u2.there b o' e1 hx
    · obtain ⟨m1, e1⟩ := u1.tbls b ps q
      obtain ⟨m2, e2⟩ := u2.tbls b _ e1
      exact ⟨m1 ++ m2, by rw [e2, Array.append_assoc]⟩
  · exact fun b o q n hb => F.keep b o (u1.keep b o q n hb (by simp)) (u1.free b o q n (by simp)) (out b o q hb)
  · exact fun b o q hb => by
      obtain ⟨o', e1⟩ := u1.there b o q (by simp)
      exact F.there b o' e1 (out b o q hb)
end
/-- an own exception class as the written part shows it -/
structure ExcK (K : PySem.W.Frag) (x : Str) (C : Addr) (newId : String) (bmB : List Value) : Prop where
  ns : nsIn K mainGlobals x = some (some (.ref C))
  exc : excIn K C bmB newId = true
theorem ExcK.own {K : PySem.W.Frag} {x : Str} {C : Addr} {newId : String} {bmB : List Value} {h : Heap} {mg : Str → Option Value} (T : ExcK K x C newId bmB) (X : K.In h) (G : h.Ns mainGlobals mg) : OwnCls x C bmB newId mg h := by
  have q := T.exc
  refine ⟨mg_of X G T.ns, ?_⟩
  unfold excIn at q
  split at q
  case h_2 => cases q
  rename_i dd cd sl ho
  split at q
  case h_2 => cases q
  rename_i C' bm k0 k1 k2 k3 n k5 hm hs
  rw [Bool.and_eq_true, Bool.and_eq_true, Bool.and_eq_true, Bool.and_eq_true, Bool.and_eq_true] at q
  obtain ⟨⟨⟨⟨⟨q1, q2⟩, q3⟩, q4⟩, q5⟩, q6⟩ := q
  have q1 := beq_iff_eq.mp q1
  have q2 := beq_iff_eq.mp q2
  have q6 := beq_iff_eq.mp q6
  subst q1 q2
  obtain ⟨nm, bs, mro, ns, qn, hd, sn, sub, ab, col, del⟩ := cd
  have q3 : del = false := by simpa using q3
  have hm : mro = Value.ref C' :: bm := hm
  subst q3 hm
  have es : sl = #[k0, k1, k2, k3, some (.builtin n), k5] := by
    cases sl
    exact congrArg Array.mk hs
  subst es
  exact ⟨bm, ns, nm, qn, bs, hd, sn, sub, ab, col, dd, k0, k1, k2, k3, k5, _, X _ _ ho, .of_isNs (isNs_of_in X q5), nsMap_none_of_in X q5 q6, tail_of_in X q4⟩
section
variable {P : Program} {w : World} {K : PySem.W.Frag} {mg : Str → Option Value} {base : Heap} {N : List Str} {qual : Str} {scope : Scope} {f : Addr} {cdv : Value} {A : Around} {outer : List Env} {s : Shared} {H : Hp} {E : XK}
/-- raise C(e), C an own class without an __init__ -/
def tRaise (E : XK) (C : Addr) (t : TA) : TS := fun _ σ H => t σ H fun vs H1 => vs.length ≤ 1000 ∧ E (.ref C) none H1
theorem ps_raise {x : Str} {C : Addr} {e : Expr} {es : List Expr} {np cpos pos : Pos} {t : TA} {B newId initId : String} {bmB : List Value} (T : ExcK K x C newId bmB) (FB : ExcBaseFacts B newId initId bmB) (hG : Gl (cxOf (CXE P w) P w K mg base N qual scope f cdv A outer s H E) x)
    (ha : PA (cxOf (CXE P w) P w K mg base N qual scope f cdv A outer s H E) (e :: es) t) (hkind : scope.kind = .function) (hs : (e :: es).any isStar = false) (hd : (x == ("__debug__" : Str)) = false) :
    PS (cxOf (CXE P w) P w K mg base N qual scope f cdv A outer s H E) (.Raise (some (.Call (.Name x np) (e :: es) [] cpos)) none pos) (tRaise E C t) := by
  intro pins s1 σ H1 D I h
  have O := T.own I.ok.mod.kin I.ok.mod.glob
  have h2 : isStar e = false ∧ es.any isStar = false := by simpa using hs
  obtain ⟨tl, Nn, nm, q, bs, hdct, sn, sub, ab, col, dd, k0, k1, k2, k3, k5, mN, hC, hN, hni, Tl⟩ := O.obj
  refine wpAny_Raise_call_subT (C := C) (nm := nm) (q := q) (N := Nn) (bs := bs) (bm := tl) (hdct := hdct) (sn := sn) (sub := sub) (ab := ab) (col := col) (dd := dd) (k0 := k0) (k1 := k1) (k2 := k2) (k3 := k3) (k5 := k5)
    FB (mN := mN) (Tl.hasType FB.hasBase) (I.ok.hd rfl) (star_any hs) hni (ld_glob I hG O.bound ⟨rfl, ?_⟩ hd)
  have hsp := ha cpos pins s1 σ H1 _ I h
  rw [star_cons h2.1] at hsp ⊢
  refine Calls.evalArgs_plain (wpAny_mono hsp (fun vs s2 hq => ?_) fun _ _ y => y)
  obtain ⟨ws, H2, I2, r, z, qE⟩ := hq
  refine ⟨rfl, ?_, I2.bk _ _ hC, hN.keeps I2.bk, Tl.keeps I2.bk, fun h' e' hm => raise_out hkind I2 hm qE⟩
  show vs.length ≤ sizeLine
  rw [← r.length]
  exact Nat.le_of_lt (small1000 z)
end
/-! ### try, one except with a name -/
/-- what an exception of an own class is by -/
def excH (a C : Addr) : HO := .ext fun h => ∃ o vs, h.get? a = some o ∧ o.cls = .ref C ∧ o.data = .fields vs
def PB (X : Cx) (body : List Stmt) (t : XK → TS) : Prop :=
  ∀ (pins : List (Addr × Obj)) (s : Shared) (σ : L2.St) (H : Hp) (D : Ends) (Eh : XK), Inv X pins σ H s → t Eh D σ H →
    wpAny (model X.prog X.w) X.A (execs body X.env) (SP X pins D) (fun e s' => ∃ H0 s0, Inv X pins σ H0 s0 ∧ CXE X.prog X.w X.stack H0 s0 Eh e s') s
section
variable {X : Cx}
theorem call_try {pins : List (Addr × Obj)} {s : Shared} {σ : L2.St} {H : Hp} {Q : VK} {Eh : XK} {j k : Nat} {x : Str} {p pos : Pos} {e : Expr} {es : List Expr} {t : TA} {ps : List Str} {sp : Sp} (hne : ∀ e s, X.xe e s → False)
    (C : Cal X.prog X.w X.K X.mg X.base (CXE X.prog X.w) j x ps sp) (hr : Room k X.A) (ha : PA X (e :: es) t) (hg : Gl X x) (hj : j ≤ k) (hdb : (x == ("__debug__" : Str)) = false) (hs : (e :: es).any isStar = false)
    (I : Inv X pins σ H s) (h : tCall sp [] Eh t σ H Q) :
    wpAny (model X.prog X.w) X.A (eval (.Call (.Name x p) (e :: es) [] pos) X.env) (EP X pins σ Q) (fun e s' => ∃ H0 s0, Inv X pins σ H0 s0 ∧ CXE X.prog X.w X.stack H0 s0 Eh e s') s := by
  obtain ⟨f, fd, F, b, kp, m⟩ := C.ex
  have h2 : isStar e = false ∧ es.any isStar = false := by simpa using hs
  refine wpAny_Call_Name_kw (ld_glob I hg m ?_ hdb)
  refine PySem.W.callWith_K (h₀ := X.base) I.ok.mod.kin kp (wpAny_mono (ha pos pins s σ H _ I h) (fun us s1 hq => ?_) fun e1 s1 z => (hne e1 s1 z).elim) (star_cons h2.1) (star_any h2.2)
  obtain ⟨vs, H1, I1, r, q⟩ := hq
  have q : sp (vs ++ []) H1 Q Eh := q
  rw [List.append_nil] at q
  have hl : (us ++ []).length = ps.length := by rw [List.append_nil, ← r.length]; exact F.len _ _ _ _ q
  have bb := b s1 us I1.kIn hl
  rw [List.append_nil] at bb
  refine ⟨I1.kIn, wpAny_call (codeAny_mono (F.run X.A X.stack s1 H1 ⟨us, []⟩ us vs Q Eh (hr.mono hj) I1.env0 bb r q) fun res s' hres => ?_)⟩
  cases res with
  | error e1 => exact ⟨H1, s1, I1, hres⟩
  | ok fl =>
    cases fl with
    | ret u => exact I1.after hres
    | next => exact False.elim hres
    | brk => exact False.elim hres
    | cont => exact False.elim hres
variable {j k : Nat} {x : Str} {p pos pos' : Pos} {e : Expr} {es : List Expr} {t : TA} {ps : List Str} {sp : Sp}
theorem pb_expr (hne : ∀ e s, X.xe e s → False) (C : Cal X.prog X.w X.K X.mg X.base (CXE X.prog X.w) j x ps sp) (hr : Room k X.A) (ha : PA X (e :: es) t) (hg : Gl X x) (hj : j ≤ k) (hdb : (x == ("__debug__" : Str)) = false) (hs : (e :: es).any isStar = false) :
    PB X [.Expr (.Call (.Name x p) (e :: es) [] pos) pos'] (fun Eh => tDrop (tCall sp [] Eh t)) := by
  intro pins s σ H D Eh I h
  have h : tCall sp [] Eh t σ H fun _ H1 => D.nx σ H1 := h
  refine wpAny_execs_cons ?_
  refine wpAny_Expr_any (wpAny_mono (call_try hne C hr ha hg hj hdb hs I h) (fun u s1 hq => ?_) fun _ _ z => z) I.quiet
  obtain ⟨v, H1, I1, r, q⟩ := hq
  exact wpAny_execs_nil (show SP X pins D .next s1 from ⟨σ, H1, I1, q⟩)
theorem pb_set {i : Nat} {y : Str} {py : Pos} (hne : ∀ e s, X.xe e s → False) (C : Cal X.prog X.w X.K X.mg X.base (CXE X.prog X.w) j x ps sp) (hr : Room k X.A) (ha : PA X (e :: es) t) (hg : Gl X x) (hj : j ≤ k) (hdb : (x == ("__debug__" : Str)) = false) (hs : (e :: es).any isStar = false)
    (hN : X.N.Nodup) (hi : X.N[i]? = some y) (hx : Loc X.env.scope y) (hf : X.fn y = true) :
    PB X [.Assign [.Name y py] (.Call (.Name x p) (e :: es) [] pos) pos'] (fun Eh => tAsg (tCall sp [] Eh t) (gName i)) := by
  intro pins s σ H D Eh I h
  have h : tCall sp [] Eh t σ H fun v H1 => D.nx (σ.set i (some v)) H1 := h
  refine wpAny_execs_cons ?_
  refine wpAny_Assign_Name (wpAny_mono (call_try hne C hr ha hg hj hdb hs I h) (fun u s1 hq => ?_) fun _ _ z => z) rfl
  obtain ⟨v, H1, I1, r, q⟩ := hq
  exact store_ok I1 hN hi hx r (fun s2 I2 => wpAny_execs_nil ⟨_, H1, I2, q⟩) (.inl hf)
theorem pb_if {c : Expr} {a b : List Stmt} {tc : TT} {ta tb : XK → TS} (hne : ∀ e s, X.xe e s → False) (hc : PT X c tc) (ha : PB X a ta) (hb : PB X b tb) : PB X [.If c a b pos] (fun Eh D σ H => tc σ H fun k H1 => if k = true then ta Eh D σ H1 else tb Eh D σ H1) := by
  intro pins s σ H D Eh I h
  refine wpAny_execs_cons (wpAny_If (wpAny_mono (hc pins s σ H _ I h) (fun d s1 hq => ?_) fun e1 s1 z => (hne e1 s1 z).elim))
  obtain ⟨H1, I1, q1⟩ := hq
  have fin : ∀ f s2, SP X pins D f s2 → (match f with | .next => wpAny (model X.prog X.w) X.A (execs [] X.env) (SP X pins D) (fun e s' => ∃ H0 s0, Inv X pins σ H0 s0 ∧ CXE X.prog X.w X.stack H0 s0 Eh e s') s2 | f => SP X pins D f s2) := fun f s2 q => by
    cases f with
    | next => exact wpAny_execs_nil q
    | ret v => exact q
    | brk => exact q
    | cont => exact q
  cases d with
  | true => exact wpAny_mono (ha pins s1 σ H1 D Eh I1 q1) fin fun _ _ z => z
  | false => exact wpAny_mono (hb pins s1 σ H1 D Eh I1 q1) fin fun _ _ z => z
/-- within the except suite -/
abbrev inH (X : Cx) (a : Addr) : Cx := { X with A := X.A.mark (some (.ref a)), calm := false }
theorem inv_inH {pins : List (Addr × Obj)} {σ : L2.St} {H : Hp} {s : Shared} (I : Inv X pins σ H s) (a : Addr) : Inv (inH X a) pins σ H s :=
  ⟨⟨I.ok.mod, I.ok.kind, I.ok.glob, I.ok.blt, I.ok.above, I.ok.inj, I.ok.has, I.ok.cab, (fun z => by cases z), I.ok.frames, I.ok.stk, I.ok.exf, I.ok.bs, I.ok.bsz, I.ok.noex, I.ok.exfs, I.ok.funs, I.ok.frf⟩, I.os, I.bare, I.base, I.loc, I.cell, I.free, I.freeC, I.pin, I.hok, I.len⟩
theorem inv_outH {pins : List (Addr × Obj)} {σ : L2.St} {H : Hp} {s : Shared} {a : Addr} (ok : X.Ok) (I : Inv (inH X a) pins σ H s) : Inv X pins σ H s :=
  ⟨ok, I.os, I.bare, I.base, I.loc, I.cell, I.free, I.freeC, I.pin, I.hok, I.len⟩
/-- the name of the except goes -/
theorem name_goes {pins : List (Addr × Obj)} {σ : L2.St} {H : Hp} {s : Shared} {i : Nat} {n : Str} {pos : Pos} {M : Model} {A : Around} {E : Value → Shared → Prop} {Q : Unit → Shared → Prop} (I : Inv X pins σ H s) (hN : X.N.Nodup) (hi : X.N[i]? = some n) (hx : X.env.scope.names.lookup n = some .local)
    (h : ∀ s', Inv X pins (σ.set i none) H s' → Q () s') : wpAny M A (do bindName X.env n .none; unbindBehindTheSuite X.env n pos) Q E s := by
  obtain ⟨m, hn, hl⟩ := id I.loc
  obtain ⟨oL, _, _, hoL, _⟩ := id hn
  refine wpAny_nameGoes_keeps hx hn (by rw [I.ok.kind]; rfl) fun h' v hn' hs => ?_
  have neL : ∀ b o, X.s_0.heap.get? b = some o → b ≠ X.env.locals := fun b o e => Nat.ne_of_lt (Nat.lt_of_lt_of_le (Heap.lt_size e) I.ok.above)
  refine h _ ⟨I.ok, I.os, I.bare, ⟨fun b o e n hb hx => ?_, fun b o e n hb hx => ?_, I.base.free, fun b o e hx => ?_, I.base.tups, I.base.frzs, I.base.tbls⟩, ⟨_, hn', fun j y v' e1 e2 e3 => ?_⟩, fun y c e => ?_, I.free, I.freeC, fun p hp => ?_, fun b ob e => ?_, by simpa using I.len⟩
  · exact (hs.2 b (neL b o e)).trans (I.base.keep b o e n hb hx)
  · obtain ⟨sl, q⟩ := I.base.slot b o e n hb hx
    exact ⟨sl, (hs.2 b (neL b o e)).trans q⟩
  · obtain ⟨o', q⟩ := I.base.there b o e hx
    exact ⟨o', (hs.2 b (neL b o e)).trans q⟩
  · by_cases hj : j = i
    · subst hj
      rw [List.getElem?_set] at e2
      split at e2
      · split at e2 <;> cases e2
      · exact absurd rfl ‹_›
    · rw [List.getElem?_set_ne (Ne.symm hj)] at e2
      obtain ⟨u', r', q⟩ := hl j y v' e1 e2 e3
      refine ⟨u', r', ?_⟩
      rcases q with ⟨k, e⟩ | ⟨k, c, e, z⟩
      · refine .inl ⟨k, ?_⟩
        have : y ≠ n := fun e => hj (nodup_ix hN e1 (e ▸ hi))
        simp [this, e]
      · exact .inr ⟨k, c, e, z.sameBut hs (I.cne y c e)⟩
  · obtain ⟨w', z⟩ := I.cell y c e
    exact ⟨w', z.sameBut hs (I.cne y c e)⟩
  · obtain ⟨e, n, ne, nf, d⟩ := I.pin p hp
    exact ⟨(hs.2 p.1 ne).trans e, n, ne, nf, d⟩
  · have q : ∀ z, H z = some ob ∨ (∃ u, H z = some u) → z ≠ X.env.locals := fun z hz y => by
      subst y
      rcases hz with hz | ⟨u, hz⟩ <;> (rw [I.free] at hz; cases hz)
    exact (I.hok b ob e).stay (fun c u hc z => (hs.2 c (hc.elim (fun y => q c (.inl (y ▸ e))) fun y => q c (.inr ⟨_, y⟩))).trans z) (fun _ y => y) fun _ _ y => y
def tTry (K : PySem.W.Frag) (tb : XK → TS) (ts : TS) (i : Nat) (Cb : Addr) : TS := fun D σ H => ∃ Eh : XK, tb Eh D σ H ∧ ∀ C H' a, Eh (.ref C) none H' → H' a = none → exmOne K (.ref C) (.ref Cb) = some true ∧
  ts { nx := fun σ2 H2 => D.nx (σ2.set i none) H2, rt := D.rt, bk := fun σ2 H2 => D.bk (σ2.set i none) H2, ct := fun σ2 H2 => D.ct (σ2.set i none) H2 } (σ.set i (some (.ref a))) (L2.upd H' a (excH a C))
theorem ps_try {body : List Stmt} {tb : XK → TS} {ts : TS} {i : Nat} {y n : Str} {np hpos pos : Pos} {b0 : Stmt} {suite : List Stmt} {Cb : Addr} (hne : ∀ e s, X.xe e s → False)
    (hst : X.stack = X.env :: X.outer) (hfr : X.env.frame = some X.env.locals) (hb : PB X body tb) (hg : Gl X y) (hm : X.mg y = some (.ref Cb)) (hN : X.N.Nodup) (hi : X.N[i]? = some n) (hx : X.env.scope.names.lookup n = some .local) (hf : X.fn n = true)
    (hsu : ∀ a, PSs (inH X a) (b0 :: suite) ts) (hdb : (y == ("__debug__" : Str)) = false) :
    PS X (.Try body [.ExceptHandler (some (.Name y np)) (some n) (b0 :: suite) hpos] [] [] pos) (tTry X.K tb ts i Cb) := by
  intro pins s σ H D I h
  obtain ⟨Eh, hb1, hh⟩ := h
  refine wpAny_Try_except (wpAny_mono (hb pins s σ H D Eh I hb1) (fun f s1 q => ?_) fun e s1 hq => ?_)
  · cases f with
    | next => exact wpAny_execs_nil q
    | ret v => exact q
    | brk => exact q
    | cont => exact q
  obtain ⟨H0, s0, I0, a, C, t, B, H', rfl, qE, ha, F⟩ := hq
  have hfr' : X.A.frames = some (X.env :: X.outer) := by rw [← hst]; exact I.ok.frames
  have fly : Heap.FlyingW B (X.env :: X.outer) a (.ref C) (.ref t) s1.heap := hst ▸ F.fly
  obtain ⟨hx1, hs1⟩ := hh C H' a qE ha
  refine wpAny_looks_onW hfr' hfr fly fun h4 hheld hsm4 => ?_
  refine wpAny_landsW hheld fun h5 hfl5 hsm5 => ?_
  have I5 : Inv X pins σ H' { s1 with heap := h5 } := I0.call' (ch := []) F.os (F.un_on hfl5.1 (hsm4.trans hsm5)) (F.hok.kept hfl5.1) F.bare (fun b z => nomatch z)
  refine wpAny_handleBy_cons (codeAny_handlers_test (ld_glob (inv_inH I5 a) hg hm ?_ hdb)) (by intro q; cases q)
  obtain ⟨ob, hob, hobc⟩ := hfl5.there
  have LT : Looks (model X.prog X.w) h5 (typeOf (.ref a)) (.ref C) := hobc ▸ (Looks.ld hob).andThen .now
  refine exm_one I5.kIn LT hx1 _ _ _ _ (fun _ _ z => z) ?_
  refine codeAny_handlers_suite_as ?_
  refine lands_againW hfl5 fun h6 hfl6 hsm6 => ?_
  have u6 := F.un_on hfl6.1 (hsm4.trans (hsm5.trans hsm6))
  obtain ⟨oe, ws, hoe, hoec, hoed, _⟩ := hfl6.first
  have apart : ∀ b o, s0.heap.get? b = some o → H0 b = none → b ≠ a := fun b o q n z => by
    subst z
    by_cases hb : b ∈ frs X.stack
    · have hb' : b ∈ (X.env :: X.outer).filterMap (·.frame) := by rw [← hst]; exact hb
      obtain ⟨_, o2, e2, d2⟩ := hfl6.2.2.1.mem hb'
      rw [hoe] at e2
      cases e2
      exact d2 _ hoed
    · have z := F.keep b o q n hb
      rw [hfl6.2.1] at z
      cases z
  have un7 : Un (frs X.stack) [] H0 (L2.upd H' a (excH a C)) s0.heap h6 := ⟨u6.keep, u6.slot, fun b o q n hx => by rw [upd_ne (apart b o q n)]; exact u6.free b o q n hx, u6.there,
    fun b xs q => same_new ha _ _ _ (u6.tups b xs q), fun b o xs q => same_new ha _ _ _ (u6.frzs b o xs q), fun b ps q => let ⟨m, e⟩ := u6.tbls b ps q; ⟨m, same_new ha _ _ _ e⟩⟩
  have hok6 : HOk X.prog X.w H' h6 := F.hok.kept hfl6.1
  have ok7 : HOk X.prog X.w (L2.upd H' a (excH a C)) h6 := fun b o q => by
    by_cases hb : b = a
    · subst hb
      rw [upd_same] at q
      cases q
      refine ⟨⟨oe, ws, hoe, hoec, hoed⟩, ⟨oe, hoe⟩, fun h1 h2 hp hk => ?_⟩
      obtain ⟨o', vs', e1, e2, e3⟩ := hp
      exact ⟨o', vs', hk _ e1, e2, e3⟩
    · rw [upd_ne hb] at q
      exact (hok6 b o q).stay (fun _ _ _ z => z) (fun c z => same_new ha _ _ _ z) fun c xs z => same_new ha _ _ _ z
  have I7 : Inv X pins σ (L2.upd H' a (excH a C)) { s1 with heap := h6 } := I0.call' (ch := []) F.os un7 ok7 F.bare (fun b z => nomatch z)
  refine store_ok (X := inH X a) (v := .ref a) (inv_inH I7 a) hN hi (.inl hx) rfl (fun s2 I2 => ?_) (.inl hf)
  refine wpAny_mono (hsu a pins s2 _ _ _ I2 hs1) (fun f s3 q3 => ?_) fun e1 s3 z => (hne e1 s3 z).elim
  have ok := I7.ok
  cases f with
  | next =>
    obtain ⟨σ', H'', I3, q3⟩ := q3
    exact name_goes (inv_outH ok I3) hN hi hx fun s4 I4 => ⟨_, _, I4, q3⟩
  | ret v =>
    obtain ⟨v', σ', H'', I3, rv, q3⟩ := q3
    exact name_goes (inv_outH ok I3) hN hi hx fun s4 I4 => ⟨v', _, _, I4, rv, q3⟩
  | brk =>
    obtain ⟨σ', H'', I3, q3⟩ := q3
    exact name_goes (inv_outH ok I3) hN hi hx fun s4 I4 => ⟨_, _, I4, q3⟩
  | cont =>
    obtain ⟨σ', H'', I3, q3⟩ := q3
    exact name_goes (inv_outH ok I3) hN hi hx fun s4 I4 => ⟨_, _, I4, q3⟩
end
/-! ### defs over these -/
theorem passE0 {X : Cx} {P : Program} {w : World} : Passes (CXE P w) X E0 := fun _ _ _ _ _ _ _ h => by
  obtain ⟨_, _, _, _, _, _, q, _⟩ := h
  exact q.elim
section
variable {P : Program} {w : World} {K : PySem.W.Frag} {mg : Str → Option Value} {base : Heap} {x qual : Str} {st : Stmt} {f : Addr} {fd : FuncData} {N ps : List Str} {k : Nat} {sp : Sp}
/-- a def out of which no exception comes -/
theorem Fun.okT (F : Fun K x qual st f fd) (S : FnScope N ps (defScope st)) (len : ∀ vs H Q E, sp vs H Q E → vs.length = ps.length)
    (hbody : ∀ (cdv : Value) (A : Around) (outer : List Env) (s : Shared) (H : Hp) (vs : List V) (Q : VK) (E : XK), Room k (A.deeper (envOfC qual (defScope st) s.heap.objs.size f cdv)) → sp vs H Q E →
      ∃ t, PSs (cxOf (CXE P w) P w K mg base N qual (defScope st) f cdv A outer s H E).nox (defBody st) t ∧ t { nx := fun _ H' => Q .non H', rt := Q } (start N vs) H) : FnOk P w K mg base (CXE P w) (k + 1) f fd ps sp := by
  obtain ⟨oc, od, kV, doc, pm, an, cdv, ct, osl, rfl, lk, hcd⟩ := F.ex
  refine fn_of lk hcd S len fun A outer s H vs Q E hr hsp => ?_
  obtain ⟨t, h, q⟩ := hbody cdv A outer s H vs Q E hr hsp
  exact ⟨t, h.nox, q⟩
/-- a def that may raise -/
theorem Fun.okE (F : Fun K x qual st f fd) (S : FnScope N ps (defScope st)) (len : ∀ vs H Q E, sp vs H Q E → vs.length = ps.length)
    (hbody : ∀ (cdv : Value) (A : Around) (outer : List Env) (s : Shared) (H : Hp) (vs : List V) (Q : VK) (E : XK), Room k (A.deeper (envOfC qual (defScope st) s.heap.objs.size f cdv)) → sp vs H Q E →
      ∃ t, PSs (cxOf (CXE P w) P w K mg base N qual (defScope st) f cdv A outer s H E) (defBody st) t ∧ t { nx := fun _ H' => Q .non H', rt := Q } (start N vs) H) : FnOk P w K mg base (CXE P w) (k + 1) f fd ps sp := by
  obtain ⟨oc, od, kV, doc, pm, an, cdv, ct, osl, rfl, lk, hcd⟩ := F.ex
  refine fn_of lk hcd S len fun A outer s H vs Q E hr hsp => ?_
  exact hbody cdv A outer s H vs Q E hr hsp
end
/-! ### isinstance of an exception and its own class -/
theorem ans_same {a C : Addr} : Answers (fun s => ∃ o, s.heap.get? a = some o ∧ o.cls = .ref C) (.ref a) (.ref C) true := by
  intro dep tk prog w A R s hs
  obtain ⟨h0, g, d, tt, os⟩ := s
  obtain ⟨⟨o, ho, hc⟩, hq⟩ := hs
  have LT : Looks (model prog w) h0 (typeOf (.ref a)) (.ref C) := hc ▸ (Looks.ld ho).andThen .now
  unfold Builtin.«isinstance.nested»
  refine wpAny_bind (LT.at ?_)
  rw [if_pos (by simp)]
  first
    | ((repeat lk); exact hq tt)
    | exact wpAny_bind (wpAny_rule (hq tt))
    | exact wpAny_bind (wpAny_rule (wpAny_pure (hq tt)))
section
variable {X : Cx}
theorem call_isiX : CallR X (.builtin "isinstance") (fun xs H Q => ∃ a C, xs = [.ref a, .ref C] ∧ H a = some (excH a C) ∧ Q (.bl true) H) := by
  intro pins s σ H xs us Q I r h
  obtain ⟨a, C, rfl, ha, q⟩ := h
  obtain ⟨u1, u2, rfl, r1, r2⟩ : ∃ u1 u2, us = [u1, u2] ∧ L2.RelV (.ref a) u1 ∧ L2.RelV (.ref C) u2 := by
    cases r with | cons a r => cases r with | cons b r => cases r with | nil => exact ⟨_, _, rfl, a, b⟩
  cases r1
  cases r2
  obtain ⟨⟨o, vs, ho, hc, hd⟩, _, _⟩ := I.hok a _ ha
  exact call_isinstance (S := fun _ R s => (∃ o, s.heap.get? a = some o ∧ o.cls = .ref C) ∧ ∀ tk, R (.ok (.ret (.bool true))) { s with toks := tk })
    (fun prog w A R s hs => isinstance_outer (ans_same 0 _ prog w A R s hs) (by intro z; cases z)) ⟨⟨o, ho, hc⟩, fun tk => ⟨.bl true, H, I.tok tk, rfl, q⟩⟩
end
end Kx

set_option Elab.async false
set_option linter.all false
set_option maxRecDepth 100000
namespace Kx
open PySem PySem.Spec L2 PyProof.Rows PySem.W Builtin.ObjectAttr Builtin.Getset_descriptor
/-! ### an exception's class, asked -/
section
variable {prog : Program} {w : World} {A : Around} {E : Value → Shared → Prop} {h : Heap} {g : Array GenState} {d : Drawn} {t : Nat} {os : OsState} {a C : Addr} {o : Obj} {K : PySem.W.Frag}
theorem exc_type {M : Model} (hx : h.get? a = some o) (hc : o.cls = .ref C) : Looks M h (typeOf (.ref a)) (.ref C) := hc ▸ (Looks.ld hx).andThen .now
theorem exc_cget {R : Result → Shared → Prop} {tp : Value} (X : K.In h) (hx : h.get? a = some o) (hc : o.cls = .ref C) (hm : mroIn K C (.type "object") = some true) (hq : R (.ok (.ret (.ref C))) ⟨h, g, d, t, os⟩) :
    codeAny (model prog w) A (.call (.builtin "getset_descriptor.__get__") ⟨[.builtin "object.__class__", .ref a, tp], []⟩) R ⟨h, g, d, t, os⟩ := by
  have L0 := exc_type (M := model prog w) hx hc
  have L1 : Looks (model prog w) h (isSubtype (.ref C) (.type "object")) true := looks_mroIn X hm
  refine codeAny_call_builtin KF.slot_gs.plain KF.entry_gs ?_
  refine KF.slot_gs.check _ _ _ _ _ _ _ _ KF.type_class (KF.args_gs _ _ _) ?_
  unfold Builtin.«getset_descriptor.__get__» descrGet
  rw [dga_obj]
  refine wpAny_bind (wpAny_pure ?_)
  unfold descrGetter descrCheckInstance descrNameAndClass isInstance
  simp only [KF.owner_class]
  (repeat lk)
  refine ⟨Code.quiet_builtin _ (by decide +kernel), ?_⟩
  refine codeAny_builtin KF.entry_class ?_
  unfold Builtin.«object.__class__» shownTypeOf
  (repeat lk)
  exact hq
/-- what the written part must show of the class -/
structure ExcA (K : PySem.W.Frag) (C : Addr) : Prop where
  cls : (clsIn K C).isSome = true
  obj : mroIn K C (.type "object") = some true
  bas : mroIn K C (.type "BaseException") = some true
  atc : findIn K (.ref C) "__class__" = some (some (.builtin "object.__class__"))
  gat : findIn K (.ref C) "__getattribute__" = some (some (.builtin "BaseException.__getattribute__"))
  gtr : findIn K (.ref C) "__getattr__" = some none
theorem exc_entry {tk : Tok} {Q : Fin → Shared → Prop} (T : ExcA K C) (X : K.In h) (hx : h.get? a = some o) (hc : o.cls = .ref C) (hq : Q (.done (.ret (.ref C))) ⟨h, g, d, t, os⟩) :
    wpAny (model prog w) A (Builtin.«object.__getattribute__» ⟨[.ref a, .str "__class__" tk], []⟩) Q E ⟨h, g, d, t, os⟩ := by
  have hT5 : (⟨h, g, d, t, os⟩ : Shared).TypeIs (.builtin "object.__class__") "getset_descriptor" := F.typeOf_object_class
  have f5 := F.typeOf_object_class
  have f6 := F.slot_gs_get.lookup
  have f7 := F.slot_gs_set.lookup
  have L1 := looks_findIn (M := model prog w) X T.atc
  repeat (any_goals (first | assumption | (with_reducible refine wpAny_loadPart_at hx ?_; rw [hc]) | (with_reducible refine L1.at ?_) | wp_step))
  refine exc_cget X hx hc T.obj ?_
  repeat (any_goals (first | assumption | wp_step))
theorem exc_check {M : Model} {nameV : Value} {Q : Unit → Shared → Prop} (T : ExcA K C) (X : K.In h) (hx : h.get? a = some o) (hc : o.cls = .ref C) (hq : Q () ⟨h, g, d, t, os⟩) :
    wpAny M A (checkBuiltinCall "BaseException.__getattribute__" ⟨[.ref a, nameV], []⟩) Q E ⟨h, g, d, t, os⟩ := by
  have hk : builtinKind "BaseException.__getattribute__" = some .slot := by decide +kernel
  have hs : splitId "BaseException.__getattribute__" = some ("BaseException", "__getattribute__") := by decide +kernel
  have ha := F.args_bexc_ga (.ref a) nameV
  have L1 : Looks M h (isSubtype (.ref C) (.type "BaseException")) true := looks_mroIn X T.bas
  have L0 := exc_type (M := M) hx hc
  simp only [checkBuiltinCall, hk, hs]
  refine wpAny_bind ?_
  unfold isInstance
  refine wpAny_bind (L0.at (L1.at ?_))
  repeat (first | assumption | wp_step)
theorem exc_by {tk : Tok} {Q : Value → Shared → Prop} (T : ExcA K C) (X : K.In h) (hx : h.get? a = some o) (hc : o.cls = .ref C) (hq : Q (.ref C) ⟨h, g, d, t, os⟩) : wpAny (model prog w) A (getAttrBy (.ref a) (.str "__class__" tk) false) Q E ⟨h, g, d, t, os⟩ := by
  have f3 := F.excAttr_ValueError.ga.bind (.ref a)
  have hx2 : (Value.builtin "BaseException.__getattribute__" == Value.builtin "object.__getattribute__") = false := by decide +kernel
  have hx1 : (onTheHeap (Value.ref C) && Value.builtin "BaseException.__getattribute__" == Value.builtin "object.__getattribute__") = false := by rw [hx2, Bool.and_false]
  have L1 := looks_findIn (M := model prog w) X T.gat
  have L2 := looks_findIn (M := model prog w) X T.gtr
  repeat (any_goals (first | assumption | (with_reducible refine wpAny_loadPart_at hx ?_; rw [hc]) | (with_reducible refine L1.at ?_) | (with_reducible refine L2.at ?_) | wp_step))
  refine codeAny_call_builtin F.excAttr_ValueError.ga.plain F.entry_bexc_ga (exc_check T X hx hc (exc_entry T X hx hc ?_))
  repeat (any_goals (first | assumption | wp_step))
theorem exc_attr {Q : Option Value → Shared → Prop} (T : ExcA K C) (X : K.In h) (hx : h.get? a = some o) (hc : o.cls = .ref C) (hq : Q (some (.ref C)) ⟨h, g, d, t + 1, os⟩) : wpAny (model prog w) A (getAttr? (.ref a) "__class__") Q E ⟨h, g, d, t, os⟩ := by
  unfold getAttr? getAttrBy?
  repeat (any_goals (first | assumption | with_reducible apply exc_by T X hx hc | wp_step))
end
def isExc (a C : Addr) (h : Heap) : Prop := ∃ o vs, h.get? a = some o ∧ o.cls = .ref C ∧ o.data = .fields vs
theorem kitx_exc {K : PySem.W.Frag} {a C : Addr} (T : ExcA K C) : KitX K (.ref a) (.ref C) (isExc a C) where
  ty := fun M h _ p => by
    obtain ⟨o, vs, ho, hc, _⟩ := p
    exact exc_type ho hc
  it := fun M h X _ => by
    obtain ⟨cd, e⟩ := Option.isSome_iff_exists.mp T.cls
    unfold clsIn at e
    split at e
    · rename_i ho
      intro A' Q' E' s' k q
      unfold isType loadHead
      exact wpAny_bind (wpAny_loadPart (k _ _ (X _ _ ho)) (wpAny_pure q))
    · cases e
  ne := fun h tp dd its n sl X htp => by
    refine Bool.eq_false_iff.mpr fun q => ?_
    have e : C = tp := Value.ref.inj (beq_iff_eq.mp q)
    subst e
    obtain ⟨cd, e⟩ := Option.isSome_iff_exists.mp T.cls
    unfold clsIn at e
    split at e
    · rename_i ho
      have z := (X _ _ ho).symm.trans htp
      cases z
    · cases e
  ca := fun {prog w A E Q s} X p k => by
    obtain ⟨h, g, d, t, os⟩ := s
    obtain ⟨o, vs, ho, hc, _⟩ := p
    exact exc_attr T X ho hc k
theorem vals_refs : ∀ {Ds : List Addr} {its : List Value}, Vals (Ds.map V.ref) its → its = Ds.map Value.ref
  | [], _, .nil => rfl
  | _ :: _, _, .cons r1 r2 => congr (congrArg List.cons r1) (vals_refs r2)
section
variable {X : Cx}
/-- isinstance(e, class), e an exception of an own class -/
theorem call_isiE : CallR X (.builtin "isinstance") (fun xs H Q => ∃ (a C : Addr) (c : V) (b : Bool), xs = [.ref a, c] ∧ H a = some (excH a C) ∧ ExcA X.K C ∧ ((∃ D, c = .ref D ∧ kitOne X.K (.ref C) (.ref D) = some b) ∨ ∃ T, c = .ty T ∧ kitOne X.K (.ref C) (.type T) = some b) ∧ Q (.bl b) H) := by
  intro pins s σ H xs us Q I r h
  obtain ⟨a, C, c, b, rfl, ha, T, hk, q⟩ := h
  obtain ⟨u1, u2, rfl, r1, r2⟩ : ∃ u1 u2, us = [u1, u2] ∧ L2.RelV (.ref a) u1 ∧ L2.RelV c u2 := by
    cases r with | cons a r => cases r with | cons b r => cases r with | nil => exact ⟨_, _, rfl, a, b⟩
  cases r1
  obtain ⟨p, _, _⟩ := I.hok a _ ha
  have p : isExc a C s.heap := p
  rcases hk with ⟨D, rfl, hk⟩ | ⟨Tn, rfl, hk⟩
  · cases r2
    exact kia_one (kitx_exc T) I.kIn p hk (by intro z; cases z) fun tk => ⟨.bl b, H, I.tok tk, rfl, q⟩
  · cases r2
    exact kia_one (kitx_exc T) I.kIn p hk (by intro z; cases z) fun tk => ⟨.bl b, H, I.tok tk, rfl, q⟩
/-- isinstance(e, a tuple of own classes) -/
theorem call_isiET : CallR X (.builtin "isinstance") (fun xs H Q => ∃ (a C tp : Addr) (Ds : List Addr) (b : Bool), xs = [.ref a, .ref tp] ∧ H a = some (excH a C) ∧ ExcA X.K C ∧ H tp = some (.tup (Ds.map V.ref)) ∧ kitAny X.K (.ref C) (Ds.map Value.ref) = some b ∧ Q (.bl b) H) := by
  intro pins s σ H xs us Q I r h
  obtain ⟨a, C, tp, Ds, b, rfl, ha, T, htp, hk, q⟩ := h
  obtain ⟨u1, u2, rfl, r1, r2⟩ : ∃ u1 u2, us = [u1, u2] ∧ L2.RelV (.ref a) u1 ∧ L2.RelV (.ref tp) u2 := by
    cases r with | cons a r => cases r with | cons b r => cases r with | nil => exact ⟨_, _, rfl, a, b⟩
  cases r1
  cases r2
  obtain ⟨p, _, _⟩ := I.hok a _ ha
  have p : isExc a C s.heap := p
  obtain ⟨_, its, rv, o, e1, e2, n, e3⟩ := I.hok tp _ htp
  have hits : its = Ds.map Value.ref := vals_refs rv
  subst hits
  obtain ⟨oc, od, oda, osl⟩ := o
  dsimp only at e2 e3
  subst e2 e3
  exact kia_tup (kitx_exc T) I.kIn p e1 hk (by intro z; cases z) fun tk => ⟨.bl b, H, I.tok tk, rfl, q⟩
end
end Kx

set_option Elab.async false
set_option linter.all false
set_option maxRecDepth 100000
namespace Kx
open PySem PySem.Spec L2 PyProof.Rows PySem.W
/-! ### generator expressions: the code's table, tracked -/
def Tab (H : Hp) (P : Addr) : Prop := ∃ ps, H P = some (.tbl ps) ∧ TriplesOk ps.toList
/-- the module's word for its built-ins -/
structure Blt (X : Cx) (bm : Addr) (ob : Obj) : Prop where
  name : X.mg "__builtins__" = some (.ref bm)
  ne : bm ≠ builtinsNs
  obj : X.base.get? bm = some ob
  cls : ob.cls = .type "module"
  dict : ob.dict = some builtinsNs
  data : ob.data = .plain
section
variable {X : Cx}
theorem pass_all (n : Nat) : passing (fun _ => true) n 0 = List.range n := by
  unfold passing
  rw [List.drop_zero]
  exact List.filter_eq_self.mpr fun _ _ => rfl
/-- behind a piece of the model that keeps all but the table at P -/
theorem Inv.tabbed {pins : List (Addr × Obj)} {σ : L2.St} {H : Hp} {s s' : Shared} {P : Addr} {ps more : Array Value} (I : L2.Inv X pins σ H s) (hP : H P = some (.tbl ps)) (k : ∀ b o, b ≠ P → s.heap.get? b = some o → s'.heap.get? b = some o)
    (hT : s'.heap.get? P = some { cls := .none, data := .fields (ps ++ more) }) (hg : AllBare s'.gens) (ho : s'.os = s.os) : L2.Inv X pins σ (L2.upd H P (.tbl (ps ++ more))) s' := by
  obtain ⟨h', g', d', t', o'⟩ := s'
  obtain rfl : o' = s.os := ho
  have ne : ∀ b, H b = none → b ≠ P := fun b q z => by rw [z, hP] at q; cases q
  refine I.step (ch := []) (fun _ z => nomatch z) (fun b o _ _ _ e n => k b o (ne b n) e) (fun b o _ _ _ e n => ⟨o.slots, k b o (ne b n) e⟩) (fun b o _ e n => by rw [upd_ne (ne b n)]; exact n) (fun b o _ e => ?_) (fun b xs e => ?_) (fun b o u e => ?_) (fun b qs e => ?_) (fun m hm => ?_) (fun b u e => ?_) hg
  · by_cases hb : b = P
    · subst hb; exact ⟨_, hT⟩
    · exact ⟨o, k b o hb e⟩
  · have hb : b ≠ P := fun z => by rw [z, hP] at e; cases e
    rw [upd_ne hb]; exact e
  · have hb : b ≠ P := fun z => by rw [z, hP] at e; cases e
    rw [upd_ne hb]; exact e
  · by_cases hb : b = P
    · subst hb
      rw [hP] at e
      cases e
      exact ⟨more, upd_same⟩
    · exact ⟨#[], by rw [upd_ne hb, e]; simp⟩
  · obtain ⟨o, es, ep, ho, r⟩ := hm
    exact ⟨o, es, ep, k _ o (ne _ I.free) ho, r⟩
  · by_cases hb : b = P
    · subst hb
      rw [upd_same] at e
      cases e
      exact hT
    · rw [upd_ne hb] at e
      refine (I.hok b u e).stay (fun c v hc q => k c v (fun z => ?_) q) (fun c q => ?_) fun c xs q => ?_
      · rcases hc with y | y
        · exact hb (y ▸ z)
        · rw [z, hP] at y; cases y
      · have hc : c ≠ P := fun z => by rw [z, hP] at q; cases q
        rw [upd_ne hc]; exact q
      · have hc : c ≠ P := fun z => by rw [z, hP] at q; cases q
        rw [upd_ne hc]; exact q
/-- what an element of the expression is worth, sign by sign -/
def EltOk (X : Cx) (x : Str) (elt : Expr) (scope : Scope) (f : Nat → Bool) : Prop := Mod X.K X.mg X.base →
  ∀ (A' : Around) (E' : Value → Shared → Prop) (cp : Nat) (t : Tok) (s2 : Shared) (C : Addr) (code : Value) (m2 : Str → Option Value), A'.handled = none → s2.heap.Ns C m2 → m2 x = some (.str ⟨#[cp]⟩ t) →
    (∀ b o, X.base.get? b = some o → s2.heap.get? b = some o) → wpAny (model X.prog X.w) A' (eval elt (genEnv scope [] C code builtinsNs X.env)) (fun y s3 => y = .bool (f cp) ∧ Keeps s2 s3) E' s2
def tAllG (P : Addr) (te : TE) (f : Nat → Bool) : TE := fun σ H Q => te σ H fun v H1 => ∃ z, v = .str z ∧ Tab H1 P ∧ ∀ H2, (∀ b o, b ≠ P → H1 b = some o → H2 b = some o) → Tab H2 P → Q (.bl (z.cps.toList.all f)) H2
/-- all(elt for x in a text) -/
theorem pe_allgen {x : Str} {px p pos gpos : Pos} {elt iter : Expr} {scope : Scope} {te : TE} {f : Nat → Bool} {c P bm : Addr} {ob : Obj} {k : Nat} (hr : Room k X.A) (he : PE X iter te) (hel : EltOk X x elt scope f) (hcalm : X.calm = true)
    (hcode : X.env.code = .ref c) (hCK : codeHdIn X.K c P = true) (hB : Blt X bm ob) (hg : Gl X "all") (hm : X.mg "all" = none)
    (hco : scope.isCoroutine = false) (hclos : closureFor scope X.env = pure []) (hcell : ∀ y ∈ scope.names, y.2 ≠ .cell) (h0 : scope.names.lookup (".0" : Str) = some NameKind.local) (hx : scope.names.lookup x = some .local) (hkind : scope.kind = .function)
    (hfold : ∀ v, genFold iter X.env v = pure v) :
    PE X (.Call (.Name "all" p) [.GeneratorExp elt [⟨.Name x px, iter, [], 0⟩] scope gpos] [] pos) (tAllG P te f) := by
  intro pins s σ H Q I h
  refine wpAny_Call_Name_kw (ld_blt I hg hm (u := .builtin "all") (by decide +kernel) ?_)
  refine PyProof.Rows.callWith_builtin1 ?_ rfl rfl
  refine Calls.spliced_cons ?_
  have hh : X.A.handled = none := I.ok.hd hcalm
  have hel := hel I.ok.mod
  have hC : CodeHd X.base c P := codeHd_of_K I.ok.mod.kin hCK
  refine wpAny_GeneratorExp_walksQD hh hco hclos hcell h0 hx hkind (Nat.lt_of_le_of_lt (by omega) hr.dp) ?_ hfold
  refine thn (he pins s σ H _ I h) fun v s1 hq => ?_
  obtain ⟨y, H1, I1, r1, z, rfl, ⟨ps, hP, hTr⟩, q⟩ := hq
  obtain ⟨t, rfl⟩ := r1
  have hPo : s1.heap.get? P = some { cls := .none, data := .fields ps } := I1.hok P _ hP
  have hlim : s1.heap.NoLimit := I1.nolimit
  have hPlt : P < s1.heap.objs.size := Heap.lt_size hPo
  have bne : ∀ b o, X.base.get? b = some o → b ≠ P := fun b o e z => by
    have := (I1.bs b o e).2
    rw [z, hP] at this
    cases this
  have hcP : cStatics ≠ P := fun e => by
    obtain ⟨_, hns, _⟩ := hlim
    obtain ⟨o, es, ep, ho, hd, _⟩ := hns
    rw [e, hPo] at ho
    cases ho
    cases hd
  refine wpAny_pyIter_str fun oI St W hSt => ?_
  have C2 : CodeHd (s1.heap.push oI) c P := (hC.keeps I1.bk).keeps fun b o e => Heap.get?_push_of_some _ e
  have hP2 : (s1.heap.push oI).get? P = some { cls := .none, data := .fields ps } := Heap.get?_push_of_some _ hPo
  refine ⟨hlim.push _, ?_⟩
  have main : ∀ (code : Value) (h3 : Heap) (tk : Nat) (more : Array Value), Heap.ExtBut P (s1.heap.push oI) h3 → h3.get? P = some { cls := .none, data := .fields (ps ++ more) } → TriplesOk (ps ++ more).toList → (s1.heap.push oI).objs.size ≤ h3.objs.size →
      wpAny (model X.prog X.w) X.A (builtinsFor X.env.globals X.env.builtins) (fun bi s4 => ∃ I fp wr n₀ P St₀ pz F, (Value.ref s1.heap.objs.size) = .ref I ∧ (∀ A' : Around, A'.handled = none → Walks X.prog X.w A' I fp wr n₀ P St₀) ∧ St₀ 0 s4.heap ∧ (∀ b ∈ fp, b < s4.heap.objs.size) ∧ s4.heap.NoLimit ∧ cStatics ∉ wr ∧
          (∀ href : Heap, (∀ b o, s4.heap.get? b = some o → href.get? b = some o) →
            QuietGenD X.prog X.w (genEnv scope [] s4.heap.objs.size code bi X.env) x [] elt (List.range s4.heap.objs.size) wr P pz F href (X.A.depth + 1) (X.A.units + 8)) ∧
          (∀ a h₅ tk gs, gs.bare = true → s4.heap.objs.size < a → h₅.objs.size = a + 1 → (∀ b o, s4.heap.get? b = some o → h₅.get? b = some o) →
            WalksS X.prog X.w X.A.in4 a (a :: s4.heap.objs.size :: List.range s4.heap.objs.size) (s4.heap.objs.size :: wr) (GenOnlyQ s4.gens.size) (passing pz n₀ 0).length
              (fun j y => ∃ i, (passing pz n₀ 0)[j]? = some i ∧ F i y) (GenAt X.prog X.w X.A.in4 a s4.gens.size s4.heap.objs.size (List.range s4.heap.objs.size) wr pz n₀ F) →
            GenAt X.prog X.w X.A.in4 a s4.gens.size s4.heap.objs.size (List.range s4.heap.objs.size) wr pz n₀ F 0 { s4 with gens := s4.gens.push gs, toks := tk, heap := h₅ } →
            wpAny (model X.prog X.w) X.A (spliced (backTo pos (starEach [] X.env))) (fun us s' => wpAny (model X.prog X.w) X.A (call (.builtin "all") (.ref a :: us)) (EP X pins σ Q) X.xe s') X.xe { s4 with gens := s4.gens.push gs, toks := tk, heap := h₅ })) X.xe { s1 with heap := h3, toks := tk } := by
    intro code h3 tk more hx3 hPT hTr3 hsz3
    have up : ∀ b o, b ≠ P → s1.heap.get? b = some o → h3.get? b = some o := fun b o hb e => hx3 b o hb (Heap.get?_push_of_some _ e)
    have bk3 : ∀ b o, X.base.get? b = some o → h3.get? b = some o := fun b o e => up b o (bne b o e) (I1.bk b o e)
    have szI : s1.heap.objs.size < h3.objs.size := by
      have e : (s1.heap.push oI).objs.size = s1.heap.objs.size + 1 := Heap.size_push ..
      omega
    refine wpAny_builtinsFor (bm := bm) (o := ob) (m := X.mg) (by rw [I1.ok.glob]; exact I1.mod.glob.keeps bk3) hB.name hB.ne (bk3 _ _ hB.obj) hB.cls hB.dict hB.data ?_
    refine ⟨s1.heap.objs.size, [s1.heap.objs.size], [s1.heap.objs.size], z.cps.size, SignAt z, St, fun _ => true, fun i y => ∃ c, z.cps[i]? = some c ∧ y = .bool (f c), rfl, W, ?_, ?_, (hlim.push _).extBut hx3 hcP, ?_, fun href hh2 => ?_, ?_⟩
    · exact (W X.A hh).frame 0 _ _ hSt fun b hb o e => hx3 b o (fun z1 => by
        have y : b = s1.heap.objs.size := by simpa using hb
        rw [← z1, y] at hPlt
        exact Nat.lt_irrefl _ hPlt) e
    · intro b hb
      have y : b = s1.heap.objs.size := by simpa using hb
      rw [y]
      exact szI
    · intro hb
      have y : cStatics = s1.heap.objs.size := by simpa using hb
      obtain ⟨_, hn, _⟩ := hlim
      exact absurd hn.lt (by rw [y]; exact Nat.lt_irrefl _)
    · refine ⟨fun A' E' i v s2 m2 hA _ _ hv hn hmx hk => wpAny_pure ⟨rfl, s2.heap, s2.toks, rfl, fun _ _ e => e⟩, fun A' E' i v s2 m2 hA _ _ hv _ hn hmx hk => ?_⟩
      obtain ⟨cp, u, hc, rfl⟩ := hv
      refine wpAny_mono (hel A' E' cp u s2 _ code m2 hA hn hmx fun b o e => ?_) (fun y s3 hy => ⟨⟨cp, hc, hy.1⟩, hy.2⟩) fun _ _ e => e
      have lt : b < s1.heap.objs.size := Heap.lt_size (I1.bk b o e)
      exact hk b (List.mem_range.mpr (Heap.lt_size (bk3 b o e))) (fun hb => by
        have y : b = s1.heap.objs.size := by simpa using hb
        rw [y] at lt
        exact Nat.lt_irrefl _ lt) o (hh2 b o (bk3 b o e))
    · intro a h5 tk5 gs hgb hag hsz5 hk5 WS hat
      refine Calls.spliced_nil ?_
      have WS1 := WS.in4_1
      have htr : TruthOf X.prog X.w X.A.in1 (fun j y => ∃ i, (passing (fun _ => true) z.cps.size 0)[j]? = some i ∧ ∃ c, z.cps[i]? = some c ∧ y = .bool (f c)) (fun j => f (z.cps.toList.getD j 0)) := by
        intro j v s2 Q2 E2 hv hQ2
        obtain ⟨i, hi, c, hc, rfl⟩ := hv
        rw [pass_all, List.getElem?_range] at hi
        · cases hi
          have e : z.cps.toList.getD j 0 = c := by
            rw [List.getD_eq_getElem?_getD, Array.getElem?_toList, hc]
            rfl
          have hQ2 : Q2 (f (z.cps.toList.getD j 0)) s2 := hQ2
          rw [e] at hQ2
          exact wpAny_truthy_bool hQ2
        · have := (List.getElem?_eq_some_iff.mp hi).1
          simpa using this
      refine call_all_walkS (WS1.self 0 _ _ _ hat ⟨a, _, _, _, _, _, _, _, rfl, WS1, hat, htr, fun s' hm => ?_⟩)
      have off : ∀ b, b < s1.heap.objs.size → b ∉ h3.objs.size :: [s1.heap.objs.size] := fun b hb hm => by
        have y : b = h3.objs.size ∨ b = s1.heap.objs.size := by simpa using hm
        omega
      have kk : ∀ b o, b ≠ P → s1.heap.get? b = some o → s'.heap.get? b = some o := fun b o hb e => hm.heap b o (off b (Heap.lt_size e)) (hk5 b o (up b o hb e))
      refine ⟨.bl (z.cps.toList.all f), L2.upd H1 P (.tbl (ps ++ more)), Inv.tabbed I1 hP kk (hm.heap P _ (off P hPlt) (hk5 P _ hPT)) ((I1.bare.push hgb).movedS hm) hm.os, ?_, q _ (fun b o hb e => by rw [upd_ne hb]; exact e) ⟨ps ++ more, upd_same, hTr3⟩⟩
      show Value.bool _ = Value.bool _
      rw [pass_all, List.length_range]
      congr 1
      rw [Bool.eq_iff_iff, List.all_eq_true, List.all_eq_true]
      constructor
      · intro hA c hc
        obtain ⟨j, hj, e⟩ := List.mem_iff_getElem.mp hc
        have h2 := hA j (List.mem_range.mpr (by simpa using hj))
        rw [List.getD_eq_getElem?_getD, List.getElem?_eq_getElem hj, e] at h2
        exact h2
      · intro hA j hj
        have hj : j < z.cps.toList.length := by simpa using List.mem_range.mp hj
        rw [List.getD_eq_getElem?_getD, List.getElem?_eq_getElem hj]
        exact hA _ (List.getElem_mem hj)
  cases hf : codeAmong gpos ps.toList with
  | some cv =>
    refine wpAny_genexprCode_hit hcode (C2.code hP2 hTr) hf ?_
    exact main cv _ s1.toks #[] (Heap.ExtBut.refl _ _) (by simpa using hP2) (by simpa using hTr) (Nat.le_refl _)
  | none =>
    refine wpAny_genexprCodeX hcode (C2.code hP2 hTr) (C2.tab hP2) hf fun c' h3 tk3 hx3 hge hlt hcode3 _ htab3 _ => ?_
    refine main (.ref c') h3 tk3 #[rawInt gpos.line, rawInt gpos.col, .ref c'] hx3 htab3.2 ?_ (Nat.le_trans hge (Nat.le_of_lt hlt))
    obtain ⟨_, _, _, _, _, _, _, _, _, op, _, _, _, _, _, _, _, hop, hod, ht, _⟩ := hcode3
    exact ht
end
end Kx

set_option Elab.async false
set_option linter.all false
set_option maxRecDepth 100000
namespace Kx
open PySem PySem.Spec L2 PyProof.Rows PySem.W
/-! ### the head, with the table of one def's code tracked -/
def BltB (mg : Str → Option Value) (h : Heap) : Prop := ∃ bm ob, mg "__builtins__" = some (.ref bm) ∧ bm ≠ builtinsNs ∧ h.get? bm = some ob ∧ ob.cls = .type "module" ∧ ob.dict = some builtinsNs ∧ ob.data = .plain
theorem law_callT {Pr : Program} {w : World} {K : PySem.W.Frag} {mg mb : Str → Option Value} {CX : CXT} {k : Nat} {fa a c P : Addr} {fd : FuncData} {x : Str} {sp : Sp} {s₁ : Shared} {vs : List Value} {ns : List Int}
    (KX : K.In s₁.heap) (hns : s₁.heap.Ns mainGlobals mg) (hb : s₁.heap.Ns builtinsNs mb) (hbb : ∀ x : Str, x ≠ "__name__" → mb x = bootBuiltins x) (hlim : s₁.heap.NoLimit) (hg : s₁.gens = #[])
    (ha : s₁.heap.get? a = some { cls := .type "list", data := .seq vs.toArray }) (hi : IntsAre vs ns) (hl : ns.length ≤ sizeLine) (hr : Room k callerA) (hC : CodeHd s₁.heap c P) (hP : s₁.heap.get? P = some (tabObj #[])) (hKP : K.lookup P = none)
    (hbm : BltB mg s₁.heap) (F : ∀ base : Heap, K.In base → base.Ns mainGlobals mg → BltB mg base → FnOk Pr w K mg base CX k fa fd [x] sp) (hbind : ∀ (s : Shared) (u : Value), BindsTo s fd ⟨[u], []⟩ [(x, u)])
    (hsp : ∀ H : Hp, Tab H P → SqL K H a (ns.map V.int) → sp [.ref a] H (fun v _ => v = .bl true) fun _ _ _ => False)
    (hCX : ∀ H e s', CX [] H s₁ (fun _ _ _ => False) e s' → False) :
    codeAny (model Pr w) callerA (.call (.ref fa) ⟨[.ref a], []⟩) (fun r s' => r = .ok (.ret (.bool true)) ∧ OldK s₁.heap s'.heap ∧ s'.os = s₁.os ∧ AllBare s'.gens) s₁ := by
  have rv := vals_ints hi
  have lenV := hi.length
  have haP : a ≠ P := fun z => by
    rw [z, hP] at ha
    cases ha
  have core : ∀ H : Hp, H P = some (.tbl #[]) → SqL K H a (ns.map V.int) → HOk Pr w H s₁.heap → (∀ b u, H b = some u → b = P ∨ (b = a ∧ K.lookup a = none ∧ ∃ o xs, u = .frz o (.lst xs))) →
      codeAny (model Pr w) callerA (.call (.ref fa) ⟨[.ref a], []⟩) (fun r s' => r = .ok (.ret (.bool true)) ∧ OldK s₁.heap s'.heap ∧ s'.os = s₁.os ∧ AllBare s'.gens) s₁ := by
    intro H hHP hS hok hA
    have noA : ∀ {b : Addr} {o : Obj} {es : Array DictEntry} {ep : Nat}, s₁.heap.get? b = some o → o.data = .dict es ep → H b = none := fun {b o es ep} e d => by
      cases q : H b with
      | none => rfl
      | some u =>
        rcases hA b u q with z | ⟨z, _⟩
        · rw [z, hP] at e
          cases e
          cases d
        · rw [z, ha] at e
          cases e
          cases d
    have hbmB : BltB mg (hidT s₁.heap H) := by
      obtain ⟨bm, ob, b1, b2, b3, b4, b5, b6⟩ := hbm
      refine ⟨bm, ob, b1, b2, hidT_get b3 ?_, b4, b5, b6⟩
      cases q : H bm with
      | none => rfl
      | some u =>
        rcases hA bm u q with z | ⟨z, _⟩
        · rw [z, hP] at b3
          cases b3
          cases b6
        · rw [z, ha] at b3
          cases b3
          cases b6
    have nsK : ∀ {b : Addr} {m : Str → Option Value}, s₁.heap.Ns b m → (hidT s₁.heap H).Ns b m := fun {b m} ⟨o, es, ep, e, d, r⟩ => ⟨o, es, ep, hidT_get e (noA e d), d, r⟩
    have hKb : K.In (hidT s₁.heap H) := fun b o e => hidT_get (KX b o e) (by
      cases q : H b with
      | none => rfl
      | some u =>
        rcases hA b u q with z | ⟨z, y, _⟩
        · rw [z, hKP] at e
          cases e
        · rw [z, y] at e
          cases e)
    have hM : Mod K mg (hidT s₁.heap H) := ⟨hKb, nsK hns, ⟨mb, nsK hb, hbb⟩, let ⟨mc, h1, h2⟩ := hlim; ⟨mc, nsK h1, h2⟩⟩
    have e0 : Env0 Pr w K mg (hidT s₁.heap H) callerA [] s₁ H := ⟨rfl, hM, fun b o e => of_hidT e, Nat.le_of_eq (hidT_size _ _), trivial, fun b hb => absurd (show b ∈ ([] : List Addr) from hb) (by simp), hok, .of_eq hg⟩
    refine codeAny_mono ((F _ hKb (nsK hns) hbmB).run callerA [] s₁ H ⟨[.ref a], []⟩ [.ref a] [.ref a] _ _ hr e0 (hbind s₁ (.ref a)) (.cons rfl .nil) (hsp H ⟨#[], hHP, by simp [TriplesOk]⟩ hS)) fun r s' h => ?_
    cases r with
    | error e => exact (hCX H e s' h).elim
    | ok fl =>
      cases fl with
      | next => exact False.elim h
      | brk => exact False.elim h
      | cont => exact False.elim h
      | ret u =>
        obtain ⟨v, H', os, bare, un, hok', r', q⟩ := h
        have q' : v = .bl true := q
        subst q'
        obtain rfl : u = Value.bool true := r'
        obtain ⟨more, hm⟩ := un.tbls P _ hHP
        have hT' : s'.heap.get? P = some { cls := .none, data := .fields (#[] ++ more) } := hok' P _ hm
        have kept : ∀ b o, b ≠ P → s₁.heap.get? b = some o → s'.heap.get? b = some o := fun b o hbP e => by
          cases q : H b with
          | none => exact un.keep b o e q (by intro z; exact absurd (show b ∈ ([] : List Addr) from z) (by simp)) (by simp)
          | some u =>
            rcases hA b u q with z | ⟨z, _, ob, xs, rfl⟩
            · exact absurd z hbP
            · have z2 := un.frzs b ob _ q
              obtain ⟨e1, _⟩ := hok b _ q
              obtain ⟨e2, _⟩ := hok' b _ z2
              rw [e] at e1
              cases e1
              exact e2
        refine ⟨rfl, ⟨fun b o e => ?_, fun b o e => ?_⟩, os, bare⟩
        · by_cases hbP : b = P
          · subst hbP
            rw [hP] at e
            cases e
            exact .inr (.inl ⟨(hC.tab hP).isCodeTable, rfl, #[], more, rfl, hT'⟩)
          · exact .inl (kept b o hbP e)
        · by_cases hbP : b = P
          · subst hbP
            exact ⟨_, hT'⟩
          · exact ⟨o, kept b o hbP e⟩
  cases hk : K.lookup a with
  | some o =>
    have e := KX a o hk
    rw [ha] at e
    cases e
    refine core (fun b => if b = P then some (.tbl #[]) else none) (if_pos rfl) (.inr ⟨_, vs.toArray, _, hk, rfl, rfl, rfl, by rw [List.size_toArray, lenV]; exact hl, by simpa using rv⟩) (fun b u z => ?_) fun b u z => ?_
    · by_cases hb : b = P
      · have z' := (if_pos hb).symm.trans z
        cases z'
        subst hb
        exact hP
      · have z' := (if_neg hb).symm.trans z
        cases z'
    · by_cases hb : b = P
      · exact .inl hb
      · have z' := (if_neg hb).symm.trans z
        cases z'
  | none =>
    refine core (fun b => if b = P then some (.tbl #[]) else if b = a then some (.frz { cls := .type "list", data := .seq vs.toArray } (.lst (ns.map V.int))) else none) (if_pos rfl)
      (.inl (.inr ⟨{ cls := .type "list", data := .seq vs.toArray }, by show (if a = P then _ else _) = _; rw [if_neg haP, if_pos rfl]⟩)) (fun b u z => ?_) fun b u z => ?_
    · by_cases hb : b = P
      · have z' := (if_pos hb).symm.trans z
        cases z'
        subst hb
        exact hP
      · have z' := (if_neg hb).symm.trans z
        by_cases hb2 : b = a
        · have z'' := (if_pos hb2).symm.trans z'
          cases z''
          subst hb2
          exact ⟨ha, by rw [List.length_map]; exact hl, vs, _, rv, ha⟩
        · have z'' := (if_neg hb2).symm.trans z'
          cases z''
    · by_cases hb : b = P
      · exact .inl hb
      · have z' := (if_neg hb).symm.trans z
        by_cases hb2 : b = a
        · have z'' := (if_pos hb2).symm.trans z'
          cases z''
          exact .inr ⟨hb2, hk, _, _, rfl⟩
        · have z'' := (if_neg hb2).symm.trans z'
          cases z''
theorem walk_ofT {l : PySem.W.OpenLaw} {n k : Nat} {q : Program} {loose : List Str} {XP : (Str → Option Value) → Heap → Prop} {YP : World → Heap → Prop} {d : DefRec} {K : Params → PySem.W.Frag} {CX : World → CXT} {sp : Params → Sp} {x gn : Str} {c P : Params → Addr} {gd : DefRec}
    (hn : l.most = some n) (hn2 : n ≤ sizeLine) (hdf : d.params.defaults = []) (hr : Room k callerA)
    (hY : ∀ (w : World) (h : Heap), YP w h → (K w.params).In h)
    (hgd : (recsOf q).find? (fun e => e.name == gn) = some gd) (htab : ∀ p, tabIn (K p) gn = some (c p, P p)) (hKP : ∀ p, (K p).lookup (P p) = none)
    (F : ∀ (w : World) (mg : Str → Option Value) (fa : Addr) (h : Heap), (K w.params).In h → h.Ns mainGlobals mg → mg d.name = some (.ref fa) →
      ∃ fd : FuncData, (∀ (s : Shared) (u : Value), BindsTo s fd ⟨[u], []⟩ [(x, u)]) ∧
        ∀ base : Heap, (K w.params).In base → base.Ns mainGlobals mg → BltB mg base → FnOk l.prog w (K w.params) mg base (CX w) k fa fd [x] (sp w.params))
    (hsp : ∀ (w : World) (H : Hp) (a : Addr) (ns : List Int), ns.length ≤ n → Tab H (P w.params) → SqL (K w.params) H a (ns.map V.int) → sp w.params [.ref a] H (fun v _ => v = .bl true) fun _ _ _ => False)
    (hCX : ∀ (w : World) (H : Hp) (s : Shared) (e : Value) (s' : Shared), CX w [] H s (fun _ _ _ => False) e s' → False) :
    PySem.W.WalkO q loose XP YP l.row.toRowW d [] (fun f vs => PySem.call f vs) := by
  refine Att.attach_call hn hdf fun w s₀ s₁ mg mb fa o pm cd doc a vs ns G Y ho hd hcd hmg hobj hints hlen hg => ?_
  have KX := hY w _ Y
  obtain ⟨fd, hb, hF⟩ := F w mg fa _ KX G.T.g hmg
  obtain ⟨hC, hP⟩ := tab_of G.T KX hgd (htab w.params)
  exact law_callT KX G.T.g G.T.b G.T.builtins G.T.nolimit hg hobj hints (Nat.le_trans hlen hn2) hr hC hP (hKP w.params) G.T.bmain hF hb (fun H hO hS => hsp w H a ns hlen hO hS) fun H e s' => hCX w H s₁ e s'
end Kx

set_option Elab.async false
set_option linter.all false
set_option maxRecDepth 100000
namespace Kx
open PySem PySem.Spec L2 PyProof.Rows PySem.W
section
variable {X : Cx}
/-! ### more of a text's methods -/
theorem mt_removeprefix : MtR X "str.removeprefix" (fun x xs H Q => ∃ a b, x = .str a ∧ xs = [.str b] ∧ a.length ≤ sizeLine ∧ Q (.str (Txt.removeprefix a b)) H) := by
  intro pins s σ H x xs v us Q I rx rs h
  obtain ⟨a, b, rfl, rfl, hz, h⟩ := h
  obtain ⟨t, rfl⟩ := rx
  cases rs with
  | cons r1 rs =>
    cases rs
    obtain ⟨u, rfl⟩ := r1
    exact PySem.SC.removeprefix (fun t' k => ⟨.str (Txt.removeprefix a b), H, I.tok k, ⟨t', rfl⟩, h⟩) hz
theorem mt_rstripC : MtR X "str.rstrip" (fun x xs H Q => ∃ a b, x = .str a ∧ xs = [.str b] ∧ a.length ≤ sizeLine ∧ Q (.str (Txt.rstripChars a b)) H) := by
  intro pins s σ H x xs v us Q I rx rs h
  obtain ⟨a, b, rfl, rfl, hz, h⟩ := h
  obtain ⟨t, rfl⟩ := rx
  cases rs with
  | cons r1 rs =>
    cases rs
    obtain ⟨u, rfl⟩ := r1
    exact PySem.SC.rstripChars (fun t' k => ⟨.str (Txt.rstripChars a b), H, I.tok k, ⟨t', rfl⟩, h⟩) hz
theorem mt_zfill : MtR X "str.zfill" (fun x xs H Q => ∃ a i, x = .str a ∧ xs = [.int i] ∧ PadOk i = true ∧ Q (.str (Txt.zfill a i)) H) := by
  intro pins s σ H x xs v us Q I rx rs h
  obtain ⟨a, i, rfl, rfl, hz, h⟩ := h
  obtain ⟨t, rfl⟩ := rx
  cases rs with
  | cons r1 rs =>
    cases rs
    obtain ⟨u, rfl⟩ := r1
    exact PySem.SC.zfill hz (fun t' k => ⟨.str (Txt.zfill a i), H, I.tok k, ⟨t', rfl⟩, h⟩)
theorem mt_sindex : MtR X "str.index" (fun x xs H Q => ∃ a b i rest, x = .str a ∧ xs = [.str b] ∧ Builtin.Str.occurrences a b 0 a.length 1 = i :: rest ∧ Q (.int (i : Nat)) H) := by
  intro pins s σ H x xs v us Q I rx rs h
  obtain ⟨a, b, i, rest, rfl, rfl, ho, h⟩ := h
  obtain ⟨t, rfl⟩ := rx
  cases rs with
  | cons r1 rs =>
    cases rs
    obtain ⟨u, rfl⟩ := r1
    exact PySem.SC.index ho ⟨.int (i : Nat), H, I.tok _, ⟨_, rfl⟩, h⟩
theorem mt_ljustF : MtR X "str.ljust" (fun x xs H Q => ∃ (a : Str) (i : Int) (c : Nat), x = .str a ∧ xs = [.int i, .str ⟨#[c]⟩] ∧ PadOk i = true ∧ Q (.str (Txt.ljustF a i c)) H) := by
  intro pins s σ H x xs v us Q I rx rs h
  obtain ⟨a, i, c, rfl, rfl, hz, h⟩ := h
  obtain ⟨t, rfl⟩ := rx
  cases rs with
  | cons r1 rs =>
    cases rs with
    | cons r2 rs =>
      cases rs
      obtain ⟨u, rfl⟩ := r1
      obtain ⟨u', rfl⟩ := r2
      exact ljust_fill hz rfl (fun t' k => ⟨.str (Txt.ljustF a i c), H, I.tok k, ⟨t', rfl⟩, h⟩)
variable {o e e1 e2 : Expr} {to te te1 te2 : TE} {apos pos : Pos}
theorem pe_removeprefix (ho : PE X o to) (he : PE X e te) (hs : isStar e = false := by rfl) (hbase : attributeBase o "removeprefix" X.env (eval o X.env) = eval o X.env := by rfl) (hline : (apos.endLine == pos.line) = true := by rfl) :
    PE X (.Call (.Attribute o "removeprefix" apos) [e] [] pos) (tM1 (fun x xs H Q => ∃ a b, x = .str a ∧ xs = [.str b] ∧ a.length ≤ sizeLine ∧ Q (.str (Txt.removeprefix a b)) H) to te) :=
  pe_m1 F.slot_str_removeprefix F.type_str_removeprefix mt_removeprefix ho he (star_cons hs) hbase hline
theorem pe_rstripC (ho : PE X o to) (he : PE X e te) (hs : isStar e = false := by rfl) (hbase : attributeBase o "rstrip" X.env (eval o X.env) = eval o X.env := by rfl) (hline : (apos.endLine == pos.line) = true := by rfl) :
    PE X (.Call (.Attribute o "rstrip" apos) [e] [] pos) (tM1 (fun x xs H Q => ∃ a b, x = .str a ∧ xs = [.str b] ∧ a.length ≤ sizeLine ∧ Q (.str (Txt.rstripChars a b)) H) to te) :=
  pe_m1 F.slot_str_rstrip F.type_str_rstrip mt_rstripC ho he (star_cons hs) hbase hline
theorem pe_zfill (ho : PE X o to) (he : PE X e te) (hs : isStar e = false := by rfl) (hbase : attributeBase o "zfill" X.env (eval o X.env) = eval o X.env := by rfl) (hline : (apos.endLine == pos.line) = true := by rfl) :
    PE X (.Call (.Attribute o "zfill" apos) [e] [] pos) (tM1 (fun x xs H Q => ∃ a i, x = .str a ∧ xs = [.int i] ∧ PadOk i = true ∧ Q (.str (Txt.zfill a i)) H) to te) :=
  pe_m1 F.slot_str_zfill F.type_str_zfill mt_zfill ho he (star_cons hs) hbase hline
theorem pe_sindex (ho : PE X o to) (he : PE X e te) (hs : isStar e = false := by rfl) (hbase : attributeBase o "index" X.env (eval o X.env) = eval o X.env := by rfl) (hline : (apos.endLine == pos.line) = true := by rfl) :
    PE X (.Call (.Attribute o "index" apos) [e] [] pos) (tM1 (fun x xs H Q => ∃ a b i rest, x = .str a ∧ xs = [.str b] ∧ Builtin.Str.occurrences a b 0 a.length 1 = i :: rest ∧ Q (.int (i : Nat)) H) to te) :=
  pe_m1 F.slot_str_index F.type_str_index mt_sindex ho he (star_cons hs) hbase hline
def tM2 (r : V → List V → Hp → VK → Prop) (to te1 te2 : TE) : TE := fun σ H Q => to σ H fun x H1 => (∃ a, x = .str a) ∧ te1 σ H1 fun y H2 => te2 σ H2 fun z H3 => r x [y, z] H3 Q
theorem pe_ljustF (ho : PE X o to) (he1 : PE X e1 te1) (he2 : PE X e2 te2) (hs : (isStar e1 || isStar e2) = false := by rfl) (hbase : attributeBase o "ljust" X.env (eval o X.env) = eval o X.env := by rfl) (hline : (apos.endLine == pos.line) = true := by rfl) :
    PE X (.Call (.Attribute o "ljust" apos) [e1, e2] [] pos) (tM2 (fun x xs H Q => ∃ (a : Str) (i : Int) (c : Nat), x = .str a ∧ xs = [.int i, .str ⟨#[c]⟩] ∧ PadOk i = true ∧ Q (.str (Txt.ljustF a i c)) H) to te1 te2) := by
  intro pins s σ H Q I h
  have h2 : isStar e1 = false ∧ isStar e2 = false := by simpa using hs
  have hst : starEach [e1, e2] X.env = [(false, eval e1 X.env), (false, eval e2 X.env)] := by rw [star_cons h2.1, star_cons h2.2]; rfl
  refine PySem.Call_method2 hbase hst hline (thn (ho pins s σ H _ I h) fun v s1 hq => ?_)
  obtain ⟨x, H1, I1, r1, ⟨a, rfl⟩, q1⟩ := hq
  obtain ⟨t, rfl⟩ := _root_.id r1
  refine ⟨"str", _, F.plainAttrs_str, F.slot_str_ljust, F.type_str_ljust, typeIs_str _ _ _, (fun _ e => nomatch e), Calls.callWith_builtin rfl (Calls.evalArgs_plain (Calls.spliced_cons ?_))⟩
  refine thn (he1 pins s1 σ H1 _ I1 q1) fun u s2 hq2 => Calls.spliced_cons ?_
  obtain ⟨y, H2, I2, r2, q2⟩ := hq2
  refine thn (he2 pins s2 σ H2 _ I2 q2) fun u' s3 hq3 => Calls.spliced_nil ?_
  obtain ⟨y', H3, I3, r3, q3⟩ := hq3
  exact mt_ljustF pins s3 σ H3 _ [y, y'] _ [u, u'] Q I3 r1 (.cons r2 (.cons r3 .nil)) q3
theorem call_divmodB : CallR X (.builtin "divmod") (fun xs H Q => ∃ i j, xs = [.int i, .int j] ∧ CDivP i j ∧ ∀ p, H p = none → Q (.ref p) (L2.upd H p (.tup [.int (i / j), .int (i % j)]))) := by
  intro pins s σ H xs us Q I r h
  obtain ⟨i, j, rfl, ⟨h1, h2⟩, q⟩ := h
  obtain ⟨u, w', rfl, ⟨t, rfl⟩, ⟨t', rfl⟩⟩ := vals2 r
  refine divmod_int (by omega) ?_ (.inl (PyProof.noPylong_of_log2 (h2.log (by decide) (by omega))))
  rw [Int.fdiv_eq_ediv_of_nonneg i (by omega), Int.fmod_eq_emod_of_nonneg i (by omega)]
  have hn : H s.heap.objs.size = none := I.hok.fresh (Nat.le_refl _)
  refine ⟨.ref s.heap.objs.size, _, ?_, rfl, q _ hn⟩
  refine I.laid (fun b o e => Heap.get?_push_of_some _ e) (Nat.le_refl _) ⟨(by show 2 ≤ sizeLine; decide), [.int (i / j) s.toks, .int (i % j) (s.toks + 1)], .cons ⟨_, rfl⟩ (.cons ⟨_, rfl⟩ .nil), ?_⟩
  exact ⟨_, Heap.get?_push_size s.heap rfl, rfl, 0, rfl⟩
end
end Kx
namespace Kx
open PySem PySem.Spec L2 PyProof.Rows PySem.W
section
variable {X : Cx}
/-! ### f-strings -/
abbrev TJ := L2.St → Hp → Str → VK → Prop
def PJ (X : Cx) (ps : List Expr) (t : TJ) : Prop :=
  ∀ (pins : List (Addr × Obj)) (s : Shared) (σ : L2.St) (H : Hp) (out : Str) (Q : VK), L2.Inv X pins σ H s → t σ H out Q → wpAny (model X.prog X.w) X.A (joinParts out (evalEach ps X.env)) (EP X pins σ Q) X.xe s
theorem pj_nil : PJ X [] (fun _ H out Q => out.length ≤ sizeLine ∧ Q (.str out) H) := fun pins s σ H out Q I h =>
  joinParts_nil ⟨.str out, H, I.tok _, ⟨_, rfl⟩, h.2⟩ h.1
theorem pj_val {e : Expr} {es : List Expr} {pos : Pos} {te : TE} {t : TJ} (he : PE X e te) (hr : PJ X es t) : PJ X (.FormattedValue e (-1) none pos :: es) (fun σ H out Q => te σ H fun v H1 =>
    (∃ y, v = .str y ∧ y.length ≤ sizeLine ∧ (out ++ y).length ≤ sizeLine ∧ t σ H1 (out ++ y) Q) ∨ ∃ i : Int, v = .int i ∧ i.natAbs.log2 < 1920 ∧ (out ++ (toString i : Str)).length ≤ sizeLine ∧ t σ H1 (out ++ (toString i : Str)) Q) := by
  intro pins s σ H out Q I h
  show wpAny _ _ (joinParts out (eval (.FormattedValue e (-1) none pos) X.env :: evalEach es X.env)) _ _ s
  refine joinParts_cons (FormattedValue_plain (thn (he pins s σ H _ I h) fun v s1 hq => ?_))
  obtain ⟨y, H1, I1, r1, hq⟩ := hq
  rcases hq with ⟨z, rfl, hz, hl, q⟩ | ⟨i, rfl, hi, hl, q⟩
  · obtain ⟨t', rfl⟩ := r1
    exact formatField_str (fun t2 tk => ⟨hl, hr pins _ σ H1 _ Q (I1.tok tk) q⟩) hz
  · obtain ⟨t', rfl⟩ := r1
    exact formatField_int_small hi ⟨hl, hr pins _ σ H1 _ Q (I1.tok _) q⟩
theorem pe_fstr {e1 e2 : Expr} {es : List Expr} {pos : Pos} {t : TJ} (h : PJ X (e1 :: e2 :: es) t) : PE X (.JoinedStr (e1 :: e2 :: es) pos) (fun σ H Q => t σ H Str.empty Q) := by
  intro pins s σ H Q I hq
  exact JoinedStr_many (h pins s σ H Str.empty Q I hq)
end
end Kx
namespace Kx
open PySem PySem.Spec L2 PyProof.Rows PySem.W
section
variable {X : Cx}
/-- x in G, G a text of the module -/
theorem elt_in {x g : Str} {z : Str} {t0 : Tok} {p1 p2 p3 : Pos} {scope : Scope} (hgl : X.env.globals = mainGlobals) (hm : X.mg g = some (.str z t0)) (hkind : scope.kind = .function)
    (hx : scope.names.lookup x = some .local) (hg : scope.names.lookup g = some .globalImplicit) (hd1 : (x == ("__debug__" : Str)) = false) (hd2 : (g == ("__debug__" : Str)) = false) :
    EltOk X x (.Compare (.Name x p1) [.In] [.Name g p2] p3) scope (fun c => decide (c ∈ z.cps.toList)) := by
  intro ok A' E' cp t s2 C code m2 hA hn hmx hk
  refine wpAny_Compare1 ?_ rfl
  refine wpAny_Name (wpAny_loadName_local (env := genEnv scope [] C code builtinsNs X.env) hkind hx hn hmx ?_) hd1
  refine Calls.Name_function_global hkind hg (Calls.loadGlobal_global (by show s2.heap.Ns X.env.globals X.mg; rw [hgl]; exact ok.glob.keeps hk) hm ?_) hd2
  refine PyProof.Rows.in_str ⟨?_, s2.heap, s2.toks, rfl, fun _ _ e => e⟩
  rw [PySem.StrLaws.found_one z cp]
end
end Kx
namespace Kx
open PySem PySem.Spec L2 PyProof.Rows PySem.W
section
variable {P : Program} {w : World} {K : PySem.W.Frag} {mg : Str → Option Value} {base : Heap} {x qual : Str} {st : Stmt} {f : Addr} {fd : FuncData} {N ps : List Str} {k : Nat} {sp : Sp}
/-- a def whose code is known, out of which no exception comes -/
theorem Fun.okC {c : Addr} (F : Fun K x qual st f fd) (S : FnScope N ps (defScope st)) (hcd : fd.code = .ref c) (len : ∀ vs H Q E, sp vs H Q E → vs.length = ps.length)
    (hbody : ∀ (A : Around) (outer : List Env) (s : Shared) (H : Hp) (vs : List V) (Q : VK) (E : XK), Room k (A.deeper (envOfC qual (defScope st) s.heap.objs.size f (.ref c))) → sp vs H Q E →
      ∃ t, PSs (cxOf (CXE P w) P w K mg base N qual (defScope st) f (.ref c) A outer s H E).nox (defBody st) t ∧ t { nx := fun _ H' => Q .non H', rt := Q } (start N vs) H) : FnOk P w K mg base (CXE P w) (k + 1) f fd ps sp := by
  obtain ⟨oc, od, kV, doc, pm, an, cdv, ct, osl, rfl, lk, hc⟩ := F.ex
  obtain rfl : cdv = .ref c := hcd
  refine fn_of lk hc S len fun A outer s H vs Q E hr hsp => ?_
  obtain ⟨t, h, q⟩ := hbody A outer s H vs Q E hr hsp
  exact ⟨t, h.nox, q⟩
end
end Kx

set_option Elab.async false
set_option linter.all false
set_option maxRecDepth 100000
namespace Kx
open PySem PySem.NumText
/-! ### texts as lists of codes -/
def mkS (l : List Nat) : Str := ⟨l.toArray⟩
theorem tl_mk (l : List Nat) : (mkS l).cps.toList = l := by unfold mkS; simp
theorem len_mk (l : List Nat) : (mkS l).length = l.length := by unfold mkS Str.length; simp
theorem ext_mk {x : Str} {l : List Nat} (h : x.cps.toList = l) : x = mkS l := by
  obtain ⟨a⟩ := x
  unfold mkS
  rw [← h]
theorem app_mk (a b : List Nat) : mkS a ++ mkS b = mkS (a ++ b) := ext_mk (by
  show ((mkS a).cps ++ (mkS b).cps).toList = _
  rw [Array.toList_append, tl_mk, tl_mk])
theorem lj (D : List Nat) (h : D.length ≤ 12) : Txt.ljustF (mkS D) 12 48 = mkS (D ++ List.replicate (12 - D.length) 48) := by
  unfold Txt.ljustF
  by_cases c : (12 : Int) ≤ (mkS D).length
  · rw [if_pos c]
    rw [len_mk] at c
    have e : 12 - D.length = 0 := by omega
    rw [e, List.replicate_zero, List.append_nil]
  · rw [if_neg c]
    refine ext_mk ?_
    unfold Builtin.Str.padded
    show (Array.replicate 0 48 ++ (mkS D).cps ++ Array.replicate _ 48).toList = _
    rw [Array.toList_append, Array.toList_append, tl_mk, Array.toList_replicate, Array.toList_replicate, len_mk]
    rfl
theorem zf (l : List Nat) (h : l.length ≤ 12) (h0 : ∀ c r, l = c :: r → c ≠ 43 ∧ c ≠ 45) : Txt.zfill (mkS l) 12 = mkS (List.replicate (12 - l.length) 48 ++ l) := by
  unfold Txt.zfill
  by_cases c : (12 : Int) ≤ (mkS l).length
  · rw [if_pos c]
    rw [len_mk] at c
    have e : 12 - l.length = 0 := by omega
    rw [e, List.replicate_zero, List.nil_append]
  · rw [if_neg c]
    refine ext_mk ?_
    have e0 : (mkS l).cps[0]? = l[0]? := by unfold mkS; simp
    have pd : (Builtin.Str.padded (mkS l) ((12 : Int).toNat - (mkS l).length) 0 48).cps.toList = List.replicate (12 - l.length) 48 ++ l := by
      unfold Builtin.Str.padded
      show (Array.replicate _ 48 ++ (mkS l).cps ++ Array.replicate 0 48).toList = _
      rw [Array.toList_append, Array.toList_append, tl_mk, Array.toList_replicate, Array.toList_replicate, len_mk]
      simp
    unfold zfilled
    rw [e0]
    cases l with
    | nil => exact pd
    | cons a r =>
      have := h0 a r rfl
      show (match (some a : Option Nat) with | some 43 | some 45 => _ | _ => _ : Str).cps.toList = _
      split
      · rename_i e; cases e; exact absurd rfl this.1
      · rename_i e; cases e; exact absurd rfl this.2
      · exact pd
theorem one_cps (c : Nat) : (mkS [c]).cps = #[c] := rfl
theorem dash : (Str.ofString "-") = mkS [45] := by decide +kernel
theorem dot : (Str.ofString ".") = mkS [46] := by decide +kernel
theorem nought : (Str.ofString "0") = mkS [48] := by decide +kernel
theorem strip_take {p : Nat → Bool} (l : List Nat) : l.take (l.length - (l.reverse.takeWhile p).length) = (l.reverse.dropWhile p).reverse := by
  have e : l.reverse.takeWhile p ++ l.reverse.dropWhile p = l.reverse := List.takeWhile_append_dropWhile
  have e2 : l = (l.reverse.dropWhile p).reverse ++ (l.reverse.takeWhile p).reverse := by rw [← List.reverse_append, e, List.reverse_reverse]
  have e3 : (l.reverse.takeWhile p).length + (l.reverse.dropWhile p).length = l.length := by
    rw [← List.length_append, e, List.length_reverse]
  generalize l.reverse.takeWhile p = A at *
  generalize l.reverse.dropWhile p = B at *
  subst e2
  rw [List.take_append_of_le_length (by rw [List.length_reverse]; omega), List.take_of_length_le (by rw [List.length_reverse]; omega)]
theorem rs (l : List Nat) : Txt.rstripChars (mkS l) (Str.ofString "0") = mkS (l.reverse.dropWhile (· == 48)).reverse := by
  rw [nought]
  unfold Txt.rstripChars
  rw [PyProof.Rows.stripBy_eq]
  refine ext_mk ?_
  rw [StrLaws.strSub_toList, tl_mk]
  unfold stripLo stripHi
  rw [if_neg Bool.false_ne_true, if_pos rfl, List.drop_zero, tl_mk, List.drop_zero, Nat.sub_zero, len_mk]
  have e : (mkS [48]).cps.contains = fun c : Nat => c == 48 := by
    funext c
    rw [one_cps]
    simp [Array.contains, Bool.beq_comm]
  rw [e]
  exact strip_take l
theorem rp1 (r : List Nat) : Txt.removeprefix (mkS (45 :: r)) (Str.ofString "-") = mkS r := by
  rw [dash]
  unfold Txt.removeprefix
  have e : Builtin.Str.subAt (mkS (45 :: r)) (mkS [45]) 0 = true := by
    unfold Builtin.Str.subAt
    rw [one_cps]
    refine beq_iff_eq.mpr ?_
    refine Array.ext' ?_
    rw [Array.toList_extract, tl_mk]
    rfl
  rw [if_pos e]
  show (if ((mkS (45 :: r)).length - (mkS [45]).length == (mkS (45 :: r)).length) = true then mkS (45 :: r) else Builtin.Str.strSub (mkS (45 :: r)) (mkS [45]).length (mkS (45 :: r)).length) = mkS r
  rw [if_neg (by rw [len_mk, len_mk]; simp)]
  refine ext_mk ?_
  rw [StrLaws.strSub_toList, tl_mk, len_mk, len_mk]
  simp
theorem rp2 (l : List Nat) (h : ∀ r, l ≠ 45 :: r) : Txt.removeprefix (mkS l) (Str.ofString "-") = mkS l := by
  rw [dash]
  unfold Txt.removeprefix
  have e : ¬ Builtin.Str.subAt (mkS l) (mkS [45]) 0 = true := by
    unfold Builtin.Str.subAt
    rw [one_cps]
    intro z
    have z := congrArg Array.toList (beq_iff_eq.mp z)
    rw [Array.toList_extract, tl_mk] at z
    cases l with
    | nil => cases z
    | cons a r =>
      have : a = 45 := by
        have z2 : [a] = [45] := z
        cases z2
        rfl
      subst this
      exact h r rfl
  rw [if_neg e]
  rfl
theorem part1 (a b : List Nat) (h : 46 ∉ a) : Txt.partition (mkS (a ++ 46 :: b)) (Str.ofString ".") = (mkS a, (Str.ofString "."), mkS b) := by
  have e : mkS (a ++ 46 :: b) = mkS a ++ (Str.ofString ".") ++ mkS b := by rw [dot, app_mk, app_mk, List.append_assoc]; rfl
  rw [e]
  exact TL.partition_app (s := 46) (S := []) (by rw [dot]; rfl) (by show 46 ∉ (mkS a).cps.toList; rw [tl_mk]; exact h)
theorem part2 (a : List Nat) (h : 46 ∉ a) : Txt.partition (mkS a) (Str.ofString ".") = (mkS a, Str.empty, Str.empty) :=
  TL.partition_none (s := 46) (S := []) (by rw [dot]; rfl) (by show 46 ∉ (mkS a).cps.toList; rw [tl_mk]; exact h)
/-! ### figures and their worth -/
theorem dv_cons (c : Nat) (B : List Nat) : digitsVal (c :: B) = (c - 48) * 10 ^ B.length + digitsVal B := by
  have key : ∀ (B : List Nat) (a : Nat), B.foldl (fun acc c => acc * 10 + (c - 48)) a = a * 10 ^ B.length + B.foldl (fun acc c => acc * 10 + (c - 48)) 0 := by
    intro B
    induction B with
    | nil => intro a; simp
    | cons d B ih =>
      intro a
      rw [List.foldl_cons, ih, List.foldl_cons, ih (0 * 10 + (d - 48)), List.length_cons, Nat.pow_succ, Nat.add_mul]
      have e : a * 10 * 10 ^ B.length = a * (10 ^ B.length * 10) := by rw [Nat.mul_assoc, Nat.mul_comm 10]
      rw [e, Nat.zero_mul, Nat.zero_add, Nat.add_assoc]
  unfold digitsVal
  rw [List.foldl_cons, key, Nat.zero_mul, Nat.zero_add]
theorem dv_app (A B : List Nat) : digitsVal (A ++ B) = digitsVal A * 10 ^ B.length + digitsVal B := by
  induction A with
  | nil => simp [digitsVal]
  | cons c A ih =>
    rw [List.cons_append, dv_cons, ih, dv_cons, List.length_append, Nat.pow_add, Nat.add_mul, Nat.mul_assoc, Nat.add_assoc]
theorem dv_rep (n : Nat) : digitsVal (List.replicate n 48) = 0 := by
  induction n with
  | zero => rfl
  | succ n ih => rw [List.replicate_succ, dv_cons, ih]; simp
theorem dv_lt {l : List Nat} (h : AllDigits l) : digitsVal l < 10 ^ l.length := by
  induction l with
  | nil => decide
  | cons c B ih =>
    have h1 := h.head
    have h2 := ih h.tail
    rw [dv_cons, List.length_cons, Nat.pow_succ]
    have : (c - 48) * 10 ^ B.length ≤ 9 * 10 ^ B.length := Nat.mul_le_mul_right _ (by omega)
    omega
theorem map_back {l : List Nat} (h : AllDigits l) : (l.map Char.ofNat).map Char.toNat = l := by
  induction l with
  | nil => rfl
  | cons c B ih =>
    have h1 := h.head
    rw [List.map_cons, List.map_cons, ih h.tail]
    congr 1
    have : c = 48 ∨ c = 49 ∨ c = 50 ∨ c = 51 ∨ c = 52 ∨ c = 53 ∨ c = 54 ∨ c = 55 ∨ c = 56 ∨ c = 57 := by omega
    rcases this with rfl | rfl | rfl | rfl | rfl | rfl | rfl | rfl | rfl | rfl <;> rfl
/-- a whole number's text -/
theorem num_text {A : List Nat} (h : AllDigits A) (h1 : A ≠ []) (h2 : A = [48] ∨ ∀ r, A ≠ 48 :: r) : Str.ofString (toString ((digitsVal A : Nat) : Int)) = mkS A := by
  refine ext_mk ?_
  rw [W.KIN.signs_num, toDigits_all A h]
  rcases h2 with rfl | h2
  · rfl
  · cases A with
    | nil => exact absurd rfl h1
    | cons c r =>
      have hc : (c == 48) = false := by
        refine beq_eq_false_iff_ne.mpr fun z => ?_
        subst z
        exact h2 r rfl
      rw [List.dropWhile_cons, hc]
      exact map_back h
def padE (D : List Nat) : List Nat := D ++ List.replicate (12 - D.length) 48
theorem padE_len {D : List Nat} (h : D.length ≤ 12) : (padE D).length = 12 := by
  unfold padE
  rw [List.length_append, List.length_replicate]
  omega
theorem rep_digits (n : Nat) : AllDigits (List.replicate n 48) := fun c hc => by
  rw [(List.mem_replicate.mp hc).2]
  omega
theorem app_digits {A B : List Nat} (a : AllDigits A) (b : AllDigits B) : AllDigits (A ++ B) := fun c hc => (List.mem_append.mp hc).elim (a c) (b c)
theorem padE_digits {D : List Nat} (h : AllDigits D) : AllDigits (padE D) := app_digits h (rep_digits _)
theorem drop_rep {p : Nat → Bool} (hp : p 48 = true) (n : Nat) (l : List Nat) : (List.replicate n 48 ++ l).dropWhile p = l.dropWhile p := by
  induction n with
  | zero => rfl
  | succ n ih => rw [List.replicate_succ, List.cons_append, List.dropWhile_cons, hp]; exact ih
theorem take_is_rep (l : List Nat) : l.takeWhile (· == 48) = List.replicate (l.takeWhile (· == 48)).length 48 := by
  induction l with
  | nil => rfl
  | cons c r ih =>
    by_cases e : c = 48
    · subst e
      rw [List.takeWhile_cons]
      show 48 :: r.takeWhile (· == 48) = List.replicate (48 :: r.takeWhile (· == 48)).length 48
      rw [List.length_cons, List.replicate_succ, ← ih]
    · have : (c == 48) = false := beq_eq_false_iff_ne.mpr e
      rw [List.takeWhile_cons, this]
      rfl
/-- str(places).zfill(12).rstrip('0') -/
theorem behind_text {D : List Nat} (h : AllDigits D) (hl : D.length ≤ 12) (hz : ∀ r, D ≠ r ++ [48]) :
    ∃ s : List Nat, Str.ofString (toString ((digitsVal (padE D) : Nat) : Int)) = mkS s ∧ Txt.zfill (mkS s) 12 = mkS (padE D) ∧ Txt.rstripChars (mkS (padE D)) (Str.ofString "0") = mkS D := by
  have hE := padE_digits h
  have lE := padE_len hl
  have hs : (D.reverse.dropWhile (· == 48)) = D.reverse := by
    cases e : D.reverse with
    | nil => rfl
    | cons c r =>
      have e2 : D = r.reverse ++ [c] := by
        have := congrArg List.reverse e
        rw [List.reverse_reverse, List.reverse_cons] at this
        exact this
      have hc : (c == 48) = false := beq_eq_false_iff_ne.mpr fun z => by
        subst z
        exact hz _ e2
      rw [List.dropWhile_cons, hc]
      rfl
  have r3 : Txt.rstripChars (mkS (padE D)) (Str.ofString "0") = mkS D := by
    rw [rs]
    have : (padE D).reverse = List.replicate (12 - D.length) 48 ++ D.reverse := by
      unfold padE
      rw [List.reverse_append, List.reverse_replicate]
    rw [this, drop_rep rfl, hs, List.reverse_reverse]
  have eT := toDigits_all (padE D) hE
  cases ed : (padE D).dropWhile (· == 48) with
  | nil =>
    rw [ed] at eT
    refine ⟨[48], ext_mk (by rw [W.KIN.signs_num, eT]; rfl), ?_, r3⟩
    rw [zf [48] (by decide) (fun c r e => by cases e; decide)]
    have e1 := List.takeWhile_append_dropWhile (p := (· == 48)) (l := padE D)
    rw [ed, List.append_nil] at e1
    have e2 := take_is_rep (padE D)
    rw [e1, lE] at e2
    rw [e2]
    rfl
  | cons c r =>
    rw [ed] at eT
    have e1 := List.takeWhile_append_dropWhile (p := (· == 48)) (l := padE D)
    rw [ed] at e1
    have hd : AllDigits (c :: r) := fun x hx => hE x (by rw [← e1]; exact List.mem_append_right _ hx)
    refine ⟨c :: r, ext_mk (by rw [W.KIN.signs_num, eT]; exact map_back hd), ?_, r3⟩
    have l2 : ((padE D).takeWhile (· == 48)).length + (c :: r).length = 12 := by rw [← List.length_append, e1, lE]
    rw [zf (c :: r) (by omega) (fun c' r' e => by
      cases e
      have := hd.head
      omega)]
    have e2 := take_is_rep (padE D)
    have e3 : 12 - (c :: r).length = ((padE D).takeWhile (· == 48)).length := by omega
    rw [e3, ← e2, e1]
end Kx

set_option Elab.async false
set_option linter.all false
set_option maxRecDepth 100000
namespace Kx
open PySem PySem.NumText L2
theorem at_first {α : Type} {c : α} {r : List α} : atI (c :: r) 0 = some c := by
  unfold atI ixN
  rw [if_pos (by decide)]
  simp
theorem at_last {α : Type} {l : List α} (h : l ≠ []) : atI l (-1) = some (l.getLast h) := by
  have : 0 < l.length := List.length_pos_iff.mpr h
  unfold atI ixN
  rw [if_neg (by decide)]
  have e : ∀ n : Nat, 0 < n → ((-1 : Int) + (n : Int)).toNat = n - 1 := fun n hn => by omega
  simp only [List.getLast_eq_getElem]
  split
  · simp only [Option.bind_some]
    first
      | (rw [List.getElem?_eq_getElem (by omega)]; congr 2; omega)
      | (simp; omega)
  · omega
structure Num (neg : Bool) (A D : List Nat) : Prop where
  a : AllDigits A
  d : AllDigits D
  a0 : A ≠ []
  al : A.length ≤ 15
  dl : D.length ≤ 12
  az : A = [48] ∨ ∀ r, A ≠ 48 :: r
  dz : ∀ r, D ≠ r ++ [48]
  nz : neg = true → ¬ (A = [48] ∧ D = [])
def sgL (neg : Bool) : List Nat := if neg then [45] else []
def dotL (D : List Nat) : List Nat := match D with | [] => [] | _ :: _ => 46 :: D
def ptL (D : List Nat) : List Nat := match D with | [] => [] | _ :: _ => [46]
def txt (neg : Bool) (A D : List Nat) : List Nat := sgL neg ++ (A ++ dotL D)
def sgI (neg : Bool) : Int := if neg then -1 else 1
theorem no46 {A : List Nat} (h : AllDigits A) : 46 ∉ A := fun z => by have := h 46 z; omega
theorem no46s {A : List Nat} (neg : Bool) (h : AllDigits A) : 46 ∉ sgL neg ++ A := fun z => by
  rcases List.mem_append.mp z with y | y
  · cases neg
    · cases y
    · have : 46 ∈ [45] := y
      simp at this
  · exact no46 h y
theorem emp : Str.empty = mkS [] := rfl
theorem part_txt {A : List Nat} (a D : List Nat) (h : 46 ∉ a) : Txt.partition (mkS (a ++ dotL D)) (Str.ofString ".") = (mkS a, mkS (ptL D), mkS D) := by
  cases D with
  | nil =>
    show Txt.partition (mkS (a ++ [])) _ = _
    rw [List.append_nil, part2 a h]
    rfl
  | cons c r =>
    show Txt.partition (mkS (a ++ 46 :: (c :: r))) _ = _
    rw [part1 a (c :: r) h, dot]
    rfl
theorem rp_txt {neg : Bool} {A D : List Nat} (h : Num neg A D) : Txt.removeprefix (mkS (txt neg A D)) (Str.ofString "-") = mkS (A ++ dotL D) := by
  cases neg with
  | true => exact rp1 _
  | false =>
    refine rp2 (A ++ dotL D) fun r e => ?_
    cases hA : A with
    | nil => exact h.a0 hA
    | cons c q =>
      rw [hA] at e
      have := h.a c (by rw [hA]; simp)
      cases e
      omega
theorem len_txt {neg : Bool} {A D : List Nat} (h : Num neg A D) : (txt neg A D).length ≤ 29 := by
  unfold txt
  rw [List.length_append, List.length_append]
  have h1 : (sgL neg).length ≤ 1 := by cases neg <;> decide
  have h2 : (dotL D).length ≤ D.length + 1 := by cases D <;> simp [dotL]
  have := h.al
  have := h.dl
  omega
theorem dv_one (l : List Nat) (c : Nat) : digitsVal (l ++ [c]) = digitsVal l * 10 + (c - 48) := by
  rw [dv_app]
  simp [digitsVal]
theorem top_pos {A D : List Nat} (a : AllDigits A) (d : AllDigits D) (a0 : A ≠ []) (az : A = [48] ∨ ∀ r, A ≠ 48 :: r) (dz : ∀ r, D ≠ r ++ [48]) (h : ¬ (A = [48] ∧ D = [])) : 0 < digitsVal (A ++ D) := by
  rcases az with rfl | az
  · have hD : D ≠ [] := fun z => h ⟨rfl, z⟩
    have e := List.dropLast_concat_getLast hD
    have hc := d (D.getLast hD) (List.getLast_mem hD)
    have hne : D.getLast hD ≠ 48 := fun z => dz D.dropLast (by rw [← z, e])
    have e2 : [48] ++ D = ([48] ++ D.dropLast) ++ [D.getLast hD] := by rw [List.append_assoc, e]
    rw [e2, dv_one]
    omega
  · cases A with
    | nil => exact absurd rfl a0
    | cons c r =>
      have hc := a c (by simp)
      have hne : c ≠ 48 := fun z => az r (by rw [z])
      rw [List.cons_append, dv_cons]
      have : 0 < (c - 48) * 10 ^ (r ++ D).length := Nat.mul_pos (by omega) (Nat.pow_pos (by decide))
      omega
theorem dv_pad (A : List Nat) {D : List Nat} : digitsVal (A ++ padE D) = digitsVal (A ++ D) * 10 ^ (12 - D.length) := by
  unfold padE
  rw [← List.append_assoc, dv_app, dv_rep, List.length_replicate]
  rfl
theorem int_txt {neg : Bool} {A D : List Nat} (h : Num neg A D) : intText? (mkS (sgL neg ++ (A ++ padE D))) = some (sgI neg * ((digitsVal (A ++ padE D) : Nat) : Int)) := by
  have hd := app_digits h.a (padE_digits h.d)
  have hl : (A ++ padE D).length ≤ 27 := by
    have := h.al
    rw [List.length_append, padE_len h.dl]
    omega
  have hn : A ++ padE D ≠ [] := fun z => h.a0 (List.append_eq_nil_iff.mp z).1
  cases neg with
  | true =>
    have e := intText_neg (x := mkS (45 :: (A ++ padE D))) (cs := A ++ padE D) (tl_mk _) hd hn (by rw [len_mk, List.length_cons]; omega)
    refine e.trans ?_
    unfold sgI
    rw [if_pos rfl]
    congr 1
    omega
  | false =>
    have e := intText_digits (x := mkS (A ++ padE D)) (by rw [tl_mk]; exact hd) (by rw [tl_mk]; exact hn) (by rw [len_mk]; omega)
    rw [tl_mk] at e
    refine e.trans ?_
    unfold sgI
    rw [if_neg (by decide)]
    congr 1
    omega
theorem for_str {x : Str} {g : TG} {tb : TS} {D : Ends} {σ : St} {H : Hp} (Pv : Nat → St → Hp → Prop) (h0 : Pv 0 σ H)
    (hs : ∀ i c σ H, x.cps[i]? = some c → Pv i σ H → g (.str ⟨#[c]⟩) σ H fun σ2 H2 => tb { D with nx := Pv (i + 1), ct := Pv (i + 1), bk := D.nx } σ2 H2) (hd : ∀ σ H, Pv x.cps.size σ H → D.nx σ H) :
    ∃ W : Nat → Nat → St → Hp → Prop, (∃ m, W 0 m σ H) ∧ ∀ i m σ H, W i m σ H →
      ((Its x).stop i H ∧ D.nx σ H) ∨ ((Its x).go i H ∧ ∃ N : St → Hp → Prop, (∀ σ' H', N σ' H' → ∃ m', m' < m ∧ W (i + 1) m' σ' H') ∧ ∀ y H', (Its x).yld i H y H' → g y σ H' fun σ2 H2 => tb { D with nx := N, ct := N, bk := D.nx } σ2 H2) := by
  refine ⟨fun i m σ H => m = x.cps.size - i ∧ i ≤ x.cps.size ∧ Pv i σ H, ⟨x.cps.size, by simp, Nat.zero_le _, h0⟩, ?_⟩
  rintro i m σ H ⟨rfl, hi, hp⟩
  by_cases hlt : i < x.cps.size
  · refine .inr ⟨hlt, Pv (i + 1), fun σ' H' q => ⟨x.cps.size - (i + 1), by omega, rfl, by omega, q⟩, ?_⟩
    rintro y H' ⟨rfl, c, hc, rfl⟩
    exact hs i c σ _ hc hp
  · have e : i = x.cps.size := by omega
    subst e
    exact .inl ⟨Nat.le_refl _, hd σ H hp⟩
/-- the worth of a text, sign by sign -/
def wstep (s : Nat × Nat × Bool) (c : Nat) : Nat × Nat × Bool :=
  if c = 46 then (s.1, s.2.1, true) else if c = 45 then s else (10 * s.1 + (c - 48), if s.2.2 then 10 * s.2.1 else s.2.1, s.2.2)
theorem wdig {l : List Nat} (h : AllDigits l) : ∀ (t b : Nat) (f : Bool), l.foldl wstep (t, b, f) = (t * 10 ^ l.length + digitsVal l, if f then b * 10 ^ l.length else b, f) := by
  induction l with
  | nil => intro t b f; cases f <;> simp [digitsVal]
  | cons c r ih =>
    intro t b f
    have hc := h.head
    rw [List.foldl_cons]
    have e : wstep (t, b, f) c = (10 * t + (c - 48), if f then 10 * b else b, f) := by
      unfold wstep
      rw [if_neg (by omega), if_neg (by omega)]
    rw [e, ih h.tail, dv_cons, List.length_cons, Nat.pow_succ]
    have e1 : (10 * t + (c - 48)) * 10 ^ r.length + digitsVal r = t * (10 ^ r.length * 10) + ((c - 48) * 10 ^ r.length + digitsVal r) := by
      rw [Nat.add_mul, ← Nat.add_assoc]
      congr 2
      rw [Nat.mul_comm 10 t, Nat.mul_assoc, Nat.mul_comm 10]
    rw [e1]
    cases f with
    | false => rfl
    | true =>
      have : (10 * b) * 10 ^ r.length = b * (10 ^ r.length * 10) := by rw [Nat.mul_comm 10 b, Nat.mul_assoc, Nat.mul_comm 10]
      simp only [if_true, this]
theorem wtxt {neg : Bool} {A D : List Nat} (h : Num neg A D) : ∃ f, (txt neg A D).foldl wstep (0, 1, false) = (digitsVal (A ++ D), 10 ^ D.length, f) := by
  unfold txt
  rw [List.foldl_append, List.foldl_append]
  have e0 : (sgL neg).foldl wstep (0, 1, false) = (0, 1, false) := by cases neg <;> rfl
  rw [e0, wdig h.a, Nat.zero_mul, Nat.zero_add]
  cases D with
  | nil => exact ⟨false, by simp [dotL]⟩
  | cons c r =>
    refine ⟨true, ?_⟩
    show (46 :: (c :: r)).foldl wstep _ = _
    rw [List.foldl_cons]
    show (c :: r).foldl wstep (digitsVal A, 1, true) = _
    rw [wdig h.d, dv_app]
    simp
theorem occ_dig {c : Nat} (h : 48 ≤ c ∧ c ≤ 57) : Builtin.Str.occurrences (Str.ofString "0123456789") ⟨#[c]⟩ 0 (Str.ofString "0123456789").length 1 = [c - 48] := by
  have : c = 48 ∨ c = 49 ∨ c = 50 ∨ c = 51 ∨ c = 52 ∨ c = 53 ∨ c = 54 ∨ c = 55 ∨ c = 56 ∨ c = 57 := by omega
  rcases this with rfl | rfl | rfl | rfl | rfl | rfl | rfl | rfl | rfl | rfl <;> decide +kernel
end Kx

set_option Elab.async false
set_option linter.all false
set_option maxRecDepth 100000
namespace Kx
open PySem PySem.NumText L2
theorem join_mk (l : List Nat) : Txt.join (Str.ofString "") (l.map fun c => (⟨#[c]⟩ : Str)) = mkS l := by
  rw [show Str.ofString "" = mkS [] from by decide +kernel]
  rw [TL.join_eq]
  induction l with
  | nil => rfl
  | cons c r ih =>
    cases r with
    | nil => rfl
    | cons d q =>
      show mkS [c] ++ mkS [] ++ Str.join (mkS []) ((d :: q).map fun c => (⟨#[c]⟩ : Str)) = _
      rw [ih, app_mk, app_mk]
      rfl
theorem at_dig {v : Int} (h0 : 0 ≤ v) (h1 : v < 10) : ∃ c, atI (Str.ofString "0123456789").cps.toList v = some c ∧ 48 ≤ c ∧ c ≤ 57 := by
  have : v = 0 ∨ v = 1 ∨ v = 2 ∨ v = 3 ∨ v = 4 ∨ v = 5 ∨ v = 6 ∨ v = 7 ∨ v = 8 ∨ v = 9 := by omega
  rcases this with rfl | rfl | rfl | rfl | rfl | rfl | rfl | rfl | rfl | rfl
  · exact ⟨48, by decide +kernel, by decide, by decide⟩
  · exact ⟨49, by decide +kernel, by decide, by decide⟩
  · exact ⟨50, by decide +kernel, by decide, by decide⟩
  · exact ⟨51, by decide +kernel, by decide, by decide⟩
  · exact ⟨52, by decide +kernel, by decide, by decide⟩
  · exact ⟨53, by decide +kernel, by decide, by decide⟩
  · exact ⟨54, by decide +kernel, by decide, by decide⟩
  · exact ⟨55, by decide +kernel, by decide, by decide⟩
  · exact ⟨56, by decide +kernel, by decide, by decide⟩
  · exact ⟨57, by decide +kernel, by decide, by decide⟩
theorem at_dig9 {v : Int} (h0 : 0 ≤ v) (h1 : v < 9) : ∃ c, atI (Str.ofString "123456789").cps.toList v = some c ∧ 49 ≤ c ∧ c ≤ 57 := by
  have : v = 0 ∨ v = 1 ∨ v = 2 ∨ v = 3 ∨ v = 4 ∨ v = 5 ∨ v = 6 ∨ v = 7 ∨ v = 8 := by omega
  rcases this with rfl | rfl | rfl | rfl | rfl | rfl | rfl | rfl | rfl
  · exact ⟨49, by decide +kernel, by decide, by decide⟩
  · exact ⟨50, by decide +kernel, by decide, by decide⟩
  · exact ⟨51, by decide +kernel, by decide, by decide⟩
  · exact ⟨52, by decide +kernel, by decide, by decide⟩
  · exact ⟨53, by decide +kernel, by decide, by decide⟩
  · exact ⟨54, by decide +kernel, by decide, by decide⟩
  · exact ⟨55, by decide +kernel, by decide, by decide⟩
  · exact ⟨56, by decide +kernel, by decide, by decide⟩
  · exact ⟨57, by decide +kernel, by decide, by decide⟩
theorem cut1 (c : Nat) (r : List Nat) : cutS (mkS (c :: r)) (some 1) none = mkS r := by
  unfold cutS
  refine ext_mk ?_
  rw [tl_mk, len_mk]
  have e : HT.sIx (c :: r).length 0 (some 1) = 1 := by
    have := HT.sIx_nat (c :: r).length 0 1
    rw [List.length_cons] at this ⊢
    refine this.trans ?_
    omega
  rw [e]
  show (List.drop 1 (c :: r)).take ((c :: r).length - 1) = r
  simp
theorem map_len1 (l : List Nat) : ((l.map fun c => (⟨#[c]⟩ : Str)).map (·.length)).sum = l.length := by
  induction l with
  | nil => rfl
  | cons c r ih =>
    rw [List.map_cons, List.map_cons, List.sum_cons, ih, List.length_cons]
    show 1 + _ = _
    omega
end Kx

set_option Elab.async false
set_option linter.all false
set_option maxRecDepth 100000
namespace Kx
open PySem PySem.NumText L2
/-! is a text a number? the program's look, and another one, by lists of code points -/
def isFig (c : Nat) : Bool := decide (c ∈ (Str.ofString "0123456789").cps.toList)
def figsOk (z : Str) (m : Int) : Bool := decide ((1 : Int) ≤ (z.length : Int)) && (decide ((z.length : Int) ≤ m) && z.cps.toList.all isFig)
def aheadS (z : Str) : Bool := figsOk z 15 && (decide (z = Str.ofString "0") || decide (z.cps.toList.head? ≠ some 48))
def behindS (z : Str) : Bool := figsOk z 12 && decide (z.cps.toList.getLast? ≠ some 48)
def partS (z : Str) : Str × Str × Str := Txt.partition (Txt.removeprefix z (Str.ofString "-")) (Str.ofString ".")
def numS (z : Str) : Bool := !decide (z = Str.ofString "-0") && (aheadS (partS z).1 && (decide ((partS z).2.1 = Str.ofString "") || behindS (partS z).2.2))
theorem mk_inj {a b : List Nat} (h : mkS a = mkS b) : a = b := by
  have := congrArg (fun s : Str => s.cps.toList) h
  simpa only [tl_mk] using this
theorem mk_iff {a b : List Nat} : mkS a = mkS b ↔ a = b := ⟨mk_inj, fun h => by rw [h]⟩
theorem minus0 : Str.ofString "-0" = mkS [45, 48] := by decide +kernel
theorem noneS : Str.ofString "" = mkS [] := by decide +kernel
def restL : List Nat → List Nat
  | [] => []
  | c :: r => if c = 45 then r else c :: r
theorem rp_rest (l : List Nat) : Txt.removeprefix (mkS l) (Str.ofString "-") = mkS (restL l) := by
  cases l with
  | nil => exact rp2 [] (fun r h => by cases h)
  | cons c r =>
    show _ = mkS (if c = 45 then r else c :: r)
    by_cases h : c = 45
    · rw [if_pos h, h]
      exact rp1 r
    · rw [if_neg h]
      exact rp2 (c :: r) (fun q z => by cases z; exact h rfl)
def aheadL (a : List Nat) : Bool := decide (1 ≤ a.length) && (decide (a.length ≤ 15) && a.all isFig) && (decide (a = [48]) || decide (a.head? ≠ some 48))
def behindL (b : List Nat) : Bool := decide (1 ≤ b.length) && (decide (b.length ≤ 12) && b.all isFig) && decide (b.getLast? ≠ some 48)
theorem dl1 (n : Nat) : decide ((1 : Int) ≤ (n : Int)) = decide (1 ≤ n) := decide_eq_decide.mpr (by omega)
theorem dl2 (n m : Nat) : decide ((n : Int) ≤ (m : Int)) = decide (n ≤ m) := decide_eq_decide.mpr (by omega)
theorem dmk (a b : List Nat) : decide (mkS a = mkS b) = decide (a = b) := decide_eq_decide.mpr mk_iff
theorem ahead_mk (a : List Nat) : aheadS (mkS a) = aheadL a := by
  unfold aheadS aheadL figsOk
  rw [len_mk, tl_mk, nought, dl1, dmk]
  rw [show decide ((a.length : Int) ≤ 15) = decide (a.length ≤ 15) from dl2 _ 15]
theorem behind_mk (b : List Nat) : behindS (mkS b) = behindL b := by
  unfold behindS behindL figsOk
  rw [len_mk, tl_mk, dl1]
  rw [show decide ((b.length : Int) ≤ 12) = decide (b.length ≤ 12) from dl2 _ 12]
/-- the first point parts -/
theorem split46 (l : List Nat) : (46 ∉ l) ∨ ∃ a b, l = a ++ 46 :: b ∧ 46 ∉ a := by
  induction l with
  | nil => exact .inl (by simp)
  | cons c r ih =>
    by_cases h : c = 46
    · exact .inr ⟨[], r, by rw [h]; rfl, by simp⟩
    · rcases ih with ih | ⟨a, b, e, n⟩
      · exact .inl (by simp [ih, Ne.symm h])
      · exact .inr ⟨c :: a, b, by rw [e]; rfl, by simp [n, Ne.symm h]⟩
theorem num_no {l : List Nat} (h : 46 ∉ restL l) : numS (mkS l) = (!decide (l = [45, 48]) && aheadL (restL l)) := by
  unfold numS partS
  rw [rp_rest, part2 _ h, minus0]
  show (!decide (mkS l = mkS [45, 48]) && (aheadS (mkS (restL l)) && (decide (Str.empty = Str.ofString "") || behindS Str.empty))) = _
  rw [show decide (Str.empty = Str.ofString "") = true from by decide +kernel, Bool.true_or, Bool.and_true, ahead_mk, dmk]
theorem num_pt {l a b : List Nat} (e : restL l = a ++ 46 :: b) (h : 46 ∉ a) : numS (mkS l) = (!decide (l = [45, 48]) && (aheadL a && behindL b)) := by
  unfold numS partS
  rw [rp_rest, e, part1 _ _ h, minus0]
  show (!decide (mkS l = mkS [45, 48]) && (aheadS (mkS a) && (decide (Str.ofString "." = Str.ofString "") || behindS (mkS b)))) = _
  rw [show decide (Str.ofString "." = Str.ofString "") = false from by decide +kernel, Bool.false_or, ahead_mk, behind_mk, dmk]
/-- the other look: all signs figures or points, at most one point, not -0; then the parts -/
def lookL (l : List Nat) : Bool :=
  if 0 < ((restL l).filter fun c => !(isFig c || c == 46)).length ∨ 1 < (restL l).count 46 ∨ l = [45, 48] then false
  else
    let f := if 46 ∈ restL l then (restL l).takeWhile (· != 46) else restL l
    let s := if 46 ∈ restL l then ((restL l).dropWhile (· != 46)).tail else [49]
    if f = [] ∨ s = [] ∨ 15 < f.length ∨ 12 < s.length then false
    else (decide (f = [48]) || decide (f.head? ≠ some 48)) && decide (s.getLast? ≠ some 48)
theorem fig46 : isFig 46 = false := by decide +kernel
theorem tw {a b : List Nat} (h : 46 ∉ a) : (a ++ 46 :: b).takeWhile (· != 46) = a ∧ (a ++ 46 :: b).dropWhile (· != 46) = 46 :: b := by
  induction a with
  | nil => exact ⟨rfl, rfl⟩
  | cons c r ih =>
    have hc : (c != 46) = true := by
      have : c ≠ 46 := fun z => h (by rw [z]; simp)
      simp [this]
    have := ih (fun z => h (List.mem_cons_of_mem _ z))
    simp only [List.cons_append, List.takeWhile_cons, List.dropWhile_cons, hc, if_true]
    exact ⟨by rw [this.1], this.2⟩
theorem bad_iff {l : List Nat} : (l.filter fun c => !(isFig c || c == 46)).length = 0 ↔ ∀ c ∈ l, isFig c = true ∨ c = 46 := by
  rw [List.length_eq_zero_iff, List.filter_eq_nil_iff]
  constructor
  · intro h c hc
    have := h c hc
    simp only [Bool.not_eq_true, Bool.not_eq_false', Bool.or_eq_true, beq_iff_eq] at this
    exact this
  · intro h c hc
    rcases h c hc with z | z
    · simp [z]
    · simp [z]
theorem look_num (l : List Nat) : numS (mkS l) = lookL l := by
  by_cases m0 : l = [45, 48]
  · subst m0
    decide +kernel
  unfold lookL
  rcases split46 (restL l) with h | ⟨a, b, e, h⟩
  · rw [num_no h, decide_eq_false m0, if_neg h, if_neg h]
    have c0 : (restL l).count 46 = 0 := List.count_eq_zero.mpr h
    rw [c0]
    generalize restL l = r at *
    by_cases all : r.all isFig = true
    · have g : (r.filter fun c => !(isFig c || c == 46)).length = 0 := bad_iff.mpr fun c hc => .inl (List.all_eq_true.mp all c hc)
      rw [g, if_neg (by rintro (z | z | z); exact absurd z (by decide); exact absurd z (by decide); exact m0 z)]
      unfold aheadL
      rw [all]
      cases r with
      | nil => rfl
      | cons x y =>
        by_cases s : 15 < (x :: y).length
        · rw [if_pos (by right; right; left; exact s), decide_eq_false (show ¬ (x :: y).length ≤ 15 by omega)]
          simp
        · rw [if_neg (by rintro (z | z | z | z); cases z; cases z; omega; revert z; decide), decide_eq_true (show (x :: y).length ≤ 15 by omega)]
          simp
    · have g : 0 < (r.filter fun c => !(isFig c || c == 46)).length := by
        rcases Nat.eq_zero_or_pos (r.filter fun c => !(isFig c || c == 46)).length with z | z
        · exfalso
          refine all (List.all_eq_true.mpr fun c hc => ?_)
          rcases bad_iff.mp z c hc with y | y
          · exact y
          · rw [y] at hc
            exact absurd hc h
        · exact z
      rw [if_pos (.inl g)]
      unfold aheadL
      rw [(Bool.not_eq_true _).mp all]
      simp
  · have hm : 46 ∈ restL l := by rw [e]; simp
    obtain ⟨t1, t2⟩ := tw (b := b) h
    rw [num_pt e h, decide_eq_false m0, if_pos hm, if_pos hm, e, t1, t2]
    have cnt : (a ++ 46 :: b).count 46 = 1 + b.count 46 := by
      rw [List.count_append, List.count_cons_self, List.count_eq_zero.mpr h]
      omega
    rw [cnt, List.tail_cons]
    by_cases ok : a.all isFig = true ∧ b.all isFig = true
    · have hb : 46 ∉ b := fun z => by
        have := List.all_eq_true.mp ok.2 46 z
        rw [fig46] at this
        cases this
      have g : ((a ++ 46 :: b).filter fun c => !(isFig c || c == 46)).length = 0 := bad_iff.mpr fun c hc => by
        rcases List.mem_append.mp hc with y | y
        · exact .inl (List.all_eq_true.mp ok.1 c y)
        · rcases List.mem_cons.mp y with z | z
          · exact .inr z
          · exact .inl (List.all_eq_true.mp ok.2 c z)
      rw [g, List.count_eq_zero.mpr hb, if_neg (by rintro (z | z | z); exact absurd z (by decide); exact absurd z (by decide); exact m0 z)]
      unfold aheadL behindL
      rw [ok.1, ok.2]
      cases a with
      | nil => simp
      | cons x y =>
        cases b with
        | nil => simp
        | cons x2 y2 =>
          by_cases s1 : 15 < (x :: y).length
          · rw [if_pos (by right; right; left; exact s1), decide_eq_false (show ¬ (x :: y).length ≤ 15 by omega)]
            simp
          · by_cases s2 : 12 < (x2 :: y2).length
            · rw [if_pos (by right; right; right; exact s2), decide_eq_false (show ¬ (x2 :: y2).length ≤ 12 by omega)]
              simp
            · rw [if_neg (by rintro (z | z | z | z); cases z; cases z; omega; omega), decide_eq_true (show (x :: y).length ≤ 15 by omega), decide_eq_true (show (x2 :: y2).length ≤ 12 by omega)]
              simp
    · have hf : (aheadL a && behindL b) = false := by
        unfold aheadL behindL
        by_cases oa : a.all isFig = true
        · have ob : b.all isFig = false := (Bool.not_eq_true _).mp fun z => ok ⟨oa, z⟩
          rw [ob]
          simp
        · rw [(Bool.not_eq_true _).mp oa]
          simp
      rw [hf, if_pos]
      · simp
      · by_cases hb : 46 ∈ b
        · right; left
          have := List.count_pos_iff.mpr hb
          omega
        · left
          rcases Nat.eq_zero_or_pos ((a ++ 46 :: b).filter fun c => !(isFig c || c == 46)).length with z | z
          · exfalso
            have al := bad_iff.mp z
            refine ok ⟨List.all_eq_true.mpr fun c hc => ?_, List.all_eq_true.mpr fun c hc => ?_⟩
            · rcases al c (List.mem_append_left _ hc) with y | y
              · exact y
              · rw [y] at hc
                exact absurd hc h
            · rcases al c (List.mem_append_right _ (List.mem_cons_of_mem _ hc)) with y | y
              · exact y
              · rw [y] at hc
                exact absurd hc hb
          · exact z
/-- a comprehension over a text -/
theorem lc_str {x : Str} {g : TG} {tt : TT} {te : TE} {vs : List Nat} {σ : St} {H1 : Hp} {D : Addr} {Qd : Hp → Prop} (Pv : Nat → Hp → Prop) (h0 : Pv 0 (upd H1 D (.lst [])))
    (hs : ∀ i c H, x.cps[i]? = some c → Pv i H → g (.str ⟨#[c]⟩) (wipe σ vs) H fun σ2 H2 => wipe σ2 vs = wipe σ vs ∧ tt σ2 H2 fun b H3 =>
      if b = true then te σ2 H3 fun y H4 => ∃ acc, H4 D = some (.lst acc) ∧ acc.length < sizeLine ∧ Pv (i + 1) (upd H4 D (.lst (acc ++ [y]))) else Pv (i + 1) H3) (hd : ∀ H, Pv x.cps.size H → Qd H) :
    ∃ W : Nat → Nat → Hp → Prop, (∃ m, W 0 m (upd H1 D (.lst []))) ∧ ∀ i m H, W i m H →
      ((Its x).stop i H ∧ Qd H) ∨ ((Its x).go i H ∧ ∃ Nx : Hp → Prop, (∀ H', Nx H' → ∃ m', m' < m ∧ W (i + 1) m' H') ∧ ∀ y H', (Its x).yld i H y H' → g y (wipe σ vs) H' fun σ2 H2 => wipe σ2 vs = wipe σ vs ∧ tt σ2 H2 fun b H3 =>
        if b = true then te σ2 H3 fun y H4 => ∃ acc, H4 D = some (.lst acc) ∧ acc.length < sizeLine ∧ Nx (upd H4 D (.lst (acc ++ [y]))) else Nx H3) := by
  refine ⟨fun i m H => m = x.cps.size - i ∧ i ≤ x.cps.size ∧ Pv i H, ⟨x.cps.size, by simp, Nat.zero_le _, h0⟩, ?_⟩
  rintro i m H ⟨rfl, hi, hp⟩
  by_cases hlt : i < x.cps.size
  · refine .inr ⟨hlt, Pv (i + 1), fun H' q => ⟨x.cps.size - (i + 1), by omega, rfl, by omega, q⟩, ?_⟩
    rintro y H' ⟨rfl, c, hc, rfl⟩
    exact hs i c _ hc hp
  · have e : i = x.cps.size := by omega
    subst e
    exact .inl ⟨Nat.le_refl _, hd H hp⟩
end Kx

set_option Elab.async false
set_option linter.all false
set_option maxRecDepth 100000
namespace Kx
open PySem PySem.Spec L2 PyProof.Rows PySem.W
section
variable {X : Cx} {pos : Pos}
/-- x = y = value -/
theorem ps_two {i j : Nat} {x y : Str} {e : Expr} {te : TE} {px py : Pos} (hN : X.N.Nodup) (hi : X.N[i]? = some x) (hj : X.N[j]? = some y) (hx : Loc X.env.scope x) (hy : Loc X.env.scope y) (he : PE X e te)
    (hw : swappedStores [.Name x px, .Name y py] e X.env = pure none := by rfl) (hf : X.fn x = true ∨ X.env.scope.names.lookup x = some .local := by first | exact .inl rfl | exact .inr rfl | assumption)
    (hg : X.fn y = true ∨ X.env.scope.names.lookup y = some .local := by first | exact .inl rfl | exact .inr rfl | assumption) :
    PS X (.Assign [.Name x px, .Name y py] e pos) (fun D σ H => te σ H fun v H1 => D.nx ((σ.set i (some v)).set j (some v)) H1) := by
  intro pins s σ H D I h
  refine wpAny_Assign_two (thn (he pins s σ H _ I h) fun v s1 ⟨z, H1, I1, r1, q1⟩ => ?_) rfl hw
  refine wpAny_assign_Name (store_ok I1 hN hi hx r1 (fun s2 I2 => ?_) hf)
  exact wpAny_assign_Name (store_ok I2 hN hj hy r1 (fun s3 I3 => ⟨_, H1, I3, q1⟩) hg)
def ipM (c : Int → Int → Prop) (f : Int → Int → Int) : TIp := fun x y H Q => ∃ i j, x = .int i ∧ y = .int j ∧ c i j ∧ Q (.int (f i j)) H
theorem ip_mulB : PIp X .Mult (ipM CMulB fun i j => i * j) := by
  intro pins s σ H x y v u Q I r1 r2 h
  obtain ⟨i, j, e1, e2, c, q⟩ := h
  subst e1; subst e2
  obtain ⟨t, rfl⟩ := r1
  obtain ⟨t', rfl⟩ := r2
  exact imul_int ⟨.int _, H, I.tok _, ⟨_, rfl⟩, q⟩ c.ok
theorem ix_tupK {K : PySem.W.Frag} (h : X.K = K) : IxR X (rIxT K) := h ▸ ix_tup
/-- x in a list of data -/
def rInD (K : PySem.W.Frag) : R2 := fun x y H Q => ∃ d ds, Dp K H x d ∧ Dp K H y (.list ds) ∧ d.canLay0 = true ∧ PyData.canLayAll0 ds = true ∧ d.depth ≤ 60 ∧ Q (.bl (ds.any fun e => PyData.eqv e d)) H
theorem op_inD (hu : X.A.units + 64 < cLine) : OpR X (compareOp .In) (rInD X.K) := by
  intro pins s σ H x y v u Q I rx ry h
  obtain ⟨d, ds, hd, he, cd, ce, dd, q⟩ := h
  obtain ⟨as, r1⟩ := Dp.reads I d x v hd rx
  obtain ⟨bs, r2⟩ := Dp.reads I (.list ds) y u he ry
  refine SeqAt.in_list_reads r2 r1 ce cd ?_ ⟨.bl _, H, I, rfl, q⟩
  have := Nat.min_le_right (PyData.depthAll ds) d.depth
  omega
end
/-! lowest terms -/
def lowG (t b : Int) : Int := if b < 0 then -((Int.gcd t b : Nat) : Int) else ((Int.gcd t b : Nat) : Int)
def lowT (t b : Int) : Int := t.fdiv (lowG t b)
def lowB (t b : Int) : Int := b.fdiv (lowG t b)
theorem lowG_pos {t b : Int} (hb : 0 < b) : lowG t b = ((Int.gcd t b : Nat) : Int) ∧ 0 < ((Int.gcd t b : Nat) : Int) := by
  have gp : 0 < Int.gcd t b := Int.gcd_pos_of_ne_zero_right t (by omega)
  exact ⟨by unfold lowG; rw [if_neg (by omega)], by omega⟩
theorem low_mul {t b : Int} (hb : 0 < b) : ∃ g : Int, 0 < g ∧ t = g * lowT t b ∧ b = g * lowB t b := by
  obtain ⟨hG, gp⟩ := lowG_pos (t := t) hb
  refine ⟨((Int.gcd t b : Nat) : Int), gp, ?_, ?_⟩
  · unfold lowT
    rw [hG, Int.fdiv_eq_ediv_of_nonneg _ (by omega)]
    exact (Int.mul_ediv_cancel' (Int.gcd_dvd_left t b)).symm
  · unfold lowB
    rw [hG, Int.fdiv_eq_ediv_of_nonneg _ (by omega)]
    exact (Int.mul_ediv_cancel' (Int.gcd_dvd_right t b)).symm
theorem low_scale {t b m : Int} (hb : 0 < b) (hm : 0 < m) : lowT (t * m) (b * m) = lowT t b ∧ lowB (t * m) (b * m) = lowB t b := by
  obtain ⟨hG, gp⟩ := lowG_pos (t := t) hb
  have hbm : 0 < b * m := Int.mul_pos hb hm
  have hG2 : lowG (t * m) (b * m) = ((Int.gcd t b : Nat) : Int) * m := by
    unfold lowG
    rw [if_neg (by omega), Int.gcd_mul_right, Int.natCast_mul, Int.natAbs_of_nonneg (by omega)]
  have hp2 : 0 ≤ ((Int.gcd t b : Nat) : Int) * m := Int.le_of_lt (Int.mul_pos (by omega) hm)
  unfold lowT lowB
  rw [hG, hG2, Int.fdiv_eq_ediv_of_nonneg _ hp2, Int.fdiv_eq_ediv_of_nonneg _ hp2, Int.fdiv_eq_ediv_of_nonneg _ (by omega), Int.fdiv_eq_ediv_of_nonneg _ (by omega)]
  exact ⟨Int.mul_ediv_mul_of_pos_left _ _ hm, Int.mul_ediv_mul_of_pos_left _ _ hm⟩
theorem low_pos {t b : Int} (hb : 0 < b) : 1 ≤ lowB t b ∧ lowB t b ≤ b ∧ (lowT t b).natAbs ≤ t.natAbs := by
  obtain ⟨g, g0, et, eb⟩ := low_mul (t := t) hb
  have b0 : 0 < lowB t b := by
    rcases Int.lt_or_le 0 (lowB t b) with h | h
    · exact h
    · have : g * lowB t b ≤ 0 := Int.mul_nonpos_of_nonneg_of_nonpos (by omega) h
      omega
  refine ⟨by omega, ?_, ?_⟩
  · have : 1 * lowB t b ≤ g * lowB t b := Int.mul_le_mul_of_nonneg_right (by omega) (by omega)
    omega
  · have e := congrArg Int.natAbs et
    rw [Int.natAbs_mul] at e
    rw [e]
    exact Nat.le_mul_of_pos_left _ (by omega)
theorem low_cross {t b c d : Int} (hb : 0 < b) (hd : 0 < d) (h : t * d = c * b) : lowT t b = lowT c d ∧ lowB t b = lowB c d := by
  have h1 := low_scale (t := t) hb hd
  have h2 := low_scale (t := c) hd hb
  rw [h, Int.mul_comm b d] at h1
  exact ⟨h1.1.symm.trans h2.1, h1.2.symm.trans h2.2⟩
/-- in lowest terms -/
def Lw (t b : Int) : Prop := 0 < b ∧ lowT t b = t ∧ lowB t b = b
theorem lw_low {t b : Int} (hb : 0 < b) : Lw (lowT t b) (lowB t b) := by
  obtain ⟨g, g0, et, eb⟩ := low_mul (t := t) hb
  have p := low_pos (t := t) hb
  have h := low_scale (t := lowT t b) (b := lowB t b) (m := g) (by omega) g0
  rw [Int.mul_comm _ g, Int.mul_comm _ g, ← et, ← eb] at h
  exact ⟨by omega, h.1.symm, h.2.symm⟩
theorem low_iff {t b c d : Int} (h : Lw t b) (hd : 0 < d) : (lowT c d = t ∧ lowB c d = b) ↔ c * b = t * d := by
  constructor
  · rintro ⟨e1, e2⟩
    obtain ⟨g, g0, ec, ed⟩ := low_mul (t := c) hd
    rw [e1] at ec
    rw [e2] at ed
    rw [ec, ed, Int.mul_assoc]
    exact Int.mul_left_comm g t b
  · intro e
    have := low_cross hd h.1 e
    exact ⟨this.1.trans h.2.1, this.2.trans h.2.2⟩
theorem low_less {x y t b : Int} (hy : 0 < y) : (lowT x y * b < t * lowB x y) ↔ x * b < t * y := by
  obtain ⟨g, g0, ex, ey⟩ := low_mul (t := x) hy
  have e1 : x * b = g * (lowT x y * b) := by
    conv => lhs; rw [ex]
    rw [Int.mul_assoc]
  have e2 : t * y = g * (t * lowB x y) := by
    conv => lhs; rw [ey]
    rw [Int.mul_left_comm]
  rw [e1, e2]
  exact ⟨fun h => Int.mul_lt_mul_of_pos_left h g0, fun h => Int.lt_of_mul_lt_mul_left h (by omega)⟩
theorem low_one (x : Int) : lowT x 1 = x ∧ lowB x 1 = 1 := by
  have hG : lowG x 1 = 1 := by unfold lowG; rw [if_neg (by decide)]; simp
  unfold lowT lowB
  rw [hG, Int.fdiv_one, Int.fdiv_one]
  exact ⟨rfl, rfl⟩
/-! the round ones, in units of a small power of ten -/
def R (j : Nat) : Int := (if j % 3 = 0 then 1 else if j % 3 = 1 then 2 else 5) * 10 ^ (j / 3)
theorem R0 (q : Nat) : R (3 * q) = 1 * 10 ^ q := by
  unfold R
  rw [if_pos (by omega), show 3 * q / 3 = q by omega]
theorem R1 (q : Nat) : R (3 * q + 1) = 2 * 10 ^ q := by
  unfold R
  rw [if_neg (by omega), if_pos (by omega), show (3 * q + 1) / 3 = q by omega]
theorem R2 (q : Nat) : R (3 * q + 2) = 5 * 10 ^ q := by
  unfold R
  rw [if_neg (by omega), if_neg (by omega), show (3 * q + 2) / 3 = q by omega]
theorem R3 (q : Nat) : R (3 * q + 3) = 10 * 10 ^ q := by
  rw [show 3 * q + 3 = 3 * (q + 1) by omega, R0, Int.pow_succ]
  omega
theorem ten_pos (n : Nat) : (0 : Int) < 10 ^ n := Int.pow_pos (by decide)
theorem R_pos (j : Nat) : 0 < R j := by
  unfold R
  refine Int.mul_pos ?_ (ten_pos _)
  split
  · decide
  · split <;> decide
theorem R_dbl (j : Nat) : R j < 2 * R j ∧ 2 * R j ≤ R (j + 1) := by
  have p := R_pos j
  refine ⟨by omega, ?_⟩
  have t := ten_pos (j / 3)
  rcases (by omega : j = 3 * (j / 3) ∨ j = 3 * (j / 3) + 1 ∨ j = 3 * (j / 3) + 2) with h | h | h
  · rw [h, R0, R1]; omega
  · rw [h, R1, show 3 * (j / 3) + 1 + 1 = 3 * (j / 3) + 2 by omega, R2]; omega
  · rw [h, R2, show 3 * (j / 3) + 2 + 1 = 3 * (j / 3) + 3 by omega, R3]; omega
theorem R_lt {i j : Nat} (h : i < j) : R i < R j := by
  induction j with
  | zero => omega
  | succ j ih =>
    have := R_dbl j
    rcases Nat.lt_or_ge i j with c | c
    · have := ih c
      omega
    · rw [show i = j by omega]
      omega
theorem R_le {i j : Nat} (h : i ≤ j) : R i ≤ R j := by
  rcases Nat.lt_or_ge i j with c | c
  · exact Int.le_of_lt (R_lt c)
  · rw [show i = j by omega]
    exact Int.le_refl _
/-- R j is the least that isn't less -/
def Nx (L : Nat) (t b : Int) (j : Nat) : Prop := t * 10 ^ L ≤ R j * b ∧ ∀ i, i < j → R i * b < t * 10 ^ L
theorem Nx.uniq {L : Nat} {t b : Int} {i j : Nat} (h : Nx L t b i) (h' : Nx L t b j) : i = j := by
  rcases Nat.lt_trichotomy i j with c | c | c
  · have := h'.2 i c
    have := h.1
    omega
  · exact c
  · have := h.2 j c
    have := h'.1
    omega
theorem Nx.eq_iff {L : Nat} {t b : Int} {i j : Nat} (hb : 0 < b) (h : Nx L t b j) : R i * b = t * 10 ^ L → i = j := fun e => by
  rcases Nat.lt_trichotomy i j with c | c | c
  · have := h.2 i c
    omega
  · exact c
  · have := Int.mul_lt_mul_of_pos_right (R_lt c) hb
    have := h.1
    omega
theorem Nx.lt {L : Nat} {t b : Int} {j n : Nat} (h : Nx L t b j) (hn : t * 10 ^ L ≤ R n * b) : j ≤ n := by
  rcases Nat.lt_or_ge n j with c | c
  · have := h.2 n c
    omega
  · exact c
theorem nr_ix {t b : Int} {m n L : Nat} (ht : 0 < t) (hb : 0 < b) (h0 : m = 0 ∨ n = 0) (h2 : t * 10 ^ n < b * 10 ^ m * 10) (hL : b ≤ t * 10 ^ L) : n ≤ m + L := by
  rcases Nat.lt_or_ge (m + L) n with c | c
  · rcases h0 with rfl | rfl
    · rw [Int.pow_zero, Int.mul_one] at h2
      have e : (10 : Int) ^ (L + 1) ≤ 10 ^ n := by
        rw [show n = L + 1 + (n - (L + 1)) by omega, Int.pow_add _ (L + 1)]
        have := ten_pos (n - (L + 1))
        have p := ten_pos (L + 1)
        have : (10 : Int) ^ (L + 1) * 1 ≤ 10 ^ (L + 1) * 10 ^ (n - (L + 1)) := Int.mul_le_mul_of_nonneg_left (by omega) (by omega)
        omega
      have e2 := Int.mul_le_mul_of_nonneg_left e (show (0 : Int) ≤ t by omega)
      rw [Int.pow_succ, ← Int.mul_assoc] at e2
      omega
    · omega
  · exact c
theorem nr_cmp {t b l : Int} {m n L : Nat} (h : n ≤ m + L) : (l * 10 ^ m * b < t * 10 ^ n) ↔ (l * 10 ^ (m + L - n) * b < t * 10 ^ L) := by
  have e : (10 : Int) ^ m * 10 ^ L = 10 ^ (m + L - n) * 10 ^ n := by
    rw [← Int.pow_add, ← Int.pow_add]
    congr 1
    omega
  have e1 : l * 10 ^ m * b * 10 ^ L = l * 10 ^ (m + L - n) * b * 10 ^ n := by
    rw [Int.mul_assoc l, Int.mul_assoc l, Int.mul_assoc l, Int.mul_assoc l, Int.mul_right_comm _ b, e, Int.mul_right_comm _ b]
  have e2 : t * 10 ^ n * 10 ^ L = t * 10 ^ L * 10 ^ n := Int.mul_right_comm _ _ _
  constructor
  · intro c
    have c1 := Int.mul_lt_mul_of_pos_right c (ten_pos L)
    rw [e1, e2] at c1
    exact Int.lt_of_mul_lt_mul_right c1 (Int.le_of_lt (ten_pos n))
  · intro c
    have c1 := Int.mul_lt_mul_of_pos_right c (ten_pos n)
    rw [← e1, ← e2] at c1
    exact Int.lt_of_mul_lt_mul_right c1 (Int.le_of_lt (ten_pos L))
theorem nr_val {l : Int} {m n L : Nat} (h : n ≤ m + L) : lowT (l * 10 ^ m) (1 * 10 ^ n) = lowT (l * 10 ^ (m + L - n)) (10 ^ L) ∧ lowB (l * 10 ^ m) (1 * 10 ^ n) = lowB (l * 10 ^ (m + L - n)) (10 ^ L) := by
  rw [Int.one_mul]
  refine low_cross (ten_pos n) (ten_pos L) ?_
  rw [Int.mul_assoc, Int.mul_assoc, ← Int.pow_add, ← Int.pow_add]
  congr 2
  omega
theorem nx_1 {t b : Int} {e L : Nat} (hb : 0 < b) (h1 : 1 * 10 ^ e * b ≤ t * 10 ^ L) (c : ¬ 1 * 10 ^ e * b < t * 10 ^ L) : Nx L t b (3 * e) :=
  ⟨by rw [R0]; omega, fun i hi => by
    have := Int.mul_lt_mul_of_pos_right (R_lt hi) hb
    rw [R0] at this
    omega⟩
theorem nx_s {t b : Int} {j L : Nat} (hb : 0 < b) (h1 : R j * b < t * 10 ^ L) (c : ¬ R (j + 1) * b < t * 10 ^ L) : Nx L t b (j + 1) :=
  ⟨by omega, fun i hi => by
    have := Int.mul_le_mul_of_nonneg_right (R_le (show i ≤ j by omega)) (Int.le_of_lt hb)
    omega⟩
def ld (i : Nat) : Int := if i = 0 then 1 else if i = 1 then 2 else 5
theorem R_ld (e : Nat) {i : Nat} (h : i < 3) : R (3 * e + i) = ld i * 10 ^ e := by
  match i, h with
  | 0, _ => exact R0 e
  | 1, _ => exact R1 e
  | 2, _ => exact R2 e
theorem nx_ge {t b l : Int} {m n L : Nat} (h : n ≤ m + L) (c : b * 10 ^ m ≤ t * 10 ^ n) : 1 * 10 ^ (m + L - n) * b ≤ t * 10 ^ L := by
  have e : (10 : Int) ^ m * 10 ^ L = 10 ^ (m + L - n) * 10 ^ n := by
    rw [← Int.pow_add, ← Int.pow_add]
    congr 1
    omega
  have c1 := Int.mul_le_mul_of_nonneg_right c (Int.le_of_lt (ten_pos L))
  rw [Int.mul_assoc, e, Int.mul_right_comm t, ← Int.mul_assoc] at c1
  have c2 := Int.le_of_mul_le_mul_right c1 (ten_pos n)
  rw [Int.one_mul, Int.mul_comm]
  exact c2
theorem Bd.ten {n : Nat} {x : Int} (h : Bd n x) : Bd (n + 4) (10 * x) := by
  unfold Bd at *
  rw [Int.natAbs_mul, Nat.pow_add]
  show 10 * x.natAbs < _
  omega
theorem ten_bd {t b : Int} {m n : Nat} (ht : 0 < t) (hb : 0 < b) (bt : Bd 600 t) (bb : Bd 600 b) (h0 : m = 0 ∨ n = 0) (h1 : b * 10 ^ m ≤ t * 10 ^ n) (h2 : t * 10 ^ n < b * 10 ^ m * 10) : Bd 1000 (10 ^ m) ∧ Bd 1000 (10 ^ n) := by
  have one : Bd 1000 1 := Bd.mono (m := 4) (by unfold Bd; decide) (by decide)
  rcases h0 with rfl | rfl
  · refine ⟨one, ?_⟩
    rw [Int.pow_zero, Int.mul_one] at h2
    have e : (1 : Int) * 10 ^ n ≤ t * 10 ^ n := Int.mul_le_mul_of_nonneg_right (by omega) (Int.le_of_lt (ten_pos n))
    have p := ten_pos n
    refine Bd.mono (m := 604) ?_ (by decide)
    have := Bd.ten bb
    unfold Bd at *
    omega
  · refine ⟨?_, one⟩
    rw [Int.pow_zero, Int.mul_one] at h1
    have e : (1 : Int) * 10 ^ m ≤ b * 10 ^ m := Int.mul_le_mul_of_nonneg_right (by omega) (Int.le_of_lt (ten_pos m))
    have p := ten_pos m
    refine Bd.mono (m := 600) ?_ (by decide)
    unfold Bd at *
    omega
end Kx

set_option Elab.async false
set_option linter.all false
set_option maxRecDepth 100000
namespace Kx
open PySem PySem.Spec L2 PyProof.Rows PySem.W
/-! ### methods and makings by name -/
structure CalM (P : Program) (w : World) (K : PySem.W.Frag) (mg : Str → Option Value) (base : Heap) (CX : CXT) (k : Nat) (C : Addr) (m : Str) (ps : List Str) (sp : Sp) : Prop where
  ex : ∃ (f : Addr) (fd : FuncData), Meth K C m f ∧ FnOk P w K mg base CX k f fd ps sp ∧ Binds K fd ps []
structure CalK (P : Program) (w : World) (K : PySem.W.Frag) (mg : Str → Option Value) (base : Heap) (CX : CXT) (k : Nat) (C : Addr) (x : Str) (ps : List Str) (sp : Sp) : Prop where
  ex : ∃ (f : Addr) (fd : FuncData), Mk K C f ∧ FnOk P w K mg base CX k f fd ps sp ∧ Binds K fd ps [] ∧ mg x = some (.ref C)
section
variable {X : Cx} {CX : CXT} {j k : Nat} {ps : List Str} {sp : Sp} {E : XK} {C : Addr} {m x : Str} {o e : Expr} {es : List Expr} {apos p pos : Pos} {ta : TE} {t : TA}
theorem pe_methC {pl : Sem Bool} (M : CalM X.prog X.w X.K X.mg X.base CX j C m ps sp) (c : Cls X.K C) (hr : Room k X.A) (hx : Passes CX X E) (ho : PE X o ta) (ha : PA X (e :: es) t) (hj : j ≤ k := by decide) (hs : (e :: es).any isStar = false := by rfl)
    (ht : eval (.Call (.Attribute o m apos) (e :: es) [] pos) X.env = (do
      let ov ← eval o X.env
      standAt apos.atName
      let (f, first) ← holding [ov] (getMethod ov m pl)
      callWith pos f first (backTo pos (starEach (e :: es) X.env)) (backToKw pos (keywordEach [] X.env))) := by rfl) :
    PE X (.Call (.Attribute o m apos) (e :: es) [] pos) (tMeth C m sp [] E ta t) := by
  obtain ⟨f, fd, M, F, b⟩ := M.ex
  have h2 : isStar e = false ∧ es.any isStar = false := by simpa using hs
  exact pe_meth (pl := pl) ho c M F (hr.mono hj) b .nil hx ha (star_cons h2.1) (star_any h2.2) ht
theorem pe_makeC (M : CalK X.prog X.w X.K X.mg X.base CX j C x ps sp) (hr : Room k X.A) (hx : Passes CX X E) (ha : PA X (e :: es) t) (hg : Gl X x := by rfl) (hj : j + 1 ≤ k := by decide) (hdb : (x == ("__debug__" : Str)) = false := by decide) (hs : (e :: es).any isStar = false := by rfl) :
    PE X (.Call (.Name x p) (e :: es) [] pos) (tMake C sp [] E t) := by
  obtain ⟨f, fd, M, F, b, hm⟩ := M.ex
  have h2 : isStar e = false ∧ es.any isStar = false := by simpa using hs
  exact pe_make M F (hr.mono hj) hg hm b .nil hx ha hdb (star_cons h2.1) (star_any h2.2)
end
def clsBody (s : Stmt) (i : Nat) : Stmt := match s with
  | .ClassDef _ _ _ body _ _ _ _ _ _ _ => body.getD i (.Pass ⟨0, 0, 0, 0⟩)
  | _ => .Pass ⟨0, 0, 0, 0⟩
end Kx

set_option Elab.async false
set_option linter.all false
set_option maxRecDepth 100000
namespace Kx
open PySem L2
/-- a while whose measure is an index of the invariant -/
theorem while_ix {c : TT} {tb : TS} {D : Ends} {σ : St} {H : Hp} (Pv : Nat → St → Hp → Prop) (h0 : ∃ n, Pv n σ H)
    (hs : ∀ n σ H, Pv n σ H → c σ H fun b H1 => if b = true then tb { D with nx := fun σ' H' => ∃ n', n' < n ∧ Pv n' σ' H', ct := fun σ' H' => ∃ n', n' < n ∧ Pv n' σ' H', bk := D.nx } σ H1 else D.nx σ H1)
    (mono : ∀ σ H Q Q', (∀ b H1, Q b H1 → Q' b H1) → c σ H Q → c σ H Q') : tWhile c tb D σ H := by
  refine ⟨Pv, h0, ?_⟩
  intro m σ H p
  refine mono σ H _ _ (fun b H1 q => ?_) (hs m σ H p)
  cases b with
  | true => exact ⟨_, fun σ' H' h => h, q⟩
  | false => exact q
theorem floor_low {x y : Int} (hy : 0 < y) : lowT x y / lowB x y = x / y := by
  obtain ⟨g, g0, ex, ey⟩ := low_mul (t := x) hy
  generalize lowT x y = X at *
  generalize lowB x y = Y at *
  rw [ex, ey]
  exact (Int.mul_ediv_mul_of_pos _ _ g0).symm
theorem ceil_low {x y : Int} (hy : 0 < y) : -(-lowT x y / lowB x y) = -(-x / y) := by
  obtain ⟨g, g0, ex, ey⟩ := low_mul (t := x) hy
  generalize lowT x y = X at *
  generalize lowB x y = Y at *
  rw [ex, ey, ← Int.mul_neg, Int.mul_ediv_mul_of_pos _ _ g0]
def Fst (t b p q : Int) : Int := t * q / (b * p)
def Lst (t b p q : Int) : Int := -(-(t * q) / (b * p))
def Cnt (t b t2 b2 p q : Int) : Int := Lst t2 b2 p q - Fst t b p q + 1
theorem fst_ok {t b p q : Int} (hb : 0 < b) (hp : 0 < p) : Fst t b p q * (b * p) ≤ t * q := by
  unfold Fst
  exact Int.ediv_mul_le _ (Int.ne_of_gt (Int.mul_pos hb hp))
theorem lst_ok {t b p q : Int} (hb : 0 < b) (hp : 0 < p) : t * q ≤ Lst t b p q * (b * p) := by
  unfold Lst
  have := Int.ediv_mul_le (-(t * q)) (Int.ne_of_gt (Int.mul_pos hb hp))
  rw [Int.neg_mul]
  omega
theorem cnt_step {t b t2 b2 p q m : Int} (hb : 0 < b) (hb2 : 0 < b2) (hp : 0 < p) (h : Cnt t b t2 b2 p q ≤ m) : (t2 * b - t * b2) * q ≤ (m - 1) * (p * (b * b2)) := by
  have f := Int.mul_le_mul_of_nonneg_right (fst_ok (t := t) (q := q) hb hp) (Int.le_of_lt hb2)
  have l := Int.mul_le_mul_of_nonneg_right (lst_ok (t := t2) (q := q) hb2 hp) (Int.le_of_lt hb)
  unfold Cnt at h
  generalize Fst t b p q = F at *
  generalize Lst t2 b2 p q = G at *
  have e1 : F * (b * p) * b2 = F * (p * (b * b2)) := by rw [Int.mul_assoc, Int.mul_comm b p, Int.mul_assoc p]
  have e2 : G * (b2 * p) * b = G * (p * (b * b2)) := by rw [Int.mul_assoc, Int.mul_comm b2 p, Int.mul_assoc p, Int.mul_comm b2 b]
  have pM : 0 ≤ p * (b * b2) := Int.le_of_lt (Int.mul_pos hp (Int.mul_pos hb hb2))
  have d := Int.mul_le_mul_of_nonneg_right (show G - F ≤ m - 1 by omega) pM
  rw [Int.sub_mul] at d
  rw [Int.sub_mul, Int.mul_right_comm t2, Int.mul_right_comm t]
  omega
theorem cnt_big {t b t2 b2 p q : Int} (hb : 0 < b) (hb2 : 0 < b2) (hp : 0 < p) (h1 : -(b * p) ≤ t * q) (h2 : t2 * q ≤ b2 * p) : Cnt t b t2 b2 p q ≤ 3 := by
  unfold Cnt Fst Lst
  have e1 : -1 ≤ t * q / (b * p) := by
    refine Int.le_ediv_of_mul_le (Int.mul_pos hb hp) ?_
    omega
  have e2 : -1 ≤ -(t2 * q) / (b2 * p) := by
    refine Int.le_ediv_of_mul_le (Int.mul_pos hb2 hp) ?_
    omega
  omega
theorem Nx.unlow {L j : Nat} {x y : Int} (hy : 0 < y) (h : Nx L (lowT x y) (lowB x y) j) : Nx L x y j := by
  obtain ⟨g, g0, ex, ey⟩ := low_mul (t := x) hy
  have e : ∀ i, R i * y = g * (R i * lowB x y) := fun i => by
    conv => lhs; rw [ey]
    rw [Int.mul_left_comm]
  have e2 : x * 10 ^ L = g * (lowT x y * 10 ^ L) := by
    conv => lhs; rw [ex]
    rw [Int.mul_assoc]
  refine ⟨?_, fun i hi => ?_⟩
  · rw [e, e2]
    exact Int.mul_le_mul_of_nonneg_left h.1 (by omega)
  · rw [e, e2]
    exact Int.mul_lt_mul_of_pos_left (h.2 i hi) g0
theorem nx_dbl {L j k : Nat} (h : Nx L (2 * R j) (10 ^ L) k) : k = j + 1 := by
  refine Nx.uniq h ⟨?_, fun i hi => ?_⟩
  · exact Int.mul_le_mul_of_nonneg_right (R_dbl j).2 (Int.le_of_lt (ten_pos L))
  · have := R_le (show i ≤ j by omega)
    have := (R_dbl j).1
    exact Int.mul_lt_mul_of_pos_right (by omega) (ten_pos L)
end Kx

set_option Elab.async false
set_option linter.all false
set_option maxRecDepth 100000
namespace Kx
open PySem PySem.Spec L2 PyProof.Rows PySem.W
theorem turn_long {P : Program} {w : World} {K : PySem.W.Frag} {tg : Expr} (it : Addr) (lo : Int) (n : Nat) : Turn P w K tg (Itr lo n) [it] it (fun i h => IsLongIter h it (lo + (i : Nat) * 1) ((n : Int) - (i : Nat)) 1) where
  mem := by simp
  obj := fun i h st b hb => by
    have e : b = it := by simpa using hb
    subst e
    exact ⟨_, st, fun v z => by
      have z' : Data.fields _ = Data.cell v := z
      cases z'⟩
  keep := fun i h h' st k => k it (by simp) _ st
  item := by
    intro X hP hw hK hc i pins s σ H E I hf st hg
    subst hP hw hK
    obtain ⟨f0, f1, f2, f3, f4, f5⟩ := hf it (by simp)
    have W := Walks.longrange (prog := X.prog) (w := X.w) (I.ok.hd hc) it lo 1 n
    refine W.item i s _ _ hg st fun v h' tk hv st' kk => ?_
    obtain ⟨t, rfl⟩ := hv
    have I1 : Inv X pins σ H { s with heap := h', toks := tk } := I.turned (fun b o hb e => kk b o (by simpa using hb) e) f0 f1 f3 f4 f5
    refine ⟨_, rfl, go_of (s := { s with heap := h', toks := tk }) (n := "longrange_iterator") st' rfl rfl (by decide) ⟨.int (lo + i), H, I1, ⟨t, ?_⟩, ⟨rfl, rfl⟩, st', fun b hb => (hf b hb).1⟩⟩
    rw [Int.mul_one]
  done := by
    intro X hP hw hK hc i pins s σ H E I hf st hg
    subst hP hw hK
    obtain ⟨f0, f1, f2, f3, f4, f5⟩ := hf it (by simp)
    exact wpAny_pyNext_long_end (I.ok.hd hc) st (by have : n ≤ i := hg; omega) fun h' eb => ⟨rfl, I.turned (t' := s.toks) (fun b o hb e => eb b o hb e) f0 f1 f3 f4 f5⟩
  self := fun _ _ _ _ _ st h => wpAny_pyIter_longiter st h
section
variable {X : Cx} {tg : Expr}
theorem range_any {pins : List (Addr × Obj)} {σ : L2.St} {H : Hp} {s : Shared} {R : It → Hp → Prop} {E : Value → Shared → Prop} {lo hi : Int} {t u v : Tok} {tk : Nat} (I : Inv X pins σ H s)
    (q : R (Itr lo (hi - lo).toNat) H) : wpAny (model X.prog X.w) X.A (pyIter (.ref s.heap.objs.size)) (PIE X pins σ tg R) E { s with heap := s.heap.push { cls := .type "range", data := .fields #[.int lo t, .int hi u, .int 1 v] }, toks := tk } := by
  have I1 : Inv X pins σ H { s with heap := s.heap.push { cls := .type "range", data := .fields #[.int lo t, .int hi u, .int 1 v] }, toks := tk } := I.kept fun b o e => Heap.get?_push_of_some _ e
  have e1 : lo + ((0 : Nat) : Int) * 1 = lo := by simp
  have e2 : (((hi - lo).toNat : Nat) : Int) - ((0 : Nat) : Int) = Builtin.Range.rangeSize lo hi 1 := by rw [rangeSize_one]; split <;> omega
  cases hs : Builtin.Range.small lo hi 1 with
  | true =>
    refine wpAny_pyIter_range (IsRange.new ..) hs ?_
    refine ⟨(s.heap.push { cls := .type "range", data := .fields #[.int lo t, .int hi u, .int 1 v] }).objs.size, [(s.heap.push { cls := .type "range", data := .fields #[.int lo t, .int hi u, .int 1 v] }).objs.size], _, _, H, rfl,
      I1.kept (t' := tk) fun b o e => Heap.get?_push_of_some _ e, turn_range _ lo (hi - lo).toNat, ?_, fun b hb => ?_, q⟩
    · show IsRangeIter _ _ (lo + ((0 : Nat) : Int) * 1) ((((hi - lo).toNat : Nat) : Int) - ((0 : Nat) : Int)) 1
      rw [e1, e2]
      exact Heap.get?_push_size _ rfl
    · have e : b = (s.heap.push { cls := .type "range", data := .fields #[.int lo t, .int hi u, .int 1 v] }).objs.size := by simpa using hb
      subst e
      exact I1.fpOk (Nat.le_refl _) (I1.hok.fresh (Nat.le_refl _))
  | false =>
    refine wpAny_pyIter_longrange (IsRange.new ..) hs ?_
    refine ⟨(s.heap.push { cls := .type "range", data := .fields #[.int lo t, .int hi u, .int 1 v] }).objs.size, [(s.heap.push { cls := .type "range", data := .fields #[.int lo t, .int hi u, .int 1 v] }).objs.size], _, _, H, rfl,
      I1.kept (t' := tk) fun b o e => Heap.get?_push_of_some _ e, turn_long _ lo (hi - lo).toNat, ?_, fun b hb => ?_, q⟩
    · show IsLongIter _ _ (lo + ((0 : Nat) : Int) * 1) ((((hi - lo).toNat : Nat) : Int) - ((0 : Nat) : Int)) 1
      rw [e1, e2]
      exact Heap.get?_push_size _ rfl
    · have e : b = (s.heap.push { cls := .type "range", data := .fields #[.int lo t, .int hi u, .int 1 v] }).objs.size := by simpa using hb
      subst e
      exact I1.fpOk (Nat.le_refl _) (I1.hok.fresh (Nat.le_refl _))
def iRngB (ta : TA) : TI := fun σ H R => ta σ H fun vs H1 => ∃ i j : Int, vs = [.int i, .int j] ∧ R (Itr i (j - i).toNat) H1
theorem pi_rangeB {a b : Expr} {ta : TA} {p pos : Pos} (hg : Gl X "range") (hm : X.mg "range" = none) (ha : PA X [a, b] ta) (hs : starEach [a, b] X.env = [(false, eval a X.env), (false, eval b X.env)] := by rfl) (hs2 : starEach [b] X.env = [(false, eval b X.env)] := by rfl) :
    PI X tg (.Call (.Name "range" p) [a, b] [] pos) (iRngB ta) := by
  intro pins s σ H R I h
  refine Call_ (ld_blt I hg hm boot_range (PyProof.Rows.callWith_type1 (thn (ha pos pins s σ H _ I h) fun us s1 ⟨vs, H1, I1, r1, q1⟩ => ?_) (by rw [hs, hs2]) (by rw [hs2]; rfl)))
  obtain ⟨i, j, e, q⟩ := q1
  subst e
  cases r1 with
  | cons r rr =>
    cases rr with
    | cons r' rr =>
      cases rr
      obtain ⟨t, rfl⟩ := r
      obtain ⟨t', rfl⟩ := r'
      exact call_range_2 (range_any I1 q)
end
end Kx

set_option Elab.async false
set_option linter.all false
set_option maxRecDepth 100000
namespace Kx
open PySem PySem.Spec L2 PyProof.Rows PySem.W
section
variable {X : Cx}
/-- isinstance(xs, list), xs a list -/
theorem call_isiLL : CallR X (.builtin "isinstance") (fun xs H Q => ∃ a ys, xs = [.ref a, .ty "list"] ∧ SqL X.K H a ys ∧ Q (.bl true) H) := by
  intro pins s σ H xs us Q I r h
  obtain ⟨a, ys, rfl, ha, q⟩ := h
  obtain ⟨u1, u2, rfl, r1, r2⟩ : ∃ u1 u2, us = [u1, u2] ∧ RelV (.ref a) u1 ∧ RelV (.ty "list") u2 := by
    cases r with | cons a r => cases r with | cons b r => cases r with | nil => exact ⟨_, _, rfl, a, b⟩
  cases r1
  cases r2
  have f0 : EP X pins σ Q (.bool true) s := ⟨.bl true, H, I, rfl, q⟩
  obtain ⟨its, _, ht, _⟩ := I.list ha
  exact PyProof.Rows.call_isinstance_yes (Tx := "list") ht.isList.typeIs PySem.F.isi_meta_list PySem.F.isi_self_list f0
def rNotInD (K : PySem.W.Frag) : L2.R2 := fun x y H Q => ∃ d ds, Dp K H x d ∧ Dp K H y (.list ds) ∧ d.canLay0 = true ∧ PyData.canLayAll0 ds = true ∧ d.depth ≤ 60 ∧ Q (.bl (!ds.any fun e => PyData.eqv e d)) H
theorem op_notInD (hu : X.A.units + 64 < cLine) : OpR X (compareOp .NotIn) (rNotInD X.K) := by
  intro pins s σ H x y v u Q I rx ry h
  obtain ⟨d, ds, hd, he, cd, ce, dd, q⟩ := h
  obtain ⟨as, r1⟩ := Dp.reads I d x v hd rx
  obtain ⟨bs, r2⟩ := Dp.reads I (.list ds) y u he ry
  refine SeqAt.notIn_list_reads r2 r1 ce cd ?_ ⟨.bl _, H, I, rfl, q⟩
  have := Nat.min_le_right (PyData.depthAll ds) d.depth
  omega
def rIndexD (K : PySem.W.Frag) : V → List V → Hp → VK → Prop := fun x xs H Q => ∃ (a : Addr) (ys : List V) (y : V) (d : PyData) (ds : List PyData) (j : Nat) (dj : PyData), x = V.ref a ∧ xs = [y] ∧ SqL K H a ys ∧ DpAll K H ys ds ∧ Dp K H y d ∧ d.canLay0 = true ∧ PyData.canLayAll0 ds = true ∧ d.depth ≤ 20 ∧ ds[j]? = some dj ∧ PyData.eqv dj d = true ∧
  (∀ (m : Nat) (dm : PyData), m < j → ds[m]? = some dm → PyData.eqv dm d = false) ∧ Q (.int (j : Nat)) H
theorem mt_indexD (hu : X.A.units + 64 < cLine) : MtR X "list.index" (rIndexD X.K) := by
  intro pins s σ H x xs v us Q I rx rxs h
  obtain ⟨a, ys, y, d, ds, j, dj, rfl, rfl, hs, hds, hd, cd, ce, dd, hj0, hje, hno, q⟩ := h
  cases rx
  cases rxs with
  | cons ry rt =>
    rename_i uy ut
    cases rt
    obtain ⟨bs, r1⟩ := Dp.reads I d y _ hd ry
    obtain ⟨its, rv, ⟨⟨cls, dd', data, sl⟩, n, ho, hc, hdn, hd'⟩, hlen⟩ := I.list hs
    simp only at hc hd'
    subst hc hd'
    obtain ⟨as, rs⟩ := Dp.readsAll I ds ys its hds rv
    have mp := SeqAt.readsAll_map ds its as ce rs
    have hlen2 : its.length = ds.length := by rw [← mp, List.length_map]
    have hjd : j < ds.length := (List.getElem?_eq_some_iff.mp hj0).1
    have hj : j < its.toArray.size := by simpa [hlen2] using hjd
    have hsl := sizeLine_eq
    have at_ : ∀ (m : Nat) (hm : m < its.length), ds[m]? = some (SeqAt.readOf s.heap its[m]) := fun m hm => by
      rw [← mp, List.getElem?_map, List.getElem?_eq_getElem hm]
      rfl
    have hvl := rv.length
    refine call_meets PySem.F.slot_list_index ⟨_, ho, rfl⟩ PySem.F.entry_list_index (PySem.F.args_list_index_2 _ _)
      (SeqAt.list_indexAt a its.toArray n dd' sl uy (fun y => PyData.eqv (SeqAt.readOf s.heap y) d) j hj (by omega) ?_ ?_) ⟨ho, SeqAt.items_eqAt (vs := its.toArray) (by simpa using rs) r1 ce cd ?_, ?_⟩
    · have e := at_ j (by simpa using hj)
      rw [hj0] at e
      have e2 : its.toArray[j] = its[j] := by simp
      rw [e2, ← Option.some.inj e]
      exact hje
    · intro m hm hmj
      have hml : m < its.length := by simpa using hm
      have e2 : its.toArray[m] = its[m] := by simp
      rw [e2]
      exact hno m _ hmj (at_ m hml)
    · have := Nat.min_le_right (PyData.depthAll ds) d.depth
      show _ + 1 + _ < cLine
      have hA : ∀ A' : Around, A'.units ≤ X.A.units + 30 → A'.units + 1 + min (PyData.depthAll ds) d.depth < cLine := fun A' h => by omega
      exact hA _ (by first | exact Nat.le_add_right _ _ | (simp [Around.in1]; omega) | omega)
    · exact ⟨.int (j : Nat), H, I.tok _, ⟨_, rfl⟩, q⟩
end
end Kx

set_option Elab.async false
set_option linter.all false
set_option maxRecDepth 100000
namespace Kx
open PySem L2
theorem for_zip {K : PySem.W.Frag} {a b : Addr} {xs ys : List V} {g : TG} {tb : TS} {D : Ends} {σ : St} {H : Hp} (he : xs.length = ys.length) (Pv : Nat → St → Hp → Prop) (h0 : Pv 0 σ H) (hl : ∀ i σ H, i ≤ xs.length → Pv i σ H → SqL K H a xs ∧ SqL K H b ys)
    (hs : ∀ i x y T σ H, xs[i]? = some x → ys[i]? = some y → Pv i σ H → H T = none → g (.ref T) σ (upd H T (.tup [x, y])) fun σ2 H2 => tb { D with nx := Pv (i + 1), ct := Pv (i + 1), bk := D.nx } σ2 H2) (hd : ∀ σ H, Pv xs.length σ H → D.nx σ H) :
    ∃ W : Nat → Nat → St → Hp → Prop, (∃ m, W 0 m σ H) ∧ ∀ i m σ H, W i m σ H →
      ((Itz K a b).stop i H ∧ D.nx σ H) ∨ ((Itz K a b).go i H ∧ ∃ N : St → Hp → Prop, (∀ σ' H', N σ' H' → ∃ m', m' < m ∧ W (i + 1) m' σ' H') ∧ ∀ x H', (Itz K a b).yld i H x H' → g x σ H' fun σ2 H2 => tb { D with nx := N, ct := N, bk := D.nx } σ2 H2) := by
  refine ⟨fun i m σ H => m = xs.length - i ∧ i ≤ xs.length ∧ Pv i σ H, ⟨xs.length, by simp, Nat.zero_le _, h0⟩, ?_⟩
  rintro i m σ H ⟨rfl, hi, p⟩
  have q := hl i σ H hi p
  by_cases hlt : i < xs.length
  · have hlt2 : i < ys.length := by omega
    refine .inr ⟨⟨xs, ys, xs[i], ys[i], q.1, q.2, by simp [hlt], by simp [hlt2]⟩, Pv (i + 1), fun σ' H' p' => ⟨xs.length - (i + 1), by omega, rfl, hlt, p'⟩, fun x H' y => ?_⟩
    obtain ⟨T, x1, y1, rfl, hT, rfl, hx, hy⟩ := y
    exact hs i x1 y1 T σ H (hx xs q.1) (hy ys q.2) p hT
  · have e : i = xs.length := by omega
    subst e
    exact .inl ⟨⟨xs, ys, q.1, q.2, .inl (Nat.le_refl _)⟩, hd σ H p⟩
theorem ediv_mono {x y x' y' : Int} (hy : 0 < y) (hy' : 0 < y') (h : x * y' ≤ x' * y) : x / y ≤ x' / y' := by
  refine (Int.le_ediv_iff_mul_le hy').mpr ?_
  have a := Int.mul_le_mul_of_nonneg_right (Int.ediv_mul_le x (Int.ne_of_gt hy)) (Int.le_of_lt hy')
  rw [Int.mul_right_comm] at a
  exact Int.le_of_mul_le_mul_right (Int.le_trans a h) hy
end Kx

set_option Elab.async false
set_option linter.all false
set_option maxRecDepth 100000
set_option autoImplicit false
namespace Dt
open PySem L2 Kx
/-! ### data, without addresses -/
inductive D where
  | non | bl (b : Bool) | int (i : Int) | str (x : Str) | ty (n : String) | scr (xs : List D) | lst (xs : List D) | tup (xs : List D) | obj (c : Str) (ns : List Str) (xs : List D)
mutual
inductive Rep (K : PySem.W.Frag) (F : Hp) : V → D → Prop
  | non : Rep K F .non .non
  | bl (b : Bool) : Rep K F (.bl b) (.bl b)
  | int (i : Int) : Rep K F (.int i) (.int i)
  | str (x : Str) : Rep K F (.str x) (.str x)
  | ty (n : String) : Rep K F (.ty n) (.ty n)
  | scr {a : Addr} {vs : List V} {ds : List D} : SqL K F a vs → RepA K F vs ds → Rep K F (.ref a) (.scr ds)
  | lst {a : Addr} {vs : List V} {ds : List D} : L2.Rd F a (.lst vs) → RepA K F vs ds → Rep K F (.ref a) (.lst ds)
  | tup {a : Addr} {vs : List V} {ds : List D} : SqT K F a vs → RepA K F vs ds → Rep K F (.ref a) (.tup ds)
  | obj {a dx C : Addr} {c : Str} {ns : List Str} {vs : List V} {ds : List D} : PySem.W.nsIn K mainGlobals c = some (some (.ref C)) → F a = some (.ins C dx (ns.zip vs)) → RepA K F vs ds → Rep K F (.ref a) (.obj c ns ds)
inductive RepA (K : PySem.W.Frag) (F : Hp) : List V → List D → Prop
  | nil : RepA K F [] []
  | cons {v : V} {d : D} {vs : List V} {ds : List D} : Rep K F v d → RepA K F vs ds → RepA K F (v :: vs) (d :: ds)
end
section
variable {K : PySem.W.Frag} {F F' H H' : Hp}
theorem rd_same {a : Addr} {o : HO} (h : L2.Rd H a o) (g : Same H H') : L2.Rd H' a o := by
  rcases h with h | ⟨x, h⟩
  · exact .inl (g _ _ h)
  · exact .inr ⟨x, g _ _ h⟩
theorem sql_same {a : Addr} {xs : List V} (h : SqL K H a xs) (g : Same H H') : SqL K H' a xs := h.elim (fun h => .inl (rd_same h g)) .inr
theorem sqt_same {a : Addr} {xs : List V} (h : SqT K H a xs) (g : Same H H') : SqT K H' a xs := h.elim (fun h => .inl (rd_same h g)) .inr
mutual
theorem Rep.mono (g : Same F F') : ∀ {v : V} {d : D}, Rep K F v d → Rep K F' v d
  | _, _, .non => .non
  | _, _, .bl b => .bl b
  | _, _, .int i => .int i
  | _, _, .str x => .str x
  | _, _, .ty n => .ty n
  | _, _, .scr h r => .scr (sql_same h g) (RepA.mono g r)
  | _, _, .lst h r => .lst (rd_same h g) (RepA.mono g r)
  | _, _, .tup h r => .tup (sqt_same h g) (RepA.mono g r)
  | _, _, .obj c h r => .obj c (g _ _ h) (RepA.mono g r)
theorem RepA.mono (g : Same F F') : ∀ {vs : List V} {ds : List D}, RepA K F vs ds → RepA K F' vs ds
  | _, _, .nil => .nil
  | _, _, .cons h r => .cons (Rep.mono g h) (RepA.mono g r)
end
theorem RepA.length : ∀ {vs : List V} {ds : List D}, RepA K F vs ds → vs.length = ds.length
  | _, _, .nil => rfl
  | _, _, .cons _ r => congrArg (· + 1) (RepA.length r)
theorem RepA.get : ∀ {vs : List V} {ds : List D} {i : Nat} {d : D}, RepA K F vs ds → ds[i]? = some d → ∃ v, vs[i]? = some v ∧ Rep K F v d
  | _, _, _, _, .nil, e => by simp at e
  | _, _, 0, _, .cons h _, e => by simp at e; subst e; exact ⟨_, rfl, h⟩
  | _, _, i + 1, d, .cons _ r, e => by
    obtain ⟨u, h1, h2⟩ := RepA.get (i := i) (d := d) r (by simpa using e)
    exact ⟨u, by simpa using h1, h2⟩
theorem RepA.got {vs : List V} {ds : List D} {i : Nat} {v : V} (r : RepA K F vs ds) (e : vs[i]? = some v) : ∃ d, ds[i]? = some d ∧ Rep K F v d := by
  have hi : i < vs.length := (List.getElem?_eq_some_iff.mp e).1
  have hi2 : i < ds.length := by rw [← r.length]; exact hi
  obtain ⟨u, h1, h2⟩ := r.get (List.getElem?_eq_getElem hi2)
  rw [e] at h1
  cases h1
  exact ⟨_, List.getElem?_eq_getElem hi2, h2⟩
theorem RepA.append : ∀ {vs ws : List V} {ds es : List D}, RepA K F vs ds → RepA K F ws es → RepA K F (vs ++ ws) (ds ++ es)
  | _, _, _, _, .nil, s => s
  | _, _, _, _, .cons h r, s => .cons h (RepA.append r s)
theorem RepA.set {v : V} {d : D} (h : Rep K F v d) : ∀ {vs : List V} {ds : List D} (i : Nat), RepA K F vs ds → RepA K F (vs.set i v) (ds.set i d)
  | _, _, _, .nil => .nil
  | _, _, 0, .cons _ r => .cons h r
  | _, _, i + 1, .cons q r => .cons q (RepA.set h i r)
theorem RepA.take : ∀ {vs : List V} {ds : List D} (n : Nat), RepA K F vs ds → RepA K F (vs.take n) (ds.take n)
  | _, _, 0, _ => .nil
  | _, _, _ + 1, .nil => .nil
  | _, _, n + 1, .cons h r => .cons h (RepA.take n r)
theorem RepA.drop : ∀ {vs : List V} {ds : List D} (n : Nat), RepA K F vs ds → RepA K F (vs.drop n) (ds.drop n)
  | _, _, 0, r => r
  | _, _, _ + 1, .nil => .nil
  | _, _, n + 1, .cons _ r => RepA.drop n r
theorem RepA.reverse : ∀ {vs : List V} {ds : List D}, RepA K F vs ds → RepA K F vs.reverse ds.reverse
  | _, _, .nil => .nil
  | _, _, .cons h r => by
    rw [List.reverse_cons, List.reverse_cons]
    exact RepA.append (RepA.reverse r) (.cons h .nil)
theorem RepA.ints : ∀ {vs : List V} {ns : List Int}, RepA K F vs (ns.map D.int) → vs = ns.map V.int
  | _, [], .nil => rfl
  | _, _ :: _, .cons h r => by cases h; rw [List.map_cons, RepA.ints r]
theorem RepA.ofInts : ∀ {ns : List Int}, RepA K F (ns.map V.int) (ns.map D.int)
  | [] => .nil
  | _ :: _ => .cons (.int _) RepA.ofInts
theorem RepA.strs : ∀ {vs : List V} {xs : List Str}, RepA K F vs (xs.map D.str) → vs = xs.map V.str
  | _, [], .nil => rfl
  | _, _ :: _, .cons h r => by cases h; rw [List.map_cons, RepA.strs r]
theorem RepA.ofStrs : ∀ {xs : List Str}, RepA K F (xs.map V.str) (xs.map D.str)
  | [] => .nil
  | _ :: _ => .cons (.str _) RepA.ofStrs
theorem RepA.bls : ∀ {vs : List V} {xs : List Bool}, RepA K F vs (xs.map D.bl) → vs = xs.map V.bl
  | _, [], .nil => rfl
  | _, _ :: _, .cons h r => by cases h; rw [List.map_cons, RepA.bls r]
end
/-! ### names: what is shared, what is this def's own -/
inductive En where
  | shr (d : D) | own (ds : List D)
def En.dat : En → D
  | .shr d => d
  | .own ds => .lst ds
abbrev Gm := List (Option En)
inductive R where
  | val (d : D) | new (ds : List D) | slot (i : Nat)
def R.at (Γ : Gm) : R → Option D
  | .val d => some d
  | .new ds => some (.lst ds)
  | .slot i => match Γ[i]? with
    | some (some e) => some e.dat
    | _ => none
structure Tb where
  K : PySem.W.Frag
  ts : List Addr
def RepE (K : PySem.W.Frag) (F H : Hp) (v : V) : En → Prop
  | .shr d => Rep K F v d
  | .own ds => ∃ a vs, v = .ref a ∧ H a = some (.lst vs) ∧ F a = none ∧ RepA K F vs ds
def Owns (σ : St) (Γ : Gm) (b : Addr) : Prop := ∃ (i : Nat) (ds : List D), Γ[i]? = some (some (En.own ds)) ∧ σ[i]? = some (some (V.ref b))
def NoT (o : HO) : Prop := ∀ ps, o ≠ .tbl ps
structure Ok (T : Tb) (F H : Hp) : Prop where
  sub : Same F H
  nt : ∀ b o, F b = some o → NoT o
  tabs : ∀ P ∈ T.ts, Tab H P
structure Rp (T : Tb) (F : Hp) (σ : St) (H : Hp) (Γ : Gm) : Prop extends Ok T F H where
  len : Γ.length = σ.length
  at_ : ∀ (i : Nat) (e : En), Γ[i]? = some (some e) → ∃ v, σ[i]? = some (some v) ∧ RepE T.K F H v e
  apart : ∀ (i j : Nat) (ds ds' : List D) (v : V), Γ[i]? = some (some (En.own ds)) → Γ[j]? = some (some (En.own ds')) → σ[i]? = some (some v) → σ[j]? = some (some v) → i = j
/-- only new things are made -/
structure Nw (T : Tb) (F H F' H' : Hp) : Prop where
  ok : Ok T F' H'
  ff : Same F F'
  hh : ∀ b o, H b = some o → NoT o → H' b = some o
  gro : ∀ b o, H b = some o → ∃ o', H' b = some o'
  nf : ∀ b o, F' b = some o → F b = some o ∨ H b = none
section
variable {T : Tb} {F F1 F2 F' H H1 H2 H' : Hp} {σ : St} {Γ Γ1 Γ2 Γ' : Gm}
theorem Ok.refl (o : Ok T F H) : Nw T F H F H := ⟨o, fun _ _ h => h, fun _ _ h _ => h, fun _ o h => ⟨o, h⟩, fun _ _ h => .inl h⟩
theorem tab_new {P p : Addr} {o : HO} (h : H p = none) (t : Tab H P) : Tab (upd H p o) P := by
  obtain ⟨ps, e, q⟩ := t
  exact ⟨ps, same_new h o _ _ e, q⟩
theorem tab_lst {P p : Addr} {vs : List V} {o : HO} (h : H p = some (.lst vs)) (t : Tab H P) : Tab (upd H p o) P := by
  obtain ⟨ps, e, q⟩ := t
  refine ⟨ps, ?_, q⟩
  rw [upd_ne (ne_of e h (by intro z; cases z))]
  exact e
/-- a new thing that is known at once -/
theorem Ok.lay (k : Ok T F H) {p : Addr} {o : HO} (hp : H p = none) (nt : NoT o) : Nw T F H (upd F p o) (upd H p o) := by
  have fp : F p = none := by
    cases e : F p with
    | none => rfl
    | some u => have := k.sub _ _ e; rw [hp] at this; cases this
  refine ⟨⟨fun b u e => ?_, fun b u e => ?_, fun P hP => tab_new hp (k.tabs P hP)⟩, same_new fp o, fun b u e _ => same_new hp o b u e, fun b u e => ⟨u, same_new hp o b u e⟩, fun b u e => ?_⟩
  · by_cases hb : b = p
    · subst hb; rw [upd_same] at e ⊢; exact e
    · rw [upd_ne hb] at e ⊢; exact k.sub _ _ e
  · by_cases hb : b = p
    · subst hb; rw [upd_same] at e; cases e; exact nt
    · rw [upd_ne hb] at e; exact k.nt _ _ e
  · by_cases hb : b = p
    · subst hb; exact .inr hp
    · rw [upd_ne hb] at e; exact .inl e
/-- a new thing that is not known -/
theorem Ok.put (k : Ok T F H) {p : Addr} {o : HO} (hp : H p = none) : Nw T F H F (upd H p o) :=
  ⟨⟨fun b u e => same_new hp o _ _ (k.sub _ _ e), k.nt, fun P hP => tab_new hp (k.tabs P hP)⟩, fun _ _ h => h, fun b u e _ => same_new hp o b u e, fun b u e => ⟨u, same_new hp o b u e⟩, fun _ _ h => .inl h⟩
theorem lst_nt {vs : List V} : NoT (.lst vs) := fun _ z => by cases z
theorem tup_nt {vs : List V} : NoT (.tup vs) := fun _ z => by cases z
theorem RepE.nw {v : V} {e : En} (n : Nw T F H F' H') (h : RepE T.K F H v e) : RepE T.K F' H' v e := by
  cases e with
  | shr d => exact Rep.mono n.ff h
  | own ds =>
    obtain ⟨a, vs, e, ha, fa, r⟩ := h
    refine ⟨a, vs, e, n.hh _ _ ha lst_nt, ?_, r.mono n.ff⟩
    cases q : F' a with
    | none => rfl
    | some o =>
      rcases n.nf a o q with z | z
      · rw [fa] at z; cases z
      · rw [ha] at z; cases z
theorem Rp.nw (r : Rp T F σ H Γ) (n : Nw T F H F' H') : Rp T F' σ H' Γ :=
  ⟨n.ok, r.len, fun i e h => let ⟨v, e1, h1⟩ := r.at_ i e h; ⟨v, e1, h1.nw n⟩, r.apart⟩
/-- what an expression may do -/
structure Po (T : Tb) (F : Hp) (σ : St) (H : Hp) (Γ : Gm) (F' H' : Hp) (Γ' : Gm) : Prop where
  rp : Rp T F' σ H' Γ'
  ff : Same F F'
  fr : ∀ b o, H b = some o → NoT o → ¬ Owns σ Γ b → H' b = some o
  ow : ∀ (i : Nat) (ds : List D), Γ'[i]? = some (some (En.own ds)) → ∃ ds', Γ[i]? = some (some (En.own ds'))
  gro : ∀ b o, H b = some o → ∃ o', H' b = some o'
  nf : ∀ b o, F' b = some o → F b = some o ∨ H b = none ∨ Owns σ Γ b
  sl : ∀ (i : Nat) (e : En), Γ[i]? = some (some e) → ∃ e', Γ'[i]? = some (some e')
theorem Po.ows {b : Addr} (p : Po T F σ H Γ F' H' Γ') (h : Owns σ Γ' b) : Owns σ Γ b := by
  obtain ⟨i, ds, h1, h2⟩ := h
  obtain ⟨ds', h3⟩ := p.ow i ds h1
  exact ⟨i, ds', h3, h2⟩
theorem Rp.po (r : Rp T F σ H Γ) (n : Nw T F H F' H') : Po T F σ H Γ F' H' Γ :=
  ⟨r.nw n, n.ff, fun b o h t _ => n.hh b o h t, fun _ ds h => ⟨ds, h⟩, n.gro, fun b o h => (n.nf b o h).elim .inl fun z => .inr (.inl z), fun _ e h => ⟨e, h⟩⟩
theorem Rp.refl (r : Rp T F σ H Γ) : Po T F σ H Γ F H Γ := r.po r.toOk.refl
theorem Po.trans (p : Po T F σ H Γ F1 H1 Γ1) (q : Po T F1 σ H1 Γ1 F2 H2 Γ2) : Po T F σ H Γ F2 H2 Γ2 where
  rp := q.rp
  ff := fun b o h => q.ff b o (p.ff b o h)
  fr := fun b o h t n => q.fr b o (p.fr b o h t n) t fun z => n (p.ows z)
  ow := fun i ds h => let ⟨ds1, h1⟩ := q.ow i ds h; p.ow i ds1 h1
  gro := fun b o h => let ⟨o1, h1⟩ := p.gro b o h; q.gro b o1 h1
  nf := fun b o h => by
    rcases q.nf b o h with z | z | z
    · exact p.nf b o z
    · cases e : H b with
      | none => exact .inr (.inl rfl)
      | some u => obtain ⟨u', z'⟩ := p.gro b u e; rw [z] at z'; cases z'
    · exact .inr (.inr (p.ows z))
  sl := fun i e h => let ⟨e1, h1⟩ := p.sl i e h; q.sl i e1 h1
theorem Po.nw (p : Po T F σ H Γ F1 H1 Γ1) (n : Nw T F1 H1 F2 H2) : Po T F σ H Γ F2 H2 Γ1 := p.trans (p.rp.po n)
theorem Po.none {b : Addr} (p : Po T F σ H Γ F' H' Γ') (h : H' b = none) : H b = none := by
  cases e : H b with
  | none => rfl
  | some u => obtain ⟨u', z⟩ := p.gro b u e; rw [h] at z; cases z
def RepR (T : Tb) (F : Hp) (σ : St) (H : Hp) (Γ : Gm) (Hs : Hp) (v : V) : R → Prop
  | .val d => Rep T.K F v d
  | .new ds => ∃ a vs, v = .ref a ∧ H a = some (.lst vs) ∧ F a = none ∧ Hs a = none ∧ RepA T.K F vs ds ∧ ¬ Owns σ Γ a
  | .slot i => σ[i]? = some (some v) ∧ ∃ e, Γ[i]? = some (some e)
/-- a thing that is looked at: the top as it stands now -/
def PRep (K : PySem.W.Frag) (F H : Hp) (v : V) (d : D) : Prop := Rep K F v d ∨ ∃ a vs ds, v = .ref a ∧ d = .lst ds ∧ H a = some (.lst vs) ∧ RepA K F vs ds
theorem RepR.peek {Hs : Hp} {v : V} {r : R} {d : D} (p : Rp T F σ H Γ) (h : RepR T F σ H Γ Hs v r) (e : r.at Γ = some d) : PRep T.K F H v d := by
  cases r with
  | val d' => cases e; exact .inl h
  | new ds =>
    cases e
    obtain ⟨a, vs, ev, ha, _, _, ra, _⟩ := h
    exact .inr ⟨a, vs, ds, ev, rfl, ha, ra⟩
  | slot i =>
    obtain ⟨e1, en, e2⟩ := h
    simp only [R.at, e2] at e
    cases e
    obtain ⟨v', e3, re⟩ := p.at_ i en e2
    rw [e1] at e3
    cases e3
    cases en with
    | shr d => exact .inl re
    | own ds =>
      obtain ⟨a, vs, ev, ha, _, ra⟩ := re
      exact .inr ⟨a, vs, ds, ev, rfl, ha, ra⟩
def R.hold : R → R
  | .new ds => .val (.lst ds)
  | r => r
/-- a new list becomes known -/
theorem frz_new {Fs Hs : Hp} {Γs : Gm} {v : V} {ds : List D} (q : Po T Fs σ Hs Γs F H Γ) (h : RepR T F σ H Γ Hs v (.new ds)) : ∃ F', Po T Fs σ Hs Γs F' H Γ ∧ Same F F' ∧ Rep T.K F' v (.lst ds) := by
  obtain ⟨a, vs, rfl, ha, fa, hs, ra, no⟩ := h
  have p := q.rp
  have ff : Same F (upd F a (.lst vs)) := same_new fa _
  refine ⟨upd F a (.lst vs), ⟨⟨⟨fun b u e => ?_, fun b u e => ?_, p.tabs⟩, p.len, fun i e h => ?_, p.apart⟩, fun b o h => ff _ _ (q.ff b o h), q.fr, q.ow, q.gro, fun b o h => ?_, q.sl⟩, ff, .lst (.inl upd_same) (ra.mono ff)⟩
  · by_cases hb : b = a
    · subst hb; rw [upd_same] at e; cases e; exact ha
    · rw [upd_ne hb] at e; exact p.sub _ _ e
  · by_cases hb : b = a
    · subst hb; rw [upd_same] at e; cases e; exact lst_nt
    · rw [upd_ne hb] at e; exact p.nt _ _ e
  · obtain ⟨w, e1, re⟩ := p.at_ i e h
    refine ⟨w, e1, ?_⟩
    cases e with
    | shr d => exact Rep.mono ff re
    | own es =>
      obtain ⟨b, ws, rfl, hb, fb, rb⟩ := re
      refine ⟨b, ws, rfl, hb, ?_, rb.mono ff⟩
      rw [upd_ne (fun z : b = a => no ⟨i, es, h, by rw [← z]; exact e1⟩)]
      exact fb
  · by_cases hb : b = a
    · subst hb; exact .inr (.inl hs)
    · rw [upd_ne hb] at h; exact q.nf b o h
theorem RepR.held {Fs Hs : Hp} {Γs : Gm} {v : V} {r : R} (q : Po T Fs σ Hs Γs F H Γ) (h : RepR T F σ H Γ Hs v r) : ∃ F', Po T Fs σ Hs Γs F' H Γ ∧ Same F F' ∧ RepR T F' σ H Γ Hs v r.hold := by
  cases r with
  | val d => exact ⟨F, q, fun _ _ h => h, h⟩
  | new ds => exact frz_new q h
  | slot i => exact ⟨F, q, fun _ _ h => h, h⟩
/-- what was held stays -/
theorem RepR.on {Hs : Hp} {v : V} {r : R} (h : RepR T F σ H Γ Hs v r.hold) (q : Po T F σ H Γ F' H' Γ') : RepR T F' σ H' Γ' Hs v r.hold := by
  cases r with
  | val d => exact Rep.mono q.ff h
  | new ds => exact Rep.mono q.ff h
  | slot i =>
    obtain ⟨e1, e, e2⟩ := h
    exact ⟨e1, q.sl i e e2⟩
/-- all becomes known -/
def frz (Γ : Gm) : R → Option (D × Gm)
  | .val d => some (d, Γ)
  | .new ds => some (.lst ds, Γ)
  | .slot i => match Γ[i]? with
    | some (some (.shr d)) => some (d, Γ)
    | some (some (.own ds)) => some (.lst ds, Γ.set i (some (.shr (.lst ds))))
    | _ => none
theorem RepR.frz {Fs Hs : Hp} {Γs : Gm} {v : V} {r : R} {d : D} (q : Po T Fs σ Hs Γs F H Γ) (h : RepR T F σ H Γ Hs v r) (e : frz Γ r = some (d, Γ')) : ∃ F', Po T Fs σ Hs Γs F' H Γ' ∧ Same F F' ∧ Rep T.K F' v d := by
  cases r with
  | val d => cases e; exact ⟨F, q, fun _ _ h => h, h⟩
  | new ds => cases e; exact frz_new q h
  | slot i =>
    have p := q.rp
    obtain ⟨e1, en, e2⟩ := h
    simp only [Dt.frz, e2] at e
    obtain ⟨v', e3, re⟩ := p.at_ i en e2
    rw [e1] at e3
    cases e3
    cases en with
    | shr d' => cases e; exact ⟨F, q, fun _ _ h => h, re⟩
    | own ds =>
      cases e
      obtain ⟨a, vs, rfl, ha, fa, ra⟩ := re
      have ff : Same F (upd F a (.lst vs)) := same_new fa _
      have hil : i < Γ.length := (List.getElem?_eq_some_iff.mp e2).1
      have get : ∀ (j : Nat) (e : En), (Γ.set i (some (.shr (.lst ds))))[j]? = some (some e) → (j = i ∧ e = .shr (.lst ds)) ∨ (j ≠ i ∧ Γ[j]? = some (some e)) := fun j e hj => by
        by_cases hji : j = i
        · subst hji
          rw [List.getElem?_set_self hil] at hj
          cases hj
          exact .inl ⟨rfl, rfl⟩
        · rw [List.getElem?_set_ne (Ne.symm hji)] at hj
          exact .inr ⟨hji, hj⟩
      have ow : ∀ (j : Nat) (es : List D), (Γ.set i (some (.shr (.lst ds))))[j]? = some (some (En.own es)) → Γ[j]? = some (some (En.own es)) := fun j es h1 => by
        rcases get j _ h1 with ⟨_, z⟩ | ⟨_, z⟩
        · cases z
        · exact z
      have rr : Rep T.K (upd F a (.lst vs)) (.ref a) (.lst ds) := .lst (.inl upd_same) (ra.mono ff)
      refine ⟨upd F a (.lst vs), ⟨⟨⟨fun b u e => ?_, fun b u e => ?_, p.tabs⟩, by simpa using p.len, fun j e h => ?_, fun j k es es' w h1 h2 h3 h4 => ?_⟩, fun b o h => ff _ _ (q.ff b o h), q.fr, fun j es h => q.ow j es (ow j es h), q.gro, fun b o h => ?_, fun j e h => ?_⟩, ff, rr⟩
      · by_cases hb : b = a
        · subst hb; rw [upd_same] at e; cases e; exact ha
        · rw [upd_ne hb] at e; exact p.sub _ _ e
      · by_cases hb : b = a
        · subst hb; rw [upd_same] at e; cases e; exact lst_nt
        · rw [upd_ne hb] at e; exact p.nt _ _ e
      · rcases get j e h with ⟨rfl, rfl⟩ | ⟨hji, h⟩
        · exact ⟨_, e1, rr⟩
        · obtain ⟨w, e3, re⟩ := p.at_ j e h
          refine ⟨w, e3, ?_⟩
          cases e with
          | shr d => exact Rep.mono ff re
          | own es =>
            obtain ⟨b, ws, rfl, hb, fb, rb⟩ := re
            refine ⟨b, ws, rfl, hb, ?_, rb.mono ff⟩
            rw [upd_ne (fun z : b = a => hji (p.apart j i es ds _ h e2 e3 (by rw [z]; exact e1)))]
            exact fb
      · rcases get j _ h1 with ⟨_, z⟩ | ⟨_, h1⟩
        · cases z
        rcases get k _ h2 with ⟨_, z⟩ | ⟨_, h2⟩
        · cases z
        exact p.apart j k es es' w h1 h2 h3 h4
      · by_cases hb : b = a
        · subst hb; exact .inr (.inr (q.ows ⟨i, ds, e2, e1⟩))
        · rw [upd_ne hb] at h; exact q.nf b o h
      · obtain ⟨e', h'⟩ := q.sl j e h
        by_cases hji : j = i
        · subst hji
          exact ⟨_, List.getElem?_set_self hil⟩
        · exact ⟨e', by rw [List.getElem?_set_ne (Ne.symm hji)]; exact h'⟩

theorem PRep.of {K : PySem.W.Frag} {v : V} {d : D} (h : Rep K F v d) : PRep K F H v d := .inl h
theorem PRep.int {K : PySem.W.Frag} {v : V} {i : Int} (h : PRep K F H v (.int i)) : v = .int i := by
  rcases h with h | ⟨_, _, _, _, z, _⟩
  · cases h; rfl
  · cases z
theorem PRep.str {K : PySem.W.Frag} {v : V} {x : Str} (h : PRep K F H v (.str x)) : v = .str x := by
  rcases h with h | ⟨_, _, _, _, z, _⟩
  · cases h; rfl
  · cases z
theorem PRep.bl {K : PySem.W.Frag} {v : V} {b : Bool} (h : PRep K F H v (.bl b)) : v = .bl b := by
  rcases h with h | ⟨_, _, _, _, z, _⟩
  · cases h; rfl
  · cases z
theorem PRep.non {K : PySem.W.Frag} {v : V} (h : PRep K F H v .non) : v = .non := by
  rcases h with h | ⟨_, _, _, _, z, _⟩
  · cases h; rfl
  · cases z
theorem PRep.lst {K : PySem.W.Frag} {v : V} {ds : List D} (s : Same F H) (h : PRep K F H v (.lst ds)) : ∃ a vs, v = .ref a ∧ L2.Rd H a (.lst vs) ∧ RepA K F vs ds := by
  rcases h with h | ⟨a, vs, ds, e, z, ha, r⟩
  · cases h with | lst h r => exact ⟨_, _, rfl, rd_same h s, r⟩
  · cases z; exact ⟨a, vs, e, .inl ha, r⟩
theorem PRep.scr {K : PySem.W.Frag} {v : V} {ds : List D} (s : Same F H) (h : PRep K F H v (.scr ds)) : ∃ a vs, v = .ref a ∧ SqL K H a vs ∧ RepA K F vs ds := by
  rcases h with h | ⟨_, _, _, _, z, _⟩
  · cases h with | scr h r => exact ⟨_, _, rfl, sql_same h s, r⟩
  · cases z
theorem PRep.tup {K : PySem.W.Frag} {v : V} {ds : List D} (s : Same F H) (h : PRep K F H v (.tup ds)) : ∃ a vs, v = .ref a ∧ SqT K H a vs ∧ RepA K F vs ds := by
  rcases h with h | ⟨_, _, _, _, z, _⟩
  · cases h with | tup h r => exact ⟨_, _, rfl, sqt_same h s, r⟩
  · cases z
inductive PRepA (K : PySem.W.Frag) (F H : Hp) : List V → List D → Prop
  | nil : PRepA K F H [] []
  | cons {v : V} {d : D} {vs : List V} {ds : List D} : PRep K F H v d → PRepA K F H vs ds → PRepA K F H (v :: vs) (d :: ds)
theorem PRepA.one {K : PySem.W.Frag} {vs : List V} {d : D} (h : PRepA K F H vs [d]) : ∃ v, vs = [v] ∧ PRep K F H v d := by
  cases h with | cons h r => cases r; exact ⟨_, rfl, h⟩
theorem PRepA.two {K : PySem.W.Frag} {vs : List V} {d e : D} (h : PRepA K F H vs [d, e]) : ∃ v w, vs = [v, w] ∧ PRep K F H v d ∧ PRep K F H w e := by
  cases h with | cons h r => cases r with | cons h2 r => cases r; exact ⟨_, _, rfl, h, h2⟩
/-- a result of a pure step -/
def RepN (T : Tb) (F' H H' : Hp) (v : V) : R → Prop
  | .val d => Rep T.K F' v d
  | .new ds => ∃ a vs, v = .ref a ∧ H' a = some (.lst vs) ∧ F' a = none ∧ H a = none ∧ RepA T.K F' vs ds
  | .slot _ => False
theorem Rp.owns {b : Addr} (p : Rp T F σ H Γ) (h : Owns σ Γ b) : ∃ vs, H b = some (.lst vs) ∧ F b = none := by
  obtain ⟨i, ds, e1, e2⟩ := h
  obtain ⟨v, e3, a, vs, rfl, ha, fa, _⟩ := p.at_ i _ e1
  rw [e2] at e3
  cases e3
  exact ⟨vs, ha, fa⟩
theorem RepN.toR {Fs Hs : Hp} {Γs : Gm} {v : V} {r : R} (q : Po T Fs σ Hs Γs F H Γ) (h : RepN T F' H H' v r) : RepR T F' σ H' Γ Hs v r := by
  cases r with
  | val d => exact h
  | new ds =>
    obtain ⟨a, vs, e, ha, fa, na, ra⟩ := h
    refine ⟨a, vs, e, ha, fa, q.none na, ra, fun z => ?_⟩
    obtain ⟨ws, hb, _⟩ := q.rp.owns z
    rw [na] at hb
    cases hb
  | slot i => exact h.elim
/-! ### expressions -/
structure XD where
  c : Str
  ns : List Str
  ds : List D
def XE (T : Tb) (F' H' : Hp) (E : XK) (xd : XD) : Prop := ∀ C : Addr, PySem.W.nsIn T.K mainGlobals xd.c = some (some (.ref C)) → (xd.ns = [] → E (.ref C) none H') ∧ ∀ (dx : Addr) (vs : List V), H' dx = some (.xd (xd.ns.zip vs)) → RepA T.K F' vs xd.ds → E (.ref C) (some dx) H'
def XO (T : Tb) (σ : St) (E : XK) (Ξ : XD → Prop) (F H : Hp) (Γ : Gm) : Prop := ∀ F' H' Γ' xd, Ξ xd → Po T F σ H Γ F' H' Γ' → XE T F' H' E xd
theorem XO.on {E : XK} {Ξ : XD → Prop} (x : XO T σ E Ξ F H Γ) (q : Po T F σ H Γ F' H' Γ') : XO T σ E Ξ F' H' Γ' := fun F2 H2 Γ2 xd h p => x F2 H2 Γ2 xd h (q.trans p)
abbrev WE := Gm → (R → Gm → Prop) → (XD → Prop) → Prop
abbrev WT := Gm → (Bool → Gm → Prop) → (XD → Prop) → Prop
abbrev WA := Gm → (List R → Gm → Prop) → (XD → Prop) → Prop
def ED (T : Tb) (E : XK) (t : TE) (w : WE) : Prop := ∀ (F : Hp) (σ : St) (H : Hp) (Γ : Gm) (Q : VK) (Ψ : R → Gm → Prop) (Ξ : XD → Prop), Rp T F σ H Γ → w Γ Ψ Ξ → XO T σ E Ξ F H Γ →
  (∀ F' H' Γ' v r, Ψ r Γ' → Po T F σ H Γ F' H' Γ' → RepR T F' σ H' Γ' H v r → Q v H') → t σ H Q
def TD (T : Tb) (E : XK) (t : TT) (w : WT) : Prop := ∀ (F : Hp) (σ : St) (H : Hp) (Γ : Gm) (Q : Bool → Hp → Prop) (Ψ : Bool → Gm → Prop) (Ξ : XD → Prop), Rp T F σ H Γ → w Γ Ψ Ξ → XO T σ E Ξ F H Γ →
  (∀ F' H' Γ' b, Ψ b Γ' → Po T F σ H Γ F' H' Γ' → Q b H') → t σ H Q
inductive RepRs (T : Tb) (F : Hp) (σ : St) (H : Hp) (Γ : Gm) (Hs : Hp) : List V → List R → Prop
  | nil : RepRs T F σ H Γ Hs [] []
  | cons {v : V} {r : R} {vs : List V} {rs : List R} : RepR T F σ H Γ Hs v r.hold → RepRs T F σ H Γ Hs vs rs → RepRs T F σ H Γ Hs (v :: vs) (r.hold :: rs)
def AD (T : Tb) (E : XK) (t : TA) (w : WA) : Prop := ∀ (F : Hp) (σ : St) (H : Hp) (Γ : Gm) (Q : List V → Hp → Prop) (Ψ : List R → Gm → Prop) (Ξ : XD → Prop), Rp T F σ H Γ → w Γ Ψ Ξ → XO T σ E Ξ F H Γ →
  (∀ F' H' Γ' vs rs, Ψ rs Γ' → Po T F σ H Γ F' H' Γ' → RepRs T F' σ H' Γ' H vs rs → Q vs H') → t σ H Q
variable {E : XK} {t ta tb tc te : TE} {w wa wb wc we : WE}
def wVar (i : Nat) : WE := fun Γ Ψ _ => ∃ e, Γ[i]? = some (some e) ∧ Ψ (match e with | .shr d => .val d | .own _ => .slot i) Γ
theorem ed_var (i : Nat) : ED T E (tVar i) (wVar i) := fun F σ H Γ Q Ψ Ξ p h _ k => by
  obtain ⟨e, h1, h2⟩ := h
  obtain ⟨v, e1, r⟩ := p.at_ i e h1
  refine ⟨v, e1, k F H Γ v _ h2 p.refl ?_⟩
  cases e with
  | shr d => exact r
  | own ds => exact ⟨e1, _, h1⟩
def wC (d : D) : WE := fun Γ Ψ _ => Ψ (.val d) Γ
theorem ed_c {v : V} {d : D} (h : ∀ F, Rep T.K F v d) : ED T E (tC v) (wC d) := fun F σ H Γ Q Ψ Ξ p h1 _ k => k F H Γ v _ h1 p.refl (h F)
def OD (T : Tb) (r : L2.R2) (g : D → D → (R → Prop) → Prop) : Prop := ∀ (F H : Hp) (x y : V) (d e : D) (Q : VK) (Ψ : R → Prop), Ok T F H → PRep T.K F H x d → PRep T.K F H y e → g d e Ψ →
  (∀ F' H' v r, Ψ r → Nw T F H F' H' → RepN T F' H H' v r → Q v H') → r x y H Q
def wOp (g : D → D → (R → Prop) → Prop) (wa wb : WE) : WE := fun Γ Ψ Ξ => wa Γ (fun r1 Γ1 => wb Γ1 (fun r2 Γ2 => ∃ d1 d2, r1.at Γ2 = some d1 ∧ r2.at Γ2 = some d2 ∧ g d1 d2 fun r => Ψ r Γ2) Ξ) Ξ
theorem R.at_hold (Γ : Gm) (r : R) : r.hold.at Γ = r.at Γ := by cases r <;> rfl
theorem ed_op {r : L2.R2} {g : D → D → (R → Prop) → Prop} (o : OD T r g) (ha : ED T E ta wa) (hb : ED T E tb wb) : ED T E (tOp r ta tb) (wOp g wa wb) := by
  intro F σ H Γ Q Ψ Ξ p h x k
  refine ha F σ H Γ _ _ Ξ p h x fun F1 H1 Γ1 v1 r1 h1 q1 e1 => ?_
  obtain ⟨F2, q2, s2, e2⟩ := RepR.held q1 e1
  refine hb F2 σ H1 Γ1 _ _ Ξ q2.rp h1 (x.on q2) fun F3 H3 Γ3 v2 r2 h3 q3 e3 => ?_
  obtain ⟨d1, d2, a1, a2, hg⟩ := h3
  have e2' := e2.on q3
  rw [← R.at_hold] at a1
  refine o F3 H3 v1 v2 d1 d2 Q _ q3.rp.toOk (e2'.peek q3.rp a1) (e3.peek q3.rp a2) hg fun F4 H4 v r h4 n4 e4 => ?_
  have q := q2.trans q3
  exact k F4 H4 Γ3 v r h4 (q.nw n4) (e4.toR q)
def UD (T : Tb) (r : V → Hp → VK → Prop) (g : D → (R → Prop) → Prop) : Prop := ∀ (F H : Hp) (x : V) (d : D) (Q : VK) (Ψ : R → Prop), Ok T F H → PRep T.K F H x d → g d Ψ →
  (∀ F' H' v r, Ψ r → Nw T F H F' H' → RepN T F' H H' v r → Q v H') → r x H Q
def wUn (g : D → (R → Prop) → Prop) (wa : WE) : WE := fun Γ Ψ Ξ => wa Γ (fun r1 Γ1 => ∃ d1, r1.at Γ1 = some d1 ∧ g d1 fun r => Ψ r Γ1) Ξ
theorem ed_un {r : V → Hp → VK → Prop} {g : D → (R → Prop) → Prop} (o : UD T r g) (ha : ED T E ta wa) : ED T E (tUn r ta) (wUn g wa) := by
  intro F σ H Γ Q Ψ Ξ p h x k
  refine ha F σ H Γ _ _ Ξ p h x fun F1 H1 Γ1 v1 r1 h1 q1 e1 => ?_
  obtain ⟨d1, a1, hg⟩ := h1
  exact o F1 H1 v1 d1 Q _ q1.rp.toOk (e1.peek q1.rp a1) hg fun F4 H4 v r h4 n4 e4 => k F4 H4 Γ1 v r h4 (q1.nw n4) (e4.toR q1)
/-! tests -/
def wB (w : WE) : WT := fun Γ Ψ Ξ => w Γ (fun r Γ1 => ∃ b, r.at Γ1 = some (.bl b) ∧ Ψ b Γ1) Ξ
theorem td_test (h : ED T E t w) : TD T E (tTest t) (wB w) := fun F σ H Γ Q Ψ Ξ p h1 x k => h F σ H Γ _ _ Ξ p h1 x fun F' H' Γ' v r hr q e => by
  obtain ⟨b, a, hb⟩ := hr
  exact ⟨b, (e.peek q.rp a).bl, k F' H' Γ' b hb q⟩
theorem td_b (h : ED T E t w) : TD T E (tB t) (wB w) := fun F σ H Γ Q Ψ Ξ p h1 x k => h F σ H Γ _ _ Ξ p h1 x fun F' H' Γ' v r hr q e => by
  obtain ⟨b, a, hb⟩ := hr
  exact ⟨b, (e.peek q.rp a).bl, k F' H' Γ' b hb q⟩
variable {t1 t2 : TT} {w1 w2 : WT}
def wNot (w : WT) : WT := fun Γ Ψ Ξ => w Γ (fun b Γ1 => Ψ (!b) Γ1) Ξ
theorem td_not (h : TD T E t1 w1) : TD T E (tNot t1) (wNot w1) := fun F σ H Γ Q Ψ Ξ p h1 x k => h F σ H Γ _ _ Ξ p h1 x fun F' H' Γ' b hb q => k F' H' Γ' _ hb q
def wAnd (w1 w2 : WT) : WT := fun Γ Ψ Ξ => w1 Γ (fun b Γ1 => if b = true then w2 Γ1 Ψ Ξ else Ψ false Γ1) Ξ
theorem td_and (h : TD T E t1 w1) (h' : TD T E t2 w2) : TD T E (tAnd t1 t2) (wAnd w1 w2) := fun F σ H Γ Q Ψ Ξ p h1 x k => h F σ H Γ _ _ Ξ p h1 x fun F' H' Γ' b hb q => by
  cases b with
  | true => exact h' F' σ H' Γ' _ _ Ξ q.rp hb (x.on q) fun F2 H2 Γ2 b2 hb2 q2 => k F2 H2 Γ2 b2 hb2 (q.trans q2)
  | false => exact k F' H' Γ' _ hb q
def wOr (w1 w2 : WT) : WT := fun Γ Ψ Ξ => w1 Γ (fun b Γ1 => if b = true then Ψ true Γ1 else w2 Γ1 Ψ Ξ) Ξ
theorem td_or (h : TD T E t1 w1) (h' : TD T E t2 w2) : TD T E (tOr t1 t2) (wOr w1 w2) := fun F σ H Γ Q Ψ Ξ p h1 x k => h F σ H Γ _ _ Ξ p h1 x fun F' H' Γ' b hb q => by
  cases b with
  | false => exact h' F' σ H' Γ' _ _ Ξ q.rp hb (x.on q) fun F2 H2 Γ2 b2 hb2 q2 => k F2 H2 Γ2 b2 hb2 (q.trans q2)
  | true => exact k F' H' Γ' _ hb q
def wIf (w1 : WT) (wa wb : WE) : WE := fun Γ Ψ Ξ => w1 Γ (fun b Γ1 => if b = true then wa Γ1 Ψ Ξ else wb Γ1 Ψ Ξ) Ξ
theorem ed_if (h : TD T E t1 w1) (ha : ED T E ta wa) (hb : ED T E tb wb) : ED T E (tIf t1 ta tb) (wIf w1 wa wb) := fun F σ H Γ Q Ψ Ξ p h1 x k => h F σ H Γ _ _ Ξ p h1 x fun F' H' Γ' b hb1 q => by
  have fin : ∀ {F2 H2 Γ2 v r}, Po T F' σ H' Γ' F2 H2 Γ2 → RepR T F2 σ H2 Γ2 H' v r → RepR T F2 σ H2 Γ2 H v r := fun {F2 H2 Γ2 v r} q2 e => by
    cases r with
    | val d => exact e
    | new ds => obtain ⟨a, vs, e1, e2, e3, e4, e5⟩ := e; exact ⟨a, vs, e1, e2, e3, q.none e4, e5⟩
    | slot i => exact e
  cases b with
  | true => exact ha F' σ H' Γ' _ _ Ξ q.rp hb1 (x.on q) fun F2 H2 Γ2 v r hr q2 e => k F2 H2 Γ2 v r hr (q.trans q2) (fin q2 e)
  | false => exact hb F' σ H' Γ' _ _ Ξ q.rp hb1 (x.on q) fun F2 H2 Γ2 v r hr q2 e => k F2 H2 Γ2 v r hr (q.trans q2) (fin q2 e)
theorem RepR.back {Hs : Hp} {v : V} {r : R} (q : Po T F1 σ Hs Γ1 F H Γ) (e : RepR T F' σ H' Γ' H v r) : RepR T F' σ H' Γ' Hs v r := by
  cases r with
  | val d => exact e
  | new ds => obtain ⟨a, vs, e1, e2, e3, e4, e5⟩ := e; exact ⟨a, vs, e1, e2, e3, q.none e4, e5⟩
  | slot i => exact e
def wAndV (wa wb : WE) : WE := fun Γ Ψ Ξ => wa Γ (fun r Γ1 => ∃ c, r.at Γ1 = some (.bl c) ∧ if c = true then wb Γ1 Ψ Ξ else Ψ (.val (.bl false)) Γ1) Ξ
theorem ed_and (ha : ED T E ta wa) (hb : ED T E tb wb) : ED T E (tAndV ta tb) (wAndV wa wb) := fun F σ H Γ Q Ψ Ξ p h1 x k => ha F σ H Γ _ _ Ξ p h1 x fun F' H' Γ' v r hr q e => by
  obtain ⟨c, a, hc⟩ := hr
  refine ⟨c, (e.peek q.rp a).bl, ?_⟩
  cases c with
  | true => exact hb F' σ H' Γ' _ _ Ξ q.rp hc (x.on q) fun F2 H2 Γ2 v r hr q2 e => k F2 H2 Γ2 v r hr (q.trans q2) (e.back q)
  | false => exact k F' H' Γ' _ _ hc q (Rep.bl _)
def wOrV (wa wb : WE) : WE := fun Γ Ψ Ξ => wa Γ (fun r Γ1 => ∃ c, r.at Γ1 = some (.bl c) ∧ if c = true then Ψ (.val (.bl true)) Γ1 else wb Γ1 Ψ Ξ) Ξ
theorem ed_or (ha : ED T E ta wa) (hb : ED T E tb wb) : ED T E (tOrV ta tb) (wOrV wa wb) := fun F σ H Γ Q Ψ Ξ p h1 x k => ha F σ H Γ _ _ Ξ p h1 x fun F' H' Γ' v r hr q e => by
  obtain ⟨c, a, hc⟩ := hr
  refine ⟨c, (e.peek q.rp a).bl, ?_⟩
  cases c with
  | false => exact hb F' σ H' Γ' _ _ Ξ q.rp hc (x.on q) fun F2 H2 Γ2 v r hr q2 e => k F2 H2 Γ2 v r hr (q.trans q2) (e.back q)
  | true => exact k F' H' Γ' _ _ hc q (Rep.bl _)
def wNotV (wa : WE) : WE := fun Γ Ψ Ξ => wa Γ (fun r Γ1 => ∃ c, r.at Γ1 = some (.bl c) ∧ Ψ (.val (.bl (!c))) Γ1) Ξ
theorem ed_not (ha : ED T E ta wa) : ED T E (tNotV ta) (wNotV wa) := fun F σ H Γ Q Ψ Ξ p h1 x k => ha F σ H Γ _ _ Ξ p h1 x fun F' H' Γ' v r hr q e => by
  obtain ⟨c, a, hc⟩ := hr
  exact ⟨c, (e.peek q.rp a).bl, k F' H' Γ' _ _ hc q (Rep.bl _)⟩
/-! a < b < c: both rules without a trace -/
def BD (T : Tb) (r : L2.R2) (g : D → D → (Bool → Prop) → Prop) : Prop := ∀ (F H : Hp) (x y : V) (d e : D) (Q : VK) (Ψ : Bool → Prop), Ok T F H → PRep T.K F H x d → PRep T.K F H y e → g d e Ψ → (∀ b, Ψ b → Q (.bl b) H) → r x y H Q
theorem BD.od {r : L2.R2} {g : D → D → (Bool → Prop) → Prop} (h : BD T r g) : OD T r (fun d e Ψ => g d e fun b => Ψ (.val (.bl b))) := fun F H x y d e Q Ψ o h1 h2 hg k =>
  h F H x y d e Q _ o h1 h2 hg fun b hb => k F H _ _ hb o.refl (Rep.bl _)
def wChain (g g' : D → D → (Bool → Prop) → Prop) (wa wb wc : WE) : WE := fun Γ Ψ Ξ => wa Γ (fun r1 Γ1 => wb Γ1 (fun r2 Γ2 => ∃ d1 d2, r1.at Γ2 = some d1 ∧ r2.at Γ2 = some d2 ∧ g d1 d2 fun b => if b = true then wc Γ2 (fun r3 Γ3 => ∃ d2 d3, r2.at Γ3 = some d2 ∧ r3.at Γ3 = some d3 ∧ g' d2 d3 fun b => Ψ (.val (.bl b)) Γ3) Ξ else Ψ (.val (.bl false)) Γ2) Ξ) Ξ
theorem ed_chain {r r' : L2.R2} {g g' : D → D → (Bool → Prop) → Prop} (o : BD T r g) (o' : BD T r' g') (ha : ED T E ta wa) (hb : ED T E tb wb) (hc : ED T E tc wc) : ED T E (tChain r r' ta tb tc) (wChain g g' wa wb wc) := by
  intro F σ H Γ Q Ψ Ξ p h x k
  refine ha F σ H Γ _ _ Ξ p h x fun F1 H1 Γ1 v1 r1 h1 q1 e1 => ?_
  obtain ⟨F2, q2, s2, e2⟩ := RepR.held q1 e1
  refine hb F2 σ H1 Γ1 _ _ Ξ q2.rp h1 (x.on q2) fun F3 H3 Γ3 v2 r2 h3 q3 e3 => ?_
  obtain ⟨d1, d2, a1, a2, hg⟩ := h3
  have e2' := e2.on q3
  rw [← R.at_hold] at a1
  obtain ⟨F4, q4, s4, e4⟩ := RepR.held (q2.trans q3) (e3.back q2)
  have a2' := a2
  rw [← R.at_hold] at a2'
  refine o F4 H3 v1 v2 d1 d2 _ _ q4.rp.toOk ?_ (e4.peek q4.rp a2') hg fun b hb1 => ?_
  · rcases e2'.peek q3.rp a1 with z | ⟨a, vs, ds, z1, z2, z3, z4⟩
    · exact .inl (z.mono s4)
    · exact .inr ⟨a, vs, ds, z1, z2, z3, z4.mono s4⟩
  refine ⟨b, rfl, ?_⟩
  cases b with
  | false => exact k F4 H3 Γ3 _ _ hb1 q4 (Rep.bl _)
  | true =>
    refine hc F4 σ H3 Γ3 _ _ Ξ q4.rp hb1 (x.on q4) fun F5 H5 Γ5 v3 r3 h5 q5 e5 => ?_
    obtain ⟨d2', d3, a3, a4, hg'⟩ := h5
    rw [← R.at_hold] at a3
    exact o' F5 H5 v2 v3 d2' d3 Q _ q5.rp.toOk ((e4.on q5).peek q5.rp a3) (e5.peek q5.rp a4) hg' fun b hb2 => k F5 H5 Γ5 _ _ hb2 (q4.trans q5) (Rep.bl _)
/-! arguments -/
variable {tA : TA} {wA : WA}
def wANil : WA := fun Γ Ψ _ => Ψ [] Γ
theorem ad_nil : AD T E tNil wANil := fun F σ H Γ Q Ψ Ξ p h x k => k F H Γ _ _ h p.refl .nil
def wACons (w : WE) (u : WA) : WA := fun Γ Ψ Ξ => w Γ (fun r Γ1 => u Γ1 (fun rs Γ2 => Ψ (r.hold :: rs) Γ2) Ξ) Ξ
theorem RepRs.back {Hs : Hp} {vs : List V} {rs : List R} (q : Po T F1 σ Hs Γ1 F H Γ) : RepRs T F' σ H' Γ' H vs rs → RepRs T F' σ H' Γ' Hs vs rs
  | .nil => .nil
  | .cons h r => .cons (h.back q) (RepRs.back q r)
theorem ad_cons (h : ED T E t w) (h' : AD T E tA wA) : AD T E (tCons t tA) (wACons w wA) := by
  intro F σ H Γ Q Ψ Ξ p h1 x k
  refine h F σ H Γ _ _ Ξ p h1 x fun F1 H1 Γ1 v r hr q e => ?_
  obtain ⟨F2, q2, s2, e2⟩ := RepR.held q e
  exact h' F2 σ H1 Γ1 _ _ Ξ q2.rp hr (x.on q2) fun F3 H3 Γ3 vs rs hrs q3 e3 => k F3 H3 Γ3 _ _ hrs (q2.trans q3) (.cons (e2.on q3) (e3.back q2))
def ats (Γ : Gm) : List R → Option (List D)
  | [] => some []
  | r :: rs => match r.at Γ, ats Γ rs with
    | some d, some ds => some (d :: ds)
    | _, _ => none
theorem RepRs.peek {Hs : Hp} (p : Rp T F σ H Γ) : ∀ {vs : List V} {rs : List R} {ds : List D}, RepRs T F σ H Γ Hs vs rs → ats Γ rs = some ds → PRepA T.K F H vs ds
  | _, _, _, .nil, e => by cases e; exact .nil
  | _, _, _, .cons (r := r) (rs := rs) h rr, e => by
    unfold ats at e
    split at e
    · rename_i d ds' e1 e2
      cases e
      exact .cons (h.peek p e1) (RepRs.peek p rr e2)
    · cases e
def CD (T : Tb) (r : List V → Hp → VK → Prop) (g : List D → (R → Prop) → Prop) : Prop := ∀ (F H : Hp) (vs : List V) (ds : List D) (Q : VK) (Ψ : R → Prop), Ok T F H → PRepA T.K F H vs ds → g ds Ψ →
  (∀ F' H' v r, Ψ r → Nw T F H F' H' → RepN T F' H H' v r → Q v H') → r vs H Q
def wCB (g : List D → (R → Prop) → Prop) (wA : WA) : WE := fun Γ Ψ Ξ => wA Γ (fun rs Γ1 => ∃ ds, ats Γ1 rs = some ds ∧ g ds fun r => Ψ r Γ1) Ξ
theorem ed_cb {r : List V → Hp → VK → Prop} {g : List D → (R → Prop) → Prop} (c : CD T r g) (h : AD T E tA wA) : ED T E (tCB r tA) (wCB g wA) := fun F σ H Γ Q Ψ Ξ p h1 x k => h F σ H Γ _ _ Ξ p h1 x fun F1 H1 Γ1 vs rs hr q e => by
  obtain ⟨ds, a, hg⟩ := hr
  exact c F1 H1 vs ds Q _ q.rp.toOk (e.peek q.rp a) hg fun F4 H4 v r h4 n4 e4 => k F4 H4 Γ1 v r h4 (q.nw n4) (e4.toR q)
def frzL (Γ : Gm) : List R → Option (List D × Gm)
  | [] => some ([], Γ)
  | r :: rs => match frz Γ r with
    | some (d, Γ1) => match frzL Γ1 rs with
      | some (ds, Γ2) => some (d :: ds, Γ2)
      | none => none
    | none => none
theorem frz_sl {r : R} {d : D} (e : frz Γ r = some (d, Γ')) : ∀ (i : Nat) (en : En), Γ[i]? = some (some en) → ∃ e', Γ'[i]? = some (some e') := fun i en h => by
  cases r with
  | val d => cases e; exact ⟨_, h⟩
  | new ds => cases e; exact ⟨_, h⟩
  | slot j =>
    simp only [frz] at e
    split at e
    · cases e; exact ⟨_, h⟩
    · rename_i ds e1
      cases e
      have hil : j < Γ.length := (List.getElem?_eq_some_iff.mp e1).1
      by_cases hj : i = j
      · subst hj; exact ⟨_, List.getElem?_set_self hil⟩
      · exact ⟨en, by rw [List.getElem?_set_ne (Ne.symm hj)]; exact h⟩
    · cases e
theorem RepRs.sl {Hs : Hp} (ff : Same F F') (sl : ∀ (i : Nat) (en : En), Γ[i]? = some (some en) → ∃ e', Γ'[i]? = some (some e')) : ∀ {vs : List V} {rs : List R}, RepRs T F σ H Γ Hs vs rs → RepRs T F' σ H Γ' Hs vs rs
  | _, _, .nil => .nil
  | _, _, .cons (r := r) h rr => by
    refine .cons ?_ (RepRs.sl ff sl rr)
    cases r with
    | val d => exact Rep.mono ff h
    | new ds => exact Rep.mono ff h
    | slot i => obtain ⟨e1, e, e2⟩ := h; exact ⟨e1, sl i e e2⟩
theorem RepRs.frz {Fs Hs : Hp} {Γs : Gm} : ∀ {vs : List V} {rs : List R} {ds : List D} {F : Hp} {Γ Γ' : Gm}, Po T Fs σ Hs Γs F H Γ → RepRs T F σ H Γ Hs vs rs → frzL Γ rs = some (ds, Γ') → ∃ F', Po T Fs σ Hs Γs F' H Γ' ∧ Same F F' ∧ RepA T.K F' vs ds
  | _, _, _, F, _, _, q, .nil, e => by cases e; exact ⟨F, q, fun _ _ h => h, .nil⟩
  | _, _, _, F, Γ, Γ', q, .cons (r := r) (rs := rs) h rr, e => by
    unfold frzL at e
    split at e
    · rename_i d Γ1 e1
      split at e
      · rename_i ds' Γ2 e2
        cases e
        obtain ⟨F1, q1, s1, r1⟩ := h.frz q e1
        obtain ⟨F2, q2, s2, r2⟩ := RepRs.frz q1 (rr.sl s1 (frz_sl e1)) e2
        exact ⟨F2, q2, fun b o h => s2 b o (s1 b o h), .cons (r1.mono s2) r2⟩
      · cases e
    · cases e
/-! (a, b), [a, b] -/
def wTup (wA : WA) : WE := fun Γ Ψ Ξ => wA Γ (fun rs Γ1 => ∃ ds Γ2, frzL Γ1 rs = some (ds, Γ2) ∧ ds.length ≤ sizeLine ∧ Ψ (.val (.tup ds)) Γ2) Ξ
theorem ed_tup (h : AD T E tA wA) : ED T E (tTup tA) (wTup wA) := fun F σ H Γ Q Ψ Ξ p h1 x k => h F σ H Γ _ _ Ξ p h1 x fun F1 H1 Γ1 vs rs hr q e => by
  obtain ⟨ds, Γ2, a, hl, hp⟩ := hr
  obtain ⟨F2, q2, s2, r2⟩ := e.frz q a
  refine ⟨by rw [r2.length]; exact hl, fun p hp0 => ?_⟩
  have n := q2.rp.toOk.lay (o := .tup vs) hp0 tup_nt
  exact k _ _ Γ2 _ _ hp (q2.nw n) (Rep.tup (.inl (.inl upd_same)) (r2.mono n.ff))
def wLst (wA : WA) : WE := fun Γ Ψ Ξ => wA Γ (fun rs Γ1 => ∃ ds Γ2, frzL Γ1 rs = some (ds, Γ2) ∧ ds.length ≤ sizeLine ∧ Ψ (.new ds) Γ2) Ξ
theorem ed_lst (h : AD T E tA wA) : ED T E (tLst tA) (wLst wA) := fun F σ H Γ Q Ψ Ξ p h1 x k => h F σ H Γ _ _ Ξ p h1 x fun F1 H1 Γ1 vs rs hr q e => by
  obtain ⟨ds, Γ2, a, hl, hp⟩ := hr
  obtain ⟨F2, q2, s2, r2⟩ := e.frz q a
  refine ⟨by rw [r2.length]; exact hl, fun p hp0 => ?_⟩
  have n := q2.rp.toOk.put (o := .lst vs) hp0
  have fp : F2 p = none := by
    cases e : F2 p with
    | none => rfl
    | some u => have := q2.rp.sub _ _ e; rw [hp0] at this; cases this
  exact k _ _ Γ2 _ _ hp (q2.nw n) (RepN.toR (F' := F2) (H' := upd H1 p (.lst vs)) q2 (r := .new ds) ⟨p, vs, rfl, upd_same, fp, hp0, r2⟩)
end
end Dt

set_option Elab.async false
set_option linter.all false
set_option maxRecDepth 100000
set_option autoImplicit false
namespace Dt
open PySem L2 Kx
section
variable {T : Tb} {F F1 F2 F' H H1 H2 H' : Hp} {σ : St} {Γ Γ1 Γ2 Γ' : Gm} {E : XK} {t ta tb tc te : TE} {w wa wb wc we : WE} {tA : TA} {wA : WA}
/-! ### what a def promises, by data -/
abbrev WF := List D → List D → (R → List D → Prop) → (XD → Prop) → Prop
/-- what a call may do: io: the list at ra is lent, to be changed -/
structure Fx (T : Tb) (io : Bool) (ra : Addr) (F H F' H' : Hp) : Prop where
  ok : Ok T F' H'
  ff : Same F F'
  hh : ∀ b o, H b = some o → NoT o → ¬ (io = true ∧ b = ra) → H' b = some o
  gro : ∀ b o, H b = some o → ∃ o', H' b = some o'
  nf : ∀ b o, F' b = some o → F b = some o ∨ H b = none ∨ (io = true ∧ b = ra)
theorem Fx.nw {ra : Addr} (x : Fx T false ra F H F' H') : Nw T F H F' H' :=
  ⟨x.ok, x.ff, fun b o h n => x.hh b o h n (fun z => by cases z.1), x.gro, fun b o h => (x.nf b o h).elim .inl fun z => z.elim .inr fun y => by cases y.1⟩
theorem Nw.fx {io : Bool} {ra : Addr} (x : Nw T F H F' H') : Fx T io ra F H F' H' := ⟨x.ok, x.ff, fun b o h n _ => x.hh b o h n, x.gro, fun b o h => (x.nf b o h).elim .inl fun z => .inr (.inl z)⟩
def spD (T : Tb) (io : Bool) (wf : WF) : Sp := fun vs H Q E => ∃ (F : Hp) (ra : Addr) (rv : List V) (row : List D) (vs' : List V) (ds : List D) (Ψ : R → List D → Prop) (Ξ : XD → Prop),
  Ok T F H ∧ vs = (if io then .ref ra :: vs' else vs') ∧ (io = true → H ra = some (.lst rv) ∧ F ra = none ∧ RepA T.K F rv row) ∧ RepA T.K F vs' ds ∧ wf ds row Ψ Ξ ∧
  (∀ F' H' v r row', Ψ r row' → Fx T io ra F H F' H' → (io = true → ∃ rv', H' ra = some (.lst rv') ∧ F' ra = none ∧ RepA T.K F' rv' row') → RepN T F' H H' v r → Q v H') ∧
  ∀ F' H' xd, Ξ xd → Fx T io ra F H F' H' → XE T F' H' E xd
theorem po_io {i : Nat} {row row' : List D} {ra : Addr} {rv' : List V} (p : Rp T F σ H Γ) (hi : Γ[i]? = some (some (.own row))) (hσ : σ[i]? = some (some (.ref ra))) (x : Fx T true ra F H F' H') (h' : H' ra = some (.lst rv')) (f' : F' ra = none) (r' : RepA T.K F' rv' row') :
    Po T F σ H Γ F' H' (Γ.set i (some (.own row'))) := by
  have hil : i < Γ.length := (List.getElem?_eq_some_iff.mp hi).1
  have get : ∀ (j : Nat) (e : En), (Γ.set i (some (.own row')))[j]? = some (some e) → (j = i ∧ e = .own row') ∨ (j ≠ i ∧ Γ[j]? = some (some e)) := fun j e hj => by
    by_cases hji : j = i
    · subst hji
      rw [List.getElem?_set_self hil] at hj
      cases hj
      exact .inl ⟨rfl, rfl⟩
    · rw [List.getElem?_set_ne (Ne.symm hji)] at hj
      exact .inr ⟨hji, hj⟩
  have own : Owns σ Γ ra := ⟨i, row, hi, hσ⟩
  refine ⟨⟨x.ok, by simpa using p.len, fun j e h => ?_, fun j k es es' v h1 h2 h3 h4 => ?_⟩, x.ff, fun b o h n no => x.hh b o h n fun z => no (z.2 ▸ own), fun j es h => ?_, x.gro, fun b o h => ?_, fun j e h => ?_⟩
  · rcases get j e h with ⟨rfl, rfl⟩ | ⟨hji, h⟩
    · exact ⟨_, hσ, ra, rv', rfl, h', f', r'⟩
    · obtain ⟨v, e1, re⟩ := p.at_ j e h
      refine ⟨v, e1, ?_⟩
      cases e with
      | shr d => exact Rep.mono x.ff re
      | own es =>
        obtain ⟨b, ws, rfl, hb, fb, rb⟩ := re
        have hne : b ≠ ra := fun z => hji (p.apart j i es row _ h hi e1 (by rw [z]; exact hσ))
        refine ⟨b, ws, rfl, x.hh b _ hb lst_nt fun z => hne z.2, ?_, rb.mono x.ff⟩
        cases q : F' b with
        | none => rfl
        | some o =>
          rcases x.nf b o q with z | z | z
          · rw [fb] at z; cases z
          · rw [hb] at z; cases z
          · exact absurd z.2 hne
  · have one : ∀ (j : Nat) (es : List D), (Γ.set i (some (.own row')))[j]? = some (some (.own es)) → ∃ es', Γ[j]? = some (some (.own es')) := fun j es h => by
      rcases get j _ h with ⟨rfl, _⟩ | ⟨_, h⟩
      · exact ⟨row, hi⟩
      · exact ⟨es, h⟩
    obtain ⟨_, h1⟩ := one j es h1
    obtain ⟨_, h2⟩ := one k es' h2
    exact p.apart j k _ _ v h1 h2 h3 h4
  · rcases get j _ h with ⟨rfl, _⟩ | ⟨_, h1⟩
    · exact ⟨row, hi⟩
    · exact ⟨es, h1⟩
  · rcases x.nf b o h with z | z | z
    · exact .inl z
    · exact .inr (.inl z)
    · exact .inr (.inr (z.2 ▸ own))
  · by_cases hji : j = i
    · subst hji; exact ⟨_, List.getElem?_set_self hil⟩
    · exact ⟨e, by rw [List.getElem?_set_ne (Ne.symm hji)]; exact h⟩
def callW (io : Bool) (wf : WF) (rs : List R) (Γ : Gm) (Ψ : R → Gm → Prop) (Ξ : XD → Prop) : Prop := match io with
  | false => ∃ ds Γ1, frzL Γ rs = some (ds, Γ1) ∧ wf ds [] (fun r _ => Ψ r Γ1) Ξ
  | true => ∃ i rest ds Γ1 row, rs = .slot i :: rest ∧ frzL Γ rest = some (ds, Γ1) ∧ Γ1[i]? = some (some (.own row)) ∧ wf ds row (fun r row' => Ψ r (Γ1.set i (some (.own row')))) fun _ => False
def wCall (io : Bool) (wf : WF) (wA : WA) : WE := fun Γ Ψ Ξ => wA Γ (fun rs Γ1 => callW io wf rs Γ1 Ψ Ξ) Ξ
theorem RepRs.cons_inv {Hs : Hp} {v : V} {vs : List V} {r : R} {rs : List R} (h : RepRs T F σ H Γ Hs (v :: vs) (r :: rs)) : RepR T F σ H Γ Hs v r ∧ RepRs T F σ H Γ Hs vs rs := by
  generalize e1 : v :: vs = vv at h
  generalize e2 : r :: rs = rr at h
  cases h with
  | nil => cases e1
  | cons h1 h2 => cases e1; cases e2; exact ⟨h1, h2⟩
theorem RepRs.len {Hs : Hp} : ∀ {vs : List V} {rs : List R}, RepRs T F σ H Γ Hs vs rs → vs.length = rs.length
  | _, _, .nil => rfl
  | _, _, .cons _ r => congrArg (· + 1) (RepRs.len r)
/-- the call itself, the arguments being there -/
theorem call_d {io : Bool} {wf : WF} {Fs Hs : Hp} {Γs : Gm} {vs : List V} {rs : List R} {Ψ : R → Gm → Prop} {Ξ : XD → Prop} {Q : VK} (q : Po T Fs σ Hs Γs F H Γ) (e : RepRs T F σ H Γ Hs vs rs) (h : callW io wf rs Γ Ψ Ξ) (x : XO T σ E Ξ Fs Hs Γs)
    (k : ∀ F' H' Γ' v r, Ψ r Γ' → Po T Fs σ Hs Γs F' H' Γ' → RepR T F' σ H' Γ' Hs v r → Q v H') : spD T io wf vs H Q E := by
  cases io with
  | false =>
    obtain ⟨ds, Γ1, a, hw⟩ := h
    obtain ⟨F1, q1, s1, r1⟩ := e.frz q a
    refine ⟨F1, 0, [], [], vs, ds, _, Ξ, q1.rp.toOk, rfl, (fun z => by cases z), r1, hw, fun F' H' v r row' hr f _ e' => ?_, fun F' H' xd hx f => x F' H' Γ1 xd hx (q1.nw f.nw)⟩
    exact k F' H' Γ1 v r hr (q1.nw f.nw) (e'.toR q1)
  | true =>
    obtain ⟨i, rest, ds, Γ1, row, rfl, a, hi, hw⟩ := h
    cases vs with
    | nil => have := e.len; simp at this
    | cons v0 vs =>
    obtain ⟨⟨e1, en, e2⟩, er⟩ := e.cons_inv
    obtain ⟨F1, q1, s1, r1⟩ := er.frz q a
    obtain ⟨v', e3, ra, rv, rfl, hra, fra, rra⟩ := q1.rp.at_ i _ hi
    rw [e1] at e3
    cases e3
    refine ⟨F1, ra, rv, row, vs, ds, _, _, q1.rp.toOk, rfl, fun _ => ⟨hra, fra, rra⟩, r1, hw, fun F' H' v r row' hr f hrow e' => ?_, fun F' H' xd hx f => hx.elim⟩
    obtain ⟨rv', h1, h2, h3⟩ := hrow rfl
    have q2 := po_io q1.rp hi e1 f h1 h2 h3
    refine k F' H' _ v r hr (q1.trans q2) ?_
    cases r with
    | val d => exact e'
    | new es =>
      obtain ⟨b, ws, eb, hb, fb, nb, rb⟩ := e'
      refine ⟨b, ws, eb, hb, fb, q1.none nb, rb, fun z => ?_⟩
      obtain ⟨ws', hb', _⟩ := q1.rp.owns (q2.ows z)
      rw [nb] at hb'
      cases hb'
    | slot j => exact e'.elim
theorem ed_call {io : Bool} {wf : WF} (h : AD T E tA wA) : ED T E (tCall (spD T io wf) [] E tA) (wCall io wf wA) := fun F σ H Γ Q Ψ Ξ p h1 x k => h F σ H Γ _ _ Ξ p h1 x fun F1 H1 Γ1 vs rs hr q e => by
  rw [List.append_nil]
  exact call_d q e hr x k
/-! ### statements -/
structure WEnds where
  nx : Gm → Prop
  rt : R → Gm → Prop
  bk : Gm → Prop
  ct : Gm → Prop
  xe : XD → Prop
abbrev WS := WEnds → Gm → Prop
structure Rs (T : Tb) (io : Bool) (H0 F0 : Hp) (ra : Addr) (F : Hp) (σ : St) (H : Hp) (Γ : Gm) : Prop where
  rp : Rp T F σ H Γ
  ff : Same F0 F
  en : ∀ b o, H0 b = some o → NoT o → ¬ (io = true ∧ b = ra) → H b = some o
  fr : ∀ b, Owns σ Γ b → (io = true ∧ b = ra) ∨ H0 b = none
  gro : ∀ b o, H0 b = some o → ∃ o', H b = some o'
  nf : ∀ b o, F b = some o → F0 b = some o ∨ H0 b = none ∨ (io = true ∧ b = ra)
  par : io = true → σ[0]? = some (some (.ref ra))
theorem Rs.po {io : Bool} {H0 F0 : Hp} {ra : Addr} (s : Rs T io H0 F0 ra F σ H Γ) (q : Po T F σ H Γ F' H' Γ') : Rs T io H0 F0 ra F' σ H' Γ' where
  rp := q.rp
  ff := fun b o h => q.ff b o (s.ff b o h)
  en := fun b o h n z => q.fr b o (s.en b o h n z) n fun y => (s.fr b y).elim z fun u => by rw [h] at u; cases u
  fr := fun b h => s.fr b (q.ows h)
  gro := fun b o h => let ⟨o1, h1⟩ := s.gro b o h; q.gro b o1 h1
  nf := fun b o h => by
    rcases q.nf b o h with z | z | z
    · exact s.nf b o z
    · cases e : H0 b with
      | none => exact .inr (.inl rfl)
      | some u => obtain ⟨u', z'⟩ := s.gro b u e; rw [z] at z'; cases z'
    · rcases s.fr b z with y | y
      · exact .inr (.inr y)
      · exact .inr (.inl y)
  par := s.par
theorem Rs.none {io : Bool} {H0 F0 : Hp} {ra b : Addr} (s : Rs T io H0 F0 ra F σ H Γ) (h : H b = none) : H0 b = none := by
  cases e : H0 b with
  | none => rfl
  | some u => obtain ⟨u', z⟩ := s.gro b u e; rw [h] at z; cases z
structure EO (T : Tb) (io : Bool) (H0 F0 : Hp) (ra : Addr) (E : XK) (D : Ends) (Ψ : WEnds) : Prop where
  nx : ∀ F σ H Γ, Ψ.nx Γ → Rs T io H0 F0 ra F σ H Γ → D.nx σ H
  bk : ∀ F σ H Γ, Ψ.bk Γ → Rs T io H0 F0 ra F σ H Γ → D.bk σ H
  ct : ∀ F σ H Γ, Ψ.ct Γ → Rs T io H0 F0 ra F σ H Γ → D.ct σ H
  rt : ∀ F σ H Γ v r, Ψ.rt r Γ → Rs T io H0 F0 ra F σ H Γ → RepR T F σ H Γ H0 v r → D.rt v H
  xe : ∀ F σ H Γ xd, Ψ.xe xd → Rs T io H0 F0 ra F σ H Γ → XE T F H E xd
theorem EO.xo {io : Bool} {H0 F0 : Hp} {ra : Addr} {D : Ends} {Ψ : WEnds} (e : EO T io H0 F0 ra E D Ψ) (s : Rs T io H0 F0 ra F σ H Γ) : XO T σ E Ψ.xe F H Γ := fun F' H' Γ' xd h q => e.xe F' σ H' Γ' xd h (s.po q)
def SD (T : Tb) (io : Bool) (E : XK) (t : TS) (w : WS) : Prop := ∀ (H0 F0 : Hp) (ra : Addr) (F : Hp) (σ : St) (H : Hp) (Γ : Gm) (D : Ends) (Ψ : WEnds), Rs T io H0 F0 ra F σ H Γ → w Ψ Γ → EO T io H0 F0 ra E D Ψ → t D σ H
variable {io : Bool} {s1 s2 : TS} {u1 u2 : WS} {t1 : TT} {w1 : WT}
def wNext : WS := fun Ψ Γ => Ψ.nx Γ
theorem sd_next : SD T io E tNext wNext := fun H0 F0 ra F σ H Γ D Ψ s h e => e.nx F σ H Γ h s
def wSeq (u1 u2 : WS) : WS := fun Ψ Γ => u1 { Ψ with nx := u2 Ψ } Γ
theorem sd_seq (h : SD T io E s1 u1) (h' : SD T io E s2 u2) : SD T io E (tSeq s1 s2) (wSeq u1 u2) := fun H0 F0 ra F σ H Γ D Ψ s hw e =>
  h H0 F0 ra F σ H Γ _ _ s hw ⟨fun F1 σ1 H1 Γ1 h1 s1 => h' H0 F0 ra F1 σ1 H1 Γ1 D Ψ s1 h1 e, e.bk, e.ct, e.rt, e.xe⟩
def wBreak : WS := fun Ψ Γ => Ψ.bk Γ
theorem sd_break : SD T io E tBreak wBreak := fun H0 F0 ra F σ H Γ D Ψ s h e => e.bk F σ H Γ h s
def wCont : WS := fun Ψ Γ => Ψ.ct Γ
theorem sd_cont : SD T io E tCont wCont := fun H0 F0 ra F σ H Γ D Ψ s h e => e.ct F σ H Γ h s
def wDrop (w : WE) : WS := fun Ψ Γ => w Γ (fun _ Γ1 => Ψ.nx Γ1) Ψ.xe
theorem sd_drop (h : ED T E t w) : SD T io E (tDrop t) (wDrop w) := fun H0 F0 ra F σ H Γ D Ψ s hw e => h F σ H Γ _ _ _ s.rp hw (e.xo s) fun F1 H1 Γ1 v r hr q _ => e.nx F1 σ H1 Γ1 hr (s.po q)
def wRet (w : WE) : WS := fun Ψ Γ => w Γ Ψ.rt Ψ.xe
theorem sd_ret (h : ED T E t w) : SD T io E (tRet t) (wRet w) := fun H0 F0 ra F σ H Γ D Ψ s hw e => h F σ H Γ _ _ _ s.rp hw (e.xo s) fun F1 H1 Γ1 v r hr q er => e.rt F1 σ H1 Γ1 v r hr (s.po q) (by
  cases r with
  | val d => exact er
  | new ds => obtain ⟨a, vs, e1, e2, e3, e4, e5⟩ := er; exact ⟨a, vs, e1, e2, e3, s.none e4, e5⟩
  | slot i => exact er)
def wRetN : WS := fun Ψ Γ => Ψ.rt (.val .non) Γ
theorem sd_retN : SD T io E tRetN wRetN := fun H0 F0 ra F σ H Γ D Ψ s hw e => e.rt F σ H Γ .non _ hw s Rep.non
def wIfS (w : WT) (u1 u2 : WS) : WS := fun Ψ Γ => w Γ (fun b Γ1 => if b = true then u1 Ψ Γ1 else u2 Ψ Γ1) Ψ.xe
theorem sd_if (h : TD T E t1 w1) (h1 : SD T io E s1 u1) (h2 : SD T io E s2 u2) : SD T io E (tIfS t1 s1 s2) (wIfS w1 u1 u2) := fun H0 F0 ra F σ H Γ D Ψ s hw e => h F σ H Γ _ _ _ s.rp hw (e.xo s) fun F1 H1 Γ1 b hb q => by
  cases b with
  | true => exact h1 H0 F0 ra F1 σ H1 Γ1 D Ψ (s.po q) hb e
  | false => exact h2 H0 F0 ra F1 σ H1 Γ1 D Ψ (s.po q) hb e
theorem sd_never : SD T io E tNever (fun _ _ => False) := fun H0 F0 ra F σ H Γ D Ψ s h e => h
/-! ### stores -/
theorem Rs.set {H0 F0 : Hp} {ra : Addr} {i : Nat} {v : V} {e : En} (s : Rs T io H0 F0 ra F σ H Γ) (h : RepE T.K F H v e) (hi : i ≠ 0 ∨ io = false) (hn : ∀ ds, e = .own ds → ∀ a, v = .ref a → ¬ Owns σ Γ a ∧ H0 a = Option.none) :
    Rs T io H0 F0 ra F (σ.set i (some v)) H (Γ.set i (some e)) := by
  have p := s.rp
  have get : ∀ (j : Nat) (e' : En), (Γ.set i (some e))[j]? = some (some e') → (j = i ∧ i < Γ.length ∧ e' = e) ∨ (j ≠ i ∧ Γ[j]? = some (some e')) := fun j e' hj => by
    by_cases hji : j = i
    · subst hji
      have hl : j < (Γ.set j (some e)).length := (List.getElem?_eq_some_iff.mp hj).1
      rw [List.length_set] at hl
      rw [List.getElem?_set_self hl] at hj
      cases hj
      exact .inl ⟨rfl, hl, rfl⟩
    · rw [List.getElem?_set_ne (Ne.symm hji)] at hj
      exact .inr ⟨hji, hj⟩
  have ne : ∀ {j : Nat}, j ≠ i → (σ.set i (some v))[j]? = σ[j]? := fun {j} h => List.getElem?_set_ne (Ne.symm h)
  have self : i < Γ.length → (σ.set i (some v))[i]? = some (some v) := fun h => List.getElem?_set_self (by rw [← p.len]; exact h)
  have ow : ∀ b, Owns (σ.set i (some v)) (Γ.set i (some e)) b → Owns σ Γ b ∨ (v = .ref b ∧ ∃ ds, e = .own ds) := fun b ⟨j, ds, h1, h2⟩ => by
    rcases get j _ h1 with ⟨rfl, hl, z⟩ | ⟨hj, z⟩
    · rw [self hl] at h2
      cases h2
      exact .inr ⟨rfl, ds, z.symm⟩
    · rw [ne hj] at h2
      exact .inl ⟨j, ds, z, h2⟩
  refine ⟨⟨p.toOk, by simpa using p.len, fun j e' hj => ?_, fun j k es es' x h1 h2 h3 h4 => ?_⟩, s.ff, s.en, fun b hb => ?_, s.gro, s.nf, fun z => ?_⟩
  · rcases get j e' hj with ⟨rfl, hl, rfl⟩ | ⟨hji, hj⟩
    · exact ⟨v, self hl, h⟩
    · rw [ne hji]
      exact p.at_ j e' hj
  · rcases get j _ h1 with ⟨rfl, hl, z⟩ | ⟨hj, h1'⟩
    · rcases get k _ h2 with ⟨rfl, _, _⟩ | ⟨hk, h2'⟩
      · rfl
      · rw [self hl] at h3
        cases h3
        rw [ne hk] at h4
        obtain ⟨a, vs, ev, _⟩ := z ▸ h
        subst ev
        exact absurd ⟨k, es', h2', h4⟩ (hn es z.symm a rfl).1
    · rcases get k _ h2 with ⟨rfl, hl, z⟩ | ⟨hk, h2'⟩
      · rw [self hl] at h4
        cases h4
        rw [ne hj] at h3
        obtain ⟨a, vs, ev, _⟩ := z ▸ h
        subst ev
        exact absurd ⟨j, es, h1', h3⟩ (hn es' z.symm a rfl).1
      · rw [ne hj] at h3
        rw [ne hk] at h4
        exact p.apart j k es es' x h1' h2' h3 h4
  · rcases ow b hb with z | ⟨rfl, ds, z⟩
    · exact s.fr b z
    · exact .inr (hn ds z b rfl).2
  · have h0 := s.par z
    have hi0 : i ≠ 0 := hi.elim id fun y => by rw [y] at z; cases z
    rw [ne (Ne.symm hi0)]
    exact h0
/-- what a name holds behind a store -/
def putW (i : Nat) (r : R) (Γ : Gm) (k : Gm → Prop) : Prop := match r with
  | .val d => k (Γ.set i (some (.shr d)))
  | .new ds => k (Γ.set i (some (.own ds)))
  | .slot j => ∃ d Γ1, frz Γ (.slot j) = some (d, Γ1) ∧ k (Γ1.set i (some (.shr d)))
theorem put_d {H0 F0 : Hp} {ra : Addr} {i : Nat} {v : V} {r : R} {k : Gm → Prop} (s : Rs T io H0 F0 ra F σ H Γ) (q : Po T F σ H Γ F' H' Γ') (e : RepR T F' σ H' Γ' H v r) (hi : i ≠ 0 ∨ io = false) (h : putW i r Γ' k) :
    ∃ F2 Γ2, k Γ2 ∧ Rs T io H0 F0 ra F2 (σ.set i (some v)) H' Γ2 := by
  cases r with
  | val d => exact ⟨F', _, h, (s.po q).set (e := .shr d) e hi (fun _ z => by cases z)⟩
  | new ds =>
    obtain ⟨a, vs, rfl, ha, fa, na, ra', no⟩ := e
    exact ⟨F', _, h, (s.po q).set (e := .own ds) ⟨a, vs, rfl, ha, fa, ra'⟩ hi fun _ _ b z => by cases z; exact ⟨no, s.none na⟩⟩
  | slot j =>
    obtain ⟨d, Γ1, a, h⟩ := h
    obtain ⟨F2, q2, s2, r2⟩ := RepR.frz q e a
    exact ⟨F2, _, h, (s.po q2).set (e := .shr d) r2 hi (fun _ z => by cases z)⟩
def wSet (i : Nat) (w : WE) : WS := fun Ψ Γ => w Γ (fun r Γ1 => putW i r Γ1 Ψ.nx) Ψ.xe
theorem sd_set {i : Nat} (h : ED T E t w) (hi : i ≠ 0 ∨ io = false) : SD T io E (tAsg t (gName i)) (wSet i w) := fun H0 F0 ra F σ H Γ D Ψ s hw e => h F σ H Γ _ _ _ s.rp hw (e.xo s) fun F1 H1 Γ1 v r hr q er => by
  obtain ⟨F2, Γ2, k, s2⟩ := put_d s q er hi hr
  exact e.nx F2 _ H1 Γ2 k s2
/-- a known thing to a target -/
abbrev WG := D → Gm → (Gm → Prop) → Prop
abbrev WGs := List D → Gm → (Gm → Prop) → Prop
def GD (T : Tb) (io : Bool) (g : TG) (w : WG) : Prop := ∀ (H0 F0 : Hp) (ra : Addr) (F : Hp) (σ : St) (H : Hp) (Γ : Gm) (v : V) (d : D) (Q : St → Hp → Prop) (k : Gm → Prop), Rs T io H0 F0 ra F σ H Γ → Rep T.K F v d → w d Γ k → (∀ F' σ' Γ', k Γ' → Same F F' → Rs T io H0 F0 ra F' σ' H Γ' → Q σ' H) → g v σ H Q
def GDs (T : Tb) (io : Bool) (g : TGs) (w : WGs) : Prop := ∀ (H0 F0 : Hp) (ra : Addr) (F : Hp) (σ : St) (H : Hp) (Γ : Gm) (vs : List V) (ds : List D) (Q : St → Hp → Prop) (k : Gm → Prop), Rs T io H0 F0 ra F σ H Γ → RepA T.K F vs ds → w ds Γ k → (∀ F' σ' Γ', k Γ' → Same F F' → Rs T io H0 F0 ra F' σ' H Γ' → Q σ' H) → g vs σ H Q
variable {g : TG} {gs : TGs} {wg : WG} {wgs : WGs}
def wgName (i : Nat) : WG := fun d Γ k => k (Γ.set i (some (.shr d)))
theorem gd_name {i : Nat} (hi : i ≠ 0 ∨ io = false) : GD T io (gName i) (wgName i) := fun H0 F0 ra F σ H Γ v d Q k s r h z => z F _ _ h (fun _ _ h => h) (s.set (e := .shr d) r hi (fun _ z => by cases z))
def wgNil : WGs := fun ds Γ k => ds = [] ∧ k Γ
theorem gd_nil : GDs T io gNil wgNil := fun H0 F0 ra F σ H Γ vs ds Q k s r h z => by
  obtain ⟨rfl, h⟩ := h
  cases r
  exact ⟨rfl, z F σ Γ h (fun _ _ h => h) s⟩
def wgCons (w : WG) (u : WGs) : WGs := fun ds Γ k => ∃ d es, ds = d :: es ∧ w d Γ fun Γ1 => u es Γ1 k
theorem gd_cons (h : GD T io g wg) (h' : GDs T io gs wgs) : GDs T io (gCons g gs) (wgCons wg wgs) := fun H0 F0 ra F σ H Γ vs ds Q k s r hw z => by
  obtain ⟨d, es, rfl, hw⟩ := hw
  cases r with
  | cons r1 r2 =>
    refine ⟨_, _, rfl, h H0 F0 ra F σ H Γ _ _ _ _ s r1 hw fun F1 σ1 Γ1 h1 f1 s1 => ?_⟩
    exact h' H0 F0 ra F1 σ1 H Γ1 _ _ _ _ s1 (r2.mono f1) h1 fun F2 σ2 Γ2 h2 f2 s2 => z F2 σ2 Γ2 h2 (fun b o h => f2 b o (f1 b o h)) s2
def wgTup (n : Nat) (u : WGs) : WG := fun d Γ k => ∃ ds, d = .tup ds ∧ ds.length = n ∧ u ds Γ k
theorem gd_tup {n : Nat} (h : GDs T io gs wgs) : GD T io (gTup T.K n gs) (wgTup n wgs) := fun H0 F0 ra F σ H Γ v d Q k s r hw z => by
  obtain ⟨ds, rfl, hn, hw⟩ := hw
  cases r with
  | tup hs ra' => exact ⟨_, _, rfl, sqt_same hs s.rp.sub, by rw [ra'.length]; exact hn, h H0 F0 ra F σ H Γ _ _ _ _ s ra' hw z⟩
def wAsg (w : WE) (wg : WG) : WS := fun Ψ Γ => w Γ (fun r Γ1 => ∃ d Γ2, frz Γ1 r = some (d, Γ2) ∧ wg d Γ2 Ψ.nx) Ψ.xe
theorem sd_asg (h : ED T E t w) (h' : GD T io g wg) : SD T io E (tAsg t g) (wAsg w wg) := fun H0 F0 ra F σ H Γ D Ψ s hw e => h F σ H Γ _ _ _ s.rp hw (e.xo s) fun F1 H1 Γ1 v r hr q er => by
  obtain ⟨d, Γ2, a, hg⟩ := hr
  obtain ⟨F2, q2, s2, r2⟩ := RepR.frz q er a
  exact h' H0 F0 ra F2 σ H1 Γ2 v d _ _ (s.po q2) r2 hg fun F3 σ3 Γ3 h3 _ s3 => e.nx F3 σ3 H1 Γ3 h3 s3
/-- one of this def's own lists is changed -/
theorem po_own {i : Nat} {ds ds' : List D} {a : Addr} {vs vs' : List V} (p : Rp T F σ H Γ) (hi : Γ[i]? = some (some (.own ds))) (hσ : σ[i]? = some (some (.ref a))) (ha : H a = some (.lst vs)) (fa : F a = none) (r : RepA T.K F vs' ds') :
    Po T F σ H Γ F (upd H a (.lst vs')) (Γ.set i (some (.own ds'))) := by
  refine po_io p hi hσ (rv' := vs') ⟨⟨fun b o h => ?_, p.nt, fun P hP => tab_lst ha (p.tabs P hP)⟩, fun _ _ h => h, fun b o h _ n => ?_, fun b o h => ?_, fun b o h => .inl h⟩ upd_same fa r
  · rw [upd_ne fun z => by rw [z, fa] at h; cases h]
    exact p.sub _ _ h
  · rw [upd_ne fun z => n ⟨rfl, z⟩]
    exact h
  · by_cases hb : b = a
    · subst hb; exact ⟨_, upd_same⟩
    · exact ⟨o, by rw [upd_ne hb]; exact h⟩
/-- x[i] = e, x one of the def's own lists -/
def wPutAt (i : Nat) (w wk : WE) : WS := fun Ψ Γ => w Γ (fun r Γ1 => ∃ d Γ2 en, frz Γ1 r = some (d, Γ2) ∧ Γ2[i]? = some (some en) ∧ wk Γ2 (fun rk Γ3 => ∃ k ds j, rk.at Γ3 = some (.int k) ∧ Γ3[i]? = some (some (.own ds)) ∧ ixN ds.length k = some j ∧ Ψ.nx (Γ3.set i (some (.own (ds.set j d))))) Ψ.xe) Ψ.xe
theorem sd_putAt {i : Nat} {tk : TE} {wk : WE} (h : ED T E t w) (hk : ED T E tk wk) : SD T io E (tAsg t (gSub (tVar i) tk rSetL)) (wPutAt i w wk) := fun H0 F0 ra F σ H Γ D Ψ s hw e => h F σ H Γ _ _ _ s.rp hw (e.xo s) fun F1 H1 Γ1 v r hr q er => by
  obtain ⟨d, Γ2, en, a, hen, hg⟩ := hr
  obtain ⟨F2, q2, s2, r2⟩ := RepR.frz q er a
  have s2' := s.po q2
  obtain ⟨u, hu, _⟩ := q2.rp.at_ i en hen
  refine ⟨u, hu, ?_⟩
  refine hk F2 σ H1 Γ2 _ _ _ q2.rp hg (e.xo s2') fun F3 H3 Γ3 y rk hr3 q3 e3 => ?_
  obtain ⟨k, ds, j, a1, hi, hj, hn⟩ := hr3
  obtain ⟨u', e4, b, vs, rfl, hb, fb, rb⟩ := q3.rp.at_ i _ hi
  rw [hu] at e4
  cases e4
  refine ⟨b, vs, k, j, rfl, (e3.peek q3.rp a1).int, hb, by rw [rb.length]; exact hj, ?_⟩
  exact e.nx F3 σ _ _ hn (s2'.po (q3.trans (po_own q3.rp hi hu hb fb (RepA.set (r2.mono q3.ff) j rb))))
/-- x[i] += e -/
def wAugAt (i : Nat) (wk w : WE) (g : D → D → (R → Prop) → Prop) : WS := fun Ψ Γ => ∃ en, Γ[i]? = some (some en) ∧ wk Γ (fun rk Γ1 => ∃ k ds j d, rk.at Γ1 = some (.int k) ∧ Γ1[i]? = some (some (.own ds)) ∧ ixN ds.length k = some j ∧ ds[j]? = some d ∧
  w Γ1 (fun r Γ2 => ∃ e ds2, r.at Γ2 = some e ∧ Γ2[i]? = some (some (.own ds2)) ∧ ds2.length = ds.length ∧ g d e fun r => ∃ z, r = .val z ∧ Ψ.nx (Γ2.set i (some (.own (ds2.set j z))))) Ψ.xe) Ψ.xe
theorem sd_augAt {i : Nat} {tk : TE} {wk : WE} {tip : TIp} {g : D → D → (R → Prop) → Prop} (hk : ED T E tk wk) (h : ED T E t w) (o : OD T tip g) : SD T io E (tAugS (tVar i) tk t (rIxL T.K) tip rSetL) (wAugAt i wk w g) := fun H0 F0 ra F σ H Γ D Ψ s hw e => by
  obtain ⟨en, hen, hw⟩ := hw
  obtain ⟨u, hu, _⟩ := s.rp.at_ i en hen
  refine ⟨u, hu, ?_⟩
  refine hk F σ H Γ _ _ _ s.rp hw (e.xo s) fun F1 H1 Γ1 y rk hr1 q1 e1 => ?_
  obtain ⟨k, ds, j, d, a1, hi, hj, hd, hw2⟩ := hr1
  obtain ⟨u', e4, b, vs, rfl, hb, fb, rb⟩ := q1.rp.at_ i _ hi
  rw [hu] at e4
  cases e4
  obtain ⟨x, hx, rx⟩ := rb.get hd
  have ey := (e1.peek q1.rp a1).int
  subst ey
  have hat : atI vs k = some x := by
    unfold atI
    rw [rb.length, hj]
    exact hx
  refine ⟨b, vs, k, x, rfl, rfl, .inl (.inl hb), hat, ?_⟩
  have s1 := s.po q1
  refine h F1 σ H1 Γ1 _ _ _ q1.rp hw2 (e.xo s1) fun F2 H2 Γ2 z r hr2 q2 e2 => ?_
  obtain ⟨d2, ds2, a2, hi2, hl2, hg⟩ := hr2
  refine o F2 H2 x z d d2 _ _ q2.rp.toOk (.inl (rx.mono q2.ff)) (e2.peek q2.rp a2) hg fun F3 H3 v3 r3 hr3 n3 e3 => ?_
  obtain ⟨zd, rfl, hn⟩ := hr3
  have q3 := q2.nw n3
  obtain ⟨u', e4, b', vs2, e5, hb2, fb2, rb2⟩ := q3.rp.at_ i _ hi2
  rw [hu] at e4
  cases e4
  cases e5
  refine ⟨b, vs2, k, j, rfl, rfl, hb2, by rw [rb2.length, hl2]; exact hj, ?_⟩
  exact e.nx F3 σ _ _ hn ((s.po (q1.trans q3)).po (po_own q3.rp hi2 hu hb2 fb2 (RepA.set e3 j rb2)))
/-- a, b = c, d -/
def wPar (i j : Nat) (wA : WA) : WS := fun Ψ Γ => wA Γ (fun rs Γ1 => ∃ d e Γ2, frzL Γ1 rs = some ([d, e], Γ2) ∧ Ψ.nx ((Γ2.set i (some (.shr d))).set j (some (.shr e)))) Ψ.xe
theorem sd_par {i j : Nat} (h : AD T E tA wA) (hi : (i ≠ 0 ∧ j ≠ 0) ∨ io = false) : SD T io E (tPar i j tA) (wPar i j wA) := fun H0 F0 ra F σ H Γ D Ψ s hw e => h F σ H Γ _ _ _ s.rp hw (e.xo s) fun F1 H1 Γ1 vs rs hr q er => by
  obtain ⟨d, e', Γ2, a, hn⟩ := hr
  obtain ⟨F2, q2, s2, r2⟩ := RepRs.frz q er a
  cases r2 with
  | cons r1 r2 =>
    cases r2 with
    | cons r2 r3 =>
      cases r3
      refine ⟨_, _, rfl, e.nx F2 _ H1 _ hn (((s.po q2).set (e := .shr d) r1 (hi.imp (·.1) id) (fun _ z => by cases z)).set (e := .shr e') r2 (hi.imp (·.2) id) (fun _ z => by cases z))⟩
/-- x += e, of numbers -/
def wAug (i : Nat) (w : WE) (g : D → D → (R → Prop) → Prop) : WS := fun Ψ Γ => ∃ d, Γ[i]? = some (some (.shr d)) ∧ w Γ (fun r Γ1 => ∃ e, r.at Γ1 = some e ∧ g d e fun r => putW i r Γ1 Ψ.nx) Ψ.xe
theorem sd_aug {i : Nat} {tip : TIp} {g : D → D → (R → Prop) → Prop} (h : ED T E t w) (o : OD T tip g) (hi : i ≠ 0 ∨ io = false) : SD T io E (tAug i t tip) (wAug i w g) := fun H0 F0 ra F σ H Γ D Ψ s hw e => by
  obtain ⟨d, hd, hw⟩ := hw
  obtain ⟨x, hx, rx⟩ := s.rp.at_ i _ hd
  refine ⟨x, hx, ?_⟩
  refine h F σ H Γ _ _ _ s.rp hw (e.xo s) fun F1 H1 Γ1 y r hr q er => ?_
  obtain ⟨e', a, hg⟩ := hr
  refine o F1 H1 x y d e' _ _ q.rp.toOk (.inl (Rep.mono q.ff rx)) (er.peek q.rp a) hg fun F2 H2 v2 r2 hr2 n2 e2 => ?_
  obtain ⟨F3, Γ3, k, s3⟩ := put_d s (q.nw n2) (e2.toR q) hi hr2
  exact e.nx F3 _ H2 Γ3 k s3
/-! ### loops -/
/-- an iterator that walks known things -/
def Wk (T : Tb) (F : Hp) (J : It) (ds : List D) : Prop := ∀ (F' H' : Hp) (i : Nat), Same F F' → Ok T F' H' → (i = ds.length → J.stop i H') ∧ ∀ d, ds[i]? = some d → J.go i H' ∧ ∀ x H'', J.yld i H' x H'' → ∃ F'', Nw T F' H' F'' H'' ∧ Rep T.K F'' x d
abbrev WI := Gm → (List D → Gm → Prop) → (XD → Prop) → Prop
def ID (T : Tb) (E : XK) (wi : TI) (w : WI) : Prop := ∀ (F : Hp) (σ : St) (H : Hp) (Γ : Gm) (Q : It → Hp → Prop) (Ψ : List D → Gm → Prop) (Ξ : XD → Prop), Rp T F σ H Γ → w Γ Ψ Ξ → XO T σ E Ξ F H Γ →
  (∀ F' H' Γ' J ds, Ψ ds Γ' → Po T F σ H Γ F' H' Γ' → Wk T F' J ds → Q J H') → wi σ H Q
theorem Rs.same {H0 F0 : Hp} {ra : Addr} (s : Rs T io H0 F0 ra F σ H Γ) : Rs T io H0 F0 ra F σ H Γ := s
def wFor (wi : WI) (wg : WG) (u : WS) : WS := fun Ψ Γ => wi Γ (fun ds Γ1 => ∃ I : Nat → Gm → Prop, I 0 Γ1 ∧ (∀ i Γ d, I i Γ → ds[i]? = some d → wg d Γ fun Γ2 => u { Ψ with nx := I (i + 1), ct := I (i + 1), bk := Ψ.nx } Γ2) ∧ ∀ Γ, I ds.length Γ → Ψ.nx Γ) Ψ.xe
theorem sd_for {wi : TI} {wI : WI} {s1 : TS} {u1 : WS} (hi : ID T E wi wI) (hg : GD T io g wg) (hb : SD T io E s1 u1) : SD T io E (tFor wi g s1) (wFor wI wg u1) := fun H0 F0 ra F σ H Γ D Ψ s hw e => hi F σ H Γ _ _ _ s.rp hw (e.xo s) fun F1 H1 Γ1 J ds hr q wk => by
  obtain ⟨I, h0, hs, hd⟩ := hr
  refine ⟨fun i m σ H => m = ds.length - i ∧ i ≤ ds.length ∧ ∃ F Γ, I i Γ ∧ Same F1 F ∧ Rs T io H0 F0 ra F σ H Γ, ⟨ds.length, by simp, Nat.zero_le _, F1, Γ1, h0, fun _ _ h => h, s.po q⟩, ?_⟩
  rintro i m σ2 H2 ⟨rfl, hle, F2, Γ2, h2, f2, s2⟩
  by_cases hlt : i < ds.length
  · refine .inr ?_
    obtain ⟨go, yl⟩ := (wk F2 H2 i f2 s2.rp.toOk).2 _ (List.getElem?_eq_getElem hlt)
    refine ⟨go, fun σ H => ∃ F Γ, I (i + 1) Γ ∧ Same F1 F ∧ Rs T io H0 F0 ra F σ H Γ, fun σ' H' h => ⟨ds.length - (i + 1), by omega, rfl, hlt, h⟩, fun x H3 hy => ?_⟩
    obtain ⟨F3, n3, r3⟩ := yl x H3 hy
    have s3 := s2.po (s2.rp.po n3)
    refine hg H0 F0 ra F3 σ2 H3 Γ2 x _ _ _ s3 r3 (hs i Γ2 _ h2 (List.getElem?_eq_getElem hlt)) fun F4 σ4 Γ4 h4 f4 s4 => ?_
    have f14 : Same F1 F4 := fun b o h => f4 b o (n3.ff b o (f2 b o h))
    refine hb H0 F4 ra F4 σ4 H3 Γ4 _ { Ψ with nx := I (i + 1), ct := I (i + 1), bk := Ψ.nx } ⟨s4.rp, fun _ _ h => h, s4.en, s4.fr, s4.gro, fun _ _ h => .inl h, s4.par⟩ h4 ⟨fun F5 σ5 H5 Γ5 h5 s5 => ?_, fun F5 σ5 H5 Γ5 h5 s5 => ?_, fun F5 σ5 H5 Γ5 h5 s5 => ?_, fun F5 σ5 H5 Γ5 v r h5 s5 e5 => ?_, fun F5 σ5 H5 Γ5 xd h5 s5 => ?_⟩
    all_goals
      have s5' : Rs T io H0 F0 ra F5 σ5 H5 Γ5 := ⟨s5.rp, fun b o h => s5.ff b o (s4.ff b o h), s5.en, s5.fr, s5.gro, fun b o h => (s5.nf b o h).elim (s4.nf b o) .inr, s5.par⟩
    · exact ⟨F5, Γ5, h5, fun b o h => s5.ff b o (f14 b o h), s5'⟩
    · exact e.nx F5 σ5 H5 Γ5 h5 s5'
    · exact ⟨F5, Γ5, h5, fun b o h => s5.ff b o (f14 b o h), s5'⟩
    · exact e.rt F5 σ5 H5 Γ5 v r h5 s5' e5
    · exact e.xe F5 σ5 H5 Γ5 xd h5 s5'
  · have ei : i = ds.length := by omega
    subst ei
    exact .inl ⟨(wk F2 H2 _ f2 s2.rp.toOk).1 rfl, e.nx F2 σ2 H2 Γ2 (hd Γ2 h2) s2⟩
/-- while, by a word and a measure -/
def wWhile (w : WT) (u : WS) : WS := fun Ψ Γ => ∃ I : Nat → Gm → Prop, (∃ m, I m Γ) ∧ ∀ m Γ, I m Γ → w Γ (fun b Γ1 => if b = true then u { Ψ with nx := fun Γ => ∃ m', m' < m ∧ I m' Γ, ct := fun Γ => ∃ m', m' < m ∧ I m' Γ, bk := Ψ.nx } Γ1 else Ψ.nx Γ1) Ψ.xe
end
end Dt

set_option Elab.async false
set_option linter.all false
set_option maxRecDepth 100000
set_option autoImplicit false
namespace Dt
open PySem L2 Kx
section
variable {T : Tb} {F F1 F2 F' H H1 H2 H' : Hp} {σ σ2 : St} {Γ Γ1 Γ2 Γ' Γw : Gm} {E : XK} {t ta tb tc te : TE} {w wa wb wc we : WE} {tA : TA} {wA : WA} {io : Bool} {s1 : TS} {u1 : WS} {t1 tt : TT} {w1 wt : WT}
theorem sd_while (h : TD T E t1 w1) (hb : SD T io E s1 u1) : SD T io E (tWhile t1 s1) (wWhile w1 u1) := fun H0 F0 ra F σ H Γ D Ψ s hw e => by
  obtain ⟨I, ⟨m0, h0⟩, hs⟩ := hw
  refine ⟨fun m σ H => ∃ F Γ, I m Γ ∧ Rs T io H0 F0 ra F σ H Γ, ⟨m0, F, Γ, h0, s⟩, fun m σ2 H2 h2 => ?_⟩
  obtain ⟨F2, Γ2, i2, s2⟩ := h2
  refine h F2 σ2 H2 Γ2 _ _ _ s2.rp (hs m Γ2 i2) (e.xo s2) fun F3 H3 Γ3 b hb3 q3 => ?_
  cases b with
  | false => exact e.nx F3 σ2 H3 Γ3 hb3 (s2.po q3)
  | true =>
    refine ⟨fun σ H => ∃ m', m' < m ∧ ∃ F Γ, I m' Γ ∧ Rs T io H0 F0 ra F σ H Γ, fun σ' H' h => h, ?_⟩
    exact hb H0 F0 ra F3 σ2 H3 Γ3 _ _ (s2.po q3) hb3 ⟨fun F4 σ4 H4 Γ4 ⟨m', hm, i4⟩ s4 => ⟨m', hm, F4, Γ4, i4, s4⟩, fun F4 σ4 H4 Γ4 h4 s4 => e.nx F4 σ4 H4 Γ4 h4 s4, fun F4 σ4 H4 Γ4 ⟨m', hm, i4⟩ s4 => ⟨m', hm, F4, Γ4, i4, s4⟩, e.rt, e.xe⟩
/-! ### comprehensions: the block's own names -/
def wipeG (Γ : Gm) : List Nat → Gm
  | [] => Γ
  | v :: vs => (wipeG Γ vs).set v none
def rstG (Γ Γw : Gm) : List Nat → Gm
  | [] => Γw
  | v :: vs => (rstG Γ Γw vs).set v (match Γ[v]? with | some e => e | none => none)
theorem wipe_in {σ : St} {j : Nat} : ∀ {vs : List Nat}, j ∈ vs → ∀ v, (wipe σ vs)[j]? ≠ some (some v) := fun {vs} hj v h => (wipe_some h).2 hj
theorem wipe_out {σ : St} {j : Nat} : ∀ {vs : List Nat}, j ∉ vs → (wipe σ vs)[j]? = σ[j]?
  | [], _ => rfl
  | v :: vs, h => by
    simp only [List.mem_cons, not_or] at h
    unfold wipe
    rw [List.getElem?_set_ne (Ne.symm h.1), wipe_out h.2]
theorem wipeG_length {Γ : Gm} : ∀ {vs : List Nat}, (wipeG Γ vs).length = Γ.length
  | [] => rfl
  | v :: vs => by unfold wipeG; rw [List.length_set, wipeG_length]
theorem wipeG_out {Γ : Gm} {j : Nat} : ∀ {vs : List Nat}, j ∉ vs → (wipeG Γ vs)[j]? = Γ[j]?
  | [], _ => rfl
  | v :: vs, h => by
    simp only [List.mem_cons, not_or] at h
    unfold wipeG
    rw [List.getElem?_set_ne (Ne.symm h.1), wipeG_out h.2]
theorem wipeG_in {Γ : Gm} {j : Nat} {e : En} : ∀ {vs : List Nat}, (wipeG Γ vs)[j]? = some (some e) → j ∉ vs ∧ Γ[j]? = some (some e)
  | [], h => ⟨by simp, h⟩
  | v :: vs, h => by
    unfold wipeG at h
    by_cases hv : v = j
    · subst hv
      by_cases hl : v < (wipeG Γ vs).length
      · rw [List.getElem?_set_self hl] at h; cases h
      · rw [List.getElem?_eq_none (by simpa using hl)] at h; cases h
    · rw [List.getElem?_set_ne hv] at h
      obtain ⟨h1, h2⟩ := wipeG_in h
      exact ⟨by simp only [List.mem_cons, not_or]; exact ⟨fun z => hv z.symm, h1⟩, h2⟩
theorem wipeG_at {Γ : Gm} {j : Nat} {vs : List Nat} (h : j ∈ vs) (hl : j < Γ.length) : (wipeG Γ vs)[j]? = some none := by
  have h1 : j < (wipeG Γ vs).length := by rw [wipeG_length]; exact hl
  cases e : (wipeG Γ vs)[j]? with
  | none => rw [List.getElem?_eq_none_iff] at e; omega
  | some o =>
    cases o with
    | none => rfl
    | some x => exact absurd h (wipeG_in e).1
theorem wipeG_ext {Γ Γ' : Gm} {vs : List Nat} (hl : Γ.length = Γ'.length) (h : ∀ j : Nat, j ∉ vs → Γ[j]? = Γ'[j]?) : wipeG Γ vs = wipeG Γ' vs := by
  refine List.ext_getElem? fun j => ?_
  by_cases hj : j ∈ vs
  · by_cases hlt : j < Γ.length
    · rw [wipeG_at hj hlt, wipeG_at hj (hl ▸ hlt)]
    · rw [List.getElem?_eq_none (by rw [wipeG_length]; omega), List.getElem?_eq_none (by rw [wipeG_length]; omega)]
  · rw [wipeG_out hj, wipeG_out hj, h j hj]
theorem wipeG_idem {Γ : Gm} {vs : List Nat} : wipeG (wipeG Γ vs) vs = wipeG Γ vs := wipeG_ext wipeG_length fun j hj => wipeG_out hj
theorem rstG_out {Γ Γw : Gm} {j : Nat} : ∀ {vs : List Nat}, j ∉ vs → (rstG Γ Γw vs)[j]? = Γw[j]?
  | [], _ => rfl
  | v :: vs, h => by
    simp only [List.mem_cons, not_or] at h
    unfold rstG
    rw [List.getElem?_set_ne (Ne.symm h.1), rstG_out h.2]
theorem rstG_length {Γ Γw : Gm} : ∀ {vs : List Nat}, (rstG Γ Γw vs).length = Γw.length
  | [] => rfl
  | v :: vs => by unfold rstG; rw [List.length_set, rstG_length]
theorem rstG_in {Γ Γw : Gm} {j : Nat} {e : En} : ∀ {vs : List Nat}, j ∈ vs → (rstG Γ Γw vs)[j]? = some (some e) → Γ[j]? = some (some e)
  | v :: vs, hj, h => by
    unfold rstG at h
    by_cases hv : v = j
    · subst hv
      by_cases hl : v < (rstG Γ Γw vs).length
      · rw [List.getElem?_set_self hl] at h
        cases q : Γ[v]? with
        | none => rw [q] at h; cases h
        | some o => rw [q] at h; exact h
      · rw [List.getElem?_eq_none (by simpa using hl)] at h; cases h
    · rw [List.getElem?_set_ne hv] at h
      exact rstG_in ((List.mem_cons.mp hj).elim (fun z => absurd z.symm hv) id) h
theorem rstG_keep {Γ Γw : Gm} {j : Nat} {e : En} : ∀ {vs : List Nat}, j ∈ vs → Γ[j]? = some (some e) → j < Γw.length → (rstG Γ Γw vs)[j]? = some (some e)
  | v :: vs, hj, h, hl => by
    unfold rstG
    by_cases hv : v = j
    · subst hv
      rw [List.getElem?_set_self (by rw [rstG_length]; exact hl), h]
    · rw [List.getElem?_set_ne hv]
      exact rstG_keep ((List.mem_cons.mp hj).elim (fun z => absurd z.symm hv) id) h hl
def NoOwn (vs : List Nat) (Γ : Gm) : Prop := ∀ i ∈ vs, ∀ ds, Γ[i]? ≠ some (some (En.own ds))
theorem Rp.wipe {vs : List Nat} (p : Rp T F σ H Γ) : Rp T F (wipe σ vs) H (wipeG Γ vs) :=
  ⟨p.toOk, by rw [wipeG_length, wipe_length, p.len], fun i e h => by
    obtain ⟨h1, h2⟩ := wipeG_in h
    rw [wipe_out h1]
    exact p.at_ i e h2, fun i j ds ds' v h1 h2 h3 h4 => p.apart i j ds ds' v (wipeG_in h1).2 (wipeG_in h2).2 (wipe_some h3).1 (wipe_some h4).1⟩
theorem owns_wipe {vs : List Nat} {b : Addr} (h : Owns (wipe σ vs) (wipeG Γ vs) b) : Owns σ Γ b := let ⟨i, ds, h1, h2⟩ := h; ⟨i, ds, (wipeG_in h1).2, (wipe_some h2).1⟩
theorem owns_wipe' {vs : List Nat} {b : Addr} (n : NoOwn vs Γ) (h : Owns σ Γ b) : Owns (wipe σ vs) (wipeG Γ vs) b := by
  obtain ⟨i, ds, h1, h2⟩ := h
  have hi : i ∉ vs := fun z => n i z ds h1
  exact ⟨i, ds, by rw [wipeG_out hi]; exact h1, by rw [wipe_out hi]; exact h2⟩
theorem Po.wipe {vs : List Nat} (n : NoOwn vs Γ) (q : Po T F σ H Γ F' H' Γ') : Po T F (L2.wipe σ vs) H (wipeG Γ vs) F' H' (wipeG Γ' vs) :=
  ⟨q.rp.wipe, q.ff, fun b o h t no => q.fr b o h t fun z => no (owns_wipe' n z), fun i ds h => by
    obtain ⟨h1, h2⟩ := wipeG_in h
    obtain ⟨ds', h3⟩ := q.ow i ds h2
    exact ⟨ds', by rw [wipeG_out h1]; exact h3⟩, q.gro, fun b o h => (q.nf b o h).imp id (Or.imp id (owns_wipe' n)), fun i e h => by
    obtain ⟨h1, h2⟩ := wipeG_in h
    obtain ⟨e', h3⟩ := q.sl i e h2
    exact ⟨e', by rw [wipeG_out h1]; exact h3⟩⟩
/-- behind the block -/
theorem Po.unwipe {vs : List Nat} (p : Rp T F σ H Γ) (q : Po T F (L2.wipe σ vs) H (wipeG Γ vs) F' H' Γw) : Po T F σ H Γ F' H' (rstG Γ Γw vs) := by
  have len : Γw.length = Γ.length := by
    have := q.rp.len
    rw [wipe_length] at this
    rw [this, p.len]
  have get : ∀ (j : Nat) (e : En), (rstG Γ Γw vs)[j]? = some (some e) → (j ∈ vs ∧ Γ[j]? = some (some e)) ∨ (j ∉ vs ∧ Γw[j]? = some (some e)) := fun j e h => by
    by_cases hj : j ∈ vs
    · exact .inl ⟨hj, rstG_in hj h⟩
    · rw [rstG_out hj] at h
      exact .inr ⟨hj, h⟩
  -- an own list of a name that the block hides is not touched
  have hid : ∀ (j : Nat) (ds : List D) (a : Addr), j ∈ vs → Γ[j]? = some (some (.own ds)) → σ[j]? = some (some (.ref a)) → ¬ Owns (L2.wipe σ vs) (wipeG Γ vs) a := fun j ds a hj h1 h2 ⟨k, es, h3, h4⟩ => by
    obtain ⟨hk, h3⟩ := wipeG_in h3
    exact hk (p.apart j k ds es _ h1 h3 h2 (wipe_some h4).1 ▸ hj)
  have ow : ∀ (j : Nat) (ds : List D), (rstG Γ Γw vs)[j]? = some (some (En.own ds)) → ∃ ds', Γ[j]? = some (some (En.own ds')) := fun j ds h1 => by
    rcases get j _ h1 with ⟨_, h1⟩ | ⟨hj, h1⟩
    · exact ⟨ds, h1⟩
    · obtain ⟨ds', h2⟩ := q.ow j ds h1
      exact ⟨ds', (wipeG_in h2).2⟩
  refine ⟨⟨q.rp.toOk, by rw [rstG_length, len, p.len], fun j e h => ?_, fun i j ds ds' v h1 h2 h3 h4 => ?_⟩, q.ff, fun b o h t no => q.fr b o h t fun z => no (owns_wipe z), ow, q.gro, fun b o h => (q.nf b o h).imp id (Or.imp id owns_wipe), fun j e h => ?_⟩
  · rcases get j e h with ⟨hj, h⟩ | ⟨hj, h⟩
    · obtain ⟨v, e1, re⟩ := p.at_ j e h
      refine ⟨v, e1, ?_⟩
      cases e with
      | shr d => exact Rep.mono q.ff re
      | own ds =>
        obtain ⟨a, ws, rfl, ha, fa, rw'⟩ := re
        have no := hid j ds a hj h e1
        refine ⟨a, ws, rfl, q.fr a _ ha lst_nt no, ?_, rw'.mono q.ff⟩
        cases z : F' a with
        | none => rfl
        | some o =>
          rcases q.nf a o z with y | y | y
          · rw [fa] at y; cases y
          · rw [ha] at y; cases y
          · exact absurd y no
    · obtain ⟨v, e1, re⟩ := q.rp.at_ j e h
      rw [wipe_out hj] at e1
      exact ⟨v, e1, re⟩
  · rcases get i _ h1 with ⟨hi, g1⟩ | ⟨hi, g1⟩
    · rcases get j _ h2 with ⟨hj, g2⟩ | ⟨hj, g2⟩
      · exact p.apart i j ds ds' v g1 g2 h3 h4
      · obtain ⟨v', e1, a, ws, rfl, _⟩ := q.rp.at_ j _ g2
        rw [wipe_out hj, h4] at e1
        cases e1
        exact absurd (q.ows ⟨j, ds', g2, by rw [wipe_out hj]; exact h4⟩) (hid i ds a hi g1 h3)
    · rcases get j _ h2 with ⟨hj, g2⟩ | ⟨hj, g2⟩
      · obtain ⟨v', e1, a, ws, rfl, _⟩ := q.rp.at_ i _ g1
        rw [wipe_out hi, h3] at e1
        cases e1
        exact absurd (q.ows ⟨i, ds, g1, by rw [wipe_out hi]; exact h3⟩) (hid j ds' a hj g2 h4)
      · exact q.rp.apart i j ds ds' v g1 g2 (by rw [wipe_out hi]; exact h3) (by rw [wipe_out hj]; exact h4)
  · by_cases hj : j ∈ vs
    · exact ⟨e, rstG_keep hj h (by rw [len]; exact (List.getElem?_eq_some_iff.mp h).1)⟩
    · obtain ⟨e', h'⟩ := q.sl j e (by rw [wipeG_out hj]; exact h)
      exact ⟨e', by rw [rstG_out hj]; exact h'⟩
/-- the block's target -/
def CG (T : Tb) (vs : List Nat) (g : TG) (w : WG) : Prop := ∀ (F : Hp) (σ : St) (H : Hp) (Γ : Gm) (v : V) (d : D) (Q : St → Hp → Prop) (k : Gm → Prop), Rp T F σ H Γ → NoOwn vs Γ → Rep T.K F v d → w d Γ k →
  (∀ σ' Γ', k Γ' → Rp T F σ' H Γ' → NoOwn vs Γ' → σ'.length = σ.length → (∀ j, j ∉ vs → σ'[j]? = σ[j]? ∧ Γ'[j]? = Γ[j]?) → Q σ' H) → g v σ H Q
def CGs (T : Tb) (vs : List Nat) (g : TGs) (w : WGs) : Prop := ∀ (F : Hp) (σ : St) (H : Hp) (Γ : Gm) (xs : List V) (ds : List D) (Q : St → Hp → Prop) (k : Gm → Prop), Rp T F σ H Γ → NoOwn vs Γ → RepA T.K F xs ds → w ds Γ k →
  (∀ σ' Γ', k Γ' → Rp T F σ' H Γ' → NoOwn vs Γ' → σ'.length = σ.length → (∀ j, j ∉ vs → σ'[j]? = σ[j]? ∧ Γ'[j]? = Γ[j]?) → Q σ' H) → g xs σ H Q
theorem Rp.set {i : Nat} {v : V} {d : D} (p : Rp T F σ H Γ) (h : Rep T.K F v d) : Rp T F (σ.set i (some v)) H (Γ.set i (some (.shr d))) := by
  have get : ∀ (j : Nat) (e' : En), (Γ.set i (some (.shr d)))[j]? = some (some e') → (j = i ∧ i < Γ.length ∧ e' = .shr d) ∨ (j ≠ i ∧ Γ[j]? = some (some e')) := fun j e' hj => by
    by_cases hji : j = i
    · subst hji
      have hl : j < (Γ.set j (some (.shr d))).length := (List.getElem?_eq_some_iff.mp hj).1
      rw [List.length_set] at hl
      rw [List.getElem?_set_self hl] at hj
      cases hj
      exact .inl ⟨rfl, hl, rfl⟩
    · rw [List.getElem?_set_ne (Ne.symm hji)] at hj
      exact .inr ⟨hji, hj⟩
  refine ⟨p.toOk, by simpa using p.len, fun j e' hj => ?_, fun j k es es' x h1 h2 h3 h4 => ?_⟩
  · rcases get j e' hj with ⟨rfl, hl, rfl⟩ | ⟨hji, hj⟩
    · exact ⟨v, List.getElem?_set_self (by rw [← p.len]; exact hl), h⟩
    · rw [List.getElem?_set_ne (Ne.symm hji)]
      exact p.at_ j e' hj
  · rcases get j _ h1 with ⟨_, _, z⟩ | ⟨hj, h1'⟩
    · cases z
    rcases get k _ h2 with ⟨_, _, z⟩ | ⟨hk, h2'⟩
    · cases z
    rw [List.getElem?_set_ne (Ne.symm hj)] at h3
    rw [List.getElem?_set_ne (Ne.symm hk)] at h4
    exact p.apart j k es es' x h1' h2' h3 h4
variable {g : TG} {gs : TGs} {wg : WG} {wgs : WGs}
theorem cg_name {i : Nat} {vs : List Nat} (hi : i ∈ vs) : CG T vs (gName i) (wgName i) := fun F σ H Γ v d Q k p n r h z => by
  refine z _ _ h (p.set r) (fun j hj ds q => ?_) (by simp) fun j hj => ?_
  · by_cases hji : j = i
    · subst hji
      have hl : j < (Γ.set j (some (.shr d))).length := (List.getElem?_eq_some_iff.mp q).1
      rw [List.length_set] at hl
      rw [List.getElem?_set_self hl] at q
      cases q
    · rw [List.getElem?_set_ne (Ne.symm hji)] at q
      exact n j hj ds q
  · have hji : i ≠ j := fun z => hj (z ▸ hi)
    exact ⟨List.getElem?_set_ne hji, List.getElem?_set_ne hji⟩
theorem cg_nil {vs : List Nat} : CGs T vs gNil wgNil := fun F σ H Γ xs ds Q k p n r h z => by
  obtain ⟨rfl, h⟩ := h
  cases r
  exact ⟨rfl, z σ Γ h p n rfl fun _ _ => ⟨rfl, rfl⟩⟩
theorem cg_cons {vs : List Nat} (h : CG T vs g wg) (h' : CGs T vs gs wgs) : CGs T vs (gCons g gs) (wgCons wg wgs) := fun F σ H Γ xs ds Q k p n r hw z => by
  obtain ⟨d, es, rfl, hw⟩ := hw
  cases r with
  | cons r1 r2 =>
    refine ⟨_, _, rfl, h F σ H Γ _ _ _ _ p n r1 hw fun σ1 Γ1 h1 p1 n1 l1 j1 => ?_⟩
    exact h' F σ1 H Γ1 _ _ _ _ p1 n1 r2 h1 fun σ2 Γ2 h2 p2 n2 l2 j2 => z σ2 Γ2 h2 p2 n2 (l2.trans l1) fun j hj => ⟨(j2 j hj).1.trans (j1 j hj).1, (j2 j hj).2.trans (j1 j hj).2⟩
theorem cg_tup {n : Nat} {vs : List Nat} (h : CGs T vs gs wgs) : CG T vs (gTup T.K n gs) (wgTup n wgs) := fun F σ H Γ v d Q k p no r hw z => by
  obtain ⟨ds, rfl, hn, hw⟩ := hw
  cases r with
  | tup hs ra' => exact ⟨_, _, rfl, sqt_same hs p.sub, by rw [ra'.length]; exact hn, h F σ H Γ _ _ _ _ p no ra' hw z⟩
def wLc (wi : WI) (wg : WG) (wt : WT) (we : WE) (vs : List Nat) : WE := fun Γ Ψ Ξ => wi Γ (fun ds Γ1 => ds.length ≤ sizeLine ∧ ∃ I : Nat → List D → Gm → Prop, I 0 [] (wipeG Γ1 vs) ∧
  (∀ i acc Γ d, I i acc Γ → ds[i]? = some d → wg d Γ fun Γ2 => wt Γ2 (fun b Γ3 => if b = true then we Γ3 (fun r Γ4 => ∃ y Γ5, frz Γ4 r = some (y, Γ5) ∧ I (i + 1) (acc ++ [y]) (wipeG Γ5 vs)) (fun _ => False) else I (i + 1) acc (wipeG Γ3 vs)) fun _ => False) ∧
  ∀ acc Γ, I ds.length acc Γ → Ψ (.new acc) (rstG Γ1 Γ vs)) Ξ
theorem wipe_ext {σ σ' : St} {vs : List Nat} (hl : σ.length = σ'.length) (h : ∀ j : Nat, j ∉ vs → σ[j]? = σ'[j]?) : wipe σ vs = wipe σ' vs := by
  refine List.ext_getElem? fun j => ?_
  by_cases hj : j ∈ vs
  · have one : ∀ {ρ : St}, j < ρ.length → (wipe ρ vs)[j]? = some none := fun {ρ} hlt => by
      have h1 : j < (wipe ρ vs).length := by rw [wipe_length]; exact hlt
      cases e : (wipe ρ vs)[j]? with
      | none => rw [List.getElem?_eq_none_iff] at e; omega
      | some o =>
        cases o with
        | none => rfl
        | some x => exact absurd hj (wipe_some e).2
    by_cases hlt : j < σ.length
    · rw [one hlt, one (hl ▸ hlt)]
    · rw [List.getElem?_eq_none (by rw [wipe_length]; omega), List.getElem?_eq_none (by rw [wipe_length]; omega)]
  · rw [wipe_out hj, wipe_out hj, h j hj]
theorem noOwn_wipe {vs : List Nat} : NoOwn vs (wipeG Γ vs) := fun i hi ds h => (wipeG_in h).1 hi
/-- the list that is being made is changed: it is not known yet -/
theorem Po.grow {Fs Hs : Hp} {Γs : Gm} {Dn : Addr} {ws ws' : List V} (p0 : Rp T Fs σ Hs Γs) (q : Po T Fs σ Hs Γs F H Γ) (hn : Hs Dn = Option.none) (fd : F Dn = Option.none) (hd : H Dn = some (.lst ws)) : Po T Fs σ Hs Γs F (upd H Dn (.lst ws')) Γ := by
  have p := q.rp
  refine ⟨⟨⟨fun b o h => ?_, p.nt, fun P hP => tab_lst hd (p.tabs P hP)⟩, p.len, fun i e h => ?_, p.apart⟩, q.ff, fun b o h t no => ?_, q.ow, fun b o h => ?_, q.nf, q.sl⟩
  · rw [upd_ne fun z => by rw [z, fd] at h; cases h]
    exact p.sub _ _ h
  · obtain ⟨v, e1, re⟩ := p.at_ i e h
    refine ⟨v, e1, ?_⟩
    cases e with
    | shr d => exact re
    | own ds =>
      obtain ⟨a, us, rfl, ha, fa, ra⟩ := re
      refine ⟨a, us, rfl, ?_, fa, ra⟩
      rw [upd_ne fun z => ?_]
      · exact ha
      · subst z
        obtain ⟨us', h1, _⟩ := p0.owns (q.ows ⟨i, ds, h, e1⟩)
        rw [hn] at h1
        cases h1
  · rw [upd_ne fun z => by rw [z, hn] at h; cases h]
    exact q.fr b o h t no
  · rw [upd_ne fun z => by rw [z, hn] at h; cases h]
    exact q.gro b o h
theorem Po.known {b : Addr} {o : HO} (q : Po T F σ H Γ F' H' Γ') (hb : H b = some o) (fb : F b = Option.none) (no : ¬ Owns σ Γ b) : F' b = Option.none := by
  cases z : F' b with
  | none => rfl
  | some u =>
    rcases q.nf b u z with y | y | y
    · rw [fb] at y; cases y
    · rw [hb] at y; cases y
    · exact absurd y no
/-- the block's turns, whatever is walked -/
theorem lc_d {vs : List Nat} {J : It} {ds : List D} {F1 H1 : Hp} {Γ1 : Gm} {σ : St} {Qd : Addr → Hp → Prop} (hlen : ds.length ≤ sizeLine) (p1 : Rp T F1 σ H1 Γ1) (hg : CG T vs g wg) (ht : TD T E0 tt wt) (he : ED T E0 te we) (I : Nat → List D → Gm → Prop) (h0 : I 0 [] (wipeG Γ1 vs))
    (hs : ∀ i acc Γ d, I i acc Γ → ds[i]? = some d → wg d Γ fun Γ2 => wt Γ2 (fun b Γ3 => if b = true then we Γ3 (fun r Γ4 => ∃ y Γ5, frz Γ4 r = some (y, Γ5) ∧ I (i + 1) (acc ++ [y]) (wipeG Γ5 vs)) (fun _ => False) else I (i + 1) acc (wipeG Γ3 vs)) fun _ => False)
    (wk : ∀ i acc F2 H2 Γ2, I i acc Γ2 → Same F1 F2 → Rp T F2 (wipe σ vs) H2 Γ2 → (i = ds.length → J.stop i H2) ∧ ∀ d, ds[i]? = some d → J.go i H2 ∧ ∀ x H3, J.yld i H2 x H3 → ∃ F3, Nw T F2 H2 F3 H3 ∧ Rep T.K F3 x d)
    (k : ∀ F2 H2 Γ2 acc Dn, I ds.length acc Γ2 → Po T F1 σ H1 Γ1 F2 H2 (rstG Γ1 Γ2 vs) → RepR T F2 σ H2 (rstG Γ1 Γ2 vs) H1 (.ref Dn) (.new acc) → Qd Dn H2) :
    ∀ Dn, H1 Dn = none → ∃ W : Nat → Nat → Hp → Prop, (∃ m, W 0 m (upd H1 Dn (.lst []))) ∧ ∀ i m H, W i m H →
      (J.stop i H ∧ Qd Dn H) ∨ (J.go i H ∧ ∃ Nx : Hp → Prop, (∀ H', Nx H' → ∃ m', m' < m ∧ W (i + 1) m' H') ∧ ∀ x H', J.yld i H x H' → g x (wipe σ vs) H' fun σ2 H2 => wipe σ2 vs = wipe σ vs ∧ tt σ2 H2 fun b H3 =>
        if b = true then te σ2 H3 fun y H4 => ∃ acc, H4 Dn = some (.lst acc) ∧ acc.length < sizeLine ∧ Nx (upd H4 Dn (.lst (acc ++ [y]))) else Nx H3) := by
  intro Dn hDn
  have pw := p1.wipe (vs := vs)
  have xo0 : ∀ {ρ : St} {F H : Hp} {Γ : Gm}, XO T ρ E0 (fun _ => False) F H Γ := fun {ρ F H Γ} _ _ _ _ h => h.elim
  have noW : ¬ Owns (wipe σ vs) (wipeG Γ1 vs) Dn := fun z => by
    obtain ⟨us, h1, _⟩ := pw.owns z
    rw [hDn] at h1
    cases h1
  have f1D : F1 Dn = none := by
    cases e : F1 Dn with
    | none => rfl
    | some u => have := p1.sub _ _ e; rw [hDn] at this; cases this
  refine ⟨fun i m H => m = ds.length - i ∧ i ≤ ds.length ∧ ∃ F Γw acc ws, I i acc Γw ∧ acc.length ≤ i ∧ Γw = wipeG Γw vs ∧ Po T F1 (wipe σ vs) H1 (wipeG Γ1 vs) F H Γw ∧ Same F1 F ∧ H Dn = some (.lst ws) ∧ F Dn = none ∧ RepA T.K F ws acc,
    ⟨ds.length, by simp, Nat.zero_le _, F1, _, [], [], h0, Nat.le_refl _, wipeG_idem.symm, pw.po (pw.toOk.put hDn), fun _ _ h => h, upd_same, f1D, .nil⟩, ?_⟩
  rintro i m H2 ⟨rfl, hle, F2, Γ2, acc, ws, i2, hacc, hw2, q2, f2, hD2, fD2, r2⟩
  by_cases hlt : ¬ i < ds.length
  · have ei : i = ds.length := by omega
    subst ei
    refine .inl ⟨(wk _ acc F2 H2 Γ2 i2 f2 q2.rp).1 rfl, ?_⟩
    have q3 := Po.unwipe p1 q2
    refine k F2 H2 Γ2 acc Dn i2 q3 ⟨Dn, ws, rfl, hD2, fD2, hDn, r2, fun z => ?_⟩
    obtain ⟨us, h1, _⟩ := p1.owns (q3.ows z)
    rw [hDn] at h1
    cases h1
  · have hlt : i < ds.length := by omega
    refine .inr ?_
    obtain ⟨go, yl⟩ := (wk i acc F2 H2 Γ2 i2 f2 q2.rp).2 _ (List.getElem?_eq_getElem hlt)
    refine ⟨go, fun H => ∃ F Γw acc ws, I (i + 1) acc Γw ∧ acc.length ≤ i + 1 ∧ Γw = wipeG Γw vs ∧ Po T F1 (wipe σ vs) H1 (wipeG Γ1 vs) F H Γw ∧ Same F1 F ∧ H Dn = some (.lst ws) ∧ F Dn = none ∧ RepA T.K F ws acc, fun H' h => ⟨ds.length - (i + 1), by omega, rfl, hlt, h⟩, fun xv H3 hy => ?_⟩
    obtain ⟨F3, n3, r3⟩ := yl xv H3 hy
    have q3 := q2.nw n3
    have nown2 : NoOwn vs Γ2 := hw2 ▸ noOwn_wipe
    have hD3 : H3 Dn = some (.lst ws) := n3.hh _ _ hD2 lst_nt
    have fD3 : F3 Dn = none := by
      cases z : F3 Dn with
      | none => rfl
      | some u =>
        rcases n3.nf _ _ z with y | y
        · rw [fD2] at y; cases y
        · rw [hD2] at y; cases y
    refine hg F3 (wipe σ vs) H3 Γ2 xv _ _ _ q3.rp nown2 r3 (hs i acc Γ2 _ i2 (List.getElem?_eq_getElem hlt)) fun σ4 Γ4 h4 p4 n4 l4 j4 => ?_
    have eσ : wipe σ4 vs = wipe σ vs := by
      refine (wipe_ext l4 fun j hj => (j4 j hj).1).trans (wipe_ext (by rw [wipe_length]) fun j hj => wipe_out hj)
    have eΓ : wipeG Γ4 vs = Γ2 := (wipeG_ext (by rw [p4.len, l4, ← q3.rp.len]) fun j hj => (j4 j hj).2).trans hw2.symm
    have noD4 : ¬ Owns σ4 Γ4 Dn := fun z => by
      have z1 := owns_wipe' n4 z
      rw [eσ, eΓ] at z1
      exact noW (q3.ows z1)
    refine ⟨eσ, ht F3 σ4 H3 Γ4 _ _ _ p4 h4 xo0 fun F5 H5 Γ5 b hb5 q5 => ?_⟩
    have q5w : Po T F3 (wipe σ vs) H3 Γ2 F5 H5 (wipeG Γ5 vs) := by
      have := q5.wipe n4
      rw [eσ, eΓ] at this
      exact this
    have hD5 := q5.fr _ _ hD3 lst_nt noD4
    have fD5 := q5.known hD3 fD3 noD4
    have f15 : Same F1 F5 := fun b o h => q5.ff b o (n3.ff b o (f2 b o h))
    cases b with
    | false =>
      exact ⟨F5, _, acc, ws, hb5, by omega, wipeG_idem.symm, q3.trans q5w, f15, hD5, fD5, r2.mono fun b o h => q5.ff b o (n3.ff b o h)⟩
    | true =>
      have noD5 : ¬ Owns σ4 Γ5 Dn := fun z => noD4 (q5.ows z)
      refine he F5 σ4 H5 Γ5 _ _ _ q5.rp hb5 xo0 fun F6 H6 Γ6 y r h6 q6 e6 => ?_
      obtain ⟨yd, Γ7, a7, h7⟩ := h6
      obtain ⟨F7, q7, s7, r7⟩ := RepR.frz q6 e6 a7
      have n5 : NoOwn vs Γ5 := fun j hj es h => by
        obtain ⟨es', h'⟩ := q5.ow j es h
        exact n4 j hj es' h'
      have q7w : Po T F5 (wipe σ vs) H5 (wipeG Γ5 vs) F7 H6 (wipeG Γ7 vs) := by
        have := q7.wipe n5
        rw [eσ] at this
        exact this
      have hD7 := q7.fr _ _ hD5 lst_nt noD5
      have fD7 := q7.known hD5 fD5 noD5
      refine ⟨ws, hD7, ?_, F7, _, acc ++ [yd], ws ++ [y], h7, by simp; omega, wipeG_idem.symm, Po.grow pw (q3.trans (q5w.trans q7w)) hDn fD7 hD7, fun b o h => q7.ff b o (f15 b o h), upd_same, fD7, ?_⟩
      · rw [r2.length]
        omega
      · exact (r2.mono fun b o h => q7.ff b o (q5.ff b o (n3.ff b o h))).append (.cons r7 .nil)
theorem ed_lc {wi : TI} {wI : WI} {vs : List Nat} (hi : ID T E wi wI) (hg : CG T vs g wg) (ht : TD T E0 tt wt) (he : ED T E0 te we) : ED T E (tLc wi g tt te vs) (wLc wI wg wt we vs) := by
  intro F σ H Γ Q Ψ Ξ p hw x k
  refine hi F σ H Γ _ _ Ξ p hw x fun F1 H1 Γ1 J ds hr q1 wk => ?_
  obtain ⟨hlen, I, h0, hs, hd⟩ := hr
  refine lc_d (Qd := fun Dn H => Q (.ref Dn) H) hlen q1.rp hg ht he I h0 hs (fun i acc F2 H2 Γ2 _ f2 p2 => wk F2 H2 i f2 p2.toOk) fun F2 H2 Γ2 acc Dn i2 q3 e3 => ?_
  exact k F2 H2 _ _ _ (hd acc Γ2 i2) (q1.trans q3) (e3.back q1)
/-- over one of the def's own lists, which stays its own -/
def wLcO (s : Nat) (wg : WG) (wt : WT) (we : WE) (vs : List Nat) : WE := fun Γ Ψ Ξ => ∃ ds, Γ[s]? = some (some (.own ds)) ∧ ds.length ≤ sizeLine ∧ ∃ I : Nat → List D → Gm → Prop, I 0 [] (wipeG Γ vs) ∧ (∀ i acc Γ, I i acc Γ → Γ[s]? = some (some (.own ds))) ∧
  (∀ i acc Γ d, I i acc Γ → ds[i]? = some d → wg d Γ fun Γ2 => wt Γ2 (fun b Γ3 => if b = true then we Γ3 (fun r Γ4 => ∃ y Γ5, frz Γ4 r = some (y, Γ5) ∧ I (i + 1) (acc ++ [y]) (wipeG Γ5 vs)) (fun _ => False) else I (i + 1) acc (wipeG Γ3 vs)) fun _ => False) ∧
  ∀ acc Γ', I ds.length acc Γ' → Ψ (.new acc) (rstG Γ Γ' vs)
theorem ed_lcO {s : Nat} {vs : List Nat} (hv : s ∉ vs) (hg : CG T vs g wg) (ht : TD T E0 tt wt) (he : ED T E0 te we) : ED T E (tLc (iList T.K (tVar s)) g tt te vs) (wLcO s wg wt we vs) := by
  intro F σ H Γ Q Ψ Ξ p hw x k
  obtain ⟨ds, hds, hlen, I, h0, hown, hs, hd⟩ := hw
  obtain ⟨v, e0, a, us, rfl, ha, fa, ra⟩ := p.at_ s _ hds
  refine ⟨_, e0, a, rfl, ⟨us, .inl (.inl ha)⟩, ?_⟩
  refine lc_d (Qd := fun Dn H => Q (.ref Dn) H) hlen p hg ht he I h0 hs (fun i acc F2 H2 Γ2 i2 f2 p2 => ?_) fun F2 H2 Γ2 acc Dn i2 q3 e3 => k F2 H2 _ _ _ (hd acc Γ2 i2) q3 e3
  obtain ⟨v', e1, b, ws, rfl, hb, fb, rb⟩ := p2.at_ s _ (hown i acc Γ2 i2)
  rw [wipe_out hv, e0] at e1
  cases e1
  have sq : SqL T.K H2 a ws := .inl (.inl hb)
  refine ⟨fun e => ⟨ws, sq, by rw [e, rb.length]; exact Nat.le_refl _⟩, fun d hd => ?_⟩
  obtain ⟨u, hu, ru⟩ := rb.get hd
  refine ⟨⟨ws, u, sq, hu⟩, fun x H3 hy => ?_⟩
  obtain ⟨rfl, hx⟩ := hy
  have := hx ws sq
  rw [hu] at this
  cases this
  exact ⟨F2, p2.toOk.refl, ru⟩
end
end Dt

set_option Elab.async false
set_option linter.all false
set_option maxRecDepth 100000
set_option autoImplicit false
namespace Dt
open PySem L2 Kx
section
variable {T : Tb} {F F1 F2 F' H H1 H2 H' : Hp} {σ σ2 : St} {Γ Γ1 Γ2 Γ' Γw : Gm} {E : XK} {t ta tb tc te : TE} {w wa wb wc we : WE} {tA : TA} {wA : WA} {io : Bool}
/-! ### what is walked -/
theorem ats_frzL {rs : List R} {ds : List D} (h : frzL Γ rs = some (ds, Γ')) : rs.length = ds.length := by
  induction rs generalizing Γ ds with
  | nil => cases h; rfl
  | cons r rs ih =>
    unfold frzL at h
    split at h
    · split at h
      · cases h
        rename_i h2
        simp [ih h2]
      · cases h
    · cases h
def wIList (w : WE) : WI := fun Γ Ψ Ξ => w Γ (fun r Γ1 => ∃ ds Γ2, frz Γ1 r = some (.lst ds, Γ2) ∧ Ψ ds Γ2) Ξ
theorem wk_list {a : Addr} {vs : List V} {ds : List D} (h : SqL T.K F a vs) (r : RepA T.K F vs ds) : Wk T F (Itl T.K a) ds := fun F' H' i ff o => by
  have hs := sql_same (sql_same h ff) o.sub
  refine ⟨fun e => ⟨vs, hs, by rw [e, r.length]; exact Nat.le_refl _⟩, fun d hd => ?_⟩
  obtain ⟨v, hv, rv⟩ := r.get hd
  refine ⟨⟨vs, v, hs, hv⟩, fun x H'' hy => ?_⟩
  obtain ⟨rfl, hx⟩ := hy
  have := hx vs hs
  rw [hv] at this
  cases this
  exact ⟨F', o.refl, rv.mono ff⟩
theorem id_list (h : ED T E t w) : ID T E (iList T.K t) (wIList w) := fun F σ H Γ Q Ψ Ξ p hw x k => h F σ H Γ _ _ Ξ p hw x fun F1 H1 Γ1 v r hr q e => by
  obtain ⟨ds, Γ2, a, hk⟩ := hr
  obtain ⟨F2, q2, s2, r2⟩ := RepR.frz q e a
  cases r2 with
  | lst hs hr => exact ⟨_, rfl, ⟨_, .inl (rd_same hs q2.rp.sub)⟩, k F2 H1 Γ2 _ ds hk q2 (wk_list (.inl hs) hr)⟩
def wITup (w : WE) : WI := fun Γ Ψ Ξ => w Γ (fun r Γ1 => ∃ ds Γ2, frz Γ1 r = some (.tup ds, Γ2) ∧ Ψ ds Γ2) Ξ
theorem wk_tup {a : Addr} {vs : List V} {ds : List D} (h : SqT T.K F a vs) (r : RepA T.K F vs ds) : Wk T F (Itt T.K a) ds := fun F' H' i ff o => by
  have hs := sqt_same (sqt_same h ff) o.sub
  refine ⟨fun e => ⟨vs, hs, by rw [e, r.length]; exact Nat.le_refl _⟩, fun d hd => ?_⟩
  obtain ⟨v, hv, rv⟩ := r.get hd
  refine ⟨⟨vs, v, hs, hv⟩, fun x H'' hy => ?_⟩
  obtain ⟨rfl, hx⟩ := hy
  have := hx vs hs
  rw [hv] at this
  cases this
  exact ⟨F', o.refl, rv.mono ff⟩
theorem id_tup (h : ED T E t w) : ID T E (iTup T.K t) (wITup w) := fun F σ H Γ Q Ψ Ξ p hw x k => h F σ H Γ _ _ Ξ p hw x fun F1 H1 Γ1 v r hr q e => by
  obtain ⟨ds, Γ2, a, hk⟩ := hr
  obtain ⟨F2, q2, s2, r2⟩ := RepR.frz q e a
  cases r2 with
  | tup hs hr => exact ⟨_, rfl, ⟨_, sqt_same hs q2.rp.sub⟩, k F2 H1 Γ2 _ ds hk q2 (wk_tup hs hr)⟩
def rng (lo : Int) (n : Nat) : List D := (List.range n).map fun i : Nat => D.int (lo + (i : Int))
theorem rng_length (lo : Int) (n : Nat) : (rng lo n).length = n := by simp [rng]
theorem rng_get {lo : Int} {n i : Nat} {d : D} (h : (rng lo n)[i]? = some d) : i < n ∧ d = .int (lo + (i : Int)) := by
  have hi : i < n := by have := (List.getElem?_eq_some_iff.mp h).1; rwa [rng_length] at this
  refine ⟨hi, ?_⟩
  unfold rng at h
  rw [List.getElem?_map, List.getElem?_range hi] at h
  cases h
  rfl
theorem wk_rng {lo : Int} {n : Nat} : Wk T F (Itr lo n) (rng lo n) := fun F' H' i ff o => by
  refine ⟨fun e => by rw [rng_length] at e; exact Nat.le_of_eq e.symm, fun d hd => ?_⟩
  obtain ⟨hi, rfl⟩ := rng_get hd
  refine ⟨hi, fun x H'' hy => ?_⟩
  obtain ⟨rfl, rfl⟩ := hy
  exact ⟨F', o.refl, .int _⟩
def wIRng1 (wA : WA) : WI := fun Γ Ψ Ξ => wA Γ (fun rs Γ1 => ∃ j, ats Γ1 rs = some [.int j] ∧ (-(2 ^ 62) ≤ j ∧ j < 2 ^ 62) ∧ Ψ (rng 0 j.toNat) Γ1) Ξ
theorem id_rng1 (h : AD T E tA wA) : ID T E (iRng1 tA) (wIRng1 wA) := fun F σ H Γ Q Ψ Ξ p hw x k => h F σ H Γ _ _ Ξ p hw x fun F1 H1 Γ1 vs rs hr q e => by
  obtain ⟨j, a, ⟨b1, b2⟩, hk⟩ := hr
  obtain ⟨v, rfl, hv⟩ := (e.peek q.rp a).one
  exact ⟨j, by rw [hv.int], b1, b2, k F1 H1 Γ1 _ _ hk q wk_rng⟩
def wIRng2 (wA : WA) : WI := fun Γ Ψ Ξ => wA Γ (fun rs Γ1 => ∃ i j, ats Γ1 rs = some [.int i, .int j] ∧ Ψ (rng i (j - i).toNat) Γ1) Ξ
theorem id_rngB (h : AD T E tA wA) : ID T E (iRngB tA) (wIRng2 wA) := fun F σ H Γ Q Ψ Ξ p hw x k => h F σ H Γ _ _ Ξ p hw x fun F1 H1 Γ1 vs rs hr q e => by
  obtain ⟨i, j, a, hk⟩ := hr
  obtain ⟨v, u, rfl, hv, hu⟩ := (e.peek q.rp a).two
  exact ⟨i, j, by rw [hv.int, hu.int], k F1 H1 Γ1 _ _ hk q wk_rng⟩
def chs (x : Str) : List D := x.cps.toList.map fun c => D.str ⟨#[c]⟩
def wIStr (w : WE) : WI := fun Γ Ψ Ξ => w Γ (fun r Γ1 => ∃ x, r.at Γ1 = some (.str x) ∧ Ψ (chs x) Γ1) Ξ
theorem wk_str {x : Str} : Wk T F (Its x) (chs x) := fun F' H' i ff o => by
  have hl : (chs x).length = x.cps.size := by simp [chs]
  refine ⟨fun e => by rw [hl] at e; exact Nat.le_of_eq e.symm, fun d hd => ?_⟩
  have hi : i < x.cps.size := by have := (List.getElem?_eq_some_iff.mp hd).1; rwa [hl] at this
  refine ⟨hi, fun v H'' hy => ?_⟩
  obtain ⟨rfl, c, hc, rfl⟩ := hy
  unfold chs at hd
  rw [List.getElem?_map, Array.getElem?_toList, hc] at hd
  cases hd
  exact ⟨F', o.refl, .str _⟩
theorem id_str (h : ED T E t w) : ID T E (iStr t) (wIStr w) := fun F σ H Γ Q Ψ Ξ p hw x k => h F σ H Γ _ _ Ξ p hw x fun F1 H1 Γ1 v r hr q e => by
  obtain ⟨z, a, hk⟩ := hr
  exact ⟨z, (e.peek q.rp a).str, k F1 H1 Γ1 _ _ hk q wk_str⟩
def enu (ds : List D) : List D := ds.mapIdx fun i d => D.tup [.int (i : Nat), d]
theorem wk_enum {a : Addr} {vs : List V} {ds : List D} (h : SqL T.K F a vs) (r : RepA T.K F vs ds) : Wk T F (Ite T.K a) (enu ds) := fun F' H' i ff o => by
  have hs := sql_same (sql_same h ff) o.sub
  have hl : (enu ds).length = ds.length := by simp [enu]
  refine ⟨fun e => ⟨vs, hs, by rw [e, hl, r.length]; exact Nat.le_refl _⟩, fun d hd => ?_⟩
  unfold enu at hd
  rw [List.getElem?_mapIdx] at hd
  cases q : ds[i]? with
  | none => rw [q] at hd; cases hd
  | some d0 =>
    rw [q] at hd
    cases hd
    obtain ⟨v, hv, rv⟩ := r.get q
    refine ⟨⟨vs, v, hs, hv⟩, fun x H'' hy => ?_⟩
    obtain ⟨Tn, x0, rfl, hT, rfl, hx⟩ := hy
    have := hx vs hs
    rw [hv] at this
    cases this
    have n := o.lay (o := .tup [.int (i : Nat), v]) hT tup_nt
    exact ⟨_, n, .tup (.inl (.inl upd_same)) (.cons (.int _) (.cons ((rv.mono ff).mono n.ff) .nil))⟩
def wIEnum (wA : WA) : WI := fun Γ Ψ Ξ => wA Γ (fun rs Γ1 => ∃ ds Γ2, frzL Γ1 rs = some ([.lst ds], Γ2) ∧ Ψ (enu ds) Γ2) Ξ
theorem id_enum (h : AD T E tA wA) : ID T E (iEnum T.K tA) (wIEnum wA) := fun F σ H Γ Q Ψ Ξ p hw x k => h F σ H Γ _ _ Ξ p hw x fun F1 H1 Γ1 vs rs hr q e => by
  obtain ⟨ds, Γ2, a, hk⟩ := hr
  obtain ⟨F2, q2, s2, r2⟩ := RepRs.frz q e a
  cases r2 with
  | cons r1 r2 =>
    cases r2
    cases r1 with
    | lst hs hr => exact ⟨_, _, rfl, .inl (rd_same hs q2.rp.sub), k F2 H1 Γ2 _ _ hk q2 (wk_enum (.inl hs) hr)⟩
def zp (ds es : List D) : List D := List.zipWith (fun d e => D.tup [d, e]) ds es
theorem wk_zip {a b : Addr} {vs us : List V} {ds es : List D} (h : SqL T.K F a vs) (r : RepA T.K F vs ds) (h' : SqL T.K F b us) (r' : RepA T.K F us es) : Wk T F (Itz T.K a b) (zp ds es) := fun F' H' i ff o => by
  have hs := sql_same (sql_same h ff) o.sub
  have hs' := sql_same (sql_same h' ff) o.sub
  have hl : (zp ds es).length = min ds.length es.length := by simp [zp]
  refine ⟨fun e => ⟨vs, us, hs, hs', ?_⟩, fun d hd => ?_⟩
  · rw [r.length, r'.length, e, hl]
    omega
  · unfold zp at hd
    rw [List.getElem?_zipWith] at hd
    cases q : ds[i]? with
    | none => rw [q] at hd; cases hd
    | some d0 =>
      cases q' : es[i]? with
      | none => rw [q, q'] at hd; cases hd
      | some e0 =>
        rw [q, q'] at hd
        cases hd
        obtain ⟨v, hv, rv⟩ := r.get q
        obtain ⟨u, hu, ru⟩ := r'.get q'
        refine ⟨⟨vs, us, v, u, hs, hs', hv, hu⟩, fun x H'' hy => ?_⟩
        obtain ⟨Tn, x0, y0, rfl, hT, rfl, hx, hy⟩ := hy
        have := hx vs hs
        rw [hv] at this
        cases this
        have := hy us hs'
        rw [hu] at this
        cases this
        have n := o.lay (o := .tup [v, u]) hT tup_nt
        exact ⟨_, n, .tup (.inl (.inl upd_same)) (.cons ((rv.mono ff).mono n.ff) (.cons ((ru.mono ff).mono n.ff) .nil))⟩
def wIZip (wA : WA) : WI := fun Γ Ψ Ξ => wA Γ (fun rs Γ1 => ∃ ds es Γ2, frzL Γ1 rs = some ([.lst ds, .lst es], Γ2) ∧ Ψ (zp ds es) Γ2) Ξ
theorem id_zip (h : AD T E tA wA) : ID T E (iZip T.K tA) (wIZip wA) := fun F σ H Γ Q Ψ Ξ p hw x k => h F σ H Γ _ _ Ξ p hw x fun F1 H1 Γ1 vs rs hr q e => by
  obtain ⟨ds, es, Γ2, a, hk⟩ := hr
  obtain ⟨F2, q2, s2, r2⟩ := RepRs.frz q e a
  cases r2 with
  | cons r1 r2 =>
    cases r2 with
    | cons r2 r3 =>
      cases r3
      cases r1 with
      | lst hs hr =>
        cases r2 with
        | lst hs' hr' => exact ⟨_, _, _, _, rfl, .inl (rd_same hs q2.rp.sub), .inl (rd_same hs' q2.rp.sub), k F2 H1 Γ2 _ _ hk q2 (wk_zip (.inl hs) hr (.inl hs') hr')⟩
/-! ### operators -/
def dI (C : Int → Int → Prop) (f : Int → Int → Int) : D → D → (R → Prop) → Prop := fun d e Ψ => ∃ i j, d = .int i ∧ e = .int j ∧ C i j ∧ Ψ (.val (.int (f i j)))
theorem od_I {C : Int → Int → Prop} {f : Int → Int → Int} : OD T (rI C fun i j => .int (f i j)) (dI C f) := fun F H x y d e Q Ψ o hx hy hg k => by
  obtain ⟨i, j, rfl, rfl, c, h⟩ := hg
  exact ⟨i, j, hx.int, hy.int, c, k F H _ _ h o.refl (Rep.int _)⟩
def dI0 (f : Int → Int → Int) : D → D → (R → Prop) → Prop := fun d e Ψ => ∃ i j, d = .int i ∧ e = .int j ∧ Ψ (.val (.int (f i j)))
theorem od_I0 {f : Int → Int → Int} : OD T (rI0 fun i j => .int (f i j)) (dI0 f) := fun F H x y d e Q Ψ o hx hy hg k => by
  obtain ⟨i, j, rfl, rfl, h⟩ := hg
  exact ⟨i, j, hx.int, hy.int, k F H _ _ h o.refl (Rep.int _)⟩
theorem od_ipI {f : Int → Int → Int} : OD T (ipI f) (dI0 f) := fun F H x y d e Q Ψ o hx hy hg k => by
  obtain ⟨i, j, rfl, rfl, h⟩ := hg
  exact ⟨i, j, hx.int, hy.int, k F H _ _ h o.refl (Rep.int _)⟩
theorem od_ipM {C : Int → Int → Prop} {f : Int → Int → Int} : OD T (ipM C f) (dI C f) := fun F H x y d e Q Ψ o hx hy hg k => by
  obtain ⟨i, j, rfl, rfl, c, h⟩ := hg
  exact ⟨i, j, hx.int, hy.int, c, k F H _ _ h o.refl (Rep.int _)⟩
def bI (f : Int → Int → Bool) : D → D → (Bool → Prop) → Prop := fun d e Ψ => ∃ i j, d = .int i ∧ e = .int j ∧ Ψ (f i j)
theorem bd_I {f : Int → Int → Bool} : BD T (rI0 fun i j => .bl (f i j)) (bI f) := fun F H x y d e Q Ψ o hx hy hg k => by
  obtain ⟨i, j, rfl, rfl, h⟩ := hg
  exact ⟨i, j, hx.int, hy.int, k _ h⟩
def scq : D → D → Option Bool
  | .int i, .int j => some (decide (i = j))
  | .str x, .str y => some (decide (x = y))
  | .bl x, .bl y => some (decide (x = y))
  | .non, .non => some true
  | _, _ => none
def bSc (f : Bool → Bool) : D → D → (Bool → Prop) → Prop := fun d e Ψ => ∃ b, scq d e = some b ∧ Ψ (f b)
theorem scq_of {d e : D} {b : Bool} (h : scq d e = some b) : ∃ x y : V, (∀ (v : V), PRep T.K F H v d → v = x) ∧ (∀ v, PRep T.K F H v e → v = y) ∧ scal x y = true ∧ decide (x = y) = b := by
  unfold scq at h
  split at h
  · cases h; exact ⟨.int _, .int _, fun v z => z.int, fun v z => z.int, rfl, by simp⟩
  · cases h; exact ⟨.str _, .str _, fun v z => z.str, fun v z => z.str, rfl, by simp⟩
  · cases h; exact ⟨.bl _, .bl _, fun v z => z.bl, fun v z => z.bl, rfl, by simp⟩
  · cases h; exact ⟨.non, .non, fun v z => z.non, fun v z => z.non, rfl, by simp⟩
  · cases h
theorem bd_eq : BD T rEq (bSc id) := fun F H x y d e Q Ψ o hx hy hg k => by
  obtain ⟨b, hb, h⟩ := hg
  obtain ⟨v, u, h1, h2, h3, h4⟩ := scq_of (T := T) (F := F) (H := H) hb
  rw [h1 x hx, h2 y hy]
  refine ⟨h3, ?_⟩
  rw [h4]
  exact k b h
theorem bd_ne : BD T rNe (bSc not) := fun F H x y d e Q Ψ o hx hy hg k => by
  obtain ⟨b, hb, h⟩ := hg
  obtain ⟨v, u, h1, h2, h3, h4⟩ := scq_of (T := T) (F := F) (H := H) hb
  rw [h1 x hx, h2 y hy]
  refine ⟨h3, ?_⟩
  rw [h4]
  exact k _ h
/-! data at any depth -/
mutual
def D.py : D → PyData
  | .non => .none | .bl b => .bool b | .int i => .int i | .str x => .str x | .ty _ => .none | .scr _ => .none
  | .lst xs => .list (D.pyA xs) | .tup xs => .tuple (D.pyA xs) | .obj _ _ _ => .none
def D.pyA : List D → List PyData
  | [] => []
  | x :: xs => D.py x :: D.pyA xs
end
theorem D.pyA_map : ∀ xs : List D, D.pyA xs = xs.map D.py
  | [] => rfl
  | x :: xs => by rw [D.pyA, List.map_cons, D.pyA_map xs]
/-- plain, at most n deep, its texts' signs in order -/
inductive Dep : Nat → D → Prop
  | non {n : Nat} : Dep n .non
  | bl {n : Nat} (b : Bool) : Dep n (.bl b)
  | int {n : Nat} (i : Int) : Dep n (.int i)
  | str {n : Nat} {x : Str} : PyData.strOk x = true → Dep n (.str x)
  | lst {n : Nat} {xs : List D} : (∀ x ∈ xs, Dep n x) → Dep (n + 1) (.lst xs)
  | tup {n : Nat} {xs : List D} : (∀ x ∈ xs, Dep n x) → Dep (n + 1) (.tup xs)
theorem Dep.lst_inv {n : Nat} {xs : List D} (h : Dep n (.lst xs)) : ∃ m, ∀ x ∈ xs, Dep m x := by
  cases h with | lst h => exact ⟨_, h⟩
theorem Dep.tup_inv {n : Nat} {xs : List D} (h : Dep n (.tup xs)) : ∃ m, ∀ x ∈ xs, Dep m x := by
  cases h with | tup h => exact ⟨_, h⟩
theorem Dep.no_ty {n : Nat} {m : String} (h : Dep n (.ty m)) : False := by cases h
theorem Dep.no_scr {n : Nat} {m : List D} (h : Dep n (.scr m)) : False := by cases h
theorem Dep.no_obj {n : Nat} {c : Str} {m : List Str} {xs : List D} (h : Dep n (.obj c m xs)) : False := by cases h
mutual
theorem Rep.dp (s : Same F H) : ∀ {v : V} {d : D}, Rep T.K F v d → (∃ n, Dep n d) → Dp T.K H v d.py
  | _, _, .non, _ => .non
  | _, _, .bl b, _ => .bl b
  | _, _, .int i, _ => .int i
  | _, _, .str x, _ => .str x
  | _, _, .ty n, h => (h.elim fun _ h => h.no_ty).elim
  | _, _, .scr _ _, h => (h.elim fun _ h => h.no_scr).elim
  | _, _, .obj _ _ _, h => (h.elim fun _ h => h.no_obj).elim
  | _, _, .lst h r, hd => .lst (.inl (rd_same h s)) (RepA.dp s r (hd.elim fun _ h => h.lst_inv))
  | _, _, .tup h r, hd => .tup (sqt_same h s) (RepA.dp s r (hd.elim fun _ h => h.tup_inv))
theorem RepA.dp (s : Same F H) : ∀ {vs : List V} {ds : List D}, RepA T.K F vs ds → (∃ n, ∀ x ∈ ds, Dep n x) → DpAll T.K H vs (D.pyA ds)
  | _, _, .nil, _ => .nil
  | _, _, .cons h r, hd => .cons (Rep.dp s h (hd.elim fun n hd => ⟨n, hd _ (List.mem_cons_self ..)⟩)) (RepA.dp s r (hd.elim fun n hd => ⟨n, fun x hx => hd x (List.mem_cons_of_mem _ hx)⟩))
end
theorem PRep.dp {n : Nat} {v : V} {d : D} (s : Same F H) (h : PRep T.K F H v d) (hd : Dep n d) : Dp T.K H v d.py := by
  rcases h with h | ⟨a, vs, ds, rfl, rfl, ha, r⟩
  · exact h.dp s ⟨n, hd⟩
  · exact .lst (.inl (.inl ha)) (r.dp s hd.lst_inv)
theorem Dep.lay : ∀ {n : Nat} {d : D}, Dep n d → PyData.canLay0 d.py = true ∧ d.py.depth ≤ n
  | _, _, .non => ⟨rfl, Nat.zero_le _⟩
  | _, _, .bl b => ⟨rfl, Nat.zero_le _⟩
  | _, _, .int i => ⟨rfl, Nat.zero_le _⟩
  | _, _, .str h => ⟨h, Nat.zero_le _⟩
  | n + 1, .lst xs, .lst h => by
    have all : ∀ xs : List D, (∀ x ∈ xs, Dep n x) → PyData.canLayAll0 (D.pyA xs) = true ∧ PyData.depthAll (D.pyA xs) ≤ n := fun xs => by
      induction xs with
      | nil => intro _; exact ⟨rfl, Nat.zero_le _⟩
      | cons x xs ih =>
        intro h
        have h1 := Dep.lay (h x (List.mem_cons_self ..))
        have h2 := ih fun y hy => h y (List.mem_cons_of_mem _ hy)
        refine ⟨?_, ?_⟩
        · rw [D.pyA, PyData.canLayAll0, h1.1, h2.1]; rfl
        · rw [D.pyA, PyData.depthAll]
          exact Nat.max_le.mpr ⟨h1.2, h2.2⟩
    have := all xs h
    exact ⟨this.1, Nat.succ_le_succ this.2⟩
  | n + 1, .tup xs, .tup h => by
    have all : ∀ xs : List D, (∀ x ∈ xs, Dep n x) → PyData.canLayAll0 (D.pyA xs) = true ∧ PyData.depthAll (D.pyA xs) ≤ n := fun xs => by
      induction xs with
      | nil => intro _; exact ⟨rfl, Nat.zero_le _⟩
      | cons x xs ih =>
        intro h
        have h1 := Dep.lay (h x (List.mem_cons_self ..))
        have h2 := ih fun y hy => h y (List.mem_cons_of_mem _ hy)
        refine ⟨?_, ?_⟩
        · rw [D.pyA, PyData.canLayAll0, h1.1, h2.1]; rfl
        · rw [D.pyA, PyData.depthAll]
          exact Nat.max_le.mpr ⟨h1.2, h2.2⟩
    have := all xs h
    exact ⟨this.1, Nat.succ_le_succ this.2⟩
theorem Dep.shaped {n : Nat} {d : D} (h : Dep n d) (hn : n ≤ 60) : SeqAt.shaped d.py = true := by
  obtain ⟨h1, h2⟩ := h.lay
  unfold SeqAt.shaped
  rw [h1, Bool.true_and]
  exact decide_eq_true (by omega)
def deq (d e : D) : Bool := PyData.eqv d.py e.py
theorem deq_refl {n : Nat} {d : D} (h : Dep n d) : deq d d = true := SeqAt.eqv_refl _ h.lay.1
def bEq (f : Bool → Bool) : D → D → (Bool → Prop) → Prop := fun d e Ψ => (∃ n, n ≤ 60 ∧ Dep n d) ∧ (∃ n, n ≤ 60 ∧ Dep n e) ∧ Ψ (f (deq d e))
theorem bd_eqD : BD T (rEqD T.K) (bEq id) := fun F H x y d e Q Ψ o hx hy hg k => by
  obtain ⟨⟨n, hn, dn⟩, ⟨m, hm, dm⟩, h⟩ := hg
  exact ⟨_, _, hx.dp o.sub dn, hy.dp o.sub dm, dn.shaped hn, dm.shaped hm, k _ h⟩
theorem bd_neD : BD T (rNeD T.K) (bEq not) := fun F H x y d e Q Ψ o hx hy hg k => by
  obtain ⟨⟨n, hn, dn⟩, ⟨m, hm, dm⟩, h⟩ := hg
  exact ⟨_, _, hx.dp o.sub dn, hy.dp o.sub dm, dn.shaped hn, dm.shaped hm, k _ h⟩
end
end Dt

set_option Elab.async false
set_option linter.all false
set_option maxRecDepth 100000
set_option autoImplicit false
namespace Dt
open PySem PySem.Spec L2 Kx PyProof.Rows
section
variable {X : Cx}
/-! ### lists that are read: put together, taken many times -/
theorem Inv.rdL {pins : List (Addr × Obj)} {σ : L2.St} {H : Hp} {s : Shared} {l : Addr} {xs : List V} (I : L2.Inv X pins σ H s) (hH : L2.Rd H l (.lst xs)) : xs.length ≤ sizeLine ∧ ∃ (its : List Value) (n : Nat), Vals xs its ∧ xs.length = its.length ∧ s.heap.get? l = some { cls := .type "list", data := .seq its.toArray n } := by
  obtain ⟨z, its, n, r, e⟩ := hH.ok I.hok
  exact ⟨z, its, n, r, r.length, e⟩
def rCatL : L2.R2 := fun x y H Q => ∃ l b xs zs, x = .ref l ∧ y = .ref b ∧ L2.Rd H l (.lst xs) ∧ L2.Rd H b (.lst zs) ∧ xs.length + zs.length ≤ sizeLine ∧ ∀ p, H p = none → Q (.ref p) (upd H p (.lst (xs ++ zs)))
theorem op_catL : OpR X (binaryOp .Add) rCatL := by
  intro pins s σ H x y v u Q I rx ry h
  obtain ⟨l, b, xs, zs, rfl, rfl, hH, hB, hz, q⟩ := h
  cases rx
  cases ry
  obtain ⟨z, its, n, r, hl, e⟩ := Inv.rdL I hH
  obtain ⟨z2, its2, n2, r2, hl2, e2⟩ := Inv.rdL I hB
  refine PySem.P.add_list e e2 ?_ (by rw [List.size_toArray, List.size_toArray]; omega)
  have ea : its.toArray ++ its2.toArray = (its ++ its2).toArray := by simp
  rw [ea]
  exact ⟨.ref _, _, I.lnew (t' := s.toks) (r.append r2) (by rw [List.length_append]; omega), rfl, q _ I.fresh⟩
/-! ### isinstance, all in one -/
theorem call_isiAll : CallR X (.builtin "isinstance") (fun xs H Q => (∃ y T b, xs = [y, .ty T] ∧ isiB y T = some b ∧ Q (.bl b) H) ∨ (∃ a ys, xs = [.ref a, .ty "tuple"] ∧ SqT X.K H a ys ∧ Q (.bl true) H) ∨ ∃ a ys, xs = [.ref a, .ty "list"] ∧ SqL X.K H a ys ∧ Q (.bl true) H) := by
  intro pins s σ H xs us Q I r h
  rcases h with h | h | h
  · exact call_isi pins s σ H xs us Q I r h
  · exact call_isiTT pins s σ H xs us Q I r h
  · exact call_isiLL pins s σ H xs us Q I r h
end
section
variable {T : Tb} {F F1 F2 F' H H1 H2 H' : Hp} {σ σ2 : L2.St} {Γ Γ1 Γ2 Γ' Γw : Gm} {E : XK} {t ta tb tc te to : TE} {w wa wb wc we wo : WE} {tA : TA} {wA : WA} {io : Bool}
theorem od_pure {r : L2.R2} {g : D → D → (R → Prop) → Prop} (h : ∀ (F H : Hp) (x y : V) (d e : D) (Q : VK) (Ψ : R → Prop), Ok T F H → PRep T.K F H x d → PRep T.K F H y e → g d e Ψ → (∀ v z, Ψ (.val z) → Rep T.K F v z → Q v H) → r x y H Q) : OD T r g :=
  fun F H x y d e Q Ψ o hx hy hg k => h F H x y d e Q Ψ o hx hy hg fun v z hz hv => k F H v _ hz o.refl hv
theorem atI_rep {vs : List V} {ds : List D} {i : Int} {z : D} (r : RepA T.K F vs ds) (h : atI ds i = some z) : ∃ v, atI vs i = some v ∧ Rep T.K F v z := by
  unfold atI at h ⊢
  rw [r.length]
  cases e : ixN ds.length i with
  | none => rw [e] at h; cases h
  | some j =>
    rw [e] at h
    obtain ⟨v, hv, rv⟩ := r.get (show ds[j]? = some z from h)
    exact ⟨v, hv, rv⟩
def dIxL : D → D → (R → Prop) → Prop := fun d e Ψ => ∃ ds i z, (d = .lst ds ∨ d = .scr ds) ∧ e = .int i ∧ atI ds i = some z ∧ Ψ (.val z)
theorem od_ixL : OD T (rIxL T.K) dIxL := od_pure fun F H x y d e Q Ψ o hx hy hg k => by
  obtain ⟨ds, i, z, hd, rfl, ha, h⟩ := hg
  obtain ⟨a, vs, rfl, hs, r⟩ : ∃ a vs, x = .ref a ∧ SqL T.K H a vs ∧ RepA T.K F vs ds := by
    rcases hd with rfl | rfl
    · obtain ⟨a, vs, e, h, r⟩ := hx.lst o.sub; exact ⟨a, vs, e, .inl h, r⟩
    · exact hx.scr o.sub
  obtain ⟨v, hv, rv⟩ := atI_rep r ha
  exact ⟨a, vs, i, v, rfl, hy.int, hs, hv, k v z h rv⟩
def dIxT : D → D → (R → Prop) → Prop := fun d e Ψ => ∃ ds i z, d = .tup ds ∧ e = .int i ∧ atI ds i = some z ∧ Ψ (.val z)
theorem od_ixT : OD T (rIxT T.K) dIxT := od_pure fun F H x y d e Q Ψ o hx hy hg k => by
  obtain ⟨ds, i, z, rfl, rfl, ha, h⟩ := hg
  obtain ⟨a, vs, rfl, hs, r⟩ := hx.tup o.sub
  obtain ⟨v, hv, rv⟩ := atI_rep r ha
  exact ⟨a, vs, i, v, rfl, hy.int, hs, hv, k v z h rv⟩
def dIxS : D → D → (R → Prop) → Prop := fun d e Ψ => ∃ z i c, d = .str z ∧ e = .int i ∧ z.length ≤ sizeLine ∧ atI z.cps.toList i = some c ∧ Ψ (.val (.str ⟨#[c]⟩))
theorem od_ixS : OD T rIxS dIxS := od_pure fun F H x y d e Q Ψ o hx hy hg k => by
  obtain ⟨z, i, c, rfl, rfl, hl, ha, h⟩ := hg
  exact ⟨z, i, c, hx.str, hy.int, hl, ha, k _ _ h (.str _)⟩
/-- list, tuple or text -/
def dIx : D → D → (R → Prop) → Prop := fun d e Ψ => match d with
  | .lst _ => dIxL d e Ψ
  | .scr _ => dIxL d e Ψ
  | .tup _ => dIxT d e Ψ
  | .str _ => dIxS d e Ψ
  | _ => False
theorem od_ix : OD T (rIx T.K) dIx := fun F H x y d e Q Ψ o hx hy hg k => by
  unfold dIx at hg
  split at hg
  · exact .inl (od_ixL F H x y _ e Q Ψ o hx hy hg k)
  · exact .inl (od_ixL F H x y _ e Q Ψ o hx hy hg k)
  · exact .inr (.inl (od_ixT F H x y _ e Q Ψ o hx hy hg k))
  · exact .inr (.inr (od_ixS F H x y _ e Q Ψ o hx hy hg k))
  · exact hg.elim
def D.v : D → V
  | .non => .non | .bl b => .bl b | .int i => .int i | .str x => .str x | _ => .ty ""
def D.flat : D → Bool
  | .non => true | .bl _ => true | .int _ => true | .str _ => true | _ => false
theorem PRep.flat {K : PySem.W.Frag} {v : V} {d : D} (h : PRep K F H v d) (f : d.flat = true) : v = d.v ∧ flatV v = true := by
  cases d <;> first
    | (cases f; done)
    | (rw [h.non]; exact ⟨rfl, rfl⟩)
    | (rw [h.bl]; exact ⟨rfl, rfl⟩)
    | (rw [h.int]; exact ⟨rfl, rfl⟩)
    | (rw [h.str]; exact ⟨rfl, rfl⟩)
theorem RepA.flat {K : PySem.W.Frag} : ∀ {vs : List V} {ds : List D}, RepA K F vs ds → ds.all D.flat = true → vs = ds.map D.v ∧ vs.all flatV = true
  | _, _, .nil, _ => ⟨rfl, rfl⟩
  | _, _, .cons h r, f => by
    simp only [List.all_cons, Bool.and_eq_true] at f
    obtain ⟨e1, f1⟩ := PRep.flat (H := F) (.inl h) f.1
    obtain ⟨e2, f2⟩ := RepA.flat r f.2
    exact ⟨by rw [List.map_cons, ← e1, ← e2], by rw [List.all_cons, f1, f2]; rfl⟩
def bIn (neg : Bool) : D → D → (Bool → Prop) → Prop := fun d e Ψ => ∃ ds, (e = .lst ds ∨ e = .tup ds) ∧ d.flat = true ∧ ds.all D.flat = true ∧ Ψ (if neg then !inV d.v (ds.map D.v) else inV d.v (ds.map D.v))
theorem bd_in {neg : Bool} : BD T (rIn T.K neg) (bIn neg) := fun F H x y d e Q Ψ o hx hy hg k => by
  obtain ⟨ds, he, fd, fds, h⟩ := hg
  obtain ⟨ex, fx⟩ := hx.flat fd
  have q : ∃ a vs, y = .ref a ∧ (SqL T.K H a vs ∨ SqT T.K H a vs) ∧ RepA T.K F vs ds := by
    rcases he with rfl | rfl
    · obtain ⟨a, vs, e, h, r⟩ := hy.lst o.sub; exact ⟨a, vs, e, .inl (.inl h), r⟩
    · obtain ⟨a, vs, e, h, r⟩ := hy.tup o.sub; exact ⟨a, vs, e, .inr h, r⟩
  obtain ⟨a, vs, rfl, hs, r⟩ := q
  obtain ⟨ev, fv⟩ := r.flat fds
  refine ⟨a, vs, rfl, hs, fx, fv, ?_⟩
  rw [ex, ev]
  exact k _ h
def dAddS : D → D → (R → Prop) → Prop := fun d e Ψ => ∃ x y, d = .str x ∧ e = .str y ∧ x.length + y.length ≤ sizeLine ∧ Ψ (.val (.str (x ++ y)))
theorem od_addS : OD T (fun x y H Q => ∃ i j, x = .str i ∧ y = .str j ∧ i.length + j.length ≤ sizeLine ∧ Q (.str (i ++ j)) H) dAddS := od_pure fun F H x y d e Q Ψ o hx hy hg k => by
  obtain ⟨x', y', rfl, rfl, hl, h⟩ := hg
  exact ⟨x', y', hx.str, hy.str, hl, k _ _ h (.str _)⟩
def dCat : D → D → (R → Prop) → Prop := fun d e Ψ => ∃ xs ys, d = .lst xs ∧ e = .lst ys ∧ xs.length + ys.length ≤ sizeLine ∧ Ψ (.new (xs ++ ys))
theorem new_ok {p : Addr} {vs : List V} {ds : List D} {Q : VK} {Ψ : R → Prop} (o : Ok T F H) (hp : H p = none) (r : RepA T.K F vs ds) (h : Ψ (.new ds)) (k : ∀ F' H' v r, Ψ r → Nw T F H F' H' → RepN T F' H H' v r → Q v H') : Q (.ref p) (upd H p (.lst vs)) := by
  have fp : F p = none := by
    cases e : F p with
    | none => rfl
    | some u => have := o.sub _ _ e; rw [hp] at this; cases this
  exact k F _ _ _ h (o.put hp) ⟨p, vs, rfl, upd_same, fp, hp, r⟩
theorem tup_ok {p : Addr} {vs : List V} {ds : List D} {Q : VK} {Ψ : R → Prop} (o : Ok T F H) (hp : H p = none) (r : RepA T.K F vs ds) (h : Ψ (.val (.tup ds))) (k : ∀ F' H' v r, Ψ r → Nw T F H F' H' → RepN T F' H H' v r → Q v H') : Q (.ref p) (upd H p (.tup vs)) := by
  have n := o.lay (o := .tup vs) hp tup_nt
  exact k _ _ _ _ h n (Rep.tup (.inl (.inl upd_same)) (r.mono n.ff))
theorem od_cat : OD T rCatL dCat := fun F H x y d e Q Ψ o hx hy hg k => by
  obtain ⟨xs, ys, rfl, rfl, hl, h⟩ := hg
  obtain ⟨a, vs, rfl, ha, ra⟩ := hx.lst o.sub
  obtain ⟨b, us, rfl, hb, rb⟩ := hy.lst o.sub
  exact ⟨a, b, vs, us, rfl, rfl, ha, hb, by rw [ra.length, rb.length]; exact hl, fun p hp => new_ok o hp (ra.append rb) h k⟩
theorem ud_neg : UD T (rU fun i => .int (-i)) (fun d Ψ => ∃ i, d = .int i ∧ Ψ (.val (.int (-i)))) := fun F H x d Q Ψ o hx hg k => by
  obtain ⟨i, rfl, h⟩ := hg
  exact ⟨i, hx.int, k F H _ _ h o.refl (Rep.int _)⟩
/-! ### calls of built-ins -/
theorem cd_pure {r : List V → Hp → VK → Prop} {g : List D → (R → Prop) → Prop} (h : ∀ (F H : Hp) (vs : List V) (ds : List D) (Q : VK) (Ψ : R → Prop), Ok T F H → PRepA T.K F H vs ds → g ds Ψ → (∀ v z, Ψ (.val z) → Rep T.K F v z → Q v H) → r vs H Q) : CD T r g :=
  fun F H vs ds Q Ψ o hx hg k => h F H vs ds Q Ψ o hx hg fun v z hz hv => k F H v _ hz o.refl hv
def dLen : List D → (R → Prop) → Prop := fun ds Ψ => ∃ zs, (ds = [.lst zs] ∨ ds = [.tup zs] ∨ ds = [.scr zs]) ∧ Ψ (.val (.int (zs.length : Nat)))
theorem seq_of {v : V} {d : D} {zs : List D} (o : Ok T F H) (h : PRep T.K F H v d) (e : d = .lst zs ∨ d = .tup zs ∨ d = .scr zs) : ∃ a vs, v = .ref a ∧ (SqL T.K H a vs ∨ SqT T.K H a vs) ∧ RepA T.K F vs zs := by
  rcases e with rfl | rfl | rfl
  · obtain ⟨a, vs, e, h, r⟩ := h.lst o.sub; exact ⟨a, vs, e, .inl (.inl h), r⟩
  · obtain ⟨a, vs, e, h, r⟩ := h.tup o.sub; exact ⟨a, vs, e, .inr h, r⟩
  · obtain ⟨a, vs, e, h, r⟩ := h.scr o.sub; exact ⟨a, vs, e, .inl h, r⟩
theorem cd_len : CD T (fun xs H Q => ∃ p ys, xs = [.ref p] ∧ (SqL T.K H p ys ∨ SqT T.K H p ys) ∧ Q (.int ys.length) H) dLen := cd_pure fun F H vs ds Q Ψ o hx hg k => by
  obtain ⟨zs, e, h⟩ := hg
  obtain ⟨d, rfl⟩ : ∃ d, ds = [d] := by rcases e with e | e | e <;> exact ⟨_, e⟩
  obtain ⟨v, rfl, hv⟩ := hx.one
  obtain ⟨a, ws, rfl, hs, r⟩ := seq_of (zs := zs) o hv (by rcases e with e | e | e <;> (cases e; simp))
  exact ⟨a, ws, rfl, hs, by rw [r.length]; exact k _ _ h (.int _)⟩
def dLenS : List D → (R → Prop) → Prop := fun ds Ψ => ∃ z, ds = [.str z] ∧ z.length ≤ sizeLine ∧ Ψ (.val (.int (z.length : Nat)))
theorem cd_lenS : CD T (fun xs H Q => ∃ z, xs = [.str z] ∧ z.length ≤ sizeLine ∧ Q (.int z.length) H) dLenS := cd_pure fun F H vs ds Q Ψ o hx hg k => by
  obtain ⟨z, rfl, hl, h⟩ := hg
  obtain ⟨v, rfl, hv⟩ := hx.one
  exact ⟨z, by rw [hv.str], hl, k _ _ h (.int _)⟩
def d1I (f : Int → Int) : List D → (R → Prop) → Prop := fun ds Ψ => ∃ i, ds = [.int i] ∧ Ψ (.val (.int (f i)))
def d2I (f : Int → Int → Int) : List D → (R → Prop) → Prop := fun ds Ψ => ∃ i j, ds = [.int i, .int j] ∧ Ψ (.val (.int (f i j)))
theorem cd_1I {f : Int → Int} : CD T (fun xs H Q => ∃ i, xs = [.int i] ∧ Q (.int (f i)) H) (d1I f) := cd_pure fun F H vs ds Q Ψ o hx hg k => by
  obtain ⟨i, rfl, h⟩ := hg
  obtain ⟨v, rfl, hv⟩ := hx.one
  exact ⟨i, by rw [hv.int], k _ _ h (.int _)⟩
theorem cd_2I {f : Int → Int → Int} : CD T (fun xs H Q => ∃ i j, xs = [.int i, .int j] ∧ Q (.int (f i j)) H) (d2I f) := cd_pure fun F H vs ds Q Ψ o hx hg k => by
  obtain ⟨i, j, rfl, h⟩ := hg
  obtain ⟨v, u, rfl, hv, hu⟩ := hx.two
  exact ⟨i, j, by rw [hv.int, hu.int], k _ _ h (.int _)⟩
def dDivmod : List D → (R → Prop) → Prop := fun ds Ψ => ∃ i j, ds = [.int i, .int j] ∧ CDivP i j ∧ Ψ (.val (.tup [.int (i / j), .int (i % j)]))
theorem cd_divmod : CD T (fun xs H Q => ∃ i j, xs = [.int i, .int j] ∧ CDivP i j ∧ ∀ p, H p = none → Q (.ref p) (L2.upd H p (.tup [.int (i / j), .int (i % j)]))) dDivmod := fun F H vs ds Q Ψ o hx hg k => by
  obtain ⟨i, j, rfl, c, h⟩ := hg
  obtain ⟨v, u, rfl, hv, hu⟩ := hx.two
  exact ⟨i, j, by rw [hv.int, hu.int], c, fun p hp => tup_ok o hp (.cons (.int _) (.cons (.int _) .nil)) h k⟩
def dSum : List D → (R → Prop) → Prop := fun ds Ψ => ∃ ns : List Int, ds = [.lst (ns.map D.int)] ∧ Ψ (.val (.int ns.sum))
theorem cd_sum : CD T (rSum T.K) dSum := cd_pure fun F H vs ds Q Ψ o hx hg k => by
  obtain ⟨ns, rfl, h⟩ := hg
  obtain ⟨v, rfl, hv⟩ := hx.one
  obtain ⟨a, ws, rfl, hs, r⟩ := hv.lst o.sub
  have := r.ints
  subst this
  exact ⟨a, ns, rfl, .inl hs, k _ _ h (.int _)⟩
def dAll (f : List Bool → Bool) : List D → (R → Prop) → Prop := fun ds Ψ => ∃ bs : List Bool, ds = [.lst (bs.map D.bl)] ∧ Ψ (.val (.bl (f bs)))
theorem cd_all : CD T (rAll T.K) (dAll fun bs => bs.all id) := cd_pure fun F H vs ds Q Ψ o hx hg k => by
  obtain ⟨bs, rfl, h⟩ := hg
  obtain ⟨v, rfl, hv⟩ := hx.one
  obtain ⟨a, ws, rfl, hs, r⟩ := hv.lst o.sub
  have := r.bls
  subst this
  exact ⟨a, bs, rfl, .inl hs, k _ _ h (.bl _)⟩
theorem cd_any : CD T (rAny T.K) (dAll fun bs => bs.any id) := cd_pure fun F H vs ds Q Ψ o hx hg k => by
  obtain ⟨bs, rfl, h⟩ := hg
  obtain ⟨v, rfl, hv⟩ := hx.one
  obtain ⟨a, ws, rfl, hs, r⟩ := hv.lst o.sub
  have := r.bls
  subst this
  exact ⟨a, bs, rfl, .inl hs, k _ _ h (.bl _)⟩
def dMax : List D → (R → Prop) → Prop := fun ds Ψ => ∃ ns : List Int, ds = [.lst (ns.map D.int)] ∧ 0 < ns.length ∧ ∀ m, m ∈ ns → (∀ y, y ∈ ns → y ≤ m) → Ψ (.val (.int m))
theorem cd_max : CD T (rMax T.K) dMax := cd_pure fun F H vs ds Q Ψ o hx hg k => by
  obtain ⟨ns, rfl, hl, h⟩ := hg
  obtain ⟨v, rfl, hv⟩ := hx.one
  obtain ⟨a, ws, rfl, hs, r⟩ := hv.lst o.sub
  have := r.ints
  subst this
  exact ⟨a, ns, rfl, .inl hs, hl, fun m h1 h2 => k _ _ (h m h1 h2) (.int _)⟩
/-- isinstance(x, a built-in class) -/
def D.isi : D → String → Option Bool
  | .lst _, "list" => some true
  | .tup _, "tuple" => some true
  | d, T => isiB d.v T
def dIsi : List D → (R → Prop) → Prop := fun ds Ψ => ∃ d T b, ds = [d, .ty T] ∧ d.isi T = some b ∧ Ψ (.val (.bl b))
theorem PRep.ty {K : PySem.W.Frag} {v : V} {n : String} (h : PRep K F H v (.ty n)) : v = .ty n := by
  rcases h with h | ⟨_, _, _, _, z, _⟩
  · cases h; rfl
  · cases z
theorem cd_isi : CD T (fun xs H Q => (∃ y T b, xs = [y, .ty T] ∧ isiB y T = some b ∧ Q (.bl b) H) ∨ (∃ a ys, xs = [.ref a, .ty "tuple"] ∧ SqT T.K H a ys ∧ Q (.bl true) H) ∨ ∃ a ys, xs = [.ref a, .ty "list"] ∧ SqL T.K H a ys ∧ Q (.bl true) H) dIsi := cd_pure fun F H vs ds Q Ψ o hx hg k => by
  obtain ⟨d, Tn, b, rfl, hb, h⟩ := hg
  obtain ⟨v, u, rfl, hv, hu⟩ := hx.two
  obtain rfl := hu.ty
  unfold D.isi at hb
  split at hb
  · cases hb
    obtain ⟨a, ws, rfl, hs, r⟩ := hv.lst o.sub
    exact .inr (.inr ⟨a, ws, rfl, .inl hs, k _ _ h (.bl _)⟩)
  · cases hb
    obtain ⟨a, ws, rfl, hs, r⟩ := hv.tup o.sub
    exact .inr (.inl ⟨a, ws, rfl, hs, k _ _ h (.bl _)⟩)
  · refine .inl ⟨v, Tn, b, rfl, ?_, k _ _ h (.bl _)⟩
    have : v = d.v := by
      cases d <;> first
        | exact hv.non | exact hv.bl | exact hv.int | exact hv.str
        | (exfalso; unfold isiB D.v at hb; simp at hb)
    rw [this]
    exact hb
def dList : List D → (R → Prop) → Prop := fun ds Ψ => ∃ d zs, ds = [d] ∧ (d = .lst zs ∨ d = .tup zs ∨ d = .scr zs) ∧ Ψ (.new zs)
theorem cd_list : CD T (fun xs H Q => ∃ p ys, xs = [.ref p] ∧ (SqL T.K H p ys ∨ SqT T.K H p ys) ∧ ∀ l, H l = none → Q (.ref l) (upd H l (.lst ys))) dList := fun F H vs ds Q Ψ o hx hg k => by
  obtain ⟨d, zs, rfl, e, h⟩ := hg
  obtain ⟨v, rfl, hv⟩ := hx.one
  obtain ⟨a, ws, rfl, hs, r⟩ := seq_of o hv e
  exact ⟨a, ws, rfl, hs, fun l hl => new_ok o hl r h k⟩
def dTuple : List D → (R → Prop) → Prop := fun ds Ψ => ∃ d zs, ds = [d] ∧ (d = .lst zs ∨ d = .tup zs) ∧ Ψ (.val (.tup zs))
theorem cd_tuple : CD T (fun xs H Q => ∃ p ys, xs = [.ref p] ∧ ((SqL T.K H p ys ∧ ∀ l, H l = none → Q (.ref l) (upd H l (.tup ys))) ∨ (SqT T.K H p ys ∧ Q (.ref p) H))) dTuple := fun F H vs ds Q Ψ o hx hg k => by
  obtain ⟨d, zs, rfl, e, h⟩ := hg
  obtain ⟨v, rfl, hv⟩ := hx.one
  rcases e with rfl | rfl
  · obtain ⟨a, ws, rfl, hs, r⟩ := hv.lst o.sub
    exact ⟨a, ws, rfl, .inl ⟨.inl hs, fun l hl => tup_ok o hl r h k⟩⟩
  · rcases hv with hv | ⟨_, _, _, _, z, _⟩
    · have hv' := hv
      cases hv with
      | tup hs r => exact ⟨_, _, rfl, .inr ⟨sqt_same hs o.sub, k F H _ _ h o.refl hv'⟩⟩
    · cases z
def dStrI : List D → (R → Prop) → Prop := fun ds Ψ => ∃ i : Int, ds = [.int i] ∧ i.natAbs.log2 < 1920 ∧ Ψ (.val (.str (toString i)))
theorem cd_strI : CD T (fun xs H Q => ∃ i, xs = [.int i] ∧ i.natAbs.log2 < 1920 ∧ Q (.str (toString i)) H) dStrI := cd_pure fun F H vs ds Q Ψ o hx hg k => by
  obtain ⟨i, rfl, c, h⟩ := hg
  obtain ⟨v, rfl, hv⟩ := hx.one
  exact ⟨i, by rw [hv.int], c, k _ _ h (.str _)⟩
def dInt1 : List D → (R → Prop) → Prop := fun ds Ψ => (∃ i, ds = [.int i] ∧ Ψ (.val (.int i))) ∨ ∃ b, ds = [.bl b] ∧ Ψ (.val (.int (if b then 1 else 0)))
theorem cd_int1 : CD T (fun xs H Q => (∃ i, xs = [.int i] ∧ Q (.int i) H) ∨ ∃ k, xs = [.bl k] ∧ Q (.int (if k then 1 else 0)) H) dInt1 := cd_pure fun F H vs ds Q Ψ o hx hg k => by
  rcases hg with ⟨i, rfl, h⟩ | ⟨b, rfl, h⟩
  · obtain ⟨v, rfl, hv⟩ := hx.one
    exact .inl ⟨i, by rw [hv.int], k _ _ h (.int _)⟩
  · obtain ⟨v, rfl, hv⟩ := hx.one
    exact .inr ⟨b, by rw [hv.bl], k _ _ h (.int _)⟩
/-! ### methods of texts -/
def MD (T : Tb) (r : V → List V → Hp → VK → Prop) (g : Str → D → (R → Prop) → Prop) : Prop := ∀ (F H : Hp) (a : Str) (y : V) (e : D) (Q : VK) (Ψ : R → Prop), Ok T F H → PRep T.K F H y e → g a e Ψ →
  (∀ F' H' v r, Ψ r → Nw T F H F' H' → RepN T F' H H' v r → Q v H') → r (.str a) [y] H Q
def wM1 (g : Str → D → (R → Prop) → Prop) (wo we : WE) : WE := fun Γ Ψ Ξ => wo Γ (fun r1 Γ1 => ∃ a, r1.at Γ1 = some (.str a) ∧ we Γ1 (fun r2 Γ2 => ∃ d2, r2.at Γ2 = some d2 ∧ g a d2 fun r => Ψ r Γ2) Ξ) Ξ
theorem ed_m1 {r : V → List V → Hp → VK → Prop} {g : Str → D → (R → Prop) → Prop} (m : MD T r g) (ho : ED T E to wo) (he : ED T E te we) : ED T E (tM1 r to te) (wM1 g wo we) := fun F σ H Γ Q Ψ Ξ p h x k => ho F σ H Γ _ _ Ξ p h x fun F1 H1 Γ1 v1 r1 h1 q1 e1 => by
  obtain ⟨a, a1, h1⟩ := h1
  have ev := (e1.peek q1.rp a1).str
  refine ⟨⟨a, ev⟩, he F1 σ H1 Γ1 _ _ Ξ q1.rp h1 (x.on q1) fun F2 H2 Γ2 v2 r2 h2 q2 e2 => ?_⟩
  obtain ⟨d2, a2, hg⟩ := h2
  subst ev
  have q := q1.trans q2
  exact m F2 H2 a v2 d2 Q _ q2.rp.toOk (e2.peek q2.rp a2) hg fun F4 H4 v r h4 n4 e4 => k F4 H4 Γ2 v r h4 (q.nw n4) (e4.toR q)
def dJoin : Str → D → (R → Prop) → Prop := fun a e Ψ => ∃ ys : List Str, (e = .lst (ys.map D.str) ∨ e = .tup (ys.map D.str)) ∧ (ys.map (·.length)).sum + ys.length * a.length ≤ 16777216 ∧ Ψ (.val (.str (Txt.join a ys)))
theorem md_join : MD T (fun x xs H Q => ∃ a p, ∃ ys : List Str, x = .str a ∧ xs = [.ref p] ∧ (SqL T.K H p (ys.map V.str) ∨ SqT T.K H p (ys.map V.str)) ∧ (ys.map (·.length)).sum + ys.length * a.length ≤ 16777216 ∧ Q (.str (Txt.join a ys)) H) dJoin := fun F H a y e Q Ψ o hy hg k => by
  obtain ⟨ys, he, hl, h⟩ := hg
  obtain ⟨p, vs, rfl, hs, r⟩ := seq_of (zs := ys.map D.str) o hy (by rcases he with h | h <;> simp [h])
  have := r.strs
  subst this
  exact ⟨a, p, ys, rfl, rfl, hs, hl, k F H _ _ h o.refl (Rep.str _)⟩
/-! ### methods of this def's own lists -/
def wApp (i : Nat) (we : WE) : WE := fun Γ Ψ Ξ => ∃ ds0, Γ[i]? = some (some (.own ds0)) ∧ we Γ (fun r Γ1 => ∃ d Γ2 ds, frz Γ1 r = some (d, Γ2) ∧ Γ2[i]? = some (some (.own ds)) ∧ ds.length < sizeLine ∧ Ψ (.val .non) (Γ2.set i (some (.own (ds ++ [d]))))) Ξ
theorem ed_app {i : Nat} (h : ED T E te we) : ED T E (tBM T.K "list" rAppend (tVar i) (tCons te tNil)) (wApp i we) := fun F σ H Γ Q Ψ Ξ p hw x k => by
  obtain ⟨ds0, h0, hw⟩ := hw
  obtain ⟨v, e0, a, vs, rfl, ha, fa, ra⟩ := p.at_ i _ h0
  refine ⟨_, e0, .inl ⟨rfl, vs, .inl (.inl ha)⟩, h F σ H Γ _ _ Ξ p hw x fun F1 H1 Γ1 u r hr q e => ?_⟩
  obtain ⟨d, Γ2, ds, a2, hi, hl, hn⟩ := hr
  obtain ⟨F2, q2, s2, r2⟩ := RepR.frz q e a2
  obtain ⟨v', e1, b, us, rfl, hb, fb, rb⟩ := q2.rp.at_ i _ hi
  rw [e0] at e1
  cases e1
  exact ⟨a, us, u, rfl, rfl, hb, by rw [rb.length]; exact hl, k F2 _ _ _ _ hn (q2.trans (po_own q2.rp hi e0 hb fb (rb.append (.cons r2 .nil)))) Rep.non⟩
def wRev (i : Nat) : WE := fun Γ Ψ Ξ => ∃ ds, Γ[i]? = some (some (.own ds)) ∧ Ψ (.val .non) (Γ.set i (some (.own ds.reverse)))
theorem ed_rev {i : Nat} : ED T E (tBM0 T.K "list" rReverse (tVar i)) (wRev i) := fun F σ H Γ Q Ψ Ξ p hw x k => by
  obtain ⟨ds, h0, hn⟩ := hw
  obtain ⟨v, e0, a, vs, rfl, ha, fa, ra⟩ := p.at_ i _ h0
  exact ⟨_, e0, .inl ⟨rfl, vs, .inl (.inl ha)⟩, a, vs, rfl, rfl, ha, k F _ _ _ _ hn (po_own p h0 e0 ha fa ra.reverse) Rep.non⟩
def wClr (i : Nat) : WE := fun Γ Ψ Ξ => ∃ ds, Γ[i]? = some (some (.own ds)) ∧ Ψ (.val .non) (Γ.set i (some (.own [])))
theorem ed_clr {i : Nat} : ED T E (tBM0 T.K "list" rClear (tVar i)) (wClr i) := fun F σ H Γ Q Ψ Ξ p hw x k => by
  obtain ⟨ds, h0, hn⟩ := hw
  obtain ⟨v, e0, a, vs, rfl, ha, fa, ra⟩ := p.at_ i _ h0
  exact ⟨_, e0, .inl ⟨rfl, vs, .inl (.inl ha)⟩, a, vs, rfl, rfl, ha, k F _ _ _ _ hn (po_own p h0 e0 ha fa .nil) Rep.non⟩
/-! ### slices -/
abbrev WO := Gm → (Option Int → Gm → Prop) → (XD → Prop) → Prop
def OO (T : Tb) (E : XK) (t : TO) (w : WO) : Prop := ∀ (F : Hp) (σ : L2.St) (H : Hp) (Γ : Gm) (Q : Option Int → Hp → Prop) (Ψ : Option Int → Gm → Prop) (Ξ : XD → Prop), Rp T F σ H Γ → w Γ Ψ Ξ → XO T σ E Ξ F H Γ → (∀ F' H' Γ' o, Ψ o Γ' → Po T F σ H Γ F' H' Γ' → Q o H') → t σ H Q
def wNoP : WO := fun Γ Ψ _ => Ψ none Γ
theorem oo_none : OO T E tNoPart wNoP := fun F σ H Γ Q Ψ Ξ p h x k => k F H Γ _ h p.refl
def wPrt (w : WE) : WO := fun Γ Ψ Ξ => w Γ (fun r Γ1 => ∃ i, r.at Γ1 = some (.int i) ∧ Ψ (some i) Γ1) Ξ
theorem oo_some (h : ED T E t w) : OO T E (tPart t) (wPrt w) := fun F σ H Γ Q Ψ Ξ p hw x k => h F σ H Γ _ _ Ξ p hw x fun F1 H1 Γ1 v r hr q e => by
  obtain ⟨i, a, hn⟩ := hr
  exact ⟨i, (e.peek q.rp a).int, k F1 H1 Γ1 _ hn q⟩
def LD (T : Tb) (r : V → Option Int → Option Int → Hp → VK → Prop) (g : D → Option Int → Option Int → (R → Prop) → Prop) : Prop := ∀ (F H : Hp) (x : V) (d : D) (lo hi : Option Int) (Q : VK) (Ψ : R → Prop), Ok T F H → PRep T.K F H x d → g d lo hi Ψ →
  (∀ F' H' v r, Ψ r → Nw T F H F' H' → RepN T F' H H' v r → Q v H') → r x lo hi H Q
def wSl (g : D → Option Int → Option Int → (R → Prop) → Prop) (w : WE) (wl wh : WO) : WE := fun Γ Ψ Ξ => w Γ (fun r1 Γ1 => wl Γ1 (fun lo Γ2 => wh Γ2 (fun hi Γ3 => ∃ d, r1.at Γ3 = some d ∧ g d lo hi fun r => Ψ r Γ3) Ξ) Ξ) Ξ
theorem ed_sl {r : V → Option Int → Option Int → Hp → VK → Prop} {g : D → Option Int → Option Int → (R → Prop) → Prop} {tl th : TO} {wl wh : WO} (l : LD T r g) (h : ED T E t w) (hl : OO T E tl wl) (hh : OO T E th wh) : ED T E (tSl r t tl th) (wSl g w wl wh) := fun F σ H Γ Q Ψ Ξ p hw x k => h F σ H Γ _ _ Ξ p hw x fun F1 H1 Γ1 v r hr q e => by
  obtain ⟨F2, q2, s2, e2⟩ := RepR.held q e
  refine hl F2 σ H1 Γ1 _ _ Ξ q2.rp hr (x.on q2) fun F3 H3 Γ3 lo h3 q3 => ?_
  have q23 := q2.trans q3
  refine hh F3 σ H3 Γ3 _ _ Ξ q3.rp h3 (x.on q23) fun F4 H4 Γ4 hi h4 q4 => ?_
  obtain ⟨d, a, hg⟩ := h4
  rw [← R.at_hold] at a
  have qq := q23.trans q4
  exact l F4 H4 v d lo hi Q _ q4.rp.toOk (((e2.on q3).on q4).peek q4.rp a) hg fun F5 H5 v5 r5 h5 n5 e5 => k F5 H5 Γ4 v5 r5 h5 (qq.nw n5) (e5.toR qq)
def cutD (xs : List D) (lo hi : Option Int) : List D := (xs.drop (HT.sIx xs.length 0 lo)).take (HT.sIx xs.length xs.length hi - HT.sIx xs.length 0 lo)
def dSlL : D → Option Int → Option Int → (R → Prop) → Prop := fun d lo hi Ψ => ∃ ds, d = .lst ds ∧ Ψ (.new (cutD ds lo hi))
theorem ld_list : LD T (rSlL T.K) dSlL := fun F H x d lo hi Q Ψ o hx hg k => by
  obtain ⟨ds, rfl, h⟩ := hg
  obtain ⟨a, vs, rfl, ha, ra⟩ := hx.lst o.sub
  refine ⟨a, vs, rfl, .inl ha, fun p hp => new_ok o hp ?_ h k⟩
  unfold cutV cutD
  rw [ra.length]
  exact (ra.drop _).take _
def dSlS : D → Option Int → Option Int → (R → Prop) → Prop := fun d lo hi Ψ => ∃ z, d = .str z ∧ z.length ≤ sizeLine ∧ Ψ (.val (.str (cutS z lo hi)))
theorem ld_str : LD T rSlS dSlS := fun F H x d lo hi Q Ψ o hx hg k => by
  obtain ⟨z, rfl, hl, h⟩ := hg
  exact ⟨z, hx.str, hl, k F H _ _ h o.refl (Rep.str _)⟩
end
end Dt

set_option Elab.async false
set_option linter.all false
set_option maxRecDepth 100000
set_option autoImplicit false
namespace Dt
open PySem PySem.Spec L2 Kx PyProof.Rows
/-! rules that speak of the written part, by its name -/
section
variable {X : Cx} {K : PySem.W.Frag}
theorem ix_seqK (h : X.K = K) : IxR X (rIx K) := h ▸ ix_seq
theorem op_inK (h : X.K = K) : OpR X (compareOp .In) (rIn K false) := h ▸ op_in_seq
theorem op_notInK (h : X.K = K) : OpR X (compareOp .NotIn) (rIn K true) := h ▸ op_notIn_seq
theorem op_eqDK (h : X.K = K) (hu : X.A.units + 64 < cLine) : OpR X (compareOp .Eq) (rEqD K) := h ▸ op_eqD hu
theorem op_neDK (h : X.K = K) (hu : X.A.units + 64 < cLine) : OpR X (compareOp .NotEq) (rNeD K) := h ▸ op_neD hu
theorem call_lenK (h : X.K = K) : CallR X (.builtin "len") (fun xs H Q => ∃ p ys, xs = [.ref p] ∧ (SqL K H p ys ∨ SqT K H p ys) ∧ Q (.int ys.length) H) := h ▸ call_len_seq
theorem call_isiK (h : X.K = K) : CallR X (.builtin "isinstance") (fun xs H Q => (∃ y T b, xs = [y, .ty T] ∧ isiB y T = some b ∧ Q (.bl b) H) ∨ (∃ a ys, xs = [.ref a, .ty "tuple"] ∧ SqT K H a ys ∧ Q (.bl true) H) ∨ ∃ a ys, xs = [.ref a, .ty "list"] ∧ SqL K H a ys ∧ Q (.bl true) H) := h ▸ call_isiAll
theorem cr_anyK (h : X.K = K) (hc : X.calm = true) : CallR X (.builtin "any") (rAny K) := h ▸ cr_any hc
theorem cr_allK (h : X.K = K) (hc : X.calm = true) : CallR X (.builtin "all") (rAll K) := h ▸ cr_all hc
theorem cr_sumK (h : X.K = K) (hc : X.calm = true) : CallR X (.builtin "sum") (rSum K) := h ▸ cr_sum hc
theorem cr_maxK (h : X.K = K) (hc : X.calm = true) : CallR X (.builtin "max") (rMax K) := h ▸ cr_max hc
theorem list_ofK (h : X.K = K) : CallR X (.type "list") (fun xs H Q => ∃ p ys, xs = [.ref p] ∧ (SqL K H p ys ∨ SqT K H p ys) ∧ ∀ l, H l = none → Q (.ref l) (upd H l (.lst ys))) := h ▸ call_list_of
theorem tuple_ofK (h : X.K = K) : CallR X (.type "tuple") (fun xs H Q => ∃ p ys, xs = [.ref p] ∧ ((SqL K H p ys ∧ ∀ l, H l = none → Q (.ref l) (upd H l (.tup ys))) ∨ (SqT K H p ys ∧ Q (.ref p) H))) := h ▸ call_tuple_of
theorem sl_listK (h : X.K = K) : SlR X (rSlL K) := h ▸ sl_list
end
/-! ### both layers in one -/
structure QE (X : Cx) (T : Tb) (E : XK) (e : Expr) (t : TE) (w : WE) : Prop where
  pe : PE X e t
  ed : ED T E t w
structure QT (X : Cx) (T : Tb) (E : XK) (e : Expr) (t : TT) (w : WT) : Prop where
  pe : PT X e t
  ed : TD T E t w
structure QW (X : Cx) (T : Tb) (E : XK) (e : Expr) (t : TT) (w : WT) : Prop where
  pe : PW X e t
  ed : TD T E t w
structure QA (X : Cx) (T : Tb) (E : XK) (es : List Expr) (t : TA) (w : WA) : Prop where
  pe : PA X es t
  ed : AD T E t w
structure QO (X : Cx) (T : Tb) (E : XK) (e : Option Expr) (t : TO) (w : WO) : Prop where
  pe : PO X e t
  ed : OO T E t w
structure QS (X : Cx) (T : Tb) (io : Bool) (E : XK) (st : Stmt) (t : TS) (w : WS) : Prop where
  pe : PS X st t
  ed : SD T io E t w
structure QSs (X : Cx) (T : Tb) (io : Bool) (E : XK) (st : List Stmt) (t : TS) (w : WS) : Prop where
  pe : PSs X st t
  ed : SD T io E t w
structure QI (X : Cx) (T : Tb) (E : XK) (tg e : Expr) (t : TI) (w : WI) : Prop where
  pe : PI X tg e t
  ed : ID T E t w
structure QG (X : Cx) (T : Tb) (io : Bool) (e : Expr) (t : TG) (w : WG) : Prop where
  pe : PG X e t
  ed : GD T io t w
structure QGs (X : Cx) (T : Tb) (io : Bool) (es : List Expr) (t : TGs) (w : WGs) : Prop where
  pe : PGs X es t
  ed : GDs T io t w
/-- a comprehension's target, test, element -/
structure QC (X : Cx) (T : Tb) (vs : List Nat) (e : Expr) (t : TG) (w : WG) : Prop where
  pe : PG X e t
  ed : CG T vs t w
structure QCs (X : Cx) (T : Tb) (vs : List Nat) (es : List Expr) (t : TGs) (w : WGs) : Prop where
  pe : PGs X es t
  ed : CGs T vs t w
structure QTs (X : Cx) (T : Tb) (E : XK) (e : List Expr) (t : TT) (w : WT) : Prop where
  pe : PTs X e t
  ed : TD T E t w
section
variable {X : Cx} {T : Tb} {E : XK} {io : Bool} {a b c e : Expr} {es : List Expr} {ta tb tc te t to : TE} {wa wb wc we w wo : WE} {tA : TA} {wA : WA} {pos : Pos} {t1 t2 : TT} {w1 w2 : WT} {s1 s2 : TS} {u1 u2 : WS} {x : Str}
theorem q_v (i : Nat) (h : PE X (.Name x pos) (tVar i)) : QE X T E (.Name x pos) (tVar i) (wVar i) := ⟨h, ed_var i⟩
theorem q_int {i : Int} {j} : QE X T E (.Constant (.int i) j pos) (tC (.int i)) (wC (.int i)) := ⟨pe_int, ed_c fun _ => .int i⟩
theorem q_bl {i : Bool} {j} : QE X T E (.Constant (.bool i) j pos) (tC (.bl i)) (wC (.bl i)) := ⟨pe_bl, ed_c fun _ => .bl i⟩
theorem q_non {j} : QE X T E (.Constant .none j pos) (tC .non) (wC .non) := ⟨pe_non, ed_c fun _ => .non⟩
theorem q_str {i : Str} {j} : QE X T E (.Constant (.str i) j pos) (tC (.str i)) (wC (.str i)) := ⟨pe_str, ed_c fun _ => .str i⟩
theorem q_glob {v : V} {d : D} (h : PE X (.Name x pos) (tC v)) (r : ∀ F, Rep T.K F v d) : QE X T E (.Name x pos) (tC v) (wC d) := ⟨h, ed_c r⟩
theorem q_op {op : Operator} {r : L2.R2} {g : D → D → (R → Prop) → Prop} (o : OpR X (binaryOp op) r) (d : OD T r g) (ha : QE X T E a ta wa) (hb : QE X T E b tb wb) : QE X T E (.BinOp a op b pos) (tOp r ta tb) (wOp g wa wb) := ⟨pe_op o ha.pe hb.pe, ed_op d ha.ed hb.ed⟩
theorem q_un {op : UnaryOp} {r : V → Hp → VK → Prop} {g : D → (R → Prop) → Prop} (o : UnR X (unaryOp op) r) (d : UD T r g) (ha : QE X T E a ta wa) : QE X T E (.UnaryOp op a pos) (tUn r ta) (wUn g wa) := ⟨pe_un o ha.pe, ed_un d ha.ed⟩
theorem q_ix {r : L2.R2} {g : D → D → (R → Prop) → Prop} (o : IxR X r) (d : OD T r g) (ha : QE X T E a ta wa) (hb : QE X T E b tb wb) (hs : PlainIx b) : QE X T E (.Subscript a b pos) (tOp r ta tb) (wOp g wa wb) := ⟨pe_ix o ha.pe hb.pe hs, ed_op d ha.ed hb.ed⟩
def wCmp (g : D → D → (Bool → Prop) → Prop) (wa wb : WE) : WT := fun Γ Ψ Ξ => wa Γ (fun r1 Γ1 => wb Γ1 (fun r2 Γ2 => ∃ d1 d2, r1.at Γ2 = some d1 ∧ r2.at Γ2 = some d2 ∧ g d1 d2 fun b => Ψ b Γ2) Ξ) Ξ
theorem td_cmp {r : L2.R2} {g : D → D → (Bool → Prop) → Prop} (o : BD T r g) (ha : ED T E ta wa) (hb : ED T E tb wb) : TD T E (tTest (tOp r ta tb)) (wCmp g wa wb) := by
  intro F σ H Γ Q Ψ Ξ p h x k
  refine ha F σ H Γ _ _ Ξ p h x fun F1 H1 Γ1 v1 r1 h1 q1 e1 => ?_
  obtain ⟨F2, q2, s2, e2⟩ := RepR.held q1 e1
  refine hb F2 σ H1 Γ1 _ _ Ξ q2.rp h1 (x.on q2) fun F3 H3 Γ3 v2 r2 h3 q3 e3 => ?_
  obtain ⟨d1, d2, a1, a2, hg⟩ := h3
  rw [← R.at_hold] at a1
  exact o F3 H3 v1 v2 d1 d2 _ _ q3.rp.toOk ((e2.on q3).peek q3.rp a1) (e3.peek q3.rp a2) hg fun b hb => ⟨b, rfl, k F3 H3 Γ3 b hb (q2.trans q3)⟩
theorem q_cmpT {op : CmpOp} {r : L2.R2} {g : D → D → (Bool → Prop) → Prop} (o : OpR X (compareOp op) r) (d : BD T r g) (ha : QE X T E a ta wa) (hb : QE X T E b tb wb) (m : behindInMarks op b = false) : QT X T E (.Compare a [op] [b] pos) (tTest (tOp r ta tb)) (wCmp g wa wb) := ⟨pt_cmpR o ha.pe hb.pe m, td_cmp d ha.ed hb.ed⟩
def bod (g : D → D → (Bool → Prop) → Prop) : D → D → (R → Prop) → Prop := fun d e Ψ => g d e fun b => Ψ (.val (.bl b))
theorem q_cmp {op : CmpOp} {r : L2.R2} {g : D → D → (Bool → Prop) → Prop} (o : OpR X (compareOp op) r) (d : BD T r g) (ha : QE X T E a ta wa) (hb : QE X T E b tb wb) (m : behindInMarks op b = false) : QE X T E (.Compare a [op] [b] pos) (tOp r ta tb) (wOp (bod g) wa wb) := ⟨pe_cmpR o ha.pe hb.pe m, ed_op d.od ha.ed hb.ed⟩
theorem q_chain {op op' : CmpOp} {r r' : L2.R2} {g g' : D → D → (Bool → Prop) → Prop} (o : OpR X (compareOp op) r) (d : BD T r g) (o' : OpR X (compareOp op') r') (d' : BD T r' g') (ha : QE X T E a ta wa) (hb : QE X T E b tb wb) (hc : QE X T E c tc wc) (m : lastMarks [op, op'] [b, c] = false) :
    QE X T E (.Compare a [op, op'] [b, c] pos) (tChain r r' ta tb tc) (wChain g g' wa wb wc) := ⟨pe_chain o o' ha.pe hb.pe hc.pe m, ed_chain d d' ha.ed hb.ed hc.ed⟩
theorem q_chainT {op op' : CmpOp} {r r' : L2.R2} {g g' : D → D → (Bool → Prop) → Prop} (o : OpR X (compareOp op) r) (d : BD T r g) (o' : OpR X (compareOp op') r') (d' : BD T r' g') (ha : QE X T E a ta wa) (hb : QE X T E b tb wb) (hc : QE X T E c tc wc) (m : lastMarks [op, op'] [b, c] = false) :
    QT X T E (.Compare a [op, op'] [b, c] pos) (tTest (tChain r r' ta tb tc)) (wB (wChain g g' wa wb wc)) := ⟨pt_chain o o' ha.pe hb.pe hc.pe m, td_test (ed_chain d d' ha.ed hb.ed hc.ed)⟩
theorem q_tv (h : QE X T E e t w) (he : plainTest e = true) : QT X T E e (tB t) (wB w) := ⟨pt_v h.pe he, td_b h.ed⟩
theorem q_tnot (h : QT X T E e t1 w1) : QT X T E (.UnaryOp .Not e pos) (tNot t1) (wNot w1) := ⟨pt_not h.pe, td_not h.ed⟩
theorem q_and1 (h : QT X T E e t1 w1) : QW X T E (.BoolOp .And [e] pos) t1 w1 := ⟨pw_and1 h.pe, h.ed⟩
theorem q_or1 (h : QT X T E e t1 w1) : QW X T E (.BoolOp .Or [e] pos) t1 w1 := ⟨pw_or1 h.pe, h.ed⟩
theorem q_and (h : QT X T E a t1 w1) (h' : QW X T E (.BoolOp .And (b :: es) pos) t2 w2) : QW X T E (.BoolOp .And (a :: b :: es) pos) (tAnd t1 t2) (wAnd w1 w2) := ⟨pw_and h.pe h'.pe, td_and h.ed h'.ed⟩
theorem q_or (h : QT X T E a t1 w1) (h' : QW X T E (.BoolOp .Or (b :: es) pos) t2 w2) : QW X T E (.BoolOp .Or (a :: b :: es) pos) (tOr t1 t2) (wOr w1 w2) := ⟨pw_or h.pe h'.pe, td_or h.ed h'.ed⟩
theorem QW.tst (h : QW X T E e t1 w1) : QT X T E e t1 w1 := ⟨h.pe.pt, h.ed⟩
theorem q_one {op : BoolOp} (h : QE X T E a t w) : QE X T E (.BoolOp op [a] pos) t w := ⟨pe_one h.pe, h.ed⟩
theorem q_andV (h : QE X T E a ta wa) (h' : QE X T E (.BoolOp .And (b :: es) pos) tb wb) : QE X T E (.BoolOp .And (a :: b :: es) pos) (tAndV ta tb) (wAndV wa wb) := ⟨pe_and h.pe h'.pe, ed_and h.ed h'.ed⟩
theorem q_orV (h : QE X T E a ta wa) (h' : QE X T E (.BoolOp .Or (b :: es) pos) tb wb) : QE X T E (.BoolOp .Or (a :: b :: es) pos) (tOrV ta tb) (wOrV wa wb) := ⟨pe_or h.pe h'.pe, ed_or h.ed h'.ed⟩
theorem q_notV (h : QE X T E a ta wa) : QE X T E (.UnaryOp .Not a pos) (tNotV ta) (wNotV wa) := ⟨pe_not h.pe, ed_not h.ed⟩
theorem q_if (h : QT X T E c t1 w1) (ha : QE X T E a ta wa) (hb : QE X T E b tb wb) : QE X T E (.IfExp c a b pos) (tIf t1 ta tb) (wIf w1 wa wb) := ⟨pe_ifExp h.pe ha.pe hb.pe, ed_if h.ed ha.ed hb.ed⟩
theorem q_nil : QA X T E [] tNil wANil := ⟨pa_nil, ad_nil⟩
theorem q_cons (h : QE X T E e t w) (h' : QA X T E es tA wA) (hs : isStar e = false) : QA X T E (e :: es) (tCons t tA) (wACons w wA) := ⟨pa_c h.pe h'.pe hs, ad_cons h.ed h'.ed⟩
theorem q_tup {k} (h : QA X T E es tA wA) : QE X T E (.Tuple es k pos) (tTup tA) (wTup wA) := ⟨pe_tup h.pe, ed_tup h.ed⟩
theorem q_lst (h : QA X T E es tA wA) : QE X T E (.List es pos) (tLst tA) (wLst wA) := ⟨pe_lst h.pe, ed_lst h.ed⟩
theorem q_o0 : QO X T E none tNoPart wNoP := ⟨po_none, oo_none⟩
theorem q_o1 (h : QE X T E e t w) : QO X T E (some e) (tPart t) (wPrt w) := ⟨po_some h.pe, oo_some h.ed⟩
theorem q_sl {lo hi : Option Expr} {tl th : TO} {wl wh : WO} {p2 : Pos} {r : V → Option Int → Option Int → Hp → VK → Prop} {g : D → Option Int → Option Int → (R → Prop) → Prop} (o : SlR X r) (d : LD T r g) (h : QE X T E e t w) (hl : QO X T E lo tl wl) (hh : QO X T E hi th wh) :
    QE X T E (.Subscript e (.Slice lo hi none p2) pos) (tSl r t tl th) (wSl g w wl wh) := ⟨pe_slice o h.pe hl.pe hh.pe, ed_sl d h.ed hl.ed hh.ed⟩
theorem q_cB {id : String} {r : List V → Hp → VK → Prop} {g : List D → (R → Prop) → Prop} {p : Pos} (hc : CallR X (.builtin id) r) (d : CD T r g) (hg : Gl X x) (hm : X.mg x = none) (hv : bootBuiltins x = some (.builtin id)) (ha : QA X T E (e :: es) tA wA) (hn : x ≠ "__name__") (hdb : (x == ("__debug__" : Str)) = false)
    (hs : (e :: es).any isStar = false) : QE X T E (.Call (.Name x p) (e :: es) [] pos) (tCB r tA) (wCB g wA) := ⟨pe_cB hc hg hm hv ha.pe hn hdb hs, ed_cb d ha.ed⟩
theorem q_cT {id : String} {r : List V → Hp → VK → Prop} {g : List D → (R → Prop) → Prop} {p : Pos} (hc : CallR X (.type id) r) (d : CD T r g) (hg : Gl X x) (hm : X.mg x = none) (hv : bootBuiltins x = some (.type id)) (ha : QA X T E (e :: es) tA wA) (hn : x ≠ "__name__") (hdb : (x == ("__debug__" : Str)) = false)
    (hs : (e :: es).any isStar = false) : QE X T E (.Call (.Name x p) (e :: es) [] pos) (tCB r tA) (wCB g wA) := ⟨pe_cT hc hg hm hv ha.pe hn hdb hs, ed_cb d ha.ed⟩
theorem q_call {j k : Nat} {ps : List Str} {io' : Bool} {wf : WF} {p : Pos} {CX : CXT} (C : Cal X.prog X.w X.K X.mg X.base CX j x ps (spD T io' wf)) (hr : Room k X.A) (hx : Passes CX X E) (ha : QA X T E (e :: es) tA wA) (hg : Gl X x) (hj : j ≤ k) (hdb : (x == ("__debug__" : Str)) = false) (hs : (e :: es).any isStar = false) :
    QE X T E (.Call (.Name x p) (e :: es) [] pos) (tCall (spD T io' wf) [] E tA) (wCall io' wf wA) := ⟨pe_callC C hr hx ha.pe hg hj hdb hs, ed_call ha.ed⟩
theorem q_app {i : Nat} {o : Expr} {apos : Pos} (ho : PE X o (tVar i)) (h : QE X T E e te we) (hb : attributeBase o "append" X.env (eval o X.env) = eval o X.env) (hl : (apos.endLine == pos.line) = true) (hs : isStar e = false) (hK : X.K = T.K) :
    QE X T E (.Call (.Attribute o "append" apos) [e] [] pos) (tBM T.K "list" rAppend (tVar i) (tCons te tNil)) (wApp i we) :=
  ⟨hK ▸ pe_bm PySem.F.plainAttrs_list PySem.F.slot_list_append PySem.F.type_list_append mt_append ho (pa_c h.pe pa_nil hs) hb (by
    rw [star_cons hs]
    rfl) hl (star_cons hs) rfl, ed_app h.ed⟩
theorem q_rev {i : Nat} {o : Expr} {apos : Pos} (ho : PE X o (tVar i)) (hb : attributeBase o "reverse" X.env (eval o X.env) = eval o X.env) (hl : (apos.endLine == pos.line) = true) (hK : X.K = T.K) : QE X T E (.Call (.Attribute o "reverse" apos) [] [] pos) (tBM0 T.K "list" rReverse (tVar i)) (wRev i) :=
  ⟨hK ▸ pe_bm0 PySem.F.plainAttrs_list PySem.F.slot_list_reverse PySem.F.type_list_reverse mt_reverse ho hb hl, ed_rev⟩
theorem q_clr {i : Nat} {o : Expr} {apos : Pos} (ho : PE X o (tVar i)) (hb : attributeBase o "clear" X.env (eval o X.env) = eval o X.env) (hl : (apos.endLine == pos.line) = true) (hK : X.K = T.K) : QE X T E (.Call (.Attribute o "clear" apos) [] [] pos) (tBM0 T.K "list" rClear (tVar i)) (wClr i) :=
  ⟨hK ▸ pe_bm0 PySem.F.plainAttrs_list PySem.F.slot_list_clear PySem.F.type_list_clear mt_clear ho hb hl, ed_clr⟩
theorem q_join {o : Expr} {apos : Pos} (ho : QE X T E o to wo) (h : QE X T E e te we) (hs : isStar e = false) (hb : attributeBase o "join" X.env (eval o X.env) = eval o X.env) (hl : (apos.endLine == pos.line) = true) (hK : X.K = T.K) : QE X T E (.Call (.Attribute o "join" apos) [e] [] pos) (tM1 (fun x xs H Q => ∃ a p, ∃ ys : List Str, x = .str a ∧ xs = [.ref p] ∧ (SqL T.K H p (ys.map V.str) ∨ SqT T.K H p (ys.map V.str)) ∧ (ys.map (·.length)).sum + ys.length * a.length ≤ 16777216 ∧ Q (.str (Txt.join a ys)) H) to te) (wM1 dJoin wo we) :=
  ⟨hK ▸ pe_join ho.pe h.pe (star_cons hs) hb hl, ed_m1 md_join ho.ed h.ed⟩
/-! comprehensions -/
theorem q_t0 : QTs X T E [] tYes (fun Γ Ψ _ => Ψ true Γ) := ⟨pts_nil, fun F σ H Γ Q Ψ Ξ p h x k => k F H Γ _ h p.refl⟩
theorem q_t1 (h : QT X T E e t1 w1) : QTs X T E [e] t1 w1 := ⟨pts_one h.pe, h.ed⟩
variable {tg iter elt : Expr} {ifs : List Expr} {scope : Scope} {own : List (Str × Nat)} {wi : TI} {wI : WI} {g : TG} {wg : WG} {gs : TGs} {wgs : WGs} {tt : TT} {wt : WT} {vs : List Nat}
theorem q_lc (hc : X.calm = true) (hN : X.N.Nodup) (hi : QI X T E tg iter wi wI) (ok : BlkOk X.N X.env.scope scope own)
    (hg : ∀ (s : Shared) (H : Hp) (C : Addr) (cl : List (Str × Addr)) (fp : List Addr), QC (X.blk s H scope (compEnvC scope cl C X.env) fp) T (own.map (·.2)) tg g wg)
    (ht : ∀ (s : Shared) (H : Hp) (C : Addr) (cl : List (Str × Addr)) (fp : List Addr), QTs (X.blk s H scope (compEnvC scope cl C X.env) fp) T E0 ifs tt wt)
    (he : ∀ (s : Shared) (H : Hp) (C : Addr) (cl : List (Str × Addr)) (fp : List Addr), QE (X.blk s H scope (compEnvC scope cl C X.env) fp) T E0 elt te we) (hs : ∀ x, foldedSetIterable iter X.env x = pure x) :
    QE X T E (.ListComp elt [⟨tg, iter, ifs, 0⟩] scope pos) (tLc wi g tt te (own.map (·.2))) (wLc wI wg wt we (own.map (·.2))) :=
  ⟨pe_lc hc hN hi.pe ok (fun s H C cl fp => (hg s H C cl fp).pe) (fun s H C cl fp => (ht s H C cl fp).pe) (fun s H C cl fp => (he s H C cl fp).pe) hs,
    ed_lc hi.ed (hg X.s_0 (fun _ => none) 0 [] []).ed (ht X.s_0 (fun _ => none) 0 [] []).ed (he X.s_0 (fun _ => none) 0 [] []).ed⟩
theorem q_lcO {s : Nat} (hc : X.calm = true) (hN : X.N.Nodup) (hi : PE X iter (tVar s)) (hK : X.K = T.K) (hv : s ∉ own.map (·.2)) (ok : BlkOk X.N X.env.scope scope own)
    (hg : ∀ (s : Shared) (H : Hp) (C : Addr) (cl : List (Str × Addr)) (fp : List Addr), QC (X.blk s H scope (compEnvC scope cl C X.env) fp) T (own.map (·.2)) tg g wg)
    (ht : ∀ (s : Shared) (H : Hp) (C : Addr) (cl : List (Str × Addr)) (fp : List Addr), QTs (X.blk s H scope (compEnvC scope cl C X.env) fp) T E0 ifs tt wt)
    (he : ∀ (s : Shared) (H : Hp) (C : Addr) (cl : List (Str × Addr)) (fp : List Addr), QE (X.blk s H scope (compEnvC scope cl C X.env) fp) T E0 elt te we) (hs : ∀ x, foldedSetIterable iter X.env x = pure x) :
    QE X T E (.ListComp elt [⟨tg, iter, ifs, 0⟩] scope pos) (tLc (iList T.K (tVar s)) g tt te (own.map (·.2))) (wLcO s wg wt we (own.map (·.2))) :=
  ⟨pe_lc hc hN (hK ▸ pi_list hi) ok (fun s H C cl fp => (hg s H C cl fp).pe) (fun s H C cl fp => (ht s H C cl fp).pe) (fun s H C cl fp => (he s H C cl fp).pe) hs,
    ed_lcO hv (hg X.s_0 (fun _ => none) 0 [] []).ed (ht X.s_0 (fun _ => none) 0 [] []).ed (he X.s_0 (fun _ => none) 0 [] []).ed⟩
theorem q_cn {i : Nat} (h : PG X (.Name x pos) (gName i)) (hi : i ∈ vs) : QC X T vs (.Name x pos) (gName i) (wgName i) := ⟨h, cg_name hi⟩
theorem q_c0 : QCs X T vs [] gNil wgNil := ⟨pgs_nil, cg_nil⟩
theorem q_c1 (h : QC X T vs e g wg) (h' : QCs X T vs es gs wgs) (hs : (assignEach (e :: es) X.env).map (·.2) = assign e X.env :: (assignEach es X.env).map (·.2)) : QCs X T vs (e :: es) (gCons g gs) (wgCons wg wgs) := ⟨pgs_cons h.pe h'.pe hs, cg_cons h.ed h'.ed⟩
theorem q_ct {n k : Nat} (hK : X.K = T.K) (hc : X.calm = true) (h : QCs X T vs es gs wgs) (hn : (assignEach es X.env).length = n) (hst : (assignEach es X.env).findIdx? (·.1) = none) : QC X T vs (.Tuple es k pos) (gTup T.K n gs) (wgTup n wgs) := ⟨hK ▸ pg_tup hc h.pe hn hst, cg_tup h.ed⟩
/-! what is walked -/
theorem q_il (hK : X.K = T.K) (h : QE X T E e t w) : QI X T E tg e (iList T.K t) (wIList w) := ⟨hK ▸ pi_list h.pe, id_list h.ed⟩
theorem q_it (hK : X.K = T.K) (h : QE X T E e t w) : QI X T E tg e (iTup T.K t) (wITup w) := ⟨hK ▸ pi_tup h.pe, id_tup h.ed⟩
theorem q_is (h : QE X T E e t w) : QI X T E tg e (iStr t) (wIStr w) := ⟨pi_str h.pe, id_str h.ed⟩
theorem q_ir1 {p : Pos} (hg : Gl X "range") (hm : X.mg "range" = none) (ha : QA X T E [a] tA wA) (hs : isStar a = false) : QI X T E tg (.Call (.Name "range" p) [a] [] pos) (iRng1 tA) (wIRng1 wA) := ⟨pi_range1 hg hm ha.pe (star_cons hs), id_rng1 ha.ed⟩
theorem q_ir2 {p : Pos} (hg : Gl X "range") (hm : X.mg "range" = none) (ha : QA X T E [a, b] tA wA) (hs : isStar a = false) (hs' : isStar b = false) : QI X T E tg (.Call (.Name "range" p) [a, b] [] pos) (iRngB tA) (wIRng2 wA) := ⟨pi_rangeB hg hm ha.pe (by rw [star_cons hs, star_cons hs']; rfl) (star_cons hs'), id_rngB ha.ed⟩
theorem q_iz {p tpos : Pos} {elts : List Expr} {kk : Nat} (hK : X.K = T.K) (hg : Gl X "zip") (hm : X.mg "zip" = none) (ha : QA X T E [a, b] tA wA) (hs : isStar a = false) (hs' : isStar b = false) : QI X T E (.Tuple elts kk tpos) (.Call (.Name "zip" p) [a, b] [] pos) (iZip T.K tA) (wIZip wA) := ⟨hK ▸ pi_zip hg hm ha.pe (star_cons hs) (by rw [star_cons hs']; rfl), id_zip ha.ed⟩
theorem q_ie {p tpos : Pos} {elts : List Expr} {kk : Nat} (hK : X.K = T.K) (hg : Gl X "enumerate") (hm : X.mg "enumerate" = none) (ha : QA X T E [a] tA wA) (hs : isStar a = false) : QI X T E (.Tuple elts kk tpos) (.Call (.Name "enumerate" p) [a] [] pos) (iEnum T.K tA) (wIEnum wA) := ⟨hK ▸ pi_enum hg hm ha.pe (star_cons hs), id_enum ha.ed⟩
/-! targets -/
theorem q_gn {i : Nat} (h : PG X (.Name x pos) (gName i)) (hi : i ≠ 0 ∨ io = false) : QG X T io (.Name x pos) (gName i) (wgName i) := ⟨h, gd_name hi⟩
theorem q_g0 : QGs X T io [] gNil wgNil := ⟨pgs_nil, gd_nil⟩
theorem q_g1 (h : QG X T io e g wg) (h' : QGs X T io es gs wgs) (hs : (assignEach (e :: es) X.env).map (·.2) = assign e X.env :: (assignEach es X.env).map (·.2)) : QGs X T io (e :: es) (gCons g gs) (wgCons wg wgs) := ⟨pgs_cons h.pe h'.pe hs, gd_cons h.ed h'.ed⟩
theorem q_gt {n k : Nat} (hK : X.K = T.K) (hc : X.calm = true) (h : QGs X T io es gs wgs) (hn : (assignEach es X.env).length = n) (hst : (assignEach es X.env).findIdx? (·.1) = none) : QG X T io (.Tuple es k pos) (gTup T.K n gs) (wgTup n wgs) := ⟨hK ▸ pg_tup hc h.pe hn hst, gd_tup h.ed⟩
/-! statements -/
variable {st : Stmt} {sts as bs : List Stmt}
theorem q_s0 : QSs X T io E [] tNext wNext := ⟨pss_nil, sd_next⟩
theorem q_s1 (h : QS X T io E st s1 u1) : QSs X T io E [st] s1 u1 := ⟨pss_one h.pe, h.ed⟩
theorem q_sc (h : QS X T io E st s1 u1) (h' : QSs X T io E sts s2 u2) : QSs X T io E (st :: sts) (tSeq s1 s2) (wSeq u1 u2) := ⟨pss_cons h.pe h'.pe, sd_seq h.ed h'.ed⟩
theorem q_ret (h : QE X T E e t w) : QS X T io E (.Return (some e) pos) (tRet t) (wRet w) := ⟨ps_ret h.pe, sd_ret h.ed⟩
theorem q_retN : QS X T io E (.Return none pos) tRetN wRetN := ⟨ps_retN, sd_retN⟩
theorem q_brk : QS X T io E (.Break pos) tBreak wBreak := ⟨ps_break, sd_break⟩
theorem q_cnt : QS X T io E (.Continue pos) tCont wCont := ⟨ps_continue, sd_cont⟩
theorem q_pass : QS X T io E (.Pass pos) tNext wNext := ⟨ps_pass, sd_next⟩
theorem q_drop (h : QE X T E e t w) (hs : swapsWith e none pos.line X.env = pure false) : QS X T io E (.Expr e pos) (tDrop t) (wDrop w) := ⟨ps_expr h.pe hs, sd_drop h.ed⟩
theorem q_ifS (h : QT X T E c t1 w1) (h1 : QSs X T io E as s1 u1) (h2 : QSs X T io E bs s2 u2) : QS X T io E (.If c as bs pos) (tIfS t1 s1 s2) (wIfS w1 u1 u2) := ⟨ps_if h.pe h1.pe h2.pe, sd_if h.ed h1.ed h2.ed⟩
theorem q_set {i : Nat} {pos' : Pos} (hN : X.N.Nodup) (hi : X.N[i]? = some x) (hx : L2.Loc X.env.scope x) (h : QE X T E e t w) (h0 : i ≠ 0 ∨ io = false) (hs : swapsWith e (some (.Name x pos')) pos.line X.env = pure false) (hf : X.fn x = true ∨ X.env.scope.names.lookup x = some .local) :
    QS X T io E (.Assign [.Name x pos'] e pos) (tAsg t (gName i)) (wSet i w) := ⟨ps_set hN hi hx h.pe hs hf, sd_set h.ed h0⟩
/-- name = [..], on one line: the store is within the comprehension's frame -/
theorem q_setLc {i : Nat} {y : Str} {py spos : Pos} (hc : X.calm = true) (hN : X.N.Nodup) (hy : X.N[i]? = some y) (hyl : X.env.scope.names.lookup y = some .local) (h0 : i ≠ 0 ∨ io = false) (hsw : swapsWith (.ListComp elt [⟨tg, iter, ifs, 0⟩] scope pos) (some (.Name y py)) spos.line X.env = pure true)
    (hi : QI X T E tg iter wi wI) (ok : BlkOk X.N X.env.scope scope own)
    (hg : ∀ (s : Shared) (H : Hp) (C : Addr) (cl : List (Str × Addr)) (fp : List Addr), QC (X.blk s H scope (compEnvC scope cl C X.env) fp) T (own.map (·.2)) tg g wg)
    (ht : ∀ (s : Shared) (H : Hp) (C : Addr) (cl : List (Str × Addr)) (fp : List Addr), QTs (X.blk s H scope (compEnvC scope cl C X.env) fp) T E0 ifs tt wt)
    (he : ∀ (s : Shared) (H : Hp) (C : Addr) (cl : List (Str × Addr)) (fp : List Addr), QE (X.blk s H scope (compEnvC scope cl C X.env) fp) T E0 elt te we) (hs : ∀ x, foldedSetIterable iter X.env x = pure x) :
    QS X T io E (.Assign [.Name y py] (.ListComp elt [⟨tg, iter, ifs, 0⟩] scope pos) spos) (tAsg (tLc wi g tt te (own.map (·.2))) (gName i)) (wSet i (wLc wI wg wt we (own.map (·.2)))) :=
  ⟨ps_setLc hc hN hy hyl hsw hi.pe ok (fun s H C cl fp => (hg s H C cl fp).pe) (fun s H C cl fp => (ht s H C cl fp).pe) (fun s H C cl fp => (he s H C cl fp).pe) hs,
    sd_set (ed_lc hi.ed (hg X.s_0 (fun _ => none) 0 [] []).ed (ht X.s_0 (fun _ => none) 0 [] []).ed (he X.s_0 (fun _ => none) 0 [] []).ed) h0⟩
theorem q_asg (h : QE X T E e t w) (h' : QG X T io tg g wg) (hs : swapsWithSole [tg] e pos.line X.env = pure false) (hw : swappedStores [tg] e X.env = pure none) (h1 : (assignEach [tg] X.env).map (·.2) = [assign tg X.env]) :
    QS X T io E (.Assign [tg] e pos) (tAsg t g) (wAsg w wg) := ⟨ps_asg h.pe h'.pe hs hw h1, sd_asg h.ed h'.ed⟩
theorem q_putAt {i : Nat} {o k : Expr} {tk : TE} {wk : WE} {pos' : Pos} (ho : PE X o (tVar i)) (h : QE X T E e t w) (hk : QE X T E k tk wk) (hs : swapsWithSole [.Subscript o k pos'] e pos.line X.env = pure false) (hw : swappedStores [.Subscript o k pos'] e X.env = pure none) (h1 : (assignEach [.Subscript o k pos'] X.env).map (·.2) = [assign (.Subscript o k pos') X.env])
    (ha : ∀ v, assign (.Subscript o k pos') X.env v = (do
      let ov ← holding [v] (eval o X.env)
      let iv ← holding [v, ov] (eval k X.env)
      standAt pos'
      holding [v, ov, iv] (setItem ov iv v)
      release [v, ov, iv] [])) :
    QS X T io E (.Assign [.Subscript o k pos'] e pos) (tAsg t (gSub (tVar i) tk rSetL)) (wPutAt i w wk) := ⟨ps_asg h.pe (pg_sub ho hk.pe set_list ha) hs hw h1, sd_putAt h.ed hk.ed⟩
theorem q_par {i j : Nat} {x y : Str} {px py pt pt2 : Pos} {kt k2 : Nat} (hc : X.calm = true) (hN : X.N.Nodup) (hi : X.N[i]? = some x) (hj : X.N[j]? = some y) (hij : i ≠ j) (hx : X.env.scope.names.lookup x = some .local) (hy : X.env.scope.names.lookup y = some .local) (ha : QA X T E [a, b] tA wA) (h0 : (i ≠ 0 ∧ j ≠ 0) ∨ io = false)
    (hw : swappedStores [.Tuple [.Name x px, .Name y py] kt pt] (.Tuple [a, b] k2 pt2) X.env = pure (some [x, y])) (hs : swapsWithSole [.Tuple [.Name x px, .Name y py] kt pt] (.Tuple [a, b] k2 pt2) pos.line X.env = pure false) :
    QS X T io E (.Assign [.Tuple [.Name x px, .Name y py] kt pt] (.Tuple [a, b] k2 pt2) pos) (tPar i j tA) (wPar i j wA) := ⟨ps_par hc hN hi hj hij hx hy ha.pe hw hs, sd_par ha.ed h0⟩
theorem q_aug {i : Nat} {op : Operator} {ti : TIp} {g : D → D → (R → Prop) → Prop} {pos' : Pos} (hN : X.N.Nodup) (hi : X.N[i]? = some x) (hx : L2.Loc X.env.scope x) (h : QE X T E e t w) (hp : PIp X op ti) (d : OD T ti g) (h0 : i ≠ 0 ∨ io = false) (hf : X.fn x = true ∨ X.env.scope.names.lookup x = some .local) :
    QS X T io E (.AugAssign (.Name x pos') op e pos) (tAug i t ti) (wAug i w g) := ⟨ps_aug hN hi hx h.pe hp hf, sd_aug h.ed d h0⟩
theorem q_for (hp : PassesOwn (model X.prog X.w) X.A X.env X.xe) (hc : X.calm = true) (hi : QI X T E tg iter wi wI) (hg : QG X T io tg g wg) (hb : QSs X T io E bs s1 u1) (hf : ∀ x, foldedSetIterable iter X.env x = pure x) : QS X T io E (.For tg iter bs [] pos) (tFor wi g s1) (wFor wI wg u1) := ⟨ps_for hp hc hi.pe hg.pe hb.pe hf, sd_for hi.ed hg.ed hb.ed⟩
theorem q_while (hp : PassesOwn (model X.prog X.w) X.A X.env X.xe) (h : QT X T E c t1 w1) (hb : QSs X T io E bs s1 u1) : QS X T io E (.While c bs [] pos) (tWhile t1 s1) (wWhile w1 u1) := ⟨ps_while hp h.pe hb.pe, sd_while h.ed hb.ed⟩
end
/-! ### a def keeps its promise -/
def toN (io : Bool) (Γ : Gm) : R → Option R
  | .val d => some (.val d)
  | .new ds => some (.new ds)
  | .slot i => if io = true ∧ i = 0 then none else match Γ[i]? with
    | some (some (.own ds)) => some (.new ds)
    | some (some (.shr d)) => some (.val d)
    | _ => none
def retW (io : Bool) (Ψ : R → List D → Prop) (r : R) (Γ : Gm) : Prop := ∃ r', toN io Γ r = some r' ∧ match io with
  | true => ∃ row, Γ[0]? = some (some (.own row)) ∧ Ψ r' row
  | false => Ψ r' []
def endsW (io : Bool) (Ψ : R → List D → Prop) (Ξ : XD → Prop) : WEnds := { nx := fun Γ => retW io Ψ (.val .non) Γ, rt := fun r Γ => retW io Ψ r Γ, bk := fun _ => False, ct := fun _ => False, xe := Ξ }
def startW (io : Bool) (n : Nat) (ds row : List D) : Gm := match io with
  | true => some (.own row) :: (ds.map fun d => some (.shr d)) ++ List.replicate (n - (ds.length + 1)) none
  | false => (ds.map fun d => some (.shr d)) ++ List.replicate (n - ds.length) none
section
variable {K : PySem.W.Frag} {ts : List Addr} {io : Bool} {H F : Hp} {N : List Str} {vs : List V} {ds row : List D} {ra : Addr}
theorem shr_at : ∀ {ds : List D} {vs : List V} {n m : Nat} {i : Nat} {e : En}, RepA K F vs ds → ((ds.map fun d => some (En.shr d)) ++ List.replicate n none)[i]? = some (some e) → ∃ v d, (vs.map some ++ List.replicate m none)[i]? = some (some v) ∧ e = .shr d ∧ Rep K F v d
  | [], _, n, m, i, e, .nil, h => by
    simp only [List.map_nil, List.nil_append, List.getElem?_replicate] at h
    split at h <;> cases h
  | d :: ds, _, n, m, 0, e, .cons (v := v) r _, h => by
    simp at h
    exact ⟨v, d, by simp, h.symm, r⟩
  | d :: ds, _, n, m, i + 1, e, .cons r rr, h => by
    obtain ⟨v, d', h1, h2, h3⟩ := shr_at (m := m) (i := i) (e := e) rr (by simpa using h)
    exact ⟨v, d', by simpa using h1, h2, h3⟩
theorem start_ok {rv : List V} (o : Ok ⟨K, ts⟩ F H) (hN : (if io then 1 else 0) + ds.length ≤ N.length) (r : RepA K F vs ds) (hr : io = true → H ra = some (.lst rv) ∧ F ra = none ∧ RepA K F rv row) :
    Rs ⟨K, ts⟩ io H F ra F (start N (if io then .ref ra :: vs else vs)) H (startW io N.length ds row) := by
  have hl := r.length
  cases io with
  | false =>
    have at0 : ∀ (i : Nat) (e : En), (startW false N.length ds row)[i]? = some (some e) → ∃ v d, (start N vs)[i]? = some (some v) ∧ e = .shr d ∧ Rep K F v d := fun i e h => shr_at r h
    refine ⟨⟨o, ?_, fun i e h => ?_, fun i j es es' v h1 _ _ _ => ?_⟩, fun _ _ h => h, fun b u h _ _ => h, fun b ⟨i, es, h1, _⟩ => ?_, fun b u h => ⟨u, h⟩, fun b u h => .inl h, fun z => by cases z⟩
    · show ((ds.map fun d => some (En.shr d)) ++ List.replicate (N.length - ds.length) none).length = (vs.map some ++ List.replicate (N.length - vs.length) none).length
      simp [hl]
    · obtain ⟨v, d, h1, rfl, h3⟩ := at0 i e h
      exact ⟨v, h1, h3⟩
    · obtain ⟨_, _, _, z, _⟩ := at0 i _ h1
      cases z
    · obtain ⟨_, _, _, z, _⟩ := at0 i _ h1
      cases z
  | true =>
    obtain ⟨h1, h2, h3⟩ := hr rfl
    have at0 : ∀ (i : Nat) (e : En), (startW true N.length ds row)[i]? = some (some e) → (i = 0 ∧ e = .own row) ∨ ∃ v d, (start N (.ref ra :: vs))[i]? = some (some v) ∧ e = .shr d ∧ Rep K F v d := fun i e h => by
      cases i with
      | zero => exact .inl ⟨rfl, by simpa [startW] using h.symm⟩
      | succ i =>
        obtain ⟨v, d, g1, g2, g3⟩ := shr_at (m := N.length - (vs.length + 1)) (i := i) (e := e) r (by simpa [startW] using h)
        exact .inr ⟨v, d, by simpa [L2.start] using g1, g2, g3⟩
    have z0 : (start N (.ref ra :: vs))[0]? = some (some (.ref ra)) := by simp [L2.start]
    refine ⟨⟨o, ?_, fun i e h => ?_, fun i j es es' v g1 g2 _ _ => ?_⟩, fun _ _ h => h, fun b u h _ _ => h, fun b ⟨i, es, g1, g2⟩ => ?_, fun b u h => ⟨u, h⟩, fun b u h => .inl h, fun _ => z0⟩
    · show (some (En.own row) :: (ds.map fun d => some (En.shr d)) ++ List.replicate (N.length - (ds.length + 1)) none).length = ((V.ref ra :: vs).map some ++ List.replicate (N.length - (V.ref ra :: vs).length) none).length
      simp [hl]
    · rcases at0 i e h with ⟨rfl, rfl⟩ | ⟨v, d, g1, rfl, g3⟩
      · exact ⟨_, z0, ra, rv, rfl, h1, h2, h3⟩
      · exact ⟨v, g1, g3⟩
    · rcases at0 i _ g1 with ⟨rfl, _⟩ | ⟨_, _, _, z, _⟩
      · rcases at0 j _ g2 with ⟨rfl, _⟩ | ⟨_, _, _, z, _⟩
        · rfl
        · cases z
      · cases z
    · rcases at0 i _ g1 with ⟨rfl, _⟩ | ⟨_, _, _, z, _⟩
      · have g2' : (start N (.ref ra :: vs))[0]? = some (some (.ref b)) := g2
        rw [z0] at g2'
        cases g2'
        exact .inl ⟨rfl, rfl⟩
      · cases z
/-- the ends of a def -/
theorem ends_ok {Q : VK} {E E' : XK} {Ψ : R → List D → Prop} {Ξ : XD → Prop} (k : ∀ F' H' v r row', Ψ r row' → Fx ⟨K, ts⟩ io ra F H F' H' → (io = true → ∃ rv', H' ra = some (.lst rv') ∧ F' ra = none ∧ RepA K F' rv' row') → RepN ⟨K, ts⟩ F' H H' v r → Q v H')
    (x : ∀ F' H' xd, Ξ xd → Fx ⟨K, ts⟩ io ra F H F' H' → XE ⟨K, ts⟩ F' H' E xd) : EO ⟨K, ts⟩ io H F ra E { nx := fun _ H' => Q .non H', rt := Q } (endsW io Ψ Ξ) := by
  have fx : ∀ {F' H' : Hp} {σ : L2.St} {Γ : Gm}, Rs ⟨K, ts⟩ io H F ra F' σ H' Γ → Fx ⟨K, ts⟩ io ra F H F' H' := fun {F' H' σ Γ} s => ⟨s.rp.toOk, s.ff, s.en, s.gro, s.nf⟩
  have ret : ∀ {F' H' : Hp} {σ : L2.St} {Γ : Gm} {v : V} {r : R}, retW io Ψ r Γ → Rs ⟨K, ts⟩ io H F ra F' σ H' Γ → RepR ⟨K, ts⟩ F' σ H' Γ H v r → Q v H' := fun {F' H' σ Γ v r} h s e => by
    obtain ⟨r', hr, hp⟩ := h
    have row' : ∃ row', Ψ r' row' ∧ (io = true → Γ[0]? = some (some (.own row'))) := by
      cases io with
      | true => obtain ⟨row, h1, h2⟩ := hp; exact ⟨row, h2, fun _ => h1⟩
      | false => exact ⟨[], hp, fun z => by cases z⟩
    obtain ⟨row', hΨ, h0⟩ := row'
    have at0 : io = true → ∃ rv', H' ra = some (.lst rv') ∧ F' ra = none ∧ RepA K F' rv' row' := fun z => by
      obtain ⟨u, e1, a, us, e2, ha, fa, rr⟩ := s.rp.at_ 0 _ (h0 z)
      rw [s.par z] at e1
      cases e1
      cases e2
      exact ⟨us, ha, fa, rr⟩
    refine k F' H' v r' row' hΨ (fx s) at0 ?_
    cases r with
    | val d => cases hr; exact e
    | new es => cases hr; obtain ⟨a, us, e1, e2, e3, e4, e5, _⟩ := e; exact ⟨a, us, e1, e2, e3, e4, e5⟩
    | slot i =>
      simp only [toN] at hr
      split at hr
      · cases hr
      rename_i hio
      obtain ⟨e1, en, e2⟩ := e
      rw [e2] at hr
      obtain ⟨u, e3, re⟩ := s.rp.at_ i en e2
      rw [e1] at e3
      cases e3
      cases en with
      | shr d => cases hr; exact re
      | own es =>
        cases hr
        obtain ⟨a, us, rfl, ha, fa, rr⟩ := re
        refine ⟨a, us, rfl, ha, fa, ?_, rr⟩
        rcases s.fr a ⟨i, es, e2, e1⟩ with ⟨z, rfl⟩ | z
        · exact absurd ⟨z, s.rp.apart i 0 es row' _ e2 (h0 z) e1 (s.par z)⟩ hio
        · exact z
  exact ⟨fun F' σ H' Γ h s => ret h s Rep.non, fun F' σ H' Γ h s => h.elim, fun F' σ H' Γ h s => h.elim, fun F' σ H' Γ v r h s e => ret h s e, fun F' σ H' Γ xd h s => x F' H' xd h (fx s)⟩
end
section
variable {P : Program} {wd : World} {K : PySem.W.Frag} {mg : Str → Option Value} {base : Heap} {x qual : Str} {st : Stmt} {f : Addr} {fd : FuncData} {N ps : List Str} {k : Nat} {ts : List Addr} {io : Bool} {wf : WF} {w : WS}
theorem spD_len {vs : List V} {H : Hp} {Q : VK} {E : XK} (hl : ∀ ds row Ψ Ξ, wf ds row Ψ Ξ → (if io then 1 else 0) + ds.length = ps.length) (h : spD ⟨K, ts⟩ io wf vs H Q E) : vs.length = ps.length := by
  obtain ⟨F, ra, rv, row, vs', ds, Ψ, Ξ, o, rfl, hr, r, hw, _⟩ := h
  rw [← hl ds row Ψ Ξ hw, ← r.length]
  cases io <;> simp <;> omega
/-- a def out of which no exception comes -/
theorem fn_d (F : Fun K x qual st f fd) (S : FnScope N ps (defScope st)) (hn : ps.length ≤ N.length) (hl : ∀ ds row Ψ Ξ, wf ds row Ψ Ξ → (if io then 1 else 0) + ds.length = ps.length)
    (hw : ∀ ds row Ψ Ξ, wf ds row Ψ Ξ → w (endsW io Ψ fun _ => False) (startW io N.length ds row))
    (hb : ∀ (cdv : Value) (A : Around) (outer : List Env) (s : Shared) (H : Hp) (E : XK), Room k (A.deeper (envOfC qual (defScope st) s.heap.objs.size f cdv)) → ∃ t, QSs (cxOf (CXE P wd) P wd K mg base N qual (defScope st) f cdv A outer s H E).nox ⟨K, ts⟩ io E0 (defBody st) t w) :
    FnOk P wd K mg base (CXE P wd) (k + 1) f fd ps (spD ⟨K, ts⟩ io wf) := by
  refine Fun.okT F S (fun vs H Q E h => spD_len hl h) fun cdv A outer s H vs Q E hr h => ?_
  obtain ⟨t, q⟩ := hb cdv A outer s H E hr
  obtain ⟨F0, ra, rv, row, vs', ds, Ψ, Ξ, o, rfl, hrow, r, hwf, kk, kx⟩ := h
  refine ⟨t, q.pe, ?_⟩
  exact q.ed H F0 ra F0 _ H _ _ _ (start_ok o (by rw [hl ds row Ψ Ξ hwf]; exact hn) r hrow) (hw ds row Ψ Ξ hwf) (ends_ok (E' := E0) kk fun _ _ _ z => z.elim)
end
end Dt

set_option Elab.async false
set_option linter.all false
set_option maxRecDepth 100000
set_option autoImplicit false
namespace Dt
open PySem PySem.Spec L2 Kx PyProof.Rows
abbrev dAdd := dI0 fun i j => i + j
abbrev dSub := dI0 fun i j => i - j
abbrev dMul := dI CMulB fun i j => i * j
abbrev dDiv := dI CDivP fun i j => i / j
abbrev dDivB := dI CDivB fun i j => i.fdiv j
abbrev dMod := dI (fun _ j => 0 < j) fun i j => i % j
abbrev dPow := dI CPow fun i j => i ^ j.toNat
abbrev bLt := bI fun i j => decide (i < j)
abbrev bLe := bI fun i j => decide (i ≤ j)
abbrev bGt := bI fun i j => decide (j < i)
abbrev bGe := bI fun i j => decide (j ≤ i)
abbrev dAbs := d1I fun i => if i < 0 then -i else i
abbrev dMax2 := d2I fun i j => if j > i then j else i
abbrev dMin2 := d2I fun i j => if j < i then j else i
abbrev dAny := dAll fun bs => bs.any id
abbrev dAllB := dAll fun bs => bs.all id
abbrev dNeg : D → (R → Prop) → Prop := fun d Ψ => ∃ i, d = .int i ∧ Ψ (.val (.int (-i)))
section
variable {T : Tb}
theorem od_add : OD T (rI0 fun i j => .int (i + j)) dAdd := od_I0
theorem od_sub : OD T (rI0 fun i j => .int (i - j)) dSub := od_I0
theorem od_mul : OD T (rI CMulB fun i j => .int (i * j)) dMul := od_I
theorem od_div : OD T (rI CDivP fun i j => .int (i / j)) dDiv := od_I
theorem od_divB : OD T (rI CDivB fun i j => .int (i.fdiv j)) dDivB := od_I
theorem od_mod : OD T (rI (fun _ j => 0 < j) fun i j => .int (i % j)) dMod := od_I
theorem od_pow : OD T (rI CPow fun i j => .int (i ^ j.toNat)) dPow := od_I
theorem bd_lt : BD T (rI0 fun i j => .bl (decide (i < j))) bLt := bd_I
theorem bd_le : BD T (rI0 fun i j => .bl (decide (i ≤ j))) bLe := bd_I
theorem bd_gt : BD T (rI0 fun i j => .bl (decide (j < i))) bGt := bd_I
theorem bd_ge : BD T (rI0 fun i j => .bl (decide (j ≤ i))) bGe := bd_I
theorem od_ipadd : OD T (ipI fun i j => i + j) dAdd := od_ipI
theorem od_ipsub : OD T (ipI fun i j => i - j) dSub := od_ipI
theorem od_ipmul : OD T (ipM CMulB fun i j => i * j) dMul := od_ipM
theorem cd_abs : CD T (fun xs H Q => ∃ i, xs = [.int i] ∧ Q (.int (if i < 0 then -i else i)) H) dAbs := cd_1I
theorem cd_max2 : CD T (fun xs H Q => ∃ i j, xs = [.int i, .int j] ∧ Q (.int (if j > i then j else i)) H) dMax2 := cd_2I
theorem cd_min2 : CD T (fun xs H Q => ∃ i j, xs = [.int i, .int j] ∧ Q (.int (if j < i then j else i)) H) dMin2 := cd_2I
def D.isN : D → Bool
  | .non => true
  | _ => false
def bIsN (f : Bool → Bool) : D → D → (Bool → Prop) → Prop := fun d e Ψ => e = .non ∧ Ψ (f d.isN)
theorem PRep.isN {K : PySem.W.Frag} {F H : Hp} {v : V} {d : D} (h : PRep K F H v d) : decide (v = .non) = d.isN := by
  rcases h with h | ⟨a, vs, ds, rfl, rfl, _, _⟩
  · cases h <;> first | rfl | exact decide_eq_false (by intro z; cases z)
  · exact decide_eq_false (by intro z; cases z)
theorem bd_isN : BD T (fun x y H Q => y = .non ∧ Q (.bl (decide (x = .non))) H) (bIsN id) := fun F H x y d e Q Ψ o hx hy hg k => by
  obtain ⟨rfl, h⟩ := hg
  refine ⟨hy.non, ?_⟩
  rw [hx.isN]
  exact k _ h
theorem bd_notN : BD T (fun x y H Q => y = .non ∧ Q (.bl (!decide (x = .non))) H) (bIsN not) := fun F H x y d e Q Ψ o hx hy hg k => by
  obtain ⟨rfl, h⟩ := hg
  refine ⟨hy.non, ?_⟩
  rw [hx.isN]
  exact k _ h
/-! ### the law's own call -/
theorem law_sp {K : PySem.W.Frag} {ts : List Addr} {wf : WF} {H : Hp} {a : Addr} {ns : List Int} (hw : ns.length ≤ 63 → wf [.scr (ns.map .int)] [] (fun r _ => r = .val (.bl true)) fun _ => False) (hl : ns.length ≤ 63) (hT : ∀ P ∈ ts, Tab H P) (hS : SqL K H a (ns.map V.int)) (hN : ∀ b ps, H b = some (.tbl ps) → b ≠ a) :
    spD ⟨K, ts⟩ false wf [.ref a] H (fun v _ => v = .bl true) fun _ _ _ => False := by
  refine ⟨fun b => match H b with | some (.tbl _) => none | o => o, 0, [], [], [.ref a], [.scr (ns.map .int)], _, _, ⟨fun b o h => ?_, fun b o h => ?_, hT⟩, rfl, (fun z => by cases z), .cons (.scr ?_ RepA.ofInts) .nil, hw hl, fun F' H' v r row' hr _ _ e => ?_, fun _ _ _ z => z.elim⟩
  · skip
    split at h
    · cases h
    · exact h
  · skip
    split at h
    · cases h
    · rename_i hne
      intro ps z
      subst z
      exact hne ps h
  · have key : ∀ o, H a = some o → (∀ ps, o ≠ .tbl ps) → (match H a with | some (.tbl _) => (none : Option HO) | o => o) = some o := fun o h n => by
      rw [h]
      cases o <;> first | rfl | exact absurd rfl (n _)
    rcases hS with (h | ⟨o, h⟩) | h
    · exact .inl (.inl (key _ h (fun _ z => by cases z)))
    · exact .inl (.inr ⟨o, key _ h (fun _ z => by cases z)⟩)
    · exact .inr h
  · subst hr
    cases e
    rfl
/-- a tuple that the module holds -/
def StT (K : PySem.W.Frag) (a : Addr) (vs : List V) : Prop := ∃ (o : Obj) (its : Array Value) (n : Nat), K.lookup a = some o ∧ o.cls = .type "tuple" ∧ o.data = .seq its n ∧ its.size ≤ sizeLine ∧ Vals vs its.toList
theorem StT.rep {K : PySem.W.Frag} {a : Addr} {vs : List V} {ds : List D} (h : StT K a vs) (r : ∀ F, RepA K F vs ds) (F : Hp) : Rep K F (.ref a) (.tup ds) := .tup (.inr h) (r F)
end
end Dt

set_option Elab.async false
set_option linter.all false
set_option maxRecDepth 100000
set_option autoImplicit false
namespace Dt
open PySem L2 Kx
/-! ### reckoning with data: what simp is to unfold -/
theorem ex_some {α : Type} {x : α} {P : α → Prop} : (∃ y, some x = some y ∧ P y) ↔ P x := ⟨fun ⟨_, e, h⟩ => by cases e; exact h, fun h => ⟨x, rfl, h⟩⟩
theorem ix0 {x : D} {xs : List D} : atI (x :: xs) 0 = some x := by
  unfold atI ixN
  simp
theorem ix1 {x y : D} {xs : List D} : atI (x :: y :: xs) 1 = some y := by
  unfold atI ixN
  simp only [List.length_cons]
  rw [if_pos (by decide), if_pos (by omega)]
  rfl
theorem ixN_of {n j : Nat} (h : j < n) : ixN n (j : Int) = some j := by
  unfold ixN
  rw [if_pos (by omega), if_pos (by omega)]
  simp
theorem at_in {ds : List D} {v : Int} (h0 : 0 ≤ v) (h1 : v < ds.length) : ∃ z, z ∈ ds ∧ atI ds v = some z := by
  have hk : v.toNat < ds.length := by omega
  refine ⟨ds[v.toNat], List.getElem_mem hk, ?_⟩
  exact (congrArg (atI ds) (show v = ((v.toNat : Nat) : Int) by omega)).trans (atI_nat (List.getElem?_eq_getElem hk))
/-- the row of a law: a number and a count -/
def RowD (N : Int) (row : List D) : Prop := ∃ a n : Int, row = [.int a, .int n] ∧ 0 ≤ n ∧ n ≤ N
theorem RowD.mono {M N : Int} {row : List D} (h : RowD M row) (l : M ≤ N) : RowD N row := let ⟨a, n, e, h0, h1⟩ := h; ⟨a, n, e, h0, by omega⟩
def wf__law_cell_at : WF := fun ds row Ψ Ξ => ∃ (ns : List Int) (k : Int), ds = [.scr (ns.map .int), .int k] ∧ 0 ≤ k ∧ ∀ v : Int, Ψ (.val (.int v)) []
def wf__law_take : WF := fun ds row Ψ Ξ => ∃ (b N : Int), ds = [.int b] ∧ RowD N row ∧ N < 2 ^ 60 ∧ 0 < b ∧ b < 2 ^ 60 ∧ ∀ v row', 0 ≤ v → v < b → RowD (N + 1) row' → Ψ (.val (.int v)) row'
end Dt
namespace Dt
open PySem L2 Kx
section
variable {Γ : Gm} {d e : D} {ds : List D} {i j : Int} {n : Nat} {Ψ : R → Prop} {Ψb : Bool → Prop} {f : Int → Int → Int} {fb : Int → Int → Bool} {C : Int → Int → Prop} {k : Gm → Prop} {xs ys : List D} {x y : Str}
theorem frz_val : frz Γ (.val d) = some (d, Γ) := rfl
theorem frz_new' : frz Γ (.new ds) = some (.lst ds, Γ) := rfl
theorem frz_own (h : Γ[n]? = some (some (.own ds))) : frz Γ (.slot n) = some (.lst ds, Γ.set n (some (.shr (.lst ds)))) := by simp only [frz, h]
theorem frz_shr (h : Γ[n]? = some (some (.shr d))) : frz Γ (.slot n) = some (d, Γ) := by simp only [frz, h]
theorem at_val : R.at Γ (.val d) = some d := rfl
theorem at_new : R.at Γ (.new ds) = some (.lst ds) := rfl
theorem at_own (h : Γ[n]? = some (some (.own ds))) : R.at Γ (.slot n) = some (.lst ds) := by simp only [R.at, h, En.dat]
theorem at_shr (h : Γ[n]? = some (some (.shr d))) : R.at Γ (.slot n) = some d := by simp only [R.at, h, En.dat]
theorem hold_val : R.hold (.val d) = .val d := rfl
theorem hold_new : R.hold (.new ds) = .val (.lst ds) := rfl
theorem hold_slot : R.hold (.slot n) = .slot n := rfl
theorem toN_val {io : Bool} : toN io Γ (.val d) = some (.val d) := rfl
theorem toN_new {io : Bool} : toN io Γ (.new ds) = some (.new ds) := rfl
theorem put_val : putW n (.val d) Γ k = k (Γ.set n (some (.shr d))) := rfl
theorem put_new : putW n (.new ds) Γ k = k (Γ.set n (some (.own ds))) := rfl
theorem I0_int : dI0 f (.int i) (.int j) Ψ = Ψ (.val (.int (f i j))) := propext ⟨fun ⟨_, _, e1, e2, h⟩ => by cases e1; cases e2; exact h, fun h => ⟨_, _, rfl, rfl, h⟩⟩
theorem I_int : dI C f (.int i) (.int j) Ψ = (C i j ∧ Ψ (.val (.int (f i j)))) := propext ⟨fun ⟨_, _, e1, e2, h⟩ => by cases e1; cases e2; exact h, fun h => ⟨_, _, rfl, rfl, h⟩⟩
theorem B_int : bI fb (.int i) (.int j) Ψb = Ψb (fb i j) := propext ⟨fun ⟨_, _, e1, e2, h⟩ => by cases e1; cases e2; exact h, fun h => ⟨_, _, rfl, rfl, h⟩⟩
theorem bod_eq {g : D → D → (Bool → Prop) → Prop} : bod g d e Ψ = g d e fun b => Ψ (.val (.bl b)) := rfl
theorem sc_int {f : Bool → Bool} : bSc f (.int i) (.int j) Ψb = Ψb (f (decide (i = j))) := propext ⟨fun ⟨_, e1, h⟩ => by cases e1; exact h, fun h => ⟨_, rfl, h⟩⟩
theorem sc_str {f : Bool → Bool} : bSc f (.str x) (.str y) Ψb = Ψb (f (decide (x = y))) := propext ⟨fun ⟨_, e1, h⟩ => by cases e1; exact h, fun h => ⟨_, rfl, h⟩⟩
theorem sc_bl {f : Bool → Bool} {a b : Bool} : bSc f (.bl a) (.bl b) Ψb = Ψb (f (decide (a = b))) := propext ⟨fun ⟨_, e1, h⟩ => by cases e1; exact h, fun h => ⟨_, rfl, h⟩⟩
theorem ix_lst : dIx (.lst ds) (.int i) Ψ = ∃ z, atI ds i = some z ∧ Ψ (.val z) := propext ⟨fun ⟨_, _, z, e1, e2, h⟩ => by rcases e1 with e1 | e1 <;> cases e1; cases e2; exact ⟨z, h⟩, fun ⟨z, h⟩ => ⟨_, _, z, .inl rfl, rfl, h⟩⟩
theorem ix_scr : dIx (.scr ds) (.int i) Ψ = ∃ z, atI ds i = some z ∧ Ψ (.val z) := propext ⟨fun ⟨_, _, z, e1, e2, h⟩ => by rcases e1 with e1 | e1 <;> cases e1; cases e2; exact ⟨z, h⟩, fun ⟨z, h⟩ => ⟨_, _, z, .inr rfl, rfl, h⟩⟩
theorem ix_tup : dIx (.tup ds) (.int i) Ψ = ∃ z, atI ds i = some z ∧ Ψ (.val z) := propext ⟨fun ⟨_, _, z, e1, e2, h⟩ => by cases e1; cases e2; exact ⟨z, h⟩, fun ⟨z, h⟩ => ⟨_, _, z, rfl, rfl, h⟩⟩
theorem ix_str : dIx (.str x) (.int i) Ψ = (x.length ≤ sizeLine ∧ ∃ c, atI x.cps.toList i = some c ∧ Ψ (.val (.str ⟨#[c]⟩))) := propext ⟨fun ⟨_, _, c, e1, e2, h1, h⟩ => by cases e1; cases e2; exact ⟨h1, c, h⟩, fun ⟨h1, c, h⟩ => ⟨_, _, c, rfl, rfl, h1, h⟩⟩
theorem len_lst : dLen [.lst ds] Ψ = Ψ (.val (.int (ds.length : Nat))) := propext ⟨fun ⟨_, e, h⟩ => by rcases e with e | e | e <;> cases e; exact h, fun h => ⟨_, .inl rfl, h⟩⟩
theorem len_tup : dLen [.tup ds] Ψ = Ψ (.val (.int (ds.length : Nat))) := propext ⟨fun ⟨_, e, h⟩ => by rcases e with e | e | e <;> cases e; exact h, fun h => ⟨_, .inr (.inl rfl), h⟩⟩
theorem len_scr : dLen [.scr ds] Ψ = Ψ (.val (.int (ds.length : Nat))) := propext ⟨fun ⟨_, e, h⟩ => by rcases e with e | e | e <;> cases e; exact h, fun h => ⟨_, .inr (.inr rfl), h⟩⟩
theorem len_str : dLenS [.str x] Ψ = (x.length ≤ sizeLine ∧ Ψ (.val (.int (x.length : Nat)))) := propext ⟨fun ⟨_, e, h⟩ => by cases e; exact h, fun h => ⟨_, rfl, h⟩⟩
theorem one_int {f : Int → Int} : d1I f [.int i] Ψ = Ψ (.val (.int (f i))) := propext ⟨fun ⟨_, e, h⟩ => by cases e; exact h, fun h => ⟨_, rfl, h⟩⟩
theorem two_int : d2I f [.int i, .int j] Ψ = Ψ (.val (.int (f i j))) := propext ⟨fun ⟨_, _, e, h⟩ => by cases e; exact h, fun h => ⟨_, _, rfl, h⟩⟩
theorem isi_eq {T : String} : dIsi [d, .ty T] Ψ = ∃ b, d.isi T = some b ∧ Ψ (.val (.bl b)) := propext ⟨fun ⟨_, _, b, e, h⟩ => by cases e; exact ⟨b, h⟩, fun ⟨b, h⟩ => ⟨_, _, b, rfl, h⟩⟩
theorem in_tup {neg : Bool} : bIn neg d (.tup ds) Ψb = (d.flat = true ∧ ds.all D.flat = true ∧ Ψb (if neg then !inV d.v (ds.map D.v) else inV d.v (ds.map D.v))) := propext ⟨fun ⟨_, e, h⟩ => by rcases e with e | e <;> cases e; exact h, fun h => ⟨_, .inr rfl, h⟩⟩
theorem in_lst {neg : Bool} : bIn neg d (.lst ds) Ψb = (d.flat = true ∧ ds.all D.flat = true ∧ Ψb (if neg then !inV d.v (ds.map D.v) else inV d.v (ds.map D.v))) := propext ⟨fun ⟨_, e, h⟩ => by rcases e with e | e <;> cases e; exact h, fun h => ⟨_, .inl rfl, h⟩⟩
theorem addS_str : dAddS (.str x) (.str y) Ψ = (x.length + y.length ≤ sizeLine ∧ Ψ (.val (.str (x ++ y)))) := propext ⟨fun ⟨_, _, e1, e2, h⟩ => by cases e1; cases e2; exact h, fun h => ⟨_, _, rfl, rfl, h⟩⟩
theorem cat_lst : dCat (.lst xs) (.lst ys) Ψ = (xs.length + ys.length ≤ sizeLine ∧ Ψ (.new (xs ++ ys))) := propext ⟨fun ⟨_, _, e1, e2, h⟩ => by cases e1; cases e2; exact h, fun h => ⟨_, _, rfl, rfl, h⟩⟩
theorem neg_int : (∃ i', D.int i = D.int i' ∧ Ψ (.val (.int (-i')))) = Ψ (.val (.int (-i))) := propext ⟨fun ⟨_, e, h⟩ => by cases e; exact h, fun h => ⟨_, rfl, h⟩⟩
theorem ix2 {x y z : D} : atI (x :: y :: z :: xs) 2 = some z := by
  unfold atI ixN
  simp only [List.length_cons]
  rw [if_pos (by decide), if_pos (by omega)]
  rfl
theorem list_lst : dList [.lst ds] Ψ = Ψ (.new ds) := propext ⟨fun ⟨_, _, e, e1, h⟩ => by cases e; rcases e1 with e1 | e1 | e1 <;> cases e1; exact h, fun h => ⟨_, _, rfl, .inl rfl, h⟩⟩
theorem list_tup : dList [.tup ds] Ψ = Ψ (.new ds) := propext ⟨fun ⟨_, _, e, e1, h⟩ => by cases e; rcases e1 with e1 | e1 | e1 <;> cases e1; exact h, fun h => ⟨_, _, rfl, .inr (.inl rfl), h⟩⟩
theorem sl_lst {lo hi : Option Int} : dSlL (.lst ds) lo hi Ψ = Ψ (.new (cutD ds lo hi)) := propext ⟨fun ⟨_, e, h⟩ => by cases e; exact h, fun h => ⟨_, rfl, h⟩⟩
theorem sl_str' {lo hi : Option Int} : dSlS (.str x) lo hi Ψ = (x.length ≤ sizeLine ∧ Ψ (.val (.str (cutS x lo hi)))) := propext ⟨fun ⟨_, e, h⟩ => by cases e; exact h, fun h => ⟨_, rfl, h⟩⟩
theorem isN_non {f : Bool → Bool} : bIsN f d .non Ψb = Ψb (f d.isN) := propext ⟨fun ⟨_, h⟩ => h, fun h => ⟨rfl, h⟩⟩
theorem ats_nil : ats Γ [] = some [] := rfl
theorem ats_cons {r : R} {rs : List R} : ats Γ (r :: rs) = (match r.at Γ, ats Γ rs with | some d, some ds => some (d :: ds) | _, _ => none) := rfl
theorem frzL_nil : frzL Γ [] = some ([], Γ) := rfl
theorem frzL_cons {r : R} {rs : List R} : frzL Γ (r :: rs) = (match frz Γ r with | some (d, Γ1) => (match frzL Γ1 rs with | some (ds, Γ2) => some (d :: ds, Γ2) | none => none) | none => none) := rfl
theorem var_shr {Φ : R → Gm → Prop} {Ξ : XD → Prop} (h : Γ[n]? = some (some (.shr d))) : wVar n Γ Φ Ξ = Φ (.val d) Γ := propext ⟨fun ⟨_, e, q⟩ => by rw [h] at e; cases e; exact q, fun q => ⟨_, h, q⟩⟩
theorem var_own {Φ : R → Gm → Prop} {Ξ : XD → Prop} (h : Γ[n]? = some (some (.own ds))) : wVar n Γ Φ Ξ = Φ (.slot n) Γ := propext ⟨fun ⟨_, e, q⟩ => by rw [h] at e; cases e; exact q, fun q => ⟨_, h, q⟩⟩
theorem app_own {we : WE} {Φ : R → Gm → Prop} {Ξ : XD → Prop} (h : Γ[n]? = some (some (.own ds))) : wApp n we Γ Φ Ξ = we Γ (fun r Γ1 => ∃ d Γ2 ds, frz Γ1 r = some (d, Γ2) ∧ Γ2[n]? = some (some (.own ds)) ∧ ds.length < sizeLine ∧ Φ (.val .non) (Γ2.set n (some (.own (ds ++ [d]))))) Ξ := propext ⟨fun ⟨_, e, q⟩ => q, fun q => ⟨_, h, q⟩⟩
end
end Dt

set_option Elab.async false
set_option linter.all false
set_option maxRecDepth 100000
set_option autoImplicit false
namespace Dt
open PySem L2 Kx
/-! ### reckoning, from the head on: what comes behind is looked at last -/
/-- marks what simp is not to enter: another place's type leans on it -/
structure Tg {α : Sort _} (a : α) : Type where
def getR (Γ : Gm) (r : R) (k : D → Prop) : Prop := ∃ d, r.at Γ = some d ∧ k d
def blR (Γ : Gm) (r : R) (k : Bool → Prop) : Prop := ∃ d, r.at Γ = some (.bl d) ∧ k d
def intR (Γ : Gm) (r : R) (k : Int → Prop) : Prop := ∃ d, r.at Γ = some (.int d) ∧ k d
def strR (Γ : Gm) (r : R) (k : Str → Prop) : Prop := ∃ d, r.at Γ = some (.str d) ∧ k d
def frzR (Γ : Gm) (r : R) (k : D → Gm → Prop) : Prop := ∃ d Γ', frz Γ r = some (d, Γ') ∧ k d Γ'
def atsR (Γ : Gm) (rs : List R) (k : List D → Prop) : Prop := ∃ ds, ats Γ rs = some ds ∧ k ds
def frzLR (Γ : Gm) (rs : List R) (k : List D → Gm → Prop) : Prop := ∃ ds Γ', frzL Γ rs = some (ds, Γ') ∧ k ds Γ'
def ownR (Γ : Gm) (i : Nat) (k : List D → Prop) : Prop := ∃ ds, Γ[i]? = some (some (En.own ds)) ∧ k ds
def shrR (Γ : Gm) (i : Nat) (k : D → Prop) : Prop := ∃ d, Γ[i]? = some (some (En.shr d)) ∧ k d
def anyR (Γ : Gm) (i : Nat) (P : Prop) : Prop := (∃ e, Γ[i]? = some (some (e : En))) ∧ P
def ixR (n : Nat) (i : Int) (k : Nat → Prop) : Prop := ∃ j, ixN n i = some j ∧ k j
def atR (ds : List D) (i : Int) (k : D → Prop) : Prop := ∃ z, atI ds i = some z ∧ k z
def iteR (b : Bool) (P Q : Prop) (_ : Tg P := ⟨⟩) (_ : Tg Q := ⟨⟩) : Prop := if b = true then P else Q
theorem iteR_true {P Q : Prop} : iteR true P Q = P := rfl
theorem iteR_false {P Q : Prop} : iteR false P Q = Q := rfl
theorem iteR_by {b : Bool} {P Q : Prop} (h : b = true → P) (h' : b = false → Q) : iteR b P Q := by
  cases b with
  | true => exact h rfl
  | false => exact h' rfl
def callR (wf : WF) (ds row : List D) (k : R → List D → Prop) (Ξ : XD → Prop) (_ : Tg k := ⟨⟩) : Prop := wf ds row k Ξ
def toInt : D → Option Int
  | .int i => some i
  | _ => none
def sideR (P Q : Prop) (_ : Tg Q := ⟨⟩) : Prop := P ∧ Q
theorem sideR_by {P Q : Prop} (h : P) (h' : P → Q) : sideR P Q := ⟨h, h' h⟩
theorem sideR_true {Q : Prop} : sideR True Q = Q := by unfold sideR; simp
def forB (ds : List D) (wg : WG) (u : WS) (Ψ : WEnds) (Γ : Gm) (_ : Tg (wg, u, Ψ) := ⟨⟩) : Prop := ∃ I : Nat → Gm → Prop, I 0 Γ ∧ (∀ i Γ d, I i Γ → ds[i]? = some d → wg d Γ fun Γ2 => u { Ψ with nx := I (i + 1), ct := I (i + 1), bk := Ψ.nx } Γ2) ∧ ∀ Γ, I ds.length Γ → Ψ.nx Γ
theorem forB_by {ds : List D} {wg : WG} {u : WS} {Ψ : WEnds} {Γ : Gm} (I : Nat → Gm → Prop) (h0 : I 0 Γ) (hs : ∀ i Γ d, ds[i]? = some d → I i Γ → wg d Γ fun Γ2 => u { Ψ with nx := I (i + 1), ct := I (i + 1), bk := Ψ.nx } Γ2) (hd : ∀ Γ, I ds.length Γ → Ψ.nx Γ) : forB ds wg u Ψ Γ := ⟨I, h0, fun i Γ d h1 h2 => hs i Γ d h2 h1, hd⟩
def lcB (ds : List D) (wg : WG) (wt : WT) (we : WE) (vs : List Nat) (Φ : R → Gm → Prop) (Γ1 : Gm) (_ : Tg (wg, wt, we, Φ) := ⟨⟩) : Prop := ds.length ≤ sizeLine ∧ ∃ I : Nat → List D → Gm → Prop, I 0 [] (wipeG Γ1 vs) ∧
  (∀ i acc Γ d, I i acc Γ → ds[i]? = some d → wg d Γ fun Γ2 => wt Γ2 (fun b Γ3 => iteR b (we Γ3 (fun r Γ4 => frzR Γ4 r fun y Γ5 => I (i + 1) (acc ++ [y]) (wipeG Γ5 vs)) (fun _ => False)) (I (i + 1) acc (wipeG Γ3 vs))) fun _ => False) ∧
  ∀ acc Γ, I ds.length acc Γ → Φ (.new acc) (rstG Γ1 Γ vs)
theorem lcB_by {ds : List D} {wg : WG} {wt : WT} {we : WE} {vs : List Nat} {Φ : R → Gm → Prop} {Γ : Gm} (I : Nat → List D → Gm → Prop) (hl : ds.length ≤ sizeLine) (h0 : I 0 [] (wipeG Γ vs))
    (hs : ∀ i acc Γ d, ds[i]? = some d → I i acc Γ → wg d Γ fun Γ2 => wt Γ2 (fun b Γ3 => iteR b (we Γ3 (fun r Γ4 => frzR Γ4 r fun y Γ5 => I (i + 1) (acc ++ [y]) (wipeG Γ5 vs)) (fun _ => False)) (I (i + 1) acc (wipeG Γ3 vs))) fun _ => False)
    (hd : ∀ acc Γ', I ds.length acc Γ' → Φ (.new acc) (rstG Γ Γ' vs)) : lcB ds wg wt we vs Φ Γ := ⟨hl, I, h0, fun i acc Γ d h1 h2 => hs i acc Γ d h2 h1, hd⟩
/-- no test, and an element that changes nothing: a map -/
theorem lcB_map {ds : List D} {wg : WG} {we : WE} {vs : List Nat} {Φ : R → Gm → Prop} {Γ : Gm} (f : D → D) (hl : ds.length ≤ sizeLine)
    (hs : ∀ d, d ∈ ds → ∀ k : D → Gm → Prop, k (f d) (wipeG Γ vs) → wg d (wipeG Γ vs) fun Γ2 => we Γ2 (fun r Γ4 => frzR Γ4 r fun y Γ5 => k y (wipeG Γ5 vs)) fun _ => False)
    (hd : Φ (.new (ds.map f)) (rstG Γ (wipeG Γ vs) vs)) : lcB ds wg (fun Γ Ψ _ => Ψ true Γ) we vs Φ Γ := by
  refine lcB_by (fun i acc Γ' => Γ' = wipeG Γ vs ∧ acc = (ds.take i).map f) hl ⟨rfl, rfl⟩ (fun i acc Γ' d hd' ⟨e1, e2⟩ => ?_) fun acc Γ' ⟨e1, e2⟩ => ?_
  · subst e1 e2
    refine hs d (List.mem_of_getElem? hd') (fun y Γ5 => Γ5 = wipeG Γ vs ∧ (ds.take i).map f ++ [y] = (ds.take (i + 1)).map f) ⟨rfl, ?_⟩
    rw [List.take_add_one, hd', List.map_append]
    rfl
  · subst e1 e2
    rw [List.take_length]
    exact hd
def goR (k : Gm → Prop) (Γ : Gm) (_ : Tg k := ⟨⟩) : Prop := k Γ
theorem goR_ap {k : Gm → Prop} {Γ : Gm} : goR k Γ = k Γ := rfl
def varM (o : Option (Option En)) (n : Nat) (k : R → Prop) (_ : Tg k := ⟨⟩) : Prop := match o with
  | some (some (.shr d)) => k (.val d)
  | some (some (.own _)) => k (.slot n)
  | _ => False
theorem varM_shr {d : D} {n : Nat} {k : R → Prop} : varM (some (some (.shr d))) n k = k (.val d) := rfl
theorem varM_own {ds : List D} {n : Nat} {k : R → Prop} : varM (some (some (.own ds))) n k = k (.slot n) := rfl
def getM (o : Option (Option En)) (k : D → Prop) (_ : Tg k := ⟨⟩) : Prop := match o with
  | some (some e) => k e.dat
  | _ => False
theorem getM_shr {d : D} {k : D → Prop} : getM (some (some (.shr d))) k = k d := rfl
theorem getM_own {ds : List D} {k : D → Prop} : getM (some (some (.own ds))) k = k (.lst ds) := rfl
def frzM (o : Option (Option En)) (n : Nat) (Γ : Gm) (k : D → Gm → Prop) (_ : Tg k := ⟨⟩) : Prop := match o with
  | some (some (.shr d)) => k d Γ
  | some (some (.own ds)) => goR (k (.lst ds)) (Γ.set n (some (.shr (.lst ds))))
  | _ => False
theorem frzM_shr {d : D} {n : Nat} {Γ : Gm} {k : D → Gm → Prop} : frzM (some (some (.shr d))) n Γ k = k d Γ := rfl
theorem frzM_own {ds : List D} {n : Nat} {Γ : Gm} {k : D → Gm → Prop} : frzM (some (some (.own ds))) n Γ k = goR (k (.lst ds)) (Γ.set n (some (.shr (.lst ds)))) := rfl
def ownM (o : Option (Option En)) (k : List D → Prop) (_ : Tg k := ⟨⟩) : Prop := match o with
  | some (some (.own ds)) => k ds
  | _ => False
theorem ownM_own {ds : List D} {k : List D → Prop} : ownM (some (some (.own ds))) k = k ds := rfl
def shrM (o : Option (Option En)) (k : D → Prop) (_ : Tg k := ⟨⟩) : Prop := match o with
  | some (some (.shr d)) => k d
  | _ => False
theorem shrM_shr {d : D} {k : D → Prop} : shrM (some (some (.shr d))) k = k d := rfl
def anyM (o : Option (Option En)) (P : Prop) (_ : Tg P := ⟨⟩) : Prop := match o with
  | some (some _) => P
  | _ => False
theorem anyM_some {e : En} {P : Prop} : anyM (some (some e)) P = P := rfl
def ixM (o : Option Nat) (k : Nat → Prop) (_ : Tg k := ⟨⟩) : Prop := ∃ j, o = some j ∧ k j
theorem ixM_some {j : Nat} {k : Nat → Prop} : ixM (some j) k = k j := propext ⟨fun ⟨_, e, h⟩ => by cases e; exact h, fun h => ⟨_, rfl, h⟩⟩
def atM (o : Option D) (k : D → Prop) (_ : Tg k := ⟨⟩) : Prop := ∃ j, o = some j ∧ k j
theorem atM_some {j : D} {k : D → Prop} : atM (some j) k = k j := propext ⟨fun ⟨_, e, h⟩ => by cases e; exact h, fun h => ⟨_, rfl, h⟩⟩
def boM (o : Option Bool) (k : Bool → Prop) (_ : Tg k := ⟨⟩) : Prop := ∃ j, o = some j ∧ k j
theorem boM_some {j : Bool} {k : Bool → Prop} : boM (some j) k = k j := propext ⟨fun ⟨_, e, h⟩ => by cases e; exact h, fun h => ⟨_, rfl, h⟩⟩
def chM (o : Option Nat) (k : Nat → Prop) (_ : Tg k := ⟨⟩) : Prop := ∃ j, o = some j ∧ k j
section
variable {Γ : Gm} {Φ : R → Gm → Prop} {Φb : Bool → Gm → Prop} {Φs : List R → Gm → Prop} {Φd : List D → Gm → Prop} {Φo : Option Int → Gm → Prop} {Ξ : XD → Prop} {Ψ : WEnds} {wa wb wc we wo w : WE} {w1 w2 wt : WT} {wA : WA} {u1 u2 : WS} {wg : WG} {wgs : WGs} {g : D → D → (R → Prop) → Prop} {gb gb' : D → D → (Bool → Prop) → Prop} {g1 : D → (R → Prop) → Prop} {gl : List D → (R → Prop) → Prop} {i j n : Nat} {d : D} {k : Gm → Prop} {wl wh : WO} {wI : WI} {io : Bool} {wf : WF} {gs : D → Option Int → Option Int → (R → Prop) → Prop} {gm : Str → D → (R → Prop) → Prop} {ds : List D} {r : R} {rs : List R} {vs : List Nat}
section
variable {kd : D → Prop} {kb : Bool → Prop} {ki : Int → Prop} {ks : Str → Prop} {kg : D → Gm → Prop} {kl : List D → Prop} {klg : List D → Gm → Prop} {kn : Nat → Prop} {z : Int} {b : Bool} {x : Str} {P : Prop}
theorem getR_val : getR Γ (.val d) kd = kd d := propext ⟨fun ⟨_, e, h⟩ => by cases e; exact h, fun h => ⟨_, rfl, h⟩⟩
theorem getR_new : getR Γ (.new ds) kd = kd (.lst ds) := propext ⟨fun ⟨_, e, h⟩ => by cases e; exact h, fun h => ⟨_, rfl, h⟩⟩
theorem getR_slot : getR Γ (.slot n) kd = getM Γ[n]? kd := by
  unfold getR getM
  rcases q : Γ[n]? with _ | _ | e
  · exact propext ⟨fun ⟨d, e, h⟩ => (by simp only [R.at, q] at e; cases e), fun h => h.elim⟩
  · exact propext ⟨fun ⟨d, e, h⟩ => (by simp only [R.at, q] at e; cases e), fun h => h.elim⟩
  · exact propext ⟨fun ⟨d, e', h⟩ => (by simp only [R.at, q] at e'; cases e'; exact h), fun h => ⟨_, by simp only [R.at, q], h⟩⟩
theorem blR_val : blR Γ (.val (.bl b)) kb = kb b := propext ⟨fun ⟨_, e, h⟩ => by cases e; exact h, fun h => ⟨_, rfl, h⟩⟩
theorem intR_val : intR Γ (.val (.int z)) ki = ki z := propext ⟨fun ⟨_, e, h⟩ => by cases e; exact h, fun h => ⟨_, rfl, h⟩⟩
theorem strR_val : strR Γ (.val (.str x)) ks = ks x := propext ⟨fun ⟨_, e, h⟩ => by cases e; exact h, fun h => ⟨_, rfl, h⟩⟩
theorem frzR_val : frzR Γ (.val d) kg = kg d Γ := propext ⟨fun ⟨_, _, e, h⟩ => by cases e; exact h, fun h => ⟨_, _, rfl, h⟩⟩
theorem frzR_new : frzR Γ (.new ds) kg = kg (.lst ds) Γ := propext ⟨fun ⟨_, _, e, h⟩ => by cases e; exact h, fun h => ⟨_, _, rfl, h⟩⟩
theorem frzR_slot : frzR Γ (.slot n) kg = frzM Γ[n]? n Γ kg := by
  unfold frzR frzM goR
  rcases q : Γ[n]? with _ | _ | (d | ds)
  · exact propext ⟨fun ⟨d, _, e, h⟩ => (by simp only [frz, q] at e; cases e), fun h => h.elim⟩
  · exact propext ⟨fun ⟨d, _, e, h⟩ => (by simp only [frz, q] at e; cases e), fun h => h.elim⟩
  · exact propext ⟨fun ⟨d, _, e', h⟩ => (by simp only [frz, q] at e'; cases e'; exact h), fun h => ⟨_, _, by simp only [frz, q], h⟩⟩
  · exact propext ⟨fun ⟨d, _, e', h⟩ => (by simp only [frz, q] at e'; cases e'; exact h), fun h => ⟨_, _, by simp only [frz, q], h⟩⟩
theorem atsR_nil : atsR Γ [] kl = kl [] := propext ⟨fun ⟨_, e, h⟩ => by cases e; exact h, fun h => ⟨_, rfl, h⟩⟩
theorem atsR_cons : atsR Γ (r :: rs) kl = getR Γ r fun d => atsR Γ rs fun ds => kl (d :: ds) := by
  refine propext ⟨fun ⟨ds, e, h⟩ => ?_, fun ⟨d, e1, ds, e2, h⟩ => ⟨d :: ds, by simp only [ats, e1, e2], h⟩⟩
  unfold ats at e
  split at e
  · rename_i d ds' e1 e2
    cases e
    exact ⟨d, e1, ds', e2, h⟩
  · cases e
theorem frzLR_nil : frzLR Γ [] klg = klg [] Γ := propext ⟨fun ⟨_, _, e, h⟩ => by cases e; exact h, fun h => ⟨_, _, rfl, h⟩⟩
theorem frzLR_cons : frzLR Γ (r :: rs) klg = frzR Γ r fun d Γ1 => frzLR Γ1 rs fun ds Γ2 => klg (d :: ds) Γ2 := by
  refine propext ⟨fun ⟨ds, Γ', e, h⟩ => ?_, fun ⟨d, Γ1, e1, ds, Γ2, e2, h⟩ => ⟨d :: ds, Γ2, by simp only [frzL, e1, e2], h⟩⟩
  unfold frzL at e
  split at e
  · rename_i d Γ1 e1
    split at e
    · rename_i ds' Γ2 e2
      cases e
      exact ⟨d, Γ1, e1, _, _, e2, h⟩
    · cases e
  · cases e
theorem ownR_ap : ownR Γ n kl = ownM Γ[n]? kl := by
  unfold ownR ownM
  refine propext ⟨fun ⟨d, e, h⟩ => by rw [e]; exact h, fun h => ?_⟩
  split at h
  · exact ⟨_, by assumption, h⟩
  · exact h.elim
theorem shrR_ap : shrR Γ n kd = shrM Γ[n]? kd := by
  unfold shrR shrM
  refine propext ⟨fun ⟨d, e, h⟩ => by rw [e]; exact h, fun h => ?_⟩
  split at h
  · exact ⟨_, by assumption, h⟩
  · exact h.elim
theorem anyR_ap : anyR Γ n P = anyM Γ[n]? P := by
  unfold anyR anyM
  refine propext ⟨fun ⟨⟨d, e⟩, h⟩ => by rw [e]; exact h, fun h => ?_⟩
  split at h
  · exact ⟨⟨_, by assumption⟩, h⟩
  · exact h.elim
theorem ixR_ap {m : Nat} : ixR m z kn = ixM (ixN m z) kn := rfl
theorem atR_ap : atR ds z kd = atM (atI ds z) kd := rfl
theorem var_ap : wVar n Γ Φ Ξ = varM Γ[n]? n fun r => Φ r Γ := by
  unfold wVar varM
  refine propext ⟨fun ⟨e, he, h⟩ => ?_, fun h => ?_⟩
  · rw [he]
    cases e <;> exact h
  · split at h
    · exact ⟨.shr _, by assumption, h⟩
    · exact ⟨.own _, by assumption, h⟩
    · exact h.elim
end
theorem C_ap : wC d Γ Φ Ξ = Φ (.val d) Γ := rfl
theorem op_ap : wOp g wa wb Γ Φ Ξ = wa Γ (fun r1 Γ1 => wb Γ1 (fun r2 Γ2 => getR Γ2 r1 fun d1 => getR Γ2 r2 fun d2 => g d1 d2 fun r => Φ r Γ2) Ξ) Ξ := by
  unfold wOp getR
  simp only [exists_and_left]
theorem un_ap : wUn g1 wa Γ Φ Ξ = wa Γ (fun r1 Γ1 => getR Γ1 r1 fun d1 => g1 d1 fun r => Φ r Γ1) Ξ := rfl
theorem B_ap : wB w Γ Φb Ξ = w Γ (fun r Γ1 => blR Γ1 r fun b => Φb b Γ1) Ξ := rfl
theorem cmp_ap : wCmp gb wa wb Γ Φb Ξ = wa Γ (fun r1 Γ1 => wb Γ1 (fun r2 Γ2 => getR Γ2 r1 fun d1 => getR Γ2 r2 fun d2 => gb d1 d2 fun b => Φb b Γ2) Ξ) Ξ := by
  unfold wCmp getR
  simp only [exists_and_left]
theorem not_ap : wNot w1 Γ Φb Ξ = w1 Γ (fun b Γ1 => Φb (!b) Γ1) Ξ := rfl
theorem and_ap : wAnd w1 w2 Γ Φb Ξ = w1 Γ (fun b Γ1 => iteR b (w2 Γ1 Φb Ξ) (Φb false Γ1)) Ξ := rfl
theorem or_ap : wOr w1 w2 Γ Φb Ξ = w1 Γ (fun b Γ1 => iteR b (Φb true Γ1) (w2 Γ1 Φb Ξ)) Ξ := rfl
theorem if_ap : wIf w1 wa wb Γ Φ Ξ = w1 Γ (fun b Γ1 => iteR b (wa Γ1 Φ Ξ) (wb Γ1 Φ Ξ)) Ξ := rfl
theorem andV_ap : wAndV wa wb Γ Φ Ξ = wa Γ (fun r Γ1 => blR Γ1 r fun c => iteR c (wb Γ1 Φ Ξ) (Φ (.val (.bl false)) Γ1)) Ξ := rfl
theorem orV_ap : wOrV wa wb Γ Φ Ξ = wa Γ (fun r Γ1 => blR Γ1 r fun c => iteR c (Φ (.val (.bl true)) Γ1) (wb Γ1 Φ Ξ)) Ξ := rfl
theorem notV_ap : wNotV wa Γ Φ Ξ = wa Γ (fun r Γ1 => blR Γ1 r fun c => Φ (.val (.bl (!c))) Γ1) Ξ := rfl
theorem chain_ap : wChain gb gb' wa wb wc Γ Φ Ξ = wa Γ (fun r1 Γ1 => wb Γ1 (fun r2 Γ2 => getR Γ2 r1 fun d1 => getR Γ2 r2 fun d2 => gb d1 d2 fun b => iteR b (wc Γ2 (fun r3 Γ3 => getR Γ3 r2 fun d2 => getR Γ3 r3 fun d3 => gb' d2 d3 fun b => Φ (.val (.bl b)) Γ3) Ξ) (Φ (.val (.bl false)) Γ2)) Ξ) Ξ := by
  unfold wChain getR iteR
  simp only [exists_and_left]
theorem nil_ap : wANil Γ Φs Ξ = Φs [] Γ := rfl
theorem cons_ap : wACons w wA Γ Φs Ξ = w Γ (fun r Γ1 => wA Γ1 (fun rs Γ2 => Φs (r.hold :: rs) Γ2) Ξ) Ξ := rfl
theorem cb_ap : wCB gl wA Γ Φ Ξ = wA Γ (fun rs Γ1 => atsR Γ1 rs fun ds => gl ds fun r => Φ r Γ1) Ξ := rfl
theorem tup_ap : wTup wA Γ Φ Ξ = wA Γ (fun rs Γ1 => frzLR Γ1 rs fun ds Γ2 => sideR (ds.length ≤ sizeLine) (Φ (.val (.tup ds)) Γ2)) Ξ := rfl
theorem lst_ap : wLst wA Γ Φ Ξ = wA Γ (fun rs Γ1 => frzLR Γ1 rs fun ds Γ2 => sideR (ds.length ≤ sizeLine) (Φ (.new ds) Γ2)) Ξ := rfl
theorem call_ap : wCall io wf wA Γ Φ Ξ = wA Γ (fun rs Γ1 => callW io wf rs Γ1 Φ Ξ) Ξ := rfl
theorem callF : callW false wf rs Γ Φ Ξ = frzLR Γ rs fun ds Γ1 => callR wf ds [] (fun r _ => Φ r Γ1) Ξ := rfl
theorem callT : callW true wf (.slot i :: rs) Γ Φ Ξ = frzLR Γ rs fun ds Γ1 => ownR Γ1 i fun row => callR wf ds row (fun r row' => goR (Φ r) (Γ1.set i (some (.own row')))) fun _ => False :=
  propext ⟨fun ⟨_, _, ds, Γ1, row, e, h, h1, h2⟩ => by cases e; exact ⟨ds, Γ1, h, row, h1, h2⟩, fun ⟨ds, Γ1, h, row, h1, h2⟩ => ⟨_, _, ds, Γ1, row, rfl, h, h1, h2⟩⟩
theorem sl_ap : wSl gs w wl wh Γ Φ Ξ = w Γ (fun r1 Γ1 => wl Γ1 (fun lo Γ2 => wh Γ2 (fun hi Γ3 => getR Γ3 r1 fun d => gs d lo hi fun r => Φ r Γ3) Ξ) Ξ) Ξ := rfl
theorem noP_ap : wNoP Γ Φo Ξ = Φo none Γ := rfl
theorem prt_ap : wPrt w Γ Φo Ξ = w Γ (fun r Γ1 => intR Γ1 r fun i => Φo (some i) Γ1) Ξ := rfl
theorem m1_ap : wM1 gm wo we Γ Φ Ξ = wo Γ (fun r1 Γ1 => strR Γ1 r1 fun a => we Γ1 (fun r2 Γ2 => getR Γ2 r2 fun d2 => gm a d2 fun r => Φ r Γ2) Ξ) Ξ := rfl
theorem rev_ap : wRev i Γ Φ Ξ = ownR Γ i fun ds => goR (Φ (.val .non)) (Γ.set i (some (.own ds.reverse))) := rfl
theorem clr_ap : wClr i Γ Φ Ξ = ownR Γ i fun ds => goR (Φ (.val .non)) (Γ.set i (some (.own []))) := rfl
theorem app_ap : wApp i we Γ Φ Ξ = ownR Γ i fun _ => we Γ (fun r Γ1 => frzR Γ1 r fun d Γ2 => ownR Γ2 i fun ds => sideR (ds.length < sizeLine) (goR (Φ (.val .non)) (Γ2.set i (some (.own (ds ++ [d])))))) Ξ := by
  unfold wApp ownR frzR sideR goR
  simp only [exists_and_left]
theorem seq_ap : wSeq u1 u2 Ψ Γ = u1 { Ψ with nx := u2 Ψ } Γ := rfl
theorem next_ap : wNext Ψ Γ = Ψ.nx Γ := rfl
theorem brk_ap : wBreak Ψ Γ = Ψ.bk Γ := rfl
theorem cnt_ap : wCont Ψ Γ = Ψ.ct Γ := rfl
theorem drop_ap : wDrop w Ψ Γ = w Γ (fun _ Γ1 => Ψ.nx Γ1) Ψ.xe := rfl
theorem ret_ap : wRet w Ψ Γ = w Γ Ψ.rt Ψ.xe := rfl
theorem retN_ap : wRetN Ψ Γ = Ψ.rt (.val .non) Γ := rfl
theorem ifS_ap : wIfS w1 u1 u2 Ψ Γ = w1 Γ (fun b Γ1 => iteR b (u1 Ψ Γ1) (u2 Ψ Γ1)) Ψ.xe := rfl
theorem set_ap : wSet i w Ψ Γ = w Γ (fun r Γ1 => putW i r Γ1 Ψ.nx) Ψ.xe := rfl
theorem asg_ap : wAsg w wg Ψ Γ = w Γ (fun r Γ1 => frzR Γ1 r fun d Γ2 => wg d Γ2 Ψ.nx) Ψ.xe := rfl
theorem gN_ap : wgName i d Γ k = goR k (Γ.set i (some (.shr d))) := rfl
theorem gT_ap : wgTup n wgs (.tup ds) Γ k = sideR (ds.length = n) (wgs ds Γ k) := propext ⟨fun ⟨_, e, h⟩ => by cases e; exact h, fun h => ⟨_, rfl, h⟩⟩
theorem g0_ap : wgNil [] Γ k = k Γ := propext ⟨fun h => h.2, fun h => ⟨rfl, h⟩⟩
theorem g1_ap : wgCons wg wgs (d :: ds) Γ k = wg d Γ (fun Γ1 => wgs ds Γ1 k) := propext ⟨fun ⟨_, _, e, h⟩ => by cases e; exact h, fun h => ⟨_, _, rfl, h⟩⟩
theorem putAt_ap {wk : WE} : wPutAt i w wk Ψ Γ = w Γ (fun r Γ1 => frzR Γ1 r fun d Γ2 => anyR Γ2 i (wk Γ2 (fun rk Γ3 => intR Γ3 rk fun k => ownR Γ3 i fun ds => ixR ds.length k fun j => goR Ψ.nx (Γ3.set i (some (.own (ds.set j d))))) Ψ.xe)) Ψ.xe := by
  unfold wPutAt goR frzR anyR intR ownR ixR
  simp only [exists_and_left, exists_and_right]
theorem par_ap : wPar i j wA Ψ Γ = wA Γ (fun rs Γ1 => frzLR Γ1 rs fun ds Γ2 => match ds with | [d, e] => goR Ψ.nx ((Γ2.set i (some (.shr d))).set j (some (.shr e))) | _ => False) Ψ.xe := by
  unfold wPar frzLR
  congr 1
  funext rs Γ1
  refine propext ⟨fun ⟨d, e, Γ2, h, q⟩ => ⟨_, _, h, q⟩, fun ⟨ds, Γ2, h, q⟩ => ?_⟩
  dsimp only at q
  split at q
  · exact ⟨_, _, _, h, q⟩
  · exact q.elim
theorem aug_ap : wAug i w g Ψ Γ = shrR Γ i fun d => w Γ (fun r Γ1 => getR Γ1 r fun e => g d e fun r => putW i r Γ1 Ψ.nx) Ψ.xe := rfl
theorem augAt_ap {wk : WE} : wAugAt i wk w g Ψ Γ = anyR Γ i (wk Γ (fun rk Γ1 => intR Γ1 rk fun k => ownR Γ1 i fun ds => ixR ds.length k fun j => ∃ d, ds[j]? = some d ∧ w Γ1 (fun r Γ2 => getR Γ2 r fun e => ownR Γ2 i fun ds2 => sideR (ds2.length = ds.length) (g d e fun r => ∃ z, r = .val z ∧ goR Ψ.nx (Γ2.set i (some (.own (ds2.set j z)))))) Ψ.xe) Ψ.xe) := by
  unfold wAugAt goR anyR intR ownR ixR getR sideR
  simp only [exists_and_left, exists_and_right]
theorem il_ap : wIList w Γ Φd Ξ = w Γ (fun r Γ1 => frzR Γ1 r fun d Γ2 => match d with | .lst ds => Φd ds Γ2 | _ => False) Ξ := by
  unfold wIList frzR
  congr 1
  funext r Γ1
  refine propext ⟨fun ⟨ds, Γ2, h, q⟩ => ⟨_, _, h, q⟩, fun ⟨d, Γ2, h, q⟩ => ?_⟩
  dsimp only at q
  split at q
  · exact ⟨_, _, h, q⟩
  · exact q.elim
theorem it_ap : wITup w Γ Φd Ξ = w Γ (fun r Γ1 => frzR Γ1 r fun d Γ2 => match d with | .tup ds => Φd ds Γ2 | _ => False) Ξ := by
  unfold wITup frzR
  congr 1
  funext r Γ1
  refine propext ⟨fun ⟨ds, Γ2, h, q⟩ => ⟨_, _, h, q⟩, fun ⟨d, Γ2, h, q⟩ => ?_⟩
  dsimp only at q
  split at q
  · exact ⟨_, _, h, q⟩
  · exact q.elim
theorem ir1_ap : wIRng1 wA Γ Φd Ξ = wA Γ (fun rs Γ1 => atsR Γ1 rs fun ds => match ds with | [.int j] => sideR (-(2 ^ 62) ≤ j ∧ j < 2 ^ 62) (Φd (rng 0 j.toNat) Γ1) | _ => False) Ξ := by
  unfold wIRng1 atsR
  congr 1
  funext rs Γ1
  refine propext ⟨fun ⟨j, h, q⟩ => ⟨_, h, q⟩, fun ⟨ds, h, q⟩ => ?_⟩
  dsimp only at q
  split at q
  · exact ⟨_, h, q⟩
  · exact q.elim
theorem ir2_ap : wIRng2 wA Γ Φd Ξ = wA Γ (fun rs Γ1 => atsR Γ1 rs fun ds => match ds with | [.int i, .int j] => Φd (rng i (j - i).toNat) Γ1 | _ => False) Ξ := by
  unfold wIRng2 atsR
  congr 1
  funext rs Γ1
  refine propext ⟨fun ⟨i, j, h, q⟩ => ⟨_, h, q⟩, fun ⟨ds, h, q⟩ => ?_⟩
  dsimp only at q
  split at q
  · exact ⟨_, _, h, q⟩
  · exact q.elim
theorem is_ap : wIStr w Γ Φd Ξ = w Γ (fun r Γ1 => strR Γ1 r fun x => Φd (chs x) Γ1) Ξ := rfl
theorem ie_ap : wIEnum wA Γ Φd Ξ = wA Γ (fun rs Γ1 => frzLR Γ1 rs fun ds Γ2 => match ds with | [.lst es] => Φd (enu es) Γ2 | _ => False) Ξ := by
  unfold wIEnum frzLR
  congr 1
  funext rs Γ1
  refine propext ⟨fun ⟨ds, Γ2, h, q⟩ => ⟨_, _, h, q⟩, fun ⟨ds, Γ2, h, q⟩ => ?_⟩
  dsimp only at q
  split at q
  · exact ⟨_, _, h, q⟩
  · exact q.elim
theorem iz_ap : wIZip wA Γ Φd Ξ = wA Γ (fun rs Γ1 => frzLR Γ1 rs fun ds Γ2 => match ds with | [.lst es, .lst fs] => Φd (zp es fs) Γ2 | _ => False) Ξ := by
  unfold wIZip frzLR
  congr 1
  funext rs Γ1
  refine propext ⟨fun ⟨ds, es, Γ2, h, q⟩ => ⟨_, _, h, q⟩, fun ⟨ds, Γ2, h, q⟩ => ?_⟩
  dsimp only at q
  split at q
  · exact ⟨_, _, _, h, q⟩
  · exact q.elim
theorem for_ap : wFor wI wg u1 Ψ Γ = wI Γ (fun ds Γ1 => forB ds wg u1 Ψ Γ1) Ψ.xe := rfl
theorem lc_ap : wLc wI wg wt we vs Γ Φ Ξ = wI Γ (fun ds Γ1 => lcB ds wg wt we vs Φ Γ1) Ξ := rfl
def lcO (s : Nat) (ds : List D) (wg : WG) (wt : WT) (we : WE) (vs : List Nat) (Φ : R → Gm → Prop) (Γ1 : Gm) (_ : Tg (wg, wt, we, Φ) := ⟨⟩) : Prop := ds.length ≤ sizeLine ∧ ∃ I : Nat → List D → Gm → Prop, I 0 [] (wipeG Γ1 vs) ∧ (∀ i acc Γ, I i acc Γ → Γ[s]? = some (some (En.own ds))) ∧
  (∀ i acc Γ d, I i acc Γ → ds[i]? = some d → wg d Γ fun Γ2 => wt Γ2 (fun b Γ3 => iteR b (we Γ3 (fun r Γ4 => frzR Γ4 r fun y Γ5 => I (i + 1) (acc ++ [y]) (wipeG Γ5 vs)) (fun _ => False)) (I (i + 1) acc (wipeG Γ3 vs))) fun _ => False) ∧
  ∀ acc Γ, I ds.length acc Γ → Φ (.new acc) (rstG Γ1 Γ vs)
theorem lcO_ap {s : Nat} : wLcO s wg wt we vs Γ Φ Ξ = ownR Γ s fun ds => lcO s ds wg wt we vs Φ Γ := rfl
theorem lcO_map {s : Nat} {Φ : R → Gm → Prop} {Γ : Gm} (f : D → D) (hl : ds.length ≤ sizeLine) (ho : (wipeG Γ vs)[s]? = some (some (En.own ds)))
    (hs : ∀ d, d ∈ ds → ∀ k : D → Gm → Prop, k (f d) (wipeG Γ vs) → wg d (wipeG Γ vs) fun Γ2 => we Γ2 (fun r Γ4 => frzR Γ4 r fun y Γ5 => k y (wipeG Γ5 vs)) fun _ => False)
    (hd : Φ (.new (ds.map f)) (rstG Γ (wipeG Γ vs) vs)) : lcO s ds wg (fun Γ Ψ _ => Ψ true Γ) we vs Φ Γ := by
  refine ⟨hl, fun i acc Γ' => Γ' = wipeG Γ vs ∧ acc = (ds.take i).map f, ⟨rfl, rfl⟩, fun i acc Γ' ⟨e, _⟩ => e ▸ ho, (fun i acc Γ' d ⟨e1, e2⟩ hd' => ?_), fun acc Γ' ⟨e1, e2⟩ => ?_⟩
  · subst e1 e2
    refine hs d (List.mem_of_getElem? hd') (fun y Γ5 => Γ5 = wipeG Γ vs ∧ (ds.take i).map f ++ [y] = (ds.take (i + 1)).map f) ⟨rfl, ?_⟩
    rw [List.take_add_one, hd', List.map_append]
    rfl
  · subst e1 e2
    rw [List.take_length]
    exact hd
theorem startT {row : List D} : startW true n ds row = some (.own row) :: (ds.map fun d => some (.shr d)) ++ List.replicate (n - (ds.length + 1)) none := rfl
theorem startF {row : List D} : startW false n ds row = (ds.map fun d => some (.shr d)) ++ List.replicate (n - ds.length) none := rfl
variable {F : R → List D → Prop}
theorem end_rt : (endsW io F Ξ).rt r Γ = retW io F r Γ := rfl
theorem end_nx : (endsW io F Ξ).nx Γ = retW io F (.val .non) Γ := rfl
theorem end_xe : (endsW io F Ξ).xe = Ξ := rfl
theorem retT_val : retW true F (.val d) Γ = ownR Γ 0 fun row => F (.val d) row := propext ⟨fun ⟨r', h, row, h1, h2⟩ => by cases h; exact ⟨row, h1, h2⟩, fun ⟨row, h1, h2⟩ => ⟨_, rfl, row, h1, h2⟩⟩
theorem retT_new : retW true F (.new ds) Γ = ownR Γ 0 fun row => F (.new ds) row := propext ⟨fun ⟨r', h, row, h1, h2⟩ => by cases h; exact ⟨row, h1, h2⟩, fun ⟨row, h1, h2⟩ => ⟨_, rfl, row, h1, h2⟩⟩
theorem retF_val : retW false F (.val d) Γ = F (.val d) [] := propext ⟨fun ⟨r', h, h1⟩ => by cases h; exact h1, fun h1 => ⟨_, rfl, h1⟩⟩
theorem retF_new : retW false F (.new ds) Γ = F (.new ds) [] := propext ⟨fun ⟨r', h, h1⟩ => by cases h; exact h1, fun h1 => ⟨_, rfl, h1⟩⟩
theorem toN_own (h0 : ¬ (io = true ∧ i = 0)) (h : Γ[i]? = some (some (.own ds))) : toN io Γ (.slot i) = some (.new ds) := by simp only [toN, h0, if_false, h]
theorem toN_shr (h0 : ¬ (io = true ∧ i = 0)) (h : Γ[i]? = some (some (.shr d))) : toN io Γ (.slot i) = some (.val d) := by simp only [toN, h0, if_false, h]
def retM (o : Option (Option En)) (k : R → Prop) (_ : Tg k := ⟨⟩) : Prop := match o with
  | some (some (.shr d)) => k (.val d)
  | some (some (.own ds)) => k (.new ds)
  | _ => False
theorem retM_shr {kr : R → Prop} : retM (some (some (.shr d))) kr = kr (.val d) := rfl
theorem retM_own {kr : R → Prop} : retM (some (some (.own ds))) kr = kr (.new ds) := rfl
theorem retF_slot : retW false F (.slot i) Γ = retM Γ[i]? fun r => F r [] := by
  unfold retW retM
  have h0 : ¬ (false = true ∧ i = 0) := fun z => by cases z.1
  rcases q : Γ[i]? with _ | _ | (d | ds)
  · exact propext ⟨fun ⟨d, e, h⟩ => (by simp only [toN, q, h0, if_false] at e; cases e), fun h => h.elim⟩
  · exact propext ⟨fun ⟨d, e, h⟩ => (by simp only [toN, q, h0, if_false] at e; cases e), fun h => h.elim⟩
  · exact propext ⟨fun ⟨d, e, h⟩ => (by simp only [toN, q, h0, if_false] at e; cases e; exact h), fun h => ⟨_, by simp only [toN, q, h0, if_false], h⟩⟩
  · exact propext ⟨fun ⟨d, e, h⟩ => (by simp only [toN, q, h0, if_false] at e; cases e; exact h), fun h => ⟨_, by simp only [toN, q, h0, if_false], h⟩⟩
theorem retT_slot : retW true F (.slot (i + 1)) Γ = retM Γ[i + 1]? fun r => ownR Γ 0 fun row => F r row := by
  unfold retW retM ownR
  have h0 : ¬ (true = true ∧ i + 1 = 0) := fun z => by cases z.2
  rcases q : Γ[i + 1]? with _ | _ | (d | ds)
  · exact propext ⟨fun ⟨d, e, h⟩ => (by simp only [toN, q, h0, if_false] at e; cases e), fun h => h.elim⟩
  · exact propext ⟨fun ⟨d, e, h⟩ => (by simp only [toN, q, h0, if_false] at e; cases e), fun h => h.elim⟩
  · exact propext ⟨fun ⟨d, e, h⟩ => (by rw [toN_shr h0 q] at e; cases e; exact h), fun h => ⟨_, toN_shr h0 q, h⟩⟩
  · exact propext ⟨fun ⟨d, e, h⟩ => (by rw [toN_own h0 q] at e; cases e; exact h), fun h => ⟨_, toN_own h0 q, h⟩⟩
theorem put_val' : putW n (.val d) Γ k = goR k (Γ.set n (some (.shr d))) := rfl
theorem put_new' : putW n (.new ds) Γ k = goR k (Γ.set n (some (.own ds))) := rfl
theorem put_slot : putW i (.slot j) Γ k = frzM Γ[j]? j Γ fun d Γ1 => goR k (Γ1.set i (some (.shr d))) := frzR_slot (Γ := Γ) (n := j) (kg := fun d Γ1 => k (Γ1.set i (some (.shr d))))
end
section
variable {Γ : Gm} {d e : D} {ds xs ys : List D} {i j : Int} {n : Nat} {Ψ : R → Prop} {Ψb : Bool → Prop} {f : Int → Int → Int} {C : Int → Int → Prop} {x y : Str} {neg : Bool}
theorem I_ap : dI C f (.int i) (.int j) Ψ = sideR (C i j) (Ψ (.val (.int (f i j)))) := I_int
theorem dx_lst : dIx (.lst ds) (.int i) Ψ = atR ds i fun z => Ψ (.val z) := ix_lst
theorem dx_scr : dIx (.scr ds) (.int i) Ψ = atR ds i fun z => Ψ (.val z) := ix_scr
theorem dx_tup : dIx (.tup ds) (.int i) Ψ = atR ds i fun z => Ψ (.val z) := ix_tup
theorem dx_str : dIx (.str x) (.int i) Ψ = sideR (x.length ≤ sizeLine) (chM (atI x.cps.toList i) fun c => Ψ (.val (.str ⟨#[c]⟩))) := ix_str
theorem dlen_str : dLenS [.str x] Ψ = sideR (x.length ≤ sizeLine) (Ψ (.val (.int (x.length : Nat)))) := len_str
theorem din_tup : bIn neg d (.tup ds) Ψb = sideR (d.flat = true ∧ ds.all D.flat = true) (Ψb (if neg then !inV d.v (ds.map D.v) else inV d.v (ds.map D.v))) := by rw [in_tup]; unfold sideR; rw [and_assoc]
theorem din_lst : bIn neg d (.lst ds) Ψb = sideR (d.flat = true ∧ ds.all D.flat = true) (Ψb (if neg then !inV d.v (ds.map D.v) else inV d.v (ds.map D.v))) := by rw [in_lst]; unfold sideR; rw [and_assoc]
theorem daddS : dAddS (.str x) (.str y) Ψ = sideR (x.length + y.length ≤ sizeLine) (Ψ (.val (.str (x ++ y)))) := addS_str
theorem dcat : dCat (.lst xs) (.lst ys) Ψ = sideR (xs.length + ys.length ≤ sizeLine) (Ψ (.new (xs ++ ys))) := cat_lst
theorem dsl_str {lo hi : Option Int} : dSlS (.str x) lo hi Ψ = sideR (x.length ≤ sizeLine) (Ψ (.val (.str (cutS x lo hi)))) := sl_str'
theorem isi_ap {T : String} : dIsi [d, .ty T] Ψ = boM (d.isi T) fun b => Ψ (.val (.bl b)) := isi_eq
theorem deq_ap {f : Bool → Bool} : bEq f d e Ψb = sideR ((∃ n, n ≤ 60 ∧ Dep n d) ∧ ∃ n, n ≤ 60 ∧ Dep n e) (Ψb (f (deq d e))) := by
  unfold bEq sideR
  rw [and_assoc]
theorem dneg_int : dNeg (.int i) Ψ = Ψ (.val (.int (-i))) := neg_int
theorem dStrI_ap : dStrI [.int i] Ψ = sideR (i.natAbs.log2 < 1920) (Ψ (.val (.str (toString i)))) := propext ⟨fun ⟨_, e, h⟩ => by cases e; exact h, fun h => ⟨_, rfl, h⟩⟩
theorem dInt1_bl {b : Bool} : dInt1 [.bl b] Ψ = Ψ (.val (.int (if b then 1 else 0))) := propext ⟨fun h => by rcases h with ⟨_, e, _⟩ | ⟨_, e, h⟩ <;> cases e; exact h, fun h => .inr ⟨_, rfl, h⟩⟩
theorem dInt1_int : dInt1 [.int i] Ψ = Ψ (.val (.int i)) := propext ⟨fun h => by rcases h with ⟨_, e, h⟩ | ⟨_, e, _⟩ <;> cases e; exact h, fun h => .inl ⟨_, rfl, h⟩⟩
theorem dtuple_lst : dTuple [.lst ds] Ψ = Ψ (.val (.tup ds)) := propext ⟨fun ⟨_, _, e, e1, h⟩ => by cases e; rcases e1 with e1 | e1 <;> cases e1; exact h, fun h => ⟨_, _, rfl, .inl rfl, h⟩⟩
theorem dtuple_tup : dTuple [.tup ds] Ψ = Ψ (.val (.tup ds)) := propext ⟨fun ⟨_, _, e, e1, h⟩ => by cases e; rcases e1 with e1 | e1 <;> cases e1; exact h, fun h => ⟨_, _, rfl, .inr rfl, h⟩⟩
end
theorem isi_int_int (i : Int) : D.isi (.int i) "int" = some true := rfl
theorem isi_int_bool (i : Int) : D.isi (.int i) "bool" = some false := rfl
theorem isi_int_str (i : Int) : D.isi (.int i) "str" = some false := rfl
theorem isi_int_tuple (i : Int) : D.isi (.int i) "tuple" = some false := rfl
theorem isi_bl_int (i : Bool) : D.isi (.bl i) "int" = some true := rfl
theorem isi_bl_bool (i : Bool) : D.isi (.bl i) "bool" = some true := rfl
theorem isi_bl_str (i : Bool) : D.isi (.bl i) "str" = some false := rfl
theorem isi_bl_tuple (i : Bool) : D.isi (.bl i) "tuple" = some false := rfl
theorem isi_str_int (i : Str) : D.isi (.str i) "int" = some false := rfl
theorem isi_str_bool (i : Str) : D.isi (.str i) "bool" = some false := rfl
theorem isi_str_str (i : Str) : D.isi (.str i) "str" = some true := rfl
theorem isi_str_tuple (i : Str) : D.isi (.str i) "tuple" = some false := rfl
theorem isi_lst (i : List D) : D.isi (.lst i) "list" = some true := rfl
theorem isi_tup (i : List D) : D.isi (.tup i) "tuple" = some true := rfl
theorem v_int (i : Int) : D.v (.int i) = .int i := rfl
theorem v_str (i : Str) : D.v (.str i) = .str i := rfl
theorem v_bl (i : Bool) : D.v (.bl i) = .bl i := rfl
theorem v_non : D.v .non = .non := rfl
theorem fl_int (i : Int) : D.flat (.int i) = true := rfl
theorem fl_str (i : Str) : D.flat (.str i) = true := rfl
theorem fl_bl (i : Bool) : D.flat (.bl i) = true := rfl
theorem fl_non : D.flat .non = true := rfl
theorem ixN_0 {n : Nat} : ixN (n + 1) 0 = some 0 := by unfold ixN; rw [if_pos (by decide), if_pos (by omega)]; rfl
theorem ixN_1 {n : Nat} : ixN (n + 2) 1 = some 1 := by unfold ixN; rw [if_pos (by decide), if_pos (by omega)]; rfl
theorem ixN_2 {n : Nat} : ixN (n + 3) 2 = some 2 := by unfold ixN; rw [if_pos (by decide), if_pos (by omega)]; rfl
end Dt
set_option Elab.async false
set_option linter.all false
set_option maxRecDepth 100000
set_option maxHeartbeats 4000000
namespace Law
open PySem L2 Kx Dt
local macro_rules | `(tactic| walk_at "ev") => `(tactic| (try simp only [↓seq_ap, ↓next_ap, ↓brk_ap, ↓cnt_ap, ↓drop_ap, ↓ret_ap, ↓retN_ap, ↓ifS_ap, ↓set_ap, ↓asg_ap, ↓putAt_ap, ↓par_ap, ↓aug_ap, ↓augAt_ap, ↓C_ap, ↓op_ap, ↓un_ap, ↓B_ap, ↓cmp_ap, ↓not_ap, ↓and_ap, ↓or_ap, ↓if_ap, ↓andV_ap, ↓orV_ap, ↓notV_ap, ↓chain_ap, ↓nil_ap, ↓cons_ap, ↓cb_ap, ↓tup_ap, ↓lst_ap, ↓call_ap, ↓callF, ↓callT, ↓sl_ap, ↓noP_ap, ↓prt_ap, ↓m1_ap, ↓rev_ap, ↓clr_ap, ↓app_ap, ↓gN_ap, ↓gT_ap, ↓g0_ap, ↓g1_ap, ↓il_ap, ↓it_ap, ↓ir1_ap, ↓ir2_ap, ↓is_ap, ↓ie_ap, ↓iz_ap, ↓for_ap, ↓lc_ap, ↓lcO_ap, ↓var_ap, ↓end_rt, ↓end_nx, ↓retT_val, ↓retT_new, ↓retT_slot, ↓retF_val, ↓retF_new, ↓retF_slot, ↓getR_val, ↓getR_new, ↓getR_slot, ↓blR_val, ↓intR_val, ↓strR_val, ↓frzR_val, ↓frzR_new, ↓frzR_slot, ↓atsR_nil, ↓atsR_cons, ↓frzLR_nil, ↓frzLR_cons, ↓ownR_ap, ↓shrR_ap, ↓anyR_ap, ↓ixR_ap, ↓atR_ap, ↓iteR_true, ↓iteR_false, ↓sideR_true, ↓put_val', ↓put_new', ↓put_slot, ↓I0_int, ↓I_ap, ↓B_int, ↓bod_eq, ↓sc_int, ↓sc_str, ↓sc_bl, ↓dx_lst, ↓dx_scr, ↓dx_tup, ↓dx_str, ↓len_lst, ↓len_tup, ↓len_scr, ↓dlen_str, ↓one_int, ↓two_int, ↓isi_ap, ↓din_tup, ↓din_lst, ↓daddS, ↓dcat, ↓dneg_int, ↓list_lst, ↓list_tup, ↓dtuple_lst, ↓dtuple_tup, ↓sl_lst, ↓dsl_str, ↓isN_non, ↓deq_ap, ↓dStrI_ap, ↓dInt1_bl, ↓dInt1_int, startT, startF, goR_ap, varM_shr, varM_own, getM_shr, getM_own, frzM_shr, frzM_own, ownM_own, shrM_shr, anyM_some, ixM_some, atM_some, boM_some, retM_shr, retM_own, isi_int_int, isi_int_bool, isi_int_str, isi_int_tuple, isi_bl_int, isi_bl_bool, isi_bl_str, isi_bl_tuple, isi_str_int, isi_str_bool, isi_str_str, isi_str_tuple, isi_lst, isi_tup, v_int, v_str, v_bl, v_non, fl_int, fl_str, fl_bl, fl_non, List.all_cons, List.all_nil, Bool.and_self, end_xe, hold_val, hold_new, hold_slot, ix0, ix1, ix2, ixN_0, ixN_1, ixN_2, List.map_cons, List.map_nil, List.length_cons, List.length_nil, List.cons_append, List.nil_append, List.replicate_succ, List.replicate_zero, List.getElem?_cons_zero, List.getElem?_cons_succ, List.getElem?_nil, List.set_cons_zero, List.set_cons_succ, List.set_nil, and_true, true_and, reduceIte, reduceCtorEq, Bool.false_eq_true, Bool.not_true, Bool.not_false, if_true, if_false, Nat.zero_add, Nat.reduceAdd, Nat.reduceSub, wipeG, rstG]))
local macro_rules | `(tactic| walk_at "side") => `(tactic| first
  | assumption
  | exact ⟨by decide, by decide, by decide⟩
  | exact ⟨by decide, by decide⟩
  | (show (0 : Int) < _; decide)
  | (show (0 : Int) < _; omega)
  | exact Or.inr (Or.inr ⟨by omega, by omega⟩)
  | exact Or.inr (Or.inl ⟨by omega, by omega⟩)
  | exact ⟨by omega, Bd.mono (n := 8000) (m := 400) (by unfold Bd; omega) (by decide)⟩
  | exact ⟨by omega, by omega⟩
  | exact Nat.le_trans (m := 1000) (by simp) (by decide)
  | (show _ ≤ 16777216; omega)
  | rfl
  | decide)
local macro_rules | `(tactic| walk_at "sd") => `(tactic| (refine sideR_by (by walk_at "side") fun _ => ?_; walk_at "ev"))

def top (i : Nat) : Stmt := PySem.Challenge.pw_chartscribe_k34_where_bands_begin.main.body.getD i (.Pass ⟨0, 0, 0, 0⟩)
def lanes (k : Str) (n : Int) : Int := if k = "bars" ∨ k = "lines" then n else 1
def wf_count_lanes : WF := fun ds row Ψ Ξ => ∃ (k : Str) (n : Int), ds = [.str k, .int n] ∧ Ψ (.val (.int (lanes k n))) []
def startsF (k : Str) (wd : Int) (b : Nat) (s : Int) : List Int := (List.range b).map fun i : Nat => (i : Int) * (lanes k s * wd + 1)
def wf_starts_of : WF := fun ds row Ψ Ξ => ∃ (k : Str) (wd : Int) (b : Nat) (s : Int), ds = [.str k, .int wd, .int b, .int s] ∧ 0 ≤ wd ∧ wd ≤ 100 ∧ 0 ≤ s ∧ s ≤ 100 ∧ b ≤ 1000 ∧ Ψ (.new ((startsF k wd b s).map .int)) []
def wf_law : WF := fun ds row Ψ Ξ => ∃ ns : List Int, ds = [.scr (ns.map .int)] ∧ ns.length ≤ 63 ∧ Ψ (.val (.bl true)) []
theorem inV_two (k a b : Str) : inV (V.str k) [V.str a, V.str b] = decide (k = a ∨ k = b) := by
  unfold inV
  simp only [List.any_cons, List.any_nil, eqV, Bool.or_false]
  rw [Bool.decide_or]
  congr 1 <;> (rw [Bool.eq_iff_iff]; simp only [beq_iff_eq, decide_eq_true_eq]; exact ⟨Eq.symm, Eq.symm⟩)
def prog (c : Int) (n : Nat) : List D := ((List.range n).map fun i : Nat => (i : Int) * c).map D.int
theorem prog_succ (c : Int) (n : Nat) : prog c (n + 1) = prog c n ++ [D.int ((n : Int) * c)] := by
  unfold prog
  rw [List.range_succ, List.map_append, List.map_append]
  rfl
theorem prog_len (c : Int) (n : Nat) : (prog c n).length = n := by simp [prog]
theorem prog_dep (c : Int) (n : Nat) : Dep 1 (.lst (prog c n)) := .lst fun x hx => by
  obtain ⟨z, _, rfl⟩ := List.mem_map.mp hx
  exact .int _
theorem prog_any (c : Int) (n : Nat) : (prog c n).map (fun _ => D.bl false) = (List.replicate n false).map D.bl := by
  unfold prog
  rw [List.map_map, List.map_map, List.map_replicate]
  refine List.eq_replicate_iff.mpr ⟨by simp, fun b hb => ?_⟩
  obtain ⟨_, _, rfl⟩ := List.mem_map.mp hb
  rfl
def mulD (c : Int) : D → D
  | .int z => .int (z * c)
  | d => d
theorem starts_map (k : Str) (wd : Int) (b : Nat) (s : Int) : (rng 0 b).map (mulD (lanes k s * wd + 1)) = (startsF k wd b s).map .int := by
  unfold rng startsF
  rw [List.map_map, List.map_map]
  refine List.map_congr_left fun i _ => ?_
  simp [mulD]
def w_count_lanes : WS := (wRet (wIf (wCmp (bIn false) (wVar 0) (wC (.tup [.str "bars", .str "lines"]))) (wVar 1) (wC (.int 1))))
theorem d_count_lanes : ∀ ds row Ψ Ξ, wf_count_lanes ds row Ψ Ξ → goR (w_count_lanes (endsW false Ψ fun _ => False)) (startW false 2 ds row) := by
  rintro ds row Ψ Ξ ⟨k, n, rfl, q⟩
  unfold w_count_lanes
  walk_at "ev"
  unfold lanes at q
  rw [inV_two]
  refine iteR_by (fun h => ?_) (fun h => ?_)
  · rw [if_pos (of_decide_eq_true h)] at q
    walk_at "ev"
    exact q
  · rw [if_neg (of_decide_eq_false h)] at q
    walk_at "ev"
    exact q
abbrev s_count_lanes : Stmt := top 2
theorem sc_count_lanes : FnScope ["kind", "series"] ["kind", "series"] (defScope s_count_lanes) := ⟨rfl, rfl, rfl, by decide +kernel, rfl, by decide +kernel, by decide +kernel⟩
theorem ok_count_lanes {P : Program} {w : World} {K : PySem.W.Frag} {mg : Str → Option Value} {base : Heap} {ts : List Addr} {a_SIDE_BY_SIDE : Addr} {f : Addr} {fd : FuncData} (F : Fun K "count_lanes" "count_lanes" s_count_lanes f fd)   (m_SIDE_BY_SIDE : mg "SIDE_BY_SIDE" = some (.ref a_SIDE_BY_SIDE)) (q_SIDE_BY_SIDE : StT K a_SIDE_BY_SIDE [.str "bars", .str "lines"]) : FnOk P w K mg base (CXE P w) 1 f fd ["kind", "series"] (spD ⟨K, ts⟩ false wf_count_lanes) := by
  have nd := (sc_count_lanes).nd
  refine fn_d F sc_count_lanes (by decide) (fun ds row Ψ Ξ h => by first | (obtain ⟨rfl, _⟩ := h; rfl) | (obtain ⟨_, rfl, _⟩ := h; rfl) | (obtain ⟨_, _, rfl, _⟩ := h; rfl) | (obtain ⟨_, _, _, rfl, _⟩ := h; rfl) | (obtain ⟨_, _, _, _, rfl, _⟩ := h; rfl) | (obtain ⟨_, _, _, _, _, rfl, _⟩ := h; rfl) | (obtain ⟨_, _, _, _, _, _, rfl, _⟩ := h; rfl) | (obtain ⟨_, _, _, _, _, _, _, rfl, _⟩ := h; rfl) | (obtain ⟨_, _, _, _, _, _, _, _, rfl, _⟩ := h; rfl)) d_count_lanes (fun cdv A outer s H E hr => ⟨_, (q_s1 (q_ret (q_if (q_cmpT (op_inK (by rfl)) bd_in (q_v 0 (pv 0)) (q_glob (pe_glob (v := .ref a_SIDE_BY_SIDE) (by rfl) m_SIDE_BY_SIDE rfl) (StT.rep q_SIDE_BY_SIDE (fun _ => (.cons (.str _) (.cons (.str _) .nil))))) (by rfl)) (q_v 1 (pv 1)) q_int)))⟩)
def w_starts_of : WS := (wSeq (wSet 4 (wOp dMul (wCall false wf_count_lanes (wACons (wVar 0) (wACons (wVar 3) wANil))) (wVar 1)))
  (wRet (wLc (wIRng1 (wACons (wVar 2) wANil)) (wgName 5) (fun Γ Ψ _ => Ψ true Γ) (wOp dMul (wVar 5) (wOp dAdd (wVar 4) (wC (.int 1)))) [5])))
theorem d_starts_of : ∀ ds row Ψ Ξ, wf_starts_of ds row Ψ Ξ → goR (w_starts_of (endsW false Ψ fun _ => False)) (startW false 6 ds row) := by
  rintro ds row Ψ Ξ ⟨k, wd, b, s, rfl, h1, h2, h3, h4, h5, q⟩
  unfold w_starts_of
  walk_at "ev"
  refine ⟨k, s, rfl, ?_⟩
  have hl : 0 ≤ lanes k s ∧ lanes k s ≤ 100 := by unfold lanes; split <;> omega
  walk_at "ev"
  walk_at "sd"
  walk_at "ev"
  walk_at "sd"
  refine lcB_map (mulD (lanes k s * wd + 1)) (by rw [rng_length]; exact Nat.le_trans (m := 1000) (by simpa using h5) (by decide)) (fun d hd kk hk => ?_) ?_
  · obtain ⟨i, hi, rfl⟩ := List.mem_map.mp hd
    have hi := List.mem_range.mp hi
    walk_at "ev"
    walk_at "sd"
    walk_at "ev"
    exact hk
  · rw [show ((b : Int).toNat) = b by omega, starts_map]
    walk_at "ev"
    exact q
abbrev s_starts_of : Stmt := top 3
theorem sc_starts_of : FnScope ["kind", "width", "bands", "series", "band_width", "at"] ["kind", "width", "bands", "series"] (defScope s_starts_of) := ⟨rfl, rfl, rfl, by decide +kernel, rfl, by decide +kernel, by decide +kernel⟩
theorem ok_starts_of {P : Program} {w : World} {K : PySem.W.Frag} {mg : Str → Option Value} {base : Heap} {ts : List Addr} {f : Addr} {fd : FuncData} (F : Fun K "starts_of" "starts_of" s_starts_of f fd) (C_count_lanes : Cal P w K mg base (CXE P w) 1 "count_lanes" ["kind", "series"] (spD ⟨K, ts⟩ false wf_count_lanes)) (z_range : mg "range" = none) : FnOk P w K mg base (CXE P w) 2 f fd ["kind", "width", "bands", "series"] (spD ⟨K, ts⟩ false wf_starts_of) := by
  have nd := (sc_starts_of).nd
  refine fn_d F sc_starts_of (by decide) (fun ds row Ψ Ξ h => by first | (obtain ⟨rfl, _⟩ := h; rfl) | (obtain ⟨_, rfl, _⟩ := h; rfl) | (obtain ⟨_, _, rfl, _⟩ := h; rfl) | (obtain ⟨_, _, _, rfl, _⟩ := h; rfl) | (obtain ⟨_, _, _, _, rfl, _⟩ := h; rfl) | (obtain ⟨_, _, _, _, _, rfl, _⟩ := h; rfl) | (obtain ⟨_, _, _, _, _, _, rfl, _⟩ := h; rfl) | (obtain ⟨_, _, _, _, _, _, _, rfl, _⟩ := h; rfl) | (obtain ⟨_, _, _, _, _, _, _, _, rfl, _⟩ := h; rfl)) d_starts_of (fun cdv A outer s H E hr => ⟨_, (q_sc (q_set (i := 4) nd rfl (Or.inr rfl) (q_op op_mulB od_mul (q_call C_count_lanes hr passE0 (q_cons (q_v 0 (pv 0)) (q_cons (q_v 3 (pv 3)) q_nil (by rfl)) (by rfl)) (by rfl) (by decide) (by decide) (by rfl)) (q_v 1 (pv 1))) (Or.inl (by decide)) (by rfl) (by first | exact .inl rfl | exact .inr rfl))
      (q_s1 (q_ret (q_lc (own := [("at", 5)]) (by rfl) nd (q_ir1 (by rfl) z_range (q_cons (q_v 2 (pv 2)) q_nil (by rfl)) (by rfl)) (blkOk_by (own := [("at", 5)]) (N := ["kind", "width", "bands", "series", "band_width", "at"]) (sc := defScope s_starts_of) (by decide +kernel)) (fun _ _ _ _ _ => (q_cn (i := 5) (pg_name nd rfl (Or.inl rfl)) (by decide))) (fun _ _ _ _ _ => q_t0) (fun _ _ _ _ _ => (q_op op_mulB od_mul (q_v 5 (pv 5)) (q_op op_add od_add (q_v 4 (pv 4)) q_int))) (fun _ => rfl)))))⟩)
def w__law_cell_at : WS := (wSeq (wIfS (wCmp bLt (wVar 1) (wCB dLen (wACons (wVar 0) wANil))) (wRet (wOp dIx (wVar 0) (wVar 1))) wNext)
  (wRet (wC (.int 0))))
theorem d__law_cell_at : ∀ ds row Ψ Ξ, wf__law_cell_at ds row Ψ Ξ → goR (w__law_cell_at (endsW false Ψ fun _ => False)) (startW false 2 ds row) := by
  rintro ds row Ψ Ξ ⟨ns, k, rfl, h0, q⟩
  unfold w__law_cell_at
  walk_at "ev"
  refine iteR_by (fun h => ?_) (fun h => ?_)
  rotate_left
  · walk_at "ev"
    exact q 0
  have h := of_decide_eq_true h
  walk_at "ev"
  obtain ⟨z, hz, ha⟩ := at_in (ds := ns.map D.int) h0 h
  obtain ⟨v, _, rfl⟩ := List.mem_map.mp hz
  refine ⟨_, ha, ?_⟩
  walk_at "ev"
  exact q v
abbrev s__law_cell_at : Stmt := top 5
theorem sc__law_cell_at : FnScope ["_law_script", "_law_k"] ["_law_script", "_law_k"] (defScope s__law_cell_at) := ⟨rfl, rfl, rfl, by decide +kernel, rfl, by decide +kernel, by decide +kernel⟩
theorem ok__law_cell_at {P : Program} {w : World} {K : PySem.W.Frag} {mg : Str → Option Value} {base : Heap} {ts : List Addr} {f : Addr} {fd : FuncData} (F : Fun K "_law_cell_at" "_law_cell_at" s__law_cell_at f fd)  (z_len : mg "len" = none) : FnOk P w K mg base (CXE P w) 1 f fd ["_law_script", "_law_k"] (spD ⟨K, ts⟩ false wf__law_cell_at) := by
  have nd := (sc__law_cell_at).nd
  refine fn_d F sc__law_cell_at (by decide) (fun ds row Ψ Ξ h => by first | (obtain ⟨rfl, _⟩ := h; rfl) | (obtain ⟨_, rfl, _⟩ := h; rfl) | (obtain ⟨_, _, rfl, _⟩ := h; rfl) | (obtain ⟨_, _, _, rfl, _⟩ := h; rfl) | (obtain ⟨_, _, _, _, rfl, _⟩ := h; rfl) | (obtain ⟨_, _, _, _, _, rfl, _⟩ := h; rfl) | (obtain ⟨_, _, _, _, _, _, rfl, _⟩ := h; rfl) | (obtain ⟨_, _, _, _, _, _, _, rfl, _⟩ := h; rfl) | (obtain ⟨_, _, _, _, _, _, _, _, rfl, _⟩ := h; rfl)) d__law_cell_at (fun cdv A outer s H E hr => ⟨_, (q_sc (q_ifS (q_cmpT op_lt bd_lt (q_v 1 (pv 1)) (q_cB (call_lenK (by rfl)) cd_len (by rfl) z_len (by decide +kernel) (q_cons (q_v 0 (pv 0)) q_nil (by rfl)) (by decide) (by decide) (by rfl)) (nomark _)) (q_s1 (q_ret (q_ix (ix_seqK (by rfl)) od_ix (q_v 0 (pv 0)) (q_v 1 (pv 1)) (fun _ _ => rfl)))) q_s0)
      (q_s1 (q_ret q_int)))⟩)
def w__law_take : WS := (wSeq (wPutAt 0 (wOp dAdd (wOp dIx (wVar 0) (wC (.int 1))) (wC (.int 1))) (wC (.int 1)))
  (wSeq (wIfS (wCmp bGe (wOp dIx (wVar 0) (wC (.int 0))) (wOp dPow (wC (.int 10)) (wC (.int 18)))) (wSeq (wSet 2 (wOp dSub (wOp dIx (wVar 0) (wC (.int 0))) (wOp dPow (wC (.int 10)) (wC (.int 18)))))
  (wSeq (wPutAt 0 (wOp dAdd (wOp dPow (wC (.int 10)) (wC (.int 18))) (wOp dDiv (wVar 2) (wVar 1))) (wC (.int 0)))
  (wRet (wOp dMod (wVar 2) (wVar 1))))) wNext)
  (wSeq (wSet 3 (wOp dMod (wOp dAdd (wOp dAdd (wOp dAdd (wOp dMul (wOp dIx (wVar 0) (wC (.int 0))) (wC (.int 40692))) (wOp dMul (wOp dMul (wC (.int 104729)) (wOp dIx (wVar 0) (wC (.int 1)))) (wOp dIx (wVar 0) (wC (.int 1))))) (wOp dMul (wC (.int 31)) (wOp dIx (wVar 0) (wC (.int 1))))) (wC (.int 5))) (wC (.int 2147483399))))
  (wSeq (wSet 3 (wOp dMod (wOp dAdd (wOp dAdd (wOp dMul (wVar 3) (wVar 3)) (wOp dMul (wC (.int 48271)) (wVar 3))) (wOp dIx (wVar 0) (wC (.int 1)))) (wC (.int 2147483647))))
  (wRet (wOp dMod (wOp dDiv (wVar 3) (wC (.int 7))) (wVar 1)))))))
theorem d__law_take : ∀ ds row Ψ Ξ, wf__law_take ds row Ψ Ξ → goR (w__law_take (endsW true Ψ fun _ => False)) (startW true 4 ds row) := by
  rintro ds row Ψ Ξ ⟨b, N, rfl, ⟨a, n, rfl, h0, h1⟩, hN, hb0, hb1, q⟩
  unfold w__law_take
  walk_at "ev"
  walk_at "sd"
  refine iteR_by (fun h => ?_) (fun h => ?_)
  · walk_at "ev"
    repeat walk_at "sd"
    exact q _ _ (Int.emod_nonneg _ (by omega)) (Int.emod_lt_of_pos _ hb0) ⟨_, _, rfl, by omega, by omega⟩
  · walk_at "ev"
    repeat walk_at "sd"
    exact q _ _ (Int.emod_nonneg _ (by omega)) (Int.emod_lt_of_pos _ hb0) ⟨_, _, rfl, by omega, by omega⟩
abbrev s__law_take : Stmt := top 6
theorem sc__law_take : FnScope ["_law_row", "_law_base", "_law_rest", "_law_number"] ["_law_row", "_law_base"] (defScope s__law_take) := ⟨rfl, rfl, rfl, by decide +kernel, rfl, by decide +kernel, by decide +kernel⟩
theorem ok__law_take {P : Program} {w : World} {K : PySem.W.Frag} {mg : Str → Option Value} {base : Heap} {ts : List Addr} {f : Addr} {fd : FuncData} (F : Fun K "_law_take" "_law_take" s__law_take f fd)   : FnOk P w K mg base (CXE P w) 1 f fd ["_law_row", "_law_base"] (spD ⟨K, ts⟩ true wf__law_take) := by
  have nd := (sc__law_take).nd
  refine fn_d F sc__law_take (by decide) (fun ds row Ψ Ξ h => by first | (obtain ⟨rfl, _⟩ := h; rfl) | (obtain ⟨_, rfl, _⟩ := h; rfl) | (obtain ⟨_, _, rfl, _⟩ := h; rfl) | (obtain ⟨_, _, _, rfl, _⟩ := h; rfl) | (obtain ⟨_, _, _, _, rfl, _⟩ := h; rfl) | (obtain ⟨_, _, _, _, _, rfl, _⟩ := h; rfl) | (obtain ⟨_, _, _, _, _, _, rfl, _⟩ := h; rfl) | (obtain ⟨_, _, _, _, _, _, _, rfl, _⟩ := h; rfl) | (obtain ⟨_, _, _, _, _, _, _, _, rfl, _⟩ := h; rfl)) d__law_take (fun cdv A outer s H E hr => ⟨_, (q_sc (q_putAt (pv 0) (q_op op_add od_add (q_ix (ix_seqK (by rfl)) od_ix (q_v 0 (pv 0)) q_int (fun _ _ => rfl)) q_int) q_int (by rfl) (by rfl) (by rfl) (by intro _; rfl))
      (q_sc (q_ifS (q_cmpT op_ge bd_ge (q_ix (ix_seqK (by rfl)) od_ix (q_v 0 (pv 0)) q_int (fun _ _ => rfl)) (q_op op_pow od_pow q_int q_int) (nomark _)) (q_sc (q_set (i := 2) nd rfl (Or.inl rfl) (q_op op_sub od_sub (q_ix (ix_seqK (by rfl)) od_ix (q_v 0 (pv 0)) q_int (fun _ _ => rfl)) (q_op op_pow od_pow q_int q_int)) (Or.inl (by decide)) (by rfl) (by first | exact .inl rfl | exact .inr rfl))
      (q_sc (q_putAt (pv 0) (q_op op_add od_add (q_op op_pow od_pow q_int q_int) (q_op op_fdivP od_div (q_v 2 (pv 2)) (q_v 1 (pv 1)))) q_int (by rfl) (by rfl) (by rfl) (by intro _; rfl))
      (q_s1 (q_ret (q_op op_mod od_mod (q_v 2 (pv 2)) (q_v 1 (pv 1))))))) q_s0)
      (q_sc (q_set (i := 3) nd rfl (Or.inl rfl) (q_op op_mod od_mod (q_op op_add od_add (q_op op_add od_add (q_op op_add od_add (q_op op_mulB od_mul (q_ix (ix_seqK (by rfl)) od_ix (q_v 0 (pv 0)) q_int (fun _ _ => rfl)) q_int) (q_op op_mulB od_mul (q_op op_mulB od_mul q_int (q_ix (ix_seqK (by rfl)) od_ix (q_v 0 (pv 0)) q_int (fun _ _ => rfl))) (q_ix (ix_seqK (by rfl)) od_ix (q_v 0 (pv 0)) q_int (fun _ _ => rfl)))) (q_op op_mulB od_mul q_int (q_ix (ix_seqK (by rfl)) od_ix (q_v 0 (pv 0)) q_int (fun _ _ => rfl)))) q_int) q_int) (Or.inl (by decide)) (by rfl) (by first | exact .inl rfl | exact .inr rfl))
      (q_sc (q_set (i := 3) nd rfl (Or.inl rfl) (q_op op_mod od_mod (q_op op_add od_add (q_op op_add od_add (q_op op_mulB od_mul (q_v 3 (pv 3)) (q_v 3 (pv 3))) (q_op op_mulB od_mul q_int (q_v 3 (pv 3)))) (q_ix (ix_seqK (by rfl)) od_ix (q_v 0 (pv 0)) q_int (fun _ _ => rfl))) q_int) (Or.inl (by decide)) (by rfl) (by first | exact .inl rfl | exact .inr rfl))
      (q_s1 (q_ret (q_op op_mod od_mod (q_op op_fdivP od_div (q_v 3 (pv 3)) q_int) (q_v 1 (pv 1)))))))))⟩)
def w_law : WS := (wSeq (wFor (wIRng1 (wACons (wC (.int 12)) wANil)) (wgName 1) (wSeq (wSet 2 (wLst (wACons (wCall false wf__law_cell_at (wACons (wVar 0) (wACons (wVar 1) wANil))) (wACons (wVar 1) wANil))))
  (wSeq (wSet 3 (wOp dIx (wLst (wACons (wC (.str "bars")) (wACons (wC (.str "stacks")) (wACons (wC (.str "shares")) (wACons (wC (.str "lines")) wANil))))) (wCall true wf__law_take (wACons (wVar 2) (wACons (wC (.int 4)) wANil)))))
  (wSeq (wSet 4 (wOp dAdd (wC (.int 1)) (wCall true wf__law_take (wACons (wVar 2) (wACons (wC (.int 6)) wANil)))))
  (wSeq (wSet 5 (wOp dAdd (wC (.int 1)) (wCall true wf__law_take (wACons (wVar 2) (wACons (wC (.int 12)) wANil)))))
  (wSeq (wSet 6 (wOp dAdd (wC (.int 1)) (wCall true wf__law_take (wACons (wVar 2) (wACons (wC (.int 4)) wANil)))))
  (wSeq (wSet 7 (wVar 6))
  (wSeq (wIfS (wCmp (bIn false) (wVar 3) (wTup (wACons (wC (.str "stacks")) (wACons (wC (.str "shares")) wANil)))) (wSet 7 (wC (.int 1))) wNext)
  (wSeq (wSet 8 (wLst (wACons (wC (.int 0)) wANil)))
  (wSeq (wWhile (wCmp bLt (wCB dLen (wACons (wVar 8) wANil)) (wVar 5)) (wDrop (wApp 8 (wOp dAdd (wOp dAdd (wOp dIx (wVar 8) (wUn dNeg (wC (.int 1)))) (wOp dMul (wVar 7) (wVar 4))) (wC (.int 1))))))
  (wSeq (wSet 9 (wCall false wf_starts_of (wACons (wVar 3) (wACons (wVar 4) (wACons (wVar 5) (wACons (wVar 6) wANil))))))
  (wSeq (wIfS (wOr (wNot (wB (wCB dIsi (wACons (wVar 9) (wACons (wC (.ty "list")) wANil))))) (wOr (wCmp (bEq not) (wVar 9) (wVar 8)) (wB (wCB dAny (wACons (wLcO 9 (wgName 10) (fun Γ Ψ _ => Ψ true Γ) (wCB dIsi (wACons (wVar 10) (wACons (wC (.ty "bool")) wANil))) [10]) wANil))))) (wRet (wC (.bl false))) wNext)
  (wSeq (wDrop (wRev 9))
  (wSeq (wDrop (wApp 9 (wC (.int 0))))
  (wIfS (wCmp (bEq not) (wCall false wf_starts_of (wACons (wVar 3) (wACons (wVar 4) (wACons (wVar 5) (wACons (wVar 6) wANil))))) (wVar 8)) (wRet (wC (.bl false))) wNext)))))))))))))))
  (wRet (wC (.bl true))))
theorem d_law : ∀ ds row Ψ Ξ, wf_law ds row Ψ Ξ → goR (w_law (endsW false Ψ fun _ => False)) (startW false 11 ds row) := by
  rintro ds row Ψ Ξ ⟨ns, rfl, hl, q⟩
  unfold w_law
  walk_at "ev"
  walk_at "sd"
  refine forB_by (fun i Γ => ∃ x1 x2 x3 x4 x5 x6 x7 x8 x9 x10, Γ = [some (En.shr (D.scr (List.map D.int ns))), x1, x2, x3, x4, x5, x6, x7, x8, x9, x10]) ⟨_, _, _, _, _, _, _, _, _, _, rfl⟩ ?_ ?_
  · rintro i Γ d hd ⟨x1, x2, x3, x4, x5, x6, x7, x8, x9, x10, rfl⟩
    obtain ⟨hi, rfl⟩ := rng_get hd
    walk_at "ev"
    refine ⟨ns, _, rfl, by omega, fun cell => ?_⟩
    walk_at "ev"
    repeat walk_at "sd"
    refine ⟨4, 12, rfl, ⟨_, _, rfl, by omega, by omega⟩, by decide, by decide, by decide, fun v1 row1 v10 v11 R1 => ?_⟩
    walk_at "ev"
    obtain ⟨z, hz, ha⟩ := at_in (ds := [D.str "bars", D.str "stacks", D.str "shares", D.str "lines"]) v10 v11
    obtain ⟨kd, hk, rfl⟩ : ∃ kd : Str, (kd = "bars" ∨ kd = "stacks" ∨ kd = "shares" ∨ kd = "lines") ∧ z = .str kd := by
      simp only [List.mem_cons, List.not_mem_nil, or_false] at hz
      rcases hz with rfl | rfl | rfl | rfl
      · exact ⟨_, .inl rfl, rfl⟩
      · exact ⟨_, .inr (.inl rfl), rfl⟩
      · exact ⟨_, .inr (.inr (.inl rfl)), rfl⟩
      · exact ⟨_, .inr (.inr (.inr rfl)), rfl⟩
    refine ⟨_, ha, ?_⟩
    walk_at "ev"
    refine ⟨6, 13, rfl, R1, by decide, by decide, by decide, fun v2 row2 v20 v21 R2 => ?_⟩
    walk_at "ev"
    refine ⟨12, 14, rfl, R2, by decide, by decide, by decide, fun v3 row3 v30 v31 R3 => ?_⟩
    walk_at "ev"
    refine ⟨4, 15, rfl, R3, by decide, by decide, by decide, fun v4 row4 v40 v41 R4 => ?_⟩
    walk_at "ev"
    walk_at "sd"
    rw [inV_two]
    have hl1 : lanes kd (1 + v4) = if kd = "stacks" ∨ kd = "shares" then 1 else 1 + v4 := by
      rcases hk with rfl | rfl | rfl | rfl <;> rfl
    refine iteR_by (fun h => ?_) (fun h => ?_)
    · rw [if_pos (of_decide_eq_true h)] at hl1
      walk_at "ev"
      walk_at "sd"
      have hcb : 0 ≤ 1 ∧ 1 ≤ 100 := by omega
      refine ⟨fun m Γ => ∃ j : Nat, j + m + 1 = (1 + v3).toNat ∧ Γ = [some (En.shr (D.scr (List.map D.int ns))), some (En.shr (D.int (0 + (i : Int)))), some (En.own row4), some (En.shr (D.str kd)), some (En.shr (D.int (1 + v2))), some (En.shr (D.int (1 + v3))), some (En.shr (D.int (1 + v4))), some (En.shr (D.int (1))), some (En.own (prog (1 * (1 + v2) + 1) (j + 1))), x9, x10], ⟨v3.toNat, 0, by omega, ?_⟩, ?_⟩
      · simp [prog]
      rintro m Γ ⟨j, hj, rfl⟩
      walk_at "ev"
      rw [prog_len]
      refine iteR_by (fun h => ?_) (fun h => ?_)
      · have h := of_decide_eq_true h
        walk_at "ev"
        rw [prog_succ]
        refine ⟨_, atI_last _ _, ?_⟩
        rw [← prog_succ]
        walk_at "ev"
        walk_at "sd"
        walk_at "ev"
        refine sideR_by (by rw [prog_len]; exact Nat.lt_of_lt_of_le (m := 100) (by omega) (by decide)) fun _ => ?_
        walk_at "ev"
        refine ⟨m - 1, by omega, j + 1, by omega, ?_⟩
        rw [prog_succ _ (j + 1)]
        rw [show ∀ X : Int, (j : Int) * (X + 1) + X + 1 = ((j + 1 : Nat) : Int) * (X + 1) from fun X => by rw [Int.natCast_add, Int.add_mul]; omega]
      · have h := of_decide_eq_false h
        have hj2 : j + 1 = (1 + v3).toNat := by omega
        rw [hj2]
        walk_at "ev"
        refine ⟨kd, _, (1 + v3).toNat, _, by rw [show (((1 + v3).toNat : Nat) : Int) = 1 + v3 by omega], by omega, by omega, by omega, by omega, by omega, ?_⟩
        rw [show (startsF kd (1 + v2) (1 + v3).toNat (1 + v4)).map D.int = prog (1 * (1 + v2) + 1) (1 + v3).toNat by unfold startsF prog; rw [hl1]]
        walk_at "ev"
        refine sideR_by ⟨⟨1, by decide, prog_dep _ _⟩, 1, by decide, prog_dep _ _⟩ fun _ => ?_
        walk_at "ev"
        rw [deq_refl (prog_dep _ _)]
        walk_at "ev"
        refine lcO_map (fun _ => D.bl false) (by rw [prog_len]; exact Nat.le_trans (m := 100) (by omega) (by decide)) rfl (fun d hd kk hk => ?_) ?_
        · obtain ⟨z, _, rfl⟩ := List.mem_map.mp hd
          walk_at "ev"
          exact hk
        walk_at "ev"
        rw [prog_any]
        refine ⟨_, rfl, ?_⟩
        have hany : (List.replicate (1 + v3).toNat false).any id = false := by simp
        walk_at "ev"
        rw [hany]
        walk_at "ev"
        refine sideR_by (by rw [List.length_reverse, prog_len]; exact Nat.lt_of_lt_of_le (m := 100) (by omega) (by decide)) fun _ => ?_
        walk_at "ev"
        refine ⟨kd, _, (1 + v3).toNat, _, by rw [show (((1 + v3).toNat : Nat) : Int) = 1 + v3 by omega], by omega, by omega, by omega, by omega, by omega, ?_⟩
        rw [show (startsF kd (1 + v2) (1 + v3).toNat (1 + v4)).map D.int = prog (1 * (1 + v2) + 1) (1 + v3).toNat by unfold startsF prog; rw [hl1]]
        walk_at "ev"
        refine sideR_by ⟨⟨1, by decide, prog_dep _ _⟩, 1, by decide, prog_dep _ _⟩ fun _ => ?_
        walk_at "ev"
        rw [deq_refl (prog_dep _ _)]
        walk_at "ev"
        exact ⟨_, _, _, _, _, _, _, _, _, _, rfl⟩
    · rw [if_neg (of_decide_eq_false h)] at hl1
      walk_at "ev"
      walk_at "sd"
      have hcb : 0 ≤ (1 + v4) ∧ (1 + v4) ≤ 100 := by omega
      refine ⟨fun m Γ => ∃ j : Nat, j + m + 1 = (1 + v3).toNat ∧ Γ = [some (En.shr (D.scr (List.map D.int ns))), some (En.shr (D.int (0 + (i : Int)))), some (En.own row4), some (En.shr (D.str kd)), some (En.shr (D.int (1 + v2))), some (En.shr (D.int (1 + v3))), some (En.shr (D.int (1 + v4))), some (En.shr (D.int ((1 + v4)))), some (En.own (prog ((1 + v4) * (1 + v2) + 1) (j + 1))), x9, x10], ⟨v3.toNat, 0, by omega, ?_⟩, ?_⟩
      · simp [prog]
      rintro m Γ ⟨j, hj, rfl⟩
      walk_at "ev"
      rw [prog_len]
      refine iteR_by (fun h => ?_) (fun h => ?_)
      · have h := of_decide_eq_true h
        walk_at "ev"
        rw [prog_succ]
        refine ⟨_, atI_last _ _, ?_⟩
        rw [← prog_succ]
        walk_at "ev"
        walk_at "sd"
        walk_at "ev"
        refine sideR_by (by rw [prog_len]; exact Nat.lt_of_lt_of_le (m := 100) (by omega) (by decide)) fun _ => ?_
        walk_at "ev"
        refine ⟨m - 1, by omega, j + 1, by omega, ?_⟩
        rw [prog_succ _ (j + 1)]
        rw [show ∀ X : Int, (j : Int) * (X + 1) + X + 1 = ((j + 1 : Nat) : Int) * (X + 1) from fun X => by rw [Int.natCast_add, Int.add_mul]; omega]
      · have h := of_decide_eq_false h
        have hj2 : j + 1 = (1 + v3).toNat := by omega
        rw [hj2]
        walk_at "ev"
        refine ⟨kd, _, (1 + v3).toNat, _, by rw [show (((1 + v3).toNat : Nat) : Int) = 1 + v3 by omega], by omega, by omega, by omega, by omega, by omega, ?_⟩
        rw [show (startsF kd (1 + v2) (1 + v3).toNat (1 + v4)).map D.int = prog ((1 + v4) * (1 + v2) + 1) (1 + v3).toNat by unfold startsF prog; rw [hl1]]
        walk_at "ev"
        refine sideR_by ⟨⟨1, by decide, prog_dep _ _⟩, 1, by decide, prog_dep _ _⟩ fun _ => ?_
        walk_at "ev"
        rw [deq_refl (prog_dep _ _)]
        walk_at "ev"
        refine lcO_map (fun _ => D.bl false) (by rw [prog_len]; exact Nat.le_trans (m := 100) (by omega) (by decide)) rfl (fun d hd kk hk => ?_) ?_
        · obtain ⟨z, _, rfl⟩ := List.mem_map.mp hd
          walk_at "ev"
          exact hk
        walk_at "ev"
        rw [prog_any]
        refine ⟨_, rfl, ?_⟩
        have hany : (List.replicate (1 + v3).toNat false).any id = false := by simp
        walk_at "ev"
        rw [hany]
        walk_at "ev"
        refine sideR_by (by rw [List.length_reverse, prog_len]; exact Nat.lt_of_lt_of_le (m := 100) (by omega) (by decide)) fun _ => ?_
        walk_at "ev"
        refine ⟨kd, _, (1 + v3).toNat, _, by rw [show (((1 + v3).toNat : Nat) : Int) = 1 + v3 by omega], by omega, by omega, by omega, by omega, by omega, ?_⟩
        rw [show (startsF kd (1 + v2) (1 + v3).toNat (1 + v4)).map D.int = prog ((1 + v4) * (1 + v2) + 1) (1 + v3).toNat by unfold startsF prog; rw [hl1]]
        walk_at "ev"
        refine sideR_by ⟨⟨1, by decide, prog_dep _ _⟩, 1, by decide, prog_dep _ _⟩ fun _ => ?_
        walk_at "ev"
        rw [deq_refl (prog_dep _ _)]
        walk_at "ev"
        exact ⟨_, _, _, _, _, _, _, _, _, _, rfl⟩
  · rintro Γ ⟨x1, x2, x3, x4, x5, x6, x7, x8, x9, x10, rfl⟩
    walk_at "ev"
    exact q
abbrev s_law : Stmt := top 7
theorem sc_law : FnScope ["_law_script", "_law_k", "_law_row", "_law_kind", "_law_wide", "_law_bands", "_law_series", "_law_lanes", "_law_due", "_law_found", "_law_one"] ["_law_script"] (defScope s_law) := ⟨rfl, rfl, rfl, by decide +kernel, rfl, by decide +kernel, by decide +kernel⟩
theorem ok_law {P : Program} {w : World} {K : PySem.W.Frag} {mg : Str → Option Value} {base : Heap} {ts : List Addr} {f : Addr} {fd : FuncData} (F : Fun K "law" "law" s_law f fd) (C__law_cell_at : Cal P w K mg base (CXE P w) 1 "_law_cell_at" ["_law_script", "_law_k"] (spD ⟨K, ts⟩ false wf__law_cell_at)) (C__law_take : Cal P w K mg base (CXE P w) 1 "_law_take" ["_law_row", "_law_base"] (spD ⟨K, ts⟩ true wf__law_take)) (C_starts_of : Cal P w K mg base (CXE P w) 2 "starts_of" ["kind", "width", "bands", "series"] (spD ⟨K, ts⟩ false wf_starts_of)) (z_range : mg "range" = none) (z_len : mg "len" = none) (z_isinstance : mg "isinstance" = none) (z_list : mg "list" = none) (z_any : mg "any" = none) (z_bool : mg "bool" = none) : FnOk P w K mg base (CXE P w) 3 f fd ["_law_script"] (spD ⟨K, ts⟩ false wf_law) := by
  have nd := (sc_law).nd
  refine fn_d F sc_law (by decide) (fun ds row Ψ Ξ h => by first | (obtain ⟨rfl, _⟩ := h; rfl) | (obtain ⟨_, rfl, _⟩ := h; rfl) | (obtain ⟨_, _, rfl, _⟩ := h; rfl) | (obtain ⟨_, _, _, rfl, _⟩ := h; rfl) | (obtain ⟨_, _, _, _, rfl, _⟩ := h; rfl) | (obtain ⟨_, _, _, _, _, rfl, _⟩ := h; rfl) | (obtain ⟨_, _, _, _, _, _, rfl, _⟩ := h; rfl) | (obtain ⟨_, _, _, _, _, _, _, rfl, _⟩ := h; rfl) | (obtain ⟨_, _, _, _, _, _, _, _, rfl, _⟩ := h; rfl)) d_law (fun cdv A outer s H E hr => ⟨_, (q_sc (q_for PassesOwn.never (by rfl) (q_ir1 (by rfl) z_range (q_cons q_int q_nil (by rfl)) (by rfl)) (q_gn (i := 1) (pg_name nd rfl (Or.inl rfl)) (Or.inl (by decide))) (q_sc (q_set (i := 2) nd rfl (Or.inl rfl) (q_lst (q_cons (q_call C__law_cell_at hr passE0 (q_cons (q_v 0 (pv 0)) (q_cons (q_v 1 (pv 1)) q_nil (by rfl)) (by rfl)) (by rfl) (by decide) (by decide) (by rfl)) (q_cons (q_v 1 (pv 1)) q_nil (by rfl)) (by rfl))) (Or.inl (by decide)) (by rfl) (by first | exact .inl rfl | exact .inr rfl))
      (q_sc (q_set (i := 3) nd rfl (Or.inl rfl) (q_ix (ix_seqK (by rfl)) od_ix (q_lst (q_cons q_str (q_cons q_str (q_cons q_str (q_cons q_str q_nil (by rfl)) (by rfl)) (by rfl)) (by rfl))) (q_call C__law_take hr passE0 (q_cons (q_v 2 (pv 2)) (q_cons q_int q_nil (by rfl)) (by rfl)) (by rfl) (by decide) (by decide) (by rfl)) (fun _ _ => rfl)) (Or.inl (by decide)) (by rfl) (by first | exact .inl rfl | exact .inr rfl))
      (q_sc (q_set (i := 4) nd rfl (Or.inl rfl) (q_op op_add od_add q_int (q_call C__law_take hr passE0 (q_cons (q_v 2 (pv 2)) (q_cons q_int q_nil (by rfl)) (by rfl)) (by rfl) (by decide) (by decide) (by rfl))) (Or.inl (by decide)) (by rfl) (by first | exact .inl rfl | exact .inr rfl))
      (q_sc (q_set (i := 5) nd rfl (Or.inl rfl) (q_op op_add od_add q_int (q_call C__law_take hr passE0 (q_cons (q_v 2 (pv 2)) (q_cons q_int q_nil (by rfl)) (by rfl)) (by rfl) (by decide) (by decide) (by rfl))) (Or.inl (by decide)) (by rfl) (by first | exact .inl rfl | exact .inr rfl))
      (q_sc (q_set (i := 6) nd rfl (Or.inl rfl) (q_op op_add od_add q_int (q_call C__law_take hr passE0 (q_cons (q_v 2 (pv 2)) (q_cons q_int q_nil (by rfl)) (by rfl)) (by rfl) (by decide) (by decide) (by rfl))) (Or.inl (by decide)) (by rfl) (by first | exact .inl rfl | exact .inr rfl))
      (q_sc (q_set (i := 7) nd rfl (Or.inl rfl) (q_v 6 (pv 6)) (Or.inl (by decide)) (by rfl) (by first | exact .inl rfl | exact .inr rfl))
      (q_sc (q_ifS (q_cmpT (op_inK (by rfl)) bd_in (q_v 3 (pv 3)) (q_tup (q_cons q_str (q_cons q_str q_nil (by rfl)) (by rfl))) (by rfl)) (q_s1 (q_set (i := 7) nd rfl (Or.inl rfl) q_int (Or.inl (by decide)) (by rfl) (by first | exact .inl rfl | exact .inr rfl))) q_s0)
      (q_sc (q_set (i := 8) nd rfl (Or.inl rfl) (q_lst (q_cons q_int q_nil (by rfl))) (Or.inl (by decide)) (by rfl) (by first | exact .inl rfl | exact .inr rfl))
      (q_sc (q_while PassesOwn.never (q_cmpT op_lt bd_lt (q_cB (call_lenK (by rfl)) cd_len (by rfl) z_len (by decide +kernel) (q_cons (q_v 8 (pv 8)) q_nil (by rfl)) (by decide) (by decide) (by rfl)) (q_v 5 (pv 5)) (nomark _)) (q_s1 (q_drop (q_app (pv 8) (q_op op_add od_add (q_op op_add od_add (q_ix (ix_seqK (by rfl)) od_ix (q_v 8 (pv 8)) (q_un un_neg ud_neg q_int) (fun _ _ => rfl)) (q_op op_mulB od_mul (q_v 7 (pv 7)) (q_v 4 (pv 4)))) q_int) (by rfl) (by rfl) (by rfl) (by rfl)) (by rfl))))
      (q_sc (q_set (i := 9) nd rfl (Or.inl rfl) (q_call C_starts_of hr passE0 (q_cons (q_v 3 (pv 3)) (q_cons (q_v 4 (pv 4)) (q_cons (q_v 5 (pv 5)) (q_cons (q_v 6 (pv 6)) q_nil (by rfl)) (by rfl)) (by rfl)) (by rfl)) (by rfl) (by decide) (by decide) (by rfl)) (Or.inl (by decide)) (by rfl) (by first | exact .inl rfl | exact .inr rfl))
      (q_sc (q_ifS (QW.tst (q_or (q_tnot (q_tv (q_cB (call_isiK (by rfl)) cd_isi (by rfl) z_isinstance (by decide +kernel) (q_cons (q_v 9 (pv 9)) (q_cons (q_glob (pe_bltn (v := .ty "list") (by rfl) z_list (by decide +kernel) rfl) (fun _ => .ty _)) q_nil (by rfl)) (by rfl)) (by decide) (by decide) (by rfl)) (by rfl))) (q_or (q_cmpT (op_neDK (by rfl) hr.units) bd_neD (q_v 9 (pv 9)) (q_v 8 (pv 8)) (nomark _)) (q_or1 (q_tv (q_cB (cr_anyK (by rfl) (by rfl)) cd_any (by rfl) z_any (by decide +kernel) (q_cons (q_lcO (own := [("_law_one", 10)]) (by rfl) nd (pv 9) (by rfl) (by decide) (blkOk_by (own := [("_law_one", 10)]) (N := ["_law_script", "_law_k", "_law_row", "_law_kind", "_law_wide", "_law_bands", "_law_series", "_law_lanes", "_law_due", "_law_found", "_law_one"]) (sc := defScope s_law) (by decide +kernel)) (fun _ _ _ _ _ => (q_cn (i := 10) (pg_name nd rfl (Or.inl rfl)) (by decide))) (fun _ _ _ _ _ => q_t0) (fun _ _ _ _ _ => (q_cB (call_isiK (by rfl)) cd_isi (by rfl) z_isinstance (by decide +kernel) (q_cons (q_v 10 (pv 10)) (q_cons (q_glob (pe_bltn (v := .ty "bool") (by rfl) z_bool (by decide +kernel) rfl) (fun _ => .ty _)) q_nil (by rfl)) (by rfl)) (by decide) (by decide) (by rfl))) (fun _ => rfl)) q_nil (by rfl)) (by decide) (by decide) (by rfl)) (by rfl)))))) (q_s1 (q_ret q_bl)) q_s0)
      (q_sc (q_drop (q_rev (pv 9) (by rfl) (by rfl) (by rfl)) (by rfl))
      (q_sc (q_drop (q_app (pv 9) q_int (by rfl) (by rfl) (by rfl) (by rfl)) (by rfl))
      (q_s1 (q_ifS (q_cmpT (op_neDK (by rfl) hr.units) bd_neD (q_call C_starts_of hr passE0 (q_cons (q_v 3 (pv 3)) (q_cons (q_v 4 (pv 4)) (q_cons (q_v 5 (pv 5)) (q_cons (q_v 6 (pv 6)) q_nil (by rfl)) (by rfl)) (by rfl)) (by rfl)) (by rfl) (by decide) (by decide) (by rfl)) (q_v 8 (pv 8)) (nomark _)) (q_s1 (q_ret q_bl)) q_s0))))))))))))))) (fun _ => rfl))
      (q_s1 (q_ret q_bl)))⟩)
theorem all_mk {l : PySem.W.OpenLaw} {w : World} {K : PySem.W.Frag} {h : Heap} {mg : Str → Option Value} {fa : Addr} (X : K.In h) (G : h.Ns mainGlobals mg) (hfa : mg "law" = some (.ref fa))
    {f0 : Addr} {od0 an0 : Option Addr} {sl0 : Array (Option Value)} {oc0 kV0 dc0 pm0 cd0 ct0 : Value} {f1 : Addr} {od1 an1 : Option Addr} {sl1 : Array (Option Value)} {oc1 kV1 dc1 pm1 cd1 ct1 : Value} {f2 : Addr} {od2 an2 : Option Addr} {sl2 : Array (Option Value)} {oc2 kV2 dc2 pm2 cd2 ct2 : Value} {f3 : Addr} {od3 an3 : Option Addr} {sl3 : Array (Option Value)} {oc3 kV3 dc3 pm3 cd3 ct3 : Value} {f4 : Addr} {od4 an4 : Option Addr} {sl4 : Array (Option Value)} {oc4 kV4 dc4 pm4 cd4 ct4 : Value} {a_SIDE_BY_SIDE : Addr} {o_SIDE_BY_SIDE : Obj} {n_SIDE_BY_SIDE : Nat} {t0_SIDE_BY_SIDE : Tok} {t1_SIDE_BY_SIDE : Tok}
    (a0 : PySem.W.nsIn K mainGlobals "count_lanes" = some (some (.ref f0))) (l0 : K.lookup f0 = some ⟨oc0, od0, .func (PySem.W.fnOf "count_lanes" "count_lanes" (defArgs s_count_lanes) (defBody s_count_lanes) (defScope s_count_lanes) .none kV0 dc0 pm0 an0 cd0 ct0), sl0⟩) (c0 : PySem.W.codeIn K cd0 "count_lanes" = true) (k0 : PySem.W.keepIn K (.ref f0) = true)
    (a1 : PySem.W.nsIn K mainGlobals "starts_of" = some (some (.ref f1))) (l1 : K.lookup f1 = some ⟨oc1, od1, .func (PySem.W.fnOf "starts_of" "starts_of" (defArgs s_starts_of) (defBody s_starts_of) (defScope s_starts_of) .none kV1 dc1 pm1 an1 cd1 ct1), sl1⟩) (c1 : PySem.W.codeIn K cd1 "starts_of" = true) (k1 : PySem.W.keepIn K (.ref f1) = true)
    (a2 : PySem.W.nsIn K mainGlobals "_law_cell_at" = some (some (.ref f2))) (l2 : K.lookup f2 = some ⟨oc2, od2, .func (PySem.W.fnOf "_law_cell_at" "_law_cell_at" (defArgs s__law_cell_at) (defBody s__law_cell_at) (defScope s__law_cell_at) .none kV2 dc2 pm2 an2 cd2 ct2), sl2⟩) (c2 : PySem.W.codeIn K cd2 "_law_cell_at" = true) (k2 : PySem.W.keepIn K (.ref f2) = true)
    (a3 : PySem.W.nsIn K mainGlobals "_law_take" = some (some (.ref f3))) (l3 : K.lookup f3 = some ⟨oc3, od3, .func (PySem.W.fnOf "_law_take" "_law_take" (defArgs s__law_take) (defBody s__law_take) (defScope s__law_take) .none kV3 dc3 pm3 an3 cd3 ct3), sl3⟩) (c3 : PySem.W.codeIn K cd3 "_law_take" = true) (k3 : PySem.W.keepIn K (.ref f3) = true)
    (a4 : PySem.W.nsIn K mainGlobals "law" = some (some (.ref f4))) (l4 : K.lookup f4 = some ⟨oc4, od4, .func (PySem.W.fnOf "law" "law" (defArgs s_law) (defBody s_law) (defScope s_law) .none kV4 dc4 pm4 an4 cd4 ct4), sl4⟩) (c4 : PySem.W.codeIn K cd4 "law" = true) (k4 : PySem.W.keepIn K (.ref f4) = true)
    (z_range : PySem.W.nsIn K mainGlobals "range" = some none)
    (z_len : PySem.W.nsIn K mainGlobals "len" = some none)
    (z_isinstance : PySem.W.nsIn K mainGlobals "isinstance" = some none)
    (z_list : PySem.W.nsIn K mainGlobals "list" = some none)
    (z_any : PySem.W.nsIn K mainGlobals "any" = some none)
    (z_bool : PySem.W.nsIn K mainGlobals "bool" = some none)
    (m_SIDE_BY_SIDE : PySem.W.nsIn K mainGlobals "SIDE_BY_SIDE" = some (some (.ref a_SIDE_BY_SIDE))) (q_SIDE_BY_SIDE : K.lookup a_SIDE_BY_SIDE = some o_SIDE_BY_SIDE) (qc_SIDE_BY_SIDE : o_SIDE_BY_SIDE.cls = .type "tuple") (qd_SIDE_BY_SIDE : o_SIDE_BY_SIDE.data = .seq #[.str "bars" t0_SIDE_BY_SIDE, .str "lines" t1_SIDE_BY_SIDE] n_SIDE_BY_SIDE)
    : ∃ fd : FuncData, (∀ (s : Shared) (v : Value), BindsTo s fd ⟨[v], []⟩ [("_law_script", v)]) ∧ ∀ base : Heap, K.In base → base.Ns mainGlobals mg → FnOk l.prog w K mg base (CXE l.prog w) 3 fa fd ["_law_script"] (spD ⟨K, []⟩ false wf_law) := by
  have e := hfa.symm.trans (PySem.W.mg_of X G a4)
  cases e
  have F0 := fun_mk (st := s_count_lanes) l0 c0 k0
  have F1 := fun_mk (st := s_starts_of) l1 c1 k1
  have F2 := fun_mk (st := s__law_cell_at) l2 c2 k2
  have F3 := fun_mk (st := s__law_take) l3 c3 k3
  have F4 := fun_mk (st := s_law) l4 c4 k4
  have b0 := F0.binds (ps := ["kind", "series"]) fun _ _ _ _ _ _ us hl => match us, hl with | [_, _], _ => rfl
  have b1 := F1.binds (ps := ["kind", "width", "bands", "series"]) fun _ _ _ _ _ _ us hl => match us, hl with | [_, _, _, _], _ => rfl
  have b2 := F2.binds (ps := ["_law_script", "_law_k"]) fun _ _ _ _ _ _ us hl => match us, hl with | [_, _], _ => rfl
  have b3 := F3.binds (ps := ["_law_row", "_law_base"]) fun _ _ _ _ _ _ us hl => match us, hl with | [_, _], _ => rfl
  have z_range := PySem.W.mg_none_of X G z_range
  have z_len := PySem.W.mg_none_of X G z_len
  have z_isinstance := PySem.W.mg_none_of X G z_isinstance
  have z_list := PySem.W.mg_none_of X G z_list
  have z_any := PySem.W.mg_none_of X G z_any
  have z_bool := PySem.W.mg_none_of X G z_bool
  have m_SIDE_BY_SIDE := PySem.W.mg_of X G m_SIDE_BY_SIDE
  have q_SIDE_BY_SIDE : StT K a_SIDE_BY_SIDE [.str "bars", .str "lines"] := ⟨_, _, _, q_SIDE_BY_SIDE, qc_SIDE_BY_SIDE, qd_SIDE_BY_SIDE, (show 2 ≤ sizeLine by decide), (.cons ⟨_, rfl⟩ (.cons ⟨_, rfl⟩ .nil))⟩
  refine ⟨PySem.W.fnOf "law" "law" (defArgs s_law) (defBody s_law) (defScope s_law) .none kV4 dc4 pm4 an4 cd4 ct4, fun s v => .of_eq rfl, fun base hK hG => ?_⟩
  have C_count_lanes : Cal l.prog w K mg base (CXE l.prog w) 1 "count_lanes" ["kind", "series"] (spD ⟨K, []⟩ false wf_count_lanes) := Kx.Fun.cal F0 (ok_count_lanes (P := l.prog) (w := w) (base := base) (ts := []) F0 m_SIDE_BY_SIDE q_SIDE_BY_SIDE) b0 (PySem.W.mg_of X G a0)
  have C_starts_of : Cal l.prog w K mg base (CXE l.prog w) 2 "starts_of" ["kind", "width", "bands", "series"] (spD ⟨K, []⟩ false wf_starts_of) := Kx.Fun.cal F1 (ok_starts_of (P := l.prog) (w := w) (base := base) (ts := []) F1 C_count_lanes z_range) b1 (PySem.W.mg_of X G a1)
  have C__law_cell_at : Cal l.prog w K mg base (CXE l.prog w) 1 "_law_cell_at" ["_law_script", "_law_k"] (spD ⟨K, []⟩ false wf__law_cell_at) := Kx.Fun.cal F2 (ok__law_cell_at (P := l.prog) (w := w) (base := base) (ts := []) F2 z_len) b2 (PySem.W.mg_of X G a2)
  have C__law_take : Cal l.prog w K mg base (CXE l.prog w) 1 "_law_take" ["_law_row", "_law_base"] (spD ⟨K, []⟩ true wf__law_take) := Kx.Fun.cal F3 (ok__law_take (P := l.prog) (w := w) (base := base) (ts := []) F3 ) b3 (PySem.W.mg_of X G a3)
  exact ok_law F4 C__law_cell_at C__law_take C_starts_of z_range z_len z_isinstance z_list z_any z_bool
theorem walk {l : PySem.W.OpenLaw} {q : Program} {loose : List Str} {XP : (Str → Option Value) → Heap → Prop} {YP : World → Heap → Prop} {d : DefRec} {K : Params → PySem.W.Frag} (hn : l.most = some 63) (hdf : d.params.defaults = [])
    (hY : ∀ (w : World) (h : Heap), YP w h → (K w.params).In h)
    (F : ∀ (w : World) (mg : Str → Option Value) (fa : Addr) (h : Heap), (K w.params).In h → h.Ns mainGlobals mg → mg d.name = some (.ref fa) →
      ∃ fd : FuncData, (∀ (s : Shared) (u : Value), BindsTo s fd ⟨[u], []⟩ [("_law_script", u)]) ∧ ∀ base : Heap, (K w.params).In base → base.Ns mainGlobals mg → FnOk l.prog w (K w.params) mg base (CXE l.prog w) 3 fa fd ["_law_script"] (spD ⟨K w.params, []⟩ false wf_law)) :
    PySem.W.WalkO q loose XP YP l.row.toRowW d [] (fun f vs => PySem.call f vs) :=
  L2.walk_of (n := 63) (k := 3) (x := "_law_script") (CX := fun w => CXE l.prog w) (sp := fun w => spD ⟨K w.params, []⟩ false wf_law) hn (by decide) hdf ⟨rfl, by decide, by decide⟩ hY F (fun w H a ns h1 h2 h3 => law_sp (fun hl => ⟨ns, rfl, hl, rfl⟩) h1 (fun _ z => by cases z) h3 (fun b ps z => by rcases h2 b with y | ⟨o, xs, y⟩ <;> (rw [y] at z; cases z))) fun _ _ _ _ _ z => by
    obtain ⟨_, _, _, _, _, _, y, _⟩ := z
    exact y
end Law
open PySem PySem.W PyProof.Rows
set_option maxRecDepth 100000 in
set_option maxHeartbeats 0 in
theorem PySem.Challenge.cw_chartscribe_k34_where_bands_begin_holds : PySem.Challenge.rw_chartscribe_k34_where_bands_begin.Holds := by
  w_on; o_law; k_head; (case hw => w_witness2)
  k_fill
  refine Law.walk (l := PySem.Challenge.rw_chartscribe_k34_where_bands_begin) rfl rfl (fun w h Y => PySem.W.kIn_of Y) ?F
  case F =>
    intro w mg fa h KX G hmg
    refine' Law.all_mk KX G hmg ?a0 ?l0 ?c0 ?k0 ?a1 ?l1 ?c1 ?k1 ?a2 ?l2 ?c2 ?k2 ?a3 ?l3 ?c3 ?k3 ?a4 ?l4 ?c4 ?k4 ?z_range ?z_len ?z_isinstance ?z_list ?z_any ?z_bool ?m_SIDE_BY_SIDE ?q_SIDE_BY_SIDE ?qc_SIDE_BY_SIDE ?qd_SIDE_BY_SIDE
    (case a0 => k_is)
    (case l0 => k_is)
    (case c0 => k_is)
    (case k0 => k_is)
    (case a1 => k_is)
    (case l1 => k_is)
    (case c1 => k_is)
    (case k1 => k_is)
    (case a2 => k_is)
    (case l2 => k_is)
    (case c2 => k_is)
    (case k2 => k_is)
    (case a3 => k_is)
    (case l3 => k_is)
    (case c3 => k_is)
    (case k3 => k_is)
    (case a4 => k_is)
    (case l4 => k_is)
    (case c4 => k_is)
    (case k4 => k_is)
    (case z_range => k_is)
    (case z_len => k_is)
    (case z_isinstance => k_is)
    (case z_list => k_is)
    (case z_any => k_is)
    (case z_bool => k_is)
    (case m_SIDE_BY_SIDE => k_is)
    (case q_SIDE_BY_SIDE => k_is)
    (case qc_SIDE_BY_SIDE => rfl)
    (case qd_SIDE_BY_SIDE => rfl)
