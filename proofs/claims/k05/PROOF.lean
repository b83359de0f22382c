import PyProof.Rows.All
import Wide.All
import OpenK.AllK
import Wide.FinOn
import PyProof.EqAt
import PyProof.EqKinds
import PyProof.TupleCall
import KE.BitLaws
import KE.KSortKeySt
import KE.KLam
import PyProof.ListRange
import KE.KSortTupG
import PyProof.Rows.SetFrom
import KE.KRevSl
import KE.KSuper
import PyProof.Draws
import PyProof.ListMulRoad
import PyProof.IsiNone
import PyProof.WalkInts
import PyProof.StrOps2
import KE.KStar
import PySem.Challenge.RW_chartscribe_k05_no_numbers
set_option Elab.async false
set_option linter.all false
set_option maxRecDepth 100000
namespace L2
open PySem PySem.Spec PyProof.Rows
abbrev Key := Sum Int Str
def keyIs : Key → Value → Bool
  | .inl k, v => Value.isInt k v
  | .inr x, v => Value.isStrOf x v
def keyH (w : World) : Key → Int
  | .inl k => hashInt k
  | .inr x => hashStr w x
theorem keyIs_shape : ∀ {k : Key} {v : Value}, keyIs k v = true → (∃ i t, k = Sum.inl i ∧ v = Value.int i t) ∨ (∃ x t, k = Sum.inr x ∧ v = Value.str x t)
  | .inl i, v, h => by
    obtain ⟨t, e⟩ := Value.isInt_shape (k := i) (v := v) h
    exact .inl ⟨i, t, rfl, e⟩
  | .inr x, v, h => by
    obtain ⟨t, e⟩ := Value.isStrOf_shape (x := x) (v := v) h
    exact .inr ⟨x, t, rfl, e⟩
theorem key_ll (a b : Int) : decide ((Sum.inl a : Key) = Sum.inl b) = (a == b) := by
  by_cases e : a = b
  · subst e; simp
  · have h : ¬ (Sum.inl a : Key) = Sum.inl b := fun q => e (Sum.inl.inj q)
    rw [decide_eq_false h]
    exact (beq_eq_false_iff_ne.mpr e).symm
theorem key_rr (a b : Str) : decide ((Sum.inr a : Key) = Sum.inr b) = decide (a = b) := by
  by_cases e : a = b
  · subst e; simp
  · have h : ¬ (Sum.inr a : Key) = Sum.inr b := fun q => e (Sum.inr.inj q)
    rw [decide_eq_false h, decide_eq_false e]
theorem key_lr (a : Int) (b : Str) : decide ((Sum.inl a : Key) = Sum.inr b) = false := decide_eq_false (fun q => nomatch q)
theorem key_rl (a : Str) (b : Int) : decide ((Sum.inr a : Key) = Sum.inl b) = false := decide_eq_false (fun q => nomatch q)
def mixKind (prog : Program) (w : World) : PySem.KeyKind prog w Key where
  is := keyIs
  hash := keyH w
  inj := fun v a b ha hb => by
    rcases keyIs_shape ha with ⟨i, t, rfl, rfl⟩ | ⟨x, t, rfl, rfl⟩
    · rcases keyIs_shape hb with ⟨j, u, rfl, e⟩ | ⟨y, u, rfl, e⟩
      · injection e with e1 _; rw [e1]
      · exact nomatch e
    · rcases keyIs_shape hb with ⟨j, u, rfl, e⟩ | ⟨y, u, rfl, e⟩
      · exact nomatch e
      · injection e with e1 _; rw [e1]
  byValue := fun k v h => by
    rcases keyIs_shape h with ⟨i, t, rfl, rfl⟩ | ⟨x, t, rfl, rfl⟩ <;> rfl
  pyHash := fun hv h => by
    rcases keyIs_shape hv with ⟨i, t, rfl, rfl⟩ | ⟨x, t, rfl, rfl⟩
    · exact wpAny_pyHash_int h
    · exact wpAny_pyHash_str h
  eqBool := fun hu hv h => by
    rcases keyIs_shape hu with ⟨i, t, rfl, rfl⟩ | ⟨x, t, rfl, rfl⟩
    · rcases keyIs_shape hv with ⟨j, u, rfl, rfl⟩ | ⟨y, u, rfl, rfl⟩
      · rw [key_ll] at h; exact wpAny_eqBool_int h
      · rw [key_lr] at h; exact SeqAt.EqAt.int_str i t y u _ _ _ _ h
    · rcases keyIs_shape hv with ⟨j, u, rfl, rfl⟩ | ⟨y, u, rfl, rfl⟩
      · rw [key_rl] at h; exact SeqAt.EqAt.str_int x t j u _ _ _ _ h
      · rw [key_rr] at h; exact wpAny_eqBool_str h
  «strs» := fun k x t v h => by
    rcases keyIs_shape h with ⟨i, u, rfl, e⟩ | ⟨y, u, rfl, e⟩
    · exact nomatch e
    · injection e with e1 _
      subst e1
      cases v <;> rfl
end L2
namespace L2
open PySem PySem.Spec PyProof.Rows
inductive V where
  | non | bl (b : Bool) | int (i : Int) | str (x : Str) | byt (b : Array UInt8) | flt (b : UInt64) | ref (a : Addr) | ty (n : String)
  deriving DecidableEq
def RelV : V → Value → Prop
  | .non, u => u = Value.none
  | .bl b, u => u = Value.bool b
  | .int i, u => ∃ t, u = Value.int i t
  | .str x, u => ∃ t, u = Value.str x t
  | .byt b, u => ∃ t, u = Value.bytes b t
  | .flt b, u => ∃ t, u = Value.float b t
  | .ref a, u => u = Value.ref a
  | .ty n, u => u = Value.type n
abbrev Vals : List V → List Value → Prop := Paired RelV
theorem Vals.length {xs : List V} {us : List Value} (r : Vals xs us) : xs.length = us.length := Paired.length r
theorem Vals.get : ∀ {xs : List V} {us : List Value} {i : Nat} {x : V}, Vals xs us → xs[i]? = some x → ∃ u, us[i]? = some u ∧ RelV x u
  | _, _, _, _, .nil, e => by simp at e
  | _, _, 0, _, .cons r _, e => by simp at e; subst e; exact ⟨_, rfl, r⟩
  | _, _, i + 1, x, .cons _ t, e => by
    obtain ⟨u, h1, h2⟩ := Vals.get (i := i) (x := x) t (by simpa using e)
    exact ⟨u, by simpa using h1, h2⟩
theorem Vals.set {x : V} {u : Value} (r : RelV x u) : ∀ {xs : List V} {us : List Value} (i : Nat), Vals xs us → Vals (xs.set i x) (us.set i u)
  | _, _, _, .nil => .nil
  | _, _, 0, .cons _ t => .cons r t
  | _, _, i + 1, .cons q t => .cons q (Vals.set r i t)
theorem Vals.append : ∀ {xs ys : List V} {us ws : List Value}, Vals xs us → Vals ys ws → Vals (xs ++ ys) (us ++ ws)
  | _, _, _, _, .nil, s => s
  | _, _, _, _, .cons r t, s => .cons r (Vals.append t s)
theorem Vals.take : ∀ {xs : List V} {us : List Value} (n : Nat), Vals xs us → Vals (xs.take n) (us.take n)
  | _, _, 0, _ => .nil
  | _, _, _ + 1, .nil => .nil
  | _, _, n + 1, .cons r t => .cons r (Vals.take n t)
theorem Vals.drop : ∀ {xs : List V} {us : List Value} (n : Nat), Vals xs us → Vals (xs.drop n) (us.drop n)
  | _, _, 0, r => r
  | _, _, _ + 1, .nil => .nil
  | _, _, n + 1, .cons _ t => Vals.drop n t
def RelO : Option V → Option Value → Prop
  | some v, some u => RelV v u
  | none, none => True
  | _, _ => False
def KV {κ : Type} : List (κ × V) → List (κ × Value) → Prop := Paired fun (p : κ × V) (q : κ × Value) => p.1 = q.1 ∧ RelV p.2 q.2
def kV : Key → V
  | .inl i => .int i
  | .inr x => .str x
inductive HO where
  | lst (xs : List V)
  | tup (xs : List V)
  | dK (kvs : List (Key × V)) | dT (kvs : List (List Key × V))
  | set (S : Int → Bool) (n : Nat)
  | ins (C dx : Addr) (fs : List (Str × V))
  | own (x : Addr)
  | xd (fs : List (Str × V))
  | met (f x : Addr)
  | rng (lo hi : Int)
  | frz (o : Obj) (u : HO)
  | tbl (ps : Array Value)
  | ext (φ : Heap → Prop)
abbrev Hp := Addr → Option HO
def upd (H : Hp) (a : Addr) (o : HO) : Hp := fun b => if b = a then some o else H b
theorem upd_same {H : Hp} {a : Addr} {o : HO} : upd H a o a = some o := by unfold upd; rw [if_pos rfl]
theorem upd_ne {H : Hp} {a b : Addr} {o : HO} (h : b ≠ a) : upd H a o b = H b := by unfold upd; rw [if_neg h]
theorem ne_of {H : Hp} {a b : Addr} {o u : HO} (h : H a = some o) (h' : H b = some u) (d : o ≠ u) : a ≠ b := by
  intro e; subst e; rw [h] at h'; exact d (Option.some.inj h')
theorem ne_of_none {H : Hp} {a b : Addr} {o : HO} (h : H a = some o) (h' : H b = none) : a ≠ b := by
  intro e; subst e; rw [h] at h'; cases h'
section
variable (P : Program) (w : World)
def ObjOk (H : Hp) (h : Heap) (a : Addr) : HO → Prop
  | .lst xs => xs.length ≤ sizeLine ∧ ∃ (its : List Value) (n : Nat), Vals xs its ∧ h.get? a = some { cls := .type "list", data := .seq its.toArray n }
  | .tup xs => xs.length ≤ sizeLine ∧ ∃ its : List Value, Vals xs its ∧ IsTup h a its.toArray
  | .dK kvs => kvs.length ≤ sizeLine ∧ (a == sysModules) = false ∧ ∃ vs, KV kvs vs ∧ h.DictOf (mixKind P w) a vs
  | .dT kvs => kvs.length ≤ sizeLine ∧ (a == sysModules) = false ∧ ∃ xs : List (List Key × Addr × Value),
      Paired (fun (p : List Key × V) (q : List Key × Addr × Value) => p.1 = q.1 ∧ H q.2.1 = some (.tup (p.1.map kV)) ∧ RelV p.2 q.2.2) kvs xs ∧
      ∃ o es ep, h.get? a = some o ∧ o.ExactDict ∧ o.data = .dict es ep ∧ es.toList = xs.map (entryOfKey (tupleKind (mixKind P w))) ∧ (xs.map (·.1)).Nodup
  | .set S n => h.SetOf (intKind P w) a S n
  | .ins C dx fs => H dx = some (.own a) ∧ fs.length ≤ 1000 ∧ dx ≠ a ∧ h.get? a = some (PySem.W.instObj C dx) ∧
      ∃ mA, h.Ns1 dx mA ∧ (∀ f, RelO (fs.lookup f) (mA f)) ∧ PySem.Within mA (fs.map (·.1))
  | .own _ => ∃ o, h.get? a = some o
  | .xd fs => ∃ mA, h.Ns1 a mA ∧ ∀ f, RelO (fs.lookup f) (mA f)
  | .rng lo hi => ∃ t u v, h.get? a = some { cls := .type "range", data := .fields #[.int lo t, .int hi u, .int 1 v] }
  | .frz o u => h.get? a = some o ∧ ObjOk H h a u
  | .tbl ps => h.get? a = some { cls := .none, data := .fields ps }
  | .met f x => h.get? a = some (PySem.W.methodObj (.ref f) (.ref x))
  | .ext φ => φ h ∧ (∃ o, h.get? a = some o) ∧ ∀ h1 h2 : Heap, φ h1 → (∀ o, h1.get? a = some o → h2.get? a = some o) → φ h2
def HOk (H : Hp) (h : Heap) : Prop := ∀ a o, H a = some o → ObjOk P w H h a o
end
section
variable {P : Program} {w : World} {H H' : Hp} {h h' : Heap} {a : Addr} {o : HO}
theorem ObjOk.lt (x : ObjOk P w H h a o) : a < h.objs.size := by
  cases o with
  | lst xs => obtain ⟨_, _, _, _, e⟩ := x; exact Heap.lt_size e
  | tup xs => obtain ⟨_, _, _, p⟩ := x; exact p.lt
  | dK kvs => obtain ⟨_, _, _, _, o, _, _, e, _⟩ := x; exact Heap.lt_size e
  | dT kvs => obtain ⟨_, _, _, _, o, _, _, e, _⟩ := x; exact Heap.lt_size e
  | set S n => obtain ⟨o, _, _, _, e, _⟩ := x; exact Heap.lt_size e
  | ins C dx fs => obtain ⟨_, _, _, e, _⟩ := x; exact Heap.lt_size e
  | own y => obtain ⟨_, e⟩ := x; exact Heap.lt_size e
  | xd fs => obtain ⟨_, ⟨_, _, _, e, _⟩, _⟩ := x; exact Heap.lt_size e
  | rng lo hi => obtain ⟨_, _, _, e⟩ := x; exact Heap.lt_size e
  | frz ob u => obtain ⟨e, _⟩ := x; exact Heap.lt_size e
  | tbl ps => exact Heap.lt_size (show h.get? a = some _ from x)
  | met f y => exact Heap.lt_size (show h.get? a = some _ from x)
  | ext φ => obtain ⟨_, ⟨_, e⟩, _⟩ := x; exact Heap.lt_size e
theorem Paired.mapP {α β : Type} {F G : α → β → Prop} : ∀ {l₁ : List α} {l₂ : List β}, Paired F l₁ l₂ → (∀ a b, F a b → G a b) → Paired G l₁ l₂
  | _, _, .nil, _ => .nil
  | _, _, .cons r t, f => .cons (f _ _ r) (Paired.mapP t f)
theorem ObjOk.stay (x : ObjOk P w H h a o) (k : ∀ b u, (b = a ∨ H b = some (.own a)) → h.get? b = some u → h'.get? b = some u)
    (ho : ∀ b, H b = some (.own a) → H' b = some (.own a)) (ht : ∀ b xs, H b = some (.tup xs) → H' b = some (.tup xs)) : ObjOk P w H' h' a o := by
  induction o with
  | lst xs => obtain ⟨z, its, n, r, e⟩ := x; exact ⟨z, its, n, r, k _ _ (.inl rfl) e⟩
  | tup xs => obtain ⟨z, its, r, ob, e, c⟩ := x; exact ⟨z, its, r, ob, k _ _ (.inl rfl) e, c⟩
  | dK kvs => obtain ⟨z, y, vs, r, ob, es, ep, e, c⟩ := x; exact ⟨z, y, vs, r, ob, es, ep, k _ _ (.inl rfl) e, c⟩
  | dT kvs =>
    obtain ⟨z, y, xs, r, ob, es, ep, e, c⟩ := x
    exact ⟨z, y, xs, Paired.mapP r fun p q z => ⟨z.1, ht _ _ z.2.1, z.2.2⟩, ob, es, ep, k _ _ (.inl rfl) e, c⟩
  | set S n => obtain ⟨ob, es, ep, t, e, c⟩ := x; exact ⟨ob, es, ep, t, k _ _ (.inl rfl) e, c⟩
  | ins C dx fs =>
    obtain ⟨d, z, ne, e, mA, ⟨od, es, ep, e2, c⟩, r⟩ := x
    exact ⟨ho _ d, z, ne, k _ _ (.inl rfl) e, mA, ⟨od, es, ep, k _ _ (.inr d) e2, c⟩, r⟩
  | own y => obtain ⟨ob, e⟩ := x; exact ⟨ob, k _ _ (.inl rfl) e⟩
  | xd fs => obtain ⟨mA, ⟨od, es, ep, e, c⟩, r⟩ := x; exact ⟨mA, ⟨od, es, ep, k _ _ (.inl rfl) e, c⟩, r⟩
  | rng lo hi => obtain ⟨t, u, v, e⟩ := x; exact ⟨t, u, v, k _ _ (.inl rfl) e⟩
  | frz ob u ih => obtain ⟨e, q⟩ := x; exact ⟨k _ _ (.inl rfl) e, ih q⟩
  | tbl ps =>
    have e : h.get? a = some { cls := .none, data := .fields ps } := x
    show h'.get? a = some { cls := .none, data := .fields ps }
    exact k a _ (.inl rfl) e
  | met f y =>
    have e : h.get? a = some (PySem.W.methodObj (.ref f) (.ref y)) := x
    show h'.get? a = some (PySem.W.methodObj (.ref f) (.ref y))
    exact k a _ (.inl rfl) e
  | ext φ => obtain ⟨p, ⟨o, e⟩, st⟩ := x; exact ⟨st _ _ p fun o q => k _ _ (.inl rfl) q, ⟨o, k _ _ (.inl rfl) e⟩, st⟩
theorem HOk.lt (x : HOk P w H h) (e : H a = some o) : a < h.objs.size := (x a o e).lt
theorem HOk.fresh (x : HOk P w H h) (e : h.objs.size ≤ a) : H a = none := by
  cases q : H a with
  | none => rfl
  | some u => exact absurd (Nat.lt_of_lt_of_le (x.lt q) e) (Nat.lt_irrefl _)
theorem HOk.kept (x : HOk P w H h) (k : ∀ b u, h.get? b = some u → h'.get? b = some u) : HOk P w H h' := fun a o e =>
  (x a o e).stay (fun b u _ q => k b u q) (fun _ q => q) fun _ _ q => q
theorem HOk.laid (x : HOk P w H h) (k : ∀ b u, h.get? b = some u → h'.get? b = some u) (hp : h.objs.size ≤ a) (new : ObjOk P w (upd H a o) h' a o) : HOk P w (upd H a o) h' := fun b u e => by
  have hn := x.fresh hp
  by_cases hb : b = a
  · subst hb; rw [upd_same] at e; cases e; exact new
  · rw [upd_ne hb] at e
    exact (x b u e).stay (fun c v _ q => k c v q) (fun c q => by rw [upd_ne (ne_of_none q hn)]; exact q) fun c xs q => by rw [upd_ne (ne_of_none q hn)]; exact q
end
def Rd (H : Hp) (a : Addr) (u : HO) : Prop := H a = some u ∨ ∃ o, H a = some (.frz o u)
theorem Rd.of {H : Hp} {a : Addr} {u : HO} (h : H a = some u) : Rd H a u := .inl h
theorem Rd.ok {P : Program} {w : World} {H : Hp} {h : Heap} {a : Addr} {u : HO} (r : Rd H a u) (x : HOk P w H h) : ObjOk P w H h a u := by
  rcases r with r | ⟨o, r⟩
  · exact x a u r
  · obtain ⟨_, q⟩ := x a _ r
    exact q
def Mut : Option HO → Prop
  | some (.lst _) => True
  | some (.dK _) => True
  | some (.dT _) => True
  | some (.set _ _) => True
  | some (.ins _ _ _) => True
  | some (.ext _) => True
  | _ => False
section
variable {P : Program} {w : World} {H : Hp} {h h' : Heap} {x e : Addr} {o' : HO}
theorem HOk.write (ok : HOk P w H h) (mu : Mut (H x)) (he : e = x ∨ H e = some (.own x)) (k : ∀ b u, b ≠ e → h.get? b = some u → h'.get? b = some u) (heo : ∃ u, h'.get? e = some u)
    (new : ObjOk P w (upd H x o') h' x o') : HOk P w (upd H x o') h' := fun b u q => by
  have nown : ∀ c y, H c = some (.own y) → c ≠ x := fun c y r z => by subst z; rw [r] at mu; exact mu
  have ntup : ∀ c xs, H c = some (.tup xs) → c ≠ x := fun c xs r z => by subst z; rw [r] at mu; exact mu
  by_cases hb : b = x
  · subst hb; rw [upd_same] at q; cases q; exact new
  · rw [upd_ne hb] at q
    by_cases hbe : b = e
    · have q' : H b = some (.own x) := by
        rcases he with z | z
        · exact absurd (hbe.trans z) hb
        · rw [hbe]; exact z
      rw [q] at q'; cases q'
      obtain ⟨v, hv⟩ := heo
      exact ⟨v, by rw [hbe]; exact hv⟩
    · refine (ok b u q).stay (fun c v hc r => k c v ?_ r) (fun c r => by rw [upd_ne (nown c b r)]; exact r) fun c xs r => by rw [upd_ne (ntup c xs r)]; exact r
      rcases hc with rfl | hc
      · exact hbe
      · rintro rfl
        rcases he with z | z
        · exact nown c b hc z
        · rw [hc] at z; cases z; exact hb rfl
end
structure Un (fs ex : List Addr) (H H' : Hp) (h h' : Heap) : Prop where
  keep : ∀ b o, h.get? b = some o → H b = none → b ∉ fs → b ∉ ex → h'.get? b = some o
  slot : ∀ b o, h.get? b = some o → H b = none → b ∈ fs → b ∉ ex → ∃ sl, h'.get? b = some { o with slots := sl }
  free : ∀ b o, h.get? b = some o → H b = none → b ∉ ex → H' b = none
  there : ∀ b o, h.get? b = some o → b ∉ ex → ∃ o', h'.get? b = some o'
  tups : ∀ b xs, H b = some (.tup xs) → H' b = some (.tup xs)
  frzs : ∀ b o u, H b = some (.frz o u) → H' b = some (.frz o u)
  tbls : ∀ b ps, H b = some (.tbl ps) → ∃ more, H' b = some (.tbl (ps ++ more))
section
variable {fs fs' ex ex' : List Addr} {H H1 H2 : Hp} {h h1 h2 h' : Heap} {a x e : Addr} {o : HO}
theorem Un.any (u : Un fs ex H H1 h h1) {b : Addr} {ob : Obj} (q : h.get? b = some ob) (n : H b = none) (hx : b ∉ ex) : ∃ sl, h1.get? b = some { ob with slots := sl } := by
  by_cases hb : b ∈ fs
  · exact u.slot b ob q n hb hx
  · exact ⟨ob.slots, u.keep b ob q n hb hx⟩
theorem Un.trans (a : Un fs ex H H1 h h1) (b : Un fs ex H1 H2 h1 h2) : Un fs ex H H2 h h2 where
  keep := fun c ob q n hc hx => b.keep c ob (a.keep c ob q n hc hx) (a.free c ob q n hx) hc hx
  slot := fun c ob q n hc hx => by
    obtain ⟨sl, e1⟩ := a.slot c ob q n hc hx
    obtain ⟨sl', e2⟩ := b.slot c _ e1 (a.free c ob q n hx) hc hx
    exact ⟨sl', e2⟩
  free := fun c ob q n hx => by
    obtain ⟨o', e1⟩ := a.there c ob q hx
    exact b.free c o' e1 (a.free c ob q n hx) hx
  there := fun c ob q hx => by
    obtain ⟨o', e1⟩ := a.there c ob q hx
    exact b.there c o' e1 hx
  tups := fun c xs q => b.tups c xs (a.tups c xs q)
  frzs := fun c ob xs q => b.frzs c ob xs (a.frzs c ob xs q)
  tbls := fun c ps q => by
    obtain ⟨m1, e1⟩ := a.tbls c ps q
    obtain ⟨m2, e2⟩ := b.tbls c _ e1
    exact ⟨m1 ++ m2, by rw [e2, Array.append_assoc]⟩
theorem Un.kept (k : ∀ b u, h.get? b = some u → h'.get? b = some u) : Un fs ex H H h h' :=
  ⟨fun b ob q _ _ _ => k b ob q, fun b ob q _ _ _ => ⟨ob.slots, k b ob q⟩, fun _ _ _ n _ => n, fun b ob q _ => ⟨ob, k b ob q⟩, fun _ _ q => q, fun _ _ _ q => q, fun _ ps q => ⟨#[], by rw [q]; simp⟩⟩
theorem Un.refl : Un fs ex H H h h := Un.kept fun _ _ q => q
theorem Un.laid (k : ∀ b u, h.get? b = some u → h'.get? b = some u) (hp : h.objs.size ≤ a) (hn : H a = none) : Un fs ex H (upd H a o) h h' where
  keep := fun b u q _ _ _ => k b u q
  slot := fun b u q _ _ _ => ⟨u.slots, k b u q⟩
  free := fun b u q n _ => by rw [upd_ne (Nat.ne_of_lt (Nat.lt_of_lt_of_le (Heap.lt_size q) hp))]; exact n
  there := fun b u q _ => ⟨u, k b u q⟩
  tups := fun b xs q => by rw [upd_ne (ne_of_none q hn)]; exact q
  frzs := fun b u xs q => by rw [upd_ne (ne_of_none q hn)]; exact q
  tbls := fun b ps q => ⟨#[], by rw [upd_ne (ne_of_none q hn), q]; simp⟩
theorem Un.write (mu : Mut (H x)) (he : e = x ∨ H e = some (.own x)) (k : ∀ b u, b ≠ e → h.get? b = some u → h'.get? b = some u) (heo : ∃ u, h'.get? e = some u) : Un fs ex H (upd H x o) h h' := by
  have hx : ∀ b, H b = none → b ≠ x := fun b n z => by subst z; rw [n] at mu; exact mu
  have hb : ∀ b, H b = none → b ≠ e := fun b n z => by
    subst z
    rcases he with r | r
    · exact hx b n r
    · rw [n] at r; cases r
  have hm : ∀ b u, H b = some u → ¬ Mut (some u) → b ≠ x := fun b u q nm z => by subst z; rw [q] at mu; exact nm mu
  refine ⟨fun b u q n _ _ => k b u (hb b n) q, fun b u q n _ _ => ⟨u.slots, k b u (hb b n) q⟩, fun b u q n _ => by rw [upd_ne (hx b n)]; exact n, fun b u q _ => ?_,
    fun b xs q => by rw [upd_ne (hm b _ q fun z => z)]; exact q, fun b u xs q => by rw [upd_ne (hm b _ q fun z => z)]; exact q, fun b ps q => ⟨#[], by rw [upd_ne (hm b _ q fun z => z), q]; simp⟩⟩
  by_cases hbe : b = e
  · subst hbe; exact heo
  · exact ⟨u, k b u hbe q⟩
theorem Un.mono (u : Un fs ex H H1 h h1) (hs : ∀ b ∈ fs, b ∈ fs') (hx : ∀ b ∈ ex, b ∈ ex') : Un fs' ex' H H1 h h1 :=
  ⟨fun b ob q n hb he => u.keep b ob q n (fun z => hb (hs b z)) fun z => he (hx b z), fun _ _ q n _ he => u.any q n fun z => he (hx _ z), fun b ob q n he => u.free b ob q n fun z => he (hx b z), fun b ob q he => u.there b ob q fun z => he (hx b z), u.tups, u.frzs, u.tbls⟩
end
def trk (h : Heap) (H : Hp) : List Addr := (List.range h.objs.size).filter fun a => (H a).isSome
def hidT (h : Heap) (H : Hp) : Heap := PySem.W.hideAll h (trk h H)
theorem hidT_size (h : Heap) (H : Hp) : (hidT h H).objs.size = h.objs.size := PySem.W.hideAll_size _ _
theorem hidT_get {h : Heap} {H : Hp} {b : Addr} {o : Obj} (e : h.get? b = some o) (n : H b = none) : (hidT h H).get? b = some o :=
  PySem.W.hideAll_get _ e fun hm => by
    have q : (H b).isSome = true := (List.mem_filter.mp hm).2
    rw [n] at q; simp at q
theorem of_hidT {h : Heap} {H : Hp} {b : Addr} {o : Obj} (e : (hidT h H).get? b = some o) : h.get? b = some o ∧ H b = none := by
  have e' : h.get? b = some o := PySem.W.of_hideAll (trk h H) e
  refine ⟨e', ?_⟩
  cases q : H b with
  | none => rfl
  | some x =>
    have hm : b ∈ trk h H := List.mem_filter.mpr ⟨List.mem_range.mpr (Heap.lt_size e'), by simp [q]⟩
    have z : (hidT h H).get? b = none := PySem.W.hideAll_none (trk h H) hm
    rw [z] at e; cases e
def allNews (g h : Heap) (L : Addr) : List (Addr × Obj) := (List.range h.objs.size).filterMap fun a => if a = L ∨ (g.get? a).isSome = true then none else (h.get? a).map fun o => (a, o)
def rest (g h : Heap) (L d : Addr) : List (Addr × Obj) := (allNews g h L).filter fun p => decide (p.1 ≠ d)
end L2
namespace L2
open PySem PySem.Spec PyProof.Rows
structure Mod (K : PySem.W.Frag) (mg : Str → Option Value) (base : Heap) : Prop where
  kin : K.In base
  glob : base.Ns mainGlobals mg
  blt : ∃ mb, base.Ns builtinsNs mb ∧ ∀ x : Str, x ≠ "__name__" → mb x = bootBuiltins x
  nolimit : base.NoLimit
structure Cx where
  prog : Program
  w : World
  K : PySem.W.Frag
  mg : Str → Option Value
  base : Heap
  A : Around
  N : List Str
  s_0 : Shared
  H_0 : Hp
  env : Env
  outer : List Env
  stack : List Env
  ex : List Addr
  fn : Str → Bool
  calm : Bool
  pn : List (Addr × Obj)
  xe : Value → Shared → Prop
def frs (l : List Env) : List Addr := l.filterMap (·.frame)
abbrev Cx.fs (X : Cx) : List Addr := frs X.outer
def Vis (sc : Scope) (x : Str) : Prop := sc.names.lookup x = some .local ∨ sc.names.lookup x = some .cell ∨ sc.names.lookup x = some .free
def Loc (sc : Scope) (x : Str) : Prop := sc.names.lookup x = some .local ∨ sc.names.lookup x = some .cell
def Look (env : Env) (h : Heap) (m : Str → Option Value) (x : Str) (u : Value) : Prop :=
  (env.kindOf x = some .local ∧ m x = some u) ∨ ((env.kindOf x = some .cell ∨ env.kindOf x = some .free) ∧ ∃ c, env.cells.lookup x = some c ∧ h.IsCell c (some u))
structure Cx.Ok (X : Cx) : Prop where
  mod : Mod X.K X.mg X.base
  kind : X.env.scope.kind = .function
  glob : X.env.globals = mainGlobals
  blt : X.env.builtins = builtinsNs
  above : X.s_0.heap.objs.size ≤ X.env.locals
  inj : ∀ x y c, X.env.cells.lookup x = some c → X.env.cells.lookup y = some c → x = y
  has : ∀ x, (X.env.kindOf x = some .cell ∨ X.env.kindOf x = some .free) → ∃ c, X.env.cells.lookup x = some c
  cab : ∀ x c, X.fn x = true → X.env.cells.lookup x = some c → X.s_0.heap.objs.size ≤ c
  hd : X.calm = true → X.A.handled = none
  frames : X.A.frames = some X.stack
  stk : X.stack = X.outer ∨ (X.stack = X.env :: X.outer ∧ X.env.frame = some X.env.locals)
  exf : ∀ b ∈ X.ex, b ≠ X.env.locals ∧ ∀ x c, X.env.cells.lookup x = some c → c ≠ b
  bs : ∀ b o, X.base.get? b = some o → X.s_0.heap.get? b = some o ∧ X.H_0 b = none
  bsz : X.base.objs.size ≤ X.s_0.heap.objs.size
  noex : ∀ b o, X.base.get? b = some o → b ∉ X.ex
  exfs : ∀ b ∈ X.ex, b ∉ X.fs
  funs : X.s_0.heap.FunFrames X.base X.outer
  frf : ∀ b ∈ X.fs, X.H_0 b = none
structure Inv (X : Cx) (pins : List (Addr × Obj)) (σ : List (Option V)) (H : Hp) (s : Shared) : Prop where
  ok : X.Ok
  os : s.os = X.s_0.os
  bare : AllBare s.gens
  base : Un X.fs X.ex X.H_0 H X.s_0.heap s.heap
  loc : ∃ m, s.heap.Ns X.env.locals m ∧ ∀ (i : Nat) (x : Str) (v : V), X.N[i]? = some x → σ[i]? = some (some v) → Vis X.env.scope x → ∃ u, RelV v u ∧ Look X.env s.heap m x u
  cell : ∀ x c, X.env.cells.lookup x = some c → ∃ v, s.heap.IsCell c v
  free : H X.env.locals = none
  freeC : ∀ x c, X.env.cells.lookup x = some c → H c = none
  pin : ∀ p ∈ X.pn ++ pins, s.heap.get? p.1 = some p.2 ∧ H p.1 = none ∧ p.1 ≠ X.env.locals ∧ p.1 ∉ X.fs ∧ ∀ v, p.2.data ≠ .cell v
  hok : HOk X.prog X.w H s.heap
  len : σ.length = X.N.length
section
variable {X : Cx} {pins : List (Addr × Obj)} {σ : List (Option V)} {H H' : Hp} {s : Shared} {h' : Heap}
theorem Cx.Ok.nofr (ok : X.Ok) {b : Addr} {o : Obj} (e : X.base.get? b = some o) : b ∉ X.fs := fun hb => by
  have := (ok.funs.mem hb).1
  rw [e] at this; cases this
theorem Inv.bs (I : Inv X pins σ H s) : ∀ b o, X.base.get? b = some o → s.heap.get? b = some o ∧ H b = none := fun b o e =>
  ⟨I.base.keep b o (I.ok.bs b o e).1 (I.ok.bs b o e).2 (I.ok.nofr e) (I.ok.noex b o e), I.base.free b o (I.ok.bs b o e).1 (I.ok.bs b o e).2 (I.ok.noex b o e)⟩
theorem Inv.bk (I : Inv X pins σ H s) : ∀ b o, X.base.get? b = some o → s.heap.get? b = some o := fun b o e => (I.bs b o e).1
theorem Inv.mod (I : Inv X pins σ H s) : Mod X.K X.mg X.base := I.ok.mod
theorem Inv.kIn (I : Inv X pins σ H s) : X.K.In s.heap := I.ok.mod.kin.keeps I.bk
theorem Inv.nolimit (I : Inv X pins σ H s) : s.heap.NoLimit := I.ok.mod.nolimit.keeps I.bk
theorem Inv.fr (I : Inv X pins σ H s) : ∃ m, Fr X.base X.env.locals s.heap m :=
  let ⟨m, hn, _⟩ := I.loc
  ⟨m, hn, I.bk, Nat.le_trans I.ok.bsz I.ok.above⟩
theorem Inv.lt (I : Inv X pins σ H s) : X.env.locals < s.heap.objs.size := let ⟨_, hn, _⟩ := I.loc; hn.lt
theorem Inv.sz (I : Inv X pins σ H s) : X.s_0.heap.objs.size ≤ s.heap.objs.size := Nat.le_trans I.ok.above (Nat.le_of_lt I.lt)
theorem Inv.nofs (I : Inv X pins σ H s) {a : Addr} (h : s.heap.objs.size ≤ a) : a ∉ X.fs := fun hb => by
  obtain ⟨_, o, ho, _⟩ := I.ok.funs.mem hb
  exact absurd (Nat.lt_of_lt_of_le (Heap.lt_size ho) (Nat.le_trans I.sz h)) (Nat.lt_irrefl _)
theorem Inv.cne (I : Inv X pins σ H s) : ∀ x c, X.env.cells.lookup x = some c → c ≠ X.env.locals := fun x c e z => by
  obtain ⟨v, o, ho, hd⟩ := I.cell x c e
  obtain ⟨m, ⟨o', es, ep, ho', hd', _⟩, _⟩ := I.loc
  rw [z, ho'] at ho; cases ho; rw [hd'] at hd; cases hd
theorem Inv.funs (I : Inv X pins σ H s) : s.heap.FunFrames X.base X.outer := by
  have all : ∀ (l : List Env), (∀ b ∈ frs l, b ∈ X.fs) → X.s_0.heap.FunFrames X.base l → s.heap.FunFrames X.base l := by
    intro l
    induction l with
    | nil => intro _ _; trivial
    | cons env r ih =>
      intro hs hl
      obtain ⟨hk, ⟨L, o, hf, hn, ho, hd⟩, hr⟩ := hl
      have hL : L ∈ X.fs := hs L (by unfold frs; rw [List.filterMap_cons, hf]; exact List.mem_cons_self)
      obtain ⟨sl, e⟩ := I.base.slot L o ho (I.ok.frf L hL) hL fun z => I.ok.exfs L z hL
      exact ⟨hk, ⟨L, _, hf, hn, e, hd⟩, ih (fun b hb => hs b (by unfold frs; rw [List.filterMap_cons, hf]; exact List.mem_cons_of_mem _ hb)) hr⟩
  exact all X.outer (fun _ hb => hb) I.ok.funs
theorem Inv.stack (I : Inv X pins σ H s) : s.heap.FunFrames X.base X.stack := by
  rcases I.ok.stk with e | ⟨e, hf⟩
  · rw [e]; exact I.funs
  · rw [e]
    obtain ⟨m, hn, _⟩ := I.loc
    refine .cons (by rw [I.ok.kind]; decide) hf hn ?_ I.funs
    exact Heap.get?_none_of_le (Nat.le_trans I.ok.bsz I.ok.above)
theorem Inv.stkSub (I : Inv X pins σ H s) : ∀ b ∈ frs X.stack, b ∈ X.env.locals :: X.fs := fun b hb => by
  rcases I.ok.stk with e | ⟨e, hf⟩
  · rw [e] at hb; exact List.mem_cons_of_mem _ hb
  · rw [e] at hb
    unfold frs at hb
    rw [List.filterMap_cons, hf] at hb
    exact hb
theorem Inv.stkFree (I : Inv X pins σ H s) : ∀ b ∈ frs X.stack, H b = none := fun b hb => by
  rcases List.mem_cons.mp (I.stkSub b hb) with e | hb
  · rw [e]; exact I.free
  · obtain ⟨_, o, ho, _⟩ := I.ok.funs.mem hb
    exact I.base.free b o ho (I.ok.frf b hb) fun z => I.ok.exfs b z hb
theorem Inv.step {g' : Array GenState} {t' : Nat} {d' : Drawn} {ch : List Addr} (I : Inv X pins σ H s)
    (hch : ∀ b ∈ ch, (b ∈ X.ex ∨ X.s_0.heap.objs.size ≤ b) ∧ b ≠ X.env.locals ∧ (∀ x c, X.env.cells.lookup x = some c → c ≠ b) ∧ ∀ p ∈ X.pn ++ pins, p.1 ≠ b)
    (keep : ∀ b o, b ≠ X.env.locals → b ∉ X.fs → b ∉ ch → s.heap.get? b = some o → H b = none → h'.get? b = some o)
    (slot : ∀ b o, b ≠ X.env.locals → b ∈ X.fs → b ∉ ch → s.heap.get? b = some o → H b = none → ∃ sl, h'.get? b = some { o with slots := sl }) (free : ∀ b o, b ∉ ch → s.heap.get? b = some o → H b = none → H' b = none)
    (there : ∀ b o, b ∉ ch → s.heap.get? b = some o → ∃ o', h'.get? b = some o')
    (tups : ∀ b xs, H b = some (.tup xs) → H' b = some (.tup xs)) (frzs : ∀ b o u, H b = some (.frz o u) → H' b = some (.frz o u)) (tbls : ∀ b ps, H b = some (.tbl ps) → ∃ more, H' b = some (.tbl (ps ++ more)))
    (ns : ∀ m, s.heap.Ns X.env.locals m → h'.Ns X.env.locals m) (hok : HOk X.prog X.w H' h') (hg : AllBare g') :
    Inv X pins σ H' { s with heap := h', gens := g', drawn := d', toks := t' } := by
  have neL : ∀ b o, X.s_0.heap.get? b = some o → b ≠ X.env.locals := fun b o e => Nat.ne_of_lt (Nat.lt_of_lt_of_le (Heap.lt_size e) I.ok.above)
  have neC : ∀ b o, X.s_0.heap.get? b = some o → b ∉ X.ex → b ∉ ch := fun b o e hx hb => by
    rcases (hch b hb).1 with z | z
    · exact hx z
    · exact absurd (Nat.lt_of_lt_of_le (Heap.lt_size e) z) (Nat.lt_irrefl _)
  have cellK : ∀ x c, X.env.cells.lookup x = some c → ∀ v, s.heap.IsCell c v → h'.IsCell c v := fun x c e v ⟨o, ho, hd⟩ => by
    have nch : c ∉ ch := fun z => (hch c z).2.2.1 x c e rfl
    by_cases hc : c ∈ X.fs
    · obtain ⟨sl, q⟩ := slot c o (I.cne x c e) hc nch ho (I.freeC x c e)
      exact ⟨_, q, hd⟩
    · exact ⟨o, keep c o (I.cne x c e) hc nch ho (I.freeC x c e), hd⟩
  refine ⟨I.ok, I.os, hg, ⟨fun b o e n hb hx => ?_, fun b o e n hb hx => ?_, fun b o e n hx => ?_, fun b o e hx => ?_, fun b xs e => tups b xs (I.base.tups b xs e), fun b o xs e => frzs b o xs (I.base.frzs b o xs e), fun b ps e => ?_⟩, ?_, fun x c e => ?_, ?_, fun x c e => ?_, fun p hp => ?_, hok, I.len⟩
  · exact keep b o (neL b o e) hb (neC b o e hx) (I.base.keep b o e n hb hx) (I.base.free b o e n hx)
  · obtain ⟨sl, e1⟩ := I.base.slot b o e n hb hx
    obtain ⟨sl', e2⟩ := slot b _ (neL b o e) hb (neC b o e hx) e1 (I.base.free b o e n hx)
    exact ⟨sl', e2⟩
  · obtain ⟨o', e1⟩ := I.base.there b o e hx
    exact free b o' (neC b o e hx) e1 (I.base.free b o e n hx)
  · obtain ⟨o', e1⟩ := I.base.there b o e hx
    exact there b o' (neC b o e hx) e1
  · obtain ⟨m1, e1⟩ := I.base.tbls b ps e
    obtain ⟨m2, e2⟩ := tbls b _ e1
    exact ⟨m1 ++ m2, by rw [e2, Array.append_assoc]⟩
  · obtain ⟨m, hn, hl⟩ := I.loc
    refine ⟨m, ns m hn, fun i x v e1 e2 e3 => ?_⟩
    obtain ⟨u, r, l⟩ := hl i x v e1 e2 e3
    refine ⟨u, r, ?_⟩
    rcases l with l | ⟨k, c, e, z⟩
    · exact .inl l
    · exact .inr ⟨k, c, e, cellK x c e _ z⟩
  · obtain ⟨v, z⟩ := I.cell x c e
    exact ⟨v, cellK x c e v z⟩
  · obtain ⟨m, ⟨o, _, _, ho, _⟩, _⟩ := I.loc
    exact free _ o (fun z => (hch _ z).2.1 rfl) ho I.free
  · obtain ⟨v, o, ho, hd⟩ := I.cell x c e
    exact free c o (fun z => (hch c z).2.2.1 x c e rfl) ho (I.freeC x c e)
  · obtain ⟨e, n, ne, nf, d⟩ := I.pin p hp
    have nch : p.1 ∉ ch := fun z => (hch p.1 z).2.2.2 p hp rfl
    exact ⟨keep p.1 p.2 ne nf nch e n, free p.1 p.2 nch e n, ne, nf, d⟩
theorem Inv.un {t' : Nat} (I : Inv X pins σ H s) (u : Un X.fs [] H H' s.heap h') (hok : HOk X.prog X.w H' h') : Inv X pins σ H' { s with heap := h', toks := t' } := by
  obtain ⟨m, ⟨o, es, ep, ho, r⟩, _⟩ := id I.loc
  obtain ⟨sl, hL⟩ := u.any ho I.free (by simp)
  exact I.step (g' := s.gens) (d' := s.drawn) (ch := []) (fun _ z => nomatch z) (fun b o _ hb _ e n => u.keep b o e n hb (by simp)) (fun b o _ hb _ e n => u.slot b o e n hb (by simp)) (fun b o _ e n => u.free b o e n (by simp)) (fun b o _ e => u.there b o e (by simp)) u.tups u.frzs u.tbls (fun m' hm => by
    obtain ⟨o', es', ep', ho', r'⟩ := hm
    rw [ho] at ho'; cases ho'
    exact ⟨_, es', ep', hL, r'⟩) hok I.bare
theorem Inv.call {g' : Array GenState} {t' : Nat} {d' : Drawn} {ch : List Addr} (I : Inv X pins σ H s) (u : Un (frs X.stack) ch H H' s.heap h') (hok : HOk X.prog X.w H' h') (hg : AllBare g')
    (hch : ∀ b ∈ ch, (b ∈ X.ex ∨ X.s_0.heap.objs.size ≤ b) ∧ b ≠ X.env.locals ∧ (∀ x c, X.env.cells.lookup x = some c → c ≠ b) ∧ ∀ p ∈ X.pn ++ pins, p.1 ≠ b) :
    Inv X pins σ H' { s with heap := h', gens := g', drawn := d', toks := t' } := by
  obtain ⟨m, ⟨o, es, ep, ho, r⟩, _⟩ := id I.loc
  obtain ⟨sl, hL⟩ := u.any ho I.free fun z => (hch _ z).2.1 rfl
  exact I.step (ch := ch) hch (fun b o hL hb hc e n => u.keep b o e n (fun z => (List.mem_cons.mp (I.stkSub b z)).elim hL hb) hc) (fun b o _ _ hc e n => u.any e n hc) (fun b o hc e n => u.free b o e n hc) (fun b o hc e => u.there b o e hc) u.tups u.frzs u.tbls (fun m' hm => by
    obtain ⟨o', es', ep', ho', r'⟩ := hm
    rw [ho] at ho'; cases ho'
    exact ⟨_, es', ep', hL, r'⟩) hok hg
theorem Inv.turned {t' : Nat} {it : Addr} (I : Inv X pins σ H s) (k : ∀ b o, b ≠ it → s.heap.get? b = some o → h'.get? b = some o) (hn : H it = none) (hL : it ≠ X.env.locals)
    (h1 : it ∈ X.ex ∨ X.s_0.heap.objs.size ≤ it) (h2 : ∀ x c, X.env.cells.lookup x = some c → c ≠ it) (h3 : ∀ p ∈ X.pn ++ pins, p.1 ≠ it) : Inv X pins σ H { s with heap := h', toks := t' } := by
  have nit : ∀ b u, H b = some u → b ≠ it := fun b u e z => by rw [z, hn] at e; cases e
  refine I.step (g' := s.gens) (d' := s.drawn) (ch := [it]) (fun b hb => ?_) (fun b o _ _ hc e _ => k b o (fun z => hc (by simp [z])) e) (fun b o _ _ hc e _ => ⟨o.slots, k b o (fun z => hc (by simp [z])) e⟩) (fun _ _ _ _ n => n)
    (fun b o hc e => ⟨o, k b o (fun z => hc (by simp [z])) e⟩) (fun _ _ e => e) (fun _ _ _ e => e) (fun b ps e => ⟨#[], by rw [e]; simp⟩) (fun m hm => ?_) (fun b u e => ?_) I.bare
  · have e : b = it := by simpa using hb
    subst e
    exact ⟨h1, hL, h2, h3⟩
  · obtain ⟨o, es, ep, ho, r⟩ := hm
    exact ⟨o, es, ep, k _ o (Ne.symm hL) ho, r⟩
  · refine (I.hok b u e).stay (fun c v hc q => k c v ?_ q) (fun _ q => q) fun _ _ q => q
    rcases hc with z | z
    · rw [z]; exact nit b u e
    · exact nit c _ z
theorem Inv.tok (I : Inv X pins σ H s) (t : Nat) : Inv X pins σ H { s with toks := t } := I.un (h' := s.heap) (t' := t) Un.refl I.hok
theorem Inv.kept {t' : Nat} (I : Inv X pins σ H s) (k : ∀ b u, s.heap.get? b = some u → h'.get? b = some u) : Inv X pins σ H { s with heap := h', toks := t' } := I.un (Un.kept k) (I.hok.kept k)
theorem Inv.laid {a : Addr} {o : HO} {t' : Nat} (I : Inv X pins σ H s) (k : ∀ b u, s.heap.get? b = some u → h'.get? b = some u) (hp : s.heap.objs.size ≤ a) (new : ObjOk X.prog X.w (upd H a o) h' a o) :
    Inv X pins σ (upd H a o) { s with heap := h', toks := t' } := I.un (Un.laid k hp (I.hok.fresh hp)) (I.hok.laid k hp new)
theorem Inv.write {x e : Addr} {o : HO} {t' : Nat} (I : Inv X pins σ H s) (mu : Mut (H x)) (he : e = x ∨ H e = some (.own x)) (k : ∀ b u, b ≠ e → s.heap.get? b = some u → h'.get? b = some u) (heo : ∃ u, h'.get? e = some u)
    (new : ObjOk X.prog X.w (upd H x o) h' x o) : Inv X pins σ (upd H x o) { s with heap := h', toks := t' } := I.un (Un.write mu he k heo) (I.hok.write mu he k heo new)
theorem Inv.weak {σ' : List (Option V)} (I : Inv X pins σ H s) (hl : σ'.length = σ.length) (w : ∀ (i : Nat) v, σ'[i]? = some (some v) → σ[i]? = some (some v)) : Inv X pins σ' H s :=
  ⟨I.ok, I.os, I.bare, I.base, let ⟨m, hn, hl'⟩ := I.loc; ⟨m, hn, fun i x v e1 e2 e3 => hl' i x v e1 (w i v e2) e3⟩, I.cell, I.free, I.freeC, I.pin, I.hok, hl.trans I.len⟩
theorem Inv.pins_of {pins' : List (Addr × Obj)} (I : Inv X pins σ H s) (h : ∀ p ∈ pins', s.heap.get? p.1 = some p.2 ∧ H p.1 = none ∧ p.1 ≠ X.env.locals ∧ p.1 ∉ X.fs ∧ ∀ v, p.2.data ≠ .cell v) : Inv X pins' σ H s :=
  ⟨I.ok, I.os, I.bare, I.base, I.loc, I.cell, I.free, I.freeC, fun p hp => (List.mem_append.mp hp).elim (fun z => I.pin p (List.mem_append_left _ z)) (h p), I.hok, I.len⟩
theorem nodup_ix {N : List Str} (hN : N.Nodup) {i j : Nat} {x : Str} (a : N[i]? = some x) (b : N[j]? = some x) : i = j := by
  obtain ⟨h1, e1⟩ := List.getElem?_eq_some_iff.mp a
  obtain ⟨h2, e2⟩ := List.getElem?_eq_some_iff.mp b
  exact (List.getElem_inj hN).mp (e1.trans e2.symm)
theorem store_ok2 {M : Model} {A : Around} {E : Value → Shared → Prop} {i : Nat} {x : Str} {v : V} {u : Value} {Q : Unit → Shared → Prop} (I : Inv X pins σ H s) (hN : X.N.Nodup) (hi : X.N[i]? = some x) (hx : Loc X.env.scope x) (r : RelV v u)
    (h : ∀ s', Inv X pins (σ.set i (some v)) H s' → (∃ a, Heap.SameBut a s.heap s'.heap ∧ (a = X.env.locals ∨ X.env.cells.lookup x = some a)) → Q () s') (hf : X.fn x = true ∨ X.env.scope.names.lookup x = some .local := by first | exact .inl rfl | exact .inr rfl | assumption) : wpAny M A (storeName X.env x u) Q E s := by
  obtain ⟨m, hn, hl⟩ := id I.loc
  have hcls : (X.env.scope.kind == .class || (X.env.scope.kind == .module && X.env.locals != X.env.globals)) = false := by rw [I.ok.kind]; rfl
  have hiσ : i < σ.length := by rw [I.len]; exact (List.getElem?_eq_some_iff.mp hi).1
  have cne := I.cne
  have tracked : ∀ {a : Addr} {h' : Heap}, (∃ o, s.heap.get? a = some o ∧ H a = none) → Heap.SameBut a s.heap h' → HOk X.prog X.w H h' := fun {a h'} ha hs b ob e => by
    obtain ⟨_, _, hfree⟩ := ha
    refine (I.hok b ob e).stay (fun c w' hc q => (hs.2 c ?_).trans q) (fun _ q => q) fun _ _ q => q
    rintro rfl
    rcases hc with rfl | hc
    · rw [hfree] at e; cases e
    · rw [hfree] at hc; cases hc
  rcases hx with hk | hk
  · refine wpAny_storeName_local hk hn (fun h' hn' hs => ?_) hcls
    obtain ⟨oL, _, _, hoL, _⟩ := id hn
    refine h _ ⟨I.ok, I.os, I.bare, ⟨fun b o e n hb hx => ?_, fun b o e n hb hx => ?_, I.base.free, fun b o e hx => ?_, I.base.tups, I.base.frzs, I.base.tbls⟩, ⟨_, hn', fun j y v' e1 e2 e3 => ?_⟩, fun y c e => ?_, I.free, I.freeC, fun p hp => ?_, tracked ⟨oL, hoL, I.free⟩ hs, by simpa using I.len⟩ ⟨_, hs, .inl rfl⟩
    · exact (hs.2 b (Nat.ne_of_lt (Nat.lt_of_lt_of_le (Heap.lt_size e) I.ok.above))).trans (I.base.keep b o e n hb hx)
    · obtain ⟨sl, e1⟩ := I.base.slot b o e n hb hx
      exact ⟨sl, (hs.2 b (Nat.ne_of_lt (Nat.lt_of_lt_of_le (Heap.lt_size e) I.ok.above))).trans e1⟩
    · obtain ⟨o', e1⟩ := I.base.there b o e hx
      exact ⟨o', (hs.2 b (Nat.ne_of_lt (Nat.lt_of_lt_of_le (Heap.lt_size e) I.ok.above))).trans e1⟩
    · by_cases hj : j = i
      · subst hj
        rw [hi] at e1; cases e1
        rw [List.getElem?_set_self hiσ] at e2
        cases e2
        exact ⟨u, r, .inl ⟨hk, by simp⟩⟩
      · rw [List.getElem?_set_ne (Ne.symm hj)] at e2
        obtain ⟨u', r', q⟩ := hl j y v' e1 e2 e3
        refine ⟨u', r', ?_⟩
        rcases q with ⟨k, e⟩ | ⟨k, c, e, z⟩
        · refine .inl ⟨k, ?_⟩
          have : y ≠ x := fun e => hj (nodup_ix hN e1 (e ▸ hi))
          simp [this, e]
        · exact .inr ⟨k, c, e, z.sameBut hs (cne y c e)⟩
    · obtain ⟨w', z⟩ := I.cell y c e
      exact ⟨w', z.sameBut hs (cne y c e)⟩
    · obtain ⟨e, n, ne, nf, d⟩ := I.pin p hp
      exact ⟨(hs.2 p.1 ne).trans e, n, ne, nf, d⟩
  · have hfn : X.fn x = true := by
      rcases hf with z | z
      · exact z
      · rw [z] at hk; cases hk
    obtain ⟨c, hc⟩ := I.ok.has x (.inl hk)
    obtain ⟨w', z⟩ := I.cell x c hc
    refine wpAny_storeName_cell I.ok.kind hk hc z (fun h' hc' hs => ?_)
    obtain ⟨oc, hoc, hocd⟩ := id z
    refine h { s with heap := h' } ⟨I.ok, I.os, I.bare, ⟨fun b o e n hb hx => ?_, fun b o e n hb hx => ?_, I.base.free, fun b o e hx => ?_, I.base.tups, I.base.frzs, I.base.tbls⟩, ⟨m, hn.sameBut hs (Ne.symm (cne x c hc)), fun j y v' e1 e2 e3 => ?_⟩, fun y c' e => ?_, I.free, I.freeC, fun p hp => ?_, tracked ⟨oc, hoc, I.freeC x c hc⟩ hs, by simpa using I.len⟩ ⟨c, hs, .inr hc⟩
    · exact (hs.2 b (Nat.ne_of_lt (Nat.lt_of_lt_of_le (Heap.lt_size e) (I.ok.cab x c hfn hc)))).trans (I.base.keep b o e n hb hx)
    · obtain ⟨sl, e1⟩ := I.base.slot b o e n hb hx
      exact ⟨sl, (hs.2 b (Nat.ne_of_lt (Nat.lt_of_lt_of_le (Heap.lt_size e) (I.ok.cab x c hfn hc)))).trans e1⟩
    · obtain ⟨o', e1⟩ := I.base.there b o e hx
      exact ⟨o', (hs.2 b (Nat.ne_of_lt (Nat.lt_of_lt_of_le (Heap.lt_size e) (I.ok.cab x c hfn hc)))).trans e1⟩
    · by_cases hj : j = i
      · subst hj
        rw [hi] at e1; cases e1
        rw [List.getElem?_set_self hiσ] at e2
        cases e2
        exact ⟨u, r, .inr ⟨.inl hk, c, hc, hc'⟩⟩
      · rw [List.getElem?_set_ne (Ne.symm hj)] at e2
        obtain ⟨u', r', q⟩ := hl j y v' e1 e2 e3
        refine ⟨u', r', ?_⟩
        rcases q with q | ⟨k, c', e, z'⟩
        · exact .inl q
        · refine .inr ⟨k, c', e, z'.sameBut hs ?_⟩
          rintro rfl
          exact hj (nodup_ix hN e1 (I.ok.inj _ _ _ e hc ▸ hi))
    · by_cases hcc : c' = c
      · subst hcc; exact ⟨_, hc'⟩
      · obtain ⟨w2, z2⟩ := I.cell y c' e
        exact ⟨w2, z2.sameBut hs hcc⟩
    · obtain ⟨e, n, ne, nf, d⟩ := I.pin p hp
      refine ⟨(hs.2 p.1 ?_).trans e, n, ne, nf, d⟩
      intro q
      rw [q, hoc] at e
      have q' : oc = p.2 := Option.some.inj e
      exact d w' (by rw [← q']; exact hocd)
theorem store_ok {M : Model} {A : Around} {E : Value → Shared → Prop} {i : Nat} {x : Str} {v : V} {u : Value} {Q : Unit → Shared → Prop} (I : Inv X pins σ H s) (hN : X.N.Nodup) (hi : X.N[i]? = some x) (hx : Loc X.env.scope x) (r : RelV v u)
    (h : ∀ s', Inv X pins (σ.set i (some v)) H s' → Q () s') (hf : X.fn x = true ∨ X.env.scope.names.lookup x = some .local := by first | exact .inl rfl | exact .inr rfl | assumption) : wpAny M A (storeName X.env x u) Q E s :=
  store_ok2 I hN hi hx r (fun s' I' _ => h s' I') hf
theorem Inv.call' {s' : Shared} {ch : List Addr} (I : Inv X pins σ H s) (ho : s'.os = s.os) (u : Un (frs X.stack) ch H H' s.heap s'.heap) (hok : HOk X.prog X.w H' s'.heap) (hg : AllBare s'.gens)
    (hch : ∀ b ∈ ch, (b ∈ X.ex ∨ X.s_0.heap.objs.size ≤ b) ∧ b ≠ X.env.locals ∧ (∀ x c, X.env.cells.lookup x = some c → c ≠ b) ∧ ∀ p ∈ X.pn ++ pins, p.1 ≠ b) : Inv X pins σ H' s' := by
  obtain ⟨h', g', d', t', o'⟩ := s'
  have e : o' = s.os := ho
  subst e
  exact I.call (g' := g') (t' := t') (d' := d') u hok hg hch
end
abbrev XK := Value → Option Addr → Hp → Prop
abbrev St := List (Option V)
abbrev VK := V → Hp → Prop
abbrev TE := St → Hp → VK → Prop
abbrev TT := St → Hp → (Bool → Hp → Prop) → Prop
abbrev TA := St → Hp → (List V → Hp → Prop) → Prop
structure Ends where
  nx : St → Hp → Prop
  rt : VK
  bk : St → Hp → Prop := fun _ _ => False
  ct : St → Hp → Prop := fun _ _ => False
abbrev TS := Ends → St → Hp → Prop
def EP (X : Cx) (pins : List (Addr × Obj)) (σ : St) (Q : VK) (u : Value) (s' : Shared) : Prop := ∃ v H', Inv X pins σ H' s' ∧ RelV v u ∧ Q v H'
def TP (X : Cx) (pins : List (Addr × Obj)) (σ : St) (Q : Bool → Hp → Prop) (b : Bool) (s' : Shared) : Prop := ∃ H', Inv X pins σ H' s' ∧ Q b H'
def AP (X : Cx) (pins : List (Addr × Obj)) (σ : St) (Q : List V → Hp → Prop) (us : List Value) (s' : Shared) : Prop := ∃ vs H', Inv X pins σ H' s' ∧ Vals vs us ∧ Q vs H'
def SP (X : Cx) (pins : List (Addr × Obj)) (D : Ends) (f : Flow) (s' : Shared) : Prop :=
  match f with
  | .next => ∃ σ' H', Inv X pins σ' H' s' ∧ D.nx σ' H'
  | .brk => ∃ σ' H', Inv X pins σ' H' s' ∧ D.bk σ' H'
  | .cont => ∃ σ' H', Inv X pins σ' H' s' ∧ D.ct σ' H'
  | .ret u => ∃ v σ' H', Inv X pins σ' H' s' ∧ RelV v u ∧ D.rt v H'
def PE (X : Cx) (e : Expr) (t : TE) : Prop :=
  ∀ (pins : List (Addr × Obj)) (s : Shared) (σ : St) (H : Hp) (Q : VK), Inv X pins σ H s → t σ H Q → wpAny (model X.prog X.w) X.A (eval e X.env) (EP X pins σ Q) X.xe s
def PT (X : Cx) (e : Expr) (t : TT) : Prop :=
  ∀ (pins : List (Addr × Obj)) (s : Shared) (σ : St) (H : Hp) (Q : Bool → Hp → Prop), Inv X pins σ H s → t σ H Q → wpAny (model X.prog X.w) X.A (isTrue e X.env (eval e X.env)) (TP X pins σ Q) X.xe s
def PW (X : Cx) (e : Expr) (t : TT) : Prop :=
  ∀ (whole : Sem Value) (pins : List (Addr × Obj)) (s : Shared) (σ : St) (H : Hp) (Q : Bool → Hp → Prop), Inv X pins σ H s → t σ H Q → wpAny (model X.prog X.w) X.A (isTrue e X.env whole) (TP X pins σ Q) X.xe s
theorem PW.pt {X : Cx} {e : Expr} {t : TT} (h : PW X e t) : PT X e t := h _
def PA (X : Cx) (es : List Expr) (t : TA) : Prop :=
  ∀ (pos : Pos) (pins : List (Addr × Obj)) (s : Shared) (σ : St) (H : Hp) (Q : List V → Hp → Prop), Inv X pins σ H s → t σ H Q → wpAny (model X.prog X.w) X.A (spliced (backTo pos (starEach es X.env))) (AP X pins σ Q) X.xe s
def PS (X : Cx) (st : Stmt) (t : TS) : Prop :=
  ∀ (pins : List (Addr × Obj)) (s : Shared) (σ : St) (H : Hp) (D : Ends), Inv X pins σ H s → t D σ H → wpAny (model X.prog X.w) X.A (exec st X.env) (SP X pins D) X.xe s
def PSs (X : Cx) (st : List Stmt) (t : TS) : Prop :=
  ∀ (pins : List (Addr × Obj)) (s : Shared) (σ : St) (H : Hp) (D : Ends), Inv X pins σ H s → t D σ H → wpAny (model X.prog X.w) X.A (execs st X.env) (SP X pins D) X.xe s
theorem thn {α : Type} {t : Sem α} {Q Q' : α → Shared → Prop} {M : Model} {A : Around} {E : Value → Shared → Prop} {s : Shared} (h : wpAny M A t Q E s) (hQ : ∀ a s, Q a s → Q' a s) : wpAny M A t Q' E s := wpAny_mono h hQ fun _ _ x => x
end L2
namespace L2
open PySem PySem.Spec PyProof.Rows
section
variable {X : Cx}
def tVar (i : Nat) : TE := fun σ H Q => ∃ v, σ[i]? = some (some v) ∧ Q v H
def tC (v : V) : TE := fun _ H Q => Q v H
theorem pe_var {i : Nat} {x : Str} {pos : Pos} (hN : X.N[i]? = some x) (hv : Vis X.env.scope x) (hd : (x == ("__debug__" : Str)) = false := by decide) (hcd : (x == ("__classdict__" : Str)) = false := by decide) : PE X (.Name x pos) (tVar i) := by
  intro pins s σ H Q I h
  obtain ⟨v, e, h⟩ := h
  obtain ⟨m, hn, hl⟩ := I.loc
  obtain ⟨u, r, l⟩ := hl i x v hN e hv
  have fin : EP X pins σ Q u s := ⟨v, H, I, r, h⟩
  rcases l with ⟨hk, hm⟩ | ⟨hk, c, hc, hcell⟩
  · exact wpAny_Name (wpAny_loadName_local I.ok.kind hk hn hm fin) hd
  · rcases hk with hk | hk
    · exact wpAny_Name (wpAny_loadName_cell I.ok.kind hk hc hcell fin) hd
    · exact wpAny_Name (wpAny_loadName_free I.ok.kind hk hc hcell fin hcd) hd
theorem pe_int {i j pos} : PE X (.Constant (.int i) j pos) (tC (.int i)) := fun _ _ _ H _ I h => wpAny_Constant_int ⟨.int i, H, I.tok _, ⟨_, rfl⟩, h⟩
theorem pe_bl {b j pos} : PE X (.Constant (.bool b) j pos) (tC (.bl b)) := fun _ _ _ H _ I h => Constant_bool ⟨.bl b, H, I, rfl, h⟩
theorem pe_non {j pos} : PE X (.Constant .none j pos) (tC .non) := fun _ _ _ H _ I h => Constant_none ⟨.non, H, I, rfl, h⟩
theorem pe_str {x j pos} : PE X (.Constant (.str x) j pos) (tC (.str x)) := fun _ _ _ H _ I h => Calls.Constant_str ⟨.str x, H, I.tok _, ⟨_, rfl⟩, h⟩
def Gl (X : Cx) (x : Str) : Prop := X.env.kindOf x = some .globalImplicit
theorem ld_glob {E : Value → Shared → Prop} {pins : List (Addr × Obj)} {s : Shared} {σ : St} {H : Hp} {x : Str} {u : Value} {pos : Pos} {Q : Value → Shared → Prop} (I : Inv X pins σ H s) (hg : Gl X x) (hm : X.mg x = some u) (h : Q u s)
    (hd : (x == ("__debug__" : Str)) = false := by decide) : wpAny (model X.prog X.w) X.A (eval (.Name x pos) X.env) Q E s :=
  Calls.Name_function_global I.ok.kind hg (Calls.loadGlobal_global (by rw [I.ok.glob]; exact I.mod.glob.keeps I.bk) hm h) hd
theorem ld_blt {E : Value → Shared → Prop} {pins : List (Addr × Obj)} {s : Shared} {σ : St} {H : Hp} {x : Str} {u : Value} {pos : Pos} {Q : Value → Shared → Prop} (I : Inv X pins σ H s) (hg : Gl X x) (hm : X.mg x = none) (hv : bootBuiltins x = some u) (h : Q u s)
    (hn : x ≠ "__name__" := by decide) (hd : (x == ("__debug__" : Str)) = false := by decide) : wpAny (model X.prog X.w) X.A (eval (.Name x pos) X.env) Q E s := by
  obtain ⟨mb, h1, h2⟩ := I.mod.blt
  exact Calls.Name_function_global I.ok.kind hg (Calls.loadGlobal_builtin (by rw [I.ok.glob]; exact I.mod.glob.keeps I.bk) hm (by rw [I.ok.blt]; exact h1.keeps I.bk) ((h2 x hn).trans hv) h) hd
theorem pe_glob {x : Str} {v : V} {u : Value} {pos : Pos} (hg : Gl X x) (hm : X.mg x = some u) (r : RelV v u) (hd : (x == ("__debug__" : Str)) = false := by decide) : PE X (.Name x pos) (tC v) :=
  fun _ _ _ H _ I h => ld_glob I hg hm ⟨v, H, I, r, h⟩ hd
theorem pe_bltn {x : Str} {v : V} {u : Value} {pos : Pos} (hg : Gl X x) (hm : X.mg x = none) (hv : bootBuiltins x = some u) (r : RelV v u) (hn : x ≠ "__name__" := by decide) (hd : (x == ("__debug__" : Str)) = false := by decide) : PE X (.Name x pos) (tC v) :=
  fun _ _ _ H _ I h => ld_blt I hg hm hv ⟨v, H, I, r, h⟩ hn hd
variable {a b : Expr} {ta tb : TE} {pos : Pos}
def tB (t : TE) : TT := fun σ H Q => t σ H fun x H1 => ∃ c, x = .bl c ∧ Q c H1
theorem pt_val {e : Expr} {t : TE} (h : PE X e t) (he : ∀ whole, isTrue e X.env whole = (do let v ← whole; standAt e.pos; holding [v] (truthy v)) := by intro _; rfl) : PT X e (tB t) := by
  intro pins s σ H Q I hw
  refine isTrue_plain (thn (h pins s σ H _ I hw) fun v s1 ⟨x, H1, I1, r1, q1⟩ => ?_) (he _)
  obtain ⟨d, rfl, q⟩ := q1
  cases r1
  exact wpAny_truthy_bool ⟨H1, I1, q⟩
variable {tA tB' : TT} {rest : List Expr}
def tAnd (t u : TT) : TT := fun σ H Q => t σ H fun c H1 => if c = true then u σ H1 Q else Q false H1
def tOr (t u : TT) : TT := fun σ H Q => t σ H fun c H1 => if c = true then Q true H1 else u σ H1 Q
def tNot (t : TT) : TT := fun σ H Q => t σ H fun c H1 => Q (!c) H1
theorem pw_and1 (ha : PT X a tA) : PW X (.BoolOp .And [a] pos) tA := by
  intro wh pins s σ H Q I h
  refine isTrue_and (thn (ha pins s σ H Q I h) fun c s1 e => ?_)
  cases c with
  | true => exact isTrue_and_nil e
  | false => exact e
theorem pw_or1 (ha : PT X a tA) : PW X (.BoolOp .Or [a] pos) tA := by
  intro wh pins s σ H Q I h
  refine isTrue_or (thn (ha pins s σ H Q I h) fun c s1 e => ?_)
  cases c with
  | false => exact isTrue_or_nil e
  | true => exact e
theorem pw_and (ha : PT X a tA) (hb : PW X (.BoolOp .And (b :: rest) pos) tB') : PW X (.BoolOp .And (a :: b :: rest) pos) (tAnd tA tB') := by
  intro wh pins s σ H Q I h
  refine isTrue_and (thn (ha pins s σ H _ I h) fun c s1 ⟨H1, I1, q1⟩ => ?_)
  cases c with
  | true => exact hb wh pins s1 σ H1 Q I1 q1
  | false => exact ⟨H1, I1, q1⟩
theorem pw_or (ha : PT X a tA) (hb : PW X (.BoolOp .Or (b :: rest) pos) tB') : PW X (.BoolOp .Or (a :: b :: rest) pos) (tOr tA tB') := by
  intro wh pins s σ H Q I h
  refine isTrue_or (thn (ha pins s σ H _ I h) fun c s1 ⟨H1, I1, q1⟩ => ?_)
  cases c with
  | true => exact ⟨H1, I1, q1⟩
  | false => exact hb wh pins s1 σ H1 Q I1 q1
theorem pt_not (ha : PT X a tA) : PT X (.UnaryOp .Not a pos) (tNot tA) := by
  intro pins s σ H Q I h
  exact isTrue_not (ha pins s σ H (fun c H1 => Q (!c) H1) I h)
def tAndV (ta tb : TE) : TE := fun σ H Q => ta σ H fun x H1 => ∃ c, x = .bl c ∧ if c = true then tb σ H1 Q else Q (.bl false) H1
def tOrV (ta tb : TE) : TE := fun σ H Q => ta σ H fun x H1 => ∃ c, x = .bl c ∧ if c = true then Q (.bl true) H1 else tb σ H1 Q
def tNotV (ta : TE) : TE := fun σ H Q => ta σ H fun x H1 => ∃ c, x = .bl c ∧ Q (.bl (!c)) H1
theorem pe_one {op} {t : TE} (h : PE X a t) : PE X (.BoolOp op [a] pos) t := fun pins s σ H Q I hw => BoolOp_one (h pins s σ H Q I hw)
theorem pe_and (ha : PE X a ta) (hb : PE X (.BoolOp .And (b :: rest) pos) tb) : PE X (.BoolOp .And (a :: b :: rest) pos) (tAndV ta tb) := by
  intro pins s σ H Q I h
  refine BoolOp_and (thn (ha pins s σ H _ I h) fun v s1 ⟨x, H1, I1, r1, q1⟩ => ?_)
  obtain ⟨c, rfl, q1⟩ := q1
  cases r1
  refine wpAny_truthy_bool ?_
  cases c with
  | true => exact hb pins s1 σ H1 Q I1 q1
  | false => exact ⟨.bl false, H1, I1, rfl, q1⟩
theorem pe_or (ha : PE X a ta) (hb : PE X (.BoolOp .Or (b :: rest) pos) tb) : PE X (.BoolOp .Or (a :: b :: rest) pos) (tOrV ta tb) := by
  intro pins s σ H Q I h
  refine BoolOp_or (thn (ha pins s σ H _ I h) fun v s1 ⟨x, H1, I1, r1, q1⟩ => ?_)
  obtain ⟨c, rfl, q1⟩ := q1
  cases r1
  refine wpAny_truthy_bool ?_
  cases c with
  | false => exact hb pins s1 σ H1 Q I1 q1
  | true => exact ⟨.bl true, H1, I1, rfl, q1⟩
theorem pe_not (ha : PE X a ta) : PE X (.UnaryOp .Not a pos) (tNotV ta) := by
  intro pins s σ H Q I h
  refine UnaryOp_ (thn (ha pins s σ H _ I h) fun v s1 ⟨x, H1, I1, r1, q1⟩ => ?_)
  obtain ⟨c, rfl, q1⟩ := q1
  cases r1
  exact not_of (wpAny_truthy_bool ⟨.bl (!c), H1, I1, rfl, q1⟩)
def tIf (t : TT) (ta tb : TE) : TE := fun σ H Q => t σ H fun c H1 => if c = true then ta σ H1 Q else tb σ H1 Q
theorem pe_ifExp {c : Expr} (hc : PT X c tA) (ha : PE X a ta) (hb : PE X b tb) : PE X (.IfExp c a b pos) (tIf tA ta tb) := by
  intro pins s σ H Q I h
  refine wpAny_IfExp (thn (hc pins s σ H _ I h) fun d s1 ⟨H1, I1, q1⟩ => ?_)
  cases d with
  | true => exact ha pins s1 σ H1 Q I1 q1
  | false => exact hb pins s1 σ H1 Q I1 q1
end
end L2
namespace L2
open PySem PySem.Spec PyProof.Rows
def SqL (K : PySem.W.Frag) (H : Hp) (a : Addr) (xs : List V) : Prop :=
  Rd H a (.lst xs) ∨
    ∃ (o : Obj) (its : Array Value) (n : Nat), K.lookup a = some o ∧ o.cls = .type "list" ∧ o.dict = none ∧ o.data = .seq its n ∧ its.size ≤ sizeLine ∧ Vals xs its.toList
def SqT (K : PySem.W.Frag) (H : Hp) (a : Addr) (xs : List V) : Prop :=
  Rd H a (.tup xs) ∨
    ∃ (o : Obj) (its : Array Value) (n : Nat), K.lookup a = some o ∧ o.cls = .type "tuple" ∧ o.data = .seq its n ∧ its.size ≤ sizeLine ∧ Vals xs its.toList
def absV : Value → Option V
  | .none => some .non
  | .bool b => some (.bl b)
  | .int i _ => some (.int i)
  | .str x _ => some (.str x)
  | .bytes b _ => some (.byt b)
  | .float b _ => some (.flt b)
  | .ref a => some (.ref a)
  | .type n => some (.ty n)
  | _ => none
theorem RelV.abs {x : V} {u : Value} (r : RelV x u) : absV u = some x := by
  cases x with
  | non => cases r; rfl
  | bl _ => cases r; rfl
  | int _ => obtain ⟨t, rfl⟩ := r; rfl
  | str _ => obtain ⟨t, rfl⟩ := r; rfl
  | byt _ => obtain ⟨t, rfl⟩ := r; rfl
  | flt _ => obtain ⟨t, rfl⟩ := r; rfl
  | ref _ => cases r; rfl
  | ty _ => cases r; rfl
theorem RelV.inj {x y : V} {u : Value} (r : RelV x u) (q : RelV y u) : x = y := Option.some.inj (r.abs.symm.trans q.abs)
theorem Vals.inj : ∀ {xs ys : List V} {us : List Value}, Vals xs us → Vals ys us → xs = ys
  | _, _, _, .nil, .nil => rfl
  | _, _, _, .cons r t, .cons r' t' => by rw [r.inj r', Vals.inj t t']
section
variable {X : Cx} {pins : List (Addr × Obj)} {σ : St} {H : Hp} {s : Shared} {a : Addr} {xs ys : List V}
theorem SqL.of {K : PySem.W.Frag} (h : H a = some (.lst xs)) : SqL K H a xs := .inl (.inl h)
theorem SqT.of {K : PySem.W.Frag} (h : H a = some (.tup xs)) : SqT K H a xs := .inl (.inl h)
theorem Inv.list (I : Inv X pins σ H s) (h : SqL X.K H a xs) : ∃ its : List Value, Vals xs its ∧ PlainL s.heap a its.toArray ∧ xs.length ≤ sizeLine := by
  rcases h with h | ⟨o, its, n, hk, hc, hd, hs, hz, r⟩
  · obtain ⟨z, its, n, r, e⟩ := h.ok I.hok
    exact ⟨its, r, ⟨_, n, e, rfl, rfl, rfl⟩, z⟩
  · refine ⟨its.toList, r, ⟨o, n, I.kIn a o hk, hc, hd, by simpa using hs⟩, ?_⟩
    have e := r.length
    simp only [Array.length_toList] at e
    omega
theorem Inv.tuple (I : Inv X pins σ H s) (h : SqT X.K H a xs) : ∃ its : List Value, Vals xs its ∧ IsTup s.heap a its.toArray ∧ xs.length ≤ sizeLine := by
  rcases h with h | ⟨o, its, n, hk, hc, hs, hz, r⟩
  · obtain ⟨z, its, r, p⟩ := h.ok I.hok
    exact ⟨its, r, p, z⟩
  · refine ⟨its.toList, r, ⟨o, I.kIn a o hk, hc, n, by simpa using hs⟩, ?_⟩
    have e := r.length
    simp only [Array.length_toList] at e
    omega
end
abbrev Cx.wish (X : Cx) (E : Value → Shared → Prop) : Cx := { X with xe := E }
abbrev Cx.nox (X : Cx) : Cx := X.wish fun _ _ => False
theorem Cx.Ok.wish {X : Cx} (ok : X.Ok) (E : Value → Shared → Prop) : (X.wish E).Ok :=
  ⟨ok.mod, ok.kind, ok.glob, ok.blt, ok.above, ok.inj, ok.has, ok.cab, ok.hd, ok.frames, ok.stk, ok.exf, ok.bs, ok.bsz, ok.noex, ok.exfs, ok.funs, ok.frf⟩
theorem Cx.Ok.unwish {X : Cx} {E : Value → Shared → Prop} (ok : (X.wish E).Ok) : X.Ok :=
  ⟨ok.mod, ok.kind, ok.glob, ok.blt, ok.above, ok.inj, ok.has, ok.cab, ok.hd, ok.frames, ok.stk, ok.exf, ok.bs, ok.bsz, ok.noex, ok.exfs, ok.funs, ok.frf⟩
section
variable {X : Cx} {pins : List (Addr × Obj)} {σ : St} {H : Hp} {s : Shared} {E : Value → Shared → Prop}
theorem Inv.wish (I : Inv X pins σ H s) (E : Value → Shared → Prop) : Inv (X.wish E) pins σ H s := ⟨I.ok.wish E, I.os, I.bare, I.base, I.loc, I.cell, I.free, I.freeC, I.pin, I.hok, I.len⟩
theorem Inv.unwish (I : Inv (X.wish E) pins σ H s) : Inv X pins σ H s := ⟨I.ok.unwish, I.os, I.bare, I.base, I.loc, I.cell, I.free, I.freeC, I.pin, I.hok, I.len⟩
theorem SP.unwish {D : Ends} {f : Flow} {s' : Shared} (h : SP (X.wish E) pins D f s') : SP X pins D f s' := by
  cases f with
  | next => obtain ⟨σ', H', I, q⟩ := h; exact ⟨σ', H', I.unwish, q⟩
  | brk => obtain ⟨σ', H', I, q⟩ := h; exact ⟨σ', H', I.unwish, q⟩
  | cont => obtain ⟨σ', H', I, q⟩ := h; exact ⟨σ', H', I.unwish, q⟩
  | ret u => obtain ⟨v, σ', H', I, r, q⟩ := h; exact ⟨v, σ', H', I.unwish, r, q⟩
theorem PE.nox {e : Expr} {t : TE} (h : PE X.nox e t) : PE X e t := fun pins s σ H Q I hw =>
  wpAny_mono (h pins s σ H Q (I.wish _) hw) (fun _ _ ⟨v, H', I', r, q⟩ => ⟨v, H', I'.unwish, r, q⟩) fun _ _ z => False.elim z
theorem PT.nox {e : Expr} {t : TT} (h : PT X.nox e t) : PT X e t := fun pins s σ H Q I hw =>
  wpAny_mono (h pins s σ H Q (I.wish _) hw) (fun _ _ ⟨H', I', q⟩ => ⟨H', I'.unwish, q⟩) fun _ _ z => False.elim z
theorem PSs.nox {st : List Stmt} {t : TS} (h : PSs X.nox st t) : PSs X st t := fun pins s σ H D I hw =>
  wpAny_mono (h pins s σ H D (I.wish _) hw) (fun _ _ q => q.unwish) fun _ _ z => False.elim z
end
section
variable {X : Cx} {st : Stmt} {rest : List Stmt} {t u : TS} {e : Expr} {te : TE} {pos : Pos}
def tNext : TS := fun D σ H => D.nx σ H
def tSeq (t u : TS) : TS := fun D σ H => t { D with nx := u D } σ H
theorem pss_nil : PSs X [] tNext := fun _ _ σ H _ I h => wpAny_execs_nil ⟨σ, H, I, h⟩
theorem pss_cons (h1 : PS X st t) (h2 : PSs X rest u) : PSs X (st :: rest) (tSeq t u) := by
  intro pins s σ H D I h
  refine wpAny_execs_cons (thn (h1 pins s σ H { D with nx := u D } I h) fun f s1 q => ?_)
  cases f with
  | next =>
    obtain ⟨σ', H', I', q⟩ := q
    exact h2 pins s1 σ' H' D I' q
  | ret v => exact q
  | brk => exact q
  | cont => exact q
theorem pss_one (h1 : PS X st t) : PSs X [st] t := by
  intro pins s σ H D I h
  refine wpAny_execs_cons (thn (h1 pins s σ H D I h) fun f s1 q => ?_)
  cases f with
  | next => exact wpAny_execs_nil q
  | ret v => exact q
  | brk => exact q
  | cont => exact q
def tRet (te : TE) : TS := fun D σ H => te σ H D.rt
theorem ps_ret (he : PE X e te) : PS X (.Return (some e) pos) (tRet te) := by
  intro pins s σ H D I h
  exact wpAny_Return_some (thn (he pins s σ H _ I h) fun v s1 ⟨x, H1, I1, r1, q1⟩ => ⟨x, σ, H1, I1, r1, q1⟩)
def tIfS (c : TT) (t u : TS) : TS := fun D σ H => c σ H fun b H1 => if b = true then t D σ H1 else u D σ H1
theorem ps_if {c : Expr} {a b : List Stmt} {tc : TT} (hc : PT X c tc) (ha : PSs X a t) (hb : PSs X b u) : PS X (.If c a b pos) (tIfS tc t u) := by
  intro pins s σ H D I h
  refine wpAny_If (thn (hc pins s σ H _ I h) fun d s1 ⟨H1, I1, q1⟩ => ?_)
  cases d with
  | true => exact ha pins s1 σ H1 D I1 q1
  | false => exact hb pins s1 σ H1 D I1 q1
def tNever : TS := fun _ _ _ => False
theorem ps_never : PS X st tNever := fun _ _ _ _ _ _ h => h.elim
end
abbrev TG := V → St → Hp → (St → Hp → Prop) → Prop
abbrev TGs := List V → St → Hp → (St → Hp → Prop) → Prop
def PG (X : Cx) (target : Expr) (t : TG) : Prop :=
  ∀ (pins : List (Addr × Obj)) (s : Shared) (σ : St) (H : Hp) (v : V) (u : Value) (Q : St → Hp → Prop), Inv X pins σ H s → RelV v u → t v σ H Q →
    wpAny (model X.prog X.w) X.A (assign target X.env u) (fun _ s' => ∃ σ' H', Inv X pins σ' H' s' ∧ Q σ' H') X.xe s
def PGs (X : Cx) (ts : List Expr) (t : TGs) : Prop :=
  ∀ (pins : List (Addr × Obj)) (s : Shared) (σ : St) (H : Hp) (vs : List V) (us : List Value) (Q : St → Hp → Prop), Inv X pins σ H s → Vals vs us → t vs σ H Q →
    wpAny (model X.prog X.w) X.A (assignInOrder ((assignEach ts X.env).map (·.2)) us) (fun _ s' => ∃ σ' H', Inv X pins σ' H' s' ∧ Q σ' H') X.xe s
abbrev TSet := V → V → V → Hp → (Hp → Prop) → Prop
def PSet (X : Cx) (t : TSet) : Prop :=
  ∀ (pins : List (Addr × Obj)) (s : Shared) (σ : St) (H : Hp) (o i v : V) (ov iv u : Value) (Q : Hp → Prop), Inv X pins σ H s → RelV o ov → RelV i iv → RelV v u → t o i v H Q →
    wpAny (model X.prog X.w) X.A (setItem ov iv u) (fun _ s' => ∃ H', Inv X pins σ H' s' ∧ Q H') X.xe s
section
variable {X : Cx} {pos : Pos}
def gName (i : Nat) : TG := fun v σ H Q => Q (σ.set i (some v)) H
theorem pg_name {i : Nat} {x : Str} (hN : X.N.Nodup) (hi : X.N[i]? = some x) (hx : Loc X.env.scope x) (hf : X.fn x = true ∨ X.env.scope.names.lookup x = some .local := by first | exact .inl rfl | exact .inr rfl | assumption) : PG X (.Name x pos) (gName i) := by
  intro pins s σ H v u Q I r h
  exact wpAny_assign_Name (store_ok I hN hi hx r (fun s' I' => ⟨_, H, I', h⟩) hf)
def gNil : TGs := fun vs σ H Q => vs = [] ∧ Q σ H
def gCons (t : TG) (u : TGs) : TGs := fun vs σ H Q => ∃ v r, vs = v :: r ∧ t v σ H fun σ' H' => u r σ' H' Q
theorem pgs_nil : PGs X [] gNil := by
  intro pins s σ H vs us Q I r h
  obtain ⟨e, h⟩ := h
  subst e
  cases r
  exact assignInOrder_nil ⟨σ, H, I, h⟩
theorem pgs_cons {e : Expr} {es : List Expr} {t : TG} {u : TGs} (h1 : PG X e t) (h2 : PGs X es u)
    (hs : (assignEach (e :: es) X.env).map (·.2) = assign e X.env :: (assignEach es X.env).map (·.2) := by rfl) : PGs X (e :: es) (gCons t u) := by
  intro pins s σ H vs us Q I r h
  obtain ⟨v, vr, e1, h⟩ := h
  subst e1
  cases r with
  | cons r rr =>
    rw [hs]
    refine assignInOrder_cons (thn (h1 pins s σ H _ _ _ I r h) fun _ s1 ⟨σ1, H1, I1, q1⟩ => ?_)
    exact h2 pins s1 σ1 H1 _ _ Q I1 rr q1
def gTup (K : PySem.W.Frag) (n : Nat) (t : TGs) : TG := fun v σ H Q => ∃ a xs, v = .ref a ∧ SqT K H a xs ∧ xs.length = n ∧ t xs σ H Q
theorem pg_tup {es : List Expr} {k : Nat} {t : TGs} {n : Nat} (hc : X.calm = true) (h : PGs X es t)
    (hn : (assignEach es X.env).length = n := by rfl) (hst : (assignEach es X.env).findIdx? (·.1) = none := by rfl) : PG X (.Tuple es k pos) (gTup X.K n t) := by
  intro pins s σ H v u Q I r hw
  obtain ⟨a, xs, e1, hq, hl, hw⟩ := hw
  subst e1
  cases r
  obtain ⟨its, rv, ht, hz⟩ := I.tuple hq
  refine assign_Tuple_tuple (I.ok.hd hc) ht (by simp [hn, ← hl, rv.length]) hst fun h' hx => ?_
  have I1 : Inv X pins σ H { s with heap := h' } := I.kept (t' := s.toks) fun b o e => hx b o (Nat.ne_of_lt (Heap.lt_size e)) e
  exact h pins _ σ H xs _ Q I1 (by simpa using rv) hw
def gSub (to ti : TE) (t : TSet) : TG := fun v σ H Q => to σ H fun o H1 => ti σ H1 fun i H2 => t o i v H2 fun H3 => Q σ H3
theorem pg_sub {o i : Expr} {to ti : TE} {t : TSet} (ho : PE X o to) (hi : PE X i ti) (hs : PSet X t)
    (ha : ∀ v, assign (.Subscript o i pos) X.env v = (do
      let ov ← holding [v] (eval o X.env)
      let iv ← holding [v, ov] (eval i X.env)
      standAt pos
      holding [v, ov, iv] (setItem ov iv v)
      release [v, ov, iv] []) := by intro _; rfl) : PG X (.Subscript o i pos) (gSub to ti t) := by
  intro pins s σ H v u Q I r h
  rw [ha]
  refine wpAny_bind (wpAny_holding (thn (ho pins s σ H _ I h) fun ov s1 ⟨x, H1, I1, r1, q1⟩ => ?_))
  refine wpAny_bind (wpAny_holding (thn (hi pins s1 σ H1 _ I1 q1) fun iv s2 ⟨y, H2, I2, r2, q2⟩ => ?_))
  refine wpAny_bind (wpAny_standAt (wpAny_bind (wpAny_holding (thn (hs pins s2 σ H2 x y v ov iv u _ I2 r1 r2 r q2) fun _ s3 ⟨H3, I3, q3⟩ => ?_))))
  exact wpAny_release ⟨σ, H3, I3, q3⟩
def tAsg (te : TE) (g : TG) : TS := fun D σ H => te σ H fun x H1 => g x σ H1 D.nx
theorem ps_asg {tg e : Expr} {te : TE} {g : TG} (he : PE X e te) (hg : PG X tg g) (hs : swapsWithSole [tg] e pos.line X.env = pure false := by rfl) (hw : swappedStores [tg] e X.env = pure none := by rfl)
    (h1 : (assignEach [tg] X.env).map (·.2) = [assign tg X.env] := by rfl) : PS X (.Assign [tg] e pos) (tAsg te g) := by
  intro pins s σ H D I h
  refine wpAny_Assign_stores (thn (he pins s σ H _ I h) fun v s1 ⟨x, H1, I1, r1, q1⟩ => ?_) hs hw
  rw [h1]
  exact thn (hg pins s1 σ H1 x v _ I1 r1 q1) fun _ s2 q => q
theorem ps_set {i : Nat} {x : Str} {e : Expr} {te : TE} {pos' : Pos} (hN : X.N.Nodup) (hi : X.N[i]? = some x) (hx : Loc X.env.scope x) (he : PE X e te) (hs : swapsWith e (some (.Name x pos')) pos.line X.env = pure false := by rfl) (hf : X.fn x = true ∨ X.env.scope.names.lookup x = some .local := by first | exact .inl rfl | exact .inr rfl | assumption) :
    PS X (.Assign [.Name x pos'] e pos) (tAsg te (gName i)) := by
  intro pins s σ H D I h
  refine wpAny_Assign_Name (thn (he pins s σ H _ I h) fun v s1 ⟨y, H1, I1, r1, q1⟩ => ?_) hs
  exact store_ok I1 hN hi hx r1 (fun s2 I2 => ⟨_, H1, I2, q1⟩) hf
def tPar (i j : Nat) (ta : TA) : TS := fun D σ H => ta σ H fun vs H1 => ∃ v w, vs = [v, w] ∧ D.nx ((σ.set i (some v)).set j (some w)) H1
theorem ps_par {i j : Nat} {x y : Str} {a b : Expr} {ta : TA} {px py pt : Pos} {kt k2 pt2} (hc : X.calm = true) (hN : X.N.Nodup) (hi : X.N[i]? = some x) (hj : X.N[j]? = some y) (hij : i ≠ j)
    (hx : X.env.scope.names.lookup x = some .local) (hy : X.env.scope.names.lookup y = some .local) (ha : PA X [a, b] ta)
    (hw : swappedStores [.Tuple [.Name x px, .Name y py] kt pt] (.Tuple [a, b] k2 pt2) X.env = pure (some [x, y]))
    (hs : swapsWithSole [.Tuple [.Name x px, .Name y py] kt pt] (.Tuple [a, b] k2 pt2) pos.line X.env = pure false := by rfl) :
    PS X (.Assign [.Tuple [.Name x px, .Name y py] kt pt] (.Tuple [a, b] k2 pt2) pos) (tPar i j ta) := by
  intro pins s σ H D I h
  rw [exec_Assign_arm]
  refine wpAny_bind (wpAny_standAt ?_)
  rw [hs]
  refine wpAny_bind (wpAny_pure ?_)
  rw [if_neg (by decide)]
  refine wpAny_bind (Tuple_ (thn (ha _ pins s σ H _ I h) fun us s1 ⟨vs, H1, I1, r1, q1⟩ => ?_))
  obtain ⟨v, w, e1, q1⟩ := q1
  subst e1
  obtain ⟨u1, u2, rfl, rv, rw'⟩ : ∃ u1 u2, us = [u1, u2] ∧ RelV v u1 ∧ RelV w u2 := by
    cases r1 with
    | cons p q =>
      cases q with
      | cons p' q' =>
        cases q'
        exact ⟨_, _, rfl, p, p'⟩
  refine wpAny_newObj_type ?_ (by show 2 ≤ sizeLine; decide)
  have I2 : Inv X pins σ H1 { s1 with heap := s1.heap.push { cls := .type "tuple", data := .seq [u1, u2].toArray } } := I1.kept (t' := s1.toks) fun b o e => Heap.get?_push_of_some _ e
  rw [hw]
  refine wpAny_bind (wpAny_pure ?_)
  show wpAny (model X.prog X.w) X.A (do rule "assign.swapped-stores"; let items ← unpackItems (.ref s1.heap.objs.size) 2 none; assignInOrder [fun v => bindName X.env y v, fun v => bindName X.env x v] items.reverse; pure Flow.next) _ _ _
  refine wpAny_bind (wpAny_rule (wpAny_bind (unpackItems_tuple (items := #[u1, u2]) (I.ok.hd hc) (IsTup.new s1.heap _) fun h' hx' => ?_)))
  have I3 := I2.kept (h' := h') (t' := s1.toks) fun b o e => hx' b o (Nat.ne_of_lt (Heap.lt_size e)) e
  show wpAny _ _ (assignInOrder [fun v => bindName X.env y v, fun v => bindName X.env x v] [u2, u1] >>= fun _ => pure Flow.next) _ _ _
  refine wpAny_bind (assignInOrder_cons (wpAny_bindName (store_ok I3 hN hj (.inl hy) rw' (fun s2 I4 => ?_) (.inr hy))))
  refine assignInOrder_cons (wpAny_bindName (store_ok I4 hN hi (.inl hx) rv (fun s3 I5 => assignInOrder_nil (wpAny_pure ?_)) (.inr hx)))
  rw [List.set_comm _ _ (Ne.symm hij)] at I5
  exact ⟨_, H1, I5, q1⟩
end
section
variable {X : Cx} {pos : Pos}
def tWhile (c : TT) (tb : TS) : TS := fun D σ H => ∃ W : Nat → St → Hp → Prop, (∃ m, W m σ H) ∧ ∀ m σ H, W m σ H →
  c σ H fun b H1 => if b = true then ∃ N : St → Hp → Prop, (∀ σ' H', N σ' H' → ∃ m', m' < m ∧ W m' σ' H') ∧ tb { D with nx := N, ct := N, bk := D.nx } σ H1 else D.nx σ H1
theorem ps_while {c : Expr} {body : List Stmt} {tc : TT} {tb : TS} (hp : PassesOwn (model X.prog X.w) X.A X.env X.xe) (hc : PT X c tc) (hb : PSs X body tb) : PS X (.While c body [] pos) (tWhile tc tb) := by
  intro pins s σ H D I h
  obtain ⟨W, ⟨m0, w0⟩, turn⟩ := h
  refine wpAny_While (codeAny_whileLoop (fun n s' => ∃ σ' H', Inv X pins σ' H' s' ∧ W n σ' H') ?_ m0 ⟨σ, H, I, w0⟩)
  rintro n s1 ⟨σ1, H1, I1, w1⟩
  refine wpAny_passesOwn hp (thn (hc pins s1 σ1 H1 _ I1 (turn n σ1 H1 w1)) fun b s2 ⟨H2, I2, q2⟩ => ?_)
  cases b with
  | true =>
    obtain ⟨N, hN, q2⟩ := q2
    rw [if_pos rfl]
    refine wpAny_passesOwn hp (thn (hb pins s2 σ1 H2 _ I2 q2) fun f s3 q3 => ?_)
    cases f with
    | next =>
      obtain ⟨σ3, H3, I3, n3⟩ := q3
      obtain ⟨m', hm, w3⟩ := hN σ3 H3 n3
      exact ⟨m', hm, σ3, H3, I3, w3⟩
    | cont =>
      obtain ⟨σ3, H3, I3, n3⟩ := q3
      obtain ⟨m', hm, w3⟩ := hN σ3 H3 n3
      exact ⟨m', hm, σ3, H3, I3, w3⟩
    | brk => exact q3
    | ret v => exact q3
  | false =>
    rw [if_neg Bool.false_ne_true]
    exact wpAny_execs_nil ⟨σ1, H2, I2, q2⟩
end
structure It where
  go : Nat → Hp → Prop
  yld : Nat → Hp → V → Hp → Prop
  stop : Nat → Hp → Prop
def FpOk (X : Cx) (pins : List (Addr × Obj)) (H : Hp) (b : Addr) : Prop :=
  H b = none ∧ b ≠ X.env.locals ∧ b ∉ X.fs ∧ (b ∈ X.ex ∨ X.s_0.heap.objs.size ≤ b) ∧ (∀ x c, X.env.cells.lookup x = some c → c ≠ b) ∧ ∀ p ∈ X.pn ++ pins, p.1 ≠ b
theorem Inv.fpOk {X : Cx} {pins : List (Addr × Obj)} {σ : St} {H H' : Hp} {s : Shared} {b : Addr} (I : Inv X pins σ H s) (hb : s.heap.objs.size ≤ b) (hn : H' b = none) : FpOk X pins H' b := by
  refine ⟨hn, Nat.ne_of_gt (Nat.lt_of_lt_of_le I.lt hb), I.nofs hb, .inr (Nat.le_trans I.sz hb), fun x c e z => ?_, fun p hp z => ?_⟩
  · obtain ⟨v, q⟩ := I.cell x c e
    exact absurd (Nat.lt_of_lt_of_le q.lt (by rw [z]; exact hb)) (Nat.lt_irrefl _)
  · exact absurd (Nat.lt_of_lt_of_le (Heap.lt_size (I.pin p hp).1) (by rw [z]; exact hb)) (Nat.lt_irrefl _)
structure Turn (P : Program) (w : World) (K : PySem.W.Frag) (tg : Expr) (J : It) (fp : List Addr) (it : Addr) (tn : Nat → Heap → Prop) : Prop where
  mem : it ∈ fp
  obj : ∀ i h, tn i h → ∀ b ∈ fp, ∃ o, h.get? b = some o ∧ ∀ v, o.data ≠ .cell v
  keep : ∀ i h h', tn i h → (∀ b ∈ fp, ∀ o, h.get? b = some o → h'.get? b = some o) → tn i h'
  item : ∀ (X : Cx), X.prog = P → X.w = w → X.K = K → X.calm = true → ∀ (i : Nat) (pins : List (Addr × Obj)) (s : Shared) (σ : St) (H : Hp) (E : Value → Shared → Prop), Inv X pins σ H s → (∀ b ∈ fp, FpOk X pins H b) → tn i s.heap → J.go i H →
    wpAny (model P w) X.A (pyNext (.ref it)) (fun r s1 => ∃ u, r = some u ∧
      wpAny (model P w) X.A (letOwnedTupleGo tg (.ref it) u) (fun _ s2 => ∃ x H', Inv X pins σ H' s2 ∧ RelV x u ∧ J.yld i H x H' ∧ tn (i + 1) s2.heap ∧ ∀ b ∈ fp, H' b = none) E s1) E s
  done : ∀ (X : Cx), X.prog = P → X.w = w → X.K = K → X.calm = true → ∀ (i : Nat) (pins : List (Addr × Obj)) (s : Shared) (σ : St) (H : Hp) (E : Value → Shared → Prop), Inv X pins σ H s → (∀ b ∈ fp, FpOk X pins H b) → tn i s.heap → J.stop i H →
    wpAny (model P w) X.A (pyNext (.ref it)) (fun r s1 => r = none ∧ Inv X pins σ H s1) E s
  self : ∀ (A : Around) (i : Nat) (s : Shared) (Q : Value → Shared → Prop) (E : Value → Shared → Prop), tn i s.heap → Q (.ref it) s → wpAny (model P w) A (pyIter (.ref it)) Q E s
abbrev TI := St → Hp → (It → Hp → Prop) → Prop
def PIE (X : Cx) (pins : List (Addr × Obj)) (σ : St) (tg : Expr) (R : It → Hp → Prop) (itv : Value) (s2 : Shared) : Prop :=
  ∃ (it : Addr) (fp : List Addr) (tn : Nat → Heap → Prop) (J : It) (H' : Hp), itv = .ref it ∧ Inv X pins σ H' s2 ∧ Turn X.prog X.w X.K tg J fp it tn ∧ tn 0 s2.heap ∧ (∀ b ∈ fp, FpOk X pins H' b) ∧ R J H'
def PI (X : Cx) (tg iter : Expr) (wi : TI) : Prop :=
  ∀ (pins : List (Addr × Obj)) (s : Shared) (σ : St) (H : Hp) (R : It → Hp → Prop), Inv X pins σ H s → wi σ H R →
    wpAny (model X.prog X.w) X.A (eval iter X.env) (fun v s1 => wpAny (model X.prog X.w) X.A (pyIter v) (PIE X pins σ tg R) X.xe s1) X.xe s
theorem go_of {M : Model} {A : Around} {E : Value → Shared → Prop} {s : Shared} {tg : Expr} {it : Addr} {u : Value} {o : Obj} {n : String} {vs : Array Value} {Q : Unit → Shared → Prop} (ho : s.heap.get? it = some o) (hc : o.cls = .type n) (hd : o.data = .fields vs)
    (hn : ["enumerate", "zip", "dict_itemiterator", "dict_reverseitemiterator", "odict_iterator", "itertools.zip_longest", "itertools.pairwise"].contains n = false) (hQ : Q () s) : wpAny M A (letOwnedTupleGo tg (.ref it) u) Q E s := by
  unfold letOwnedTupleGo
  cases tg <;> first
    | exact wpAny_pure hQ
    | (cases u <;> first
        | exact wpAny_pure hQ
        | (refine wpAny_bind (wpAny_load ho ?_)
           rw [hc, hd]
           show wpAny M A (if (["enumerate", "zip", "dict_itemiterator", "dict_reverseitemiterator", "odict_iterator", "itertools.zip_longest", "itertools.pairwise"].contains n && vs[0]? == some (rawInt _)) = true then _ else _) Q E s
           rw [if_neg (by intro h; rw [hn, Bool.false_and] at h; cases h)]
           exact wpAny_pure hQ))
def Itr (lo : Int) (n : Nat) : It := ⟨fun i _ => i < n, fun i H x H' => H' = H ∧ x = .int (lo + i), fun i _ => n ≤ i⟩
theorem turn_range {P : Program} {w : World} {K : PySem.W.Frag} {tg : Expr} (it : Addr) (lo : Int) (n : Nat) : Turn P w K tg (Itr lo n) [it] it (fun i h => IsRangeIter h it (lo + (i : Nat) * 1) ((n : Int) - (i : Nat)) 1) where
  mem := by simp
  obj := fun i h st b hb => by
    have e : b = it := by simpa using hb
    subst e
    exact ⟨_, st, fun v z => by
      have z' : Data.fields _ = Data.cell v := z
      cases z'⟩
  keep := fun i h h' st k => k it (by simp) _ st
  item := by
    intro X hP hw hK hc i pins s σ H E I hf st hg
    subst hP hw hK
    obtain ⟨f0, f1, f2, f3, f4, f5⟩ := hf it (by simp)
    have W := Walks.range (prog := X.prog) (w := X.w) (I.ok.hd hc) it lo 1 n
    refine W.item i s _ _ hg st fun v h' tk hv st' kk => ?_
    obtain ⟨t, rfl⟩ := hv
    have I1 : Inv X pins σ H { s with heap := h', toks := tk } := I.turned (fun b o hb e => kk b o (by simpa using hb) e) f0 f1 f3 f4 f5
    refine ⟨_, rfl, go_of (s := { s with heap := h', toks := tk }) (n := "range_iterator") st' rfl rfl (by decide) ⟨.int (lo + i), H, I1, ⟨t, ?_⟩, ⟨rfl, rfl⟩, st', fun b hb => (hf b hb).1⟩⟩
    rw [Int.mul_one]
  done := by
    intro X hP hw hK hc i pins s σ H E I hf st hg
    subst hP hw hK
    obtain ⟨f0, f1, f2, f3, f4, f5⟩ := hf it (by simp)
    exact wpAny_pyNext_range_end (I.ok.hd hc) st (by have : n ≤ i := hg; omega) fun h' eb => ⟨rfl, I.turned (t' := s.toks) (fun b o hb e => eb b o hb e) f0 f1 f3 f4 f5⟩
  self := fun _ _ _ _ _ st h => wpAny_pyIter_rangeiter st h
end L2
namespace L2
open PySem PySem.Spec PyProof.Rows
section
variable {X : Cx} {tg : Expr}
theorem range_it {pins : List (Addr × Obj)} {σ : St} {H : Hp} {s : Shared} {R : It → Hp → Prop} {E : Value → Shared → Prop} {lo hi : Int} {t u v : Tok} {tk : Nat} (I : Inv X pins σ H s) (h1 : -(2 ^ 62) ≤ lo) (h2 : lo < 2 ^ 62) (h3 : -(2 ^ 62) ≤ hi) (h4 : hi < 2 ^ 62)
    (q : R (Itr lo (hi - lo).toNat) H) : wpAny (model X.prog X.w) X.A (pyIter (.ref s.heap.objs.size)) (PIE X pins σ tg R) E { s with heap := s.heap.push { cls := .type "range", data := .fields #[.int lo t, .int hi u, .int 1 v] }, toks := tk } := by
  refine wpAny_pyIter_range (IsRange.new ..) (small_one h1 h2 h3 h4) ?_
  have I1 : Inv X pins σ H { s with heap := s.heap.push { cls := .type "range", data := .fields #[.int lo t, .int hi u, .int 1 v] }, toks := tk } := I.kept fun b o e => Heap.get?_push_of_some _ e
  refine ⟨(s.heap.push { cls := .type "range", data := .fields #[.int lo t, .int hi u, .int 1 v] }).objs.size, [(s.heap.push { cls := .type "range", data := .fields #[.int lo t, .int hi u, .int 1 v] }).objs.size], _, _, H, rfl,
    I1.kept (t' := tk) fun b o e => Heap.get?_push_of_some _ e, turn_range _ lo (hi - lo).toNat, ?_, fun b hb => ?_, q⟩
  · have e1 : lo + ((0 : Nat) : Int) * 1 = lo := by simp
    have e2 : (((hi - lo).toNat : Nat) : Int) - ((0 : Nat) : Int) = Builtin.Range.rangeSize lo hi 1 := by rw [rangeSize_one]; split <;> omega
    show IsRangeIter _ _ (lo + ((0 : Nat) : Int) * 1) ((((hi - lo).toNat : Nat) : Int) - ((0 : Nat) : Int)) 1
    rw [e1, e2]
    exact Heap.get?_push_size _ rfl
  · have e : b = (s.heap.push { cls := .type "range", data := .fields #[.int lo t, .int hi u, .int 1 v] }).objs.size := by simpa using hb
    subst e
    exact I1.fpOk (Nat.le_refl _) (I1.hok.fresh (Nat.le_refl _))
def iRng1 (ta : TA) : TI := fun σ H R => ta σ H fun vs H1 => ∃ j : Int, vs = [.int j] ∧ -(2 ^ 62) ≤ j ∧ j < 2 ^ 62 ∧ R (Itr 0 j.toNat) H1
theorem pi_range1 {a : Expr} {ta : TA} {p pos : Pos} (hg : Gl X "range") (hm : X.mg "range" = none) (ha : PA X [a] ta) (hs : starEach [a] X.env = [(false, eval a X.env)] := by rfl) : PI X tg (.Call (.Name "range" p) [a] [] pos) (iRng1 ta) := by
  intro pins s σ H R I h
  refine Call_ (ld_blt I hg hm boot_range (PyProof.Rows.callWith_type1 (thn (ha pos pins s σ H _ I h) fun us s1 ⟨vs, H1, I1, r1, q1⟩ => ?_) hs rfl))
  obtain ⟨j, e, q1, q2, q⟩ := q1
  subst e
  cases r1 with
  | cons r rr =>
    cases rr
    obtain ⟨t, rfl⟩ := r
    exact call_range_1 (range_it I1 (by omega) (by omega) q1 q2 (by simpa using q))
def tFor (wi : TI) (g : TG) (tb : TS) : TS := fun D σ H => wi σ H fun J H1 => ∃ W : Nat → Nat → St → Hp → Prop, (∃ m, W 0 m σ H1) ∧ ∀ i m σ H, W i m σ H →
  (J.stop i H ∧ D.nx σ H) ∨ (J.go i H ∧ ∃ N : St → Hp → Prop, (∀ σ' H', N σ' H' → ∃ m', m' < m ∧ W (i + 1) m' σ' H') ∧ ∀ x H', J.yld i H x H' → g x σ H' fun σ2 H2 => tb { D with nx := N, ct := N, bk := D.nx } σ2 H2)
def pinsAt (fp : List Addr) (h : Heap) : List (Addr × Obj) := fp.filterMap fun b => (h.get? b).map fun o => (b, o)
theorem mem_pinsAt {fp : List Addr} {h : Heap} {b : Addr} {o : Obj} (hb : b ∈ fp) (e : h.get? b = some o) : (b, o) ∈ pinsAt fp h := List.mem_filterMap.mpr ⟨b, hb, by rw [e]; rfl⟩
theorem of_pinsAt {fp : List Addr} {h : Heap} {p : Addr × Obj} (hp : p ∈ pinsAt fp h) : p.1 ∈ fp ∧ h.get? p.1 = some p.2 := by
  obtain ⟨b, hb, e⟩ := List.mem_filterMap.mp hp
  cases q : h.get? b with
  | none => rw [q] at e; cases e
  | some o =>
    rw [q] at e
    have e' : (b, o) = p := Option.some.inj e
    subst e'
    exact ⟨hb, q⟩
theorem Inv.pinned {pins : List (Addr × Obj)} {σ : St} {H : Hp} {s : Shared} {fp : List Addr} (I : Inv X pins σ H s) (hf : ∀ b ∈ fp, FpOk X pins H b) (ho : ∀ b ∈ fp, ∃ o, s.heap.get? b = some o ∧ ∀ v, o.data ≠ .cell v) : Inv X (pins ++ pinsAt fp s.heap) σ H s :=
  I.pins_of fun p hp => (List.mem_append.mp hp).elim (fun z => I.pin p (List.mem_append_right _ z)) fun z => by
    obtain ⟨hb, e⟩ := of_pinsAt z
    obtain ⟨f0, f1, f2, _⟩ := hf p.1 hb
    obtain ⟨o, e', d⟩ := ho p.1 hb
    rw [e] at e'; cases e'
    exact ⟨e, f0, f1, f2, d⟩
theorem Inv.unpinned {pins pl : List (Addr × Obj)} {σ : St} {H : Hp} {s : Shared} (I : Inv X (pins ++ pl) σ H s) : Inv X pins σ H s := I.pins_of fun p hp => I.pin p (List.mem_append_right _ (List.mem_append_left _ hp))
theorem ps_for {iter : Expr} {body : List Stmt} {wi : TI} {g : TG} {tb : TS} {pos : Pos} (hp : PassesOwn (model X.prog X.w) X.A X.env X.xe) (hc : X.calm = true) (hi : PI X tg iter wi) (hg : PG X tg g) (hb : PSs X body tb)
    (hs : ∀ x, foldedSetIterable iter X.env x = pure x := by intro _; rfl) : PS X (.For tg iter body [] pos) (tFor wi g tb) := by
  intro pins s σ H D I h
  refine wpAny_For (thn (hi pins s σ H _ I h) fun v s1 h1 => thn h1 fun itv s2 h2 => ?_) hs
  obtain ⟨it, fp, tn, J, H2, e, I2, T, st2, f2, W, ⟨m0, w0⟩, turn⟩ := h2
  subst e
  have stat : ∀ {H' : Hp}, (∀ b ∈ fp, H' b = none) → ∀ b ∈ fp, FpOk X pins H' b := fun hn b hb => ⟨hn b hb, (f2 b hb).2⟩
  refine codeAny_forLoop_any (fun n s' => ∃ i σ' H', Inv X pins σ' H' s' ∧ tn i s'.heap ∧ (∀ b ∈ fp, H' b = none) ∧ W i n σ' H') ?_ m0 ⟨0, σ, H2, I2, st2, fun b hb => (f2 b hb).1, w0⟩
  rintro n s3 ⟨i, σ3, H3, I3, st3, fr3, w3⟩
  rcases turn i n σ3 H3 w3 with ⟨stop, qn⟩ | ⟨go, N, hN, step⟩
  · refine wpAny_passesOwn hp (thn (T.done X rfl rfl rfl hc i pins s3 σ3 H3 X.xe I3 (stat fr3) st3 stop) fun r s4 ⟨hr, I4⟩ => ?_)
    subst hr
    exact wpAny_execs_nil ⟨σ3, H3, I4, qn⟩
  · refine wpAny_passesOwn hp (thn (T.item X rfl rfl rfl hc i pins s3 σ3 H3 X.xe I3 (stat fr3) st3 go) fun r s4 ⟨u, hr, h4⟩ => ?_)
    subst hr
    refine wpAny_passesOwn hp (thn h4 fun _ s5 ⟨x, H5, I5, r5, y5, st5, fr5⟩ => ?_)
    have I5' := I5.pinned (stat fr5) (T.obj _ _ st5)
    refine wpAny_passesOwn hp (thn (hg _ s5 σ3 H5 x u _ I5' r5 (step x H5 y5)) fun _ s6 ⟨σ6, H6, I6, q6⟩ => ?_)
    refine wpAny_passesOwn hp (thn (hb _ s6 σ6 H6 _ I6 q6) fun f s7 q7 => ?_)
    have again : ∀ {σ7 : St} {H7 : Hp}, Inv X (pins ++ pinsAt fp s5.heap) σ7 H7 s7 → N σ7 H7 → ∃ m, m < n ∧ ∃ i σ' H', Inv X pins σ' H' s7 ∧ tn i s7.heap ∧ (∀ b ∈ fp, H' b = none) ∧ W i m σ' H' := fun {σ7 H7} I7 n7 => by
      obtain ⟨m', hm, w7⟩ := hN σ7 H7 n7
      refine ⟨m', hm, i + 1, σ7, H7, I7.unpinned, T.keep _ _ _ st5 fun b hb o e => (I7.pin (b, o) (List.mem_append_right _ (List.mem_append_right _ (mem_pinsAt hb e)))).1, fun b hb => ?_, w7⟩
      obtain ⟨o, e, d⟩ := T.obj _ _ st5 b hb
      exact (I7.pin (b, o) (List.mem_append_right _ (List.mem_append_right _ (mem_pinsAt hb e)))).2.1
    cases f with
    | next => obtain ⟨σ7, H7, I7, n7⟩ := q7; exact again I7 n7
    | cont => obtain ⟨σ7, H7, I7, n7⟩ := q7; exact again I7 n7
    | brk => obtain ⟨σ7, H7, I7, q7⟩ := q7; exact ⟨σ7, H7, I7.unpinned, q7⟩
    | ret v => obtain ⟨x7, σ7, H7, I7, r7, q7⟩ := q7; exact ⟨x7, σ7, H7, I7.unpinned, r7, q7⟩
end
end L2
namespace L2
open PySem PySem.Spec PyProof.Rows
abbrev R2 := V → V → Hp → VK → Prop
def OpR (X : Cx) (f : Value → Value → Sem Value) (r : R2) : Prop :=
  ∀ (pins : List (Addr × Obj)) (s : Shared) (σ : St) (H : Hp) (x y : V) (v u : Value) (Q : VK), Inv X pins σ H s → RelV x v → RelV y u → r x y H Q →
    wpAny (model X.prog X.w) X.A (f v u) (EP X pins σ Q) X.xe s
def UnR (X : Cx) (f : Value → Sem Value) (r : V → Hp → VK → Prop) : Prop :=
  ∀ (pins : List (Addr × Obj)) (s : Shared) (σ : St) (H : Hp) (x : V) (v : Value) (Q : VK), Inv X pins σ H s → RelV x v → r x H Q →
    wpAny (model X.prog X.w) X.A (f v) (EP X pins σ Q) X.xe s
def CallR (X : Cx) (f : Value) (r : List V → Hp → VK → Prop) : Prop :=
  ∀ (pins : List (Addr × Obj)) (s : Shared) (σ : St) (H : Hp) (xs : List V) (us : List Value) (Q : VK), Inv X pins σ H s → Vals xs us → r xs H Q →
    wpAny (model X.prog X.w) X.A (call f us) (EP X pins σ Q) X.xe s
def TruR (X : Cx) (r : V → Hp → (Bool → Hp → Prop) → Prop) : Prop :=
  ∀ (pins : List (Addr × Obj)) (s : Shared) (σ : St) (H : Hp) (x : V) (v : Value) (Q : Bool → Hp → Prop), Inv X pins σ H s → RelV x v → r x H Q →
    wpAny (model X.prog X.w) X.A (truthy v) (TP X pins σ Q) X.xe s
def tOp (r : R2) (ta tb : TE) : TE := fun σ H Q => ta σ H fun x H1 => tb σ H1 fun y H2 => r x y H2 Q
def tUn (r : V → Hp → VK → Prop) (ta : TE) : TE := fun σ H Q => ta σ H fun x H1 => r x H1 Q
def rI (C : Int → Int → Prop) (g : Int → Int → V) : R2 := fun x y H Q => ∃ i j, x = .int i ∧ y = .int j ∧ C i j ∧ Q (g i j) H
def rI0 (g : Int → Int → V) : R2 := fun x y H Q => ∃ i j, x = .int i ∧ y = .int j ∧ Q (g i j) H
def rU (g : Int → V) : V → Hp → VK → Prop := fun x H Q => ∃ i, x = .int i ∧ Q (g i) H
section
variable {X : Cx} {a b c : Expr} {ta tb tc : TE} {pos : Pos}
theorem binT (ha : PE X a ta) (hb : PE X b tb) {pins : List (Addr × Obj)} {s : Shared} {σ : St} {H : Hp} {R : V → V → Hp → Prop} (I : Inv X pins σ H s)
    (h : ta σ H fun x H1 => tb σ H1 fun y H2 => R x y H2) {Q : Value → Shared → Prop} {f : Value → Value → Sem Value}
    (hf : ∀ v u s2 x y H2, Inv X pins σ H2 s2 → RelV x v → RelV y u → R x y H2 → wpAny (model X.prog X.w) X.A (f v u) Q X.xe s2) :
    wpAny (model X.prog X.w) X.A (eval a X.env) (fun v s₁ => wpAny (model X.prog X.w) X.A (eval b X.env) (fun u s₂ => wpAny (model X.prog X.w) X.A (f v u) Q X.xe s₂) X.xe s₁) X.xe s := by
  refine thn (ha pins s σ H _ I h) fun v s1 ⟨x, H1, I1, r1, q1⟩ => ?_
  refine thn (hb pins s1 σ H1 _ I1 q1) fun u s2 ⟨y, H2, I2, r2, q2⟩ => ?_
  exact hf v u s2 x y H2 I2 r1 r2 q2
theorem pe_op {op : Operator} {r : R2} (ho : OpR X (binaryOp op) r) (ha : PE X a ta) (hb : PE X b tb) : PE X (.BinOp a op b pos) (tOp r ta tb) := by
  intro pins s σ H Q I h
  exact wpAny_BinOp (binT ha hb I h fun v u s2 x y H2 I2 rx ry q => ho pins s2 σ H2 x y v u Q I2 rx ry q)
theorem pe_un {op : UnaryOp} {r : V → Hp → VK → Prop} (ho : UnR X (unaryOp op) r) (ha : PE X a ta) : PE X (.UnaryOp op a pos) (tUn r ta) := by
  intro pins s σ H Q I h
  exact UnaryOp_ (thn (ha pins s σ H _ I h) fun v s1 ⟨x, H1, I1, r1, q1⟩ => ho pins s1 σ H1 x v Q I1 r1 q1)
theorem opI {f : Value → Value → Sem Value} {C : Int → Int → Prop} {g : Int → Int → Int}
    (rule : ∀ (i j : Int) (t u : Tok) (s : Shared) (Q : Value → Shared → Prop) (E : Value → Shared → Prop), C i j → Q (.int (g i j) s.toks) { s with toks := s.toks + 1 } → wpAny (model X.prog X.w) X.A (f (.int i t) (.int j u)) Q E s) :
    OpR X f (rI C fun i j => .int (g i j)) := by
  intro pins s σ H x y v u Q I rx ry h
  obtain ⟨i, j, rfl, rfl, hc, q⟩ := h
  obtain ⟨t, rfl⟩ := rx
  obtain ⟨t', rfl⟩ := ry
  exact rule i j t t' s _ _ hc ⟨.int (g i j), H, I.tok _, ⟨_, rfl⟩, q⟩
theorem opI0 {f : Value → Value → Sem Value} {g : Int → Int → Int}
    (rule : ∀ (i j : Int) (t u : Tok) (s : Shared) (Q : Value → Shared → Prop) (E : Value → Shared → Prop), Q (.int (g i j) s.toks) { s with toks := s.toks + 1 } → wpAny (model X.prog X.w) X.A (f (.int i t) (.int j u)) Q E s) :
    OpR X f (rI0 fun i j => .int (g i j)) := by
  intro pins s σ H x y v u Q I rx ry h
  obtain ⟨i, j, rfl, rfl, q⟩ := h
  obtain ⟨t, rfl⟩ := rx
  obtain ⟨t', rfl⟩ := ry
  exact rule i j t t' s _ _ ⟨.int (g i j), H, I.tok _, ⟨_, rfl⟩, q⟩
theorem opB0 {f : Value → Value → Sem Value} {g : Int → Int → Bool}
    (rule : ∀ (i j : Int) (t u : Tok) (s : Shared) (Q : Value → Shared → Prop) (E : Value → Shared → Prop), Q (.bool (g i j)) s → wpAny (model X.prog X.w) X.A (f (.int i t) (.int j u)) Q E s) :
    OpR X f (rI0 fun i j => .bl (g i j)) := by
  intro pins s σ H x y v u Q I rx ry h
  obtain ⟨i, j, rfl, rfl, q⟩ := h
  obtain ⟨t, rfl⟩ := rx
  obtain ⟨t', rfl⟩ := ry
  exact rule i j t t' s _ _ ⟨.bl (g i j), H, I, rfl, q⟩
def CPow (i j : Int) : Prop := 0 ≤ j ∧ j ≤ 1000000 ∧ i.natAbs < 2 ^ 64
def CMul (i j : Int) : Prop := (-(2 ^ 64) < i ∧ i < 2 ^ 64) ∨ (-(2 ^ 64) < j ∧ j < 2 ^ 64)
theorem CMul.ok {i j : Int} (h : CMul i j) : IntMulOk i j := by
  rcases h with ⟨h1, h2⟩ | ⟨h1, h2⟩
  · exact .of_left (intBits_le_64 h1 h2)
  · exact .of_right (intBits_le_64 h1 h2)
theorem op_add : OpR X (binaryOp .Add) (rI0 fun i j => .int (i + j)) := opI0 fun _ _ _ _ _ _ _ q => add_int q
theorem op_sub : OpR X (binaryOp .Sub) (rI0 fun i j => .int (i - j)) := opI0 fun _ _ _ _ _ _ _ q => sub_int q
theorem op_mod : OpR X (binaryOp .Mod) (rI (fun _ j => 0 < j) fun i j => .int (i % j)) := opI fun i j _ _ _ _ _ hc q => by
  have h1 : (0 : Int) < j := hc
  exact mod_int' (by omega) (by rw [Int.fmod_eq_emod_of_nonneg i (by omega)]; exact q)
theorem op_pow : OpR X (binaryOp .Pow) (rI CPow fun i j => .int (i ^ j.toNat)) := opI fun _ _ _ _ _ _ _ hc q => pow_int_small hc.1 hc.2.1 hc.2.2 q
theorem unI {f : Value → Sem Value} {g : Int → Int}
    (rule : ∀ (i : Int) (t : Tok) (s : Shared) (Q : Value → Shared → Prop) (E : Value → Shared → Prop), Q (.int (g i) s.toks) { s with toks := s.toks + 1 } → wpAny (model X.prog X.w) X.A (f (.int i t)) Q E s) :
    UnR X f (rU fun i => .int (g i)) := by
  intro pins s σ H x v Q I rx h
  obtain ⟨i, rfl, q⟩ := h
  obtain ⟨t, rfl⟩ := rx
  exact rule i t s _ _ ⟨.int (g i), H, I.tok _, ⟨_, rfl⟩, q⟩
theorem un_neg : UnR X (unaryOp .USub) (rU fun i => .int (-i)) := unI fun _ _ _ _ _ q => neg_int q
end
def scal : V → V → Bool
  | .non, .non => true | .non, .int _ => true | .int _, .non => true | .non, .bl _ => true | .bl _, .non => true | .non, .str _ => true | .str _, .non => true
  | .int _, .int _ => true | .bl _, .bl _ => true | .str _, .str _ => true | .byt _, .byt _ => true
  | .int _, .str _ => true | .str _, .int _ => true | .bl _, .str _ => true | .str _, .bl _ => true
  | _, _ => false
def rEq : R2 := fun x y H Q => scal x y = true ∧ Q (.bl (decide (x = y))) H
def rNe : R2 := fun x y H Q => scal x y = true ∧ Q (.bl (!decide (x = y))) H
theorem dec_int {i j : Int} : decide (V.int i = V.int j) = (i == j) := by
  rw [Bool.eq_iff_iff]
  simp
theorem dec_bl {i j : Bool} : decide (V.bl i = V.bl j) = (i == j) := by
  rw [Bool.eq_iff_iff]
  simp
theorem dec_str {i j : Str} : decide (V.str i = V.str j) = (i == j) := by
  rw [Bool.eq_iff_iff]
  simp
theorem dec_byt {i j : Array UInt8} : decide (V.byt i = V.byt j) = (i.toList == j.toList) := by
  rw [Bool.eq_iff_iff]
  cases i
  cases j
  simp
section
variable {X : Cx} {a b c : Expr} {ta tb tc : TE} {pos : Pos}
theorem fin_bl {pins : List (Addr × Obj)} {σ : St} {H : Hp} {s : Shared} {Q : VK} {k k' : Bool} (I : Inv X pins σ H s) (q : Q (.bl k) H) (e : k = k') : EP X pins σ Q (.bool k') s := by
  subst e
  exact ⟨.bl k, H, I, rfl, q⟩
theorem op_eq : OpR X (compareOp .Eq) rEq := by
  intro pins s σ H x y v u Q I rx ry h
  obtain ⟨hs, q⟩ := h
  cases x with
  | non =>
    cases rx
    cases y with
    | non => cases ry; exact PySem.EqNone.eq_none_none (fin_bl I q (by simp))
    | bl j => cases ry; exact PySem.EqNone.eq_none_bool (fin_bl I q (by simp))
    | int j => obtain ⟨t', rfl⟩ := ry; exact PySem.EqNone.eq_none_int (fin_bl I q (by simp))
    | str j => obtain ⟨t', rfl⟩ := ry; exact PySem.EqNone.eq_none_str (fin_bl I q (by simp))
    | _ => exact absurd (show false = true from hs) Bool.false_ne_true
  | bl i =>
    cases rx
    cases y with
    | non => cases ry; exact PySem.EqNone.eq_bool_none (fin_bl I q (by simp))
    | bl j => cases ry; exact eq_bool (fin_bl I q dec_bl)
    | str j => obtain ⟨t', rfl⟩ := ry; exact PySem.EqMixed.eq_bool_str (fin_bl I q (by simp))
    | _ => exact absurd (show false = true from hs) Bool.false_ne_true
  | int i =>
    obtain ⟨t, rfl⟩ := rx
    cases y with
    | non => cases ry; exact PySem.EqNone.eq_int_none (fin_bl I q (by simp))
    | int j => obtain ⟨t', rfl⟩ := ry; exact eq_int (fin_bl I q dec_int)
    | str j => obtain ⟨t', rfl⟩ := ry; exact PySem.EqMixed.eq_int_str (fin_bl I q (by simp))
    | _ => exact absurd (show false = true from hs) Bool.false_ne_true
  | str i =>
    obtain ⟨t, rfl⟩ := rx
    cases y with
    | non => cases ry; exact PySem.EqNone.eq_str_none (fin_bl I q (by simp))
    | bl j => cases ry; exact PySem.EqMixed.eq_str_bool (fin_bl I q (by simp))
    | int j => obtain ⟨t', rfl⟩ := ry; exact PySem.EqMixed.eq_str_int (fin_bl I q (by simp))
    | str j => obtain ⟨t', rfl⟩ := ry; exact eq_str (fin_bl I q dec_str)
    | _ => exact absurd (show false = true from hs) Bool.false_ne_true
  | byt i =>
    obtain ⟨t, rfl⟩ := rx
    cases y with
    | byt j => obtain ⟨t', rfl⟩ := ry; exact PySem.W.eq_bytes (fin_bl I q dec_byt)
    | _ => exact absurd (show false = true from hs) Bool.false_ne_true
  | _ => cases y <;> exact absurd (show false = true from hs) Bool.false_ne_true
theorem op_ne : OpR X (compareOp .NotEq) rNe := by
  intro pins s σ H x y v u Q I rx ry h
  obtain ⟨hs, q⟩ := h
  cases x with
  | non =>
    cases rx
    cases y with
    | non => cases ry; exact PySem.EqNone.ne_none_none (fin_bl I q (by simp))
    | bl j => cases ry; exact PySem.EqNone.ne_none_bool (fin_bl I q (by simp))
    | int j => obtain ⟨t', rfl⟩ := ry; exact PySem.EqNone.ne_none_int (fin_bl I q (by simp))
    | str j => obtain ⟨t', rfl⟩ := ry; exact PySem.EqNone.ne_none_str (fin_bl I q (by simp))
    | _ => exact absurd (show false = true from hs) Bool.false_ne_true
  | bl i =>
    cases rx
    cases y with
    | non => cases ry; exact PySem.EqNone.ne_bool_none (fin_bl I q (by simp))
    | bl j => cases ry; exact ne_bool (fin_bl I q (congrArg not dec_bl))
    | str j => obtain ⟨t', rfl⟩ := ry; exact PySem.EqMixed.ne_bool_str (fin_bl I q (by simp))
    | _ => exact absurd (show false = true from hs) Bool.false_ne_true
  | int i =>
    obtain ⟨t, rfl⟩ := rx
    cases y with
    | non => cases ry; exact PySem.EqNone.ne_int_none (fin_bl I q (by simp))
    | int j => obtain ⟨t', rfl⟩ := ry; exact ne_int (fin_bl I q (congrArg not dec_int))
    | str j => obtain ⟨t', rfl⟩ := ry; exact PySem.EqMixed.ne_int_str (fin_bl I q (by simp))
    | _ => exact absurd (show false = true from hs) Bool.false_ne_true
  | str i =>
    obtain ⟨t, rfl⟩ := rx
    cases y with
    | non => cases ry; exact PySem.EqNone.ne_str_none (fin_bl I q (by simp))
    | bl j => cases ry; exact PySem.EqMixed.ne_str_bool (fin_bl I q (by simp))
    | int j => obtain ⟨t', rfl⟩ := ry; exact PySem.EqMixed.ne_str_int (fin_bl I q (by simp))
    | str j => obtain ⟨t', rfl⟩ := ry; exact ne_str (fin_bl I q (congrArg not dec_str))
    | _ => exact absurd (show false = true from hs) Bool.false_ne_true
  | byt i =>
    obtain ⟨t, rfl⟩ := rx
    cases y with
    | byt j => obtain ⟨t', rfl⟩ := ry; exact PySem.W.ne_bytes (fin_bl I q (congrArg not dec_byt))
    | _ => exact absurd (show false = true from hs) Bool.false_ne_true
  | _ => cases y <;> exact absurd (show false = true from hs) Bool.false_ne_true
theorem op_lt : OpR X (compareOp .Lt) (rI0 fun i j => .bl (decide (i < j))) := opB0 fun _ _ _ _ _ _ _ q => lt_int q
theorem op_le : OpR X (compareOp .LtE) (rI0 fun i j => .bl (decide (i ≤ j))) := opB0 fun _ _ _ _ _ _ _ q => le_int q
theorem op_gt : OpR X (compareOp .Gt) (rI0 fun i j => .bl (decide (j < i))) := opB0 fun _ _ _ _ _ _ _ q => gt_int q
theorem op_ge : OpR X (compareOp .GtE) (rI0 fun i j => .bl (decide (j ≤ i))) := opB0 fun _ _ _ _ _ _ _ q => ge_int q
theorem op_in_str : OpR X (compareOp .In) (fun x y H Q => ∃ i j, x = .str i ∧ y = .str j ∧ Q (.bl (!(Builtin.Str.occurrences j i 0 j.length 1).isEmpty)) H) := by
  intro pins s σ H x y v u Q I rx ry h
  obtain ⟨i, j, rfl, rfl, q⟩ := h
  obtain ⟨t, rfl⟩ := rx
  obtain ⟨t', rfl⟩ := ry
  exact in_str (fin_bl I q rfl)
theorem op_isN : OpR X (compareOp .Is) (fun x y H Q => y = .non ∧ Q (.bl (decide (x = .non))) H) := by
  intro pins s σ H x y v u Q I rx ry h
  obtain ⟨rfl, q⟩ := h
  cases ry
  refine is_none_gen (fin_bl I q ?_)
  cases x <;> first
    | (cases rx; rfl)
    | (obtain ⟨t, rfl⟩ := rx; rfl)
def isObj : HO → Bool
  | .lst _ => true
  | .ins _ _ _ => true
  | _ => false
theorem obj_there {pins : List (Addr × Obj)} {s : Shared} {σ : St} {H : Hp} {a : Addr} {o : HO} (I : Inv X pins σ H s) (h : H a = some o) (p : isObj o = true) : ∃ ob, s.heap.get? a = some ob ∧ ob.cls ≠ .type "tuple" := by
  cases o with
  | lst xs =>
    obtain ⟨_, its, n, _, e⟩ : xs.length ≤ sizeLine ∧ ∃ (its : List Value) (n : Nat), Vals xs its ∧ s.heap.get? a = some { cls := .type "list", data := .seq its.toArray n } := I.hok a _ h
    exact ⟨_, e, (by show Value.type "list" ≠ .type "tuple"; decide +kernel)⟩
  | ins C dx fs =>
    have x := I.hok a _ h
    obtain ⟨_, _, _, e, _⟩ := x
    exact ⟨_, e, (by show Value.ref C ≠ .type "tuple"; exact fun z => by cases z)⟩
  | _ => exact absurd (show false = true from p) Bool.false_ne_true
theorem OpR.or {f : Value → Value → Sem Value} {r r' : R2} (h : OpR X f r) (h' : OpR X f r') : OpR X f (fun x y H Q => r x y H Q ∨ r' x y H Q) := by
  intro pins s σ H x y v u Q I rx ry q
  rcases q with q | q
  · exact h pins s σ H x y v u Q I rx ry q
  · exact h' pins s σ H x y v u Q I rx ry q
theorem nomark (b : Expr) {op : CmpOp} (h : op ≠ .In := by decide) (h2 : op ≠ .NotIn := by decide) : behindInMarks op b = false := by
  have e1 : (op == CmpOp.In) = false := by cases op <;> first | rfl | exact absurd rfl h
  have e2 : (op == CmpOp.NotIn) = false := by cases op <;> first | rfl | exact absurd rfl h2
  cases b <;> simp [behindInMarks, e1, e2]
theorem pe_cmpR {op : CmpOp} {r : R2} (ho : OpR X (compareOp op) r) (ha : PE X a ta) (hb : PE X b tb) (hm : behindInMarks op b = false) : PE X (.Compare a [op] [b] pos) (tOp r ta tb) := by
  intro pins s σ H Q I h
  exact wpAny_Compare1 (binT ha hb I h fun v u s2 x y H2 I2 rx ry q => ho pins s2 σ H2 x y v u Q I2 rx ry q) hm
def tTest (t : TE) : TT := fun σ H Q => t σ H fun x H' => ∃ k, x = .bl k ∧ Q k H'
theorem pt_cmpR {op : CmpOp} {r : R2} (ho : OpR X (compareOp op) r) (ha : PE X a ta) (hb : PE X b tb) (hm : behindInMarks op b = false) : PT X (.Compare a [op] [b] pos) (tTest (tOp r ta tb)) := by
  intro pins s σ H Q I h
  refine wpAny_isTrue_Compare1 (thn (ha pins s σ H _ I h) fun v s1 ⟨x, H1, I1, r1, q1⟩ => thn (hb pins s1 σ H1 _ I1 q1) fun u s2 ⟨y, H2, I2, r2, q2⟩ =>
    thn (ho pins s2 σ H2 x y v u _ I2 r1 r2 q2) fun c s3 ⟨z, H3, I3, r3, k, e, q3⟩ => ?_) hm
  subst e
  cases r3
  exact wpAny_truthy_bool ⟨H3, I3, q3⟩
def tChain (r r' : R2) (ta tb tc : TE) : TE := fun σ H Q => ta σ H fun x H1 => tb σ H1 fun y H2 => r x y H2 fun z H3 => ∃ k, z = .bl k ∧
  (if k = true then tc σ H3 fun w' H4 => r' y w' H4 Q else Q (.bl false) H3)
theorem pe_chain {op op' : CmpOp} {r r' : R2} (ho : OpR X (compareOp op) r) (ho' : OpR X (compareOp op') r') (ha : PE X a ta) (hb : PE X b tb) (hc : PE X c tc)
    (hm : lastMarks [op, op'] [b, c] = false := by with_unfolding_all rfl) : PE X (.Compare a [op, op'] [b, c] pos) (tChain r r' ta tb tc) := by
  intro pins s σ H Q I h
  refine Compare_chain (thn (ha pins s σ H _ I h) fun v s1 ⟨x, H1, I1, r1, q1⟩ => chain_link (thn (hb pins s1 σ H1 _ I1 q1) fun u s2 ⟨y, H2, I2, r2, q2⟩ =>
    thn (ho pins s2 σ H2 x y v u _ I2 r1 r2 q2) fun d s3 ⟨z, H3, I3, r3, k, e, q3⟩ => ?_)) hm
  subst e
  cases r3
  refine wpAny_truthy_bool ?_
  cases k with
  | false => exact ite_ff ⟨.bl false, H3, I3, rfl, q3⟩
  | true => exact ite_tt (chain_last (thn (hc pins s3 σ H3 _ I3 q3) fun w' s4 ⟨z', H4, I4, r4, q4⟩ => ho' pins s4 σ H4 y z' u w' Q I4 r2 r4 q4))
def TruV (K : PySem.W.Frag) (x : V) (H : Hp) (k : Bool) : Prop :=
  match x with
  | .non => k = false
  | .bl b => k = b
  | .int i => k = (i != 0)
  | .str y => y.length ≤ sizeLine ∧ k = ((y.length : Int) != 0)
  | .byt y => y.size ≤ sizeLine ∧ k = ((y.size : Int) != 0)
  | .ref p => (∃ xs, SqL K H p xs ∧ k = !xs.isEmpty) ∨ (∃ xs, SqT K H p xs ∧ k = !xs.isEmpty) ∨ ∃ kvs, H p = some (.dK kvs) ∧ k = !kvs.isEmpty
  | _ => False
theorem isEmpty_kv {κ : Type} {kvs : List (κ × V)} {vs : List (κ × Value)} (r : KV kvs vs) : (!vs.isEmpty) = !kvs.isEmpty := by
  cases r <;> rfl
theorem isEmpty_of {xs : List V} {its : List Value} (r : Vals xs its) : (!its.toArray.isEmpty) = !xs.isEmpty := by
  cases r <;> simp
theorem line63 : (sizeLine : Nat) < 2 ^ 63 := by rw [sizeLine_eq]; decide
theorem tru_ok : TruR X (fun x H Q => ∃ k, TruV X.K x H k ∧ Q k H) := by
  intro pins s σ H x v Q I rx h
  obtain ⟨k, e, q⟩ := h
  have hl := line63
  have hs : sizeLine = 16777216 := sizeLine_eq
  cases x with
  | non =>
    cases rx
    have e' : k = false := e
    subst e'
    exact truthy_none ⟨H, I, q⟩
  | bl b =>
    cases rx
    have e' : k = b := e
    subst e'
    exact wpAny_truthy_bool ⟨H, I, q⟩
  | int i =>
    obtain ⟨t, rfl⟩ := rx
    have e' : k = (i != 0) := e
    subst e'
    exact PySem.P.truthy_int ⟨H, I, q⟩
  | str y =>
    obtain ⟨t, rfl⟩ := rx
    obtain ⟨hy, e'⟩ : y.length ≤ sizeLine ∧ k = ((y.length : Int) != 0) := e
    subst e'
    exact PySem.P.truthy_str (by omega) ⟨H, I.tok _, q⟩
  | byt y =>
    obtain ⟨t, rfl⟩ := rx
    obtain ⟨hy, e'⟩ : y.size ≤ sizeLine ∧ k = ((y.size : Int) != 0) := e
    subst e'
    exact PySem.W.truthy_bytes (by omega) ⟨H, I.tok _, q⟩
  | ref p =>
    cases rx
    have e' : (∃ xs, SqL X.K H p xs ∧ k = !xs.isEmpty) ∨ (∃ xs, SqT X.K H p xs ∧ k = !xs.isEmpty) ∨ ∃ kvs, H p = some (.dK kvs) ∧ k = !kvs.isEmpty := e
    rcases e' with ⟨xs, hx, e'⟩ | ⟨xs, hx, e'⟩ | ⟨kvs, hx, e'⟩
    · subst e'
      obtain ⟨its, r, pl, hz⟩ := I.list hx
      have hlen := r.length
      exact wpAny_truthy_list pl.isList (by simp only [List.size_toArray]; omega) ⟨H, I.tok _, by rw [isEmpty_of r]; exact q⟩
    · subst e'
      obtain ⟨its, r, pl, hz⟩ := I.tuple hx
      have hlen := r.length
      exact truthy_tuple pl (by simp only [List.size_toArray]; omega) ⟨H, I.tok _, by rw [isEmpty_of r]; exact q⟩
    · subst e'
      obtain ⟨hz, hS, vs, r, m⟩ : kvs.length ≤ sizeLine ∧ (p == sysModules) = false ∧ ∃ vs, KV kvs vs ∧ s.heap.DictOf (mixKind X.prog X.w) p vs := I.hok p _ hx
      have hlen : kvs.length = vs.length := Paired.length r
      exact wpAny_truthy_dict hS m (by omega) ⟨H, I.tok _, by rw [isEmpty_kv r]; exact q⟩
  | _ => exact (show False from e).elim
theorem pt_truth (ha : PE X a ta) (he : ∀ whole, isTrue a X.env whole = (do let v ← whole; standAt a.pos; holding [v] (truthy v))) :
    PT X a (fun σ H Q => ta σ H fun x H' => ∃ k, TruV X.K x H' k ∧ Q k H') := by
  intro pins s σ H Q I h
  exact isTrue_plain (thn (ha pins s σ H _ I h) fun v s1 ⟨x, H1, I1, r1, q1⟩ => tru_ok pins s1 σ H1 x v Q I1 r1 q1) (he _)
theorem op_add_str : OpR X (binaryOp .Add) (fun x y H Q => ∃ i j, x = .str i ∧ y = .str j ∧ i.length + j.length ≤ sizeLine ∧ Q (.str (i ++ j)) H) := by
  intro pins s σ H x y v u Q I rx ry h
  obtain ⟨i, j, rfl, rfl, hz, q⟩ := h
  obtain ⟨t, rfl⟩ := rx
  obtain ⟨t', rfl⟩ := ry
  exact add_str (fun t' tk => ⟨.str (i ++ j), H, I.tok _, ⟨_, rfl⟩, q⟩) hz
theorem vals1 {x : V} {us : List Value} (r : Vals [x] us) : ∃ u, us = [u] ∧ RelV x u := by
  cases r with
  | cons r1 r2 => cases r2; exact ⟨_, rfl, r1⟩
theorem vals2 {x y : V} {us : List Value} (r : Vals [x, y] us) : ∃ u w', us = [u, w'] ∧ RelV x u ∧ RelV y w' := by
  cases r with
  | cons r1 r2 =>
    cases r2 with
    | cons r3 r4 => cases r4; exact ⟨_, _, rfl, r1, r3⟩
theorem call_abs : CallR X (.builtin "abs") (fun xs H Q => ∃ i, xs = [.int i] ∧ Q (.int (if i < 0 then -i else i)) H) := by
  intro pins s σ H xs us Q I r h
  obtain ⟨i, rfl, q⟩ := h
  obtain ⟨u, rfl, t, rfl⟩ := vals1 r
  exact call_abs_int fun u tk => ⟨.int (if i < 0 then -i else i), H, I.tok _, ⟨_, rfl⟩, q⟩
theorem call_max2 (hc : X.calm = true) : CallR X (.builtin "max") (fun xs H Q => ∃ i j, xs = [.int i, .int j] ∧ Q (.int (if j > i then j else i)) H) := by
  intro pins s σ H xs us Q I r h
  obtain ⟨i, j, rfl, q⟩ := h
  obtain ⟨u, w', rfl, ⟨t, rfl⟩, ⟨t', rfl⟩⟩ := vals2 r
  refine max_two_ints (I.ok.hd hc) fun h' tk k => ⟨_, H, I.kept k, ?_, q⟩
  by_cases hj : j > i
  · rw [if_pos hj, if_pos hj]; exact ⟨_, rfl⟩
  · rw [if_neg hj, if_neg hj]; exact ⟨_, rfl⟩
theorem call_min2 (hc : X.calm = true) : CallR X (.builtin "min") (fun xs H Q => ∃ i j, xs = [.int i, .int j] ∧ Q (.int (if j < i then j else i)) H) := by
  intro pins s σ H xs us Q I r h
  obtain ⟨i, j, rfl, q⟩ := h
  obtain ⟨u, w', rfl, ⟨t, rfl⟩, ⟨t', rfl⟩⟩ := vals2 r
  refine min_two_ints (I.ok.hd hc) fun h' tk k => ⟨_, H, I.kept k, ?_, q⟩
  by_cases hj : j < i
  · rw [if_pos hj, if_pos hj]; exact ⟨_, rfl⟩
  · rw [if_neg hj, if_neg hj]; exact ⟨_, rfl⟩
theorem call_int1 : CallR X (.type "int") (fun xs H Q => (∃ i, xs = [.int i] ∧ Q (.int i) H) ∨ ∃ k, xs = [.bl k] ∧ Q (.int (if k then 1 else 0)) H) := by
  intro pins s σ H xs us Q I r h
  rcases h with ⟨i, rfl, q⟩ | ⟨k, rfl, q⟩
  · obtain ⟨u, rfl, t, rfl⟩ := vals1 r
    exact call_int_int ⟨.int i, H, I, ⟨_, rfl⟩, q⟩
  · obtain ⟨u, rfl, r1⟩ := vals1 r
    cases r1
    exact call_int_bool ⟨.int (if k then 1 else 0), H, I.tok _, ⟨_, rfl⟩, q⟩
theorem call_str_int : CallR X (.type "str") (fun xs H Q => ∃ i, xs = [.int i] ∧ i.natAbs.log2 < 1920 ∧ Q (.str (toString i)) H) := by
  intro pins s σ H xs us Q I r h
  obtain ⟨i, rfl, hz, q⟩ := h
  obtain ⟨u, rfl, t, rfl⟩ := vals1 r
  exact PySem.P.str_of_int hz ⟨.str _, H, I.tok _, ⟨_, rfl⟩, q⟩
end
end L2
namespace L2
open PySem PySem.Spec PyProof.Rows
structure ObjM (h : Heap) (x dx C : Addr) (mA : Str → Option Value) : Prop where
  obj : h.get? x = some (PySem.W.instObj C dx)
  ns : h.Ns1 dx mA
  ne : dx ≠ x
theorem lookIn_ns {h : Heap} {dx : Addr} {mA : Str → Option Value} (n : h.Ns1 dx mA) : ∃ od, h.get? dx = some od ∧ ∀ name, PySem.W.lookIn name od = some (mA name) := by
  obtain ⟨o, es, ep, ho, hd, hk, _, hm⟩ := n
  refine ⟨o, ho, fun name => ?_⟩
  have e := hm name
  unfold nsFind findBy at e
  rw [← Array.find?_toList] at e
  unfold PySem.W.lookIn
  rw [hd]
  dsimp only
  split
  · rename_i y q
    rw [q] at e
    exact congrArg some e
  · rename_i q
    rw [q] at e
    have a : es.toList.any (·.refKey) = false := by
      rw [List.any_eq_false]
      intro y hy
      obtain ⟨z, t, hkey⟩ := hk y (Array.mem_toList_iff.mp hy)
      simp [DictEntry.refKey, hkey]
    have a' : ¬ es.toList.any (·.refKey) = true := by rw [a]; exact Bool.false_ne_true
    rw [if_neg a']
    exact congrArg some e
theorem ObjM.look {h : Heap} {x dx C : Addr} {mA : Str → Option Value} (I : ObjM h x dx C mA) : ∃ od, PySem.W.InstAt h x (PySem.W.instObj C dx) C (some od) ∧ ∀ name, PySem.W.lookIn name od = some (mA name) :=
  let ⟨od, ho, hl⟩ := lookIn_ns I.ns
  ⟨od, ⟨I.obj, rfl, rfl, ho⟩, hl⟩
section
variable {prog : Program} {w : World} {A : Around} {E : Value → Shared → Prop} {s : Shared} {K : PySem.W.Frag} {x dx C f : Addr} {mA : Str → Option Value} {name : Str} {v : Value}
end
section
variable {P : Program} {w : World} {H H' : Hp} {h h' : Heap} {a C dx : Addr} {fs fs' : List (Str × V)}
end
structure Cls (K : PySem.W.Frag) (C : Addr) : Prop where
  pg : PySem.W.plainGet K C Str.empty = true
  hd : PySem.W.hasDictIn K C = true
  po : PySem.W.plainOver K C = true
  sa : PySem.W.findIn K (.ref C) "__setattr__" = some (some (.builtin "object.__setattr__"))
theorem Cls.get {K : PySem.W.Frag} {C : Addr} (c : Cls K C) (f : Str) : PySem.W.plainGet K C f = true := c.pg
def NoAttr (K : PySem.W.Frag) (C : Addr) (f : Str) : Prop := PySem.W.findIn K (.ref C) f = some none
structure Con (K : PySem.W.Frag) (C : Addr) (f : Str) (v : V) (u : Value) : Prop where
  at_ : PySem.W.findIn K (.ref C) f = some (some u)
  rel : RelV v u
  get : PySem.W.specialIn K u "__get__" = some none
  cp : PySem.W.copiedNames.contains f = false
structure Meth (K : PySem.W.Frag) (C : Addr) (m : Str) (f : Addr) : Prop where
  at_ : PySem.W.findIn K (.ref C) m = some (some (.ref f))
  fn : PySem.W.isFn K (.ref f) = true
  kp : PySem.W.keepIn K (.ref f) = true
section
variable {X : Cx} {pins : List (Addr × Obj)} {σ : St} {H : Hp} {s : Shared} {a C dx : Addr} {fs : List (Str × V)} {f : Str} {v : V} {A : Around} {E : Value → Shared → Prop}
end
section
variable {X : Cx} {o e value : Expr} {f : Str} {pos pos' tpos : Pos} {ta tv : TE}
end
section
variable {X : Cx} {pins : List (Addr × Obj)} {σ : St} {H : Hp} {s : Shared} {A : Around} {E : Value → Shared → Prop} {Q : Value → Shared → Prop} {c : Value} {b : Bool}
inductive TyOf (K : PySem.W.Frag) (H : Hp) : V → Value → Prop where
  | non : TyOf K H .non (.type "NoneType")
  | bl (x : Bool) : TyOf K H (.bl x) (.type "bool")
  | int (i : Int) : TyOf K H (.int i) (.type "int")
  | str (x : Str) : TyOf K H (.str x) (.type "str")
  | flt (x : UInt64) : TyOf K H (.flt x) (.type "float")
  | lst {a : Addr} {xs : List V} (e : H a = some (.lst xs)) : TyOf K H (.ref a) (.type "list")
  | frz {a : Addr} {o : Obj} {xs : List V} (e : H a = some (.frz o (.lst xs))) : TyOf K H (.ref a) (.type "list")
  | tup {a : Addr} {xs : List V} (e : H a = some (.tup xs)) : TyOf K H (.ref a) (.type "tuple")
  | dK {a : Addr} {kvs : List (Key × V)} (e : H a = some (.dK kvs)) : TyOf K H (.ref a) (.type "dict")
  | dT {a : Addr} {kvs : List (List Key × V)} (e : H a = some (.dT kvs)) : TyOf K H (.ref a) (.type "dict")
  | ins {a C dx : Addr} {fs : List (Str × V)} (e : H a = some (.ins C dx fs)) (cl : Cls K C) (ha : PySem.W.findIn K (.ref C) "__class__" = some (some (.builtin "object.__class__")))
      (hn : PySem.W.specialIn K (.builtin "object.__class__") "__get__" = some (some (.builtin "getset_descriptor.__get__"))) (htk : PySem.W.takesIn K (.builtin "object.__class__") = some true)
      (hm : PySem.W.mroIn K C (.type "object") = some true) : TyOf K H (.ref a) (.ref C)
end
end L2
namespace L2
open PySem PySem.Spec PyProof.Rows
structure Room (k : Nat) (A : Around) : Prop where
  hd : A.handled = none
  dp : A.depth + 3 * k + 5 < recursionLimit
  un : A.units + 16 * k + 200 < cLine
theorem Room.mono {j k : Nat} {A : Around} (r : Room k A) (h : j ≤ k) : Room j A := ⟨r.hd, by have := r.dp; omega, by have := r.un; omega⟩
theorem Room.deeper {k : Nat} {A : Around} (r : Room (k + 1) A) (env : Env) : Room k (A.deeper env) :=
  ⟨r.hd, by have := r.dp; show A.depth + 1 + 3 * k + 5 < _; omega, by have := r.un; show A.units + 3 + 16 * k + 200 < _; omega⟩
theorem Room.in1 {k : Nat} {A : Around} (r : Room (k + 1) A) : Room k A.in1 :=
  ⟨r.hd, by have := r.dp; show A.depth + 3 * k + 5 < _; omega, by have := r.un; show A.units + 1 + 16 * k + 200 < _; omega⟩
theorem Room.depth {k : Nat} {A : Around} (r : Room k A) : A.depth < recursionLimit := by have := r.dp; omega
theorem Room.units {k : Nat} {A : Around} (r : Room k A) : A.units + 64 < cLine := by have := r.un; omega
def tNil : TA := fun _ H Q => Q [] H
def tCons (ta : TE) (tr : TA) : TA := fun σ H Q => ta σ H fun x H1 => tr σ H1 fun xs H2 => Q (x :: xs) H2
section
variable {X : Cx} {e : Expr} {es : List Expr} {te : TE} {t : TA} {pos : Pos}
theorem pa_nil : PA X [] tNil := fun _ _ _ _ H Q I h => Calls.spliced_nil ⟨[], H, I, .nil, h⟩
theorem pa_cons (ha : PE X e te) (hr : PA X es t) (hs : starEach (e :: es) X.env = (false, eval e X.env) :: starEach es X.env := by rfl) : PA X (e :: es) (tCons te t) := by
  intro pos pins s σ H Q I h
  rw [hs]
  show wpAny _ _ (spliced ((false, eval e X.env) :: backTo pos (starEach es X.env))) _ _ s
  refine Calls.spliced_cons (thn (ha pins s σ H _ I h) fun u s1 ⟨x, H1, I1, r1, q1⟩ => ?_)
  exact thn (hr pos pins s1 σ H1 _ I1 q1) fun us s2 ⟨xs, H2, I2, r2, q2⟩ => ⟨x :: xs, H2, I2, .cons r1 r2, q2⟩
def tTup (t : TA) : TE := fun σ H Q => t σ H fun xs H1 => xs.length ≤ sizeLine ∧ ∀ p, H1 p = none → Q (.ref p) (upd H1 p (.tup xs))
def tLst (t : TA) : TE := fun σ H Q => t σ H fun xs H1 => xs.length ≤ sizeLine ∧ ∀ p, H1 p = none → Q (.ref p) (upd H1 p (.lst xs))
theorem pe_tup {x1} (h : PA X es t) : PE X (.Tuple es x1 pos) (tTup t) := by
  intro pins s σ H Q I hq
  refine wpAny_Tuple_spliced (thn (h pos pins s σ H _ I hq) fun us s1 ⟨xs, H1, I1, r, z, q⟩ => ⟨by rw [← r.length]; exact z, ?_⟩)
  have hf : H1 s1.heap.objs.size = none := I1.hok.fresh (Nat.le_refl _)
  refine ⟨.ref s1.heap.objs.size, upd H1 s1.heap.objs.size (.tup xs), I1.laid (t' := s1.toks) (fun b u e => Heap.get?_push_of_some _ e) (Nat.le_refl _) ?_, rfl, q _ hf⟩
  exact ⟨z, us, r, ⟨_, Heap.get?_push_size _ rfl, rfl, _, rfl⟩⟩
theorem pe_lst (h : PA X es t) : PE X (.List es pos) (tLst t) := by
  intro pins s σ H Q I hq
  refine wpAny_List_spliced (thn (h pos pins s σ H _ I hq) fun us s1 ⟨xs, H1, I1, r, z, q⟩ => ⟨by rw [← r.length]; exact z, ?_⟩)
  have hf : H1 s1.heap.objs.size = none := I1.hok.fresh (Nat.le_refl _)
  refine ⟨.ref s1.heap.objs.size, upd H1 s1.heap.objs.size (.lst xs), I1.laid (t' := s1.toks) (fun b u e => Heap.get?_push_of_some _ e) (Nat.le_refl _) ?_, rfl, q _ hf⟩
  exact ⟨z, us, 0, r, Heap.get?_push_size _ rfl⟩
end
abbrev Sp := List V → Hp → VK → XK → Prop
abbrev CXT := List Env → Hp → Shared → XK → Value → Shared → Prop
structure Env0 (P : Program) (w : World) (K : PySem.W.Frag) (mg : Str → Option Value) (base : Heap) (A : Around) (outer : List Env) (s : Shared) (H : Hp) : Prop where
  frames : A.frames = some outer
  mod : Mod K mg base
  bs : ∀ b o, base.get? b = some o → s.heap.get? b = some o ∧ H b = none
  bsz : base.objs.size ≤ s.heap.objs.size
  funs : s.heap.FunFrames base outer
  frf : ∀ b ∈ frs outer, H b = none
  hok : HOk P w H s.heap
  bare : AllBare s.gens
def CE (outer : List Env) (P : Program) (w : World) (H : Hp) (s : Shared) (Q : VK) (u : Value) (s' : Shared) : Prop :=
  ∃ v H', s'.os = s.os ∧ AllBare s'.gens ∧ Un (frs outer) [] H H' s.heap s'.heap ∧ HOk P w H' s'.heap ∧ RelV v u ∧ Q v H'
def CR (CX : CXT) (outer : List Env) (P : Program) (w : World) (H : Hp) (s : Shared) (Q : VK) (E : XK) (r : Result) (s' : Shared) : Prop :=
  match r with
  | .ok (.ret u) => CE outer P w H s Q u s'
  | .ok _ => False
  | .error e => CX outer H s E e s'
structure FnOk (P : Program) (w : World) (K : PySem.W.Frag) (mg : Str → Option Value) (base : Heap) (CX : CXT) (k : Nat) (f : Addr) (fd : FuncData) (ps : List Str) (sp : Sp) : Prop where
  len : ∀ vs H Q E, sp vs H Q E → vs.length = ps.length
  run : ∀ (A : Around) (outer : List Env) (s : Shared) (H : Hp) (args : Args) (us : List Value) (vs : List V) (Q : VK) (E : XK), Room k A → Env0 P w K mg base A outer s H → BindsTo s fd args (ps.zip us) → Vals vs us → sp vs H Q E →
    codeAny (model P w) A (.call (.ref f) args) (CR CX outer P w H s Q E) s
theorem FnOk.mono {P : Program} {w : World} {K : PySem.W.Frag} {mg : Str → Option Value} {base : Heap} {CX : CXT} {j k : Nat} {f : Addr} {fd : FuncData} {ps : List Str} {sp : Sp} (F : FnOk P w K mg base CX j f fd ps sp) (h : j ≤ k) :
    FnOk P w K mg base CX k f fd ps sp := ⟨F.len, fun A outer s H args us vs Q E hr => F.run A outer s H args us vs Q E (hr.mono h)⟩
theorem FnOk.imp {P : Program} {w : World} {K : PySem.W.Frag} {mg : Str → Option Value} {base : Heap} {CX : CXT} {k : Nat} {f : Addr} {fd : FuncData} {ps : List Str} {sp sp' : Sp} (F : FnOk P w K mg base CX k f fd ps sp)
    (h : ∀ vs H Q E, sp' vs H Q E → sp vs H Q E) : FnOk P w K mg base CX k f fd ps sp' :=
  ⟨fun vs H Q E q => F.len vs H Q E (h _ _ _ _ q), fun A outer s H args us vs Q E hr he hb hv hs => F.run A outer s H args us vs Q E hr he hb hv (h _ _ _ _ hs)⟩
theorem Env0.in1 {P : Program} {w : World} {K : PySem.W.Frag} {mg : Str → Option Value} {base : Heap} {A : Around} {outer : List Env} {s : Shared} {H : Hp} (e : Env0 P w K mg base A outer s H) :
    Env0 P w K mg base A.in1 outer s H := ⟨e.frames, e.mod, e.bs, e.bsz, e.funs, e.frf, e.hok, e.bare⟩
section
variable {X : Cx} {pins : List (Addr × Obj)} {σ : St} {H : Hp} {s s' : Shared}
theorem Inv.env0 (I : Inv X pins σ H s) : Env0 X.prog X.w X.K X.mg X.base X.A X.stack s H :=
  ⟨I.ok.frames, I.ok.mod, I.bs, Nat.le_trans I.ok.bsz I.sz, I.stack, I.stkFree, I.hok, I.bare⟩
theorem Inv.after {Q : VK} {u : Value} (I : Inv X pins σ H s) (h : CE X.stack X.prog X.w H s Q u s') : EP X pins σ Q u s' := by
  obtain ⟨v, H', os, bare, un, hok, r, q⟩ := h
  obtain ⟨hh, g, d, t, os'⟩ := s'
  obtain rfl : os' = s.os := os
  exact ⟨v, H', I.call (h' := hh) (g' := g) (d' := d) (t' := t) (ch := []) un hok bare (fun b z => absurd z (by simp)), r, q⟩
end
def tCall (sp : Sp) (dvs : List V) (E : XK) (t : TA) : TE := fun σ H Q => t σ H fun vs H1 => sp (vs ++ dvs) H1 Q E
def Binds (K : PySem.W.Frag) (fd : FuncData) (ps : List Str) (ds : List Value) : Prop :=
  ∀ (s : Shared) (us : List Value), K.In s.heap → (us ++ ds).length = ps.length → BindsTo s fd ⟨us, []⟩ (ps.zip (us ++ ds))
theorem Binds.all {K : PySem.W.Frag} {fd : FuncData} {ps : List Str} (h : ∀ us : List Value, us.length = ps.length → bindArgs fd ⟨us, []⟩ = pure (ps.zip us)) : Binds K fd ps [] := fun s us _ hl => by
  rw [List.append_nil] at hl ⊢
  exact .of_eq (h us hl)
def Passes (CX : CXT) (X : Cx) (E : XK) : Prop := ∀ (pins : List (Addr × Obj)) (σ : St) (H : Hp) (s : Shared) (e : Value) (s' : Shared), Inv X pins σ H s → CX X.stack H s E e s' → X.xe e s'
section
variable {X : Cx} {CX : CXT} {k : Nat} {f C : Addr} {fd : FuncData} {ps : List Str} {sp : Sp} {dvs : List V} {ds : List Value} {E : XK} {x m : Str} {p pos apos : Pos} {e o : Expr} {es : List Expr} {ta : TE} {t : TA}
theorem run_fn {pins : List (Addr × Obj)} {σ : St} {H : Hp} {s : Shared} {Q : VK} {us : List Value} {vs : List V} (F : FnOk X.prog X.w X.K X.mg X.base CX k f fd ps sp) (hr : Room k X.A) (hb : Binds X.K fd ps ds) (hd : Vals dvs ds) (hx : Passes CX X E)
    (I : Inv X pins σ H s) (r : Vals vs us) (h : sp (vs ++ dvs) H Q E) : wpAny (model X.prog X.w) X.A (call (.ref f) us) (EP X pins σ Q) X.xe s := by
  have r2 : Vals (vs ++ dvs) (us ++ ds) := r.append hd
  have hl : (us ++ ds).length = ps.length := by rw [← r2.length]; exact F.len _ _ _ _ h
  refine wpAny_call (codeAny_mono (F.run X.A X.stack s H ⟨us, []⟩ (us ++ ds) (vs ++ dvs) Q E hr I.env0 (hb s us I.kIn hl) r2 h) fun r s' hq => ?_)
  cases r with
  | error e => exact hx pins σ H s e s' I hq
  | ok fl =>
    cases fl with
    | ret u => exact I.after hq
    | next => exact False.elim hq
    | brk => exact False.elim hq
    | cont => exact False.elim hq
theorem pe_call (F : FnOk X.prog X.w X.K X.mg X.base CX k f fd ps sp) (hr : Room k X.A) (hg : Gl X x) (hm : X.mg x = some (.ref f)) (hk : PySem.W.keepIn X.K (.ref f) = true) (hb : Binds X.K fd ps ds) (hd : Vals dvs ds) (hx : Passes CX X E)
    (ha : PA X (e :: es) t) (hdb : (x == ("__debug__" : Str)) = false := by decide) (he : starEach (e :: es) X.env = (false, eval e X.env) :: starEach es X.env := by rfl) (hpl : (backTo pos (starEach es X.env)).any (·.1) = false := by rfl) :
    PE X (.Call (.Name x p) (e :: es) [] pos) (tCall sp dvs E t) := by
  intro pins s σ H Q I h
  refine wpAny_Call_Name_kw (ld_glob I hg hm ?_ hdb)
  refine PySem.W.callWith_K (h₀ := X.base) I.ok.mod.kin hk (thn (ha pos pins s σ H _ I h) fun us s1 ⟨vs, H1, I1, r, q⟩ => ⟨I1.kIn, ?_⟩) he hpl
  exact run_fn F hr hb hd hx I1 r q
structure Mk (K : PySem.W.Frag) (C f : Addr) : Prop where
  makes : PySem.W.makesIn K C = true
  init : PySem.W.findIn K (.ref C) "__init__" = some (some (.ref f))
  fn : PySem.W.isFn K (.ref f) = true
  kp : PySem.W.keepIn K (.ref C) = true
end
section
variable {X : Cx} {CX : CXT} {k : Nat} {f C : Addr} {fd : FuncData} {ps ks : List Str} {sp : Sp} {E : XK} {x m : Str} {p pos apos kpos : Pos} {e o : Expr} {es : List Expr} {kws : List Keyword} {te ta : TE} {t tk : TA} {nm : Option Str}
structure KBinds (K : PySem.W.Frag) (fd : FuncData) (ps ks : List Str) (g : List Value → List Value → List Value) (gV : List V → List V → List V) : Prop where
  to : ∀ (s : Shared) (us ws : List Value), K.In s.heap → (g us ws).length = ps.length → BindsTo s fd ⟨us, ks.zip ws⟩ (ps.zip (g us ws))
  rel : ∀ {vs : List V} {us : List Value} {zs : List V} {ws : List Value}, Vals vs us → Vals zs ws → Vals (gV vs zs) (g us ws)
variable {g : List Value → List Value → List Value} {gV : List V → List V → List V}
end
structure FnScope (N P : List Str) (sc : Scope) : Prop where
  kind : sc.kind = .function
  co : sc.isCoroutine = false
  gen : sc.isGenerator = false
  nd : N.Nodup
  pre : N.take P.length = P
  par : ∀ x ∈ P, sc.names.lookup x = some .local ∨ sc.names.lookup x = some .cell
  nofree : ∀ y ∈ sc.names, y.2 ≠ .free
theorem bindL_out {kindOf : Str → Option NameKind} {x : Str} : ∀ {binds : List (Str × Value)} {m : Str → Option Value}, (∀ v, (x, v) ∉ binds) → bindL kindOf binds m x = m x
  | [], _, _ => rfl
  | (n, v) :: r, m, h => by
    unfold bindL
    rw [bindL_out fun w hw => h w (List.mem_cons_of_mem _ hw)]
    split
    · have : x ≠ n := by rintro rfl; exact h v List.mem_cons_self
      simp [this]
    · rfl
theorem bindC_out {kindOf : Str → Option NameKind} {x : Str} : ∀ {binds : List (Str × Value)} {m : Str → Option Value}, (∀ v, (x, v) ∉ binds) → bindC kindOf binds m x = m x
  | [], _, _ => rfl
  | (n, v) :: r, m, h => by
    unfold bindC
    rw [bindC_out fun w hw => h w (List.mem_cons_of_mem _ hw)]
    split
    · rfl
    · have : x ≠ n := by rintro rfl; exact h v List.mem_cons_self
      simp [this]
theorem bindL_get {kindOf : Str → Option NameKind} {x : Str} {v : Value} : ∀ {P : List Str} {vs : List Value} {i : Nat} {m : Str → Option Value}, P.Nodup → P[i]? = some x → vs[i]? = some v → kindOf x = some .local →
    bindL kindOf (P.zip vs) m x = some v
  | [], _, _, _, _, h, _, _ => by simp at h
  | _ :: _, [], _, _, _, _, h, _ => by simp at h
  | p :: P, w :: vs, 0, m, nd, h1, h2, hk => by
    simp at h1 h2; subst h1; subst h2
    show bindL kindOf ((p, w) :: P.zip vs) m p = _
    unfold bindL
    rw [bindL_out fun v hv => (List.nodup_cons.mp nd).1 (List.of_mem_zip hv).1, if_pos hk]
    simp
  | p :: P, w :: vs, i + 1, m, nd, h1, h2, hk => by
    show bindL kindOf ((p, w) :: P.zip vs) m x = _
    unfold bindL
    exact bindL_get (i := i) (List.nodup_cons.mp nd).2 (by simpa using h1) (by simpa using h2) hk
theorem bindC_get {kindOf : Str → Option NameKind} {x : Str} {v : Value} : ∀ {P : List Str} {vs : List Value} {i : Nat} {m : Str → Option Value}, P.Nodup → P[i]? = some x → vs[i]? = some v → kindOf x ≠ some .local →
    bindC kindOf (P.zip vs) m x = some v
  | [], _, _, _, _, h, _, _ => by simp at h
  | _ :: _, [], _, _, _, _, h, _ => by simp at h
  | p :: P, w :: vs, 0, m, nd, h1, h2, hk => by
    simp at h1 h2; subst h1; subst h2
    show bindC kindOf ((p, w) :: P.zip vs) m p = _
    unfold bindC
    rw [bindC_out fun v hv => (List.nodup_cons.mp nd).1 (List.of_mem_zip hv).1, if_neg hk]
    simp
  | p :: P, w :: vs, i + 1, m, nd, h1, h2, hk => by
    show bindC kindOf ((p, w) :: P.zip vs) m x = _
    unfold bindC
    exact bindC_get (i := i) (List.nodup_cons.mp nd).2 (by simpa using h1) (by simpa using h2) hk
def start (N : List Str) (vs : List V) : St := vs.map some ++ List.replicate (N.length - vs.length) none
def cxOf (CX : CXT) (P : Program) (w : World) (K : PySem.W.Frag) (mg : Str → Option Value) (base : Heap) (N : List Str) (qual : Str) (scope : Scope) (f : Addr) (cd : Value) (A : Around) (outer : List Env) (s : Shared) (H : Hp) (E : XK) : Cx where
  prog := P
  w := w
  K := K
  mg := mg
  base := base
  A := A.deeper (envOfC qual scope s.heap.objs.size f cd)
  N := N
  s_0 := s
  H_0 := H
  env := envOfC qual scope s.heap.objs.size f cd
  outer := outer
  stack := envOfC qual scope s.heap.objs.size f cd :: outer
  ex := []
  calm := true
  fn := fun _ => true
  pn := []
  xe := fun e s' => wpAny (model P w) (A.deeper (envOfC qual scope s.heap.objs.size f cd)) (leaving (envOfC qual scope s.heap.objs.size f cd) e) (fun _ s'' => CX outer H s E e s'') (fun e' s'' => CX outer H s E e' s'') s'
theorem cell_has {sc : Scope} {n : Nat} {x : Str} (h : sc.names.lookup x = some .cell) : ∃ c, (cellsFrom n sc.names []).lookup x = some c := by
  have q := PySem.W.cellsFrom_some sc.names n [] (.inl h)
  exact Option.isSome_iff_exists.mp q
theorem inv_start {CX : CXT} {P : Program} {w : World} {K : PySem.W.Frag} {mg : Str → Option Value} {base : Heap} {N ps : List Str} {qual : Str} {scope : Scope} {f : Addr} {cd : Value} {A : Around} {outer : List Env} {s s1 : Shared} {H : Hp} {E : XK} {us : List Value} {vs : List V}
    (S : FnScope N ps scope) (hd : A.handled = none) (e0 : Env0 P w K mg base A outer s H) (hl : vs.length = ps.length) (r : Vals vs us)
    (x : InCallC s s.heap.objs.size (bindL (envOfC qual scope s.heap.objs.size f cd).kindOf (ps.zip us) fun _ => none) (cellsFrom (s.heap.objs.size + 1) scope.names []) (bindC (envOfC qual scope s.heap.objs.size f cd).kindOf (ps.zip us) fun _ => none) s1) :
    Inv (cxOf CX P w K mg base N qual scope f cd A outer s H E) [] (start N vs) H s1 := by
  have hpl : ps.length ≤ N.length := by have := congrArg List.length S.pre; rw [List.length_take] at this; omega
  obtain ⟨h1, tk, rfl, hk⟩ := x.done
  have noA : ∀ b : Addr, b ∉ (cxOf CX P w K mg base N qual scope f cd A outer s H E).ex := fun b z => absurd (show b ∈ ([] : List Addr) from z) (by simp)
  refine ⟨⟨e0.mod, S.kind, rfl, rfl, Nat.le_refl _, fun y z c h1 h2 => ?_, fun y hy => ?_, fun y c _ h => ?_, fun _ => hd, Around.frames_deeper e0.frames, .inr ⟨rfl, rfl⟩, fun b z => absurd z (noA b), e0.bs, e0.bsz, fun b _ _ => noA b, fun b z => absurd z (noA b), e0.funs, e0.frf⟩,
    rfl, e0.bare, Un.kept hk, ⟨_, x.toInCall.ns, fun i y v h1 h2 h3 => ?_⟩, fun y c h => ⟨_, x.cell y c h⟩, e0.hok.fresh (Nat.le_refl _), fun y c h => ?_, fun p hp => absurd (show p ∈ ([] : List (Addr × Obj)) from hp) (by simp), e0.hok.kept hk, ?_⟩
  · exact name_of_addr x.apart (PySem.mem_of_lookup h1) (PySem.mem_of_lookup h2)
  · have hy : scope.names.lookup y = some .cell ∨ scope.names.lookup y = some .free := hy
    rcases hy with hy | hy
    · exact cell_has hy
    · exact absurd rfl (S.nofree _ (PySem.mem_of_lookup hy))
  · exact Nat.le_of_lt (x.above y c (PySem.mem_of_lookup h))
  · have hi : i < vs.length := by
      unfold start at h2
      by_cases hi : i < vs.length
      · exact hi
      · rw [List.getElem?_append_right (by simpa using hi)] at h2
        rw [List.getElem?_replicate] at h2
        split at h2 <;> cases h2
    have ha : vs[i]? = some v := by
      unfold start at h2
      rw [List.getElem?_append_left (by simpa using hi), List.getElem?_map] at h2
      cases e : vs[i]? with
      | none => rw [e] at h2; cases h2
      | some a => rw [e] at h2; cases h2; rfl
    obtain ⟨u, hu, rv⟩ := r.get ha
    have hp : ps[i]? = some y := by
      rw [← S.pre, List.getElem?_take_of_lt (by omega)]; exact h1
    have ndP : ps.Nodup := by rw [← S.pre]; exact S.nd.sublist (List.take_sublist _ _)
    refine ⟨u, rv, ?_⟩
    rcases S.par y (List.mem_of_getElem? hp) with k | k
    · exact .inl ⟨k, bindL_get ndP hp hu k⟩
    · obtain ⟨c, e⟩ := cell_has (n := s.heap.objs.size + 1) k
      refine .inr ⟨.inl k, c, e, ?_⟩
      have q := x.cell y c e
      rw [bindC_get ndP hp hu (by show scope.names.lookup y ≠ _; rw [k]; decide)] at q
      exact q
  · exact e0.hok.fresh (Nat.le_of_lt (x.above y c (PySem.mem_of_lookup h)))
  · unfold start
    show _ = N.length
    rw [List.length_append, List.length_map, List.length_replicate]
    omega
theorem fn_of {CX : CXT} {P : Program} {w : World} {K : PySem.W.Frag} {mg : Str → Option Value} {base : Heap} {k : Nat} {f : Addr} {name qual : Str} {params : Arguments} {body : List Stmt} {scope : Scope} {dV kV doc pm cdv ct oc : Value} {an od : Option Addr}
    {osl : Array (Option Value)} {N ps : List Str} {sp : Sp} (lk : K.lookup f = some ⟨oc, od, .func (PySem.W.fnOf name qual params body scope dV kV doc pm an cdv ct), osl⟩) (hcd : PySem.W.codeIn K cdv qual = true) (S : FnScope N ps scope)
    (len : ∀ vs H Q E, sp vs H Q E → vs.length = ps.length)
    (hbody : ∀ (A : Around) (outer : List Env) (s : Shared) (H : Hp) (vs : List V) (Q : VK) (E : XK), Room k (A.deeper (envOfC qual scope s.heap.objs.size f cdv)) → sp vs H Q E →
      ∃ t, PSs (cxOf CX P w K mg base N qual scope f cdv A outer s H E) body t ∧ t { nx := fun _ H' => Q .non H', rt := Q } (start N vs) H) :
    FnOk P w K mg base CX (k + 1) f (PySem.W.fnOf name qual params body scope dV kV doc pm an cdv ct) ps sp := by
  refine ⟨len, fun A outer s H args us vs Q E hr e0 hb r hsp => ?_⟩
  have hl := len _ _ _ _ hsp
  have KX : K.In s.heap := e0.mod.kin.keeps fun b o e => (e0.bs b o e).1
  have lim : s.heap.NoLimit := e0.mod.nolimit.keeps fun b o e => (e0.bs b o e).1
  have hkind : ∀ y ∈ ps.zip us, scope.names.lookup y.1 = some .local ∨ (scope.names.lookup y.1 = some .cell ∧ ((cellsFrom (s.heap.objs.size + 1) scope.names []).lookup y.1).isSome = true) := fun ⟨n, v⟩ hy => by
    rcases S.par n (List.of_mem_zip hy).1 with q | q
    · exact .inl q
    · exact .inr ⟨q, PySem.W.cellsFrom_some _ _ _ (.inl q)⟩
  refine codeAny_call_function hr.depth (KX _ _ lk) rfl S.co S.gen rfl (PySem.W.codeRec_of KX hcd) (hb _ _ _ _ ?_)
  refine wpAny_newFunctionEnv_cells S.kind hkind fun env he s1 x => ?_
  subst he
  refine ⟨lim.keeps x.toInCall.keep, codeAny_func ?_⟩
  obtain ⟨t, ht, hq⟩ := hbody A outer s H vs Q E (hr.deeper _) hsp
  have I : Inv (cxOf CX P w K mg base N qual scope f cdv A outer s H E) [] (start N vs) H s1 := inv_start S hr.hd e0 hl r x
  refine wpAny_mono (ht [] s1 (start N vs) H _ I hq) (fun fl s' hs => ?_) fun e s' hs => hs
  have fin : ∀ {σ' : St} {H' : Hp} {v : V} {u : Value}, Inv (cxOf CX P w K mg base N qual scope f cdv A outer s H E) [] σ' H' s' → RelV v u → Q v H' → CE outer P w H s Q u s' :=
    fun {σ' H' v u} J rv q => ⟨v, H', J.os, J.bare, J.base, J.hok, rv, q⟩
  cases fl with
  | ret u =>
    obtain ⟨v, σ', H', J, rv, q⟩ := hs
    exact fin J rv q
  | next =>
    obtain ⟨σ', H', J, q⟩ := hs
    exact fin (v := V.non) (u := Value.none) J rfl q
  | brk =>
    obtain ⟨_, _, _, q⟩ := hs
    exact False.elim q
  | cont =>
    obtain ⟨_, _, _, q⟩ := hs
    exact False.elim q
end L2
namespace L2
open PySem PySem.Spec PyProof.Rows
section
variable {X : Cx} {x : Str} {p pos : Pos} {e : Expr} {es : List Expr} {t : TA} {id T : String} {r : List V → Hp → VK → Prop}
def tCB (r : List V → Hp → VK → Prop) (t : TA) : TE := fun σ H Q => t σ H fun vs H1 => r vs H1 Q
theorem pe_callB (hc : CallR X (.builtin id) r) (hg : Gl X x) (hm : X.mg x = none) (hv : bootBuiltins x = some (.builtin id)) (ha : PA X (e :: es) t) (hn : x ≠ "__name__" := by decide) (hdb : (x == ("__debug__" : Str)) = false := by decide)
    (he : starEach (e :: es) X.env = (false, eval e X.env) :: starEach es X.env := by rfl) (hpl : (backTo pos (starEach es X.env)).any (·.1) = false := by rfl) : PE X (.Call (.Name x p) (e :: es) [] pos) (tCB r t) := by
  intro pins s σ H Q I h
  refine wpAny_Call_Name_kw (ld_blt I hg hm hv ?_ hn hdb)
  exact PyProof.Rows.callWith_builtin1 (thn (ha pos pins s σ H _ I h) fun us s1 ⟨vs, H1, I1, r1, q1⟩ => hc pins s1 σ H1 vs us Q I1 r1 q1) he hpl
theorem pe_callTy (hc : CallR X (.type T) r) (hg : Gl X x) (hm : X.mg x = none) (hv : bootBuiltins x = some (.type T)) (ha : PA X (e :: es) t) (hn : x ≠ "__name__" := by decide) (hdb : (x == ("__debug__" : Str)) = false := by decide)
    (he : starEach (e :: es) X.env = (false, eval e X.env) :: starEach es X.env := by rfl) (hpl : (backTo pos (starEach es X.env)).any (·.1) = false := by rfl) : PE X (.Call (.Name x p) (e :: es) [] pos) (tCB r t) := by
  intro pins s σ H Q I h
  refine wpAny_Call_Name_kw (ld_blt I hg hm hv ?_ hn hdb)
  exact PyProof.Rows.callWith_type1 (thn (ha pos pins s σ H _ I h) fun us s1 ⟨vs, H1, I1, r1, q1⟩ => hc pins s1 σ H1 vs us Q I1 r1 q1) he hpl
end
end L2
namespace HT
open PySem PyProof.Rows
section
open PySem.SeqAt
open PySem.AutoSeq1 (wpAny_loadPart')
open PySem.MeetsSeq PySem.MeetsSeq2 PySem.MeetsSeq3
end
section
variable {prog : Program} {w : World} {A : Around} {E : Value → Shared → Prop} {s : Shared}
def sIx (n d : Nat) : Option Int → Nat
  | none => d
  | some v => if v < 0 then (v + (n : Int)).toNat else min v.toNat n
theorem sIx_none (n d : Nat) : sIx n d none = d := rfl
theorem sIx_nat (n d k : Nat) : sIx n d (some (k : Int)) = min k n := by
  show (if (k : Int) < 0 then ((k : Int) + (n : Int)).toNat else min (k : Int).toNat n) = min k n
  rw [if_neg (by omega), Int.toNat_natCast]
theorem sIx_le (n d : Nat) (hd : d ≤ n) (o : Option Int) : sIx n d o ≤ n := by
  cases o with
  | none => exact hd
  | some v =>
    show (if v < 0 then (v + (n : Int)).toNat else min v.toNat n) ≤ n
    by_cases hv : v < 0
    · rw [if_pos hv]; omega
    · rw [if_neg hv]; exact Nat.min_le_right _ _
end
end HT
namespace L2
open PySem PySem.Spec PyProof.Rows
abbrev TO := St → Hp → (Option Int → Hp → Prop) → Prop
def PO (X : Cx) (e : Option Expr) (t : TO) : Prop :=
  ∀ (pins : List (Addr × Obj)) (s : Shared) (σ : St) (H : Hp) (Q : Option Int → Hp → Prop), Inv X pins σ H s → t σ H Q →
    wpAny (model X.prog X.w) X.A (evalPart e X.env) (fun u s' => ∃ o H', Inv X pins σ H' s' ∧ IsPart u o ∧ Q o H') X.xe s
def tNoPart : TO := fun _ H Q => Q none H
def tPart (t : TE) : TO := fun σ H Q => t σ H fun x H1 => ∃ i, x = .int i ∧ Q (some i) H1
section
variable {X : Cx} {e : Expr} {te : TE} {lo hi : Option Expr} {tl th : TO} {pos p2 : Pos}
theorem po_none : PO X none tNoPart := by
  intro pins s σ H Q I h
  rw [evalPart_none]
  exact wpAny_pure ⟨none, H, I, .none, h⟩
theorem po_some (h : PE X e te) : PO X (some e) (tPart te) := by
  intro pins s σ H Q I hw
  rw [evalPart_some]
  refine thn (h pins s σ H _ I hw) fun u s1 ⟨x, H1, I1, r1, q1⟩ => ?_
  obtain ⟨i, rfl, q⟩ := q1
  obtain ⟨t, rfl⟩ := r1
  exact ⟨some i, H1, I1, .int i t, q⟩
def SlR (X : Cx) (r : V → Option Int → Option Int → Hp → VK → Prop) : Prop :=
  ∀ (pins : List (Addr × Obj)) (s : Shared) (σ : St) (H : Hp) (x : V) (v vl vu : Value) (lo hi : Option Int) (sl : Addr) (Q : VK), Inv X pins σ H s → RelV x v → s.heap.IsSliceOf sl vl vu .none → IsPart vl lo → IsPart vu hi → r x lo hi H Q →
    ∃ T id, typeLookup (.type T) "__getitem__" = pure (some (.builtin id)) ∧ s.TypeIs v T ∧ wpAny (model X.prog X.w) X.A (getItem v (.ref sl)) (EP X pins σ Q) X.xe s
theorem SlR.or {r r' : V → Option Int → Option Int → Hp → VK → Prop} (h : SlR X r) (h' : SlR X r') : SlR X (fun x lo hi H Q => r x lo hi H Q ∨ r' x lo hi H Q) := by
  intro pins s σ H x v vl vu lo hi sl Q I rx hs pl pu q
  rcases q with q | q
  · exact h pins s σ H x v vl vu lo hi sl Q I rx hs pl pu q
  · exact h' pins s σ H x v vl vu lo hi sl Q I rx hs pl pu q
def tSl (r : V → Option Int → Option Int → Hp → VK → Prop) (te : TE) (tl th : TO) : TE := fun σ H Q => te σ H fun x H1 => tl σ H1 fun l H2 => th σ H2 fun u H3 => r x l u H3 Q
theorem pe_slice {r : V → Option Int → Option Int → Hp → VK → Prop} (hr : SlR X r) (he : PE X e te) (hl : PO X lo tl) (hu : PO X hi th) : PE X (.Subscript e (.Slice lo hi none p2) pos) (tSl r te tl th) := by
  intro pins s σ H Q I h
  refine Subscript_ (thn (he pins s σ H _ I h) fun v s1 ⟨x, H1, I1, r1, q1⟩ => ?_)
  refine wpAny_Slice (thn (hl pins s1 σ H1 _ I1 q1) fun vl s2 ⟨l, H2, I2, pl, q2⟩ => thn (hu pins s2 σ H2 _ I2 q2) fun vu s3 ⟨u, H3, I3, pu, q3⟩ => ?_)
  rw [evalPart_none]
  refine wpAny_pure ?_
  have I4 : Inv X pins σ H3 { s3 with heap := s3.heap.push { cls := .type "slice", data := .fields #[vl, vu, .none] } } := I3.kept (t' := s3.toks) fun b ob q => Heap.get?_push_of_some _ q
  obtain ⟨T, id, hT, ht, hg⟩ := hr pins { s3 with heap := s3.heap.push { cls := .type "slice", data := .fields #[vl, vu, .none] } } σ H3 x v vl vu l u s3.heap.objs.size Q I4 r1 (Heap.IsSliceOf.new ..) pl pu q3
  show wpAny (model X.prog X.w) X.A (subscriptTail e (.Slice lo hi none p2) v (.ref s3.heap.objs.size)) (EP X pins σ Q) X.xe { s3 with heap := s3.heap.push { cls := .type "slice", data := .fields #[vl, vu, .none] } }
  exact tail_any (ops := [.ref s3.heap.objs.size, v]) ht hT hg (by with_unfolding_all rfl)
end
end L2
namespace L2
open PySem PySem.Spec PyProof.Rows
def ixN (n : Nat) (i : Int) : Option Nat := if 0 ≤ i then (if i < n then some i.toNat else none) else if -(n : Int) ≤ i then some (i + n).toNat else none
def atI {α : Type} (xs : List α) (i : Int) : Option α := (ixN xs.length i).bind fun j => xs[j]?
theorem ixN_seq {n : Nat} {i : Int} {j : Nat} (h : ixN n i = some j) : seqIndex? i n = some j ∧ j < n ∧ -(n : Int) ≤ i ∧ i < n := by
  unfold ixN at h
  by_cases h0 : 0 ≤ i
  · rw [if_pos h0] at h
    by_cases h1 : i < n
    · rw [if_pos h1] at h
      have e : i.toNat = j := Option.some.inj h
      exact ⟨by rw [seqIndex_of h0 h1, e], by omega, by omega, h1⟩
    · rw [if_neg h1] at h; cases h
  · rw [if_neg h0] at h
    by_cases h1 : -(n : Int) ≤ i
    · rw [if_pos h1] at h
      have e : (i + n).toNat = j := Option.some.inj h
      exact ⟨by rw [seqIndex_neg (by omega) h1, e], by omega, h1, by omega⟩
    · rw [if_neg h1] at h; cases h
theorem atI_get {α : Type} {xs : List α} {i : Int} {v : α} (h : atI xs i = some v) : ∃ j, seqIndex? i xs.length = some j ∧ xs[j]? = some v ∧ j < xs.length ∧ -(xs.length : Int) ≤ i ∧ i < xs.length := by
  unfold atI at h
  cases e : ixN xs.length i with
  | none => rw [e] at h; cases h
  | some j =>
    rw [e] at h
    obtain ⟨h1, h2, h3, h4⟩ := ixN_seq e
    exact ⟨j, h1, h, h2, h3, h4⟩
theorem atI_nat {α : Type} {xs : List α} {j : Nat} {v : α} (h : xs[j]? = some v) : atI xs (j : Int) = some v := by
  have hj : j < xs.length := (List.getElem?_eq_some_iff.mp h).1
  have e : ixN xs.length (j : Int) = some j := by
    unfold ixN
    rw [if_pos (by omega), if_pos (by omega)]; simp
  unfold atI; rw [e]; exact h
theorem atI_last {α : Type} (xs : List α) (v : α) : atI (xs ++ [v]) (-1) = some v := by
  have hl : (xs ++ [v]).length = xs.length + 1 := by simp
  have e : ixN (xs ++ [v]).length (-1) = some xs.length := by
    unfold ixN
    rw [hl, if_neg (by decide), if_pos (by omega)]
    congr 1
    omega
  unfold atI
  rw [e]
  show (xs ++ [v])[xs.length]? = some v
  simp
def PlainIx (b : Expr) : Prop := ∀ o i, subscripted b false o i = operate [o, i] (getItem o i)
def IxR (X : Cx) (r : R2) : Prop :=
  ∀ (value slice : Expr) (pins : List (Addr × Obj)) (s : Shared) (σ : St) (H : Hp) (x y : V) (v u : Value) (Q : VK), Inv X pins σ H s → RelV x v → RelV y u → r x y H Q →
    subscripted slice false v u = operate [v, u] (getItem v u) → wpAny (model X.prog X.w) X.A (subscriptTail value slice v u) (EP X pins σ Q) X.xe s
def MtR (X : Cx) (id : String) (r : V → List V → Hp → VK → Prop) : Prop :=
  ∀ (pins : List (Addr × Obj)) (s : Shared) (σ : St) (H : Hp) (x : V) (xs : List V) (v : Value) (us : List Value) (Q : VK), Inv X pins σ H s → RelV x v → Vals xs us → r x xs H Q →
    wpAny (model X.prog X.w) X.A (call (.builtin id) (v :: us)) (EP X pins σ Q) X.xe s
section
variable {X : Cx} {a b : Expr} {ta tb : TE} {pos : Pos}
theorem IxR.or {r r' : R2} (h : IxR X r) (h' : IxR X r') : IxR X (fun x y H Q => r x y H Q ∨ r' x y H Q) := by
  intro value slice pins s σ H x y v u Q I rx ry q hs
  rcases q with q | q
  · exact h value slice pins s σ H x y v u Q I rx ry q hs
  · exact h' value slice pins s σ H x y v u Q I rx ry q hs
theorem MtR.or {id : String} {r r' : V → List V → Hp → VK → Prop} (h : MtR X id r) (h' : MtR X id r') : MtR X id (fun x xs H Q => r x xs H Q ∨ r' x xs H Q) := by
  intro pins s σ H x xs v us Q I rx rs q
  rcases q with q | q
  · exact h pins s σ H x xs v us Q I rx rs q
  · exact h' pins s σ H x xs v us Q I rx rs q
theorem pe_ix {r : R2} (hr : IxR X r) (ha : PE X a ta) (hb : PE X b tb) (hs : PlainIx b) : PE X (.Subscript a b pos) (tOp r ta tb) := by
  intro pins s σ H Q I h
  exact Subscript_ (binT ha hb I h fun v u s2 x y H2 I2 rx ry q => hr a b pins s2 σ H2 x y v u Q I2 rx ry q (hs _ _))
def rIxL (K : PySem.W.Frag) : R2 := fun x y H Q => ∃ p xs i v, x = .ref p ∧ y = .int i ∧ SqL K H p xs ∧ atI xs i = some v ∧ Q v H
def rIxT (K : PySem.W.Frag) : R2 := fun x y H Q => ∃ p xs i v, x = .ref p ∧ y = .int i ∧ SqT K H p xs ∧ atI xs i = some v ∧ Q v H
def rIxS : R2 := fun x y H Q => ∃ z i c, x = .str z ∧ y = .int i ∧ z.length ≤ sizeLine ∧ atI z.cps.toList i = some c ∧ Q (.str ⟨#[c]⟩) H
theorem ix_list : IxR X (rIxL X.K) := by
  intro value slice pins s σ H x y v u Q I rx ry h hs
  obtain ⟨p, xs, i, z, rfl, rfl, hq, he, q⟩ := h
  cases rx
  obtain ⟨t, rfl⟩ := ry
  obtain ⟨its, r, pl, hz⟩ := I.list hq
  obtain ⟨j, h1, h2, h3, h4, h5⟩ := atI_get he
  obtain ⟨w, ew, rw'⟩ := r.get h2
  have hl := r.length
  have hn := line63
  have fin : EP X pins σ Q w s := ⟨z, H, I, rw', q⟩
  by_cases h0 : 0 ≤ i
  · have hj : i.toNat = j := by
      rw [seqIndex_of h0 h5] at h1
      exact Option.some.inj h1
    exact item_listR pl.isList h0 (by omega) (by rw [hj]; simpa using ew) fin hs
  · have hj : (i + (its.toArray.size : Int)).toNat = j := by
      rw [seqIndex_neg (by omega) h4] at h1
      rw [List.size_toArray, ← hl]
      exact Option.some.inj h1
    exact subscriptTail_builtinR (x := w) pl.isList.typeIs slot_list_getitem.lookup
      (wpAny_getItem_list_neg (Q := fun r s' => r = w ∧ EP X pins σ Q r s') pl.isList (by omega) (by rw [List.size_toArray] <;> omega) (by omega) (by rw [hj]; simpa using ew) ⟨rfl, fin⟩) hs
theorem ix_tup : IxR X (rIxT X.K) := by
  intro value slice pins s σ H x y v u Q I rx ry h hs
  obtain ⟨p, xs, i, z, rfl, rfl, hq, he, q⟩ := h
  cases rx
  obtain ⟨t, rfl⟩ := ry
  obtain ⟨its, r, pl, hz⟩ := I.tuple hq
  obtain ⟨j, h1, h2, h3, h4, h5⟩ := atI_get he
  obtain ⟨w, ew, rw'⟩ := r.get h2
  have hl := r.length
  have hn := line63
  have fin : EP X pins σ Q w s := ⟨z, H, I, rw', q⟩
  exact subscriptTail_builtinR (x := w) pl.typeIs slot_tuple_getitem.lookup
    (getItem_tuple (j := j) (Q := fun r s' => r = w ∧ EP X pins σ Q r s') pl (by omega) (by omega) (by rw [List.size_toArray, ← hl]; exact h1) (by simpa using ew) ⟨rfl, fin⟩) hs
theorem ix_str : IxR X rIxS := by
  intro value slice pins s σ H x y v u Q I rx ry h hs
  obtain ⟨z, i, c, rfl, rfl, hz, he, q⟩ := h
  obtain ⟨t, rfl⟩ := rx
  obtain ⟨t', rfl⟩ := ry
  obtain ⟨j, h1, h2, h3, h4, h5⟩ := atI_get he
  have hl : z.cps.toList.length = z.length := by simp [Str.length]
  rw [hl] at h1 h4 h5
  have hn := line63
  exact tail_any (typeIs_str s z t) slot_str_getitem.lookup (getItem_str (c := c) (by
    have e1 : decide (i < -(2 ^ 63 : Int)) = false := decide_eq_false (by omega)
    have e2 : decide (i ≥ 2 ^ 63) = false := decide_eq_false (by omega)
    rw [e1, e2, Bool.or_false]) (by rw [h1]; simpa using h2) ⟨.str ⟨#[c]⟩, H, I.tok _, ⟨_, rfl⟩, q⟩) hs
def rIx (K : PySem.W.Frag) : R2 := fun x y H Q => rIxL K x y H Q ∨ rIxT K x y H Q ∨ rIxS x y H Q
theorem ix_seq : IxR X (rIx X.K) := ix_list.or (ix_tup.or ix_str)
theorem mapSeq_set (its : List Value) (n j : Nat) (u : Value) : Obj.mapSeq (·.setIfInBounds j u) { cls := .type "list", data := .seq its.toArray n } = { cls := .type "list", data := .seq (its.set j u).toArray n } := by
  simp [Obj.mapSeq]
theorem Inv.lst {pins : List (Addr × Obj)} {σ : St} {H : Hp} {s : Shared} {p : Addr} {xs : List V} (I : Inv X pins σ H s) (h : H p = some (.lst xs)) :
    ∃ (its : List Value) (n : Nat), Vals xs its ∧ s.heap.get? p = some { cls := .type "list", data := .seq its.toArray n } ∧ xs.length ≤ sizeLine := by
  obtain ⟨z, its, n, r, e⟩ := I.hok p _ h
  exact ⟨its, n, r, e, z⟩
theorem Inv.lstUpd {pins : List (Addr × Obj)} {σ : St} {H : Hp} {s : Shared} {p : Addr} {xs ys : List V} {its its' : List Value} {n n' : Nat} {f : Obj → Obj} (I : Inv X pins σ H s) (h : H p = some (.lst xs))
    (ho : s.heap.get? p = some { cls := .type "list", data := .seq its.toArray n }) (hf : f { cls := .type "list", data := .seq its.toArray n } = { cls := .type "list", data := .seq its'.toArray n' }) (r : Vals ys its') (hz : ys.length ≤ sizeLine) (t : Nat) :
    Inv X pins σ (upd H p (.lst ys)) { s with heap := s.heap.update p f, toks := t } := by
  have e : (s.heap.update p f).get? p = some { cls := .type "list", data := .seq its'.toArray n' } := by
    rw [Heap.get?_update_self f ho (by rw [hf] <;> rfl), hf]
  refine I.write (x := p) (e := p) (by rw [h]; trivial) (.inl rfl) (fun b u hb q => (Heap.get?_update_other _ _ (Ne.symm hb)).trans q) ⟨_, e⟩ ?_
  exact ⟨hz, its', n', r, e⟩
def rSetL : V → V → V → Hp → (Hp → Prop) → Prop := fun o i v H Q => ∃ p xs k j, o = .ref p ∧ i = .int k ∧ H p = some (.lst xs) ∧ ixN xs.length k = some j ∧ Q (upd H p (.lst (xs.set j v)))
theorem set_list : PSet X rSetL := by
  intro pins s σ H o i v ov iv u Q I ro ri rv h
  obtain ⟨p, xs, k, j, rfl, rfl, hp, hj, q⟩ := h
  cases ro
  obtain ⟨t, rfl⟩ := ri
  obtain ⟨its, n, r, ho, hz⟩ := I.lst hp
  obtain ⟨h1, h2, h3, h4⟩ := ixN_seq hj
  have hl := r.length
  have hn := line63
  have I' : Inv X pins σ (upd H p (.lst (xs.set j v))) { s with heap := s.heap.update p (Obj.mapSeq (·.setIfInBounds j u)) } :=
    I.lstUpd hp ho (mapSeq_set its n j u) (r.set rv j) (by rw [List.length_set]; exact hz) s.toks
  by_cases h0 : 0 ≤ k
  · have hk : k.toNat = j := by
      rw [seqIndex_of h0 h4] at h1
      exact Option.some.inj h1
    exact PySem.W.ki_setAt ho h0 (by omega) (by rw [List.size_toArray, ← hl]; exact h4) (by rw [hk]; exact ⟨_, I', q⟩)
  · have hk : (k + (its.toArray.size : Int)).toNat = j := by
      rw [seqIndex_neg (by omega) h3] at h1
      rw [List.size_toArray, ← hl]
      exact Option.some.inj h1
    exact PySem.W.ki_setBack ho (by omega) (by rw [List.size_toArray, ← hl]; exact h3) (by omega) (by rw [hk]; exact ⟨_, I', q⟩)
def flatV : V → Bool
  | .non => true
  | .bl _ => true
  | .int _ => true
  | .str _ => true
  | _ => false
def eqV : V → V → Bool
  | .non, .non => true
  | .bl a, .bl b => a == b
  | .bl a, .int b => (if a then 1 else 0) == b
  | .int a, .bl b => a == (if b then 1 else 0)
  | .int a, .int b => a == b
  | .str a, .str b => a == b
  | _, _ => false
def inV (x : V) (xs : List V) : Bool := xs.any fun y => eqV y x
theorem op_notIn_str : OpR X (compareOp .NotIn) (fun x y H Q => ∃ i j, x = .str i ∧ y = .str j ∧ Q (.bl (!(!(Builtin.Str.occurrences j i 0 j.length 1).isEmpty))) H) := by
  intro pins s σ H x y v u Q I rx ry h
  obtain ⟨i, j, rfl, rfl, q⟩ := h
  obtain ⟨t, rfl⟩ := rx
  obtain ⟨t', rfl⟩ := ry
  exact notIn_str ⟨.bl _, H, I, rfl, q⟩
theorem call_len_seq : CallR X (.builtin "len") (fun xs H Q => ∃ p ys, xs = [.ref p] ∧ (SqL X.K H p ys ∨ SqT X.K H p ys) ∧ Q (.int ys.length) H) := by
  intro pins s σ H xs us Q I r h
  obtain ⟨p, ys, rfl, hq, q⟩ := h
  obtain ⟨u, rfl, rx⟩ := vals1 r
  cases rx
  have hn := line63
  rcases hq with hq | hq
  · obtain ⟨its, r', pl, hz⟩ := I.list hq
    have hlen := r'.length
    exact Calls.call_len_list pl.isList (by simp only [List.size_toArray] <;> omega) ⟨.int ys.length, H, I.tok _, ⟨s.toks + 1, by rw [List.size_toArray, hlen]⟩, q⟩
  · obtain ⟨its, r', pl, hz⟩ := I.tuple hq
    have hlen := r'.length
    exact len_tuple pl (by simp only [List.size_toArray] <;> omega) ⟨.int ys.length, H, I.tok _, ⟨s.toks + 1, by rw [List.size_toArray, hlen]⟩, q⟩
theorem call_len_str : CallR X (.builtin "len") (fun xs H Q => ∃ z, xs = [.str z] ∧ z.length ≤ sizeLine ∧ Q (.int z.length) H) := by
  intro pins s σ H xs us Q I r h
  obtain ⟨z, rfl, hz, q⟩ := h
  obtain ⟨u, rfl, t, rfl⟩ := vals1 r
  have hn := line63
  exact len_str (by omega) ⟨.int z.length, H, I.tok _, ⟨_, rfl⟩, q⟩
theorem CallR.or {f : Value} {r r' : List V → Hp → VK → Prop} (h : CallR X f r) (h' : CallR X f r') : CallR X f (fun xs H Q => r xs H Q ∨ r' xs H Q) := by
  intro pins s σ H xs us Q I rs q
  rcases q with q | q
  · exact h pins s σ H xs us Q I rs q
  · exact h' pins s σ H xs us Q I rs q
variable {o e : Expr} {es : List Expr} {to : TE} {t : TA} {name : Str} {apos cpos : Pos} {T id : String} {r : V → List V → Hp → VK → Prop}
end
end L2
namespace L2
open PySem PySem.Spec PyProof.Rows
theorem Vals.one : ∀ {x : V} {us : List Value}, Vals [x] us → ∃ u, us = [u] ∧ RelV x u
  | _, _, .cons r .nil => ⟨_, rfl, r⟩
theorem Vals.two : ∀ {x y : V} {us : List Value}, Vals [x, y] us → ∃ u v, us = [u, v] ∧ RelV x u ∧ RelV y v
  | _, _, _, .cons r (.cons q .nil) => ⟨_, _, rfl, r, q⟩
theorem Vals.zero : ∀ {us : List Value}, Vals [] us → us = []
  | _, .nil => rfl
theorem Vals.dropLast {xs : List V} {us : List Value} (h : Vals xs us) : Vals xs.dropLast us.dropLast := by
  induction h with
  | nil => exact .nil
  | cons r t ih =>
    cases t with
    | nil => exact .nil
    | cons q t' => exact .cons r ih
theorem Vals.reverse {xs : List V} {us : List Value} (h : Vals xs us) : Vals xs.reverse us.reverse := by
  induction h with
  | nil => exact .nil
  | cons r t ih => rw [List.reverse_cons, List.reverse_cons]; exact Vals.append ih (.cons r .nil)
section
variable {X : Cx} {pins : List (Addr × Obj)} {σ : St} {H : Hp} {s : Shared} {l b : Addr} {xs ys zs : List V}
theorem Inv.fresh (I : Inv X pins σ H s) : H s.heap.objs.size = none := I.hok.fresh (Nat.le_refl _)
end
section
variable {X : Cx}
end
section
variable {prog : Program} {w : World} {A : Around} {E : Value → Shared → Prop} {s : Shared}
end
section
variable {X : Cx}
end
end L2
namespace L2
open PySem PySem.Spec PyProof.Rows
theorem Vals.strs : ∀ {xs : List Str} {us : List Value}, Vals (xs.map V.str) us → StrsAre us xs
  | [], us, h => by
    rw [List.map_nil] at h
    cases h
    exact StrsAre.nil
  | x :: xs, us, h => by
    rw [List.map_cons] at h
    cases h with
    | cons r t =>
      obtain ⟨k, rfl⟩ := r
      exact StrsAre.cons x k (Vals.strs t)
section
variable {prog : Program} {w : World} {A : Around} {E : Value → Shared → Prop} {s : Shared} {l : Addr} {its : List Value} {ns : List Int} {Q : Value → Shared → Prop}
end
section
variable {X : Cx}
end
section
variable {X : Cx}
end
section
variable {X : Cx}
end
section
variable {X : Cx}
end
mutual
inductive Dp (K : PySem.W.Frag) (H : Hp) : V → PyData → Prop
  | non : Dp K H .non .none
  | bl (b : Bool) : Dp K H (.bl b) (.bool b)
  | int (i : Int) : Dp K H (.int i) (.int i)
  | str (x : Str) : Dp K H (.str x) (.str x)
  | lst {a : Addr} {xs : List V} {ds : List PyData} : SqL K H a xs → DpAll K H xs ds → Dp K H (.ref a) (.list ds)
  | tup {a : Addr} {xs : List V} {ds : List PyData} : SqT K H a xs → DpAll K H xs ds → Dp K H (.ref a) (.tuple ds)
inductive DpAll (K : PySem.W.Frag) (H : Hp) : List V → List PyData → Prop
  | nil : DpAll K H [] []
  | cons {v : V} {vs : List V} {d : PyData} {ds : List PyData} : Dp K H v d → DpAll K H vs ds → DpAll K H (v :: vs) (d :: ds)
end
section
variable {X : Cx} {pins : List (Addr × Obj)} {σ : St} {H : Hp} {s : Shared}
mutual
theorem Dp.reads (I : Inv X pins σ H s) : ∀ (d : PyData) (v : V) (u : Value), Dp X.K H v d → RelV v u → ∃ as, Reads s.heap u d as
  | .none, _, _, h, r => by
    cases h
    cases r
    exact ⟨_, Reads.none⟩
  | .bool b, _, _, h, r => by
    cases h
    cases r
    exact ⟨_, Reads.bool b⟩
  | .int i, _, _, h, r => by
    cases h
    obtain ⟨t, rfl⟩ := r
    exact ⟨_, Reads.int i t⟩
  | .str x, _, _, h, r => by
    cases h
    obtain ⟨t, rfl⟩ := r
    exact ⟨_, Reads.str x t⟩
  | .list ds, _, _, h, r => by
    cases h with
    | lst hs ha =>
      cases r
      obtain ⟨its, rv, ⟨o, n, ho, hc, _, hd⟩, _⟩ := I.list hs
      obtain ⟨as, hr⟩ := Dp.readsAll I ds _ its ha rv
      exact ⟨_, Reads.list ho hc hd hr⟩
  | .tuple ds, _, _, h, r => by
    cases h with
    | tup hs ha =>
      cases r
      obtain ⟨its, rv, ⟨o, ho, hc, n, hd⟩, _⟩ := I.tuple hs
      obtain ⟨as, hr⟩ := Dp.readsAll I ds _ its ha rv
      exact ⟨_, Reads.tuple ho hc hd hr⟩
  | .dict _, _, _, h, _ => by cases h
theorem Dp.readsAll (I : Inv X pins σ H s) : ∀ (ds : List PyData) (vs : List V) (us : List Value), DpAll X.K H vs ds → Vals vs us → ∃ as, ReadsAll s.heap us ds as
  | [], _, _, h, r => by
    cases h
    cases r
    exact ⟨_, ReadsAll.nil⟩
  | d :: ds, _, _, h, r => by
    cases h with
    | cons h1 h2 =>
      cases r with
      | cons r1 r2 =>
        obtain ⟨as, q1⟩ := Dp.reads I d _ _ h1 r1
        obtain ⟨bs, q2⟩ := Dp.readsAll I ds _ _ h2 r2
        exact ⟨_, ReadsAll.cons q1 q2⟩
end
end
section
variable {X : Cx}
def rNeD (K : PySem.W.Frag) : R2 := fun x y H Q => ∃ d e, Dp K H x d ∧ Dp K H y e ∧ SeqAt.shaped d = true ∧ SeqAt.shaped e = true ∧ Q (.bl (!PyData.eqv d e)) H
theorem op_neD (hu : X.A.units + 64 < cLine) : OpR X (compareOp .NotEq) (rNeD X.K) := by
  intro pins s σ H x y v u Q I rx ry h
  obtain ⟨d, e, hd, he, sd, se, q⟩ := h
  obtain ⟨as, r1⟩ := Dp.reads I d x v hd rx
  obtain ⟨bs, r2⟩ := Dp.reads I e y u he ry
  exact SeqAt.compareNe_shaped r1 r2 sd se hu ⟨.bl _, H, I, rfl, q⟩
end
end L2
namespace L2
open PySem PySem.Spec PyProof.Rows
abbrev CellAt (h : Heap) (c : Addr) (v : Option Value) : Prop := h.IsCell c v
def relS (scope sc : Scope) : Scope :=
  { scope with names := scope.names.map fun (n, k) => if (k == .free && sc.kind == .function && sc.names.lookup n == some .cell) then (n, .cell) else (n, k) }
def cloFrom (cells : List (Str × Addr)) : List (Str × NameKind) → List (Str × Addr) → List (Str × Addr)
  | [], acc => acc
  | (n, k) :: r, acc => if k == .free then cloFrom cells r ((n, (cells.lookup n).getD 0) :: acc) else cloFrom cells r acc
theorem closure_loop (env : Env) (f : Str × NameKind → List (Str × Addr) → Sem (ForInStep (List (Str × Addr))))
    (hf : ∀ n k c, f (n, k) c = if k == .free then (do let a ← cellOf env n; pure (.yield ((n, a) :: c))) else pure (.yield c)) :
    ∀ (names : List (Str × NameKind)) (acc : List (Str × Addr)), (∀ y ∈ names, y.2 = .free → ∃ c, env.cells.lookup y.1 = some c) → forIn names acc f = pure (cloFrom env.cells names acc)
  | [], acc, _ => by rw [List.forIn_nil]; rfl
  | (n, k) :: r, acc, h => by
    rw [List.forIn_cons, hf]
    have ih := fun acc => closure_loop env f hf r acc fun y hy => h y (List.mem_cons_of_mem _ hy)
    unfold cloFrom
    by_cases hk : (k == NameKind.free) = true
    · rw [if_pos hk, if_pos hk]
      obtain ⟨c, hc⟩ := h (n, k) List.mem_cons_self (by simpa using hk)
      have e : cellOf env n = pure c := by unfold cellOf; rw [hc]
      rw [e]
      have e2 : (env.cells.lookup n).getD 0 = c := by rw [hc]; rfl
      rw [e2]
      exact ih _
    · rw [if_neg hk, if_neg hk]
      exact ih _
theorem closure_ok {scope : Scope} {env : Env} (h : ∀ y ∈ scope.names, y.2 = .free → ∃ c, env.cells.lookup y.1 = some c) : closureFor scope env = pure (cloFrom env.cells scope.names []) := by
  simp only [closureFor]
  rw [closure_loop env _ (fun n k c => rfl) scope.names [] h]
  rfl
theorem mem_lookup {α : Type} : ∀ {l : List (Str × α)} {n : Str} {c : α}, (n, c) ∈ l → ∃ c', l.lookup n = some c'
  | (k, v) :: r, n, c, h => by
    rw [List.lookup_cons]
    cases hb : n == k with
    | true => exact ⟨_, rfl⟩
    | false =>
      rcases List.mem_cons.mp h with e | h
      · cases e; simp at hb
      · exact mem_lookup h
theorem cloFrom_mem {cells : List (Str × Addr)} : ∀ {names : List (Str × NameKind)} {acc : List (Str × Addr)} {n : Str} {c : Addr}, (n, c) ∈ cloFrom cells names acc → (n, c) ∈ acc ∨ ((n, .free) ∈ names ∧ c = (cells.lookup n).getD 0)
  | [], _, _, _, h => .inl h
  | (m, k) :: r, acc, n, c, h => by
    unfold cloFrom at h
    split at h
    · rename_i hk
      have hk : k = .free := by simpa using hk
      rcases cloFrom_mem h with h | ⟨h1, h2⟩
      · rcases List.mem_cons.mp h with e | h
        · cases e; exact .inr ⟨hk ▸ List.mem_cons_self, rfl⟩
        · exact .inl h
      · exact .inr ⟨List.mem_cons_of_mem _ h1, h2⟩
    · rcases cloFrom_mem h with h | ⟨h1, h2⟩
      · exact .inl h
      · exact .inr ⟨List.mem_cons_of_mem _ h1, h2⟩
theorem cloFrom_acc {cells : List (Str × Addr)} : ∀ {names : List (Str × NameKind)} {acc : List (Str × Addr)} {p : Str × Addr}, p ∈ acc → p ∈ cloFrom cells names acc
  | [], _, _, h => h
  | (m, k) :: r, acc, p, h => by
    unfold cloFrom
    split
    · exact cloFrom_acc (List.mem_cons_of_mem _ h)
    · exact cloFrom_acc h
theorem cloFrom_has {cells : List (Str × Addr)} : ∀ {names : List (Str × NameKind)} {acc : List (Str × Addr)} {n : Str}, (n, .free) ∈ names → (n, (cells.lookup n).getD 0) ∈ cloFrom cells names acc
  | (m, k) :: r, acc, n, h => by
    unfold cloFrom
    rcases List.mem_cons.mp h with e | h
    · cases e
      exact cloFrom_acc List.mem_cons_self
    · split
      · exact cloFrom_has h
      · exact cloFrom_has h
theorem cells_mem : ∀ {names : List (Str × NameKind)} {h : Heap} {acc : List (Str × Addr)} {x : Str} {c : Addr}, (x, c) ∈ cellsFrom h.objs.size names acc →
    (x, c) ∈ acc ∨ ((x, .cell) ∈ names ∧ h.objs.size ≤ c ∧ CellAt (pushCells h names) c none)
  | [], _, _, _, _, h => .inl h
  | (n, k) :: r, h, acc, x, c, hm => by
    unfold cellsFrom at hm
    unfold pushCells
    split at hm
    · rename_i hk
      rw [if_pos hk]
      have hk : k = .cell := by simpa using hk
      rw [← Heap.size_push h { cls := .type "cell", data := .cell none }] at hm
      rcases cells_mem hm with hm | ⟨h1, h2, h3⟩
      · rcases List.mem_cons.mp hm with e | hm
        · cases e
          exact .inr ⟨hk ▸ List.mem_cons_self, Nat.le_refl _, _, pushCells_keeps r _ _ _ (Heap.get?_push_size _ rfl), rfl⟩
        · exact .inl hm
      · rw [Heap.size_push] at h2
        exact .inr ⟨List.mem_cons_of_mem _ h1, Nat.le_of_succ_le h2, h3⟩
    · rename_i hk
      rw [if_neg hk]
      rcases cells_mem hm with hm | ⟨h1, h2, h3⟩
      · exact .inl hm
      · exact .inr ⟨List.mem_cons_of_mem _ h1, h2, h3⟩
theorem cells_acc : ∀ {names : List (Str × NameKind)} {n : Nat} {acc : List (Str × Addr)} {p : Str × Addr}, p ∈ acc → p ∈ cellsFrom n names acc
  | [], _, _, _, h => h
  | (m, k) :: r, n, acc, p, h => by
    unfold cellsFrom
    split
    · exact cells_acc (List.mem_cons_of_mem _ h)
    · exact cells_acc h
theorem cells_has : ∀ {names : List (Str × NameKind)} {n : Nat} {acc : List (Str × Addr)} {x : Str}, (x, .cell) ∈ names → ∃ c, (x, c) ∈ cellsFrom n names acc
  | (m, k) :: r, n, acc, x, h => by
    unfold cellsFrom
    rcases List.mem_cons.mp h with e | h
    · cases e
      exact ⟨n, cells_acc List.mem_cons_self⟩
    · split
      · exact cells_has h
      · exact cells_has h
theorem cells_inj : ∀ {names : List (Str × NameKind)} {h : Heap} {acc : List (Str × Addr)} {x y : Str} {c : Addr}, (∀ p ∈ acc, p.2 < h.objs.size) → (∀ x y c, (x, c) ∈ acc → (y, c) ∈ acc → x = y) →
    (x, c) ∈ cellsFrom h.objs.size names acc → (y, c) ∈ cellsFrom h.objs.size names acc → x = y
  | [], _, _, _, _, _, _, hi, h1, h2 => hi _ _ _ h1 h2
  | (n, k) :: r, h, acc, x, y, c, hl, hi, h1, h2 => by
    unfold cellsFrom at h1 h2
    split at h1
    · rename_i hk
      rw [if_pos hk] at h2
      rw [← Heap.size_push h { cls := .type "cell", data := .cell none }] at h1 h2
      refine cells_inj (h := h.push _) (fun p hp => ?_) (fun x y c a b => ?_) h1 h2
      · rw [Heap.size_push]
        rcases List.mem_cons.mp hp with rfl | hp
        · exact Nat.lt_succ_self _
        · exact Nat.lt_succ_of_lt (hl p hp)
      · rcases List.mem_cons.mp a with e | a <;> rcases List.mem_cons.mp b with e' | b
        · cases e; cases e'; rfl
        · cases e; exact absurd (hl _ b) (Nat.lt_irrefl _)
        · cases e'; exact absurd (hl _ a) (Nat.lt_irrefl _)
        · exact hi _ _ _ a b
    · rename_i hk
      rw [if_neg hk] at h2
      exact cells_inj hl hi h1 h2
theorem newEnv_comp {M : Model} {A : Around} {E : Value → Shared → Prop} {s : Shared} {scope : Scope} {globals : Addr} {closure : List (Str × Addr)} {qual : Str} {func : Option Addr} {code : Value} {around : Env} {builtins : Addr} {Q : Env → Shared → Prop}
    (h : Q (newEnv scope s.heap.objs.size globals (cellsFrom (s.heap.objs.size + 1) scope.names closure) qual func code (some around) builtins)
      { s with heap := pushCells (s.heap.push { cls := .type "dict", data := .dict #[] }) scope.names }) :
    wpAny M A (newFunctionEnv scope globals closure [] qual func code (some around) builtins) Q E s := by
  simp only [newFunctionEnv, Option.isSome_some, if_true]
  refine wpAny_bind (wpAny_alloc ?_)
  refine wpAny_bind (wpAny_layCells _ (fun n k c => rfl) scope.names closure _ _ ?_)
  rw [show ({ s with heap := s.heap.push { cls := .type "dict", data := .dict #[] } } : Shared).heap.objs.size = s.heap.objs.size + 1 from Heap.size_push ..]
  rw [List.forIn_nil]
  exact wpAny_bind (wpAny_pure (wpAny_pure h))
theorem lookup_relS {sc : Scope} : ∀ {names : List (Str × NameKind)} {x : Str} {k : NameKind},
    (names.map fun (n, k) => if (k == NameKind.free && sc.kind == .function && sc.names.lookup n == some .cell) then (n, NameKind.cell) else (n, k)).lookup x = some k →
    ∃ k', names.lookup x = some k' ∧ (k = k' ∨ (k' = .free ∧ k = .cell))
  | [], _, _, h => by simp at h
  | (n, k₀) :: r, x, k, h => by
    have ih := @lookup_relS sc r x k
    have h' : List.lookup x ((if (k₀ == NameKind.free && sc.kind == .function && sc.names.lookup n == some .cell) = true then (n, NameKind.cell) else (n, k₀)) :: (r.map _)) = some k := h
    cases hx : x == n with
    | true =>
      simp only [List.lookup_cons, hx]
      by_cases hc : (k₀ == NameKind.free && sc.kind == .function && sc.names.lookup n == some .cell) = true
      · rw [if_pos hc] at h'
        simp only [List.lookup_cons, hx] at h'
        cases h'
        simp only [Bool.and_eq_true, beq_iff_eq] at hc
        exact ⟨k₀, rfl, .inr ⟨hc.1.1, rfl⟩⟩
      · rw [if_neg hc] at h'
        simp only [List.lookup_cons, hx] at h'
        cases h'
        exact ⟨_, rfl, .inl rfl⟩
    | false =>
      simp only [List.lookup_cons, hx]
      by_cases hc : (k₀ == NameKind.free && sc.kind == .function && sc.names.lookup n == some .cell) = true
      · rw [if_pos hc] at h'
        simp only [List.lookup_cons, hx] at h'
        exact ih h'
      · rw [if_neg hc] at h'
        simp only [List.lookup_cons, hx] at h'
        exact ih h'
structure BlkOk (N : List Str) (sc scope : Scope) (own : List (Str × Nat)) : Prop where
  kind : scope.kind = .function
  uniq : ∀ y ∈ scope.names, scope.names.lookup y.1 = some y.2
  ix : ∀ p ∈ own, N[p.2]? = some p.1
  free : ∀ y ∈ scope.names, y.2 = .free → sc.names.lookup y.1 = some .cell ∨ sc.names.lookup y.1 = some .free
  own : ∀ y ∈ scope.names, y.2 = .local ∨ y.2 = .cell → y.1 ∈ own.map (·.1) ∨ y.1 ∉ N
def wipe (σ : St) : List Nat → St
  | [] => σ
  | v :: vs => (wipe σ vs).set v none
theorem wipe_length (σ : St) : ∀ vs : List Nat, (wipe σ vs).length = σ.length
  | [] => rfl
  | v :: vs => by unfold wipe; rw [List.length_set, wipe_length σ vs]
theorem wipe_some {σ : St} {i : Nat} {x : V} : ∀ {vs : List Nat}, (wipe σ vs)[i]? = some (some x) → σ[i]? = some (some x) ∧ i ∉ vs
  | [], h => ⟨h, by simp⟩
  | v :: vs, h => by
    unfold wipe at h
    by_cases hi : v = i
    · subst hi
      by_cases hv : v < (wipe σ vs).length
      · rw [List.getElem?_set_self hv] at h; cases h
      · rw [List.getElem?_eq_none (by simpa using hv)] at h; cases h
    · rw [List.getElem?_set_ne hi] at h
      obtain ⟨h1, h2⟩ := wipe_some h
      exact ⟨h1, by simp only [List.mem_cons, not_or]; exact ⟨fun e => hi e.symm, h2⟩⟩
abbrev Cx.blk (X : Cx) (s : Shared) (H : Hp) (scope : Scope) (cenv : Env) (fp : List Addr) : Cx := { X with s_0 := s, H_0 := H, env := cenv, outer := X.stack, ex := fp, fn := fun x => scope.names.lookup x == some .cell, pn := [], xe := fun _ _ => False }
section
variable {X : Cx} {pins : List (Addr × Obj)} {σ : St} {H : Hp} {s : Shared}
theorem block_start {scope : Scope} {own : List (Str × Nat)} {fp : List Addr} (I : Inv X pins σ H s) (ok : BlkOk X.N X.env.scope scope own) (hN : X.N.Nodup) (hfp : ∀ b ∈ fp, FpOk X pins H b ∧ b < s.heap.objs.size) :
    Inv (X.blk s H scope (compEnvC scope (cellsFrom (s.heap.objs.size + 1) scope.names (cloFrom X.env.cells scope.names [])) s.heap.objs.size X.env) fp) [] (wipe σ (own.map (·.2))) H { s with heap := pushCells (s.heap.push { cls := .type "dict", data := .dict #[] }) scope.names } := by
  have hfree : ∀ y ∈ scope.names, y.2 = .free → ∃ c, X.env.cells.lookup y.1 = some c := fun y hy e => by
    rcases ok.free y hy e with k | k
    · exact I.ok.has _ (.inl k)
    · exact I.ok.has _ (.inr k)
  generalize hcenv : compEnvC scope (cellsFrom (s.heap.objs.size + 1) scope.names (cloFrom X.env.cells scope.names [])) s.heap.objs.size X.env = cenv
  have kp : ∀ b o, s.heap.get? b = some o → (pushCells (s.heap.push { cls := .type "dict", data := .dict #[] }) scope.names).get? b = some o := fun b o e => pushCells_keeps _ _ _ _ (Heap.get?_push_of_some _ e)
  have hL : cenv.locals = s.heap.objs.size := by rw [← hcenv]; rfl
  have hcl : cenv.cells = cellsFrom (s.heap.objs.size + 1) scope.names (cloFrom X.env.cells scope.names []) := by rw [← hcenv]; rfl
  have hsc : cenv.scope = relS scope X.env.scope := by rw [← hcenv]; rfl
  rw [← Heap.size_push s.heap { cls := .type "dict", data := .dict #[] }] at hcl
  have cm : ∀ {y c}, (y, c) ∈ cloFrom X.env.cells scope.names [] → X.env.cells.lookup y = some c ∧ c < s.heap.objs.size := fun {y c} hm => by
    rcases cloFrom_mem hm with hm | ⟨h1, rfl⟩
    · cases hm
    · obtain ⟨c, hc⟩ := hfree _ h1 rfl
      rw [hc]
      obtain ⟨w, z⟩ := I.cell _ _ hc
      exact ⟨rfl, z.lt⟩
  have mem : ∀ {y c}, cenv.cells.lookup y = some c → (X.env.cells.lookup y = some c ∧ c < s.heap.objs.size) ∨ (s.heap.objs.size + 1 ≤ c ∧ CellAt (pushCells (s.heap.push { cls := .type "dict", data := .dict #[] }) scope.names) c none) := fun {y c} e => by
    rw [hcl] at e
    rcases cells_mem (PySem.mem_of_lookup e) with hm | ⟨_, h2, h3⟩
    · exact .inl (cm hm)
    · rw [Heap.size_push] at h2; exact .inr ⟨h2, h3⟩
  have look : ∀ {y}, scope.names.lookup y = some .free → ∃ c, cenv.cells.lookup y = some c ∧ X.env.cells.lookup y = some c := fun {y} hl => by
    have hy : (y, NameKind.free) ∈ scope.names := PySem.mem_of_lookup hl
    obtain ⟨c', e'⟩ := mem_lookup (cells_acc (names := scope.names) (n := (s.heap.push { cls := .type "dict", data := .dict #[] }).objs.size) (cloFrom_has (cells := X.env.cells) (acc := []) hy))
    rw [← hcl] at e'
    refine ⟨c', e', ?_⟩
    rw [hcl] at e'
    rcases cells_mem (PySem.mem_of_lookup e') with hm | ⟨h1, _, _⟩
    · exact (cm hm).1
    · have := ok.uniq _ h1
      rw [hl] at this; cases this
  have okB : (X.blk s H scope cenv fp).Ok := by
    refine ⟨I.ok.mod, by show cenv.scope.kind = _; rw [hsc]; exact ok.kind, by show cenv.globals = _; rw [← hcenv]; exact I.ok.glob, by show cenv.builtins = _; rw [← hcenv]; exact I.ok.blt, by show s.heap.objs.size ≤ cenv.locals; rw [hL]; exact Nat.le_refl _,
      fun y z c e1 e2 => ?_, fun y hy => ?_, fun y c z e => ?_, I.ok.hd, I.ok.frames, .inl rfl, fun b hb => ⟨?_, fun y c e z => ?_⟩, I.bs, Nat.le_trans I.ok.bsz I.sz, fun b o e hb => ?_, fun b hb z => ?_, I.stack, I.stkFree⟩
    · have e1 : cenv.cells.lookup y = some c := e1
      have e2 : cenv.cells.lookup z = some c := e2
      rw [hcl] at e1 e2
      refine cells_inj (fun p hp => ?_) (fun y z c a b => I.ok.inj y z c (cm a).1 (cm b).1) (PySem.mem_of_lookup e1) (PySem.mem_of_lookup e2)
      rw [Heap.size_push]
      exact Nat.lt_succ_of_lt (cm (y := p.1) (c := p.2) hp).2
    · show ∃ c, cenv.cells.lookup y = some c
      have key : ∀ k, cenv.kindOf y = some k → (k = .cell ∨ k = .free) → ∃ c, cenv.cells.lookup y = some c := fun k hk hk' => by
        unfold Env.kindOf at hk
        rw [hsc] at hk
        obtain ⟨k', e, r⟩ := lookup_relS hk
        have : k' = .cell ∨ k' = .free := by
          rcases r with rfl | ⟨rfl, _⟩
          · exact hk'
          · exact .inr rfl
        rcases this with rfl | rfl
        · obtain ⟨c, hm⟩ := cells_has (n := (s.heap.push { cls := .type "dict", data := .dict #[] }).objs.size) (acc := cloFrom X.env.cells scope.names []) (PySem.mem_of_lookup e)
          obtain ⟨c', e'⟩ := mem_lookup hm
          exact ⟨c', by rw [hcl]; exact e'⟩
        · obtain ⟨c, h1, _⟩ := look e
          exact ⟨c, h1⟩
      rcases hy with hy | hy
      · exact key _ hy (.inl rfl)
      · exact key _ hy (.inr rfl)
    · have z : (scope.names.lookup y == some NameKind.cell) = true := z
      have z : scope.names.lookup y = some .cell := by simpa using z
      have e : cenv.cells.lookup y = some c := e
      rw [hcl] at e
      rcases cells_mem (PySem.mem_of_lookup e) with hm | ⟨_, h2, _⟩
      · rcases cloFrom_mem hm with hm | ⟨h1, _⟩
        · cases hm
        · have q := ok.uniq _ h1
          rw [z] at q; cases q
      · rw [Heap.size_push] at h2
        exact Nat.le_of_succ_le h2
    · show b ≠ cenv.locals
      rw [hL]; exact Nat.ne_of_lt (hfp b hb).2
    · have e : cenv.cells.lookup y = some c := e
      rcases mem e with ⟨h1, _⟩ | ⟨h1, _⟩
      · exact (hfp b hb).1.2.2.2.2.1 y c h1 z
      · have h2 : s.heap.objs.size + 1 ≤ b := by rw [← z]; exact h1
        exact absurd (Nat.lt_of_lt_of_le (hfp b hb).2 (Nat.le_of_succ_le h2)) (Nat.lt_irrefl _)
    · rcases (hfp b hb).1.2.2.2.1 with z | z
      · exact I.ok.noex b o e z
      · exact absurd (Nat.lt_of_lt_of_le (Heap.lt_size e) (Nat.le_trans I.ok.bsz z)) (Nat.lt_irrefl _)
    · rcases List.mem_cons.mp (I.stkSub b z) with z | z
      · exact (hfp b hb).1.2.1 z
      · exact (hfp b hb).1.2.2.1 z
  refine ⟨okB, rfl, I.bare, Un.kept kp, ⟨fun _ => none, ?_, fun i y av e1 e2 e3 => ?_⟩, fun y c e => ?_, ?_, fun y c e => ?_, fun p hp => ?_, I.hok.kept kp, by rw [wipe_length]; exact I.len⟩
  · show Heap.Ns _ cenv.locals _
    rw [hL]
    exact Heap.Ns.keeps (Heap.Ns.new ..) fun b o e => pushCells_keeps _ _ _ _ e
  · obtain ⟨e2, hne⟩ := wipe_some e2
    have hfr : scope.names.lookup y = some .free ∧ (cenv.kindOf y = some .cell ∨ cenv.kindOf y = some .free) := by
      have key : ∀ k, cenv.scope.names.lookup y = some k → k = .local ∨ k = .cell ∨ k = .free → scope.names.lookup y = some .free ∧ (cenv.kindOf y = some .cell ∨ cenv.kindOf y = some .free) := fun k hk hk' => by
        have hk0 := hk
        rw [hsc] at hk
        obtain ⟨k', e, r⟩ := lookup_relS hk
        have no : ¬ (k' = .local ∨ k' = .cell) := fun hh => by
          rcases ok.own _ (PySem.mem_of_lookup e) hh with e' | e'
          · obtain ⟨p, hp, hpy⟩ := List.mem_map.mp e'
            have e3 := ok.ix p hp
            have : p.1 = y := hpy
            rw [this] at e3
            exact hne (List.mem_map.mpr ⟨p, hp, nodup_ix hN e3 e1⟩)
          · exact e' (List.mem_of_getElem? e1)
        rcases r with rfl | ⟨rfl, rfl⟩
        · rcases hk' with rfl | rfl | rfl
          · exact absurd (.inl rfl) no
          · exact absurd (.inr rfl) no
          · exact ⟨e, .inr hk0⟩
        · exact ⟨e, .inl hk0⟩
      have e3 : Vis cenv.scope y := e3
      rcases e3 with e3 | e3 | e3
      · exact key _ e3 (.inl rfl)
      · exact key _ e3 (.inr (.inl rfl))
      · exact key _ e3 (.inr (.inr rfl))
    obtain ⟨m, hn, hl⟩ := I.loc
    have hvis : Vis X.env.scope y := (ok.free _ (PySem.mem_of_lookup hfr.1) rfl).elim (fun k => .inr (.inl k)) (fun k => .inr (.inr k))
    obtain ⟨w, r, q⟩ := hl i y av e1 e2 hvis
    refine ⟨w, r, .inr ⟨hfr.2, ?_⟩⟩
    obtain ⟨c, h1, h2⟩ := look hfr.1
    rcases q with ⟨k, _⟩ | ⟨_, c', e', z⟩
    · have k : X.env.scope.names.lookup y = some .local := k
      rcases ok.free _ (PySem.mem_of_lookup hfr.1) rfl with k' | k' <;> rw [show X.env.scope.names.lookup y = _ from k'] at k <;> cases k
    · rw [h2] at e'; cases e'
      exact ⟨c, h1, z.keeps kp⟩
  · have e : cenv.cells.lookup y = some c := e
    rcases mem e with ⟨h1, _⟩ | ⟨_, z⟩
    · obtain ⟨w, z⟩ := I.cell y c h1
      exact ⟨w, z.keeps kp⟩
    · exact ⟨_, z⟩
  · show H cenv.locals = none
    rw [hL]; exact I.hok.fresh (Nat.le_refl _)
  · have e : cenv.cells.lookup y = some c := e
    rcases mem e with ⟨h1, _⟩ | ⟨h1, _⟩
    · exact I.freeC y c h1
    · exact I.hok.fresh (Nat.le_of_succ_le h1)
  · exact absurd (show p ∈ ([] : List (Addr × Obj)) ++ [] from hp) (by simp)
theorem app_ok {E : Value → Shared → Prop} {D : Addr} {xs : List V} {y : V} {v : Value} {Q : Value → Shared → Prop} (I : Inv X pins σ H s) (hD : H D = some (.lst xs)) (hz : xs.length < sizeLine) (r : RelV y v)
    (h : ∀ s', Inv X pins σ (upd H D (.lst (xs ++ [y]))) s' → Q .none s') : wpAny (model X.prog X.w) X.A (call (.builtin "list.append") [.ref D, v]) Q E s := by
  obtain ⟨hz', its, n, ri, e⟩ := I.hok D _ hD
  have hl := ri.length
  refine append_at (hsz := by rw [List.size_toArray]; omega) e fun h' sb ho' => ?_
  refine h { s with heap := h' } (I.write (t' := s.toks) (by rw [hD]; trivial) (.inl rfl) (fun b u hb q => (sb.2 b hb).trans q) ⟨_, ho'⟩ ⟨by rw [List.length_append]; exact hz, its ++ [v], n + 1, ri.append (.cons r .nil), ?_⟩)
  rw [ho']
  simp
def PTs (X : Cx) (ifs : List Expr) (t : TT) : Prop :=
  ∀ (pins : List (Addr × Obj)) (s : Shared) (σ : St) (H : Hp) (Q : Bool → Hp → Prop), Inv X pins σ H s → t σ H Q →
    wpAny (model X.prog X.w) X.A (forIn ifs true fun c r => if r = true then do let ok ← isTrue c X.env (eval c X.env); pure (ForInStep.yield ok) else pure (ForInStep.yield r)) (TP X pins σ Q) X.xe s
def tYes : TT := fun _ H Q => Q true H
theorem pts_nil : PTs X [] tYes := fun _ _ _ H _ I h => wpAny_tests_nil ⟨H, I, h⟩
theorem pts_one {c : Expr} {t : TT} (h : PT X c t) : PTs X [c] t := fun pins s σ H Q I hw => wpAny_tests_one (h pins s σ H Q I hw)
end
theorem thnF {α : Type} {t : Sem α} {Q Q' : α → Shared → Prop} {M : Model} {A : Around} {E : Value → Shared → Prop} {s : Shared} (h : wpAny M A t Q (fun _ _ => False) s) (hQ : ∀ a s, Q a s → Q' a s) : wpAny M A t Q' E s := wpAny_mono h hQ fun _ _ z => False.elim z
theorem compLoop_any {prog : Program} {w : World} {A : Around} {R : Result → Shared → Prop} {s : Shared} {elt target iter : Expr} {ifs : List Expr} {scope : Scope} {pos : Pos} {it acc : Value} {env : Env} (I : Nat → Shared → Prop)
    (turn : ∀ n s, I n s → wpAny (model prog w) A (pyNext it) (fun r s₁ => match r with
      | none => R (.ok .next) s₁
      | some v => wpAny (model prog w) A (letOwnedTupleGo target it v) (fun _ s₁' => wpAny (model prog w) A (assign target env v) (fun _ s₂ =>
          wpAny (model prog w) A (forIn ifs true fun c r => if r = true then do let ok ← isTrue c env (eval c env); pure (ForInStep.yield ok) else pure (ForInStep.yield r)) (fun ok s₃ =>
            if ok = true then wpAny (model prog w) A (eval elt env) (fun x s₄ =>
              wpAny (model prog w) A (call (.builtin "list.append") [acc, x]) (fun _ s₅ => ∃ m, m < n ∧ I m s₅) (notedBy (model prog w) A env fun e s' => R (.error e) s') s₄) (notedBy (model prog w) A env fun e s' => R (.error e) s') s₃
            else ∃ m, m < n ∧ I m s₃) (notedBy (model prog w) A env fun e s' => R (.error e) s') s₂) (notedBy (model prog w) A env fun e s' => R (.error e) s') s₁') (notedBy (model prog w) A env fun e s' => R (.error e) s') s₁) (notedBy (model prog w) A env fun e s' => R (.error e) s') s)
    (n : Nat) (h : I n s) :
    codeAny (model prog w) A (.compLoop (.ListComp elt [⟨target, iter, ifs, 0⟩] scope pos) 0 it acc env) R s := by
  refine codeAny_loop rfl I (fun n s hI => ?_) n h
  show wpAny _ A ((compTurn (.ListComp elt [⟨target, iter, ifs, 0⟩] scope pos) 0 it acc env).onRaise (fun x => do noteFrame x env; theTreesLotGoes x)) _ _ s
  refine wpAny_noted ?_
  rw [compTurn_list]
  refine wpAny_bind (wpAny_standAt (wpAny_bind (wpAny_mono (turn n s hI) (fun r s₁ h₁ => ?_) fun _ _ h' => h')))
  cases r with
  | none => exact wpAny_pure h₁
  | some v =>
    refine wpAny_bind (wpAny_mono h₁ (fun _ s₁' h₁' => ?_) fun _ _ h' => h')
    refine wpAny_bind (wpAny_mono h₁' (fun _ s₂ h₂ => wpAny_bind (wpAny_mono h₂ (fun ok s₃ h₃ => ?_) fun _ _ h' => h')) fun _ _ h' => h')
    cases ok with
    | false => exact wpAny_pure ⟨rfl, h₃⟩
    | true =>
      exact wpAny_bind (wpAny_bind (wpAny_mono h₃ (fun x s₄ h₄ => wpAny_bind (wpAny_mono h₄ (fun _ s₅ h₅ => wpAny_pure (wpAny_pure ⟨rfl, h₅⟩)) fun _ _ h' => h')) fun _ _ h' => h'))
section
variable {X : Cx}
def tLc (wi : TI) (g : TG) (tt : TT) (te : TE) (vs : List Nat) : TE := fun σ H Q => wi σ H fun J H1 => ∀ D, H1 D = none → ∃ W : Nat → Nat → Hp → Prop, (∃ m, W 0 m (upd H1 D (.lst []))) ∧ ∀ i m H, W i m H →
  (J.stop i H ∧ Q (.ref D) H) ∨ (J.go i H ∧ ∃ Nx : Hp → Prop, (∀ H', Nx H' → ∃ m', m' < m ∧ W (i + 1) m' H') ∧ ∀ x H', J.yld i H x H' → g x (wipe σ vs) H' fun σ2 H2 => wipe σ2 vs = wipe σ vs ∧ tt σ2 H2 fun b H3 =>
    if b = true then te σ2 H3 fun y H4 => ∃ acc, H4 D = some (.lst acc) ∧ acc.length < sizeLine ∧ Nx (upd H4 D (.lst (acc ++ [y]))) else Nx H3)
theorem lc_core {pins : List (Addr × Obj)} {s : Shared} {σ : St} {H : Hp} {Q : VK} {elt tg iter : Expr} {ifs : List Expr} {scope : Scope} {own : List (Str × Nat)} {pos pos' : Pos} {wi : TI} {g : TG} {tt : TT} {te : TE} {use : Option (Value → Sem Unit)} {Qf : Value → Shared → Prop}
    (hc : X.calm = true) (hN : X.N.Nodup) (I : Inv X pins σ H s) (hi : PI X tg iter wi) (ok : BlkOk X.N X.env.scope scope own)
    (hg : ∀ (s : Shared) (H : Hp) (C : Addr) (cl : List (Str × Addr)) (fp : List Addr), PG (X.blk s H scope (compEnvC scope cl C X.env) fp) tg g) (ht : ∀ (s : Shared) (H : Hp) (C : Addr) (cl : List (Str × Addr)) (fp : List Addr), PTs (X.blk s H scope (compEnvC scope cl C X.env) fp) ifs tt)
    (he : ∀ (s : Shared) (H : Hp) (C : Addr) (cl : List (Str × Addr)) (fp : List Addr), PE (X.blk s H scope (compEnvC scope cl C X.env) fp) elt te) (hs : ∀ x, foldedSetIterable iter X.env x = pure x)
    (h : tLc wi g tt te (own.map (·.2)) σ H Q)
    (hRR : ∀ D C s' m H', Inv X pins σ H' s' → Q (.ref D) H' → s'.heap.Ns C m → FpOk X pins H' C → compPost (model X.prog X.w) X.A X.xe use Qf (.ref D) C (.ok .next) s') :
    wpAny (model X.prog X.w) X.A (comprehension (.ListComp elt [⟨tg, iter, ifs, 0⟩] scope pos) scope X.env pos' (newList []) false (eval iter X.env) use) Qf X.xe s := by
  have hfree : ∀ y ∈ scope.names, y.2 = .free → ∃ c, X.env.cells.lookup y.1 = some c := fun y hy e => by
    rcases ok.free y hy e with k | k
    · exact I.ok.has _ (.inl k)
    · exact I.ok.has _ (.inr k)
  refine wpAny_comprehension_free (use := use) rfl hs (closure_ok hfree) ok.kind (fun y hy e => by rw [ok.uniq y hy, e])
    (thn (hi pins s σ H _ I h) fun xv s1 hx => thn hx fun itv s2 h2 => ?_)
  obtain ⟨it, fp, tn, J, H2, e, I2, T, st2, f2, q⟩ := h2
  subst e
  refine wpAny_newObj_type (newEnv_comp ?_) (by show 0 ≤ sizeLine; decide)
  generalize hD : s2.heap.objs.size = D
  have hDn : H2 D = none := I2.hok.fresh (Nat.le_of_eq hD)
  obtain ⟨W, ⟨m0, w0⟩, turn⟩ := q D hDn
  generalize hs3 : ({ s2 with heap := s2.heap.push { cls := .type "list", data := .seq ([] : List Value).toArray } } : Shared) = s3
  have I3 : Inv X pins σ (upd H2 D (.lst [])) s3 := by
    rw [← hs3]
    refine I2.laid (t' := s2.toks) (fun b o e => Heap.get?_push_of_some _ e) (Nat.le_of_eq hD) ⟨Nat.zero_le _, [], 0, .nil, ?_⟩
    rw [← hD]
    exact Heap.get?_push_size _ rfl
  have h3 : s3.heap = s2.heap.push { cls := .type "list", data := .seq ([] : List Value).toArray } := by rw [← hs3]
  have sz : ∀ b ∈ fp, b < s2.heap.objs.size := fun b hb => by
    obtain ⟨o, e, _⟩ := T.obj _ _ st2 b hb
    exact Heap.lt_size e
  have f3 : ∀ b ∈ fp, FpOk X pins (upd H2 D (.lst [])) b ∧ b < s3.heap.objs.size := fun b hb => by
    have hlt := sz b hb
    refine ⟨⟨?_, (f2 b hb).2⟩, by rw [h3, Heap.size_push]; exact Nat.lt_succ_of_lt hlt⟩
    rw [upd_ne (by rw [← hD]; exact Nat.ne_of_lt hlt)]
    exact (f2 b hb).1
  have st3 : tn 0 s3.heap := T.keep _ _ _ st2 fun b _ o e => by rw [h3]; exact Heap.get?_push_of_some _ e
  have I4 := block_start I3 ok hN f3
  have pg := hg s3 (upd H2 D (.lst [])) s3.heap.objs.size (cellsFrom (s3.heap.objs.size + 1) scope.names (cloFrom X.env.cells scope.names [])) fp
  have pt := ht s3 (upd H2 D (.lst [])) s3.heap.objs.size (cellsFrom (s3.heap.objs.size + 1) scope.names (cloFrom X.env.cells scope.names [])) fp
  have pe := he s3 (upd H2 D (.lst [])) s3.heap.objs.size (cellsFrom (s3.heap.objs.size + 1) scope.names (cloFrom X.env.cells scope.names [])) fp
  show codeAny _ _ (.compStart (.ListComp elt [⟨tg, iter, ifs, 0⟩] scope pos) 0 (.ref it) (.ref D) (compEnvC scope (cellsFrom (s3.heap.objs.size + 1) scope.names (cloFrom X.env.cells scope.names [])) s3.heap.objs.size X.env)) (compPost (model X.prog X.w) X.A X.xe use Qf (.ref D) s3.heap.objs.size) { s3 with heap := pushCells (s3.heap.push { cls := .type "dict", data := .dict #[] }) scope.names }
  have nfp : ∀ b ∈ fp, (upd H2 D (.lst [])) b = none := fun b hb => (f3 b hb).1.1
  generalize hce : compEnvC scope (cellsFrom (s3.heap.objs.size + 1) scope.names (cloFrom X.env.cells scope.names [])) s3.heap.objs.size X.env = ce at I4 pg pt pe ⊢
  have cL : ce.locals = s3.heap.objs.size := by subst hce; rfl
  generalize hH3 : upd H2 D (.lst []) = H3 at I3 I4 pg pt pe w0 nfp f3
  generalize hs4 : ({ s3 with heap := pushCells (s3.heap.push { cls := .type "dict", data := .dict #[] }) scope.names } : Shared) = s4 at I4 ⊢
  have st4 : tn 0 s4.heap := T.keep _ _ _ st3 fun b _ o e => by rw [← hs4]; exact pushCells_keeps _ _ _ _ (Heap.get?_push_of_some _ e)
  have stat : ∀ {σ' : St} {H' : Hp} {s' : Shared}, Inv (X.blk s3 H3 scope ce fp) [] σ' H' s' → (∀ b ∈ fp, H' b = none) → ∀ b ∈ fp, FpOk (X.blk s3 H3 scope ce fp) [] H' b := fun {σ' H' s'} I' hn b hb =>
    ⟨hn b hb, (I'.ok.exf b hb).1, I'.ok.exfs b hb, .inl hb, fun x c e => (I'.ok.exf b hb).2 x c e, fun p hp => absurd (show p ∈ ([] : List (Addr × Obj)) ++ [] from hp) (by simp)⟩
  have loop : codeAny (model X.prog X.w) X.A (.compLoop (.ListComp elt [⟨tg, iter, ifs, 0⟩] scope pos) 0 (.ref it) (.ref D) ce) (compPost (model X.prog X.w) X.A X.xe use Qf (.ref D) s3.heap.objs.size) s4 := by
    refine compLoop_any (fun n s' => ∃ i H', Inv (X.blk s3 H3 scope ce fp) [] (wipe σ (own.map (·.2))) H' s' ∧ tn i s'.heap ∧ (∀ b ∈ fp, H' b = none) ∧ W i n H') ?_ m0 ⟨0, H3, I4, st4, nfp, w0⟩
    rintro n s5 ⟨i, H5, I5, st5, n5, w5⟩
    rcases turn i n H5 w5 with ⟨stop, qq⟩ | ⟨go, Nx, hNx, step⟩
    · have td := T.done (X.blk s3 H3 scope ce fp) rfl rfl rfl hc i [] s5 _ H5 (fun _ _ => False) I5 (stat I5 n5) st5 stop
      refine thnF td fun r s6 ⟨hr, I6⟩ => ?_
      subst hr
      have I7 : Inv X pins σ H5 s6 := I3.call' (ch := fp) I6.os I6.base I6.hok I6.bare fun b hb => ⟨(f3 b hb).1.2.2.2.1, (f3 b hb).1.2.1, (f3 b hb).1.2.2.2.2.1, (f3 b hb).1.2.2.2.2.2⟩
      have nC : H5 s3.heap.objs.size = none := by
        have z : H5 ce.locals = none := I6.free
        rw [cL] at z
        exact z
      obtain ⟨m, hn, _⟩ := I6.loc
      have hn : s6.heap.Ns ce.locals m := hn
      rw [cL] at hn
      exact hRR D s3.heap.objs.size s6 m H5 I7 qq hn (I3.fpOk (Nat.le_refl _) nC)
    · have ti := T.item (X.blk s3 H3 scope ce fp) rfl rfl rfl hc i [] s5 _ H5 (fun _ _ => False) I5 (stat I5 n5) st5 go
      refine thnF ti fun r s6 ⟨u, hr, h6⟩ => ?_
      subst hr
      refine thnF h6 fun _ s7 ⟨x, H7, I7, r7, y7, st7, n7⟩ => ?_
      have I7' := I7.pinned (stat I7 n7) (T.obj _ _ st7)
      refine thnF (pg _ s7 _ H7 x u _ I7' r7 (step x H7 y7)) fun _ s8 ⟨σ8, H8, I8, hw8, q8⟩ => ?_
      refine thnF (pt _ s8 σ8 H8 _ I8 q8) fun b s9 ⟨H9, I9, q9⟩ => ?_
      have fin : ∀ {s' : Shared} {H' : Hp}, Inv (X.blk s3 H3 scope ce fp) ([] ++ pinsAt fp s7.heap) σ8 H' s' → Nx H' → ∃ m, m < n ∧ ∃ i H', Inv (X.blk s3 H3 scope ce fp) [] (wipe σ (own.map (·.2))) H' s' ∧ tn i s'.heap ∧ (∀ b ∈ fp, H' b = none) ∧ W i m H' := fun {s' H'} I' nx => by
        obtain ⟨m', hm, w'⟩ := hNx H' nx
        have pin' : ∀ b ∈ fp, ∀ o, s7.heap.get? b = some o → s'.heap.get? b = some o ∧ H' b = none := fun b hb o e =>
          let z := I'.pin (b, o) (List.mem_append_right _ (List.mem_append_right _ (mem_pinsAt hb e)))
          ⟨z.1, z.2.1⟩
        have hl : (wipe σ (own.map (·.2))).length = σ8.length := by rw [← hw8, wipe_length]
        refine ⟨m', hm, i + 1, H', (I'.unpinned (pins := [])).weak hl (fun j v e => ?_), T.keep _ _ _ st7 fun b hb o e => (pin' b hb o e).1, fun b hb => ?_, w'⟩
        · rw [← hw8] at e
          exact (wipe_some e).1
        · obtain ⟨o, e, _⟩ := T.obj _ _ st7 b hb
          exact (pin' b hb o e).2
      cases b with
      | false =>
        simp only [Bool.false_eq_true, if_false] at q9 ⊢
        exact fin I9 q9
      | true =>
        simp only [if_true] at q9 ⊢
        refine thnF (pe _ s9 σ8 H9 _ I9 q9) fun z s10 ⟨yv, H10, I10, r10, acc, hD10, hz10, nx⟩ => ?_
        exact app_ok (X := X.blk s3 H3 scope ce fp) I10 hD10 hz10 r10 fun s11 I11 => fin I11 nx
  exact codeAny_compStart_list loop (T.self X.A 0 _ _ _ st4 loop)
theorem pe_lc {elt tg iter : Expr} {ifs : List Expr} {scope : Scope} {own : List (Str × Nat)} {pos : Pos} {wi : TI} {g : TG} {tt : TT} {te : TE} (hc : X.calm = true) (hN : X.N.Nodup) (hi : PI X tg iter wi) (ok : BlkOk X.N X.env.scope scope own)
    (hg : ∀ (s : Shared) (H : Hp) (C : Addr) (cl : List (Str × Addr)) (fp : List Addr), PG (X.blk s H scope (compEnvC scope cl C X.env) fp) tg g) (ht : ∀ (s : Shared) (H : Hp) (C : Addr) (cl : List (Str × Addr)) (fp : List Addr), PTs (X.blk s H scope (compEnvC scope cl C X.env) fp) ifs tt)
    (he : ∀ (s : Shared) (H : Hp) (C : Addr) (cl : List (Str × Addr)) (fp : List Addr), PE (X.blk s H scope (compEnvC scope cl C X.env) fp) elt te) (hs : ∀ x, foldedSetIterable iter X.env x = pure x := by intro _; rfl) :
    PE X (.ListComp elt [⟨tg, iter, ifs, 0⟩] scope pos) (tLc wi g tt te (own.map (·.2))) := by
  intro pins s σ H Q I h
  rw [eval_ListComp]
  refine lc_core hc hN I hi ok hg ht he hs h fun D C s' m H' I' q hn f => ⟨m, hn, fun h'' sb => ?_⟩
  obtain ⟨f0, f1, f2, f3, f4, f5⟩ := f
  exact ⟨.ref D, H', I'.turned (t' := s'.toks) (fun b o hb e => (sb.2 b hb).trans e) f0 f1 f3 f4 f5, rfl, q⟩
end
def blkC (N : List Str) (sc scope : Scope) (own : List (Str × Nat)) : Bool :=
  (match scope.kind with | .function => true | _ => false) && (scope.names.all fun y => decide (scope.names.lookup y.1 = some y.2)) && (own.all fun p => decide (N[p.2]? = some p.1)) &&
    (scope.names.all fun y => match y.2 with
      | .free => (match sc.names.lookup y.1 with | some .cell => true | some .free => true | _ => false)
      | .local => decide (y.1 ∈ own.map (·.1)) || decide (y.1 ∉ N)
      | .cell => decide (y.1 ∈ own.map (·.1)) || decide (y.1 ∉ N)
      | _ => true)
theorem blkOk_by {N : List Str} {sc scope : Scope} {own : List (Str × Nat)} (h : blkC N sc scope own = true) : BlkOk N sc scope own := by
  unfold blkC at h
  simp only [Bool.and_eq_true, List.all_eq_true, decide_eq_true_eq] at h
  obtain ⟨⟨⟨h1, h2⟩, h3⟩, h4⟩ := h
  refine ⟨?_, h2, h3, fun y hy e => ?_, fun y hy e => ?_⟩
  · split at h1
    · assumption
    · cases h1
  · have q := h4 y hy
    simp only [e] at q
    split at q <;> first | exact .inl (by assumption) | exact .inr (by assumption) | cases q
  · have q := h4 y hy
    rcases e with e | e <;> (simp only [e, Bool.or_eq_true, decide_eq_true_eq] at q; exact q)
end L2
namespace L2
open PySem PySem.Spec PyProof.Rows
section
variable {prog : Program} {w : World} {A : Around} {R : Result → Shared → Prop} {s : Shared} {elt t0 i0 t1 i1 : Expr} {ifs0 ifs1 : List Expr} {scope : Scope} {pos : Pos} {it acc : Value} {env : Env}
end
theorem wipe_out {σ : St} {i : Nat} : ∀ {vs : List Nat}, i ∉ vs → (wipe σ vs)[i]? = σ[i]?
  | [], _ => rfl
  | v :: vs, h => by
    have h1 : v ≠ i := fun e => h (by rw [e]; exact List.mem_cons_self)
    have h2 : i ∉ vs := fun m => h (List.mem_cons_of_mem _ m)
    unfold wipe
    rw [List.getElem?_set_ne h1]
    exact wipe_out h2
section
variable {X : Cx}
end
end L2
namespace L2
open PySem PySem.Spec PyProof.Rows
section
variable {κ : Type} [DecidableEq κ]
def valV (kvs : List (κ × V)) (k : κ) : Option V := (kvs.find? fun kv => decide (kv.1 = k)).map (·.2)
def putK (kvs : List (κ × V)) (k : κ) (v : V) : List (κ × V) :=
  if (kvs.any fun kv => decide (kv.1 = k)) = true then kvs.map (fun kv => if kv.1 = k then (kv.1, v) else kv) else kvs ++ [(k, v)]
def dropK (kvs : List (κ × V)) (k : κ) : List (κ × V) := kvs.filter fun kv => decide (kv.1 ≠ k)
theorem valV_pos {p : κ × V} {r : List (κ × V)} {k : κ} (e : p.1 = k) : valV (p :: r) k = some p.2 := by simp [valV, List.find?_cons, e]
theorem valV_neg {p : κ × V} {r : List (κ × V)} {k : κ} (e : ¬ p.1 = k) : valV (p :: r) k = valV r k := by simp [valV, List.find?_cons, e]
theorem valV_any (k : κ) : ∀ kvs : List (κ × V), (kvs.any fun kv => decide (kv.1 = k)) = (valV kvs k).isSome
  | [] => rfl
  | p :: r => by
    rw [List.any_cons]
    by_cases e : p.1 = k
    · simp only [valV_pos e, decide_eq_true e, Bool.true_or, Option.isSome_some]
    · rw [valV_neg e, decide_eq_false e, Bool.false_or]; exact valV_any k r
theorem RelO.isSome_eq {o : Option V} {u : Option Value} (r : RelO o u) : o.isSome = u.isSome := by
  cases o with
  | none => cases u with
    | none => rfl
    | some _ => exact (show False from r).elim
  | some _ => cases u with
    | none => exact (show False from r).elim
    | some _ => rfl
theorem RelO.getD {o : Option V} {u : Option Value} {d : V} {d' : Value} (r : RelO o u) (rd : RelV d d') : RelV (o.getD d) (u.getD d') := by
  cases o with
  | none => cases u with
    | none => exact rd
    | some _ => exact (show False from r).elim
  | some _ => cases u with
    | none => exact (show False from r).elim
    | some _ => exact r
theorem KV.val {kvs : List (κ × V)} {vs : List (κ × Value)} (r : KV kvs vs) (k : κ) : RelO (valV kvs k) (valueAt vs k) := by
  unfold KV at r
  induction r with
  | nil => exact True.intro
  | @cons p q ps qs h t ih =>
    obtain ⟨h1, h2⟩ := h
    by_cases e : p.1 = k
    · have e' : q.1 = k := h1.symm.trans e
      have b : valueAt (q :: qs) k = some q.2 := by simp [valueAt, List.find?_cons, e']
      rw [valV_pos e, b]; exact h2
    · have e' : ¬ q.1 = k := fun z => e (h1.trans z)
      have b : valueAt (q :: qs) k = valueAt qs k := by simp [valueAt, List.find?_cons, e']
      rw [valV_neg e, b]; exact ih
theorem KV.any {kvs : List (κ × V)} {vs : List (κ × Value)} (r : KV kvs vs) (k : κ) : (kvs.any fun kv => decide (kv.1 = k)) = vs.any fun kv => decide (kv.1 = k) := by
  unfold KV at r
  induction r with
  | nil => rfl
  | cons h t ih => rw [List.any_cons, List.any_cons, ih, h.1]
theorem KV.repl {kvs : List (κ × V)} {vs : List (κ × Value)} (r : KV kvs vs) (k : κ) {y : V} {u : Value} (ry : RelV y u) :
    KV (kvs.map fun kv => if kv.1 = k then (kv.1, y) else kv) (vs.map fun kv => if kv.1 = k then (kv.1, u) else kv) := by
  unfold KV at r ⊢
  induction r with
  | nil => exact .nil
  | @cons p q ps qs h t ih =>
    rw [List.map_cons, List.map_cons]
    refine .cons ?_ ih
    obtain ⟨h1, h2⟩ := h
    by_cases e : p.1 = k
    · rw [if_pos e, if_pos (h1.symm.trans e)]; exact ⟨h1, ry⟩
    · rw [if_neg e, if_neg (fun z => e (h1.trans z))]; exact ⟨h1, h2⟩
theorem KV.put {kvs : List (κ × V)} {vs : List (κ × Value)} (r : KV kvs vs) (k : κ) {y : V} {u : Value} (ry : RelV y u) : KV (putK kvs k y) (stored vs k u) := by
  unfold putK stored
  rw [r.any k]
  by_cases e : (vs.any fun kv => decide (kv.1 = k)) = true
  · rw [if_pos e, if_pos e]; exact r.repl k ry
  · rw [if_neg e, if_neg e]; exact Paired.snoc r ⟨rfl, ry⟩
theorem KV.drop {kvs : List (κ × V)} {vs : List (κ × Value)} (r : KV kvs vs) (k : κ) : KV (dropK kvs k) (without vs k) := by
  unfold KV at r ⊢
  unfold dropK without
  induction r with
  | nil => exact .nil
  | @cons p q ps qs h t ih =>
    obtain ⟨h1, h2⟩ := h
    rw [List.filter_cons, List.filter_cons]
    by_cases e : p.1 = k
    · have a : ¬ decide (p.1 ≠ k) = true := by simp [e]
      have b : ¬ decide (q.1 ≠ k) = true := by simp [h1.symm.trans e]
      rw [if_neg a, if_neg b]; exact ih
    · have e' : ¬ q.1 = k := fun z => e (h1.trans z)
      have a : decide (p.1 ≠ k) = true := by simp [e]
      have b : decide (q.1 ≠ k) = true := by simp [e']
      rw [if_pos a, if_pos b]; exact .cons ⟨h1, h2⟩ ih
theorem KV.length {kvs : List (κ × V)} {vs : List (κ × Value)} (r : KV kvs vs) : kvs.length = vs.length := Paired.length r
end
abbrev KT (H : Hp) : List (List Key × V) → List (List Key × Addr × Value) → Prop := Paired fun p q => p.1 = q.1 ∧ H q.2.1 = some (.tup (p.1.map kV)) ∧ RelV p.2 q.2.2
theorem KT.val {H : Hp} {kvs : List (List Key × V)} {xs : List (List Key × Addr × Value)} (r : KT H kvs xs) (k : List Key) : RelO (valV kvs k) ((atKey xs k).map (·.2)) := by
  induction r with
  | nil => exact True.intro
  | @cons p q ps qs h t ih =>
    obtain ⟨h1, _, h2⟩ := h
    by_cases e : p.1 = k
    · have e' : q.1 = k := h1.symm.trans e
      have b : atKey (q :: qs) k = some q.2 := by simp [atKey, List.find?_cons, e']
      rw [valV_pos e, b]; exact h2
    · have e' : ¬ q.1 = k := fun z => e (h1.trans z)
      have b : atKey (q :: qs) k = atKey qs k := by simp [atKey, List.find?_cons, e']
      rw [valV_neg e, b]; exact ih
theorem KT.repl {H : Hp} {kvs : List (List Key × V)} {xs : List (List Key × Addr × Value)} (r : KT H kvs xs) (k : List Key) {y : V} {u : Value} (ry : RelV y u) :
    KT H (kvs.map fun kv => if kv.1 = k then (kv.1, y) else kv) (xs.map (putAt k u)) := by
  induction r with
  | nil => exact .nil
  | @cons p q ps qs h t ih =>
    rw [List.map_cons, List.map_cons]
    refine .cons ?_ ih
    obtain ⟨h1, h2, h3⟩ := h
    unfold putAt
    by_cases e : p.1 = k
    · rw [if_pos e, if_pos (h1.symm.trans e)]; exact ⟨h1, h2, ry⟩
    · rw [if_neg e, if_neg (fun z => e (h1.trans z))]; exact ⟨h1, h2, h3⟩
theorem KT.put {H : Hp} {kvs : List (List Key × V)} {xs : List (List Key × Addr × Value)} (r : KT H kvs xs) (k : List Key) {b : Addr} {y : V} {u : Value} (hb : H b = some (.tup (k.map kV))) (ry : RelV y u) :
    KT H (putK kvs k y) (storedH xs k b u) := by
  have e : (kvs.any fun kv => decide (kv.1 = k)) = (atKey xs k).isSome := by
    rw [valV_any, (r.val k).isSome_eq, Option.isSome_map]
  unfold putK storedH
  rw [e]
  by_cases q : (atKey xs k).isSome = true
  · rw [if_pos q, if_pos q]; exact r.repl k ry
  · rw [if_neg q, if_neg q]; exact Paired.snoc r ⟨rfl, hb, ry⟩
theorem KT.keeps {H H' : Hp} {kvs : List (List Key × V)} {xs : List (List Key × Addr × Value)} (r : KT H kvs xs) (ht : ∀ b ys, H b = some (.tup ys) → H' b = some (.tup ys)) : KT H' kvs xs :=
  Paired.mapP r fun _ _ z => ⟨z.1, ht _ _ z.2.1, z.2.2⟩
section
variable {P : Program} {w : World} {H : Hp} {h : Heap} {a : Addr}
end
def DGet (H : Hp) (a : Addr) (y : V) (r : Option V) : Prop :=
  (∃ kvs k, Rd H a (.dK kvs) ∧ y = kV k ∧ r = valV kvs k) ∨ ∃ kvs k b, Rd H a (.dT kvs) ∧ y = .ref b ∧ H b = some (.tup (k.map kV)) ∧ r = valV kvs k
def DPut (H : Hp) (a : Addr) (y v : V) (H' : Hp) : Prop :=
  (∃ kvs k, H a = some (.dK kvs) ∧ y = kV k ∧ kvs.length < sizeLine ∧ H' = upd H a (.dK (putK kvs k v))) ∨
  ∃ kvs k b, H a = some (.dT kvs) ∧ y = .ref b ∧ H b = some (.tup (k.map kV)) ∧ kvs.length < sizeLine ∧ H' = upd H a (.dT (putK kvs k v))
theorem DGet.k {H : Hp} {a : Addr} {kvs : List (Key × V)} {k : Key} (e : H a = some (.dK kvs)) : DGet H a (kV k) (valV kvs k) := .inl ⟨kvs, k, .inl e, rfl, rfl⟩
theorem DGet.t {H : Hp} {a b : Addr} {kvs : List (List Key × V)} {k : List Key} (e : H a = some (.dT kvs)) (eb : H b = some (.tup (k.map kV))) : DGet H a (.ref b) (valV kvs k) := .inr ⟨kvs, k, b, .inl e, rfl, eb, rfl⟩
theorem DPut.k {H : Hp} {a : Addr} {kvs : List (Key × V)} {k : Key} {v : V} (e : H a = some (.dK kvs)) (hl : kvs.length < sizeLine) : DPut H a (kV k) v (upd H a (.dK (putK kvs k v))) := .inl ⟨kvs, k, e, rfl, hl, rfl⟩
theorem DPut.t {H : Hp} {a b : Addr} {kvs : List (List Key × V)} {k : List Key} {v : V} (e : H a = some (.dT kvs)) (eb : H b = some (.tup (k.map kV))) (hl : kvs.length < sizeLine) :
    DPut H a (.ref b) v (upd H a (.dT (putK kvs k v))) := .inr ⟨kvs, k, b, e, rfl, eb, hl, rfl⟩
section
variable {X : Cx} {pins : List (Addr × Obj)} {σ : St} {H : Hp} {s : Shared} {a : Addr} {y v : V} {u r : Value} {o : Option V} {A : Around} {E : Value → Shared → Prop}
end
section
variable {X : Cx} {pins : List (Addr × Obj)} {σ : St} {H : Hp} {s : Shared} {a : Addr} {kvs : List (Key × V)} {k : Key} {u : Value} {A : Around} {E : Value → Shared → Prop}
end
section
variable {X : Cx} {o i e value : Expr} {pos pos' tpos : Pos} {td ty tv : TE}
end
section
variable {X : Cx} {pos : Pos}
end
structure M1 (X : Cx) (o : Expr) (m : Str) (apos : Pos) (e : Expr) (cpos : Pos) : Prop where
  base : attributeBase o m X.env (eval o X.env) = eval o X.env
  few : ((backTo cpos (starEach [e] X.env)).all (fun x => !x.1) && (backToKw cpos (keywordEach [] X.env)).all (fun x => x.1.isSome)
    && decide (([e] : List Expr).length + ([] : List Keyword).length + (if ([] : List Keyword).isEmpty then 0 else 1) < 30)) = true
  line : (apos.endLine == cpos.line) = true
  trees : backTo cpos (starEach [e] X.env) = [(false, eval e X.env)]
structure M2 (X : Cx) (o : Expr) (m : Str) (apos : Pos) (e f : Expr) (cpos : Pos) : Prop where
  base : attributeBase o m X.env (eval o X.env) = eval o X.env
  few : ((backTo cpos (starEach [e, f] X.env)).all (fun x => !x.1) && (backToKw cpos (keywordEach [] X.env)).all (fun x => x.1.isSome)
    && decide (([e, f] : List Expr).length + ([] : List Keyword).length + (if ([] : List Keyword).isEmpty then 0 else 1) < 30)) = true
  line : (apos.endLine == cpos.line) = true
  trees : backTo cpos (starEach [e, f] X.env) = [(false, eval e X.env), (false, eval f X.env)]
section
variable {X : Cx} {pins : List (Addr × Obj)} {σ : St} {H : Hp} {s : Shared} {a : Addr} {y d : V} {u r : Value} {o : Option V} {A : Around} {E : Value → Shared → Prop}
end
section
variable {X : Cx} {o e f : Expr} {apos cpos : Pos} {td ty tx : TE}
end
section
variable {X : Cx} {pins : List (Addr × Obj)} {σ : St} {H : Hp} {s : Shared} {a : Addr} {kvs : List (Key × V)} {A : Around} {E : Value → Shared → Prop}
end
section
variable {X : Cx} {pins : List (Addr × Obj)} {σ : St} {H : Hp} {s : Shared} {a : Addr} {y : V} {u : Value} {A : Around} {E : Value → Shared → Prop}
end
end L2
namespace L2
open PySem PySem.Spec PyProof.Rows
section
variable {prog : Program} {w : World} {A : Around} {E : Value → Shared → Prop}
end
section
variable {X : Cx}
end
end L2
namespace L2
open PySem PySem.Spec PyProof.Rows
section
variable {X : Cx} {pins : List (Addr × Obj)} {σ : St} {H : Hp} {s : Shared} {h' : Heap}
end
section
variable {X : Cx}
theorem pi_one {tg : Expr} {pins : List (Addr × Obj)} {σ : St} {H : Hp} {s : Shared} {R : It → Hp → Prop} {J : It} {tn : Nat → Heap → Prop} {tk : Nat} (I : Inv X pins σ H s) (o : Obj)
    (T : Turn X.prog X.w X.K tg J [s.heap.objs.size] s.heap.objs.size tn) (st : tn 0 (s.heap.push o)) (q : R J H) : PIE X pins σ tg R (.ref s.heap.objs.size) { s with heap := s.heap.push o, toks := tk } := by
  refine ⟨s.heap.objs.size, [s.heap.objs.size], tn, J, H, rfl, I.kept fun b ob e => Heap.get?_push_of_some _ e, T, st, fun b hb => ?_, q⟩
  have e : b = s.heap.objs.size := by simpa using hb
  subst e
  exact I.fpOk (Nat.le_refl _) (I.hok.fresh (Nat.le_refl _))
end
def RgC (i j c : Int) (n : Nat) : Prop := c ≠ 0 ∧ c.natAbs < 1073741824 ∧ Builtin.Range.small i j c = true ∧ Builtin.Range.rangeSize i j c = n
theorem RgC.neg {i j : Int} (ha : -(2 ^ 62) ≤ i) (ha' : i < 2 ^ 62) (hb : -(2 ^ 62) ≤ j) (hb' : j < 2 ^ 62) : RgC i j (-1) (i - j).toNat :=
  ⟨by decide, by decide, PySem.W.small_down ha ha' hb hb', PySem.W.rangeSize_downNat i j⟩
section
variable {X : Cx} {tg : Expr}
end
section
variable {X : Cx} {tg : Expr}
end
def Its (x : Str) : It := ⟨fun i _ => i < x.cps.size, fun i H v H' => H' = H ∧ ∃ c, x.cps[i]? = some c ∧ v = .str ⟨#[c]⟩, fun i _ => x.cps.size ≤ i⟩
theorem turn_str {P : Program} {w : World} {K : PySem.W.Frag} {tg : Expr} (it : Addr) (x : Str) (t : Tok) (ty : String) (hty : ty = "str_ascii_iterator" ∨ ty = "str_iterator") :
    Turn P w K tg (Its x) [it] it (fun i h => h.IsStrIter it ty x t i) where
  mem := by simp
  obj := fun i h st b hb => by
    have e : b = it := by simpa using hb
    subst e
    obtain ⟨o, e, c, d⟩ := st
    exact ⟨o, e, fun v z => by rw [d] at z; cases z⟩
  keep := fun i h h' st k => let ⟨o, ho, r⟩ := st; ⟨o, k it (by simp) o ho, r⟩
  item := by
    intro X hP hw hK hc i pins s σ H E I hf st hg
    subst hP hw hK
    obtain ⟨f0, f1, f2, f3, f4, f5⟩ := hf it (by simp)
    have W : Walks X.prog X.w X.A it [it] [it] x.cps.size (SignAt x) (fun i h => h.IsStrIter it ty x t i) := by
      rcases hty with e | e
      · rw [e]; exact Walks.strAscii (I.ok.hd hc) it x t
      · rw [e]; exact Walks.strWide (I.ok.hd hc) it x t
    have hno : ["enumerate", "zip", "dict_itemiterator", "dict_reverseitemiterator", "odict_iterator", "itertools.zip_longest", "itertools.pairwise"].contains ty = false := by
      rcases hty with e | e
      · rw [e]; decide
      · rw [e]; decide
    refine W.item i s _ _ hg st fun v h' tk hv st' kk => ?_
    obtain ⟨c, u, hcx, rfl⟩ := hv
    have I1 : Inv X pins σ H { s with heap := h', toks := tk } := I.turned (fun b o hb e => kk b o (by simpa using hb) e) f0 f1 f3 f4 f5
    obtain ⟨oi, e, cc, dd⟩ := id st'
    exact ⟨_, rfl, go_of (s := { s with heap := h', toks := tk }) e cc dd hno ⟨.str ⟨#[c]⟩, H, I1, ⟨u, rfl⟩, ⟨rfl, c, hcx, rfl⟩, st', fun b hb => (hf b hb).1⟩⟩
  done := by
    intro X hP hw hK hc i pins s σ H E I hf st hg
    subst hP hw hK
    obtain ⟨f0, f1, f2, f3, f4, f5⟩ := hf it (by simp)
    have hx : x.cps[i]? = none := Array.getElem?_eq_none hg
    rcases hty with e | e
    · rw [e] at st
      exact wpAny_pyNext_ascii_end (I.ok.hd hc) st hx fun h' eb => ⟨rfl, I.turned (t' := s.toks) (fun b o hb e => eb b o hb e) f0 f1 f3 f4 f5⟩
    · rw [e] at st
      exact wpAny_pyNext_wide_end (I.ok.hd hc) st hx fun h' eb => ⟨rfl, I.turned (t' := s.toks) (fun b o hb e => eb b o hb e) f0 f1 f3 f4 f5⟩
  self := fun A i s Q E st h => by
    rcases hty with e | e
    · rw [e] at st; exact wpAny_pyIter_striter_ascii st h
    · rw [e] at st; exact wpAny_pyIter_striter_wide st h
def iStr (te : TE) : TI := fun σ H R => te σ H fun v H1 => ∃ x, v = .str x ∧ R (Its x) H1
theorem pi_str {X : Cx} {tg e : Expr} {te : TE} (he : PE X e te) : PI X tg e (iStr te) := by
  intro pins s σ H R I h
  refine thn (he pins s σ H _ I h) fun v s1 ⟨y, H1, I1, r1, x, ex, q⟩ => ?_
  subst ex
  obtain ⟨t, rfl⟩ := r1
  cases ha : x.cps.all (· < 128)
  · exact wpAny_pyIter_wide ha (pi_one (tk := s1.toks) I1 _ (turn_str _ x t "str_iterator" (.inr rfl)) ⟨_, Heap.get?_push_size _ rfl, rfl, rfl⟩ q)
  · exact wpAny_pyIter_ascii ha (pi_one (tk := s1.toks) I1 _ (turn_str _ x t "str_ascii_iterator" (.inl rfl)) ⟨_, Heap.get?_push_size _ rfl, rfl, rfl⟩ q)
section
variable {prog : Program} {w : World} {A : Around} {E : Value → Shared → Prop} {s : Shared}
end
section
variable {X : Cx} {pins : List (Addr × Obj)} {σ : St} {H : Hp} {s : Shared} {d : Addr} {o : Obj}
end
section
variable {P : Program} {w : World} {K : PySem.W.Frag} {tg : Expr} {d : Addr} {o : Obj} {es : Array DictEntry} {ep : Nat}
end
section
variable {X : Cx} {tg e : Expr} {td : TE} {apos cpos : Pos}
end
end L2
section 
namespace Bits
open PySem PyProof.Rows
end Bits
end 
section 
namespace TL
open PySem PySem.Builtin PySem.Builtin.Str PySem.StrLaws
abbrev tl (x : Str) : List Nat := x.cps.toList
theorem len_tl (x : Str) : x.length = (tl x).length := by simp [tl, Str.length]
theorem ext_tl {x y : Str} (h : tl x = tl y) : x = y := Str.ext' (Array.toList_inj.mp h)
theorem tl_append (x y : Str) : tl (x ++ y) = tl x ++ tl y := by
  show (x ++ y).cps.toList = _
  rw [Str.cps_append, Array.toList_append]
theorem tl_mk (l : List Nat) : tl ⟨l.toArray⟩ = l := rfl
theorem mk_tl (x : Str) : (⟨(tl x).toArray⟩ : Str) = x := ext_tl rfl
def pre (S l : List Nat) : Bool := l.take S.length == S
def par (S : List Nat) : List Nat → List Nat → Option (List Nat × List Nat)
  | _, [] => none
  | acc, c :: r => if pre S (c :: r) = true then some (acc, (c :: r).drop S.length) else par S (acc ++ [c]) r
theorem par_hit {S acc r : List Nat} {c : Nat} (h : pre S (c :: r) = true) : par S acc (c :: r) = some (acc, (c :: r).drop S.length) := by
  show (if pre S (c :: r) = true then some (acc, (c :: r).drop S.length) else par S (acc ++ [c]) r) = _
  rw [if_pos h]
theorem par_miss {S acc r : List Nat} {c : Nat} (h : pre S (c :: r) = false) : par S acc (c :: r) = par S (acc ++ [c]) r := by
  show (if pre S (c :: r) = true then some (acc, (c :: r).drop S.length) else par S (acc ++ [c]) r) = _
  rw [if_neg (by rw [h]; exact Bool.false_ne_true)]
theorem pre_nil {S : List Nat} (hS : S ≠ []) : pre S [] = false := by
  cases S with
  | nil => exact absurd rfl hS
  | cons s S => rfl
theorem pre_of_head {s c : Nat} (S r : List Nat) (h : c ≠ s) : pre (s :: S) (c :: r) = false := by
  cases hp : pre (s :: S) (c :: r) with
  | false => rfl
  | true =>
    have e : (c :: r).take (s :: S).length = s :: S := eq_of_beq hp
    rw [List.length_cons, List.take_succ_cons] at e
    injection e with e1 e2
    exact absurd e1 h
theorem pre_self (S r : List Nat) : pre S (S ++ r) = true := by
  show ((S ++ r).take S.length == S) = true
  have e : (S ++ r).take S.length = S := List.take_left
  rw [e] <;> exact beq_self_eq_true S
theorem getElem_drop_cons {L : List Nat} {a : Nat} (h : a < L.length) : ∃ c, L.drop a = c :: L.drop (a + 1) := ⟨L[a], List.drop_eq_getElem_cons h⟩
theorem par_run (S L : List Nat) : ∀ (m a : Nat) (acc : List Nat), a + m ≤ L.length → (∀ k, a ≤ k → k < a + m → pre S (L.drop k) = false) →
    par S acc (L.drop a) = par S (acc ++ (L.drop a).take m) (L.drop (a + m))
  | 0, a, acc, _, _ => by rw [List.take_zero, List.append_nil, Nat.add_zero]
  | m + 1, a, acc, h, hn => by
    have hlt : a < L.length := by omega
    obtain ⟨c, e⟩ := getElem_drop_cons hlt
    have h0 := hn a (Nat.le_refl _) (by omega)
    have ih := par_run S L m (a + 1) (acc ++ [c]) (by omega) (fun k h1 h2 => hn k (by omega) (by omega))
    have e2 : a + 1 + m = a + (m + 1) := by omega
    rw [e2] at ih
    rw [e] at h0
    rw [e, par_miss h0, ih, List.take_succ_cons, List.append_assoc] <;> rfl
theorem drop_two (L : List Nat) (a b : Nat) : (L.drop a).drop b = L.drop (a + b) := by
  first
    | rw [List.drop_drop]
    | rw [List.drop_drop, Nat.add_comm]
theorem par_at {S L : List Nat} (hS : S ≠ []) {c : Nat} {acc : List Nat} (h : pre S (L.drop c) = true) : par S acc (L.drop c) = some (acc, L.drop (c + S.length)) := by
  rw [← drop_two]
  cases e : L.drop c with
  | nil => rw [e, pre_nil hS] at h; cases h
  | cons d r =>
    rw [e] at h
    rw [par_hit h]
theorem at_iff {x y : Str} (hy : tl y ≠ []) (i : Nat) : At x y x.length i ↔ pre (tl y) ((tl x).drop i) = true := by
  have hx := len_tl x
  have hl := len_tl y
  constructor
  · intro h
    have h2 := h.2
    rw [subAt_eq, hl] at h2
    exact h2
  · intro h
    have e : ((tl x).drop i).take (tl y).length = tl y := eq_of_beq h
    have e1 := congrArg List.length e
    rw [List.length_take, List.length_drop] at e1
    have e2 : 0 < (tl y).length := List.length_pos_iff.mpr hy
    refine ⟨by omega, ?_⟩
    rw [subAt_eq, hl]
    exact h
theorem no_at {x y : Str} (hy : tl y ≠ []) {i : Nat} (h : ¬ At x y x.length i) : pre (tl y) ((tl x).drop i) = false := by
  cases hp : pre (tl y) ((tl x).drop i) with
  | false => rfl
  | true => exact absurd ((at_iff hy i).mpr hp) h
theorem tl_strSub (x : Str) (i j : Nat) : tl (strSub x i j) = ((tl x).drop i).take (j - i) := strSub_toList x i j
theorem tl_strSub_end (x : Str) (i : Nat) : tl (strSub x i x.length) = (tl x).drop i := by
  rw [tl_strSub, len_tl x]
  exact List.take_of_length_le (by rw [List.length_drop] <;> omega)
theorem partition_par (x y : Str) (hy : tl y ≠ []) :
    Txt.partition x y = (match par (tl y) [] (tl x) with | some (a, b) => (⟨a.toArray⟩, y, ⟨b.toArray⟩) | none => (x, Str.empty, Str.empty)) := by
  have hx := len_tl x
  have hl := len_tl y
  rcases PyProof.Rows.partition_whole x y with ⟨e, hn⟩ | ⟨i, e, hi, hn⟩
  · have run := par_run (tl y) (tl x) (tl x).length 0 [] (by omega) (fun k _ _ => no_at hy (hn k))
    rw [List.drop_zero, Nat.zero_add, List.drop_length] at run
    rw [e, run] <;> rfl
  · have hb : i + y.length ≤ x.length := hi.1
    have run := par_run (tl y) (tl x) i 0 [] (by omega) (fun k _ k2 => no_at hy (hn k (by omega)))
    rw [List.drop_zero, Nat.zero_add, List.nil_append, par_at hy ((at_iff hy i).mp hi)] at run
    rw [e, run]
    have e1 : strSub x 0 i = ⟨((tl x).take i).toArray⟩ := ext_tl (by rw [tl_strSub, List.drop_zero, Nat.sub_zero])
    have e2 : strSub x (i + y.length) x.length = ⟨((tl x).drop (i + (tl y).length)).toArray⟩ := ext_tl (by rw [tl_strSub_end, hl])
    rw [e1, e2] <;> rfl
theorem par_part {S p rest acc : List Nat} (hS : S ≠ []) (h : ∀ i, i < p.length → pre S ((p ++ (S ++ rest)).drop i) = false) :
    par S acc (p ++ (S ++ rest)) = some (acc ++ p, rest) := by
  have run := par_run S (p ++ (S ++ rest)) p.length 0 acc (by rw [List.length_append]; omega) (fun k _ k2 => h k (by omega))
  have ed : (p ++ (S ++ rest)).drop p.length = S ++ rest := List.drop_left
  rw [List.drop_zero, Nat.zero_add, List.take_left] at run
  rw [run, par_at hS (by rw [ed]; exact pre_self S rest), ← drop_two, ed, List.drop_left]
theorem par_none {S p acc : List Nat} (h : ∀ i, i < p.length → pre S (p.drop i) = false) : par S acc p = none := by
  have run := par_run S p p.length 0 acc (by omega) (fun k _ k2 => h k (by omega))
  rw [List.drop_zero, Nat.zero_add, List.drop_length] at run
  exact run
theorem free_of {s : Nat} {S p q : List Nat} (h : s ∉ p) : ∀ i, i < p.length → pre (s :: S) ((p ++ q).drop i) = false := fun i hi => by
  have hlt : i < (p ++ q).length := by rw [List.length_append]; omega
  have e : (p ++ q).drop i = (p ++ q)[i] :: (p ++ q).drop (i + 1) := List.drop_eq_getElem_cons hlt
  rw [e]
  refine pre_of_head _ _ fun z => h ?_
  have e1 : (p ++ q)[i] = p[i] := List.getElem_append_left hi
  rw [← z, e1]
  exact List.getElem_mem hi
theorem par_part1 {s : Nat} {S p rest acc : List Nat} (h : s ∉ p) : par (s :: S) acc (p ++ (s :: S ++ rest)) = some (acc ++ p, rest) := par_part (by simp) (free_of h)
theorem par_none1 {s : Nat} {S p acc : List Nat} (h : s ∉ p) : par (s :: S) acc p = none := par_none fun i hi => by
  have z := free_of (S := S) (q := []) h i hi
  rw [List.append_nil] at z
  exact z
theorem join_eq (y : Str) (parts : List Str) : Txt.join y parts = Str.join y parts := glued_eq_join y parts
theorem partition_app {y : Str} {s : Nat} {S : List Nat} (ey : tl y = s :: S) {a b : Str} (h : s ∉ tl a) : Txt.partition (a ++ y ++ b) y = (a, y, b) := by
  rw [partition_par _ y (by rw [ey]; simp), tl_append, tl_append, List.append_assoc, ey, par_part1 h]
  show ((⟨([] ++ tl a).toArray⟩ : Str), y, (⟨(tl b).toArray⟩ : Str)) = _
  rw [List.nil_append, mk_tl, mk_tl]
theorem partition_none {y : Str} {s : Nat} {S : List Nat} (ey : tl y = s :: S) {a : Str} (h : s ∉ tl a) : Txt.partition a y = (a, Str.empty, Str.empty) := by
  rw [partition_par _ y (by rw [ey]; simp), ey, par_none1 h]
def wstep (st : List (List Nat) × List Nat) (c : Nat) : List (List Nat) × List Nat :=
  if Unicode.isSpace c = true then (if st.2 = [] then st else (st.1 ++ [st.2], [])) else (st.1, st.2 ++ [c])
end TL
end 
namespace L2
open PySem PySem.Spec PyProof.Rows
theorem strs_of_vals : ∀ {ys : List Str} {us : List Value}, Vals (ys.map V.str) us → StrsAre us ys
  | [], _, .nil => .nil
  | y :: ys, _, .cons r t => by
    obtain ⟨k, rfl⟩ := r
    exact .cons y k (strs_of_vals t)
section
variable {X : Cx} {pins : List (Addr × Obj)} {σ : St} {H : Hp} {s : Shared} {Q : VK}
theorem laid_parts {x y z : Str} {t u v : Tok} {k : Nat} (I : Inv X pins σ H s) (h : ∀ p, H p = none → Q (.ref p) (upd H p (.tup [.str x, .str y, .str z]))) :
    EP X pins σ Q (.ref s.heap.objs.size) { s with toks := k, heap := s.heap.push { cls := .type "tuple", data := .seq [Value.str x t, .str y u, .str z v].toArray } } := by
  have hp := I.hok.fresh (Nat.le_refl _)
  exact ⟨.ref s.heap.objs.size, upd H s.heap.objs.size (.tup [.str x, .str y, .str z]), I.laid (fun b u q => Heap.get?_push_of_some _ q) (Nat.le_refl _)
    ⟨by show 3 ≤ sizeLine; decide, [Value.str x t, .str y u, .str z v], .cons ⟨t, rfl⟩ (.cons ⟨u, rfl⟩ (.cons ⟨v, rfl⟩ .nil)), _, Heap.get?_push_size _ rfl, rfl, _, rfl⟩, rfl, h _ hp⟩
end
section
variable {X : Cx}
theorem mt_partition : MtR X "str.partition" (fun x xs H Q => ∃ a b, x = .str a ∧ xs = [.str b] ∧ (b.length == 0) = false ∧ a.length ≤ sizeLine ∧
    ∀ p, H p = none → Q (.ref p) (upd H p (.tup [.str (Txt.partition a b).1, .str (Txt.partition a b).2.1, .str (Txt.partition a b).2.2]))) := by
  intro pins s σ H x xs v us Q I rx rs h
  obtain ⟨a, b, rfl, rfl, hb, hz, h⟩ := h
  obtain ⟨t, rfl⟩ := rx
  cases rs with
  | cons r1 rs =>
    cases rs
    obtain ⟨u, rfl⟩ := r1
    refine call_meets F.slot_str_partition (typeIs_str _ _ _) F.entry_str_partition (F.args_str_partition_2 _ _) (meets_str_partition a b t u hb hz) ?_
    unfold Txt.partition at h
    revert h
    cases Builtin.Str.occurrences a b 0 a.length 1 with
    | nil => intro h; exact laid_parts I h
    | cons i r => intro h; exact laid_parts I h
theorem mt_join : MtR X "str.join" (fun x xs H Q => ∃ a p, ∃ ys : List Str, x = .str a ∧ xs = [.ref p] ∧ (SqL X.K H p (ys.map V.str) ∨ SqT X.K H p (ys.map V.str)) ∧
    (ys.map (·.length)).sum + ys.length * a.length ≤ 16777216 ∧ Q (.str (Txt.join a ys)) H) := by
  intro pins s σ H x xs v us Q I rx rs h
  obtain ⟨a, p, ys, rfl, rfl, hp, hz, h⟩ := h
  obtain ⟨t, rfl⟩ := rx
  cases rs with
  | cons r1 rs =>
    cases rs
    cases r1
    rcases hp with hp | hp
    · obtain ⟨its, r, ⟨o, n, ho, hc, _, hd⟩, _⟩ := I.list hp
      exact PyProof.Rows.join_list (items := its.toArray) ⟨o, ho, hc, n, hd⟩ (by rw [List.toList_toArray]; exact strs_of_vals r) hz fun t' k => ⟨.str _, H, I.tok k, ⟨t', rfl⟩, h⟩
    · obtain ⟨its, r, ht, _⟩ := I.tuple hp
      exact PyProof.Rows.join_tuple (items := its.toArray) ht (by rw [List.toList_toArray]; exact strs_of_vals r) hz fun t' k => ⟨.str _, H, I.tok k, ⟨t', rfl⟩, h⟩
theorem mt1 {id : String} {g : Str → Str → V} (rule : ∀ (a b : Str) (t u : Tok) (s : Shared) (Q : Value → Shared → Prop), (∀ (v : Value) (k : Nat), RelV (g a b) v → Q v { s with toks := k }) →
    wpAny (model X.prog X.w) X.A (call (.builtin id) [.str a t, .str b u]) Q X.xe s) : MtR X id (fun x xs H Q => ∃ a b, x = .str a ∧ xs = [.str b] ∧ Q (g a b) H) := by
  intro pins s σ H x xs v us Q I rx rs h
  obtain ⟨a, b, rfl, rfl, h⟩ := h
  obtain ⟨t, rfl⟩ := rx
  cases rs with
  | cons r1 rs =>
    cases rs
    obtain ⟨u, rfl⟩ := r1
    exact rule a b t u s _ fun v k r => ⟨g a b, H, I.tok k, r, h⟩
theorem mt_find : MtR X "str.find" (fun x xs H Q => ∃ a b, x = .str a ∧ xs = [.str b] ∧ Q (.int (Txt.find a b)) H) :=
  mt1 (g := fun a b => .int (Txt.find a b)) fun _ _ _ _ s _ h => PySem.SC.find (h _ (s.toks + 1) ⟨_, rfl⟩)
theorem mt_count : MtR X "str.count" (fun x xs H Q => ∃ a b, x = .str a ∧ xs = [.str b] ∧ Q (.int (Txt.count a b)) H) :=
  mt1 (g := fun a b => .int (Txt.count a b)) fun _ _ _ _ s _ h => PySem.SC.count (h _ (s.toks + 1) ⟨_, rfl⟩)
theorem call_int_str : CallR X (.type "int") (fun xs H Q => ∃ a n, xs = [.str a] ∧ PySem.intText? a = some n ∧ a.length ≤ 640 ∧ Q (.int n) H) := by
  intro pins s σ H xs us Q I rs h
  obtain ⟨a, n, rfl, hn, hl, h⟩ := h
  cases rs with
  | cons r1 rs =>
    cases rs
    obtain ⟨t, rfl⟩ := r1
    exact PySem.W.KIN.call_text hn hl ⟨.int n, H, I.tok _, ⟨_, rfl⟩, h⟩
end
section
variable {X : Cx} {o e : Expr} {to te : TE}
def tM1 (r : V → List V → Hp → VK → Prop) (to te : TE) : TE := fun σ H Q => to σ H fun x H1 => (∃ a, x = .str a) ∧ te σ H1 fun y H2 => r x [y] H2 Q
theorem pe_m1 {id : String} {name : Str} {apos pos : Pos} {r : V → List V → Hp → VK → Prop} (slot : Slot "str" name id) (ty : typeOf (.builtin id) = pure (.type "method_descriptor")) (rule : MtR X id r) (ho : PE X o to) (he : PE X e te)
    (hs : starEach [e] X.env = [(false, eval e X.env)] := by rfl) (hbase : attributeBase o name X.env (eval o X.env) = eval o X.env := by rfl) (hline : (apos.endLine == pos.line) = true := by rfl) :
    PE X (.Call (.Attribute o name apos) [e] [] pos) (tM1 r to te) := by
  intro pins s σ H Q I h
  refine PySem.Call_method1 hbase hs hline (thn (ho pins s σ H _ I h) fun v s1 ⟨x, H1, I1, r1, q1⟩ => ?_)
  obtain ⟨⟨a, rfl⟩, q1⟩ := q1
  obtain ⟨t, rfl⟩ := _root_.id r1
  refine ⟨"str", _, F.plainAttrs_str, slot, ty, typeIs_str _ _ _, (fun _ e => nomatch e), Calls.callWith_builtin rfl (Calls.evalArgs_plain (Calls.spliced_cons ?_))⟩
  exact thn (he pins s1 σ H1 _ I1 q1) fun u s2 ⟨y, H2, I2, r2, q2⟩ => Calls.spliced_nil (rule pins s2 σ H2 _ [y] _ [u] Q I2 r1 (.cons r2 .nil) q2)
theorem pe_join {apos pos : Pos} (ho : PE X o to) (he : PE X e te) (hs : starEach [e] X.env = [(false, eval e X.env)] := by rfl) (hbase : attributeBase o "join" X.env (eval o X.env) = eval o X.env := by rfl) (hline : (apos.endLine == pos.line) = true := by rfl) :
    PE X (.Call (.Attribute o "join" apos) [e] [] pos) (tM1 (fun x xs H Q => ∃ a p, ∃ ys : List Str, x = .str a ∧ xs = [.ref p] ∧ (SqL X.K H p (ys.map V.str) ∨ SqT X.K H p (ys.map V.str)) ∧
      (ys.map (·.length)).sum + ys.length * a.length ≤ 16777216 ∧ Q (.str (Txt.join a ys)) H) to te) :=
  pe_m1 F.slot_str_join F.type_str_join mt_join ho he hs hbase hline
end
end L2
namespace L2
open PySem PySem.Spec PyProof.Rows
section
variable {X : Cx}
end
theorem IsPart.raw {v : Value} {o : Option Int} (p : IsPart v o) : ∃ l : Option (Int × Tok), v = partValue l ∧ l.map (·.1) = o := by
  cases p with
  | none => exact ⟨none, rfl, rfl⟩
  | int i t => exact ⟨some (i, t), rfl, rfl⟩
def clipS (n d : Nat) : Option Int → Int
  | none => (d : Int)
  | some i => max 0 (min (if i < 0 then i + (n : Int) else i) (n : Int))
theorem clipS_eq (n d : Nat) (o : Option Int) : clipS n d o = ((HT.sIx n d o : Nat) : Int) := by
  cases o with
  | none => rfl
  | some v =>
    show max (0 : Int) (min (if v < 0 then v + (n : Int) else v) (n : Int)) = (((if v < 0 then (v + (n : Int)).toNat else min v.toNat n) : Nat) : Int)
    by_cases hv : v < 0
    · simp only [if_pos hv]
      omega
    · simp only [if_neg hv]
      omega
theorem sidx_clip (a b : Option Int) (n : Nat) : Builtin.Str.strSliceIndices a b 1 n = sliceRange (clipS n 0 a) (clipS n n b) 1 := by
  have h1 : ((1 : Int) > 0) = True := by simp
  cases a <;> cases b <;> first
    | rfl
    | (simp only [Builtin.Str.strSliceIndices, clipS, h1, if_true]; rfl)
    | simp [Builtin.Str.strSliceIndices, clipS]
theorem sidx (a b : Option Int) (n : Nat) : Builtin.Str.strSliceIndices a b 1 n = (List.range (HT.sIx n n b - HT.sIx n 0 a)).map (fun k => HT.sIx n 0 a + k) := by
  rw [sidx_clip, clipS_eq, clipS_eq]
  generalize HT.sIx n 0 a = p
  generalize HT.sIx n n b = q
  simp only [sliceRange, show ((1 : Int) > 0) = True from by simp, if_true]
  by_cases hlt : (p : Int) < q
  · have e3 : (((q : Int) - p + 1 - 1) / 1).toNat = q - p := by first | omega | (simp; done) | (simp; omega)
    simp only [hlt, if_true, e3]
    refine List.map_congr_left fun k _ => ?_
    omega
  · have : q - p = 0 := by omega
    simp [hlt, this]
def cutS (z : Str) (lo hi : Option Int) : Str :=
  ⟨((z.cps.toList.drop (HT.sIx z.length 0 lo)).take (HT.sIx z.length z.length hi - HT.sIx z.length 0 lo)).toArray⟩
theorem sliceText_cut (z : Str) (lo hi : Option Int) : PySem.StrLaws.sliceText z lo hi = cutS z lo hi := by
  have h1 : HT.sIx z.length 0 lo ≤ z.length := HT.sIx_le _ _ (Nat.zero_le _) _
  have h2 : HT.sIx z.length z.length hi ≤ z.length := HT.sIx_le _ _ (Nat.le_refl _) _
  have hp : HT.sIx z.length 0 lo ≤ max (HT.sIx z.length 0 lo) (HT.sIx z.length z.length hi) := Nat.le_max_left _ _
  have hq : max (HT.sIx z.length 0 lo) (HT.sIx z.length z.length hi) ≤ z.length := Nat.max_le.mpr ⟨h1, h2⟩
  have hd : max (HT.sIx z.length 0 lo) (HT.sIx z.length z.length hi) - HT.sIx z.length 0 lo = HT.sIx z.length z.length hi - HT.sIx z.length 0 lo := by omega
  have e : Builtin.Str.strSliceIndices lo hi 1 z.length =
      Builtin.Str.strSliceIndices (some ((HT.sIx z.length 0 lo : Nat) : Int)) (some ((max (HT.sIx z.length 0 lo) (HT.sIx z.length z.length hi) : Nat) : Int)) 1 z.length := by
    rw [PySem.StrLaws.strSliceIndices_plain hp hq, hd, sidx]
  have e2 : PySem.StrLaws.sliceText z lo hi =
      PySem.StrLaws.sliceText z (some ((HT.sIx z.length 0 lo : Nat) : Int)) (some ((max (HT.sIx z.length 0 lo) (HT.sIx z.length z.length hi) : Nat) : Int)) := by
    unfold PySem.StrLaws.sliceText
    rw [e]
  rw [e2, PySem.StrLaws.sliceText_nat z hp hq, hd]
  rfl
theorem cutS_length (z : Str) (lo hi : Option Int) : (cutS z lo hi).length ≤ z.length := by
  show (((z.cps.toList.drop (HT.sIx z.length 0 lo)).take (HT.sIx z.length z.length hi - HT.sIx z.length 0 lo)).toArray).size ≤ z.cps.size
  rw [List.size_toArray, List.length_take, List.length_drop, Array.length_toList]
  omega
def rSlS : V → Option Int → Option Int → Hp → VK → Prop := fun x lo hi H Q => ∃ z, x = .str z ∧ z.length ≤ sizeLine ∧ Q (.str (cutS z lo hi)) H
theorem sl_str {X : Cx} : SlR X rSlS := by
  intro pins s σ H x v vl vu lo hi sl Q I rx hs pl pu h
  obtain ⟨z, rfl, hz, q⟩ := h
  obtain ⟨t, rfl⟩ := rx
  obtain ⟨os, hos, hcs, hds⟩ := hs
  obtain ⟨l, rfl, rfl⟩ := IsPart.raw pl
  obtain ⟨u, rfl, rfl⟩ := IsPart.raw pu
  refine ⟨"str", _, F.slot_str_getitem.lookup, typeIs_str _ _ _, ?_⟩
  refine wpAny_getItem_str_slice (l := l) (u := u) (st := none) ⟨os, hos, hcs, hds⟩ rfl ?_
  have hl : (PySem.StrLaws.sliceText z (l.map (·.1)) (u.map (·.1))).length ≤ sizeLine := by
    rw [sliceText_cut]
    exact Nat.le_trans (cutS_length z _ _) hz
  rw [← sliceText_cut] at q
  unfold PySem.StrLaws.sliceText at q hl
  show Made.post (if ((1 : Int) == 1 && (Builtin.Str.strSliceIndices (l.map (·.1)) (u.map (·.1)) 1 z.length).length == z.length) = true then Made.val (.str z t)
    else Made.str ⟨((Builtin.Str.strSliceIndices (l.map (·.1)) (u.map (·.1)) 1 z.length).filterMap (z.cps[·]?)).toArray⟩) (EP X pins σ Q) s
  by_cases c : ((1 : Int) == 1 && (Builtin.Str.strSliceIndices (l.map (·.1)) (u.map (·.1)) 1 z.length).length == z.length) = true
  · rw [if_pos c] at q ⊢
    exact ⟨.str z, H, I, ⟨t, rfl⟩, q⟩
  · rw [if_neg c] at q hl ⊢
    exact ⟨hl, .str _, H, I.tok _, ⟨_, rfl⟩, q⟩
end L2
namespace Att
open PySem PySem.W PySem.Calls PyProof.Rows
theorem ints_of_wellAll {P : Params} {h : Heap} : ∀ (ns : List Int) (vs : List Value), WellAll P h vs (ns.map WData.int) → IntsAre vs ns := by
  intro ns
  induction ns with
  | nil =>
    intro vs w
    rw [List.map_nil] at w
    cases w
    exact .nil
  | cons n ns ih =>
    intro vs w
    rw [List.map_cons] at w
    cases w with
    | cons a b =>
      cases a
      exact .cons _ _ (ih _ b)
theorem script_of {l : OpenLaw} {n : Nat} (hn : l.most = some n) {P : Params} {h : Heap} {args : List WData} {vals : List Value}
    (hpre : l.row.toRowW.claim.pre args = true) (hwl : WellAll P h vals args) :
    ∃ a vs ns, vals = [Value.ref a] ∧ args = [WData.list (ns.map WData.int)] ∧ h.get? a = some { cls := .type "list", data := .seq vs.toArray } ∧ IntsAre vs ns ∧ ns.length ≤ n := by
  have hsh : WShape.hasAll [] args [.list .int] = true := (pre_splitW hpre).1
  have hc : l.pre.holds [] { args := args } = true := (pre_splitW hpre).2
  obtain ⟨d, r, rfl, h1, h2⟩ := hasAllW_cons hsh
  obtain rfl := hasAllW_nil h2
  obtain ⟨xs, rfl, h3⟩ := hasW_list h1
  obtain ⟨ns, rfl⟩ := items_int h3
  have hlen : ns.length ≤ n := by
    unfold OpenLaw.pre at hc
    have h4 : (WTm.not (.lt (.lit (.int (n : Int))) (.len (.arg 0)))).holds [] { args := [.list (ns.map .int)] } = true := by
      have h4 := (holds_andW hc).1
      rw [hn] at h4
      exact h4
    have h5 := condW_of h4 (w_not (w_lt w_lit (w_len_list (w_arg rfl))))
    rw [List.length_map] at h5
    refine Nat.le_of_not_lt fun q => ?_
    have q' : (n : Int) < ((ns.length : Nat) : Int) := by omega
    first
      | (rw [decide_eq_true q'] at h5; exact absurd h5 (by decide))
      | (simp at h5; omega)
  cases hwl with
  | cons w1 w2 =>
    cases w2
    cases w1 with
    | list ho hall => exact ⟨_, _, ns, rfl, rfl, ho, ints_of_wellAll ns _ hall, hlen⟩
theorem post_true (l : OpenLaw) (args : List WData) : l.row.toRowW.claim.post args (.bool true) args = true :=
  postW_of (r := l.row.toRowW) (X := (true == true))
    (show WShape.has [] (.bool true) .bool = true by first | rfl | decide | simp [WShape.has, WShape.arms, WShape.armsAll])
    (show (WTm.eq .res (.lit (.bool true))).value [] { args := args, res := some (.bool true), after := args } = some (.bool (true == true)) from w_eq_bool (w_res rfl) w_lit) rfl
theorem attach_call {l : OpenLaw} {n : Nat} {q : Program} {loose : List Str} {XP : (Str → Option Value) → Heap → Prop} {YP : World → Heap → Prop} {d : DefRec}
    (hn : l.most = some n) (hdf : d.params.defaults = [])
    (call : ∀ (w : World) (s₀ s₁ : Shared) (mg mb : Str → Option Value) (fa : Addr) (o : Obj) (pm cd doc : Value) (a : Addr) (vs : List Value) (ns : List Int),
      Ground q loose [] XP w s₀ mg mb s₁.heap → YP w s₁.heap →
      s₁.heap.get? fa = some o → o.data = .func (docDef d.name d.params d.body d.scope pm cd doc) → s₁.heap.CodeRec cd d.name → mg d.name = some (.ref fa) →
      s₁.heap.get? a = some { cls := .type "list", data := .seq vs.toArray } → IntsAre vs ns → ns.length ≤ n → s₁.gens = #[] →
      codeAny (model l.prog w) callerA (.call (.ref fa) ⟨[.ref a], []⟩) (fun r s' => r = .ok (.ret (.bool true)) ∧ OldK s₁.heap s'.heap ∧ s'.os = s₁.os ∧ AllBare s'.gens) s₁) :
    WalkO q loose XP YP l.row.toRowW d [] (fun f vs => PySem.call f vs) := by
  intro w s₀ s₁ mg mb G Y fa o pm cd doc dV kV ho hd hcd hD hmg hg args vals as hpre hlay hrd hwl hlo
  obtain rfl : dV = .none := Dflts.none hD hdf
  obtain rfl : kV = .none := Dflts.noKw hD
  obtain ⟨a, vs, ns, rfl, rfl, hobj, hints, hlen⟩ := script_of hn hpre hwl
  refine enter_call (codeAny_mono (call w s₀ s₁ mg mb fa o pm cd doc a vs ns G Y ho (fd_plain hd) hcd hmg hobj hints hlen hg) fun r s' hq => ?_)
  obtain ⟨rfl, h2, h3, h4⟩ := hq
  exact ⟨.inl ⟨.bool true, .bool true, [], rfl, fun _ => rfl, .bool true, post_true l _, fun _ => ⟨List.Pairwise.nil, fun _ hm => (nomatch hm)⟩⟩, h2, h3, h4⟩
section
variable {prog : Program} {w : World} {A : Around} {E : Value → Shared → Prop} {s : Shared} {K : Frag}
end
end Att
namespace L2
open PySem PySem.Spec PyProof.Rows
theorem vals_ints : ∀ {vs : List Value} {ns : List Int}, IntsAre vs ns → Vals (ns.map V.int) vs
  | _, _, .nil => .nil
  | _, _, .cons n t h => .cons ⟨t, rfl⟩ (vals_ints h)
end L2
namespace L2
open PySem PySem.Spec PyProof.Rows
end L2
namespace L2
open PySem PySem.Spec PyProof.Rows
def defArgs (s : Stmt) : Arguments := match s with
  | .FunctionDef _ a _ _ _ _ _ _ _ _ => a
  | _ => { posonlyargs := [], args := [], vararg := none, kwonlyargs := [], kw_defaults := [], kwarg := none, defaults := [] }
def defBody (s : Stmt) : List Stmt := match s with
  | .FunctionDef _ _ b _ _ _ _ _ _ _ => b
  | _ => []
def defScope (s : Stmt) : Scope := match s with
  | .FunctionDef _ _ _ _ _ _ sc _ _ _ => sc
  | _ => { kind := .function, names := [], isGenerator := false, isCoroutine := false }
abbrev CX0 : CXT := fun _ _ _ _ _ _ => False
abbrev E0 : XK := fun _ _ _ => False
structure Fun (K : PySem.W.Frag) (x qual : Str) (st : Stmt) (f : Addr) (fd : FuncData) : Prop where
  ex : ∃ (oc : Value) (od : Option Addr) (kV doc pm : Value) (an : Option Addr) (cdv ct : Value) (osl : Array (Option Value)),
    fd = PySem.W.fnOf x qual (defArgs st) (defBody st) (defScope st) .none kV doc pm an cdv ct ∧ K.lookup f = some ⟨oc, od, .func fd, osl⟩ ∧ PySem.W.codeIn K cdv qual = true
  kp : PySem.W.keepIn K (.ref f) = true
section
variable {P : Program} {w : World} {K : PySem.W.Frag} {mg : Str → Option Value} {base : Heap}
theorem Fun.ok {x qual : Str} {st : Stmt} {f : Addr} {fd : FuncData} {N ps : List Str} {k : Nat} {sp : Sp} (F : Fun K x qual st f fd) (S : FnScope N ps (defScope st)) (len : ∀ vs H Q E, sp vs H Q E → vs.length = ps.length)
    (hbody : ∀ (cdv : Value) (A : Around) (outer : List Env) (s : Shared) (H : Hp) (vs : List V) (Q : VK) (E : XK), Room k (A.deeper (envOfC qual (defScope st) s.heap.objs.size f cdv)) → sp vs H Q E →
      ∃ t, PSs (cxOf CX0 P w K mg base N qual (defScope st) f cdv A outer s H E).nox (defBody st) t ∧ t { nx := fun _ H' => Q .non H', rt := Q } (start N vs) H) : FnOk P w K mg base CX0 (k + 1) f fd ps sp := by
  obtain ⟨oc, od, kV, doc, pm, an, cdv, ct, osl, rfl, lk, hcd⟩ := F.ex
  refine fn_of lk hcd S len fun A outer s H vs Q E hr hsp => ?_
  obtain ⟨t, h, q⟩ := hbody cdv A outer s H vs Q E hr hsp
  exact ⟨t, h.nox, q⟩
theorem Fun.binds {x qual : Str} {st : Stmt} {f : Addr} {fd : FuncData} {ps : List Str} (F : Fun K x qual st f fd)
    (h : ∀ (kV doc pm : Value) (an : Option Addr) (cdv ct : Value) (us : List Value), us.length = ps.length → bindArgs (PySem.W.fnOf x qual (defArgs st) (defBody st) (defScope st) .none kV doc pm an cdv ct) ⟨us, []⟩ = pure (ps.zip us)) : Binds K fd ps [] := by
  obtain ⟨oc, od, kV, doc, pm, an, cdv, ct, osl, rfl, lk, hcd⟩ := F.ex
  exact .all (h kV doc pm an cdv ct)
theorem fun_mk {x qual : Str} {st : Stmt} {f : Addr} {oc : Value} {od an : Option Addr} {osl : Array (Option Value)} {kV doc pm cdv ct : Value} (l : K.lookup f = some ⟨oc, od, .func (PySem.W.fnOf x qual (defArgs st) (defBody st) (defScope st) .none kV doc pm an cdv ct), osl⟩)
    (c : PySem.W.codeIn K cdv qual = true) (k : PySem.W.keepIn K (.ref f) = true) : Fun K x qual st f (PySem.W.fnOf x qual (defArgs st) (defBody st) (defScope st) .none kV doc pm an cdv ct) := ⟨⟨oc, od, kV, doc, pm, an, cdv, ct, osl, rfl, l, c⟩, k⟩
end
theorem small1000 {n : Nat} (h : n ≤ 1000) : n < sizeLine := Nat.lt_of_le_of_lt h (by decide)
section
variable {X : Cx}
theorem pv (i : Nat) {x : Str} {pos : Pos} (hN : X.N[i]? = some x := by rfl) (hv : Vis X.env.scope x := by first | exact Or.inl rfl | exact Or.inr (Or.inl rfl) | exact Or.inr (Or.inr rfl)) (hd : (x == ("__debug__" : Str)) = false := by decide)
    (hcd : (x == ("__classdict__" : Str)) = false := by decide) : PE X (.Name x pos) (tVar i) := pe_var hN hv hd hcd
end
def Same (H H' : Hp) : Prop := ∀ b o, H b = some o → H' b = some o
theorem Same.refl (H : Hp) : Same H H := fun _ _ h => h
theorem Same.trans {H H1 H2 : Hp} (a : Same H H1) (b : Same H1 H2) : Same H H2 := fun c o h => b c o (a c o h)
theorem Same.free {H H' : Hp} (e : Same H H') {l : Addr} (h : H' l = Option.none) : H l = Option.none := by
  cases q : H l with
  | none => rfl
  | some o =>
    rw [e l o q] at h
    cases h
theorem Same.seq {K : PySem.W.Frag} {H H' : Hp} {a : Addr} {xs : List V} (e : Same H H') (h : SqL K H a xs) : SqL K H' a xs := by
  rcases h with (h | ⟨o, h⟩) | h
  · exact .inl (.inl (e _ _ h))
  · exact .inl (.inr ⟨o, e _ _ h⟩)
  · exact .inr h
section
variable {κ : Type} [DecidableEq κ]
end
end L2
set_option Elab.async false
set_option linter.all false
set_option maxRecDepth 100000
namespace Kx
open PySem L2 PyProof.Rows
def Bd (n : Nat) (i : Int) : Prop := i.natAbs < 2 ^ n
theorem Bd.mono {m n : Nat} {i : Int} (h : Bd m i) (hmn : m ≤ n := by decide) : Bd n i := Nat.lt_of_lt_of_le h (Nat.pow_le_pow_right (by decide) hmn)
theorem Bd.sub {n : Nat} {i j : Int} (h : Bd n i) (h' : Bd n j) : Bd (n + 1) (i - j) := by
  unfold Bd at *
  rw [Nat.pow_succ]
  omega
theorem Bd.neg {n : Nat} {i : Int} (h : Bd n i) : Bd n (-i) := by
  unfold Bd at *
  omega
theorem Bd.log {n : Nat} {i : Int} (h : Bd n i) (hn : n ≤ 9000) (h0 : i ≠ 0) : i.natAbs.log2 < 9000 := by
  have h1 : i.natAbs.log2 < n := (Nat.log2_lt (by omega)).mpr h
  omega
theorem Bd.bits {n : Nat} {i : Int} (h : Bd n i) (hn : n ≤ 9000) : Builtin.Int.intBits i ≤ 2 ^ 20 := by
  unfold Builtin.Int.intBits
  split
  · exact Nat.zero_le _
  · rename_i h0
    have h1 : i.natAbs.log2 < 9000 := Bd.log h hn (by simpa using h0)
    omega
section
variable {X : Cx} {e : Expr} {es : List Expr} {t : TA} {x : Str} {p pos : Pos}
def CMulB (i j : Int) : Prop := (Bd 4000 i ∧ Bd 4000 j) ∨ (-(2 ^ 64) < i ∧ i < 2 ^ 64) ∨ (-(2 ^ 64) < j ∧ j < 2 ^ 64)
theorem CMulB.ok {i j : Int} (h : CMulB i j) : IntMulOk i j := by
  rcases h with ⟨h1, h2⟩ | h
  · exact .of_bits (h1.bits (by decide)) (h2.bits (by decide))
  · exact CMul.ok h
def CDivB (i j : Int) : Prop := j ≠ 0 ∧ Bd 8000 j
theorem op_mulB : OpR X (binaryOp .Mult) (rI CMulB fun i j => .int (i * j)) := opI fun _ _ _ _ _ _ _ hc q => mul_int q hc.ok
theorem op_fdivB : OpR X (binaryOp .FloorDiv) (rI CDivB fun i j => .int (i.fdiv j)) := opI fun _ _ _ _ _ _ _ hc q => floordiv_int hc.1 q (.inl (PyProof.noPylong_of_log2 (hc.2.log (by decide) hc.1)))
def CDivP (i j : Int) : Prop := 0 < j ∧ Bd 8000 j
theorem op_fdivP : OpR X (binaryOp .FloorDiv) (rI CDivP fun i j => .int (i / j)) := opI fun i j _ _ _ _ _ hc q => by
  have h1 : (0 : Int) < j := hc.1
  exact floordiv_int (by omega) (by rw [Int.fdiv_eq_ediv_of_nonneg i (by omega)]; exact q) (.inl (PyProof.noPylong_of_log2 (hc.2.log (by decide) (by omega))))
def isiB : V → String → Option Bool
  | .int _, "int" => some true | .int _, "bool" => some false | .int _, "str" => some false | .int _, "tuple" => some false
  | .bl _, "int" => some true | .bl _, "bool" => some true | .bl _, "str" => some false | .bl _, "tuple" => some false
  | .str _, "str" => some true | .str _, "int" => some false | .str _, "bool" => some false | .str _, "tuple" => some false
  | _, _ => none
theorem call_isi : CallR X (.builtin "isinstance") (fun xs H Q => ∃ y T b, xs = [y, .ty T] ∧ isiB y T = some b ∧ Q (.bl b) H) := by
  intro pins s σ H xs us Q I r h
  obtain ⟨y, T, b, rfl, hb, q⟩ := h
  obtain ⟨u1, u2, rfl, r1, r2⟩ : ∃ u1 u2, us = [u1, u2] ∧ RelV y u1 ∧ RelV (.ty T) u2 := by
    cases r with | cons a r => cases r with | cons b r => cases r with | nil => exact ⟨_, _, rfl, a, b⟩
  cases r2
  have f0 : EP X pins σ Q (.bool b) s := ⟨.bl b, H, I, rfl, q⟩
  have f1 : EP X pins σ Q (.bool b) { s with toks := s.toks + 1 } := ⟨.bl b, H, I.tok _, rfl, q⟩
  unfold isiB at hb
  split at hb <;> first
    | (cases hb; cases r1; first | exact IsiPair.bool_bool f0 | exact IsiPair.bool_int f0 | exact IsiPair.bool_str f1 | exact IsiPair.bool_tuple f1)
    | (cases hb; obtain ⟨k, rfl⟩ := r1; first | exact IsiPair.int_int f0 | exact IsiPair.int_bool f1 | exact IsiPair.int_str f1 | exact IsiPair.int_tuple f1 | exact IsiPair.str_str f0 | exact IsiPair.str_int f1 | exact IsiPair.str_bool f1 | exact IsiPair.str_tuple f1)
    | (cases hb)
theorem call_isiTT : CallR X (.builtin "isinstance") (fun xs H Q => ∃ a ys, xs = [.ref a, .ty "tuple"] ∧ SqT X.K H a ys ∧ Q (.bl true) H) := by
  intro pins s σ H xs us Q I r h
  obtain ⟨a, ys, rfl, ha, q⟩ := h
  obtain ⟨u1, u2, rfl, r1, r2⟩ : ∃ u1 u2, us = [u1, u2] ∧ RelV (.ref a) u1 ∧ RelV (.ty "tuple") u2 := by
    cases r with | cons a r => cases r with | cons b r => cases r with | nil => exact ⟨_, _, rfl, a, b⟩
  cases r1
  cases r2
  have f0 : EP X pins σ Q (.bool true) s := ⟨.bl true, H, I, rfl, q⟩
  obtain ⟨its, _, ht, _⟩ := I.tuple ha
  exact PyProof.Rows.call_isinstance_yes (Tx := "tuple") ht.typeIs PySem.F.isi_meta_tuple PySem.F.isi_self_tuple f0
def isStar : Expr → Bool
  | .Starred _ _ => true
  | _ => false
theorem star_cons {e : Expr} {es : List Expr} {env : Env} (h : isStar e = false) : starEach (e :: es) env = (false, eval e env) :: starEach es env := by
  cases e <;> first | rfl | cases h
theorem star_any : ∀ {es : List Expr} {env : Env} {pos : Pos}, es.any isStar = false → (backTo pos (starEach es env)).any (·.1) = false
  | [], _, _, _ => rfl
  | e :: es, env, pos, h => by
    have h2 : isStar e = false ∧ es.any isStar = false := by simpa using h
    rw [star_cons h2.1]
    have q := star_any (env := env) (pos := pos) h2.2
    show (((false : Bool)) || (backTo pos (starEach es env)).any (·.1)) = false
    rw [q]
    rfl
theorem pa_c {te : TE} (ha : PE X e te) (hr : PA X es t) (hs : isStar e = false := by rfl) : PA X (e :: es) (tCons te t) := pa_cons ha hr (star_cons hs)
theorem pe_cB {id : String} {r : List V → Hp → VK → Prop} (hc : CallR X (.builtin id) r) (hg : Gl X x) (hm : X.mg x = none) (hv : bootBuiltins x = some (.builtin id)) (ha : PA X (e :: es) t) (hn : x ≠ "__name__" := by decide) (hdb : (x == ("__debug__" : Str)) = false := by decide)
    (hs : (e :: es).any isStar = false := by rfl) : PE X (.Call (.Name x p) (e :: es) [] pos) (tCB r t) :=
  have h2 : isStar e = false ∧ es.any isStar = false := by simpa using hs
  pe_callB hc hg hm hv ha hn hdb (star_cons h2.1) (star_any h2.2)
theorem pe_cT {T : String} {r : List V → Hp → VK → Prop} (hc : CallR X (.type T) r) (hg : Gl X x) (hm : X.mg x = none) (hv : bootBuiltins x = some (.type T)) (ha : PA X (e :: es) t) (hn : x ≠ "__name__" := by decide) (hdb : (x == ("__debug__" : Str)) = false := by decide)
    (hs : (e :: es).any isStar = false := by rfl) : PE X (.Call (.Name x p) (e :: es) [] pos) (tCB r t) :=
  have h2 : isStar e = false ∧ es.any isStar = false := by simpa using hs
  pe_callTy hc hg hm hv ha hn hdb (star_cons h2.1) (star_any h2.2)
def plainTest : Expr → Bool
  | .BoolOp _ _ _ => false
  | .UnaryOp _ _ _ => false
  | .Compare _ _ _ _ => false
  | .IfExp _ _ _ _ => false
  | _ => true
theorem plain_test {e : Expr} {env : Env} (h : plainTest e = true) : ∀ whole, isTrue e env whole = (do let v ← whole; standAt e.pos; holding [v] (truthy v)) := by
  intro whole
  cases e <;> first | rfl | cases h
theorem pt_v {t : TE} (h : PE X e t) (he : plainTest e = true := by rfl) : PT X e (tB t) := pt_val h (plain_test he)
theorem pt_tr {t : TE} (h : PE X e t) (he : plainTest e = true := by rfl) : PT X e (fun σ H Q => t σ H fun x H' => ∃ k, TruV X.K x H' k ∧ Q k H') := pt_truth h (plain_test he)
structure Cal (P : Program) (w : World) (K : PySem.W.Frag) (mg : Str → Option Value) (base : Heap) (CX : CXT) (k : Nat) (x : Str) (ps : List Str) (sp : Sp) : Prop where
  ex : ∃ (f : Addr) (fd : FuncData), FnOk P w K mg base CX k f fd ps sp ∧ Binds K fd ps [] ∧ PySem.W.keepIn K (.ref f) = true ∧ mg x = some (.ref f)
theorem pe_callC {CX : CXT} {j k : Nat} {ps : List Str} {sp : Sp} {E : XK} (C : Cal X.prog X.w X.K X.mg X.base CX j x ps sp) (hr : Room k X.A) (hx : Passes CX X E) (ha : PA X (e :: es) t) (hg : Gl X x := by rfl) (hj : j ≤ k := by decide)
    (hdb : (x == ("__debug__" : Str)) = false := by decide) (hs : (e :: es).any isStar = false := by rfl) :
    PE X (.Call (.Name x p) (e :: es) [] pos) (tCall sp [] E t) := by
  obtain ⟨f, fd, F, b, kp, m⟩ := C.ex
  have h2 : isStar e = false ∧ es.any isStar = false := by simpa using hs
  exact pe_call F (hr.mono hj) hg m kp b .nil hx ha hdb (star_cons h2.1) (star_any h2.2)
theorem Fun.cal {P : Program} {w : World} {K : PySem.W.Frag} {mg : Str → Option Value} {base : Heap} {CX : CXT} {k : Nat} {y qual : Str} {st : Stmt} {f : Addr} {fd : FuncData} {ps : List Str} {sp : Sp} (F : Fun K y qual st f fd) (h : FnOk P w K mg base CX k f fd ps sp) (b : Binds K fd ps []) (m : mg x = some (.ref f)) :
    Cal P w K mg base CX k x ps sp := ⟨f, fd, h, b, F.kp, m⟩
end
theorem same_new {H : Hp} {p : Addr} (h : H p = none) (o : HO) : Same H (upd H p o) := fun b u q => by rw [upd_ne (ne_of_none q h)]; exact q
theorem Same.tup {K : PySem.W.Frag} {H H' : Hp} {a : Addr} {xs : List V} (e : Same H H') (h : SqT K H a xs) : SqT K H' a xs := by
  rcases h with (h | ⟨o, h⟩) | h
  · exact .inl (.inl (e _ _ h))
  · exact .inl (.inr ⟨o, e _ _ h⟩)
  · exact .inr h
def But (r : Addr) (H H' : Hp) : Prop := ∀ b o, b ≠ r → H b = some o → H' b = some o
theorem But.refl (r : Addr) (H : Hp) : But r H H := fun _ _ _ h => h
theorem But.trans {r : Addr} {H H1 H2 : Hp} (a : But r H H1) (b : But r H1 H2) : But r H H2 := fun c o n h => b c o n (a c o n h)
theorem But.same {r : Addr} {H H' : Hp} (h : Same H H') : But r H H' := fun b o _ q => h b o q
theorem But.upd (r : Addr) (H : Hp) (o : HO) : But r H (upd H r o) := fun b u n q => by rw [upd_ne n]; exact q
theorem But.new {r p : Addr} {H : Hp} (h : H p = none) (o : HO) : But r H (L2.upd H p o) := But.same (same_new h o)
theorem But.at {r b : Addr} {H H' : Hp} {o : HO} (g : But r H H') (h : H b = some o) (n : b ≠ r) : H' b = some o := g b o n h
def Row (H : Hp) (r : Addr) (N : Int) : Prop := ∃ a n : Int, H r = some (.lst [.int a, .int n]) ∧ 0 ≤ n ∧ n ≤ N
theorem Row.mono {H : Hp} {r : Addr} {M N : Int} (h : Row H r M) (l : M ≤ N) : Row H r N := let ⟨a, n, e, h0, h1⟩ := h; ⟨a, n, e, h0, by omega⟩
theorem Row.new {H : Hp} {r p : Addr} {N : Int} (h : Row H r N) (hp : H p = none) (o : HO) : Row (upd H p o) r N := let ⟨a, n, e, h0, h1⟩ := h; ⟨a, n, same_new hp o _ _ e, h0, h1⟩
theorem Row.same {H H' : Hp} {r : Addr} {N : Int} (h : Row H r N) (g : Same H H') : Row H' r N := let ⟨a, n, e, h0, h1⟩ := h; ⟨a, n, g _ _ e, h0, h1⟩
end Kx
set_option Elab.async false
set_option linter.all false
set_option maxRecDepth 100000
namespace Kx
open PySem PySem.Spec L2 PyProof.Rows PySem.W
structure FlyOk (P : Program) (w : World) (outer : List Env) (H H' : Hp) (s : Shared) (s' : Shared) (a C t : Addr) (B : Heap) : Prop where
  os : s'.os = s.os
  bare : AllBare s'.gens
  hok : HOk P w H' B
  fly : Heap.FlyingW B outer a (.ref C) (.ref t) s'.heap
  un : Un (frs outer) [] H H' s.heap s'.heap
  keep : ∀ b o, s.heap.get? b = some o → H b = none → b ∉ frs outer → B.get? b = some o
  there : ∀ b o, s.heap.get? b = some o → b ∉ frs outer → ∃ o', B.get? b = some o'
def CXE (P : Program) (w : World) : CXT := fun outer H s E e s' => ∃ (a C t : Addr) (B : Heap) (H' : Hp), e = .ref a ∧ E (.ref C) none H' ∧ H' a = none ∧ FlyOk P w outer H H' s s' a C t B
theorem FlyOk.un_on {P : Program} {w : World} {outer : List Env} {H H' : Hp} {s s' : Shared} {a C t : Addr} {B h6 : Heap} (x : FlyOk P w outer H H' s s' a C t B) (k : B.StaysIn h6) (u : s'.heap.UpToSlots h6) : Un (frs outer) [] H H' s.heap h6 where
  keep := fun b o q n hb _ => k b o (x.keep b o q n hb)
  slot := fun b o q n hb hx => by
    obtain ⟨sl, e1⟩ := x.un.slot b o q n hb hx
    obtain ⟨_, o2, e2, d2⟩ := x.fly.2.2.1.mem (b := b) hb
    rw [e1] at e2
    obtain ⟨sl', e3⟩ := u b _ e1 (by cases e2; exact d2)
    exact ⟨sl', e3⟩
  free := x.un.free
  there := fun b o q hx => by
    by_cases hb : b ∈ frs outer
    · obtain ⟨_, o2, e2, d2⟩ := x.fly.2.2.1.mem (b := b) hb
      obtain ⟨sl', e3⟩ := u b _ e2 d2
      exact ⟨_, e3⟩
    · obtain ⟨o', e1⟩ := x.there b o q hb
      exact ⟨o', k b o' e1⟩
  tups := x.un.tups
  frzs := x.un.frzs
  tbls := x.un.tbls
theorem obj_there {P : Program} {w : World} {H : Hp} {h : Heap} {a : Addr} {o : HO} (x : ObjOk P w H h a o) : ∃ u, h.get? a = some u := by
  cases o with
  | lst xs => exact ⟨_, x.2.choose_spec.choose_spec.2⟩
  | tup xs =>
    obtain ⟨_, its, _, o, e, _⟩ := x
    exact ⟨o, e⟩
  | dK kvs =>
    obtain ⟨_, _, _, _, o, _, _, e, _⟩ := x
    exact ⟨o, e⟩
  | dT kvs =>
    obtain ⟨_, _, _, _, o, _, _, e, _⟩ := x
    exact ⟨o, e⟩
  | set S n =>
    obtain ⟨o, _, _, _, e, _⟩ := x
    exact ⟨o, e⟩
  | ins C dx fs => exact ⟨_, x.2.2.2.1⟩
  | own y => exact x
  | xd fs =>
    obtain ⟨_, ⟨o, _, _, e, _⟩, _⟩ := x
    exact ⟨o, e⟩
  | rng lo hi =>
    obtain ⟨_, _, _, e⟩ := x
    exact ⟨_, e⟩
  | frz ob u => exact ⟨_, x.1⟩
  | tbl ps => exact ⟨_, x⟩
  | met f y => exact ⟨_, x⟩
  | ext φ => exact x.2.1
section
variable {P : Program} {w : World} {K : PySem.W.Frag} {mg : Str → Option Value} {base : Heap} {N : List Str} {qual : Str} {scope : Scope} {f : Addr} {cdv : Value} {A : Around} {outer : List Env} {s : Shared} {H : Hp} {E : XK}
theorem raise_out {pins : List (Addr × Obj)} {σ : L2.St} {H1 : Hp} {s1 : Shared} {h' : Heap} {e C : Addr} {vs : List Value} (hkind : scope.kind = .function) (I : Inv (cxOf (CXE P w) P w K mg base N qual scope f cdv A outer s H E) pins σ H1 s1)
    (hx : Heap.MadeExcOf s1.heap h' e (.ref C) vs) (q : E (.ref C) none H1) : (cxOf (CXE P w) P w K mg base N qual scope f cdv A outer s H E).xe (.ref e) { s1 with heap := h' } := by
  let env := envOfC qual scope s.heap.objs.size f cdv
  have hl : s1.heap.FunFrames base (env :: outer) := I.stack
  have hin : ∀ v ∈ (env :: outer), ∀ b, v.frame = some b → b ∈ (env :: outer).filterMap (·.frame) := fun v hv b hb => List.mem_filterMap.mpr ⟨v, hv, hb⟩
  let B := hideAll s1.heap ((env :: outer).filterMap (·.frame))
  have gB : ∀ b o, s1.heap.get? b = some o → b ∉ (env :: outer).filterMap (·.frame) → B.get? b = some o := fun b o q n => hideAll_get _ q n
  have ofB : ∀ b o, B.get? b = some o → s1.heap.get? b = some o := fun b o q => of_hideAll _ q
  show wpAny (model P w) (A.deeper env) (leaving env (.ref e)) _ _ _
  refine wpAny_leaves_madeW (base := B) (h := s1.heap) (L := s.heap.objs.size) I.ok.frames rfl ofB (funFrames_hide hl hin) hx fun h2 t x1 x2 x3 x4 => ?_
  have neL : ∀ b o, s.heap.get? b = some o → b ≠ s.heap.objs.size := fun b o q => Nat.ne_of_lt (Heap.lt_size q)
  have memE : ∀ b, b ∈ (env :: outer).filterMap (·.frame) → b = s.heap.objs.size ∨ b ∈ frs outer := fun b hb => by
    have z : b ∈ s.heap.objs.size :: outer.filterMap (·.frame) := hb
    exact List.mem_cons.mp z
  have trk : ∀ b o, H1 b = some o → b ∉ (env :: outer).filterMap (·.frame) := fun b o q hb => by
    have z : H1 b = none := I.stkFree b hb
    rw [z] at q
    cases q
  have u1 : Un (frs outer) [] H H1 s.heap s1.heap := I.base
  have e1 : H1 e = none := by
    cases q1 : H1 e with
    | none => rfl
    | some o =>
      obtain ⟨u, z⟩ := obj_there (I.hok e o q1)
      have z' : s1.heap.get? e = some u := z
      rw [hx.new] at z'
      cases z'
  refine ⟨e, C, t, B, H1, rfl, q, e1, ⟨I.os, I.bare, ?_, x1, ?_, ?_, ?_⟩⟩
  · exact fun b o q1 => (I.hok b o q1).stay (fun c u hc z => gB c u z (hc.elim (fun y => trk c o (y ▸ q1)) fun y => trk c _ y)) (fun _ y => y) fun _ _ y => y
  · refine ⟨fun b o q n hb _ => ?_, fun b o q n hb hx' => ?_, u1.free, fun b o q _ => ?_, u1.tups, u1.frzs, u1.tbls⟩
    · exact x1.1 b o (gB b o (u1.keep b o q n hb (by simp)) fun z => (memE b z).elim (neL b o q) hb)
    · obtain ⟨sl, e2⟩ := u1.slot b o q n hb hx'
      obtain ⟨_, o2, e3, d3⟩ := hl.mem (b := b) (List.mem_cons_of_mem _ hb)
      rw [e2] at e3
      obtain ⟨sl', e4⟩ := x4 b _ (hx.keeps _ _ e2) (by cases e3; exact d3)
      exact ⟨sl', e4⟩
    · obtain ⟨o', e2⟩ := u1.there b o q (by simp)
      by_cases hb : b ∈ frs outer
      · obtain ⟨_, o2, e3, d3⟩ := hl.mem (b := b) (List.mem_cons_of_mem _ hb)
        obtain ⟨sl', e4⟩ := x4 b _ (hx.keeps _ _ e3) d3
        exact ⟨_, e4⟩
      · exact ⟨o', x1.1 b o' (gB b o' e2 fun z => (memE b z).elim (neL b o q) hb)⟩
  · exact fun b o q n hb => gB b o (u1.keep b o q n hb (by simp)) fun z => (memE b z).elim (neL b o q) hb
  · exact fun b o q hb => by
      obtain ⟨o', e2⟩ := u1.there b o q (by simp)
      exact ⟨o', gB b o' e2 fun z => (memE b z).elim (neL b o q) hb⟩
theorem pass_on : Passes (CXE P w) (cxOf (CXE P w) P w K mg base N qual scope f cdv A outer s H E) E := by
  intro pins σ H1 s1 e s' I hc
  obtain ⟨a, C, t, B, H', rfl, q, ha, F⟩ := hc
  let env := envOfC qual scope s.heap.objs.size f cdv
  have neL : ∀ b o, s.heap.get? b = some o → b ≠ s.heap.objs.size := fun b o q => Nat.ne_of_lt (Heap.lt_size q)
  have memE : ∀ b, b ∈ frs (env :: outer) → b = s.heap.objs.size ∨ b ∈ frs outer := fun b hb => by
    have z : b ∈ s.heap.objs.size :: outer.filterMap (·.frame) := hb
    exact List.mem_cons.mp z
  have u1 : Un (frs outer) [] H H1 s.heap s1.heap := I.base
  have out : ∀ b o, s.heap.get? b = some o → b ∉ frs outer → b ∉ frs (env :: outer) := fun b o q hb z => (memE b z).elim (neL b o q) hb
  show wpAny (model P w) (A.deeper env) (leaving env (.ref a)) _ _ _
  refine wpAny_leaves_onW (base := B) (L := s.heap.objs.size) I.ok.frames rfl F.fly fun h2 x1 x2 => ?_
  have u2 := F.un_on x1.1 x2
  refine ⟨a, C, t, B, H', rfl, q, ha, ⟨F.os.trans I.os, F.bare, F.hok, x1, ?_, ?_, ?_⟩⟩
  · refine ⟨fun b o q n hb hx => ?_, fun b o q n hb hx => ?_, fun b o q n hx => ?_, fun b o q hx => ?_, fun b xs q => u2.tups b xs (u1.tups b xs q), fun b o xs q => u2.frzs b o xs (u1.frzs b o xs q), fun b ps q => ?_⟩
    · exact u2.keep b o (u1.keep b o q n hb hx) (u1.free b o q n hx) (out b o q hb) hx
    · obtain ⟨sl, e1⟩ := u1.slot b o q n hb hx
      obtain ⟨sl', e2⟩ := u2.slot b _ e1 (u1.free b o q n hx) (List.mem_cons_of_mem _ hb) hx
      exact ⟨sl', e2⟩
    · obtain ⟨o', e1⟩ := u1.there b o q hx
      exact u2.free b o' e1 (u1.free b o q n hx) hx
    · obtain ⟨o', e1⟩ := u1.there b o q hx
      exact u2.there b o' e1 hx
    · obtain ⟨m1, e1⟩ := u1.tbls b ps q
      obtain ⟨m2, e2⟩ := u2.tbls b _ e1
      exact ⟨m1 ++ m2, by rw [e2, Array.append_assoc]⟩
  · exact fun b o q n hb => F.keep b o (u1.keep b o q n hb (by simp)) (u1.free b o q n (by simp)) (out b o q hb)
  · exact fun b o q hb => by
      obtain ⟨o', e1⟩ := u1.there b o q (by simp)
      exact F.there b o' e1 (out b o q hb)
end
structure ExcK (K : PySem.W.Frag) (x : Str) (C : Addr) (newId : String) (bmB : List Value) : Prop where
  ns : nsIn K mainGlobals x = some (some (.ref C))
  exc : excIn K C bmB newId = true
theorem ExcK.own {K : PySem.W.Frag} {x : Str} {C : Addr} {newId : String} {bmB : List Value} {h : Heap} {mg : Str → Option Value} (T : ExcK K x C newId bmB) (X : K.In h) (G : h.Ns mainGlobals mg) : OwnCls x C bmB newId mg h := by
  have q := T.exc
  refine ⟨mg_of X G T.ns, ?_⟩
  unfold excIn at q
  split at q
  case h_2 => cases q
  rename_i dd cd sl ho
  split at q
  case h_2 => cases q
  rename_i C' bm k0 k1 k2 k3 n k5 hm hs
  rw [Bool.and_eq_true, Bool.and_eq_true, Bool.and_eq_true, Bool.and_eq_true, Bool.and_eq_true] at q
  obtain ⟨⟨⟨⟨⟨q1, q2⟩, q3⟩, q4⟩, q5⟩, q6⟩ := q
  have q1 := beq_iff_eq.mp q1
  have q2 := beq_iff_eq.mp q2
  have q6 := beq_iff_eq.mp q6
  subst q1 q2
  obtain ⟨nm, bs, mro, ns, qn, hd, sn, sub, ab, col, del⟩ := cd
  have q3 : del = false := by simpa using q3
  have hm : mro = Value.ref C' :: bm := hm
  subst q3 hm
  have es : sl = #[k0, k1, k2, k3, some (.builtin n), k5] := by
    cases sl
    exact congrArg Array.mk hs
  subst es
  exact ⟨bm, ns, nm, qn, bs, hd, sn, sub, ab, col, dd, k0, k1, k2, k3, k5, _, X _ _ ho, .of_isNs (isNs_of_in X q5), nsMap_none_of_in X q5 q6, tail_of_in X q4⟩
section
variable {P : Program} {w : World} {K : PySem.W.Frag} {mg : Str → Option Value} {base : Heap} {N : List Str} {qual : Str} {scope : Scope} {f : Addr} {cdv : Value} {A : Around} {outer : List Env} {s : Shared} {H : Hp} {E : XK}
def tRaise (E : XK) (C : Addr) (t : TA) : TS := fun _ σ H => t σ H fun vs H1 => vs.length ≤ 1000 ∧ E (.ref C) none H1
theorem ps_raise {x : Str} {C : Addr} {e : Expr} {es : List Expr} {np cpos pos : Pos} {t : TA} {B newId initId : String} {bmB : List Value} (T : ExcK K x C newId bmB) (FB : ExcBaseFacts B newId initId bmB) (hG : Gl (cxOf (CXE P w) P w K mg base N qual scope f cdv A outer s H E) x)
    (ha : PA (cxOf (CXE P w) P w K mg base N qual scope f cdv A outer s H E) (e :: es) t) (hkind : scope.kind = .function) (hs : (e :: es).any isStar = false) (hd : (x == ("__debug__" : Str)) = false) :
    PS (cxOf (CXE P w) P w K mg base N qual scope f cdv A outer s H E) (.Raise (some (.Call (.Name x np) (e :: es) [] cpos)) none pos) (tRaise E C t) := by
  intro pins s1 σ H1 D I h
  have O := T.own I.ok.mod.kin I.ok.mod.glob
  have h2 : isStar e = false ∧ es.any isStar = false := by simpa using hs
  obtain ⟨tl, Nn, nm, q, bs, hdct, sn, sub, ab, col, dd, k0, k1, k2, k3, k5, mN, hC, hN, hni, Tl⟩ := O.obj
  refine wpAny_Raise_call_subT (C := C) (nm := nm) (q := q) (N := Nn) (bs := bs) (bm := tl) (hdct := hdct) (sn := sn) (sub := sub) (ab := ab) (col := col) (dd := dd) (k0 := k0) (k1 := k1) (k2 := k2) (k3 := k3) (k5 := k5)
    FB (mN := mN) (Tl.hasType FB.hasBase) (I.ok.hd rfl) (star_any hs) hni (ld_glob I hG O.bound ⟨rfl, ?_⟩ hd)
  have hsp := ha cpos pins s1 σ H1 _ I h
  rw [star_cons h2.1] at hsp ⊢
  refine Calls.evalArgs_plain (wpAny_mono hsp (fun vs s2 hq => ?_) fun _ _ y => y)
  obtain ⟨ws, H2, I2, r, z, qE⟩ := hq
  refine ⟨rfl, ?_, I2.bk _ _ hC, hN.keeps I2.bk, Tl.keeps I2.bk, fun h' e' hm => raise_out hkind I2 hm qE⟩
  show vs.length ≤ sizeLine
  rw [← r.length]
  exact Nat.le_of_lt (small1000 z)
end
def excH (a C : Addr) : HO := .ext fun h => ∃ o vs, h.get? a = some o ∧ o.cls = .ref C ∧ o.data = .fields vs
def PB (X : Cx) (body : List Stmt) (t : XK → TS) : Prop :=
  ∀ (pins : List (Addr × Obj)) (s : Shared) (σ : L2.St) (H : Hp) (D : Ends) (Eh : XK), Inv X pins σ H s → t Eh D σ H →
    wpAny (model X.prog X.w) X.A (execs body X.env) (SP X pins D) (fun e s' => ∃ H0 s0, Inv X pins σ H0 s0 ∧ CXE X.prog X.w X.stack H0 s0 Eh e s') s
section
variable {X : Cx}
theorem call_try {pins : List (Addr × Obj)} {s : Shared} {σ : L2.St} {H : Hp} {Q : VK} {Eh : XK} {j k : Nat} {x : Str} {p pos : Pos} {e : Expr} {es : List Expr} {t : TA} {ps : List Str} {sp : Sp} (hne : ∀ e s, X.xe e s → False)
    (C : Cal X.prog X.w X.K X.mg X.base (CXE X.prog X.w) j x ps sp) (hr : Room k X.A) (ha : PA X (e :: es) t) (hg : Gl X x) (hj : j ≤ k) (hdb : (x == ("__debug__" : Str)) = false) (hs : (e :: es).any isStar = false)
    (I : Inv X pins σ H s) (h : tCall sp [] Eh t σ H Q) :
    wpAny (model X.prog X.w) X.A (eval (.Call (.Name x p) (e :: es) [] pos) X.env) (EP X pins σ Q) (fun e s' => ∃ H0 s0, Inv X pins σ H0 s0 ∧ CXE X.prog X.w X.stack H0 s0 Eh e s') s := by
  obtain ⟨f, fd, F, b, kp, m⟩ := C.ex
  have h2 : isStar e = false ∧ es.any isStar = false := by simpa using hs
  refine wpAny_Call_Name_kw (ld_glob I hg m ?_ hdb)
  refine PySem.W.callWith_K (h₀ := X.base) I.ok.mod.kin kp (wpAny_mono (ha pos pins s σ H _ I h) (fun us s1 hq => ?_) fun e1 s1 z => (hne e1 s1 z).elim) (star_cons h2.1) (star_any h2.2)
  obtain ⟨vs, H1, I1, r, q⟩ := hq
  have q : sp (vs ++ []) H1 Q Eh := q
  rw [List.append_nil] at q
  have hl : (us ++ []).length = ps.length := by rw [List.append_nil, ← r.length]; exact F.len _ _ _ _ q
  have bb := b s1 us I1.kIn hl
  rw [List.append_nil] at bb
  refine ⟨I1.kIn, wpAny_call (codeAny_mono (F.run X.A X.stack s1 H1 ⟨us, []⟩ us vs Q Eh (hr.mono hj) I1.env0 bb r q) fun res s' hres => ?_)⟩
  cases res with
  | error e1 => exact ⟨H1, s1, I1, hres⟩
  | ok fl =>
    cases fl with
    | ret u => exact I1.after hres
    | next => exact False.elim hres
    | brk => exact False.elim hres
    | cont => exact False.elim hres
variable {j k : Nat} {x : Str} {p pos pos' : Pos} {e : Expr} {es : List Expr} {t : TA} {ps : List Str} {sp : Sp}
theorem pb_set {i : Nat} {y : Str} {py : Pos} (hne : ∀ e s, X.xe e s → False) (C : Cal X.prog X.w X.K X.mg X.base (CXE X.prog X.w) j x ps sp) (hr : Room k X.A) (ha : PA X (e :: es) t) (hg : Gl X x) (hj : j ≤ k) (hdb : (x == ("__debug__" : Str)) = false) (hs : (e :: es).any isStar = false)
    (hN : X.N.Nodup) (hi : X.N[i]? = some y) (hx : Loc X.env.scope y) (hf : X.fn y = true) :
    PB X [.Assign [.Name y py] (.Call (.Name x p) (e :: es) [] pos) pos'] (fun Eh => tAsg (tCall sp [] Eh t) (gName i)) := by
  intro pins s σ H D Eh I h
  have h : tCall sp [] Eh t σ H fun v H1 => D.nx (σ.set i (some v)) H1 := h
  refine wpAny_execs_cons ?_
  refine wpAny_Assign_Name (wpAny_mono (call_try hne C hr ha hg hj hdb hs I h) (fun u s1 hq => ?_) fun _ _ z => z) rfl
  obtain ⟨v, H1, I1, r, q⟩ := hq
  exact store_ok I1 hN hi hx r (fun s2 I2 => wpAny_execs_nil ⟨_, H1, I2, q⟩) (.inl hf)
theorem pb_if {c : Expr} {a b : List Stmt} {tc : TT} {ta tb : XK → TS} (hne : ∀ e s, X.xe e s → False) (hc : PT X c tc) (ha : PB X a ta) (hb : PB X b tb) : PB X [.If c a b pos] (fun Eh D σ H => tc σ H fun k H1 => if k = true then ta Eh D σ H1 else tb Eh D σ H1) := by
  intro pins s σ H D Eh I h
  refine wpAny_execs_cons (wpAny_If (wpAny_mono (hc pins s σ H _ I h) (fun d s1 hq => ?_) fun e1 s1 z => (hne e1 s1 z).elim))
  obtain ⟨H1, I1, q1⟩ := hq
  have fin : ∀ f s2, SP X pins D f s2 → (match f with | .next => wpAny (model X.prog X.w) X.A (execs [] X.env) (SP X pins D) (fun e s' => ∃ H0 s0, Inv X pins σ H0 s0 ∧ CXE X.prog X.w X.stack H0 s0 Eh e s') s2 | f => SP X pins D f s2) := fun f s2 q => by
    cases f with
    | next => exact wpAny_execs_nil q
    | ret v => exact q
    | brk => exact q
    | cont => exact q
  cases d with
  | true => exact wpAny_mono (ha pins s1 σ H1 D Eh I1 q1) fin fun _ _ z => z
  | false => exact wpAny_mono (hb pins s1 σ H1 D Eh I1 q1) fin fun _ _ z => z
abbrev inH (X : Cx) (a : Addr) : Cx := { X with A := X.A.mark (some (.ref a)), calm := false }
theorem inv_inH {pins : List (Addr × Obj)} {σ : L2.St} {H : Hp} {s : Shared} (I : Inv X pins σ H s) (a : Addr) : Inv (inH X a) pins σ H s :=
  ⟨⟨I.ok.mod, I.ok.kind, I.ok.glob, I.ok.blt, I.ok.above, I.ok.inj, I.ok.has, I.ok.cab, (fun z => by cases z), I.ok.frames, I.ok.stk, I.ok.exf, I.ok.bs, I.ok.bsz, I.ok.noex, I.ok.exfs, I.ok.funs, I.ok.frf⟩, I.os, I.bare, I.base, I.loc, I.cell, I.free, I.freeC, I.pin, I.hok, I.len⟩
theorem inv_outH {pins : List (Addr × Obj)} {σ : L2.St} {H : Hp} {s : Shared} {a : Addr} (ok : X.Ok) (I : Inv (inH X a) pins σ H s) : Inv X pins σ H s :=
  ⟨ok, I.os, I.bare, I.base, I.loc, I.cell, I.free, I.freeC, I.pin, I.hok, I.len⟩
theorem name_goes {pins : List (Addr × Obj)} {σ : L2.St} {H : Hp} {s : Shared} {i : Nat} {n : Str} {pos : Pos} {M : Model} {A : Around} {E : Value → Shared → Prop} {Q : Unit → Shared → Prop} (I : Inv X pins σ H s) (hN : X.N.Nodup) (hi : X.N[i]? = some n) (hx : X.env.scope.names.lookup n = some .local)
    (h : ∀ s', Inv X pins (σ.set i none) H s' → Q () s') : wpAny M A (do bindName X.env n .none; unbindBehindTheSuite X.env n pos) Q E s := by
  obtain ⟨m, hn, hl⟩ := id I.loc
  obtain ⟨oL, _, _, hoL, _⟩ := id hn
  refine wpAny_nameGoes_keeps hx hn (by rw [I.ok.kind]; rfl) fun h' v hn' hs => ?_
  have neL : ∀ b o, X.s_0.heap.get? b = some o → b ≠ X.env.locals := fun b o e => Nat.ne_of_lt (Nat.lt_of_lt_of_le (Heap.lt_size e) I.ok.above)
  refine h _ ⟨I.ok, I.os, I.bare, ⟨fun b o e n hb hx => ?_, fun b o e n hb hx => ?_, I.base.free, fun b o e hx => ?_, I.base.tups, I.base.frzs, I.base.tbls⟩, ⟨_, hn', fun j y v' e1 e2 e3 => ?_⟩, fun y c e => ?_, I.free, I.freeC, fun p hp => ?_, fun b ob e => ?_, by simpa using I.len⟩
  · exact (hs.2 b (neL b o e)).trans (I.base.keep b o e n hb hx)
  · obtain ⟨sl, q⟩ := I.base.slot b o e n hb hx
    exact ⟨sl, (hs.2 b (neL b o e)).trans q⟩
  · obtain ⟨o', q⟩ := I.base.there b o e hx
    exact ⟨o', (hs.2 b (neL b o e)).trans q⟩
  · by_cases hj : j = i
    · subst hj
      rw [List.getElem?_set] at e2
      split at e2
      · split at e2 <;> cases e2
      · exact absurd rfl ‹_›
    · rw [List.getElem?_set_ne (Ne.symm hj)] at e2
      obtain ⟨u', r', q⟩ := hl j y v' e1 e2 e3
      refine ⟨u', r', ?_⟩
      rcases q with ⟨k, e⟩ | ⟨k, c, e, z⟩
      · refine .inl ⟨k, ?_⟩
        have : y ≠ n := fun e => hj (nodup_ix hN e1 (e ▸ hi))
        simp [this, e]
      · exact .inr ⟨k, c, e, z.sameBut hs (I.cne y c e)⟩
  · obtain ⟨w', z⟩ := I.cell y c e
    exact ⟨w', z.sameBut hs (I.cne y c e)⟩
  · obtain ⟨e, n, ne, nf, d⟩ := I.pin p hp
    exact ⟨(hs.2 p.1 ne).trans e, n, ne, nf, d⟩
  · have q : ∀ z, H z = some ob ∨ (∃ u, H z = some u) → z ≠ X.env.locals := fun z hz y => by
      subst y
      rcases hz with hz | ⟨u, hz⟩ <;> (rw [I.free] at hz; cases hz)
    exact (I.hok b ob e).stay (fun c u hc z => (hs.2 c (hc.elim (fun y => q c (.inl (y ▸ e))) fun y => q c (.inr ⟨_, y⟩))).trans z) (fun _ y => y) fun _ _ y => y
def tTry (K : PySem.W.Frag) (tb : XK → TS) (ts : TS) (i : Nat) (Cb : Addr) : TS := fun D σ H => ∃ Eh : XK, tb Eh D σ H ∧ ∀ C H' a, Eh (.ref C) none H' → H' a = none → exmOne K (.ref C) (.ref Cb) = some true ∧
  ts { nx := fun σ2 H2 => D.nx (σ2.set i none) H2, rt := D.rt, bk := fun σ2 H2 => D.bk (σ2.set i none) H2, ct := fun σ2 H2 => D.ct (σ2.set i none) H2 } (σ.set i (some (.ref a))) (L2.upd H' a (excH a C))
theorem ps_try {body : List Stmt} {tb : XK → TS} {ts : TS} {i : Nat} {y n : Str} {np hpos pos : Pos} {b0 : Stmt} {suite : List Stmt} {Cb : Addr} (hne : ∀ e s, X.xe e s → False)
    (hst : X.stack = X.env :: X.outer) (hfr : X.env.frame = some X.env.locals) (hb : PB X body tb) (hg : Gl X y) (hm : X.mg y = some (.ref Cb)) (hN : X.N.Nodup) (hi : X.N[i]? = some n) (hx : X.env.scope.names.lookup n = some .local) (hf : X.fn n = true)
    (hsu : ∀ a, PSs (inH X a) (b0 :: suite) ts) (hdb : (y == ("__debug__" : Str)) = false) :
    PS X (.Try body [.ExceptHandler (some (.Name y np)) (some n) (b0 :: suite) hpos] [] [] pos) (tTry X.K tb ts i Cb) := by
  intro pins s σ H D I h
  obtain ⟨Eh, hb1, hh⟩ := h
  refine wpAny_Try_except (wpAny_mono (hb pins s σ H D Eh I hb1) (fun f s1 q => ?_) fun e s1 hq => ?_)
  · cases f with
    | next => exact wpAny_execs_nil q
    | ret v => exact q
    | brk => exact q
    | cont => exact q
  obtain ⟨H0, s0, I0, a, C, t, B, H', rfl, qE, ha, F⟩ := hq
  have hfr' : X.A.frames = some (X.env :: X.outer) := by rw [← hst]; exact I.ok.frames
  have fly : Heap.FlyingW B (X.env :: X.outer) a (.ref C) (.ref t) s1.heap := hst ▸ F.fly
  obtain ⟨hx1, hs1⟩ := hh C H' a qE ha
  refine wpAny_looks_onW hfr' hfr fly fun h4 hheld hsm4 => ?_
  refine wpAny_landsW hheld fun h5 hfl5 hsm5 => ?_
  have I5 : Inv X pins σ H' { s1 with heap := h5 } := I0.call' (ch := []) F.os (F.un_on hfl5.1 (hsm4.trans hsm5)) (F.hok.kept hfl5.1) F.bare (fun b z => nomatch z)
  refine wpAny_handleBy_cons (codeAny_handlers_test (ld_glob (inv_inH I5 a) hg hm ?_ hdb)) (by intro q; cases q)
  obtain ⟨ob, hob, hobc⟩ := hfl5.there
  have LT : Looks (model X.prog X.w) h5 (typeOf (.ref a)) (.ref C) := hobc ▸ (Looks.ld hob).andThen .now
  refine exm_one I5.kIn LT hx1 _ _ _ _ (fun _ _ z => z) ?_
  refine codeAny_handlers_suite_as ?_
  refine lands_againW hfl5 fun h6 hfl6 hsm6 => ?_
  have u6 := F.un_on hfl6.1 (hsm4.trans (hsm5.trans hsm6))
  obtain ⟨oe, ws, hoe, hoec, hoed, _⟩ := hfl6.first
  have apart : ∀ b o, s0.heap.get? b = some o → H0 b = none → b ≠ a := fun b o q n z => by
    subst z
    by_cases hb : b ∈ frs X.stack
    · have hb' : b ∈ (X.env :: X.outer).filterMap (·.frame) := by rw [← hst]; exact hb
      obtain ⟨_, o2, e2, d2⟩ := hfl6.2.2.1.mem hb'
      rw [hoe] at e2
      cases e2
      exact d2 _ hoed
    · have z := F.keep b o q n hb
      rw [hfl6.2.1] at z
      cases z
  have un7 : Un (frs X.stack) [] H0 (L2.upd H' a (excH a C)) s0.heap h6 := ⟨u6.keep, u6.slot, fun b o q n hx => by rw [upd_ne (apart b o q n)]; exact u6.free b o q n hx, u6.there,
    fun b xs q => same_new ha _ _ _ (u6.tups b xs q), fun b o xs q => same_new ha _ _ _ (u6.frzs b o xs q), fun b ps q => let ⟨m, e⟩ := u6.tbls b ps q; ⟨m, same_new ha _ _ _ e⟩⟩
  have hok6 : HOk X.prog X.w H' h6 := F.hok.kept hfl6.1
  have ok7 : HOk X.prog X.w (L2.upd H' a (excH a C)) h6 := fun b o q => by
    by_cases hb : b = a
    · subst hb
      rw [upd_same] at q
      cases q
      refine ⟨⟨oe, ws, hoe, hoec, hoed⟩, ⟨oe, hoe⟩, fun h1 h2 hp hk => ?_⟩
      obtain ⟨o', vs', e1, e2, e3⟩ := hp
      exact ⟨o', vs', hk _ e1, e2, e3⟩
    · rw [upd_ne hb] at q
      exact (hok6 b o q).stay (fun _ _ _ z => z) (fun c z => same_new ha _ _ _ z) fun c xs z => same_new ha _ _ _ z
  have I7 : Inv X pins σ (L2.upd H' a (excH a C)) { s1 with heap := h6 } := I0.call' (ch := []) F.os un7 ok7 F.bare (fun b z => nomatch z)
  refine store_ok (X := inH X a) (v := .ref a) (inv_inH I7 a) hN hi (.inl hx) rfl (fun s2 I2 => ?_) (.inl hf)
  refine wpAny_mono (hsu a pins s2 _ _ _ I2 hs1) (fun f s3 q3 => ?_) fun e1 s3 z => (hne e1 s3 z).elim
  have ok := I7.ok
  cases f with
  | next =>
    obtain ⟨σ', H'', I3, q3⟩ := q3
    exact name_goes (inv_outH ok I3) hN hi hx fun s4 I4 => ⟨_, _, I4, q3⟩
  | ret v =>
    obtain ⟨v', σ', H'', I3, rv, q3⟩ := q3
    exact name_goes (inv_outH ok I3) hN hi hx fun s4 I4 => ⟨v', _, _, I4, rv, q3⟩
  | brk =>
    obtain ⟨σ', H'', I3, q3⟩ := q3
    exact name_goes (inv_outH ok I3) hN hi hx fun s4 I4 => ⟨_, _, I4, q3⟩
  | cont =>
    obtain ⟨σ', H'', I3, q3⟩ := q3
    exact name_goes (inv_outH ok I3) hN hi hx fun s4 I4 => ⟨_, _, I4, q3⟩
end
theorem passE0 {X : Cx} {P : Program} {w : World} : Passes (CXE P w) X E0 := fun _ _ _ _ _ _ _ h => by
  obtain ⟨_, _, _, _, _, _, q, _⟩ := h
  exact q.elim
section
variable {P : Program} {w : World} {K : PySem.W.Frag} {mg : Str → Option Value} {base : Heap} {x qual : Str} {st : Stmt} {f : Addr} {fd : FuncData} {N ps : List Str} {k : Nat} {sp : Sp}
theorem Fun.okT (F : Fun K x qual st f fd) (S : FnScope N ps (defScope st)) (len : ∀ vs H Q E, sp vs H Q E → vs.length = ps.length)
    (hbody : ∀ (cdv : Value) (A : Around) (outer : List Env) (s : Shared) (H : Hp) (vs : List V) (Q : VK) (E : XK), Room k (A.deeper (envOfC qual (defScope st) s.heap.objs.size f cdv)) → sp vs H Q E →
      ∃ t, PSs (cxOf (CXE P w) P w K mg base N qual (defScope st) f cdv A outer s H E).nox (defBody st) t ∧ t { nx := fun _ H' => Q .non H', rt := Q } (start N vs) H) : FnOk P w K mg base (CXE P w) (k + 1) f fd ps sp := by
  obtain ⟨oc, od, kV, doc, pm, an, cdv, ct, osl, rfl, lk, hcd⟩ := F.ex
  refine fn_of lk hcd S len fun A outer s H vs Q E hr hsp => ?_
  obtain ⟨t, h, q⟩ := hbody cdv A outer s H vs Q E hr hsp
  exact ⟨t, h.nox, q⟩
theorem Fun.okE (F : Fun K x qual st f fd) (S : FnScope N ps (defScope st)) (len : ∀ vs H Q E, sp vs H Q E → vs.length = ps.length)
    (hbody : ∀ (cdv : Value) (A : Around) (outer : List Env) (s : Shared) (H : Hp) (vs : List V) (Q : VK) (E : XK), Room k (A.deeper (envOfC qual (defScope st) s.heap.objs.size f cdv)) → sp vs H Q E →
      ∃ t, PSs (cxOf (CXE P w) P w K mg base N qual (defScope st) f cdv A outer s H E) (defBody st) t ∧ t { nx := fun _ H' => Q .non H', rt := Q } (start N vs) H) : FnOk P w K mg base (CXE P w) (k + 1) f fd ps sp := by
  obtain ⟨oc, od, kV, doc, pm, an, cdv, ct, osl, rfl, lk, hcd⟩ := F.ex
  refine fn_of lk hcd S len fun A outer s H vs Q E hr hsp => ?_
  exact hbody cdv A outer s H vs Q E hr hsp
end
section
variable {X : Cx}
end
end Kx
set_option Elab.async false
set_option linter.all false
set_option maxRecDepth 100000
namespace Kx
open PySem PySem.Spec L2 PyProof.Rows PySem.W Builtin.ObjectAttr Builtin.Getset_descriptor
section
variable {prog : Program} {w : World} {A : Around} {E : Value → Shared → Prop} {h : Heap} {g : Array GenState} {d : Drawn} {t : Nat} {os : OsState} {a C : Addr} {o : Obj} {K : PySem.W.Frag}
theorem exc_type {M : Model} (hx : h.get? a = some o) (hc : o.cls = .ref C) : Looks M h (typeOf (.ref a)) (.ref C) := hc ▸ (Looks.ld hx).andThen .now
theorem exc_cget {R : Result → Shared → Prop} {tp : Value} (X : K.In h) (hx : h.get? a = some o) (hc : o.cls = .ref C) (hm : mroIn K C (.type "object") = some true) (hq : R (.ok (.ret (.ref C))) ⟨h, g, d, t, os⟩) :
    codeAny (model prog w) A (.call (.builtin "getset_descriptor.__get__") ⟨[.builtin "object.__class__", .ref a, tp], []⟩) R ⟨h, g, d, t, os⟩ := by
  have L0 := exc_type (M := model prog w) hx hc
  have L1 : Looks (model prog w) h (isSubtype (.ref C) (.type "object")) true := looks_mroIn X hm
  refine codeAny_call_builtin KF.slot_gs.plain KF.entry_gs ?_
  refine KF.slot_gs.check _ _ _ _ _ _ _ _ KF.type_class (KF.args_gs _ _ _) ?_
  unfold Builtin.«getset_descriptor.__get__» descrGet
  rw [dga_obj]
  refine wpAny_bind (wpAny_pure ?_)
  unfold descrGetter descrCheckInstance descrNameAndClass isInstance
  simp only [KF.owner_class]
  (repeat lk)
  refine ⟨Code.quiet_builtin _ (by decide +kernel), ?_⟩
  refine codeAny_builtin KF.entry_class ?_
  unfold Builtin.«object.__class__» shownTypeOf
  (repeat lk)
  exact hq
structure ExcA (K : PySem.W.Frag) (C : Addr) : Prop where
  cls : (clsIn K C).isSome = true
  obj : mroIn K C (.type "object") = some true
  bas : mroIn K C (.type "BaseException") = some true
  atc : findIn K (.ref C) "__class__" = some (some (.builtin "object.__class__"))
  gat : findIn K (.ref C) "__getattribute__" = some (some (.builtin "BaseException.__getattribute__"))
  gtr : findIn K (.ref C) "__getattr__" = some none
theorem exc_entry {tk : Tok} {Q : Fin → Shared → Prop} (T : ExcA K C) (X : K.In h) (hx : h.get? a = some o) (hc : o.cls = .ref C) (hq : Q (.done (.ret (.ref C))) ⟨h, g, d, t, os⟩) :
    wpAny (model prog w) A (Builtin.«object.__getattribute__» ⟨[.ref a, .str "__class__" tk], []⟩) Q E ⟨h, g, d, t, os⟩ := by
  have hT5 : (⟨h, g, d, t, os⟩ : Shared).TypeIs (.builtin "object.__class__") "getset_descriptor" := F.typeOf_object_class
  have f5 := F.typeOf_object_class
  have f6 := F.slot_gs_get.lookup
  have f7 := F.slot_gs_set.lookup
  have L1 := looks_findIn (M := model prog w) X T.atc
  repeat (any_goals (first | assumption | (with_reducible refine wpAny_loadPart_at hx ?_; rw [hc]) | (with_reducible refine L1.at ?_) | wp_step))
  refine exc_cget X hx hc T.obj ?_
  repeat (any_goals (first | assumption | wp_step))
theorem exc_check {M : Model} {nameV : Value} {Q : Unit → Shared → Prop} (T : ExcA K C) (X : K.In h) (hx : h.get? a = some o) (hc : o.cls = .ref C) (hq : Q () ⟨h, g, d, t, os⟩) :
    wpAny M A (checkBuiltinCall "BaseException.__getattribute__" ⟨[.ref a, nameV], []⟩) Q E ⟨h, g, d, t, os⟩ := by
  have hk : builtinKind "BaseException.__getattribute__" = some .slot := by decide +kernel
  have hs : splitId "BaseException.__getattribute__" = some ("BaseException", "__getattribute__") := by decide +kernel
  have ha := F.args_bexc_ga (.ref a) nameV
  have L1 : Looks M h (isSubtype (.ref C) (.type "BaseException")) true := looks_mroIn X T.bas
  have L0 := exc_type (M := M) hx hc
  simp only [checkBuiltinCall, hk, hs]
  refine wpAny_bind ?_
  unfold isInstance
  refine wpAny_bind (L0.at (L1.at ?_))
  repeat (first | assumption | wp_step)
theorem exc_by {tk : Tok} {Q : Value → Shared → Prop} (T : ExcA K C) (X : K.In h) (hx : h.get? a = some o) (hc : o.cls = .ref C) (hq : Q (.ref C) ⟨h, g, d, t, os⟩) : wpAny (model prog w) A (getAttrBy (.ref a) (.str "__class__" tk) false) Q E ⟨h, g, d, t, os⟩ := by
  have f3 := F.excAttr_ValueError.ga.bind (.ref a)
  have hx2 : (Value.builtin "BaseException.__getattribute__" == Value.builtin "object.__getattribute__") = false := by decide +kernel
  have hx1 : (onTheHeap (Value.ref C) && Value.builtin "BaseException.__getattribute__" == Value.builtin "object.__getattribute__") = false := by rw [hx2, Bool.and_false]
  have L1 := looks_findIn (M := model prog w) X T.gat
  have L2 := looks_findIn (M := model prog w) X T.gtr
  repeat (any_goals (first | assumption | (with_reducible refine wpAny_loadPart_at hx ?_; rw [hc]) | (with_reducible refine L1.at ?_) | (with_reducible refine L2.at ?_) | wp_step))
  refine codeAny_call_builtin F.excAttr_ValueError.ga.plain F.entry_bexc_ga (exc_check T X hx hc (exc_entry T X hx hc ?_))
  repeat (any_goals (first | assumption | wp_step))
theorem exc_attr {Q : Option Value → Shared → Prop} (T : ExcA K C) (X : K.In h) (hx : h.get? a = some o) (hc : o.cls = .ref C) (hq : Q (some (.ref C)) ⟨h, g, d, t + 1, os⟩) : wpAny (model prog w) A (getAttr? (.ref a) "__class__") Q E ⟨h, g, d, t, os⟩ := by
  unfold getAttr? getAttrBy?
  repeat (any_goals (first | assumption | with_reducible apply exc_by T X hx hc | wp_step))
end
def isExc (a C : Addr) (h : Heap) : Prop := ∃ o vs, h.get? a = some o ∧ o.cls = .ref C ∧ o.data = .fields vs
theorem kitx_exc {K : PySem.W.Frag} {a C : Addr} (T : ExcA K C) : KitX K (.ref a) (.ref C) (isExc a C) where
  ty := fun M h _ p => by
    obtain ⟨o, vs, ho, hc, _⟩ := p
    exact exc_type ho hc
  it := fun M h X _ => by
    obtain ⟨cd, e⟩ := Option.isSome_iff_exists.mp T.cls
    unfold clsIn at e
    split at e
    · rename_i ho
      intro A' Q' E' s' k q
      unfold isType loadHead
      exact wpAny_bind (wpAny_loadPart (k _ _ (X _ _ ho)) (wpAny_pure q))
    · cases e
  ne := fun h tp dd its n sl X htp => by
    refine Bool.eq_false_iff.mpr fun q => ?_
    have e : C = tp := Value.ref.inj (beq_iff_eq.mp q)
    subst e
    obtain ⟨cd, e⟩ := Option.isSome_iff_exists.mp T.cls
    unfold clsIn at e
    split at e
    · rename_i ho
      have z := (X _ _ ho).symm.trans htp
      cases z
    · cases e
  ca := fun {prog w A E Q s} X p k => by
    obtain ⟨h, g, d, t, os⟩ := s
    obtain ⟨o, vs, ho, hc, _⟩ := p
    exact exc_attr T X ho hc k
theorem vals_refs : ∀ {Ds : List Addr} {its : List Value}, Vals (Ds.map V.ref) its → its = Ds.map Value.ref
  | [], _, .nil => rfl
  | _ :: _, _, .cons r1 r2 => congr (congrArg List.cons r1) (vals_refs r2)
section
variable {X : Cx}
theorem call_isiE : CallR X (.builtin "isinstance") (fun xs H Q => ∃ (a C : Addr) (c : V) (b : Bool), xs = [.ref a, c] ∧ H a = some (excH a C) ∧ ExcA X.K C ∧ ((∃ D, c = .ref D ∧ kitOne X.K (.ref C) (.ref D) = some b) ∨ ∃ T, c = .ty T ∧ kitOne X.K (.ref C) (.type T) = some b) ∧ Q (.bl b) H) := by
  intro pins s σ H xs us Q I r h
  obtain ⟨a, C, c, b, rfl, ha, T, hk, q⟩ := h
  obtain ⟨u1, u2, rfl, r1, r2⟩ : ∃ u1 u2, us = [u1, u2] ∧ L2.RelV (.ref a) u1 ∧ L2.RelV c u2 := by
    cases r with | cons a r => cases r with | cons b r => cases r with | nil => exact ⟨_, _, rfl, a, b⟩
  cases r1
  obtain ⟨p, _, _⟩ := I.hok a _ ha
  have p : isExc a C s.heap := p
  rcases hk with ⟨D, rfl, hk⟩ | ⟨Tn, rfl, hk⟩
  · cases r2
    exact kia_one (kitx_exc T) I.kIn p hk (by intro z; cases z) fun tk => ⟨.bl b, H, I.tok tk, rfl, q⟩
  · cases r2
    exact kia_one (kitx_exc T) I.kIn p hk (by intro z; cases z) fun tk => ⟨.bl b, H, I.tok tk, rfl, q⟩
theorem call_isiET : CallR X (.builtin "isinstance") (fun xs H Q => ∃ (a C tp : Addr) (Ds : List Addr) (b : Bool), xs = [.ref a, .ref tp] ∧ H a = some (excH a C) ∧ ExcA X.K C ∧ H tp = some (.tup (Ds.map V.ref)) ∧ kitAny X.K (.ref C) (Ds.map Value.ref) = some b ∧ Q (.bl b) H) := by
  intro pins s σ H xs us Q I r h
  obtain ⟨a, C, tp, Ds, b, rfl, ha, T, htp, hk, q⟩ := h
  obtain ⟨u1, u2, rfl, r1, r2⟩ : ∃ u1 u2, us = [u1, u2] ∧ L2.RelV (.ref a) u1 ∧ L2.RelV (.ref tp) u2 := by
    cases r with | cons a r => cases r with | cons b r => cases r with | nil => exact ⟨_, _, rfl, a, b⟩
  cases r1
  cases r2
  obtain ⟨p, _, _⟩ := I.hok a _ ha
  have p : isExc a C s.heap := p
  obtain ⟨_, its, rv, o, e1, e2, n, e3⟩ := I.hok tp _ htp
  have hits : its = Ds.map Value.ref := vals_refs rv
  subst hits
  obtain ⟨oc, od, oda, osl⟩ := o
  dsimp only at e2 e3
  subst e2 e3
  exact kia_tup (kitx_exc T) I.kIn p e1 hk (by intro z; cases z) fun tk => ⟨.bl b, H, I.tok tk, rfl, q⟩
end
end Kx
set_option Elab.async false
set_option linter.all false
set_option maxRecDepth 100000
namespace Kx
open PySem PySem.Spec L2 PyProof.Rows PySem.W
def Tab (H : Hp) (P : Addr) : Prop := ∃ ps, H P = some (.tbl ps) ∧ TriplesOk ps.toList
structure Blt (X : Cx) (bm : Addr) (ob : Obj) : Prop where
  name : X.mg "__builtins__" = some (.ref bm)
  ne : bm ≠ builtinsNs
  obj : X.base.get? bm = some ob
  cls : ob.cls = .type "module"
  dict : ob.dict = some builtinsNs
  data : ob.data = .plain
section
variable {X : Cx}
theorem Inv.tabbed {pins : List (Addr × Obj)} {σ : L2.St} {H : Hp} {s s' : Shared} {P : Addr} {ps more : Array Value} (I : L2.Inv X pins σ H s) (hP : H P = some (.tbl ps)) (k : ∀ b o, b ≠ P → s.heap.get? b = some o → s'.heap.get? b = some o)
    (hT : s'.heap.get? P = some { cls := .none, data := .fields (ps ++ more) }) (hg : AllBare s'.gens) (ho : s'.os = s.os) : L2.Inv X pins σ (L2.upd H P (.tbl (ps ++ more))) s' := by
  obtain ⟨h', g', d', t', o'⟩ := s'
  obtain rfl : o' = s.os := ho
  have ne : ∀ b, H b = none → b ≠ P := fun b q z => by rw [z, hP] at q; cases q
  refine I.step (ch := []) (fun _ z => nomatch z) (fun b o _ _ _ e n => k b o (ne b n) e) (fun b o _ _ _ e n => ⟨o.slots, k b o (ne b n) e⟩) (fun b o _ e n => by rw [upd_ne (ne b n)]; exact n) (fun b o _ e => ?_) (fun b xs e => ?_) (fun b o u e => ?_) (fun b qs e => ?_) (fun m hm => ?_) (fun b u e => ?_) hg
  · by_cases hb : b = P
    · subst hb; exact ⟨_, hT⟩
    · exact ⟨o, k b o hb e⟩
  · have hb : b ≠ P := fun z => by rw [z, hP] at e; cases e
    rw [upd_ne hb]; exact e
  · have hb : b ≠ P := fun z => by rw [z, hP] at e; cases e
    rw [upd_ne hb]; exact e
  · by_cases hb : b = P
    · subst hb
      rw [hP] at e
      cases e
      exact ⟨more, upd_same⟩
    · exact ⟨#[], by rw [upd_ne hb, e]; simp⟩
  · obtain ⟨o, es, ep, ho, r⟩ := hm
    exact ⟨o, es, ep, k _ o (ne _ I.free) ho, r⟩
  · by_cases hb : b = P
    · subst hb
      rw [upd_same] at e
      cases e
      exact hT
    · rw [upd_ne hb] at e
      refine (I.hok b u e).stay (fun c v hc q => k c v (fun z => ?_) q) (fun c q => ?_) fun c xs q => ?_
      · rcases hc with y | y
        · exact hb (y ▸ z)
        · rw [z, hP] at y; cases y
      · have hc : c ≠ P := fun z => by rw [z, hP] at q; cases q
        rw [upd_ne hc]; exact q
      · have hc : c ≠ P := fun z => by rw [z, hP] at q; cases q
        rw [upd_ne hc]; exact q
end
end Kx
set_option Elab.async false
set_option linter.all false
set_option maxRecDepth 100000
namespace Kx
open PySem PySem.Spec L2 PyProof.Rows PySem.W
def BltB (mg : Str → Option Value) (h : Heap) : Prop := ∃ bm ob, mg "__builtins__" = some (.ref bm) ∧ bm ≠ builtinsNs ∧ h.get? bm = some ob ∧ ob.cls = .type "module" ∧ ob.dict = some builtinsNs ∧ ob.data = .plain
end Kx
namespace L2
open PySem PySem.Spec PyProof.Rows
def CodeAt (H : Hp) (q : Str) (cv : Value) : Prop := ∃ (c : Addr) (oc : Obj) (vs : Array Value) (t : Tok), cv = .ref c ∧ H c = some (.frz oc (.own 0)) ∧ oc.data = .fields vs ∧ vs[1]? = some (.str q t)
def TabL (H : Hp) (P : Addr) (pos : Pos) (q : Str) : Prop := ∃ ps, H P = some (.tbl ps) ∧ TriplesOk ps.toList ∧ ∀ cv, codeAmong pos ps.toList = some cv → CodeAt H q cv
end L2
set_option Elab.async false
set_option linter.all false
set_option maxRecDepth 100000
namespace Kx
open PySem PySem.Spec L2 PyProof.Rows PySem.W
section
variable {X : Cx}
theorem mt_removeprefix : MtR X "str.removeprefix" (fun x xs H Q => ∃ a b, x = .str a ∧ xs = [.str b] ∧ a.length ≤ sizeLine ∧ Q (.str (Txt.removeprefix a b)) H) := by
  intro pins s σ H x xs v us Q I rx rs h
  obtain ⟨a, b, rfl, rfl, hz, h⟩ := h
  obtain ⟨t, rfl⟩ := rx
  cases rs with
  | cons r1 rs =>
    cases rs
    obtain ⟨u, rfl⟩ := r1
    exact PySem.SC.removeprefix (fun t' k => ⟨.str (Txt.removeprefix a b), H, I.tok k, ⟨t', rfl⟩, h⟩) hz
theorem mt_rstripC : MtR X "str.rstrip" (fun x xs H Q => ∃ a b, x = .str a ∧ xs = [.str b] ∧ a.length ≤ sizeLine ∧ Q (.str (Txt.rstripChars a b)) H) := by
  intro pins s σ H x xs v us Q I rx rs h
  obtain ⟨a, b, rfl, rfl, hz, h⟩ := h
  obtain ⟨t, rfl⟩ := rx
  cases rs with
  | cons r1 rs =>
    cases rs
    obtain ⟨u, rfl⟩ := r1
    exact PySem.SC.rstripChars (fun t' k => ⟨.str (Txt.rstripChars a b), H, I.tok k, ⟨t', rfl⟩, h⟩) hz
theorem mt_zfill : MtR X "str.zfill" (fun x xs H Q => ∃ a i, x = .str a ∧ xs = [.int i] ∧ PadOk i = true ∧ Q (.str (Txt.zfill a i)) H) := by
  intro pins s σ H x xs v us Q I rx rs h
  obtain ⟨a, i, rfl, rfl, hz, h⟩ := h
  obtain ⟨t, rfl⟩ := rx
  cases rs with
  | cons r1 rs =>
    cases rs
    obtain ⟨u, rfl⟩ := r1
    exact PySem.SC.zfill hz (fun t' k => ⟨.str (Txt.zfill a i), H, I.tok k, ⟨t', rfl⟩, h⟩)
theorem mt_sindex : MtR X "str.index" (fun x xs H Q => ∃ a b i rest, x = .str a ∧ xs = [.str b] ∧ Builtin.Str.occurrences a b 0 a.length 1 = i :: rest ∧ Q (.int (i : Nat)) H) := by
  intro pins s σ H x xs v us Q I rx rs h
  obtain ⟨a, b, i, rest, rfl, rfl, ho, h⟩ := h
  obtain ⟨t, rfl⟩ := rx
  cases rs with
  | cons r1 rs =>
    cases rs
    obtain ⟨u, rfl⟩ := r1
    exact PySem.SC.index ho ⟨.int (i : Nat), H, I.tok _, ⟨_, rfl⟩, h⟩
theorem mt_ljustF : MtR X "str.ljust" (fun x xs H Q => ∃ (a : Str) (i : Int) (c : Nat), x = .str a ∧ xs = [.int i, .str ⟨#[c]⟩] ∧ PadOk i = true ∧ Q (.str (Txt.ljustF a i c)) H) := by
  intro pins s σ H x xs v us Q I rx rs h
  obtain ⟨a, i, c, rfl, rfl, hz, h⟩ := h
  obtain ⟨t, rfl⟩ := rx
  cases rs with
  | cons r1 rs =>
    cases rs with
    | cons r2 rs =>
      cases rs
      obtain ⟨u, rfl⟩ := r1
      obtain ⟨u', rfl⟩ := r2
      exact ljust_fill hz rfl (fun t' k => ⟨.str (Txt.ljustF a i c), H, I.tok k, ⟨t', rfl⟩, h⟩)
variable {o e e1 e2 : Expr} {to te te1 te2 : TE} {apos pos : Pos}
theorem pe_removeprefix (ho : PE X o to) (he : PE X e te) (hs : isStar e = false := by rfl) (hbase : attributeBase o "removeprefix" X.env (eval o X.env) = eval o X.env := by rfl) (hline : (apos.endLine == pos.line) = true := by rfl) :
    PE X (.Call (.Attribute o "removeprefix" apos) [e] [] pos) (tM1 (fun x xs H Q => ∃ a b, x = .str a ∧ xs = [.str b] ∧ a.length ≤ sizeLine ∧ Q (.str (Txt.removeprefix a b)) H) to te) :=
  pe_m1 F.slot_str_removeprefix F.type_str_removeprefix mt_removeprefix ho he (star_cons hs) hbase hline
theorem pe_rstripC (ho : PE X o to) (he : PE X e te) (hs : isStar e = false := by rfl) (hbase : attributeBase o "rstrip" X.env (eval o X.env) = eval o X.env := by rfl) (hline : (apos.endLine == pos.line) = true := by rfl) :
    PE X (.Call (.Attribute o "rstrip" apos) [e] [] pos) (tM1 (fun x xs H Q => ∃ a b, x = .str a ∧ xs = [.str b] ∧ a.length ≤ sizeLine ∧ Q (.str (Txt.rstripChars a b)) H) to te) :=
  pe_m1 F.slot_str_rstrip F.type_str_rstrip mt_rstripC ho he (star_cons hs) hbase hline
theorem pe_zfill (ho : PE X o to) (he : PE X e te) (hs : isStar e = false := by rfl) (hbase : attributeBase o "zfill" X.env (eval o X.env) = eval o X.env := by rfl) (hline : (apos.endLine == pos.line) = true := by rfl) :
    PE X (.Call (.Attribute o "zfill" apos) [e] [] pos) (tM1 (fun x xs H Q => ∃ a i, x = .str a ∧ xs = [.int i] ∧ PadOk i = true ∧ Q (.str (Txt.zfill a i)) H) to te) :=
  pe_m1 F.slot_str_zfill F.type_str_zfill mt_zfill ho he (star_cons hs) hbase hline
theorem pe_sindex (ho : PE X o to) (he : PE X e te) (hs : isStar e = false := by rfl) (hbase : attributeBase o "index" X.env (eval o X.env) = eval o X.env := by rfl) (hline : (apos.endLine == pos.line) = true := by rfl) :
    PE X (.Call (.Attribute o "index" apos) [e] [] pos) (tM1 (fun x xs H Q => ∃ a b i rest, x = .str a ∧ xs = [.str b] ∧ Builtin.Str.occurrences a b 0 a.length 1 = i :: rest ∧ Q (.int (i : Nat)) H) to te) :=
  pe_m1 F.slot_str_index F.type_str_index mt_sindex ho he (star_cons hs) hbase hline
def tM2 (r : V → List V → Hp → VK → Prop) (to te1 te2 : TE) : TE := fun σ H Q => to σ H fun x H1 => (∃ a, x = .str a) ∧ te1 σ H1 fun y H2 => te2 σ H2 fun z H3 => r x [y, z] H3 Q
theorem pe_ljustF (ho : PE X o to) (he1 : PE X e1 te1) (he2 : PE X e2 te2) (hs : (isStar e1 || isStar e2) = false := by rfl) (hbase : attributeBase o "ljust" X.env (eval o X.env) = eval o X.env := by rfl) (hline : (apos.endLine == pos.line) = true := by rfl) :
    PE X (.Call (.Attribute o "ljust" apos) [e1, e2] [] pos) (tM2 (fun x xs H Q => ∃ (a : Str) (i : Int) (c : Nat), x = .str a ∧ xs = [.int i, .str ⟨#[c]⟩] ∧ PadOk i = true ∧ Q (.str (Txt.ljustF a i c)) H) to te1 te2) := by
  intro pins s σ H Q I h
  have h2 : isStar e1 = false ∧ isStar e2 = false := by simpa using hs
  have hst : starEach [e1, e2] X.env = [(false, eval e1 X.env), (false, eval e2 X.env)] := by rw [star_cons h2.1, star_cons h2.2]; rfl
  refine PySem.Call_method2 hbase hst hline (thn (ho pins s σ H _ I h) fun v s1 hq => ?_)
  obtain ⟨x, H1, I1, r1, ⟨a, rfl⟩, q1⟩ := hq
  obtain ⟨t, rfl⟩ := _root_.id r1
  refine ⟨"str", _, F.plainAttrs_str, F.slot_str_ljust, F.type_str_ljust, typeIs_str _ _ _, (fun _ e => nomatch e), Calls.callWith_builtin rfl (Calls.evalArgs_plain (Calls.spliced_cons ?_))⟩
  refine thn (he1 pins s1 σ H1 _ I1 q1) fun u s2 hq2 => Calls.spliced_cons ?_
  obtain ⟨y, H2, I2, r2, q2⟩ := hq2
  refine thn (he2 pins s2 σ H2 _ I2 q2) fun u' s3 hq3 => Calls.spliced_nil ?_
  obtain ⟨y', H3, I3, r3, q3⟩ := hq3
  exact mt_ljustF pins s3 σ H3 _ [y, y'] _ [u, u'] Q I3 r1 (.cons r2 (.cons r3 .nil)) q3
theorem call_divmodB : CallR X (.builtin "divmod") (fun xs H Q => ∃ i j, xs = [.int i, .int j] ∧ CDivP i j ∧ ∀ p, H p = none → Q (.ref p) (L2.upd H p (.tup [.int (i / j), .int (i % j)]))) := by
  intro pins s σ H xs us Q I r h
  obtain ⟨i, j, rfl, ⟨h1, h2⟩, q⟩ := h
  obtain ⟨u, w', rfl, ⟨t, rfl⟩, ⟨t', rfl⟩⟩ := vals2 r
  refine divmod_int (by omega) ?_ (.inl (PyProof.noPylong_of_log2 (h2.log (by decide) (by omega))))
  rw [Int.fdiv_eq_ediv_of_nonneg i (by omega), Int.fmod_eq_emod_of_nonneg i (by omega)]
  have hn : H s.heap.objs.size = none := I.hok.fresh (Nat.le_refl _)
  refine ⟨.ref s.heap.objs.size, _, ?_, rfl, q _ hn⟩
  refine I.laid (fun b o e => Heap.get?_push_of_some _ e) (Nat.le_refl _) ⟨(by show 2 ≤ sizeLine; decide), [.int (i / j) s.toks, .int (i % j) (s.toks + 1)], .cons ⟨_, rfl⟩ (.cons ⟨_, rfl⟩ .nil), ?_⟩
  exact ⟨_, Heap.get?_push_size s.heap rfl, rfl, 0, rfl⟩
end
end Kx
namespace Kx
open PySem PySem.Spec L2 PyProof.Rows PySem.W
section
variable {X : Cx}
abbrev TJ := L2.St → Hp → Str → VK → Prop
def PJ (X : Cx) (ps : List Expr) (t : TJ) : Prop :=
  ∀ (pins : List (Addr × Obj)) (s : Shared) (σ : L2.St) (H : Hp) (out : Str) (Q : VK), L2.Inv X pins σ H s → t σ H out Q → wpAny (model X.prog X.w) X.A (joinParts out (evalEach ps X.env)) (EP X pins σ Q) X.xe s
theorem pj_nil : PJ X [] (fun _ H out Q => out.length ≤ sizeLine ∧ Q (.str out) H) := fun pins s σ H out Q I h =>
  joinParts_nil ⟨.str out, H, I.tok _, ⟨_, rfl⟩, h.2⟩ h.1
theorem pj_val {e : Expr} {es : List Expr} {pos : Pos} {te : TE} {t : TJ} (he : PE X e te) (hr : PJ X es t) : PJ X (.FormattedValue e (-1) none pos :: es) (fun σ H out Q => te σ H fun v H1 =>
    (∃ y, v = .str y ∧ y.length ≤ sizeLine ∧ (out ++ y).length ≤ sizeLine ∧ t σ H1 (out ++ y) Q) ∨ ∃ i : Int, v = .int i ∧ i.natAbs.log2 < 1920 ∧ (out ++ (toString i : Str)).length ≤ sizeLine ∧ t σ H1 (out ++ (toString i : Str)) Q) := by
  intro pins s σ H out Q I h
  show wpAny _ _ (joinParts out (eval (.FormattedValue e (-1) none pos) X.env :: evalEach es X.env)) _ _ s
  refine joinParts_cons (FormattedValue_plain (thn (he pins s σ H _ I h) fun v s1 hq => ?_))
  obtain ⟨y, H1, I1, r1, hq⟩ := hq
  rcases hq with ⟨z, rfl, hz, hl, q⟩ | ⟨i, rfl, hi, hl, q⟩
  · obtain ⟨t', rfl⟩ := r1
    exact formatField_str (fun t2 tk => ⟨hl, hr pins _ σ H1 _ Q (I1.tok tk) q⟩) hz
  · obtain ⟨t', rfl⟩ := r1
    exact formatField_int_small hi ⟨hl, hr pins _ σ H1 _ Q (I1.tok _) q⟩
theorem pe_fstr {e1 e2 : Expr} {es : List Expr} {pos : Pos} {t : TJ} (h : PJ X (e1 :: e2 :: es) t) : PE X (.JoinedStr (e1 :: e2 :: es) pos) (fun σ H Q => t σ H Str.empty Q) := by
  intro pins s σ H Q I hq
  exact JoinedStr_many (h pins s σ H Str.empty Q I hq)
end
end Kx
namespace Kx
open PySem PySem.Spec L2 PyProof.Rows PySem.W
section
variable {X : Cx}
end
end Kx
namespace Kx
open PySem PySem.Spec L2 PyProof.Rows PySem.W
section
variable {P : Program} {w : World} {K : PySem.W.Frag} {mg : Str → Option Value} {base : Heap} {x qual : Str} {st : Stmt} {f : Addr} {fd : FuncData} {N ps : List Str} {k : Nat} {sp : Sp}
end
end Kx
set_option Elab.async false
set_option linter.all false
set_option maxRecDepth 100000
namespace Kx
open PySem PySem.NumText
def mkS (l : List Nat) : Str := ⟨l.toArray⟩
theorem tl_mk (l : List Nat) : (mkS l).cps.toList = l := by unfold mkS; simp
theorem len_mk (l : List Nat) : (mkS l).length = l.length := by unfold mkS Str.length; simp
theorem ext_mk {x : Str} {l : List Nat} (h : x.cps.toList = l) : x = mkS l := by
  obtain ⟨a⟩ := x
  unfold mkS
  rw [← h]
theorem app_mk (a b : List Nat) : mkS a ++ mkS b = mkS (a ++ b) := ext_mk (by
  show ((mkS a).cps ++ (mkS b).cps).toList = _
  rw [Array.toList_append, tl_mk, tl_mk])
theorem lj (D : List Nat) (h : D.length ≤ 12) : Txt.ljustF (mkS D) 12 48 = mkS (D ++ List.replicate (12 - D.length) 48) := by
  unfold Txt.ljustF
  by_cases c : (12 : Int) ≤ (mkS D).length
  · rw [if_pos c]
    rw [len_mk] at c
    have e : 12 - D.length = 0 := by omega
    rw [e, List.replicate_zero, List.append_nil]
  · rw [if_neg c]
    refine ext_mk ?_
    unfold Builtin.Str.padded
    show (Array.replicate 0 48 ++ (mkS D).cps ++ Array.replicate _ 48).toList = _
    rw [Array.toList_append, Array.toList_append, tl_mk, Array.toList_replicate, Array.toList_replicate, len_mk]
    rfl
theorem one_cps (c : Nat) : (mkS [c]).cps = #[c] := rfl
theorem dash : (Str.ofString "-") = mkS [45] := by decide +kernel
theorem dot : (Str.ofString ".") = mkS [46] := by decide +kernel
theorem nought : (Str.ofString "0") = mkS [48] := by decide +kernel
theorem strip_take {p : Nat → Bool} (l : List Nat) : l.take (l.length - (l.reverse.takeWhile p).length) = (l.reverse.dropWhile p).reverse := by
  have e : l.reverse.takeWhile p ++ l.reverse.dropWhile p = l.reverse := List.takeWhile_append_dropWhile
  have e2 : l = (l.reverse.dropWhile p).reverse ++ (l.reverse.takeWhile p).reverse := by rw [← List.reverse_append, e, List.reverse_reverse]
  have e3 : (l.reverse.takeWhile p).length + (l.reverse.dropWhile p).length = l.length := by
    rw [← List.length_append, e, List.length_reverse]
  generalize l.reverse.takeWhile p = A at *
  generalize l.reverse.dropWhile p = B at *
  subst e2
  rw [List.take_append_of_le_length (by rw [List.length_reverse]; omega), List.take_of_length_le (by rw [List.length_reverse]; omega)]
theorem rs (l : List Nat) : Txt.rstripChars (mkS l) (Str.ofString "0") = mkS (l.reverse.dropWhile (· == 48)).reverse := by
  rw [nought]
  unfold Txt.rstripChars
  rw [PyProof.Rows.stripBy_eq]
  refine ext_mk ?_
  rw [StrLaws.strSub_toList, tl_mk]
  unfold stripLo stripHi
  rw [if_neg Bool.false_ne_true, if_pos rfl, List.drop_zero, tl_mk, List.drop_zero, Nat.sub_zero, len_mk]
  have e : (mkS [48]).cps.contains = fun c : Nat => c == 48 := by
    funext c
    rw [one_cps]
    simp [Array.contains, Bool.beq_comm]
  rw [e]
  exact strip_take l
theorem rp1 (r : List Nat) : Txt.removeprefix (mkS (45 :: r)) (Str.ofString "-") = mkS r := by
  rw [dash]
  unfold Txt.removeprefix
  have e : Builtin.Str.subAt (mkS (45 :: r)) (mkS [45]) 0 = true := by
    unfold Builtin.Str.subAt
    rw [one_cps]
    refine beq_iff_eq.mpr ?_
    refine Array.ext' ?_
    rw [Array.toList_extract, tl_mk]
    rfl
  rw [if_pos e]
  show (if ((mkS (45 :: r)).length - (mkS [45]).length == (mkS (45 :: r)).length) = true then mkS (45 :: r) else Builtin.Str.strSub (mkS (45 :: r)) (mkS [45]).length (mkS (45 :: r)).length) = mkS r
  rw [if_neg (by rw [len_mk, len_mk]; simp)]
  refine ext_mk ?_
  rw [StrLaws.strSub_toList, tl_mk, len_mk, len_mk]
  simp
theorem rp2 (l : List Nat) (h : ∀ r, l ≠ 45 :: r) : Txt.removeprefix (mkS l) (Str.ofString "-") = mkS l := by
  rw [dash]
  unfold Txt.removeprefix
  have e : ¬ Builtin.Str.subAt (mkS l) (mkS [45]) 0 = true := by
    unfold Builtin.Str.subAt
    rw [one_cps]
    intro z
    have z := congrArg Array.toList (beq_iff_eq.mp z)
    rw [Array.toList_extract, tl_mk] at z
    cases l with
    | nil => cases z
    | cons a r =>
      have : a = 45 := by
        have z2 : [a] = [45] := z
        cases z2
        rfl
      subst this
      exact h r rfl
  rw [if_neg e]
  rfl
theorem part1 (a b : List Nat) (h : 46 ∉ a) : Txt.partition (mkS (a ++ 46 :: b)) (Str.ofString ".") = (mkS a, (Str.ofString "."), mkS b) := by
  have e : mkS (a ++ 46 :: b) = mkS a ++ (Str.ofString ".") ++ mkS b := by rw [dot, app_mk, app_mk, List.append_assoc]; rfl
  rw [e]
  exact TL.partition_app (s := 46) (S := []) (by rw [dot]; rfl) (by show 46 ∉ (mkS a).cps.toList; rw [tl_mk]; exact h)
theorem part2 (a : List Nat) (h : 46 ∉ a) : Txt.partition (mkS a) (Str.ofString ".") = (mkS a, Str.empty, Str.empty) :=
  TL.partition_none (s := 46) (S := []) (by rw [dot]; rfl) (by show 46 ∉ (mkS a).cps.toList; rw [tl_mk]; exact h)
theorem dv_cons (c : Nat) (B : List Nat) : digitsVal (c :: B) = (c - 48) * 10 ^ B.length + digitsVal B := by
  have key : ∀ (B : List Nat) (a : Nat), B.foldl (fun acc c => acc * 10 + (c - 48)) a = a * 10 ^ B.length + B.foldl (fun acc c => acc * 10 + (c - 48)) 0 := by
    intro B
    induction B with
    | nil => intro a; simp
    | cons d B ih =>
      intro a
      rw [List.foldl_cons, ih, List.foldl_cons, ih (0 * 10 + (d - 48)), List.length_cons, Nat.pow_succ, Nat.add_mul]
      have e : a * 10 * 10 ^ B.length = a * (10 ^ B.length * 10) := by rw [Nat.mul_assoc, Nat.mul_comm 10]
      rw [e, Nat.zero_mul, Nat.zero_add, Nat.add_assoc]
  unfold digitsVal
  rw [List.foldl_cons, key, Nat.zero_mul, Nat.zero_add]
theorem dv_app (A B : List Nat) : digitsVal (A ++ B) = digitsVal A * 10 ^ B.length + digitsVal B := by
  induction A with
  | nil => simp [digitsVal]
  | cons c A ih =>
    rw [List.cons_append, dv_cons, ih, dv_cons, List.length_append, Nat.pow_add, Nat.add_mul, Nat.mul_assoc, Nat.add_assoc]
theorem dv_rep (n : Nat) : digitsVal (List.replicate n 48) = 0 := by
  induction n with
  | zero => rfl
  | succ n ih => rw [List.replicate_succ, dv_cons, ih]; simp
theorem dv_lt {l : List Nat} (h : AllDigits l) : digitsVal l < 10 ^ l.length := by
  induction l with
  | nil => decide
  | cons c B ih =>
    have h1 := h.head
    have h2 := ih h.tail
    rw [dv_cons, List.length_cons, Nat.pow_succ]
    have : (c - 48) * 10 ^ B.length ≤ 9 * 10 ^ B.length := Nat.mul_le_mul_right _ (by omega)
    omega
def padE (D : List Nat) : List Nat := D ++ List.replicate (12 - D.length) 48
theorem padE_len {D : List Nat} (h : D.length ≤ 12) : (padE D).length = 12 := by
  unfold padE
  rw [List.length_append, List.length_replicate]
  omega
theorem rep_digits (n : Nat) : AllDigits (List.replicate n 48) := fun c hc => by
  rw [(List.mem_replicate.mp hc).2]
  omega
theorem app_digits {A B : List Nat} (a : AllDigits A) (b : AllDigits B) : AllDigits (A ++ B) := fun c hc => (List.mem_append.mp hc).elim (a c) (b c)
theorem padE_digits {D : List Nat} (h : AllDigits D) : AllDigits (padE D) := app_digits h (rep_digits _)
end Kx
set_option Elab.async false
set_option linter.all false
set_option maxRecDepth 100000
namespace Kx
open PySem PySem.NumText L2
theorem at_first {α : Type} {c : α} {r : List α} : atI (c :: r) 0 = some c := by
  unfold atI ixN
  rw [if_pos (by decide)]
  simp
structure Num (neg : Bool) (A D : List Nat) : Prop where
  a : AllDigits A
  d : AllDigits D
  a0 : A ≠ []
  al : A.length ≤ 15
  dl : D.length ≤ 12
  az : A = [48] ∨ ∀ r, A ≠ 48 :: r
  dz : ∀ r, D ≠ r ++ [48]
  nz : neg = true → ¬ (A = [48] ∧ D = [])
def sgL (neg : Bool) : List Nat := if neg then [45] else []
def dotL (D : List Nat) : List Nat := match D with | [] => [] | _ :: _ => 46 :: D
def ptL (D : List Nat) : List Nat := match D with | [] => [] | _ :: _ => [46]
def txt (neg : Bool) (A D : List Nat) : List Nat := sgL neg ++ (A ++ dotL D)
def sgI (neg : Bool) : Int := if neg then -1 else 1
theorem no46 {A : List Nat} (h : AllDigits A) : 46 ∉ A := fun z => by have := h 46 z; omega
theorem no46s {A : List Nat} (neg : Bool) (h : AllDigits A) : 46 ∉ sgL neg ++ A := fun z => by
  rcases List.mem_append.mp z with y | y
  · cases neg
    · cases y
    · have : 46 ∈ [45] := y
      simp at this
  · exact no46 h y
theorem part_txt {A : List Nat} (a D : List Nat) (h : 46 ∉ a) : Txt.partition (mkS (a ++ dotL D)) (Str.ofString ".") = (mkS a, mkS (ptL D), mkS D) := by
  cases D with
  | nil =>
    show Txt.partition (mkS (a ++ [])) _ = _
    rw [List.append_nil, part2 a h]
    rfl
  | cons c r =>
    show Txt.partition (mkS (a ++ 46 :: (c :: r))) _ = _
    rw [part1 a (c :: r) h, dot]
    rfl
theorem rp_txt {neg : Bool} {A D : List Nat} (h : Num neg A D) : Txt.removeprefix (mkS (txt neg A D)) (Str.ofString "-") = mkS (A ++ dotL D) := by
  cases neg with
  | true => exact rp1 _
  | false =>
    refine rp2 (A ++ dotL D) fun r e => ?_
    cases hA : A with
    | nil => exact h.a0 hA
    | cons c q =>
      rw [hA] at e
      have := h.a c (by rw [hA]; simp)
      cases e
      omega
theorem len_txt {neg : Bool} {A D : List Nat} (h : Num neg A D) : (txt neg A D).length ≤ 29 := by
  unfold txt
  rw [List.length_append, List.length_append]
  have h1 : (sgL neg).length ≤ 1 := by cases neg <;> decide
  have h2 : (dotL D).length ≤ D.length + 1 := by cases D <;> simp [dotL]
  have := h.al
  have := h.dl
  omega
theorem dv_pad (A : List Nat) {D : List Nat} : digitsVal (A ++ padE D) = digitsVal (A ++ D) * 10 ^ (12 - D.length) := by
  unfold padE
  rw [← List.append_assoc, dv_app, dv_rep, List.length_replicate]
  rfl
theorem int_txt {neg : Bool} {A D : List Nat} (h : Num neg A D) : intText? (mkS (sgL neg ++ (A ++ padE D))) = some (sgI neg * ((digitsVal (A ++ padE D) : Nat) : Int)) := by
  have hd := app_digits h.a (padE_digits h.d)
  have hl : (A ++ padE D).length ≤ 27 := by
    have := h.al
    rw [List.length_append, padE_len h.dl]
    omega
  have hn : A ++ padE D ≠ [] := fun z => h.a0 (List.append_eq_nil_iff.mp z).1
  cases neg with
  | true =>
    have e := intText_neg (x := mkS (45 :: (A ++ padE D))) (cs := A ++ padE D) (tl_mk _) hd hn (by rw [len_mk, List.length_cons]; omega)
    refine e.trans ?_
    unfold sgI
    rw [if_pos rfl]
    congr 1
    omega
  | false =>
    have e := intText_digits (x := mkS (A ++ padE D)) (by rw [tl_mk]; exact hd) (by rw [tl_mk]; exact hn) (by rw [len_mk]; omega)
    rw [tl_mk] at e
    refine e.trans ?_
    unfold sgI
    rw [if_neg (by decide)]
    congr 1
    omega
def wstep (s : Nat × Nat × Bool) (c : Nat) : Nat × Nat × Bool :=
  if c = 46 then (s.1, s.2.1, true) else if c = 45 then s else (10 * s.1 + (c - 48), if s.2.2 then 10 * s.2.1 else s.2.1, s.2.2)
theorem wdig {l : List Nat} (h : AllDigits l) : ∀ (t b : Nat) (f : Bool), l.foldl wstep (t, b, f) = (t * 10 ^ l.length + digitsVal l, if f then b * 10 ^ l.length else b, f) := by
  induction l with
  | nil => intro t b f; cases f <;> simp [digitsVal]
  | cons c r ih =>
    intro t b f
    have hc := h.head
    rw [List.foldl_cons]
    have e : wstep (t, b, f) c = (10 * t + (c - 48), if f then 10 * b else b, f) := by
      unfold wstep
      rw [if_neg (by omega), if_neg (by omega)]
    rw [e, ih h.tail, dv_cons, List.length_cons, Nat.pow_succ]
    have e1 : (10 * t + (c - 48)) * 10 ^ r.length + digitsVal r = t * (10 ^ r.length * 10) + ((c - 48) * 10 ^ r.length + digitsVal r) := by
      rw [Nat.add_mul, ← Nat.add_assoc]
      congr 2
      rw [Nat.mul_comm 10 t, Nat.mul_assoc, Nat.mul_comm 10]
    rw [e1]
    cases f with
    | false => rfl
    | true =>
      have : (10 * b) * 10 ^ r.length = b * (10 ^ r.length * 10) := by rw [Nat.mul_comm 10 b, Nat.mul_assoc, Nat.mul_comm 10]
      simp only [if_true, this]
theorem wtxt {neg : Bool} {A D : List Nat} (h : Num neg A D) : ∃ f, (txt neg A D).foldl wstep (0, 1, false) = (digitsVal (A ++ D), 10 ^ D.length, f) := by
  unfold txt
  rw [List.foldl_append, List.foldl_append]
  have e0 : (sgL neg).foldl wstep (0, 1, false) = (0, 1, false) := by cases neg <;> rfl
  rw [e0, wdig h.a, Nat.zero_mul, Nat.zero_add]
  cases D with
  | nil => exact ⟨false, by simp [dotL]⟩
  | cons c r =>
    refine ⟨true, ?_⟩
    show (46 :: (c :: r)).foldl wstep _ = _
    rw [List.foldl_cons]
    show (c :: r).foldl wstep (digitsVal A, 1, true) = _
    rw [wdig h.d, dv_app]
    simp
theorem occ_dig {c : Nat} (h : 48 ≤ c ∧ c ≤ 57) : Builtin.Str.occurrences (Str.ofString "0123456789") ⟨#[c]⟩ 0 (Str.ofString "0123456789").length 1 = [c - 48] := by
  have : c = 48 ∨ c = 49 ∨ c = 50 ∨ c = 51 ∨ c = 52 ∨ c = 53 ∨ c = 54 ∨ c = 55 ∨ c = 56 ∨ c = 57 := by omega
  rcases this with rfl | rfl | rfl | rfl | rfl | rfl | rfl | rfl | rfl | rfl <;> decide +kernel
end Kx
set_option Elab.async false
set_option linter.all false
set_option maxRecDepth 100000
namespace Kx
open PySem PySem.NumText L2
theorem join_mk (l : List Nat) : Txt.join (Str.ofString "") (l.map fun c => (⟨#[c]⟩ : Str)) = mkS l := by
  rw [show Str.ofString "" = mkS [] from by decide +kernel]
  rw [TL.join_eq]
  induction l with
  | nil => rfl
  | cons c r ih =>
    cases r with
    | nil => rfl
    | cons d q =>
      show mkS [c] ++ mkS [] ++ Str.join (mkS []) ((d :: q).map fun c => (⟨#[c]⟩ : Str)) = _
      rw [ih, app_mk, app_mk]
      rfl
theorem at_dig {v : Int} (h0 : 0 ≤ v) (h1 : v < 10) : ∃ c, atI (Str.ofString "0123456789").cps.toList v = some c ∧ 48 ≤ c ∧ c ≤ 57 := by
  have : v = 0 ∨ v = 1 ∨ v = 2 ∨ v = 3 ∨ v = 4 ∨ v = 5 ∨ v = 6 ∨ v = 7 ∨ v = 8 ∨ v = 9 := by omega
  rcases this with rfl | rfl | rfl | rfl | rfl | rfl | rfl | rfl | rfl | rfl
  · exact ⟨48, by decide +kernel, by decide, by decide⟩
  · exact ⟨49, by decide +kernel, by decide, by decide⟩
  · exact ⟨50, by decide +kernel, by decide, by decide⟩
  · exact ⟨51, by decide +kernel, by decide, by decide⟩
  · exact ⟨52, by decide +kernel, by decide, by decide⟩
  · exact ⟨53, by decide +kernel, by decide, by decide⟩
  · exact ⟨54, by decide +kernel, by decide, by decide⟩
  · exact ⟨55, by decide +kernel, by decide, by decide⟩
  · exact ⟨56, by decide +kernel, by decide, by decide⟩
  · exact ⟨57, by decide +kernel, by decide, by decide⟩
theorem at_dig9 {v : Int} (h0 : 0 ≤ v) (h1 : v < 9) : ∃ c, atI (Str.ofString "123456789").cps.toList v = some c ∧ 49 ≤ c ∧ c ≤ 57 := by
  have : v = 0 ∨ v = 1 ∨ v = 2 ∨ v = 3 ∨ v = 4 ∨ v = 5 ∨ v = 6 ∨ v = 7 ∨ v = 8 := by omega
  rcases this with rfl | rfl | rfl | rfl | rfl | rfl | rfl | rfl | rfl
  · exact ⟨49, by decide +kernel, by decide, by decide⟩
  · exact ⟨50, by decide +kernel, by decide, by decide⟩
  · exact ⟨51, by decide +kernel, by decide, by decide⟩
  · exact ⟨52, by decide +kernel, by decide, by decide⟩
  · exact ⟨53, by decide +kernel, by decide, by decide⟩
  · exact ⟨54, by decide +kernel, by decide, by decide⟩
  · exact ⟨55, by decide +kernel, by decide, by decide⟩
  · exact ⟨56, by decide +kernel, by decide, by decide⟩
  · exact ⟨57, by decide +kernel, by decide, by decide⟩
theorem cut1 (c : Nat) (r : List Nat) : cutS (mkS (c :: r)) (some 1) none = mkS r := by
  unfold cutS
  refine ext_mk ?_
  rw [tl_mk, len_mk]
  have e : HT.sIx (c :: r).length 0 (some 1) = 1 := by
    have := HT.sIx_nat (c :: r).length 0 1
    rw [List.length_cons] at this ⊢
    refine this.trans ?_
    omega
  rw [e]
  show (List.drop 1 (c :: r)).take ((c :: r).length - 1) = r
  simp
end Kx
set_option Elab.async false
set_option linter.all false
set_option maxRecDepth 100000
namespace Kx
open PySem PySem.NumText L2
def isFig (c : Nat) : Bool := decide (c ∈ (Str.ofString "0123456789").cps.toList)
def figsOk (z : Str) (m : Int) : Bool := decide ((1 : Int) ≤ (z.length : Int)) && (decide ((z.length : Int) ≤ m) && z.cps.toList.all isFig)
def aheadS (z : Str) : Bool := figsOk z 15 && (decide (z = Str.ofString "0") || decide (z.cps.toList.head? ≠ some 48))
def behindS (z : Str) : Bool := figsOk z 12 && decide (z.cps.toList.getLast? ≠ some 48)
def partS (z : Str) : Str × Str × Str := Txt.partition (Txt.removeprefix z (Str.ofString "-")) (Str.ofString ".")
def numS (z : Str) : Bool := !decide (z = Str.ofString "-0") && (aheadS (partS z).1 && (decide ((partS z).2.1 = Str.ofString "") || behindS (partS z).2.2))
theorem mk_inj {a b : List Nat} (h : mkS a = mkS b) : a = b := by
  have := congrArg (fun s : Str => s.cps.toList) h
  simpa only [tl_mk] using this
theorem mk_iff {a b : List Nat} : mkS a = mkS b ↔ a = b := ⟨mk_inj, fun h => by rw [h]⟩
theorem minus0 : Str.ofString "-0" = mkS [45, 48] := by decide +kernel
theorem noneS : Str.ofString "" = mkS [] := by decide +kernel
def restL : List Nat → List Nat
  | [] => []
  | c :: r => if c = 45 then r else c :: r
theorem rp_rest (l : List Nat) : Txt.removeprefix (mkS l) (Str.ofString "-") = mkS (restL l) := by
  cases l with
  | nil => exact rp2 [] (fun r h => by cases h)
  | cons c r =>
    show _ = mkS (if c = 45 then r else c :: r)
    by_cases h : c = 45
    · rw [if_pos h, h]
      exact rp1 r
    · rw [if_neg h]
      exact rp2 (c :: r) (fun q z => by cases z; exact h rfl)
def aheadL (a : List Nat) : Bool := decide (1 ≤ a.length) && (decide (a.length ≤ 15) && a.all isFig) && (decide (a = [48]) || decide (a.head? ≠ some 48))
def behindL (b : List Nat) : Bool := decide (1 ≤ b.length) && (decide (b.length ≤ 12) && b.all isFig) && decide (b.getLast? ≠ some 48)
theorem dl1 (n : Nat) : decide ((1 : Int) ≤ (n : Int)) = decide (1 ≤ n) := decide_eq_decide.mpr (by omega)
theorem dl2 (n m : Nat) : decide ((n : Int) ≤ (m : Int)) = decide (n ≤ m) := decide_eq_decide.mpr (by omega)
theorem dmk (a b : List Nat) : decide (mkS a = mkS b) = decide (a = b) := decide_eq_decide.mpr mk_iff
theorem ahead_mk (a : List Nat) : aheadS (mkS a) = aheadL a := by
  unfold aheadS aheadL figsOk
  rw [len_mk, tl_mk, nought, dl1, dmk]
  rw [show decide ((a.length : Int) ≤ 15) = decide (a.length ≤ 15) from dl2 _ 15]
theorem behind_mk (b : List Nat) : behindS (mkS b) = behindL b := by
  unfold behindS behindL figsOk
  rw [len_mk, tl_mk, dl1]
  rw [show decide ((b.length : Int) ≤ 12) = decide (b.length ≤ 12) from dl2 _ 12]
theorem split46 (l : List Nat) : (46 ∉ l) ∨ ∃ a b, l = a ++ 46 :: b ∧ 46 ∉ a := by
  induction l with
  | nil => exact .inl (by simp)
  | cons c r ih =>
    by_cases h : c = 46
    · exact .inr ⟨[], r, by rw [h]; rfl, by simp⟩
    · rcases ih with ih | ⟨a, b, e, n⟩
      · exact .inl (by simp [ih, Ne.symm h])
      · exact .inr ⟨c :: a, b, by rw [e]; rfl, by simp [n, Ne.symm h]⟩
theorem num_no {l : List Nat} (h : 46 ∉ restL l) : numS (mkS l) = (!decide (l = [45, 48]) && aheadL (restL l)) := by
  unfold numS partS
  rw [rp_rest, part2 _ h, minus0]
  show (!decide (mkS l = mkS [45, 48]) && (aheadS (mkS (restL l)) && (decide (Str.empty = Str.ofString "") || behindS Str.empty))) = _
  rw [show decide (Str.empty = Str.ofString "") = true from by decide +kernel, Bool.true_or, Bool.and_true, ahead_mk, dmk]
theorem num_pt {l a b : List Nat} (e : restL l = a ++ 46 :: b) (h : 46 ∉ a) : numS (mkS l) = (!decide (l = [45, 48]) && (aheadL a && behindL b)) := by
  unfold numS partS
  rw [rp_rest, e, part1 _ _ h, minus0]
  show (!decide (mkS l = mkS [45, 48]) && (aheadS (mkS a) && (decide (Str.ofString "." = Str.ofString "") || behindS (mkS b)))) = _
  rw [show decide (Str.ofString "." = Str.ofString "") = false from by decide +kernel, Bool.false_or, ahead_mk, behind_mk, dmk]
def lookL (l : List Nat) : Bool :=
  if 0 < ((restL l).filter fun c => !(isFig c || c == 46)).length ∨ 1 < (restL l).count 46 ∨ l = [45, 48] then false
  else
    let f := if 46 ∈ restL l then (restL l).takeWhile (· != 46) else restL l
    let s := if 46 ∈ restL l then ((restL l).dropWhile (· != 46)).tail else [49]
    if f = [] ∨ s = [] ∨ 15 < f.length ∨ 12 < s.length then false
    else (decide (f = [48]) || decide (f.head? ≠ some 48)) && decide (s.getLast? ≠ some 48)
theorem fig46 : isFig 46 = false := by decide +kernel
theorem tw {a b : List Nat} (h : 46 ∉ a) : (a ++ 46 :: b).takeWhile (· != 46) = a ∧ (a ++ 46 :: b).dropWhile (· != 46) = 46 :: b := by
  induction a with
  | nil => exact ⟨rfl, rfl⟩
  | cons c r ih =>
    have hc : (c != 46) = true := by
      have : c ≠ 46 := fun z => h (by rw [z]; simp)
      simp [this]
    have := ih (fun z => h (List.mem_cons_of_mem _ z))
    simp only [List.cons_append, List.takeWhile_cons, List.dropWhile_cons, hc, if_true]
    exact ⟨by rw [this.1], this.2⟩
theorem bad_iff {l : List Nat} : (l.filter fun c => !(isFig c || c == 46)).length = 0 ↔ ∀ c ∈ l, isFig c = true ∨ c = 46 := by
  rw [List.length_eq_zero_iff, List.filter_eq_nil_iff]
  constructor
  · intro h c hc
    have := h c hc
    simp only [Bool.not_eq_true, Bool.not_eq_false', Bool.or_eq_true, beq_iff_eq] at this
    exact this
  · intro h c hc
    rcases h c hc with z | z
    · simp [z]
    · simp [z]
theorem look_num (l : List Nat) : numS (mkS l) = lookL l := by
  by_cases m0 : l = [45, 48]
  · subst m0
    decide +kernel
  unfold lookL
  rcases split46 (restL l) with h | ⟨a, b, e, h⟩
  · rw [num_no h, decide_eq_false m0, if_neg h, if_neg h]
    have c0 : (restL l).count 46 = 0 := List.count_eq_zero.mpr h
    rw [c0]
    generalize restL l = r at *
    by_cases all : r.all isFig = true
    · have g : (r.filter fun c => !(isFig c || c == 46)).length = 0 := bad_iff.mpr fun c hc => .inl (List.all_eq_true.mp all c hc)
      rw [g, if_neg (by rintro (z | z | z); exact absurd z (by decide); exact absurd z (by decide); exact m0 z)]
      unfold aheadL
      rw [all]
      cases r with
      | nil => rfl
      | cons x y =>
        by_cases s : 15 < (x :: y).length
        · rw [if_pos (by right; right; left; exact s), decide_eq_false (show ¬ (x :: y).length ≤ 15 by omega)]
          simp
        · rw [if_neg (by rintro (z | z | z | z); cases z; cases z; omega; revert z; decide), decide_eq_true (show (x :: y).length ≤ 15 by omega)]
          simp
    · have g : 0 < (r.filter fun c => !(isFig c || c == 46)).length := by
        rcases Nat.eq_zero_or_pos (r.filter fun c => !(isFig c || c == 46)).length with z | z
        · exfalso
          refine all (List.all_eq_true.mpr fun c hc => ?_)
          rcases bad_iff.mp z c hc with y | y
          · exact y
          · rw [y] at hc
            exact absurd hc h
        · exact z
      rw [if_pos (.inl g)]
      unfold aheadL
      rw [(Bool.not_eq_true _).mp all]
      simp
  · have hm : 46 ∈ restL l := by rw [e]; simp
    obtain ⟨t1, t2⟩ := tw (b := b) h
    rw [num_pt e h, decide_eq_false m0, if_pos hm, if_pos hm, e, t1, t2]
    have cnt : (a ++ 46 :: b).count 46 = 1 + b.count 46 := by
      rw [List.count_append, List.count_cons_self, List.count_eq_zero.mpr h]
      omega
    rw [cnt, List.tail_cons]
    by_cases ok : a.all isFig = true ∧ b.all isFig = true
    · have hb : 46 ∉ b := fun z => by
        have := List.all_eq_true.mp ok.2 46 z
        rw [fig46] at this
        cases this
      have g : ((a ++ 46 :: b).filter fun c => !(isFig c || c == 46)).length = 0 := bad_iff.mpr fun c hc => by
        rcases List.mem_append.mp hc with y | y
        · exact .inl (List.all_eq_true.mp ok.1 c y)
        · rcases List.mem_cons.mp y with z | z
          · exact .inr z
          · exact .inl (List.all_eq_true.mp ok.2 c z)
      rw [g, List.count_eq_zero.mpr hb, if_neg (by rintro (z | z | z); exact absurd z (by decide); exact absurd z (by decide); exact m0 z)]
      unfold aheadL behindL
      rw [ok.1, ok.2]
      cases a with
      | nil => simp
      | cons x y =>
        cases b with
        | nil => simp
        | cons x2 y2 =>
          by_cases s1 : 15 < (x :: y).length
          · rw [if_pos (by right; right; left; exact s1), decide_eq_false (show ¬ (x :: y).length ≤ 15 by omega)]
            simp
          · by_cases s2 : 12 < (x2 :: y2).length
            · rw [if_pos (by right; right; right; exact s2), decide_eq_false (show ¬ (x2 :: y2).length ≤ 12 by omega)]
              simp
            · rw [if_neg (by rintro (z | z | z | z); cases z; cases z; omega; omega), decide_eq_true (show (x :: y).length ≤ 15 by omega), decide_eq_true (show (x2 :: y2).length ≤ 12 by omega)]
              simp
    · have hf : (aheadL a && behindL b) = false := by
        unfold aheadL behindL
        by_cases oa : a.all isFig = true
        · have ob : b.all isFig = false := (Bool.not_eq_true _).mp fun z => ok ⟨oa, z⟩
          rw [ob]
          simp
        · rw [(Bool.not_eq_true _).mp oa]
          simp
      rw [hf, if_pos]
      · simp
      · by_cases hb : 46 ∈ b
        · right; left
          have := List.count_pos_iff.mpr hb
          omega
        · left
          rcases Nat.eq_zero_or_pos ((a ++ 46 :: b).filter fun c => !(isFig c || c == 46)).length with z | z
          · exfalso
            have al := bad_iff.mp z
            refine ok ⟨List.all_eq_true.mpr fun c hc => ?_, List.all_eq_true.mpr fun c hc => ?_⟩
            · rcases al c (List.mem_append_left _ hc) with y | y
              · exact y
              · rw [y] at hc
                exact absurd hc h
            · rcases al c (List.mem_append_right _ (List.mem_cons_of_mem _ hc)) with y | y
              · exact y
              · rw [y] at hc
                exact absurd hc hb
          · exact z
end Kx
set_option Elab.async false
set_option linter.all false
set_option maxRecDepth 100000
namespace Kx
open PySem PySem.Spec L2 PyProof.Rows PySem.W
section
variable {X : Cx} {pos : Pos}
end
def lowG (t b : Int) : Int := if b < 0 then -((Int.gcd t b : Nat) : Int) else ((Int.gcd t b : Nat) : Int)
def lowT (t b : Int) : Int := t.fdiv (lowG t b)
def lowB (t b : Int) : Int := b.fdiv (lowG t b)
theorem lowG_pos {t b : Int} (hb : 0 < b) : lowG t b = ((Int.gcd t b : Nat) : Int) ∧ 0 < ((Int.gcd t b : Nat) : Int) := by
  have gp : 0 < Int.gcd t b := Int.gcd_pos_of_ne_zero_right t (by omega)
  exact ⟨by unfold lowG; rw [if_neg (by omega)], by omega⟩
theorem low_mul {t b : Int} (hb : 0 < b) : ∃ g : Int, 0 < g ∧ t = g * lowT t b ∧ b = g * lowB t b := by
  obtain ⟨hG, gp⟩ := lowG_pos (t := t) hb
  refine ⟨((Int.gcd t b : Nat) : Int), gp, ?_, ?_⟩
  · unfold lowT
    rw [hG, Int.fdiv_eq_ediv_of_nonneg _ (by omega)]
    exact (Int.mul_ediv_cancel' (Int.gcd_dvd_left t b)).symm
  · unfold lowB
    rw [hG, Int.fdiv_eq_ediv_of_nonneg _ (by omega)]
    exact (Int.mul_ediv_cancel' (Int.gcd_dvd_right t b)).symm
theorem low_scale {t b m : Int} (hb : 0 < b) (hm : 0 < m) : lowT (t * m) (b * m) = lowT t b ∧ lowB (t * m) (b * m) = lowB t b := by
  obtain ⟨hG, gp⟩ := lowG_pos (t := t) hb
  have hbm : 0 < b * m := Int.mul_pos hb hm
  have hG2 : lowG (t * m) (b * m) = ((Int.gcd t b : Nat) : Int) * m := by
    unfold lowG
    rw [if_neg (by omega), Int.gcd_mul_right, Int.natCast_mul, Int.natAbs_of_nonneg (by omega)]
  have hp2 : 0 ≤ ((Int.gcd t b : Nat) : Int) * m := Int.le_of_lt (Int.mul_pos (by omega) hm)
  unfold lowT lowB
  rw [hG, hG2, Int.fdiv_eq_ediv_of_nonneg _ hp2, Int.fdiv_eq_ediv_of_nonneg _ hp2, Int.fdiv_eq_ediv_of_nonneg _ (by omega), Int.fdiv_eq_ediv_of_nonneg _ (by omega)]
  exact ⟨Int.mul_ediv_mul_of_pos_left _ _ hm, Int.mul_ediv_mul_of_pos_left _ _ hm⟩
theorem low_pos {t b : Int} (hb : 0 < b) : 1 ≤ lowB t b ∧ lowB t b ≤ b ∧ (lowT t b).natAbs ≤ t.natAbs := by
  obtain ⟨g, g0, et, eb⟩ := low_mul (t := t) hb
  have b0 : 0 < lowB t b := by
    rcases Int.lt_or_le 0 (lowB t b) with h | h
    · exact h
    · have : g * lowB t b ≤ 0 := Int.mul_nonpos_of_nonneg_of_nonpos (by omega) h
      omega
  refine ⟨by omega, ?_, ?_⟩
  · have : 1 * lowB t b ≤ g * lowB t b := Int.mul_le_mul_of_nonneg_right (by omega) (by omega)
    omega
  · have e := congrArg Int.natAbs et
    rw [Int.natAbs_mul] at e
    rw [e]
    exact Nat.le_mul_of_pos_left _ (by omega)
def Lw (t b : Int) : Prop := 0 < b ∧ lowT t b = t ∧ lowB t b = b
theorem lw_low {t b : Int} (hb : 0 < b) : Lw (lowT t b) (lowB t b) := by
  obtain ⟨g, g0, et, eb⟩ := low_mul (t := t) hb
  have p := low_pos (t := t) hb
  have h := low_scale (t := lowT t b) (b := lowB t b) (m := g) (by omega) g0
  rw [Int.mul_comm _ g, Int.mul_comm _ g, ← et, ← eb] at h
  exact ⟨by omega, h.1.symm, h.2.symm⟩
def R (j : Nat) : Int := (if j % 3 = 0 then 1 else if j % 3 = 1 then 2 else 5) * 10 ^ (j / 3)
theorem R0 (q : Nat) : R (3 * q) = 1 * 10 ^ q := by
  unfold R
  rw [if_pos (by omega), show 3 * q / 3 = q by omega]
theorem R1 (q : Nat) : R (3 * q + 1) = 2 * 10 ^ q := by
  unfold R
  rw [if_neg (by omega), if_pos (by omega), show (3 * q + 1) / 3 = q by omega]
theorem R2 (q : Nat) : R (3 * q + 2) = 5 * 10 ^ q := by
  unfold R
  rw [if_neg (by omega), if_neg (by omega), show (3 * q + 2) / 3 = q by omega]
theorem R3 (q : Nat) : R (3 * q + 3) = 10 * 10 ^ q := by
  rw [show 3 * q + 3 = 3 * (q + 1) by omega, R0, Int.pow_succ]
  omega
def Nx (L : Nat) (t b : Int) (j : Nat) : Prop := t * 10 ^ L ≤ R j * b ∧ ∀ i, i < j → R i * b < t * 10 ^ L
theorem Nx.uniq {L : Nat} {t b : Int} {i j : Nat} (h : Nx L t b i) (h' : Nx L t b j) : i = j := by
  rcases Nat.lt_trichotomy i j with c | c | c
  · have := h'.2 i c
    have := h.1
    omega
  · exact c
  · have := h.2 j c
    have := h'.1
    omega
theorem Nx.lt {L : Nat} {t b : Int} {j n : Nat} (h : Nx L t b j) (hn : t * 10 ^ L ≤ R n * b) : j ≤ n := by
  rcases Nat.lt_or_ge n j with c | c
  · have := h.2 n c
    omega
  · exact c
def ld (i : Nat) : Int := if i = 0 then 1 else if i = 1 then 2 else 5
theorem Bd.ten {n : Nat} {x : Int} (h : Bd n x) : Bd (n + 4) (10 * x) := by
  unfold Bd at *
  rw [Int.natAbs_mul, Nat.pow_add]
  show 10 * x.natAbs < _
  omega
end Kx
set_option Elab.async false
set_option linter.all false
set_option maxRecDepth 100000
namespace Kx
open PySem PySem.Spec L2 PyProof.Rows PySem.W
structure CalM (P : Program) (w : World) (K : PySem.W.Frag) (mg : Str → Option Value) (base : Heap) (CX : CXT) (k : Nat) (C : Addr) (m : Str) (ps : List Str) (sp : Sp) : Prop where
  ex : ∃ (f : Addr) (fd : FuncData), Meth K C m f ∧ FnOk P w K mg base CX k f fd ps sp ∧ Binds K fd ps []
structure CalK (P : Program) (w : World) (K : PySem.W.Frag) (mg : Str → Option Value) (base : Heap) (CX : CXT) (k : Nat) (C : Addr) (x : Str) (ps : List Str) (sp : Sp) : Prop where
  ex : ∃ (f : Addr) (fd : FuncData), Mk K C f ∧ FnOk P w K mg base CX k f fd ps sp ∧ Binds K fd ps [] ∧ mg x = some (.ref C)
section
variable {X : Cx} {CX : CXT} {j k : Nat} {ps : List Str} {sp : Sp} {E : XK} {C : Addr} {m x : Str} {o e : Expr} {es : List Expr} {apos p pos : Pos} {ta : TE} {t : TA}
end
end Kx
set_option Elab.async false
set_option linter.all false
set_option maxRecDepth 100000
namespace Kx
open PySem L2
end Kx
set_option Elab.async false
set_option linter.all false
set_option maxRecDepth 100000
namespace Kx
open PySem PySem.Spec L2 PyProof.Rows PySem.W
section
variable {X : Cx} {tg : Expr}
end
end Kx
set_option Elab.async false
set_option linter.all false
set_option maxRecDepth 100000
namespace Kx
open PySem PySem.Spec L2 PyProof.Rows PySem.W
section
variable {X : Cx}
theorem call_isiLL : CallR X (.builtin "isinstance") (fun xs H Q => ∃ a ys, xs = [.ref a, .ty "list"] ∧ SqL X.K H a ys ∧ Q (.bl true) H) := by
  intro pins s σ H xs us Q I r h
  obtain ⟨a, ys, rfl, ha, q⟩ := h
  obtain ⟨u1, u2, rfl, r1, r2⟩ : ∃ u1 u2, us = [u1, u2] ∧ RelV (.ref a) u1 ∧ RelV (.ty "list") u2 := by
    cases r with | cons a r => cases r with | cons b r => cases r with | nil => exact ⟨_, _, rfl, a, b⟩
  cases r1
  cases r2
  have f0 : EP X pins σ Q (.bool true) s := ⟨.bl true, H, I, rfl, q⟩
  obtain ⟨its, _, ht, _⟩ := I.list ha
  exact PyProof.Rows.call_isinstance_yes (Tx := "list") ht.isList.typeIs PySem.F.isi_meta_list PySem.F.isi_self_list f0
end
end Kx
set_option Elab.async false
set_option linter.all false
set_option maxRecDepth 100000
namespace Kx
open PySem L2
end Kx
set_option Elab.async false
set_option linter.all false
set_option maxRecDepth 100000
set_option autoImplicit false
namespace Dt
open PySem L2 Kx
inductive D where
  | non | bl (b : Bool) | int (i : Int) | str (x : Str) | ty (n : String) | scr (xs : List D) | lst (xs : List D) | tup (xs : List D) | obj (c : Str) (ns : List Str) (xs : List D) | dic (ks : List Key) (xs : List D) | exc (c : Str) (ns : List Str) (xs : List D)
def excD (a C dx : Addr) : HO := .ext fun h => ∃ o vs, h.get? a = some o ∧ o.cls = .ref C ∧ o.data = .fields vs ∧ o.dict = some dx
def ExcC (F : Hp) (a C : Addr) (ns : List Str) (vs : List V) : Prop := (ns = [] ∧ F a = some (excH a C)) ∨ ns ≠ [] ∧ ∃ dx, F a = some (excD a C dx) ∧ F dx = some (.xd (ns.zip vs))
theorem ExcC.same {F F' : Hp} {a C : Addr} {ns : List Str} {vs : List V} (h : ExcC F a C ns vs) (g : Same F F') : ExcC F' a C ns vs := h.elim (fun h => .inl ⟨h.1, g _ _ h.2⟩) fun ⟨h0, dx, h1, h2⟩ => .inr ⟨h0, dx, g _ _ h1, g _ _ h2⟩
mutual
inductive Rep (K : PySem.W.Frag) (F : Hp) : V → D → Prop
  | non : Rep K F .non .non
  | bl (b : Bool) : Rep K F (.bl b) (.bl b)
  | int (i : Int) : Rep K F (.int i) (.int i)
  | str (x : Str) : Rep K F (.str x) (.str x)
  | ty (n : String) : Rep K F (.ty n) (.ty n)
  | scr {a : Addr} {vs : List V} {ds : List D} : SqL K F a vs → RepA K F vs ds → Rep K F (.ref a) (.scr ds)
  | lst {a : Addr} {vs : List V} {ds : List D} : F a = some (.lst vs) → RepA K F vs ds → Rep K F (.ref a) (.lst ds)
  | tup {a : Addr} {vs : List V} {ds : List D} : SqT K F a vs → RepA K F vs ds → Rep K F (.ref a) (.tup ds)
  | obj {a dx C : Addr} {c : Str} {ns : List Str} {vs : List V} {ds : List D} : PySem.W.nsIn K mainGlobals c = some (some (.ref C)) → F a = some (.ins C dx (ns.zip vs)) → RepA K F vs ds → Rep K F (.ref a) (.obj c ns ds)
  | dic {a : Addr} {ks : List Key} {vs : List V} {ds : List D} : F a = some (.dK (ks.zip vs)) → ks.length = vs.length → RepA K F vs ds → Rep K F (.ref a) (.dic ks ds)
  | exc {a C : Addr} {c : Str} {ns : List Str} {vs : List V} {ds : List D} : PySem.W.nsIn K mainGlobals c = some (some (.ref C)) → ExcC F a C ns vs → RepA K F vs ds → Rep K F (.ref a) (.exc c ns ds)
inductive RepA (K : PySem.W.Frag) (F : Hp) : List V → List D → Prop
  | nil : RepA K F [] []
  | cons {v : V} {d : D} {vs : List V} {ds : List D} : Rep K F v d → RepA K F vs ds → RepA K F (v :: vs) (d :: ds)
end
section
variable {K : PySem.W.Frag} {F F' H H' : Hp}
theorem rd_same {a : Addr} {o : HO} (h : L2.Rd H a o) (g : Same H H') : L2.Rd H' a o := by
  rcases h with h | ⟨x, h⟩
  · exact .inl (g _ _ h)
  · exact .inr ⟨x, g _ _ h⟩
theorem sql_same {a : Addr} {xs : List V} (h : SqL K H a xs) (g : Same H H') : SqL K H' a xs := h.elim (fun h => .inl (rd_same h g)) .inr
theorem sqt_same {a : Addr} {xs : List V} (h : SqT K H a xs) (g : Same H H') : SqT K H' a xs := h.elim (fun h => .inl (rd_same h g)) .inr
mutual
theorem Rep.mono (g : Same F F') : ∀ {v : V} {d : D}, Rep K F v d → Rep K F' v d
  | _, _, .non => .non
  | _, _, .bl b => .bl b
  | _, _, .int i => .int i
  | _, _, .str x => .str x
  | _, _, .ty n => .ty n
  | _, _, .scr h r => .scr (sql_same h g) (RepA.mono g r)
  | _, _, .lst h r => .lst (g _ _ h) (RepA.mono g r)
  | _, _, .tup h r => .tup (sqt_same h g) (RepA.mono g r)
  | _, _, .obj c h r => .obj c (g _ _ h) (RepA.mono g r)
  | _, _, .dic h l r => .dic (g _ _ h) l (RepA.mono g r)
  | _, _, .exc c h r => .exc c (h.same g) (RepA.mono g r)
theorem RepA.mono (g : Same F F') : ∀ {vs : List V} {ds : List D}, RepA K F vs ds → RepA K F' vs ds
  | _, _, .nil => .nil
  | _, _, .cons h r => .cons (Rep.mono g h) (RepA.mono g r)
end
theorem RepA.length : ∀ {vs : List V} {ds : List D}, RepA K F vs ds → vs.length = ds.length
  | _, _, .nil => rfl
  | _, _, .cons _ r => congrArg (· + 1) (RepA.length r)
theorem RepA.get : ∀ {vs : List V} {ds : List D} {i : Nat} {d : D}, RepA K F vs ds → ds[i]? = some d → ∃ v, vs[i]? = some v ∧ Rep K F v d
  | _, _, _, _, .nil, e => by simp at e
  | _, _, 0, _, .cons h _, e => by simp at e; subst e; exact ⟨_, rfl, h⟩
  | _, _, i + 1, d, .cons _ r, e => by
    obtain ⟨u, h1, h2⟩ := RepA.get (i := i) (d := d) r (by simpa using e)
    exact ⟨u, by simpa using h1, h2⟩
theorem RepA.append : ∀ {vs ws : List V} {ds es : List D}, RepA K F vs ds → RepA K F ws es → RepA K F (vs ++ ws) (ds ++ es)
  | _, _, _, _, .nil, s => s
  | _, _, _, _, .cons h r, s => .cons h (RepA.append r s)
theorem RepA.set {v : V} {d : D} (h : Rep K F v d) : ∀ {vs : List V} {ds : List D} (i : Nat), RepA K F vs ds → RepA K F (vs.set i v) (ds.set i d)
  | _, _, _, .nil => .nil
  | _, _, 0, .cons _ r => .cons h r
  | _, _, i + 1, .cons q r => .cons q (RepA.set h i r)
theorem RepA.take : ∀ {vs : List V} {ds : List D} (n : Nat), RepA K F vs ds → RepA K F (vs.take n) (ds.take n)
  | _, _, 0, _ => .nil
  | _, _, _ + 1, .nil => .nil
  | _, _, n + 1, .cons h r => .cons h (RepA.take n r)
theorem RepA.drop : ∀ {vs : List V} {ds : List D} (n : Nat), RepA K F vs ds → RepA K F (vs.drop n) (ds.drop n)
  | _, _, 0, r => r
  | _, _, _ + 1, .nil => .nil
  | _, _, n + 1, .cons _ r => RepA.drop n r
theorem RepA.reverse : ∀ {vs : List V} {ds : List D}, RepA K F vs ds → RepA K F vs.reverse ds.reverse
  | _, _, .nil => .nil
  | _, _, .cons h r => by
    rw [List.reverse_cons, List.reverse_cons]
    exact RepA.append (RepA.reverse r) (.cons h .nil)
theorem RepA.ofInts : ∀ {ns : List Int}, RepA K F (ns.map V.int) (ns.map D.int)
  | [] => .nil
  | _ :: _ => .cons (.int _) RepA.ofInts
theorem RepA.strs : ∀ {vs : List V} {xs : List Str}, RepA K F vs (xs.map D.str) → vs = xs.map V.str
  | _, [], .nil => rfl
  | _, _ :: _, .cons h r => by cases h; rw [List.map_cons, RepA.strs r]
end
inductive En where
  | shr (d : D) | own (ds : List D)
def En.dat : En → D
  | .shr d => d
  | .own ds => .lst ds
abbrev Gm := List (Option En)
inductive R where
  | val (d : D) | new (ds : List D) | slot (i : Nat)
def R.at (Γ : Gm) : R → Option D
  | .val d => some d
  | .new ds => some (.lst ds)
  | .slot i => match Γ[i]? with
    | some (some e) => some e.dat
    | _ => none
structure Tb where
  K : PySem.W.Frag
  ts : List Addr
  ls : List (Addr × Pos × Str)
def RepE (K : PySem.W.Frag) (F H : Hp) (v : V) : En → Prop
  | .shr d => Rep K F v d
  | .own ds => ∃ a vs, v = .ref a ∧ H a = some (.lst vs) ∧ F a = none ∧ RepA K F vs ds
def Owns (σ : St) (Γ : Gm) (b : Addr) : Prop := ∃ (i : Nat) (ds : List D), Γ[i]? = some (some (En.own ds)) ∧ σ[i]? = some (some (V.ref b))
def NoT (o : HO) : Prop := ∀ ps, o ≠ .tbl ps
structure Ok (T : Tb) (F H : Hp) : Prop where
  sub : Same F H
  nt : ∀ b o, F b = some o → NoT o
  tabs : ∀ P ∈ T.ts, Tab H P
  labs : ∀ p ∈ T.ls, TabL H p.1 p.2.1 p.2.2
structure Rp (T : Tb) (F : Hp) (σ : St) (H : Hp) (Γ : Gm) : Prop extends Ok T F H where
  len : Γ.length = σ.length
  at_ : ∀ (i : Nat) (e : En), Γ[i]? = some (some e) → ∃ v, σ[i]? = some (some v) ∧ RepE T.K F H v e
  apart : ∀ (i j : Nat) (ds ds' : List D) (v : V), Γ[i]? = some (some (En.own ds)) → Γ[j]? = some (some (En.own ds')) → σ[i]? = some (some v) → σ[j]? = some (some v) → i = j
structure Nw (T : Tb) (F H F' H' : Hp) : Prop where
  ok : Ok T F' H'
  ff : Same F F'
  hh : ∀ b o, H b = some o → NoT o → H' b = some o
  gro : ∀ b o, H b = some o → ∃ o', H' b = some o'
  nf : ∀ b o, F' b = some o → F b = some o ∨ H b = none
section
variable {T : Tb} {F F1 F2 F' H H1 H2 H' : Hp} {σ : St} {Γ Γ1 Γ2 Γ' : Gm}
theorem Ok.refl (o : Ok T F H) : Nw T F H F H := ⟨o, fun _ _ h => h, fun _ _ h _ => h, fun _ o h => ⟨o, h⟩, fun _ _ h => .inl h⟩
theorem tab_new {P p : Addr} {o : HO} (h : H p = none) (t : Tab H P) : Tab (upd H p o) P := by
  obtain ⟨ps, e, q⟩ := t
  exact ⟨ps, same_new h o _ _ e, q⟩
theorem tab_lst {P p : Addr} {vs : List V} {o : HO} (h : H p = some (.lst vs)) (t : Tab H P) : Tab (upd H p o) P := by
  obtain ⟨ps, e, q⟩ := t
  refine ⟨ps, ?_, q⟩
  rw [upd_ne (ne_of e h (by intro z; cases z))]
  exact e
theorem codeAt_sub {q : Str} {cv : Value} (x : CodeAt H q cv) (h : ∀ b o, H b = some o → NoT o → H' b = some o ∨ ∃ vs, o = .lst vs) : CodeAt H' q cv := by
  obtain ⟨c, oc, vs, t, e, hc, r⟩ := x
  refine ⟨c, oc, vs, t, e, ?_, r⟩
  rcases h c _ hc (fun _ z => by cases z) with y | ⟨_, y⟩
  · exact y
  · cases y
theorem lab_new {P p : Addr} {pos : Pos} {q : Str} {o : HO} (h : H p = none) (t : TabL H P pos q) : TabL (upd H p o) P pos q := by
  obtain ⟨ps, e, r, c⟩ := t
  exact ⟨ps, same_new h o _ _ e, r, fun cv hcv => codeAt_sub (c cv hcv) fun b u e _ => .inl (same_new h o b u e)⟩
theorem lab_lst {P p : Addr} {pos : Pos} {q : Str} {vs : List V} {o : HO} (h : H p = some (.lst vs)) (t : TabL H P pos q) : TabL (upd H p o) P pos q := by
  obtain ⟨ps, e, r, c⟩ := t
  refine ⟨ps, ?_, r, fun cv hcv => codeAt_sub (c cv hcv) fun b u e _ => ?_⟩
  · rw [upd_ne (ne_of e h (by intro z; cases z))]
    exact e
  · by_cases hb : b = p
    · subst hb
      rw [h] at e
      cases e
      exact .inr ⟨_, rfl⟩
    · exact .inl (by rw [upd_ne hb]; exact e)
theorem Ok.lay (k : Ok T F H) {p : Addr} {o : HO} (hp : H p = none) (nt : NoT o) : Nw T F H (upd F p o) (upd H p o) := by
  have fp : F p = none := by
    cases e : F p with
    | none => rfl
    | some u => have := k.sub _ _ e; rw [hp] at this; cases this
  refine ⟨⟨fun b u e => ?_, fun b u e => ?_, fun P hP => tab_new hp (k.tabs P hP), fun p hP => lab_new hp (k.labs p hP)⟩, same_new fp o, fun b u e _ => same_new hp o b u e, fun b u e => ⟨u, same_new hp o b u e⟩, fun b u e => ?_⟩
  · by_cases hb : b = p
    · subst hb; rw [upd_same] at e ⊢; exact e
    · rw [upd_ne hb] at e ⊢; exact k.sub _ _ e
  · by_cases hb : b = p
    · subst hb; rw [upd_same] at e; cases e; exact nt
    · rw [upd_ne hb] at e; exact k.nt _ _ e
  · by_cases hb : b = p
    · subst hb; exact .inr hp
    · rw [upd_ne hb] at e; exact .inl e
theorem Ok.put (k : Ok T F H) {p : Addr} {o : HO} (hp : H p = none) : Nw T F H F (upd H p o) :=
  ⟨⟨fun b u e => same_new hp o _ _ (k.sub _ _ e), k.nt, fun P hP => tab_new hp (k.tabs P hP), fun p hP => lab_new hp (k.labs p hP)⟩, fun _ _ h => h, fun b u e _ => same_new hp o b u e, fun b u e => ⟨u, same_new hp o b u e⟩, fun _ _ h => .inl h⟩
theorem lst_nt {vs : List V} : NoT (.lst vs) := fun _ z => by cases z
theorem tup_nt {vs : List V} : NoT (.tup vs) := fun _ z => by cases z
theorem RepE.nw {v : V} {e : En} (n : Nw T F H F' H') (h : RepE T.K F H v e) : RepE T.K F' H' v e := by
  cases e with
  | shr d => exact Rep.mono n.ff h
  | own ds =>
    obtain ⟨a, vs, e, ha, fa, r⟩ := h
    refine ⟨a, vs, e, n.hh _ _ ha lst_nt, ?_, r.mono n.ff⟩
    cases q : F' a with
    | none => rfl
    | some o =>
      rcases n.nf a o q with z | z
      · rw [fa] at z; cases z
      · rw [ha] at z; cases z
theorem Rp.nw (r : Rp T F σ H Γ) (n : Nw T F H F' H') : Rp T F' σ H' Γ :=
  ⟨n.ok, r.len, fun i e h => let ⟨v, e1, h1⟩ := r.at_ i e h; ⟨v, e1, h1.nw n⟩, r.apart⟩
structure Po (T : Tb) (F : Hp) (σ : St) (H : Hp) (Γ : Gm) (F' H' : Hp) (Γ' : Gm) : Prop where
  rp : Rp T F' σ H' Γ'
  ff : Same F F'
  fr : ∀ b o, H b = some o → NoT o → ¬ Owns σ Γ b → H' b = some o
  ow : ∀ (i : Nat) (ds : List D), Γ'[i]? = some (some (En.own ds)) → ∃ ds', Γ[i]? = some (some (En.own ds'))
  gro : ∀ b o, H b = some o → ∃ o', H' b = some o'
  nf : ∀ b o, F' b = some o → F b = some o ∨ H b = none ∨ Owns σ Γ b
  sl : ∀ (i : Nat) (e : En), Γ[i]? = some (some e) → ∃ e', Γ'[i]? = some (some e')
theorem Po.ows {b : Addr} (p : Po T F σ H Γ F' H' Γ') (h : Owns σ Γ' b) : Owns σ Γ b := by
  obtain ⟨i, ds, h1, h2⟩ := h
  obtain ⟨ds', h3⟩ := p.ow i ds h1
  exact ⟨i, ds', h3, h2⟩
theorem Rp.po (r : Rp T F σ H Γ) (n : Nw T F H F' H') : Po T F σ H Γ F' H' Γ :=
  ⟨r.nw n, n.ff, fun b o h t _ => n.hh b o h t, fun _ ds h => ⟨ds, h⟩, n.gro, fun b o h => (n.nf b o h).elim .inl fun z => .inr (.inl z), fun _ e h => ⟨e, h⟩⟩
theorem Rp.refl (r : Rp T F σ H Γ) : Po T F σ H Γ F H Γ := r.po r.toOk.refl
theorem Po.trans (p : Po T F σ H Γ F1 H1 Γ1) (q : Po T F1 σ H1 Γ1 F2 H2 Γ2) : Po T F σ H Γ F2 H2 Γ2 where
  rp := q.rp
  ff := fun b o h => q.ff b o (p.ff b o h)
  fr := fun b o h t n => q.fr b o (p.fr b o h t n) t fun z => n (p.ows z)
  ow := fun i ds h => let ⟨ds1, h1⟩ := q.ow i ds h; p.ow i ds1 h1
  gro := fun b o h => let ⟨o1, h1⟩ := p.gro b o h; q.gro b o1 h1
  nf := fun b o h => by
    rcases q.nf b o h with z | z | z
    · exact p.nf b o z
    · cases e : H b with
      | none => exact .inr (.inl rfl)
      | some u => obtain ⟨u', z'⟩ := p.gro b u e; rw [z] at z'; cases z'
    · exact .inr (.inr (p.ows z))
  sl := fun i e h => let ⟨e1, h1⟩ := p.sl i e h; q.sl i e1 h1
theorem Po.nw (p : Po T F σ H Γ F1 H1 Γ1) (n : Nw T F1 H1 F2 H2) : Po T F σ H Γ F2 H2 Γ1 := p.trans (p.rp.po n)
theorem Po.none {b : Addr} (p : Po T F σ H Γ F' H' Γ') (h : H' b = none) : H b = none := by
  cases e : H b with
  | none => rfl
  | some u => obtain ⟨u', z⟩ := p.gro b u e; rw [h] at z; cases z
def RepR (T : Tb) (F : Hp) (σ : St) (H : Hp) (Γ : Gm) (Hs : Hp) (v : V) : R → Prop
  | .val d => Rep T.K F v d
  | .new ds => ∃ a vs, v = .ref a ∧ H a = some (.lst vs) ∧ F a = none ∧ Hs a = none ∧ RepA T.K F vs ds ∧ ¬ Owns σ Γ a
  | .slot i => σ[i]? = some (some v) ∧ ∃ e, Γ[i]? = some (some e)
def PRep (K : PySem.W.Frag) (F H : Hp) (v : V) (d : D) : Prop := Rep K F v d ∨ ∃ a vs ds, v = .ref a ∧ d = .lst ds ∧ H a = some (.lst vs) ∧ RepA K F vs ds
theorem RepR.peek {Hs : Hp} {v : V} {r : R} {d : D} (p : Rp T F σ H Γ) (h : RepR T F σ H Γ Hs v r) (e : r.at Γ = some d) : PRep T.K F H v d := by
  cases r with
  | val d' => cases e; exact .inl h
  | new ds =>
    cases e
    obtain ⟨a, vs, ev, ha, _, _, ra, _⟩ := h
    exact .inr ⟨a, vs, ds, ev, rfl, ha, ra⟩
  | slot i =>
    obtain ⟨e1, en, e2⟩ := h
    simp only [R.at, e2] at e
    cases e
    obtain ⟨v', e3, re⟩ := p.at_ i en e2
    rw [e1] at e3
    cases e3
    cases en with
    | shr d => exact .inl re
    | own ds =>
      obtain ⟨a, vs, ev, ha, _, ra⟩ := re
      exact .inr ⟨a, vs, ds, ev, rfl, ha, ra⟩
def R.hold : R → R
  | .new ds => .val (.lst ds)
  | r => r
theorem frz_new {Fs Hs : Hp} {Γs : Gm} {v : V} {ds : List D} (q : Po T Fs σ Hs Γs F H Γ) (h : RepR T F σ H Γ Hs v (.new ds)) : ∃ F', Po T Fs σ Hs Γs F' H Γ ∧ Same F F' ∧ Rep T.K F' v (.lst ds) := by
  obtain ⟨a, vs, rfl, ha, fa, hs, ra, no⟩ := h
  have p := q.rp
  have ff : Same F (upd F a (.lst vs)) := same_new fa _
  refine ⟨upd F a (.lst vs), ⟨⟨⟨fun b u e => ?_, fun b u e => ?_, p.tabs, p.labs⟩, p.len, fun i e h => ?_, p.apart⟩, fun b o h => ff _ _ (q.ff b o h), q.fr, q.ow, q.gro, fun b o h => ?_, q.sl⟩, ff, .lst upd_same (ra.mono ff)⟩
  · by_cases hb : b = a
    · subst hb; rw [upd_same] at e; cases e; exact ha
    · rw [upd_ne hb] at e; exact p.sub _ _ e
  · by_cases hb : b = a
    · subst hb; rw [upd_same] at e; cases e; exact lst_nt
    · rw [upd_ne hb] at e; exact p.nt _ _ e
  · obtain ⟨w, e1, re⟩ := p.at_ i e h
    refine ⟨w, e1, ?_⟩
    cases e with
    | shr d => exact Rep.mono ff re
    | own es =>
      obtain ⟨b, ws, rfl, hb, fb, rb⟩ := re
      refine ⟨b, ws, rfl, hb, ?_, rb.mono ff⟩
      rw [upd_ne (fun z : b = a => no ⟨i, es, h, by rw [← z]; exact e1⟩)]
      exact fb
  · by_cases hb : b = a
    · subst hb; exact .inr (.inl hs)
    · rw [upd_ne hb] at h; exact q.nf b o h
theorem RepR.held {Fs Hs : Hp} {Γs : Gm} {v : V} {r : R} (q : Po T Fs σ Hs Γs F H Γ) (h : RepR T F σ H Γ Hs v r) : ∃ F', Po T Fs σ Hs Γs F' H Γ ∧ Same F F' ∧ RepR T F' σ H Γ Hs v r.hold := by
  cases r with
  | val d => exact ⟨F, q, fun _ _ h => h, h⟩
  | new ds => exact frz_new q h
  | slot i => exact ⟨F, q, fun _ _ h => h, h⟩
theorem RepR.on {Hs : Hp} {v : V} {r : R} (h : RepR T F σ H Γ Hs v r.hold) (q : Po T F σ H Γ F' H' Γ') : RepR T F' σ H' Γ' Hs v r.hold := by
  cases r with
  | val d => exact Rep.mono q.ff h
  | new ds => exact Rep.mono q.ff h
  | slot i =>
    obtain ⟨e1, e, e2⟩ := h
    exact ⟨e1, q.sl i e e2⟩
def frz (Γ : Gm) : R → Option (D × Gm)
  | .val d => some (d, Γ)
  | .new ds => some (.lst ds, Γ)
  | .slot i => match Γ[i]? with
    | some (some (.shr d)) => some (d, Γ)
    | some (some (.own ds)) => some (.lst ds, Γ.set i (some (.shr (.lst ds))))
    | _ => none
theorem RepR.frz {Fs Hs : Hp} {Γs : Gm} {v : V} {r : R} {d : D} (q : Po T Fs σ Hs Γs F H Γ) (h : RepR T F σ H Γ Hs v r) (e : frz Γ r = some (d, Γ')) : ∃ F', Po T Fs σ Hs Γs F' H Γ' ∧ Same F F' ∧ Rep T.K F' v d := by
  cases r with
  | val d => cases e; exact ⟨F, q, fun _ _ h => h, h⟩
  | new ds => cases e; exact frz_new q h
  | slot i =>
    have p := q.rp
    obtain ⟨e1, en, e2⟩ := h
    simp only [Dt.frz, e2] at e
    obtain ⟨v', e3, re⟩ := p.at_ i en e2
    rw [e1] at e3
    cases e3
    cases en with
    | shr d' => cases e; exact ⟨F, q, fun _ _ h => h, re⟩
    | own ds =>
      cases e
      obtain ⟨a, vs, rfl, ha, fa, ra⟩ := re
      have ff : Same F (upd F a (.lst vs)) := same_new fa _
      have hil : i < Γ.length := (List.getElem?_eq_some_iff.mp e2).1
      have get : ∀ (j : Nat) (e : En), (Γ.set i (some (.shr (.lst ds))))[j]? = some (some e) → (j = i ∧ e = .shr (.lst ds)) ∨ (j ≠ i ∧ Γ[j]? = some (some e)) := fun j e hj => by
        by_cases hji : j = i
        · subst hji
          rw [List.getElem?_set_self hil] at hj
          cases hj
          exact .inl ⟨rfl, rfl⟩
        · rw [List.getElem?_set_ne (Ne.symm hji)] at hj
          exact .inr ⟨hji, hj⟩
      have ow : ∀ (j : Nat) (es : List D), (Γ.set i (some (.shr (.lst ds))))[j]? = some (some (En.own es)) → Γ[j]? = some (some (En.own es)) := fun j es h1 => by
        rcases get j _ h1 with ⟨_, z⟩ | ⟨_, z⟩
        · cases z
        · exact z
      have rr : Rep T.K (upd F a (.lst vs)) (.ref a) (.lst ds) := .lst upd_same (ra.mono ff)
      refine ⟨upd F a (.lst vs), ⟨⟨⟨fun b u e => ?_, fun b u e => ?_, p.tabs, p.labs⟩, by simpa using p.len, fun j e h => ?_, fun j k es es' w h1 h2 h3 h4 => ?_⟩, fun b o h => ff _ _ (q.ff b o h), q.fr, fun j es h => q.ow j es (ow j es h), q.gro, fun b o h => ?_, fun j e h => ?_⟩, ff, rr⟩
      · by_cases hb : b = a
        · subst hb; rw [upd_same] at e; cases e; exact ha
        · rw [upd_ne hb] at e; exact p.sub _ _ e
      · by_cases hb : b = a
        · subst hb; rw [upd_same] at e; cases e; exact lst_nt
        · rw [upd_ne hb] at e; exact p.nt _ _ e
      · rcases get j e h with ⟨rfl, rfl⟩ | ⟨hji, h⟩
        · exact ⟨_, e1, rr⟩
        · obtain ⟨w, e3, re⟩ := p.at_ j e h
          refine ⟨w, e3, ?_⟩
          cases e with
          | shr d => exact Rep.mono ff re
          | own es =>
            obtain ⟨b, ws, rfl, hb, fb, rb⟩ := re
            refine ⟨b, ws, rfl, hb, ?_, rb.mono ff⟩
            rw [upd_ne (fun z : b = a => hji (p.apart j i es ds _ h e2 e3 (by rw [z]; exact e1)))]
            exact fb
      · rcases get j _ h1 with ⟨_, z⟩ | ⟨_, h1⟩
        · cases z
        rcases get k _ h2 with ⟨_, z⟩ | ⟨_, h2⟩
        · cases z
        exact p.apart j k es es' w h1 h2 h3 h4
      · by_cases hb : b = a
        · subst hb; exact .inr (.inr (q.ows ⟨i, ds, e2, e1⟩))
        · rw [upd_ne hb] at h; exact q.nf b o h
      · obtain ⟨e', h'⟩ := q.sl j e h
        by_cases hji : j = i
        · subst hji
          exact ⟨_, List.getElem?_set_self hil⟩
        · exact ⟨e', by rw [List.getElem?_set_ne (Ne.symm hji)]; exact h'⟩
theorem PRep.of {K : PySem.W.Frag} {v : V} {d : D} (h : Rep K F v d) : PRep K F H v d := .inl h
theorem PRep.int {K : PySem.W.Frag} {v : V} {i : Int} (h : PRep K F H v (.int i)) : v = .int i := by
  rcases h with h | ⟨_, _, _, _, z, _⟩
  · cases h; rfl
  · cases z
theorem PRep.str {K : PySem.W.Frag} {v : V} {x : Str} (h : PRep K F H v (.str x)) : v = .str x := by
  rcases h with h | ⟨_, _, _, _, z, _⟩
  · cases h; rfl
  · cases z
theorem PRep.bl {K : PySem.W.Frag} {v : V} {b : Bool} (h : PRep K F H v (.bl b)) : v = .bl b := by
  rcases h with h | ⟨_, _, _, _, z, _⟩
  · cases h; rfl
  · cases z
theorem PRep.non {K : PySem.W.Frag} {v : V} (h : PRep K F H v .non) : v = .non := by
  rcases h with h | ⟨_, _, _, _, z, _⟩
  · cases h; rfl
  · cases z
theorem PRep.lst {K : PySem.W.Frag} {v : V} {ds : List D} (s : Same F H) (h : PRep K F H v (.lst ds)) : ∃ a vs, v = .ref a ∧ L2.Rd H a (.lst vs) ∧ RepA K F vs ds := by
  rcases h with h | ⟨a, vs, ds, e, z, ha, r⟩
  · cases h with | lst h r => exact ⟨_, _, rfl, .inl (s _ _ h), r⟩
  · cases z; exact ⟨a, vs, e, .inl ha, r⟩
theorem PRep.scr {K : PySem.W.Frag} {v : V} {ds : List D} (s : Same F H) (h : PRep K F H v (.scr ds)) : ∃ a vs, v = .ref a ∧ SqL K H a vs ∧ RepA K F vs ds := by
  rcases h with h | ⟨_, _, _, _, z, _⟩
  · cases h with | scr h r => exact ⟨_, _, rfl, sql_same h s, r⟩
  · cases z
theorem PRep.tup {K : PySem.W.Frag} {v : V} {ds : List D} (s : Same F H) (h : PRep K F H v (.tup ds)) : ∃ a vs, v = .ref a ∧ SqT K H a vs ∧ RepA K F vs ds := by
  rcases h with h | ⟨_, _, _, _, z, _⟩
  · cases h with | tup h r => exact ⟨_, _, rfl, sqt_same h s, r⟩
  · cases z
inductive PRepA (K : PySem.W.Frag) (F H : Hp) : List V → List D → Prop
  | nil : PRepA K F H [] []
  | cons {v : V} {d : D} {vs : List V} {ds : List D} : PRep K F H v d → PRepA K F H vs ds → PRepA K F H (v :: vs) (d :: ds)
theorem PRepA.one {K : PySem.W.Frag} {vs : List V} {d : D} (h : PRepA K F H vs [d]) : ∃ v, vs = [v] ∧ PRep K F H v d := by
  cases h with | cons h r => cases r; exact ⟨_, rfl, h⟩
theorem PRepA.two {K : PySem.W.Frag} {vs : List V} {d e : D} (h : PRepA K F H vs [d, e]) : ∃ v w, vs = [v, w] ∧ PRep K F H v d ∧ PRep K F H w e := by
  cases h with | cons h r => cases r with | cons h2 r => cases r; exact ⟨_, _, rfl, h, h2⟩
def RepN (T : Tb) (F' H H' : Hp) (v : V) : R → Prop
  | .val d => Rep T.K F' v d
  | .new ds => ∃ a vs, v = .ref a ∧ H' a = some (.lst vs) ∧ F' a = none ∧ H a = none ∧ RepA T.K F' vs ds
  | .slot _ => False
theorem Rp.owns {b : Addr} (p : Rp T F σ H Γ) (h : Owns σ Γ b) : ∃ vs, H b = some (.lst vs) ∧ F b = none := by
  obtain ⟨i, ds, e1, e2⟩ := h
  obtain ⟨v, e3, a, vs, rfl, ha, fa, _⟩ := p.at_ i _ e1
  rw [e2] at e3
  cases e3
  exact ⟨vs, ha, fa⟩
theorem RepN.toR {Fs Hs : Hp} {Γs : Gm} {v : V} {r : R} (q : Po T Fs σ Hs Γs F H Γ) (h : RepN T F' H H' v r) : RepR T F' σ H' Γ Hs v r := by
  cases r with
  | val d => exact h
  | new ds =>
    obtain ⟨a, vs, e, ha, fa, na, ra⟩ := h
    refine ⟨a, vs, e, ha, fa, q.none na, ra, fun z => ?_⟩
    obtain ⟨ws, hb, _⟩ := q.rp.owns z
    rw [na] at hb
    cases hb
  | slot i => exact h.elim
structure XD where
  c : Str
  ns : List Str
  ds : List D
def XE (T : Tb) (F' H' : Hp) (E : XK) (xd : XD) : Prop := ∀ C : Addr, PySem.W.nsIn T.K mainGlobals xd.c = some (some (.ref C)) → (xd.ns = [] → E (.ref C) none H') ∧ ∀ (dx : Addr) (vs : List V), H' dx = some (.xd (xd.ns.zip vs)) → RepA T.K F' vs xd.ds → E (.ref C) (some dx) H'
def XO (T : Tb) (σ : St) (E : XK) (Ξ : XD → Prop) (F H : Hp) (Γ : Gm) : Prop := ∀ F' H' Γ' xd, Ξ xd → Po T F σ H Γ F' H' Γ' → XE T F' H' E xd
theorem XO.on {E : XK} {Ξ : XD → Prop} (x : XO T σ E Ξ F H Γ) (q : Po T F σ H Γ F' H' Γ') : XO T σ E Ξ F' H' Γ' := fun F2 H2 Γ2 xd h p => x F2 H2 Γ2 xd h (q.trans p)
abbrev WE := Gm → (R → Gm → Prop) → (XD → Prop) → Prop
abbrev WT := Gm → (Bool → Gm → Prop) → (XD → Prop) → Prop
abbrev WA := Gm → (List R → Gm → Prop) → (XD → Prop) → Prop
def ED (T : Tb) (E : XK) (t : TE) (w : WE) : Prop := ∀ (F : Hp) (σ : St) (H : Hp) (Γ : Gm) (Q : VK) (Ψ : R → Gm → Prop) (Ξ : XD → Prop), Rp T F σ H Γ → w Γ Ψ Ξ → XO T σ E Ξ F H Γ →
  (∀ F' H' Γ' v r, Ψ r Γ' → Po T F σ H Γ F' H' Γ' → RepR T F' σ H' Γ' H v r → Q v H') → t σ H Q
def TD (T : Tb) (E : XK) (t : TT) (w : WT) : Prop := ∀ (F : Hp) (σ : St) (H : Hp) (Γ : Gm) (Q : Bool → Hp → Prop) (Ψ : Bool → Gm → Prop) (Ξ : XD → Prop), Rp T F σ H Γ → w Γ Ψ Ξ → XO T σ E Ξ F H Γ →
  (∀ F' H' Γ' b, Ψ b Γ' → Po T F σ H Γ F' H' Γ' → Q b H') → t σ H Q
inductive RepRs (T : Tb) (F : Hp) (σ : St) (H : Hp) (Γ : Gm) (Hs : Hp) : List V → List R → Prop
  | nil : RepRs T F σ H Γ Hs [] []
  | cons {v : V} {r : R} {vs : List V} {rs : List R} : RepR T F σ H Γ Hs v r.hold → RepRs T F σ H Γ Hs vs rs → RepRs T F σ H Γ Hs (v :: vs) (r.hold :: rs)
def AD (T : Tb) (E : XK) (t : TA) (w : WA) : Prop := ∀ (F : Hp) (σ : St) (H : Hp) (Γ : Gm) (Q : List V → Hp → Prop) (Ψ : List R → Gm → Prop) (Ξ : XD → Prop), Rp T F σ H Γ → w Γ Ψ Ξ → XO T σ E Ξ F H Γ →
  (∀ F' H' Γ' vs rs, Ψ rs Γ' → Po T F σ H Γ F' H' Γ' → RepRs T F' σ H' Γ' H vs rs → Q vs H') → t σ H Q
variable {E : XK} {t ta tb tc te : TE} {w wa wb wc we : WE}
def wVar (i : Nat) : WE := fun Γ Ψ _ => ∃ e, Γ[i]? = some (some e) ∧ Ψ (match e with | .shr d => .val d | .own _ => .slot i) Γ
theorem ed_var (i : Nat) : ED T E (tVar i) (wVar i) := fun F σ H Γ Q Ψ Ξ p h _ k => by
  obtain ⟨e, h1, h2⟩ := h
  obtain ⟨v, e1, r⟩ := p.at_ i e h1
  refine ⟨v, e1, k F H Γ v _ h2 p.refl ?_⟩
  cases e with
  | shr d => exact r
  | own ds => exact ⟨e1, _, h1⟩
def wC (d : D) : WE := fun Γ Ψ _ => Ψ (.val d) Γ
theorem ed_c {v : V} {d : D} (h : ∀ F, Rep T.K F v d) : ED T E (tC v) (wC d) := fun F σ H Γ Q Ψ Ξ p h1 _ k => k F H Γ v _ h1 p.refl (h F)
def OD (T : Tb) (r : L2.R2) (g : D → D → (R → Prop) → Prop) : Prop := ∀ (F H : Hp) (x y : V) (d e : D) (Q : VK) (Ψ : R → Prop), Ok T F H → PRep T.K F H x d → PRep T.K F H y e → g d e Ψ →
  (∀ F' H' v r, Ψ r → Nw T F H F' H' → RepN T F' H H' v r → Q v H') → r x y H Q
def wOp (g : D → D → (R → Prop) → Prop) (wa wb : WE) : WE := fun Γ Ψ Ξ => wa Γ (fun r1 Γ1 => wb Γ1 (fun r2 Γ2 => ∃ d1 d2, r1.at Γ2 = some d1 ∧ r2.at Γ2 = some d2 ∧ g d1 d2 fun r => Ψ r Γ2) Ξ) Ξ
theorem R.at_hold (Γ : Gm) (r : R) : r.hold.at Γ = r.at Γ := by cases r <;> rfl
theorem ed_op {r : L2.R2} {g : D → D → (R → Prop) → Prop} (o : OD T r g) (ha : ED T E ta wa) (hb : ED T E tb wb) : ED T E (tOp r ta tb) (wOp g wa wb) := by
  intro F σ H Γ Q Ψ Ξ p h x k
  refine ha F σ H Γ _ _ Ξ p h x fun F1 H1 Γ1 v1 r1 h1 q1 e1 => ?_
  obtain ⟨F2, q2, s2, e2⟩ := RepR.held q1 e1
  refine hb F2 σ H1 Γ1 _ _ Ξ q2.rp h1 (x.on q2) fun F3 H3 Γ3 v2 r2 h3 q3 e3 => ?_
  obtain ⟨d1, d2, a1, a2, hg⟩ := h3
  have e2' := e2.on q3
  rw [← R.at_hold] at a1
  refine o F3 H3 v1 v2 d1 d2 Q _ q3.rp.toOk (e2'.peek q3.rp a1) (e3.peek q3.rp a2) hg fun F4 H4 v r h4 n4 e4 => ?_
  have q := q2.trans q3
  exact k F4 H4 Γ3 v r h4 (q.nw n4) (e4.toR q)
def UD (T : Tb) (r : V → Hp → VK → Prop) (g : D → (R → Prop) → Prop) : Prop := ∀ (F H : Hp) (x : V) (d : D) (Q : VK) (Ψ : R → Prop), Ok T F H → PRep T.K F H x d → g d Ψ →
  (∀ F' H' v r, Ψ r → Nw T F H F' H' → RepN T F' H H' v r → Q v H') → r x H Q
def wUn (g : D → (R → Prop) → Prop) (wa : WE) : WE := fun Γ Ψ Ξ => wa Γ (fun r1 Γ1 => ∃ d1, r1.at Γ1 = some d1 ∧ g d1 fun r => Ψ r Γ1) Ξ
theorem ed_un {r : V → Hp → VK → Prop} {g : D → (R → Prop) → Prop} (o : UD T r g) (ha : ED T E ta wa) : ED T E (tUn r ta) (wUn g wa) := by
  intro F σ H Γ Q Ψ Ξ p h x k
  refine ha F σ H Γ _ _ Ξ p h x fun F1 H1 Γ1 v1 r1 h1 q1 e1 => ?_
  obtain ⟨d1, a1, hg⟩ := h1
  exact o F1 H1 v1 d1 Q _ q1.rp.toOk (e1.peek q1.rp a1) hg fun F4 H4 v r h4 n4 e4 => k F4 H4 Γ1 v r h4 (q1.nw n4) (e4.toR q1)
def wB (w : WE) : WT := fun Γ Ψ Ξ => w Γ (fun r Γ1 => ∃ b, r.at Γ1 = some (.bl b) ∧ Ψ b Γ1) Ξ
theorem td_b (h : ED T E t w) : TD T E (tB t) (wB w) := fun F σ H Γ Q Ψ Ξ p h1 x k => h F σ H Γ _ _ Ξ p h1 x fun F' H' Γ' v r hr q e => by
  obtain ⟨b, a, hb⟩ := hr
  exact ⟨b, (e.peek q.rp a).bl, k F' H' Γ' b hb q⟩
variable {t1 t2 : TT} {w1 w2 : WT}
def wNot (w : WT) : WT := fun Γ Ψ Ξ => w Γ (fun b Γ1 => Ψ (!b) Γ1) Ξ
theorem td_not (h : TD T E t1 w1) : TD T E (tNot t1) (wNot w1) := fun F σ H Γ Q Ψ Ξ p h1 x k => h F σ H Γ _ _ Ξ p h1 x fun F' H' Γ' b hb q => k F' H' Γ' _ hb q
def wAnd (w1 w2 : WT) : WT := fun Γ Ψ Ξ => w1 Γ (fun b Γ1 => if b = true then w2 Γ1 Ψ Ξ else Ψ false Γ1) Ξ
theorem td_and (h : TD T E t1 w1) (h' : TD T E t2 w2) : TD T E (tAnd t1 t2) (wAnd w1 w2) := fun F σ H Γ Q Ψ Ξ p h1 x k => h F σ H Γ _ _ Ξ p h1 x fun F' H' Γ' b hb q => by
  cases b with
  | true => exact h' F' σ H' Γ' _ _ Ξ q.rp hb (x.on q) fun F2 H2 Γ2 b2 hb2 q2 => k F2 H2 Γ2 b2 hb2 (q.trans q2)
  | false => exact k F' H' Γ' _ hb q
def wOr (w1 w2 : WT) : WT := fun Γ Ψ Ξ => w1 Γ (fun b Γ1 => if b = true then Ψ true Γ1 else w2 Γ1 Ψ Ξ) Ξ
theorem td_or (h : TD T E t1 w1) (h' : TD T E t2 w2) : TD T E (tOr t1 t2) (wOr w1 w2) := fun F σ H Γ Q Ψ Ξ p h1 x k => h F σ H Γ _ _ Ξ p h1 x fun F' H' Γ' b hb q => by
  cases b with
  | false => exact h' F' σ H' Γ' _ _ Ξ q.rp hb (x.on q) fun F2 H2 Γ2 b2 hb2 q2 => k F2 H2 Γ2 b2 hb2 (q.trans q2)
  | true => exact k F' H' Γ' _ hb q
def wIf (w1 : WT) (wa wb : WE) : WE := fun Γ Ψ Ξ => w1 Γ (fun b Γ1 => if b = true then wa Γ1 Ψ Ξ else wb Γ1 Ψ Ξ) Ξ
theorem ed_if (h : TD T E t1 w1) (ha : ED T E ta wa) (hb : ED T E tb wb) : ED T E (tIf t1 ta tb) (wIf w1 wa wb) := fun F σ H Γ Q Ψ Ξ p h1 x k => h F σ H Γ _ _ Ξ p h1 x fun F' H' Γ' b hb1 q => by
  have fin : ∀ {F2 H2 Γ2 v r}, Po T F' σ H' Γ' F2 H2 Γ2 → RepR T F2 σ H2 Γ2 H' v r → RepR T F2 σ H2 Γ2 H v r := fun {F2 H2 Γ2 v r} q2 e => by
    cases r with
    | val d => exact e
    | new ds => obtain ⟨a, vs, e1, e2, e3, e4, e5⟩ := e; exact ⟨a, vs, e1, e2, e3, q.none e4, e5⟩
    | slot i => exact e
  cases b with
  | true => exact ha F' σ H' Γ' _ _ Ξ q.rp hb1 (x.on q) fun F2 H2 Γ2 v r hr q2 e => k F2 H2 Γ2 v r hr (q.trans q2) (fin q2 e)
  | false => exact hb F' σ H' Γ' _ _ Ξ q.rp hb1 (x.on q) fun F2 H2 Γ2 v r hr q2 e => k F2 H2 Γ2 v r hr (q.trans q2) (fin q2 e)
theorem RepR.back {Hs : Hp} {v : V} {r : R} (q : Po T F1 σ Hs Γ1 F H Γ) (e : RepR T F' σ H' Γ' H v r) : RepR T F' σ H' Γ' Hs v r := by
  cases r with
  | val d => exact e
  | new ds => obtain ⟨a, vs, e1, e2, e3, e4, e5⟩ := e; exact ⟨a, vs, e1, e2, e3, q.none e4, e5⟩
  | slot i => exact e
def wAndV (wa wb : WE) : WE := fun Γ Ψ Ξ => wa Γ (fun r Γ1 => ∃ c, r.at Γ1 = some (.bl c) ∧ if c = true then wb Γ1 Ψ Ξ else Ψ (.val (.bl false)) Γ1) Ξ
theorem ed_and (ha : ED T E ta wa) (hb : ED T E tb wb) : ED T E (tAndV ta tb) (wAndV wa wb) := fun F σ H Γ Q Ψ Ξ p h1 x k => ha F σ H Γ _ _ Ξ p h1 x fun F' H' Γ' v r hr q e => by
  obtain ⟨c, a, hc⟩ := hr
  refine ⟨c, (e.peek q.rp a).bl, ?_⟩
  cases c with
  | true => exact hb F' σ H' Γ' _ _ Ξ q.rp hc (x.on q) fun F2 H2 Γ2 v r hr q2 e => k F2 H2 Γ2 v r hr (q.trans q2) (e.back q)
  | false => exact k F' H' Γ' _ _ hc q (Rep.bl _)
def wOrV (wa wb : WE) : WE := fun Γ Ψ Ξ => wa Γ (fun r Γ1 => ∃ c, r.at Γ1 = some (.bl c) ∧ if c = true then Ψ (.val (.bl true)) Γ1 else wb Γ1 Ψ Ξ) Ξ
theorem ed_or (ha : ED T E ta wa) (hb : ED T E tb wb) : ED T E (tOrV ta tb) (wOrV wa wb) := fun F σ H Γ Q Ψ Ξ p h1 x k => ha F σ H Γ _ _ Ξ p h1 x fun F' H' Γ' v r hr q e => by
  obtain ⟨c, a, hc⟩ := hr
  refine ⟨c, (e.peek q.rp a).bl, ?_⟩
  cases c with
  | false => exact hb F' σ H' Γ' _ _ Ξ q.rp hc (x.on q) fun F2 H2 Γ2 v r hr q2 e => k F2 H2 Γ2 v r hr (q.trans q2) (e.back q)
  | true => exact k F' H' Γ' _ _ hc q (Rep.bl _)
def wNotV (wa : WE) : WE := fun Γ Ψ Ξ => wa Γ (fun r Γ1 => ∃ c, r.at Γ1 = some (.bl c) ∧ Ψ (.val (.bl (!c))) Γ1) Ξ
theorem ed_not (ha : ED T E ta wa) : ED T E (tNotV ta) (wNotV wa) := fun F σ H Γ Q Ψ Ξ p h1 x k => ha F σ H Γ _ _ Ξ p h1 x fun F' H' Γ' v r hr q e => by
  obtain ⟨c, a, hc⟩ := hr
  exact ⟨c, (e.peek q.rp a).bl, k F' H' Γ' _ _ hc q (Rep.bl _)⟩
def BD (T : Tb) (r : L2.R2) (g : D → D → (Bool → Prop) → Prop) : Prop := ∀ (F H : Hp) (x y : V) (d e : D) (Q : VK) (Ψ : Bool → Prop), Ok T F H → PRep T.K F H x d → PRep T.K F H y e → g d e Ψ → (∀ b, Ψ b → Q (.bl b) H) → r x y H Q
theorem BD.od {r : L2.R2} {g : D → D → (Bool → Prop) → Prop} (h : BD T r g) : OD T r (fun d e Ψ => g d e fun b => Ψ (.val (.bl b))) := fun F H x y d e Q Ψ o h1 h2 hg k =>
  h F H x y d e Q _ o h1 h2 hg fun b hb => k F H _ _ hb o.refl (Rep.bl _)
def wChain (g g' : D → D → (Bool → Prop) → Prop) (wa wb wc : WE) : WE := fun Γ Ψ Ξ => wa Γ (fun r1 Γ1 => wb Γ1 (fun r2 Γ2 => ∃ d1 d2, r1.at Γ2 = some d1 ∧ r2.at Γ2 = some d2 ∧ g d1 d2 fun b => if b = true then wc Γ2 (fun r3 Γ3 => ∃ d2 d3, r2.at Γ3 = some d2 ∧ r3.at Γ3 = some d3 ∧ g' d2 d3 fun b => Ψ (.val (.bl b)) Γ3) Ξ else Ψ (.val (.bl false)) Γ2) Ξ) Ξ
theorem ed_chain {r r' : L2.R2} {g g' : D → D → (Bool → Prop) → Prop} (o : BD T r g) (o' : BD T r' g') (ha : ED T E ta wa) (hb : ED T E tb wb) (hc : ED T E tc wc) : ED T E (tChain r r' ta tb tc) (wChain g g' wa wb wc) := by
  intro F σ H Γ Q Ψ Ξ p h x k
  refine ha F σ H Γ _ _ Ξ p h x fun F1 H1 Γ1 v1 r1 h1 q1 e1 => ?_
  obtain ⟨F2, q2, s2, e2⟩ := RepR.held q1 e1
  refine hb F2 σ H1 Γ1 _ _ Ξ q2.rp h1 (x.on q2) fun F3 H3 Γ3 v2 r2 h3 q3 e3 => ?_
  obtain ⟨d1, d2, a1, a2, hg⟩ := h3
  have e2' := e2.on q3
  rw [← R.at_hold] at a1
  obtain ⟨F4, q4, s4, e4⟩ := RepR.held (q2.trans q3) (e3.back q2)
  have a2' := a2
  rw [← R.at_hold] at a2'
  refine o F4 H3 v1 v2 d1 d2 _ _ q4.rp.toOk ?_ (e4.peek q4.rp a2') hg fun b hb1 => ?_
  · rcases e2'.peek q3.rp a1 with z | ⟨a, vs, ds, z1, z2, z3, z4⟩
    · exact .inl (z.mono s4)
    · exact .inr ⟨a, vs, ds, z1, z2, z3, z4.mono s4⟩
  refine ⟨b, rfl, ?_⟩
  cases b with
  | false => exact k F4 H3 Γ3 _ _ hb1 q4 (Rep.bl _)
  | true =>
    refine hc F4 σ H3 Γ3 _ _ Ξ q4.rp hb1 (x.on q4) fun F5 H5 Γ5 v3 r3 h5 q5 e5 => ?_
    obtain ⟨d2', d3, a3, a4, hg'⟩ := h5
    rw [← R.at_hold] at a3
    exact o' F5 H5 v2 v3 d2' d3 Q _ q5.rp.toOk ((e4.on q5).peek q5.rp a3) (e5.peek q5.rp a4) hg' fun b hb2 => k F5 H5 Γ5 _ _ hb2 (q4.trans q5) (Rep.bl _)
variable {tA : TA} {wA : WA}
def wANil : WA := fun Γ Ψ _ => Ψ [] Γ
theorem ad_nil : AD T E tNil wANil := fun F σ H Γ Q Ψ Ξ p h x k => k F H Γ _ _ h p.refl .nil
def wACons (w : WE) (u : WA) : WA := fun Γ Ψ Ξ => w Γ (fun r Γ1 => u Γ1 (fun rs Γ2 => Ψ (r.hold :: rs) Γ2) Ξ) Ξ
theorem RepRs.back {Hs : Hp} {vs : List V} {rs : List R} (q : Po T F1 σ Hs Γ1 F H Γ) : RepRs T F' σ H' Γ' H vs rs → RepRs T F' σ H' Γ' Hs vs rs
  | .nil => .nil
  | .cons h r => .cons (h.back q) (RepRs.back q r)
theorem ad_cons (h : ED T E t w) (h' : AD T E tA wA) : AD T E (tCons t tA) (wACons w wA) := by
  intro F σ H Γ Q Ψ Ξ p h1 x k
  refine h F σ H Γ _ _ Ξ p h1 x fun F1 H1 Γ1 v r hr q e => ?_
  obtain ⟨F2, q2, s2, e2⟩ := RepR.held q e
  exact h' F2 σ H1 Γ1 _ _ Ξ q2.rp hr (x.on q2) fun F3 H3 Γ3 vs rs hrs q3 e3 => k F3 H3 Γ3 _ _ hrs (q2.trans q3) (.cons (e2.on q3) (e3.back q2))
def ats (Γ : Gm) : List R → Option (List D)
  | [] => some []
  | r :: rs => match r.at Γ, ats Γ rs with
    | some d, some ds => some (d :: ds)
    | _, _ => none
theorem RepRs.peek {Hs : Hp} (p : Rp T F σ H Γ) : ∀ {vs : List V} {rs : List R} {ds : List D}, RepRs T F σ H Γ Hs vs rs → ats Γ rs = some ds → PRepA T.K F H vs ds
  | _, _, _, .nil, e => by cases e; exact .nil
  | _, _, _, .cons (r := r) (rs := rs) h rr, e => by
    unfold ats at e
    split at e
    · rename_i d ds' e1 e2
      cases e
      exact .cons (h.peek p e1) (RepRs.peek p rr e2)
    · cases e
def CD (T : Tb) (r : List V → Hp → VK → Prop) (g : List D → (R → Prop) → Prop) : Prop := ∀ (F H : Hp) (vs : List V) (ds : List D) (Q : VK) (Ψ : R → Prop), Ok T F H → PRepA T.K F H vs ds → g ds Ψ →
  (∀ F' H' v r, Ψ r → Nw T F H F' H' → RepN T F' H H' v r → Q v H') → r vs H Q
def wCB (g : List D → (R → Prop) → Prop) (wA : WA) : WE := fun Γ Ψ Ξ => wA Γ (fun rs Γ1 => ∃ ds, ats Γ1 rs = some ds ∧ g ds fun r => Ψ r Γ1) Ξ
theorem ed_cb {r : List V → Hp → VK → Prop} {g : List D → (R → Prop) → Prop} (c : CD T r g) (h : AD T E tA wA) : ED T E (tCB r tA) (wCB g wA) := fun F σ H Γ Q Ψ Ξ p h1 x k => h F σ H Γ _ _ Ξ p h1 x fun F1 H1 Γ1 vs rs hr q e => by
  obtain ⟨ds, a, hg⟩ := hr
  exact c F1 H1 vs ds Q _ q.rp.toOk (e.peek q.rp a) hg fun F4 H4 v r h4 n4 e4 => k F4 H4 Γ1 v r h4 (q.nw n4) (e4.toR q)
def frzL (Γ : Gm) : List R → Option (List D × Gm)
  | [] => some ([], Γ)
  | r :: rs => match frz Γ r with
    | some (d, Γ1) => match frzL Γ1 rs with
      | some (ds, Γ2) => some (d :: ds, Γ2)
      | none => none
    | none => none
theorem frz_sl {r : R} {d : D} (e : frz Γ r = some (d, Γ')) : ∀ (i : Nat) (en : En), Γ[i]? = some (some en) → ∃ e', Γ'[i]? = some (some e') := fun i en h => by
  cases r with
  | val d => cases e; exact ⟨_, h⟩
  | new ds => cases e; exact ⟨_, h⟩
  | slot j =>
    simp only [frz] at e
    split at e
    · cases e; exact ⟨_, h⟩
    · rename_i ds e1
      cases e
      have hil : j < Γ.length := (List.getElem?_eq_some_iff.mp e1).1
      by_cases hj : i = j
      · subst hj; exact ⟨_, List.getElem?_set_self hil⟩
      · exact ⟨en, by rw [List.getElem?_set_ne (Ne.symm hj)]; exact h⟩
    · cases e
theorem RepRs.sl {Hs : Hp} (ff : Same F F') (sl : ∀ (i : Nat) (en : En), Γ[i]? = some (some en) → ∃ e', Γ'[i]? = some (some e')) : ∀ {vs : List V} {rs : List R}, RepRs T F σ H Γ Hs vs rs → RepRs T F' σ H Γ' Hs vs rs
  | _, _, .nil => .nil
  | _, _, .cons (r := r) h rr => by
    refine .cons ?_ (RepRs.sl ff sl rr)
    cases r with
    | val d => exact Rep.mono ff h
    | new ds => exact Rep.mono ff h
    | slot i => obtain ⟨e1, e, e2⟩ := h; exact ⟨e1, sl i e e2⟩
theorem RepRs.frz {Fs Hs : Hp} {Γs : Gm} : ∀ {vs : List V} {rs : List R} {ds : List D} {F : Hp} {Γ Γ' : Gm}, Po T Fs σ Hs Γs F H Γ → RepRs T F σ H Γ Hs vs rs → frzL Γ rs = some (ds, Γ') → ∃ F', Po T Fs σ Hs Γs F' H Γ' ∧ Same F F' ∧ RepA T.K F' vs ds
  | _, _, _, F, _, _, q, .nil, e => by cases e; exact ⟨F, q, fun _ _ h => h, .nil⟩
  | _, _, _, F, Γ, Γ', q, .cons (r := r) (rs := rs) h rr, e => by
    unfold frzL at e
    split at e
    · rename_i d Γ1 e1
      split at e
      · rename_i ds' Γ2 e2
        cases e
        obtain ⟨F1, q1, s1, r1⟩ := h.frz q e1
        obtain ⟨F2, q2, s2, r2⟩ := RepRs.frz q1 (rr.sl s1 (frz_sl e1)) e2
        exact ⟨F2, q2, fun b o h => s2 b o (s1 b o h), .cons (r1.mono s2) r2⟩
      · cases e
    · cases e
def wTup (wA : WA) : WE := fun Γ Ψ Ξ => wA Γ (fun rs Γ1 => ∃ ds Γ2, frzL Γ1 rs = some (ds, Γ2) ∧ ds.length ≤ sizeLine ∧ Ψ (.val (.tup ds)) Γ2) Ξ
theorem ed_tup (h : AD T E tA wA) : ED T E (tTup tA) (wTup wA) := fun F σ H Γ Q Ψ Ξ p h1 x k => h F σ H Γ _ _ Ξ p h1 x fun F1 H1 Γ1 vs rs hr q e => by
  obtain ⟨ds, Γ2, a, hl, hp⟩ := hr
  obtain ⟨F2, q2, s2, r2⟩ := e.frz q a
  refine ⟨by rw [r2.length]; exact hl, fun p hp0 => ?_⟩
  have n := q2.rp.toOk.lay (o := .tup vs) hp0 tup_nt
  exact k _ _ Γ2 _ _ hp (q2.nw n) (Rep.tup (.inl (.inl upd_same)) (r2.mono n.ff))
def wLst (wA : WA) : WE := fun Γ Ψ Ξ => wA Γ (fun rs Γ1 => ∃ ds Γ2, frzL Γ1 rs = some (ds, Γ2) ∧ ds.length ≤ sizeLine ∧ Ψ (.new ds) Γ2) Ξ
theorem ed_lst (h : AD T E tA wA) : ED T E (tLst tA) (wLst wA) := fun F σ H Γ Q Ψ Ξ p h1 x k => h F σ H Γ _ _ Ξ p h1 x fun F1 H1 Γ1 vs rs hr q e => by
  obtain ⟨ds, Γ2, a, hl, hp⟩ := hr
  obtain ⟨F2, q2, s2, r2⟩ := e.frz q a
  refine ⟨by rw [r2.length]; exact hl, fun p hp0 => ?_⟩
  have n := q2.rp.toOk.put (o := .lst vs) hp0
  have fp : F2 p = none := by
    cases e : F2 p with
    | none => rfl
    | some u => have := q2.rp.sub _ _ e; rw [hp0] at this; cases this
  exact k _ _ Γ2 _ _ hp (q2.nw n) (RepN.toR (F' := F2) (H' := upd H1 p (.lst vs)) q2 (r := .new ds) ⟨p, vs, rfl, upd_same, fp, hp0, r2⟩)
end
end Dt
set_option Elab.async false
set_option linter.all false
set_option maxRecDepth 100000
set_option autoImplicit false
namespace Dt
open PySem L2 Kx
section
variable {T : Tb} {F F1 F2 F' H H1 H2 H' : Hp} {σ : St} {Γ Γ1 Γ2 Γ' : Gm} {E : XK} {t ta tb tc te : TE} {w wa wb wc we : WE} {tA : TA} {wA : WA}
abbrev WF := List D → List D → (R → List D → Prop) → (XD → Prop) → Prop
structure Fx (T : Tb) (io : Bool) (ra : Addr) (F H F' H' : Hp) : Prop where
  ok : Ok T F' H'
  ff : Same F F'
  hh : ∀ b o, H b = some o → NoT o → ¬ (io = true ∧ b = ra) → H' b = some o
  gro : ∀ b o, H b = some o → ∃ o', H' b = some o'
  nf : ∀ b o, F' b = some o → F b = some o ∨ H b = none ∨ (io = true ∧ b = ra)
theorem Fx.nw {ra : Addr} (x : Fx T false ra F H F' H') : Nw T F H F' H' :=
  ⟨x.ok, x.ff, fun b o h n => x.hh b o h n (fun z => by cases z.1), x.gro, fun b o h => (x.nf b o h).elim .inl fun z => z.elim .inr fun y => by cases y.1⟩
theorem Nw.fx {io : Bool} {ra : Addr} (x : Nw T F H F' H') : Fx T io ra F H F' H' := ⟨x.ok, x.ff, fun b o h n _ => x.hh b o h n, x.gro, fun b o h => (x.nf b o h).elim .inl fun z => .inr (.inl z)⟩
def spD (T : Tb) (io : Bool) (wf : WF) : Sp := fun vs H Q E => ∃ (F : Hp) (ra : Addr) (rv : List V) (row : List D) (vs' : List V) (ds : List D) (Ψ : R → List D → Prop) (Ξ : XD → Prop),
  Ok T F H ∧ vs = (if io then .ref ra :: vs' else vs') ∧ (io = true → H ra = some (.lst rv) ∧ F ra = none ∧ RepA T.K F rv row) ∧ RepA T.K F vs' ds ∧ wf ds row Ψ Ξ ∧
  (∀ F' H' v r row', Ψ r row' → Fx T io ra F H F' H' → (io = true → ∃ rv', H' ra = some (.lst rv') ∧ F' ra = none ∧ RepA T.K F' rv' row') → RepN T F' H H' v r → Q v H') ∧
  ∀ F' H' xd, Ξ xd → Fx T io ra F H F' H' → XE T F' H' E xd
theorem po_io {i : Nat} {row row' : List D} {ra : Addr} {rv' : List V} (p : Rp T F σ H Γ) (hi : Γ[i]? = some (some (.own row))) (hσ : σ[i]? = some (some (.ref ra))) (x : Fx T true ra F H F' H') (h' : H' ra = some (.lst rv')) (f' : F' ra = none) (r' : RepA T.K F' rv' row') :
    Po T F σ H Γ F' H' (Γ.set i (some (.own row'))) := by
  have hil : i < Γ.length := (List.getElem?_eq_some_iff.mp hi).1
  have get : ∀ (j : Nat) (e : En), (Γ.set i (some (.own row')))[j]? = some (some e) → (j = i ∧ e = .own row') ∨ (j ≠ i ∧ Γ[j]? = some (some e)) := fun j e hj => by
    by_cases hji : j = i
    · subst hji
      rw [List.getElem?_set_self hil] at hj
      cases hj
      exact .inl ⟨rfl, rfl⟩
    · rw [List.getElem?_set_ne (Ne.symm hji)] at hj
      exact .inr ⟨hji, hj⟩
  have own : Owns σ Γ ra := ⟨i, row, hi, hσ⟩
  refine ⟨⟨x.ok, by simpa using p.len, fun j e h => ?_, fun j k es es' v h1 h2 h3 h4 => ?_⟩, x.ff, fun b o h n no => x.hh b o h n fun z => no (z.2 ▸ own), fun j es h => ?_, x.gro, fun b o h => ?_, fun j e h => ?_⟩
  · rcases get j e h with ⟨rfl, rfl⟩ | ⟨hji, h⟩
    · exact ⟨_, hσ, ra, rv', rfl, h', f', r'⟩
    · obtain ⟨v, e1, re⟩ := p.at_ j e h
      refine ⟨v, e1, ?_⟩
      cases e with
      | shr d => exact Rep.mono x.ff re
      | own es =>
        obtain ⟨b, ws, rfl, hb, fb, rb⟩ := re
        have hne : b ≠ ra := fun z => hji (p.apart j i es row _ h hi e1 (by rw [z]; exact hσ))
        refine ⟨b, ws, rfl, x.hh b _ hb lst_nt fun z => hne z.2, ?_, rb.mono x.ff⟩
        cases q : F' b with
        | none => rfl
        | some o =>
          rcases x.nf b o q with z | z | z
          · rw [fb] at z; cases z
          · rw [hb] at z; cases z
          · exact absurd z.2 hne
  · have one : ∀ (j : Nat) (es : List D), (Γ.set i (some (.own row')))[j]? = some (some (.own es)) → ∃ es', Γ[j]? = some (some (.own es')) := fun j es h => by
      rcases get j _ h with ⟨rfl, _⟩ | ⟨_, h⟩
      · exact ⟨row, hi⟩
      · exact ⟨es, h⟩
    obtain ⟨_, h1⟩ := one j es h1
    obtain ⟨_, h2⟩ := one k es' h2
    exact p.apart j k _ _ v h1 h2 h3 h4
  · rcases get j _ h with ⟨rfl, _⟩ | ⟨_, h1⟩
    · exact ⟨row, hi⟩
    · exact ⟨es, h1⟩
  · rcases x.nf b o h with z | z | z
    · exact .inl z
    · exact .inr (.inl z)
    · exact .inr (.inr (z.2 ▸ own))
  · by_cases hji : j = i
    · subst hji; exact ⟨_, List.getElem?_set_self hil⟩
    · exact ⟨e, by rw [List.getElem?_set_ne (Ne.symm hji)]; exact h⟩
def callW (io : Bool) (wf : WF) (rs : List R) (Γ : Gm) (Ψ : R → Gm → Prop) (Ξ : XD → Prop) : Prop := match io with
  | false => ∃ ds Γ1, frzL Γ rs = some (ds, Γ1) ∧ wf ds [] (fun r _ => Ψ r Γ1) Ξ
  | true => ∃ i rest ds Γ1 row, rs = .slot i :: rest ∧ frzL Γ rest = some (ds, Γ1) ∧ Γ1[i]? = some (some (.own row)) ∧ wf ds row (fun r row' => Ψ r (Γ1.set i (some (.own row')))) fun _ => False
def wCall (io : Bool) (wf : WF) (wA : WA) : WE := fun Γ Ψ Ξ => wA Γ (fun rs Γ1 => callW io wf rs Γ1 Ψ Ξ) Ξ
theorem RepRs.cons_inv {Hs : Hp} {v : V} {vs : List V} {r : R} {rs : List R} (h : RepRs T F σ H Γ Hs (v :: vs) (r :: rs)) : RepR T F σ H Γ Hs v r ∧ RepRs T F σ H Γ Hs vs rs := by
  generalize e1 : v :: vs = vv at h
  generalize e2 : r :: rs = rr at h
  cases h with
  | nil => cases e1
  | cons h1 h2 => cases e1; cases e2; exact ⟨h1, h2⟩
theorem RepRs.len {Hs : Hp} : ∀ {vs : List V} {rs : List R}, RepRs T F σ H Γ Hs vs rs → vs.length = rs.length
  | _, _, .nil => rfl
  | _, _, .cons _ r => congrArg (· + 1) (RepRs.len r)
theorem call_d {io : Bool} {wf : WF} {Fs Hs : Hp} {Γs : Gm} {vs : List V} {rs : List R} {Ψ : R → Gm → Prop} {Ξ : XD → Prop} {Q : VK} (q : Po T Fs σ Hs Γs F H Γ) (e : RepRs T F σ H Γ Hs vs rs) (h : callW io wf rs Γ Ψ Ξ) (x : XO T σ E Ξ Fs Hs Γs)
    (k : ∀ F' H' Γ' v r, Ψ r Γ' → Po T Fs σ Hs Γs F' H' Γ' → RepR T F' σ H' Γ' Hs v r → Q v H') : spD T io wf vs H Q E := by
  cases io with
  | false =>
    obtain ⟨ds, Γ1, a, hw⟩ := h
    obtain ⟨F1, q1, s1, r1⟩ := e.frz q a
    refine ⟨F1, 0, [], [], vs, ds, _, Ξ, q1.rp.toOk, rfl, (fun z => by cases z), r1, hw, fun F' H' v r row' hr f _ e' => ?_, fun F' H' xd hx f => x F' H' Γ1 xd hx (q1.nw f.nw)⟩
    exact k F' H' Γ1 v r hr (q1.nw f.nw) (e'.toR q1)
  | true =>
    obtain ⟨i, rest, ds, Γ1, row, rfl, a, hi, hw⟩ := h
    cases vs with
    | nil => have := e.len; simp at this
    | cons v0 vs =>
    obtain ⟨⟨e1, en, e2⟩, er⟩ := e.cons_inv
    obtain ⟨F1, q1, s1, r1⟩ := er.frz q a
    obtain ⟨v', e3, ra, rv, rfl, hra, fra, rra⟩ := q1.rp.at_ i _ hi
    rw [e1] at e3
    cases e3
    refine ⟨F1, ra, rv, row, vs, ds, _, _, q1.rp.toOk, rfl, fun _ => ⟨hra, fra, rra⟩, r1, hw, fun F' H' v r row' hr f hrow e' => ?_, fun F' H' xd hx f => hx.elim⟩
    obtain ⟨rv', h1, h2, h3⟩ := hrow rfl
    have q2 := po_io q1.rp hi e1 f h1 h2 h3
    refine k F' H' _ v r hr (q1.trans q2) ?_
    cases r with
    | val d => exact e'
    | new es =>
      obtain ⟨b, ws, eb, hb, fb, nb, rb⟩ := e'
      refine ⟨b, ws, eb, hb, fb, q1.none nb, rb, fun z => ?_⟩
      obtain ⟨ws', hb', _⟩ := q1.rp.owns (q2.ows z)
      rw [nb] at hb'
      cases hb'
    | slot j => exact e'.elim
theorem ed_call {io : Bool} {wf : WF} (h : AD T E tA wA) : ED T E (tCall (spD T io wf) [] E tA) (wCall io wf wA) := fun F σ H Γ Q Ψ Ξ p h1 x k => h F σ H Γ _ _ Ξ p h1 x fun F1 H1 Γ1 vs rs hr q e => by
  rw [List.append_nil]
  exact call_d q e hr x k
structure WEnds where
  nx : Gm → Prop
  rt : R → Gm → Prop
  bk : Gm → Prop
  ct : Gm → Prop
  xe : XD → Prop
abbrev WS := WEnds → Gm → Prop
structure Rs (T : Tb) (io : Bool) (H0 F0 : Hp) (ra : Addr) (F : Hp) (σ : St) (H : Hp) (Γ : Gm) : Prop where
  rp : Rp T F σ H Γ
  ff : Same F0 F
  en : ∀ b o, H0 b = some o → NoT o → ¬ (io = true ∧ b = ra) → H b = some o
  fr : ∀ b, Owns σ Γ b → (io = true ∧ b = ra) ∨ H0 b = none
  gro : ∀ b o, H0 b = some o → ∃ o', H b = some o'
  nf : ∀ b o, F b = some o → F0 b = some o ∨ H0 b = none ∨ (io = true ∧ b = ra)
  par : io = true → σ[0]? = some (some (.ref ra))
theorem Rs.po {io : Bool} {H0 F0 : Hp} {ra : Addr} (s : Rs T io H0 F0 ra F σ H Γ) (q : Po T F σ H Γ F' H' Γ') : Rs T io H0 F0 ra F' σ H' Γ' where
  rp := q.rp
  ff := fun b o h => q.ff b o (s.ff b o h)
  en := fun b o h n z => q.fr b o (s.en b o h n z) n fun y => (s.fr b y).elim z fun u => by rw [h] at u; cases u
  fr := fun b h => s.fr b (q.ows h)
  gro := fun b o h => let ⟨o1, h1⟩ := s.gro b o h; q.gro b o1 h1
  nf := fun b o h => by
    rcases q.nf b o h with z | z | z
    · exact s.nf b o z
    · cases e : H0 b with
      | none => exact .inr (.inl rfl)
      | some u => obtain ⟨u', z'⟩ := s.gro b u e; rw [z] at z'; cases z'
    · rcases s.fr b z with y | y
      · exact .inr (.inr y)
      · exact .inr (.inl y)
  par := s.par
theorem Rs.none {io : Bool} {H0 F0 : Hp} {ra b : Addr} (s : Rs T io H0 F0 ra F σ H Γ) (h : H b = none) : H0 b = none := by
  cases e : H0 b with
  | none => rfl
  | some u => obtain ⟨u', z⟩ := s.gro b u e; rw [h] at z; cases z
structure EO (T : Tb) (io : Bool) (H0 F0 : Hp) (ra : Addr) (E : XK) (D : Ends) (Ψ : WEnds) : Prop where
  nx : ∀ F σ H Γ, Ψ.nx Γ → Rs T io H0 F0 ra F σ H Γ → D.nx σ H
  bk : ∀ F σ H Γ, Ψ.bk Γ → Rs T io H0 F0 ra F σ H Γ → D.bk σ H
  ct : ∀ F σ H Γ, Ψ.ct Γ → Rs T io H0 F0 ra F σ H Γ → D.ct σ H
  rt : ∀ F σ H Γ v r, Ψ.rt r Γ → Rs T io H0 F0 ra F σ H Γ → RepR T F σ H Γ H0 v r → D.rt v H
  xe : ∀ F σ H Γ xd, Ψ.xe xd → Rs T io H0 F0 ra F σ H Γ → XE T F H E xd
theorem EO.xo {io : Bool} {H0 F0 : Hp} {ra : Addr} {D : Ends} {Ψ : WEnds} (e : EO T io H0 F0 ra E D Ψ) (s : Rs T io H0 F0 ra F σ H Γ) : XO T σ E Ψ.xe F H Γ := fun F' H' Γ' xd h q => e.xe F' σ H' Γ' xd h (s.po q)
def SD (T : Tb) (io : Bool) (E : XK) (t : TS) (w : WS) : Prop := ∀ (H0 F0 : Hp) (ra : Addr) (F : Hp) (σ : St) (H : Hp) (Γ : Gm) (D : Ends) (Ψ : WEnds), Rs T io H0 F0 ra F σ H Γ → w Ψ Γ → EO T io H0 F0 ra E D Ψ → t D σ H
variable {io : Bool} {s1 s2 : TS} {u1 u2 : WS} {t1 : TT} {w1 : WT}
def wNext : WS := fun Ψ Γ => Ψ.nx Γ
theorem sd_next : SD T io E tNext wNext := fun H0 F0 ra F σ H Γ D Ψ s h e => e.nx F σ H Γ h s
def wSeq (u1 u2 : WS) : WS := fun Ψ Γ => u1 { Ψ with nx := u2 Ψ } Γ
theorem sd_seq (h : SD T io E s1 u1) (h' : SD T io E s2 u2) : SD T io E (tSeq s1 s2) (wSeq u1 u2) := fun H0 F0 ra F σ H Γ D Ψ s hw e =>
  h H0 F0 ra F σ H Γ _ _ s hw ⟨fun F1 σ1 H1 Γ1 h1 s1 => h' H0 F0 ra F1 σ1 H1 Γ1 D Ψ s1 h1 e, e.bk, e.ct, e.rt, e.xe⟩
def wBreak : WS := fun Ψ Γ => Ψ.bk Γ
def wCont : WS := fun Ψ Γ => Ψ.ct Γ
def wDrop (w : WE) : WS := fun Ψ Γ => w Γ (fun _ Γ1 => Ψ.nx Γ1) Ψ.xe
def wRet (w : WE) : WS := fun Ψ Γ => w Γ Ψ.rt Ψ.xe
theorem sd_ret (h : ED T E t w) : SD T io E (tRet t) (wRet w) := fun H0 F0 ra F σ H Γ D Ψ s hw e => h F σ H Γ _ _ _ s.rp hw (e.xo s) fun F1 H1 Γ1 v r hr q er => e.rt F1 σ H1 Γ1 v r hr (s.po q) (by
  cases r with
  | val d => exact er
  | new ds => obtain ⟨a, vs, e1, e2, e3, e4, e5⟩ := er; exact ⟨a, vs, e1, e2, e3, s.none e4, e5⟩
  | slot i => exact er)
def wRetN : WS := fun Ψ Γ => Ψ.rt (.val .non) Γ
def wIfS (w : WT) (u1 u2 : WS) : WS := fun Ψ Γ => w Γ (fun b Γ1 => if b = true then u1 Ψ Γ1 else u2 Ψ Γ1) Ψ.xe
theorem sd_if (h : TD T E t1 w1) (h1 : SD T io E s1 u1) (h2 : SD T io E s2 u2) : SD T io E (tIfS t1 s1 s2) (wIfS w1 u1 u2) := fun H0 F0 ra F σ H Γ D Ψ s hw e => h F σ H Γ _ _ _ s.rp hw (e.xo s) fun F1 H1 Γ1 b hb q => by
  cases b with
  | true => exact h1 H0 F0 ra F1 σ H1 Γ1 D Ψ (s.po q) hb e
  | false => exact h2 H0 F0 ra F1 σ H1 Γ1 D Ψ (s.po q) hb e
theorem sd_never : SD T io E tNever (fun _ _ => False) := fun H0 F0 ra F σ H Γ D Ψ s h e => h
theorem Rs.set {H0 F0 : Hp} {ra : Addr} {i : Nat} {v : V} {e : En} (s : Rs T io H0 F0 ra F σ H Γ) (h : RepE T.K F H v e) (hi : i ≠ 0 ∨ io = false) (hn : ∀ ds, e = .own ds → ∀ a, v = .ref a → ¬ Owns σ Γ a ∧ H0 a = Option.none) :
    Rs T io H0 F0 ra F (σ.set i (some v)) H (Γ.set i (some e)) := by
  have p := s.rp
  have get : ∀ (j : Nat) (e' : En), (Γ.set i (some e))[j]? = some (some e') → (j = i ∧ i < Γ.length ∧ e' = e) ∨ (j ≠ i ∧ Γ[j]? = some (some e')) := fun j e' hj => by
    by_cases hji : j = i
    · subst hji
      have hl : j < (Γ.set j (some e)).length := (List.getElem?_eq_some_iff.mp hj).1
      rw [List.length_set] at hl
      rw [List.getElem?_set_self hl] at hj
      cases hj
      exact .inl ⟨rfl, hl, rfl⟩
    · rw [List.getElem?_set_ne (Ne.symm hji)] at hj
      exact .inr ⟨hji, hj⟩
  have ne : ∀ {j : Nat}, j ≠ i → (σ.set i (some v))[j]? = σ[j]? := fun {j} h => List.getElem?_set_ne (Ne.symm h)
  have self : i < Γ.length → (σ.set i (some v))[i]? = some (some v) := fun h => List.getElem?_set_self (by rw [← p.len]; exact h)
  have ow : ∀ b, Owns (σ.set i (some v)) (Γ.set i (some e)) b → Owns σ Γ b ∨ (v = .ref b ∧ ∃ ds, e = .own ds) := fun b ⟨j, ds, h1, h2⟩ => by
    rcases get j _ h1 with ⟨rfl, hl, z⟩ | ⟨hj, z⟩
    · rw [self hl] at h2
      cases h2
      exact .inr ⟨rfl, ds, z.symm⟩
    · rw [ne hj] at h2
      exact .inl ⟨j, ds, z, h2⟩
  refine ⟨⟨p.toOk, by simpa using p.len, fun j e' hj => ?_, fun j k es es' x h1 h2 h3 h4 => ?_⟩, s.ff, s.en, fun b hb => ?_, s.gro, s.nf, fun z => ?_⟩
  · rcases get j e' hj with ⟨rfl, hl, rfl⟩ | ⟨hji, hj⟩
    · exact ⟨v, self hl, h⟩
    · rw [ne hji]
      exact p.at_ j e' hj
  · rcases get j _ h1 with ⟨rfl, hl, z⟩ | ⟨hj, h1'⟩
    · rcases get k _ h2 with ⟨rfl, _, _⟩ | ⟨hk, h2'⟩
      · rfl
      · rw [self hl] at h3
        cases h3
        rw [ne hk] at h4
        obtain ⟨a, vs, ev, _⟩ := z ▸ h
        subst ev
        exact absurd ⟨k, es', h2', h4⟩ (hn es z.symm a rfl).1
    · rcases get k _ h2 with ⟨rfl, hl, z⟩ | ⟨hk, h2'⟩
      · rw [self hl] at h4
        cases h4
        rw [ne hj] at h3
        obtain ⟨a, vs, ev, _⟩ := z ▸ h
        subst ev
        exact absurd ⟨j, es, h1', h3⟩ (hn es' z.symm a rfl).1
      · rw [ne hj] at h3
        rw [ne hk] at h4
        exact p.apart j k es es' x h1' h2' h3 h4
  · rcases ow b hb with z | ⟨rfl, ds, z⟩
    · exact s.fr b z
    · exact .inr (hn ds z b rfl).2
  · have h0 := s.par z
    have hi0 : i ≠ 0 := hi.elim id fun y => by rw [y] at z; cases z
    rw [ne (Ne.symm hi0)]
    exact h0
def putW (i : Nat) (r : R) (Γ : Gm) (k : Gm → Prop) : Prop := match r with
  | .val d => k (Γ.set i (some (.shr d)))
  | .new ds => k (Γ.set i (some (.own ds)))
  | .slot j => ∃ d Γ1, frz Γ (.slot j) = some (d, Γ1) ∧ k (Γ1.set i (some (.shr d)))
theorem put_d {H0 F0 : Hp} {ra : Addr} {i : Nat} {v : V} {r : R} {k : Gm → Prop} (s : Rs T io H0 F0 ra F σ H Γ) (q : Po T F σ H Γ F' H' Γ') (e : RepR T F' σ H' Γ' H v r) (hi : i ≠ 0 ∨ io = false) (h : putW i r Γ' k) :
    ∃ F2 Γ2, k Γ2 ∧ Rs T io H0 F0 ra F2 (σ.set i (some v)) H' Γ2 := by
  cases r with
  | val d => exact ⟨F', _, h, (s.po q).set (e := .shr d) e hi (fun _ z => by cases z)⟩
  | new ds =>
    obtain ⟨a, vs, rfl, ha, fa, na, ra', no⟩ := e
    exact ⟨F', _, h, (s.po q).set (e := .own ds) ⟨a, vs, rfl, ha, fa, ra'⟩ hi fun _ _ b z => by cases z; exact ⟨no, s.none na⟩⟩
  | slot j =>
    obtain ⟨d, Γ1, a, h⟩ := h
    obtain ⟨F2, q2, s2, r2⟩ := RepR.frz q e a
    exact ⟨F2, _, h, (s.po q2).set (e := .shr d) r2 hi (fun _ z => by cases z)⟩
def wSet (i : Nat) (w : WE) : WS := fun Ψ Γ => w Γ (fun r Γ1 => putW i r Γ1 Ψ.nx) Ψ.xe
theorem sd_set {i : Nat} (h : ED T E t w) (hi : i ≠ 0 ∨ io = false) : SD T io E (tAsg t (gName i)) (wSet i w) := fun H0 F0 ra F σ H Γ D Ψ s hw e => h F σ H Γ _ _ _ s.rp hw (e.xo s) fun F1 H1 Γ1 v r hr q er => by
  obtain ⟨F2, Γ2, k, s2⟩ := put_d s q er hi hr
  exact e.nx F2 _ H1 Γ2 k s2
abbrev WG := D → Gm → (Gm → Prop) → Prop
abbrev WGs := List D → Gm → (Gm → Prop) → Prop
def GD (T : Tb) (io : Bool) (g : TG) (w : WG) : Prop := ∀ (H0 F0 : Hp) (ra : Addr) (F : Hp) (σ : St) (H : Hp) (Γ : Gm) (v : V) (d : D) (Q : St → Hp → Prop) (k : Gm → Prop), Rs T io H0 F0 ra F σ H Γ → Rep T.K F v d → w d Γ k → (∀ F' σ' Γ', k Γ' → Same F F' → Rs T io H0 F0 ra F' σ' H Γ' → Q σ' H) → g v σ H Q
def GDs (T : Tb) (io : Bool) (g : TGs) (w : WGs) : Prop := ∀ (H0 F0 : Hp) (ra : Addr) (F : Hp) (σ : St) (H : Hp) (Γ : Gm) (vs : List V) (ds : List D) (Q : St → Hp → Prop) (k : Gm → Prop), Rs T io H0 F0 ra F σ H Γ → RepA T.K F vs ds → w ds Γ k → (∀ F' σ' Γ', k Γ' → Same F F' → Rs T io H0 F0 ra F' σ' H Γ' → Q σ' H) → g vs σ H Q
variable {g : TG} {gs : TGs} {wg : WG} {wgs : WGs}
def wgName (i : Nat) : WG := fun d Γ k => k (Γ.set i (some (.shr d)))
theorem gd_name {i : Nat} (hi : i ≠ 0 ∨ io = false) : GD T io (gName i) (wgName i) := fun H0 F0 ra F σ H Γ v d Q k s r h z => z F _ _ h (fun _ _ h => h) (s.set (e := .shr d) r hi (fun _ z => by cases z))
def wgNil : WGs := fun ds Γ k => ds = [] ∧ k Γ
theorem gd_nil : GDs T io gNil wgNil := fun H0 F0 ra F σ H Γ vs ds Q k s r h z => by
  obtain ⟨rfl, h⟩ := h
  cases r
  exact ⟨rfl, z F σ Γ h (fun _ _ h => h) s⟩
def wgCons (w : WG) (u : WGs) : WGs := fun ds Γ k => ∃ d es, ds = d :: es ∧ w d Γ fun Γ1 => u es Γ1 k
theorem gd_cons (h : GD T io g wg) (h' : GDs T io gs wgs) : GDs T io (gCons g gs) (wgCons wg wgs) := fun H0 F0 ra F σ H Γ vs ds Q k s r hw z => by
  obtain ⟨d, es, rfl, hw⟩ := hw
  cases r with
  | cons r1 r2 =>
    refine ⟨_, _, rfl, h H0 F0 ra F σ H Γ _ _ _ _ s r1 hw fun F1 σ1 Γ1 h1 f1 s1 => ?_⟩
    exact h' H0 F0 ra F1 σ1 H Γ1 _ _ _ _ s1 (r2.mono f1) h1 fun F2 σ2 Γ2 h2 f2 s2 => z F2 σ2 Γ2 h2 (fun b o h => f2 b o (f1 b o h)) s2
def wgTup (n : Nat) (u : WGs) : WG := fun d Γ k => ∃ ds, d = .tup ds ∧ ds.length = n ∧ u ds Γ k
theorem gd_tup {n : Nat} (h : GDs T io gs wgs) : GD T io (gTup T.K n gs) (wgTup n wgs) := fun H0 F0 ra F σ H Γ v d Q k s r hw z => by
  obtain ⟨ds, rfl, hn, hw⟩ := hw
  cases r with
  | tup hs ra' => exact ⟨_, _, rfl, sqt_same hs s.rp.sub, by rw [ra'.length]; exact hn, h H0 F0 ra F σ H Γ _ _ _ _ s ra' hw z⟩
def wAsg (w : WE) (wg : WG) : WS := fun Ψ Γ => w Γ (fun r Γ1 => ∃ d Γ2, frz Γ1 r = some (d, Γ2) ∧ wg d Γ2 Ψ.nx) Ψ.xe
theorem sd_asg (h : ED T E t w) (h' : GD T io g wg) : SD T io E (tAsg t g) (wAsg w wg) := fun H0 F0 ra F σ H Γ D Ψ s hw e => h F σ H Γ _ _ _ s.rp hw (e.xo s) fun F1 H1 Γ1 v r hr q er => by
  obtain ⟨d, Γ2, a, hg⟩ := hr
  obtain ⟨F2, q2, s2, r2⟩ := RepR.frz q er a
  exact h' H0 F0 ra F2 σ H1 Γ2 v d _ _ (s.po q2) r2 hg fun F3 σ3 Γ3 h3 _ s3 => e.nx F3 σ3 H1 Γ3 h3 s3
theorem po_own {i : Nat} {ds ds' : List D} {a : Addr} {vs vs' : List V} (p : Rp T F σ H Γ) (hi : Γ[i]? = some (some (.own ds))) (hσ : σ[i]? = some (some (.ref a))) (ha : H a = some (.lst vs)) (fa : F a = none) (r : RepA T.K F vs' ds') :
    Po T F σ H Γ F (upd H a (.lst vs')) (Γ.set i (some (.own ds'))) := by
  refine po_io p hi hσ (rv' := vs') ⟨⟨fun b o h => ?_, p.nt, fun P hP => tab_lst ha (p.tabs P hP), fun l hP => lab_lst ha (p.labs l hP)⟩, fun _ _ h => h, fun b o h _ n => ?_, fun b o h => ?_, fun b o h => .inl h⟩ upd_same fa r
  · rw [upd_ne fun z => by rw [z, fa] at h; cases h]
    exact p.sub _ _ h
  · rw [upd_ne fun z => n ⟨rfl, z⟩]
    exact h
  · by_cases hb : b = a
    · subst hb; exact ⟨_, upd_same⟩
    · exact ⟨o, by rw [upd_ne hb]; exact h⟩
def wPutAt (i : Nat) (w wk : WE) : WS := fun Ψ Γ => w Γ (fun r Γ1 => ∃ d Γ2 en, frz Γ1 r = some (d, Γ2) ∧ Γ2[i]? = some (some en) ∧ wk Γ2 (fun rk Γ3 => ∃ k ds j, rk.at Γ3 = some (.int k) ∧ Γ3[i]? = some (some (.own ds)) ∧ ixN ds.length k = some j ∧ Ψ.nx (Γ3.set i (some (.own (ds.set j d))))) Ψ.xe) Ψ.xe
theorem sd_putAt {i : Nat} {tk : TE} {wk : WE} (h : ED T E t w) (hk : ED T E tk wk) : SD T io E (tAsg t (gSub (tVar i) tk rSetL)) (wPutAt i w wk) := fun H0 F0 ra F σ H Γ D Ψ s hw e => h F σ H Γ _ _ _ s.rp hw (e.xo s) fun F1 H1 Γ1 v r hr q er => by
  obtain ⟨d, Γ2, en, a, hen, hg⟩ := hr
  obtain ⟨F2, q2, s2, r2⟩ := RepR.frz q er a
  have s2' := s.po q2
  obtain ⟨u, hu, _⟩ := q2.rp.at_ i en hen
  refine ⟨u, hu, ?_⟩
  refine hk F2 σ H1 Γ2 _ _ _ q2.rp hg (e.xo s2') fun F3 H3 Γ3 y rk hr3 q3 e3 => ?_
  obtain ⟨k, ds, j, a1, hi, hj, hn⟩ := hr3
  obtain ⟨u', e4, b, vs, rfl, hb, fb, rb⟩ := q3.rp.at_ i _ hi
  rw [hu] at e4
  cases e4
  refine ⟨b, vs, k, j, rfl, (e3.peek q3.rp a1).int, hb, by rw [rb.length]; exact hj, ?_⟩
  exact e.nx F3 σ _ _ hn (s2'.po (q3.trans (po_own q3.rp hi hu hb fb (RepA.set (r2.mono q3.ff) j rb))))
def wAugAt (i : Nat) (wk w : WE) (g : D → D → (R → Prop) → Prop) : WS := fun Ψ Γ => ∃ en, Γ[i]? = some (some en) ∧ wk Γ (fun rk Γ1 => ∃ k ds j d, rk.at Γ1 = some (.int k) ∧ Γ1[i]? = some (some (.own ds)) ∧ ixN ds.length k = some j ∧ ds[j]? = some d ∧
  w Γ1 (fun r Γ2 => ∃ e ds2, r.at Γ2 = some e ∧ Γ2[i]? = some (some (.own ds2)) ∧ ds2.length = ds.length ∧ g d e fun r => ∃ z, r = .val z ∧ Ψ.nx (Γ2.set i (some (.own (ds2.set j z))))) Ψ.xe) Ψ.xe
def wPar (i j : Nat) (wA : WA) : WS := fun Ψ Γ => wA Γ (fun rs Γ1 => ∃ d e Γ2, frzL Γ1 rs = some ([d, e], Γ2) ∧ Ψ.nx ((Γ2.set i (some (.shr d))).set j (some (.shr e)))) Ψ.xe
theorem sd_par {i j : Nat} (h : AD T E tA wA) (hi : (i ≠ 0 ∧ j ≠ 0) ∨ io = false) : SD T io E (tPar i j tA) (wPar i j wA) := fun H0 F0 ra F σ H Γ D Ψ s hw e => h F σ H Γ _ _ _ s.rp hw (e.xo s) fun F1 H1 Γ1 vs rs hr q er => by
  obtain ⟨d, e', Γ2, a, hn⟩ := hr
  obtain ⟨F2, q2, s2, r2⟩ := RepRs.frz q er a
  cases r2 with
  | cons r1 r2 =>
    cases r2 with
    | cons r2 r3 =>
      cases r3
      refine ⟨_, _, rfl, e.nx F2 _ H1 _ hn (((s.po q2).set (e := .shr d) r1 (hi.imp (·.1) id) (fun _ z => by cases z)).set (e := .shr e') r2 (hi.imp (·.2) id) (fun _ z => by cases z))⟩
def wAug (i : Nat) (w : WE) (g : D → D → (R → Prop) → Prop) : WS := fun Ψ Γ => ∃ d, Γ[i]? = some (some (.shr d)) ∧ w Γ (fun r Γ1 => ∃ e, r.at Γ1 = some e ∧ g d e fun r => putW i r Γ1 Ψ.nx) Ψ.xe
def Wk (T : Tb) (F : Hp) (J : It) (ds : List D) : Prop := ∀ (F' H' : Hp) (i : Nat), Same F F' → Ok T F' H' → (i = ds.length → J.stop i H') ∧ ∀ d, ds[i]? = some d → J.go i H' ∧ ∀ x H'', J.yld i H' x H'' → ∃ F'', Nw T F' H' F'' H'' ∧ Rep T.K F'' x d
abbrev WI := Gm → (List D → Gm → Prop) → (XD → Prop) → Prop
def ID (T : Tb) (E : XK) (wi : TI) (w : WI) : Prop := ∀ (F : Hp) (σ : St) (H : Hp) (Γ : Gm) (Q : It → Hp → Prop) (Ψ : List D → Gm → Prop) (Ξ : XD → Prop), Rp T F σ H Γ → w Γ Ψ Ξ → XO T σ E Ξ F H Γ →
  (∀ F' H' Γ' J ds, Ψ ds Γ' → Po T F σ H Γ F' H' Γ' → Wk T F' J ds → Q J H') → wi σ H Q
theorem Rs.same {H0 F0 : Hp} {ra : Addr} (s : Rs T io H0 F0 ra F σ H Γ) : Rs T io H0 F0 ra F σ H Γ := s
def wFor (wi : WI) (wg : WG) (u : WS) : WS := fun Ψ Γ => wi Γ (fun ds Γ1 => ∃ I : Nat → Gm → Prop, I 0 Γ1 ∧ (∀ i Γ d, I i Γ → ds[i]? = some d → wg d Γ fun Γ2 => u { Ψ with nx := I (i + 1), ct := I (i + 1), bk := Ψ.nx } Γ2) ∧ ∀ Γ, I ds.length Γ → Ψ.nx Γ) Ψ.xe
theorem sd_for {wi : TI} {wI : WI} {s1 : TS} {u1 : WS} (hi : ID T E wi wI) (hg : GD T io g wg) (hb : SD T io E s1 u1) : SD T io E (tFor wi g s1) (wFor wI wg u1) := fun H0 F0 ra F σ H Γ D Ψ s hw e => hi F σ H Γ _ _ _ s.rp hw (e.xo s) fun F1 H1 Γ1 J ds hr q wk => by
  obtain ⟨I, h0, hs, hd⟩ := hr
  refine ⟨fun i m σ H => m = ds.length - i ∧ i ≤ ds.length ∧ ∃ F Γ, I i Γ ∧ Same F1 F ∧ Rs T io H0 F0 ra F σ H Γ, ⟨ds.length, by simp, Nat.zero_le _, F1, Γ1, h0, fun _ _ h => h, s.po q⟩, ?_⟩
  rintro i m σ2 H2 ⟨rfl, hle, F2, Γ2, h2, f2, s2⟩
  by_cases hlt : i < ds.length
  · refine .inr ?_
    obtain ⟨go, yl⟩ := (wk F2 H2 i f2 s2.rp.toOk).2 _ (List.getElem?_eq_getElem hlt)
    refine ⟨go, fun σ H => ∃ F Γ, I (i + 1) Γ ∧ Same F1 F ∧ Rs T io H0 F0 ra F σ H Γ, fun σ' H' h => ⟨ds.length - (i + 1), by omega, rfl, hlt, h⟩, fun x H3 hy => ?_⟩
    obtain ⟨F3, n3, r3⟩ := yl x H3 hy
    have s3 := s2.po (s2.rp.po n3)
    refine hg H0 F0 ra F3 σ2 H3 Γ2 x _ _ _ s3 r3 (hs i Γ2 _ h2 (List.getElem?_eq_getElem hlt)) fun F4 σ4 Γ4 h4 f4 s4 => ?_
    have f14 : Same F1 F4 := fun b o h => f4 b o (n3.ff b o (f2 b o h))
    refine hb H0 F4 ra F4 σ4 H3 Γ4 _ { Ψ with nx := I (i + 1), ct := I (i + 1), bk := Ψ.nx } ⟨s4.rp, fun _ _ h => h, s4.en, s4.fr, s4.gro, fun _ _ h => .inl h, s4.par⟩ h4 ⟨fun F5 σ5 H5 Γ5 h5 s5 => ?_, fun F5 σ5 H5 Γ5 h5 s5 => ?_, fun F5 σ5 H5 Γ5 h5 s5 => ?_, fun F5 σ5 H5 Γ5 v r h5 s5 e5 => ?_, fun F5 σ5 H5 Γ5 xd h5 s5 => ?_⟩
    all_goals
      have s5' : Rs T io H0 F0 ra F5 σ5 H5 Γ5 := ⟨s5.rp, fun b o h => s5.ff b o (s4.ff b o h), s5.en, s5.fr, s5.gro, fun b o h => (s5.nf b o h).elim (s4.nf b o) .inr, s5.par⟩
    · exact ⟨F5, Γ5, h5, fun b o h => s5.ff b o (f14 b o h), s5'⟩
    · exact e.nx F5 σ5 H5 Γ5 h5 s5'
    · exact ⟨F5, Γ5, h5, fun b o h => s5.ff b o (f14 b o h), s5'⟩
    · exact e.rt F5 σ5 H5 Γ5 v r h5 s5' e5
    · exact e.xe F5 σ5 H5 Γ5 xd h5 s5'
  · have ei : i = ds.length := by omega
    subst ei
    exact .inl ⟨(wk F2 H2 _ f2 s2.rp.toOk).1 rfl, e.nx F2 σ2 H2 Γ2 (hd Γ2 h2) s2⟩
def wWhile (w : WT) (u : WS) : WS := fun Ψ Γ => ∃ I : Nat → Gm → Prop, (∃ m, I m Γ) ∧ ∀ m Γ, I m Γ → w Γ (fun b Γ1 => if b = true then u { Ψ with nx := fun Γ => ∃ m', m' < m ∧ I m' Γ, ct := fun Γ => ∃ m', m' < m ∧ I m' Γ, bk := Ψ.nx } Γ1 else Ψ.nx Γ1) Ψ.xe
end
end Dt
set_option Elab.async false
set_option linter.all false
set_option maxRecDepth 100000
set_option autoImplicit false
namespace Dt
open PySem L2 Kx
section
variable {T : Tb} {F F1 F2 F' H H1 H2 H' : Hp} {σ σ2 : St} {Γ Γ1 Γ2 Γ' Γw : Gm} {E : XK} {t ta tb tc te : TE} {w wa wb wc we : WE} {tA : TA} {wA : WA} {io : Bool} {s1 : TS} {u1 : WS} {t1 tt : TT} {w1 wt : WT}
theorem sd_while (h : TD T E t1 w1) (hb : SD T io E s1 u1) : SD T io E (tWhile t1 s1) (wWhile w1 u1) := fun H0 F0 ra F σ H Γ D Ψ s hw e => by
  obtain ⟨I, ⟨m0, h0⟩, hs⟩ := hw
  refine ⟨fun m σ H => ∃ F Γ, I m Γ ∧ Rs T io H0 F0 ra F σ H Γ, ⟨m0, F, Γ, h0, s⟩, fun m σ2 H2 h2 => ?_⟩
  obtain ⟨F2, Γ2, i2, s2⟩ := h2
  refine h F2 σ2 H2 Γ2 _ _ _ s2.rp (hs m Γ2 i2) (e.xo s2) fun F3 H3 Γ3 b hb3 q3 => ?_
  cases b with
  | false => exact e.nx F3 σ2 H3 Γ3 hb3 (s2.po q3)
  | true =>
    refine ⟨fun σ H => ∃ m', m' < m ∧ ∃ F Γ, I m' Γ ∧ Rs T io H0 F0 ra F σ H Γ, fun σ' H' h => h, ?_⟩
    exact hb H0 F0 ra F3 σ2 H3 Γ3 _ _ (s2.po q3) hb3 ⟨fun F4 σ4 H4 Γ4 ⟨m', hm, i4⟩ s4 => ⟨m', hm, F4, Γ4, i4, s4⟩, fun F4 σ4 H4 Γ4 h4 s4 => e.nx F4 σ4 H4 Γ4 h4 s4, fun F4 σ4 H4 Γ4 ⟨m', hm, i4⟩ s4 => ⟨m', hm, F4, Γ4, i4, s4⟩, e.rt, e.xe⟩
def wipeG (Γ : Gm) : List Nat → Gm
  | [] => Γ
  | v :: vs => (wipeG Γ vs).set v none
def rstG (Γ Γw : Gm) : List Nat → Gm
  | [] => Γw
  | v :: vs => (rstG Γ Γw vs).set v (match Γ[v]? with | some e => e | none => none)
theorem wipe_out {σ : St} {j : Nat} : ∀ {vs : List Nat}, j ∉ vs → (wipe σ vs)[j]? = σ[j]?
  | [], _ => rfl
  | v :: vs, h => by
    simp only [List.mem_cons, not_or] at h
    unfold wipe
    rw [List.getElem?_set_ne (Ne.symm h.1), wipe_out h.2]
theorem wipeG_length {Γ : Gm} : ∀ {vs : List Nat}, (wipeG Γ vs).length = Γ.length
  | [] => rfl
  | v :: vs => by unfold wipeG; rw [List.length_set, wipeG_length]
theorem wipeG_out {Γ : Gm} {j : Nat} : ∀ {vs : List Nat}, j ∉ vs → (wipeG Γ vs)[j]? = Γ[j]?
  | [], _ => rfl
  | v :: vs, h => by
    simp only [List.mem_cons, not_or] at h
    unfold wipeG
    rw [List.getElem?_set_ne (Ne.symm h.1), wipeG_out h.2]
theorem wipeG_in {Γ : Gm} {j : Nat} {e : En} : ∀ {vs : List Nat}, (wipeG Γ vs)[j]? = some (some e) → j ∉ vs ∧ Γ[j]? = some (some e)
  | [], h => ⟨by simp, h⟩
  | v :: vs, h => by
    unfold wipeG at h
    by_cases hv : v = j
    · subst hv
      by_cases hl : v < (wipeG Γ vs).length
      · rw [List.getElem?_set_self hl] at h; cases h
      · rw [List.getElem?_eq_none (by simpa using hl)] at h; cases h
    · rw [List.getElem?_set_ne hv] at h
      obtain ⟨h1, h2⟩ := wipeG_in h
      exact ⟨by simp only [List.mem_cons, not_or]; exact ⟨fun z => hv z.symm, h1⟩, h2⟩
theorem wipeG_at {Γ : Gm} {j : Nat} {vs : List Nat} (h : j ∈ vs) (hl : j < Γ.length) : (wipeG Γ vs)[j]? = some none := by
  have h1 : j < (wipeG Γ vs).length := by rw [wipeG_length]; exact hl
  cases e : (wipeG Γ vs)[j]? with
  | none => rw [List.getElem?_eq_none_iff] at e; omega
  | some o =>
    cases o with
    | none => rfl
    | some x => exact absurd h (wipeG_in e).1
theorem wipeG_ext {Γ Γ' : Gm} {vs : List Nat} (hl : Γ.length = Γ'.length) (h : ∀ j : Nat, j ∉ vs → Γ[j]? = Γ'[j]?) : wipeG Γ vs = wipeG Γ' vs := by
  refine List.ext_getElem? fun j => ?_
  by_cases hj : j ∈ vs
  · by_cases hlt : j < Γ.length
    · rw [wipeG_at hj hlt, wipeG_at hj (hl ▸ hlt)]
    · rw [List.getElem?_eq_none (by rw [wipeG_length]; omega), List.getElem?_eq_none (by rw [wipeG_length]; omega)]
  · rw [wipeG_out hj, wipeG_out hj, h j hj]
theorem wipeG_idem {Γ : Gm} {vs : List Nat} : wipeG (wipeG Γ vs) vs = wipeG Γ vs := wipeG_ext wipeG_length fun j hj => wipeG_out hj
theorem rstG_out {Γ Γw : Gm} {j : Nat} : ∀ {vs : List Nat}, j ∉ vs → (rstG Γ Γw vs)[j]? = Γw[j]?
  | [], _ => rfl
  | v :: vs, h => by
    simp only [List.mem_cons, not_or] at h
    unfold rstG
    rw [List.getElem?_set_ne (Ne.symm h.1), rstG_out h.2]
theorem rstG_length {Γ Γw : Gm} : ∀ {vs : List Nat}, (rstG Γ Γw vs).length = Γw.length
  | [] => rfl
  | v :: vs => by unfold rstG; rw [List.length_set, rstG_length]
theorem rstG_in {Γ Γw : Gm} {j : Nat} {e : En} : ∀ {vs : List Nat}, j ∈ vs → (rstG Γ Γw vs)[j]? = some (some e) → Γ[j]? = some (some e)
  | v :: vs, hj, h => by
    unfold rstG at h
    by_cases hv : v = j
    · subst hv
      by_cases hl : v < (rstG Γ Γw vs).length
      · rw [List.getElem?_set_self hl] at h
        cases q : Γ[v]? with
        | none => rw [q] at h; cases h
        | some o => rw [q] at h; exact h
      · rw [List.getElem?_eq_none (by simpa using hl)] at h; cases h
    · rw [List.getElem?_set_ne hv] at h
      exact rstG_in ((List.mem_cons.mp hj).elim (fun z => absurd z.symm hv) id) h
theorem rstG_keep {Γ Γw : Gm} {j : Nat} {e : En} : ∀ {vs : List Nat}, j ∈ vs → Γ[j]? = some (some e) → j < Γw.length → (rstG Γ Γw vs)[j]? = some (some e)
  | v :: vs, hj, h, hl => by
    unfold rstG
    by_cases hv : v = j
    · subst hv
      rw [List.getElem?_set_self (by rw [rstG_length]; exact hl), h]
    · rw [List.getElem?_set_ne hv]
      exact rstG_keep ((List.mem_cons.mp hj).elim (fun z => absurd z.symm hv) id) h hl
def NoOwn (vs : List Nat) (Γ : Gm) : Prop := ∀ i ∈ vs, ∀ ds, Γ[i]? ≠ some (some (En.own ds))
theorem Rp.wipe {vs : List Nat} (p : Rp T F σ H Γ) : Rp T F (wipe σ vs) H (wipeG Γ vs) :=
  ⟨p.toOk, by rw [wipeG_length, wipe_length, p.len], fun i e h => by
    obtain ⟨h1, h2⟩ := wipeG_in h
    rw [wipe_out h1]
    exact p.at_ i e h2, fun i j ds ds' v h1 h2 h3 h4 => p.apart i j ds ds' v (wipeG_in h1).2 (wipeG_in h2).2 (wipe_some h3).1 (wipe_some h4).1⟩
theorem owns_wipe {vs : List Nat} {b : Addr} (h : Owns (wipe σ vs) (wipeG Γ vs) b) : Owns σ Γ b := let ⟨i, ds, h1, h2⟩ := h; ⟨i, ds, (wipeG_in h1).2, (wipe_some h2).1⟩
theorem owns_wipe' {vs : List Nat} {b : Addr} (n : NoOwn vs Γ) (h : Owns σ Γ b) : Owns (wipe σ vs) (wipeG Γ vs) b := by
  obtain ⟨i, ds, h1, h2⟩ := h
  have hi : i ∉ vs := fun z => n i z ds h1
  exact ⟨i, ds, by rw [wipeG_out hi]; exact h1, by rw [wipe_out hi]; exact h2⟩
theorem Po.wipe {vs : List Nat} (n : NoOwn vs Γ) (q : Po T F σ H Γ F' H' Γ') : Po T F (L2.wipe σ vs) H (wipeG Γ vs) F' H' (wipeG Γ' vs) :=
  ⟨q.rp.wipe, q.ff, fun b o h t no => q.fr b o h t fun z => no (owns_wipe' n z), fun i ds h => by
    obtain ⟨h1, h2⟩ := wipeG_in h
    obtain ⟨ds', h3⟩ := q.ow i ds h2
    exact ⟨ds', by rw [wipeG_out h1]; exact h3⟩, q.gro, fun b o h => (q.nf b o h).imp id (Or.imp id (owns_wipe' n)), fun i e h => by
    obtain ⟨h1, h2⟩ := wipeG_in h
    obtain ⟨e', h3⟩ := q.sl i e h2
    exact ⟨e', by rw [wipeG_out h1]; exact h3⟩⟩
theorem Po.unwipe {vs : List Nat} (p : Rp T F σ H Γ) (q : Po T F (L2.wipe σ vs) H (wipeG Γ vs) F' H' Γw) : Po T F σ H Γ F' H' (rstG Γ Γw vs) := by
  have len : Γw.length = Γ.length := by
    have := q.rp.len
    rw [wipe_length] at this
    rw [this, p.len]
  have get : ∀ (j : Nat) (e : En), (rstG Γ Γw vs)[j]? = some (some e) → (j ∈ vs ∧ Γ[j]? = some (some e)) ∨ (j ∉ vs ∧ Γw[j]? = some (some e)) := fun j e h => by
    by_cases hj : j ∈ vs
    · exact .inl ⟨hj, rstG_in hj h⟩
    · rw [rstG_out hj] at h
      exact .inr ⟨hj, h⟩
  have hid : ∀ (j : Nat) (ds : List D) (a : Addr), j ∈ vs → Γ[j]? = some (some (.own ds)) → σ[j]? = some (some (.ref a)) → ¬ Owns (L2.wipe σ vs) (wipeG Γ vs) a := fun j ds a hj h1 h2 ⟨k, es, h3, h4⟩ => by
    obtain ⟨hk, h3⟩ := wipeG_in h3
    exact hk (p.apart j k ds es _ h1 h3 h2 (wipe_some h4).1 ▸ hj)
  have ow : ∀ (j : Nat) (ds : List D), (rstG Γ Γw vs)[j]? = some (some (En.own ds)) → ∃ ds', Γ[j]? = some (some (En.own ds')) := fun j ds h1 => by
    rcases get j _ h1 with ⟨_, h1⟩ | ⟨hj, h1⟩
    · exact ⟨ds, h1⟩
    · obtain ⟨ds', h2⟩ := q.ow j ds h1
      exact ⟨ds', (wipeG_in h2).2⟩
  refine ⟨⟨q.rp.toOk, by rw [rstG_length, len, p.len], fun j e h => ?_, fun i j ds ds' v h1 h2 h3 h4 => ?_⟩, q.ff, fun b o h t no => q.fr b o h t fun z => no (owns_wipe z), ow, q.gro, fun b o h => (q.nf b o h).imp id (Or.imp id owns_wipe), fun j e h => ?_⟩
  · rcases get j e h with ⟨hj, h⟩ | ⟨hj, h⟩
    · obtain ⟨v, e1, re⟩ := p.at_ j e h
      refine ⟨v, e1, ?_⟩
      cases e with
      | shr d => exact Rep.mono q.ff re
      | own ds =>
        obtain ⟨a, ws, rfl, ha, fa, rw'⟩ := re
        have no := hid j ds a hj h e1
        refine ⟨a, ws, rfl, q.fr a _ ha lst_nt no, ?_, rw'.mono q.ff⟩
        cases z : F' a with
        | none => rfl
        | some o =>
          rcases q.nf a o z with y | y | y
          · rw [fa] at y; cases y
          · rw [ha] at y; cases y
          · exact absurd y no
    · obtain ⟨v, e1, re⟩ := q.rp.at_ j e h
      rw [wipe_out hj] at e1
      exact ⟨v, e1, re⟩
  · rcases get i _ h1 with ⟨hi, g1⟩ | ⟨hi, g1⟩
    · rcases get j _ h2 with ⟨hj, g2⟩ | ⟨hj, g2⟩
      · exact p.apart i j ds ds' v g1 g2 h3 h4
      · obtain ⟨v', e1, a, ws, rfl, _⟩ := q.rp.at_ j _ g2
        rw [wipe_out hj, h4] at e1
        cases e1
        exact absurd (q.ows ⟨j, ds', g2, by rw [wipe_out hj]; exact h4⟩) (hid i ds a hi g1 h3)
    · rcases get j _ h2 with ⟨hj, g2⟩ | ⟨hj, g2⟩
      · obtain ⟨v', e1, a, ws, rfl, _⟩ := q.rp.at_ i _ g1
        rw [wipe_out hi, h3] at e1
        cases e1
        exact absurd (q.ows ⟨i, ds, g1, by rw [wipe_out hi]; exact h3⟩) (hid j ds' a hj g2 h4)
      · exact q.rp.apart i j ds ds' v g1 g2 (by rw [wipe_out hi]; exact h3) (by rw [wipe_out hj]; exact h4)
  · by_cases hj : j ∈ vs
    · exact ⟨e, rstG_keep hj h (by rw [len]; exact (List.getElem?_eq_some_iff.mp h).1)⟩
    · obtain ⟨e', h'⟩ := q.sl j e (by rw [wipeG_out hj]; exact h)
      exact ⟨e', by rw [rstG_out hj]; exact h'⟩
def CG (T : Tb) (vs : List Nat) (g : TG) (w : WG) : Prop := ∀ (F : Hp) (σ : St) (H : Hp) (Γ : Gm) (v : V) (d : D) (Q : St → Hp → Prop) (k : Gm → Prop), Rp T F σ H Γ → NoOwn vs Γ → Rep T.K F v d → w d Γ k →
  (∀ σ' Γ', k Γ' → Rp T F σ' H Γ' → NoOwn vs Γ' → σ'.length = σ.length → (∀ j, j ∉ vs → σ'[j]? = σ[j]? ∧ Γ'[j]? = Γ[j]?) → Q σ' H) → g v σ H Q
def CGs (T : Tb) (vs : List Nat) (g : TGs) (w : WGs) : Prop := ∀ (F : Hp) (σ : St) (H : Hp) (Γ : Gm) (xs : List V) (ds : List D) (Q : St → Hp → Prop) (k : Gm → Prop), Rp T F σ H Γ → NoOwn vs Γ → RepA T.K F xs ds → w ds Γ k →
  (∀ σ' Γ', k Γ' → Rp T F σ' H Γ' → NoOwn vs Γ' → σ'.length = σ.length → (∀ j, j ∉ vs → σ'[j]? = σ[j]? ∧ Γ'[j]? = Γ[j]?) → Q σ' H) → g xs σ H Q
theorem Rp.set {i : Nat} {v : V} {d : D} (p : Rp T F σ H Γ) (h : Rep T.K F v d) : Rp T F (σ.set i (some v)) H (Γ.set i (some (.shr d))) := by
  have get : ∀ (j : Nat) (e' : En), (Γ.set i (some (.shr d)))[j]? = some (some e') → (j = i ∧ i < Γ.length ∧ e' = .shr d) ∨ (j ≠ i ∧ Γ[j]? = some (some e')) := fun j e' hj => by
    by_cases hji : j = i
    · subst hji
      have hl : j < (Γ.set j (some (.shr d))).length := (List.getElem?_eq_some_iff.mp hj).1
      rw [List.length_set] at hl
      rw [List.getElem?_set_self hl] at hj
      cases hj
      exact .inl ⟨rfl, hl, rfl⟩
    · rw [List.getElem?_set_ne (Ne.symm hji)] at hj
      exact .inr ⟨hji, hj⟩
  refine ⟨p.toOk, by simpa using p.len, fun j e' hj => ?_, fun j k es es' x h1 h2 h3 h4 => ?_⟩
  · rcases get j e' hj with ⟨rfl, hl, rfl⟩ | ⟨hji, hj⟩
    · exact ⟨v, List.getElem?_set_self (by rw [← p.len]; exact hl), h⟩
    · rw [List.getElem?_set_ne (Ne.symm hji)]
      exact p.at_ j e' hj
  · rcases get j _ h1 with ⟨_, _, z⟩ | ⟨hj, h1'⟩
    · cases z
    rcases get k _ h2 with ⟨_, _, z⟩ | ⟨hk, h2'⟩
    · cases z
    rw [List.getElem?_set_ne (Ne.symm hj)] at h3
    rw [List.getElem?_set_ne (Ne.symm hk)] at h4
    exact p.apart j k es es' x h1' h2' h3 h4
variable {g : TG} {gs : TGs} {wg : WG} {wgs : WGs}
theorem cg_name {i : Nat} {vs : List Nat} (hi : i ∈ vs) : CG T vs (gName i) (wgName i) := fun F σ H Γ v d Q k p n r h z => by
  refine z _ _ h (p.set r) (fun j hj ds q => ?_) (by simp) fun j hj => ?_
  · by_cases hji : j = i
    · subst hji
      have hl : j < (Γ.set j (some (.shr d))).length := (List.getElem?_eq_some_iff.mp q).1
      rw [List.length_set] at hl
      rw [List.getElem?_set_self hl] at q
      cases q
    · rw [List.getElem?_set_ne (Ne.symm hji)] at q
      exact n j hj ds q
  · have hji : i ≠ j := fun z => hj (z ▸ hi)
    exact ⟨List.getElem?_set_ne hji, List.getElem?_set_ne hji⟩
def wLc (wi : WI) (wg : WG) (wt : WT) (we : WE) (vs : List Nat) : WE := fun Γ Ψ Ξ => wi Γ (fun ds Γ1 => ds.length ≤ sizeLine ∧ ∃ I : Nat → List D → Gm → Prop, I 0 [] (wipeG Γ1 vs) ∧
  (∀ i acc Γ d, I i acc Γ → ds[i]? = some d → wg d Γ fun Γ2 => wt Γ2 (fun b Γ3 => if b = true then we Γ3 (fun r Γ4 => ∃ y Γ5, frz Γ4 r = some (y, Γ5) ∧ I (i + 1) (acc ++ [y]) (wipeG Γ5 vs)) (fun _ => False) else I (i + 1) acc (wipeG Γ3 vs)) fun _ => False) ∧
  ∀ acc Γ, I ds.length acc Γ → Ψ (.new acc) (rstG Γ1 Γ vs)) Ξ
theorem wipe_ext {σ σ' : St} {vs : List Nat} (hl : σ.length = σ'.length) (h : ∀ j : Nat, j ∉ vs → σ[j]? = σ'[j]?) : wipe σ vs = wipe σ' vs := by
  refine List.ext_getElem? fun j => ?_
  by_cases hj : j ∈ vs
  · have one : ∀ {ρ : St}, j < ρ.length → (wipe ρ vs)[j]? = some none := fun {ρ} hlt => by
      have h1 : j < (wipe ρ vs).length := by rw [wipe_length]; exact hlt
      cases e : (wipe ρ vs)[j]? with
      | none => rw [List.getElem?_eq_none_iff] at e; omega
      | some o =>
        cases o with
        | none => rfl
        | some x => exact absurd hj (wipe_some e).2
    by_cases hlt : j < σ.length
    · rw [one hlt, one (hl ▸ hlt)]
    · rw [List.getElem?_eq_none (by rw [wipe_length]; omega), List.getElem?_eq_none (by rw [wipe_length]; omega)]
  · rw [wipe_out hj, wipe_out hj, h j hj]
theorem noOwn_wipe {vs : List Nat} : NoOwn vs (wipeG Γ vs) := fun i hi ds h => (wipeG_in h).1 hi
theorem Po.grow {Fs Hs : Hp} {Γs : Gm} {Dn : Addr} {ws ws' : List V} (p0 : Rp T Fs σ Hs Γs) (q : Po T Fs σ Hs Γs F H Γ) (hn : Hs Dn = Option.none) (fd : F Dn = Option.none) (hd : H Dn = some (.lst ws)) : Po T Fs σ Hs Γs F (upd H Dn (.lst ws')) Γ := by
  have p := q.rp
  refine ⟨⟨⟨fun b o h => ?_, p.nt, fun P hP => tab_lst hd (p.tabs P hP), fun l hP => lab_lst hd (p.labs l hP)⟩, p.len, fun i e h => ?_, p.apart⟩, q.ff, fun b o h t no => ?_, q.ow, fun b o h => ?_, q.nf, q.sl⟩
  · rw [upd_ne fun z => by rw [z, fd] at h; cases h]
    exact p.sub _ _ h
  · obtain ⟨v, e1, re⟩ := p.at_ i e h
    refine ⟨v, e1, ?_⟩
    cases e with
    | shr d => exact re
    | own ds =>
      obtain ⟨a, us, rfl, ha, fa, ra⟩ := re
      refine ⟨a, us, rfl, ?_, fa, ra⟩
      rw [upd_ne fun z => ?_]
      · exact ha
      · subst z
        obtain ⟨us', h1, _⟩ := p0.owns (q.ows ⟨i, ds, h, e1⟩)
        rw [hn] at h1
        cases h1
  · rw [upd_ne fun z => by rw [z, hn] at h; cases h]
    exact q.fr b o h t no
  · rw [upd_ne fun z => by rw [z, hn] at h; cases h]
    exact q.gro b o h
theorem Po.known {b : Addr} {o : HO} (q : Po T F σ H Γ F' H' Γ') (hb : H b = some o) (fb : F b = Option.none) (no : ¬ Owns σ Γ b) : F' b = Option.none := by
  cases z : F' b with
  | none => rfl
  | some u =>
    rcases q.nf b u z with y | y | y
    · rw [fb] at y; cases y
    · rw [hb] at y; cases y
    · exact absurd y no
theorem lc_d {vs : List Nat} {J : It} {ds : List D} {F1 H1 : Hp} {Γ1 : Gm} {σ : St} {Qd : Addr → Hp → Prop} (hlen : ds.length ≤ sizeLine) (p1 : Rp T F1 σ H1 Γ1) (hg : CG T vs g wg) (ht : TD T E0 tt wt) (he : ED T E0 te we) (I : Nat → List D → Gm → Prop) (h0 : I 0 [] (wipeG Γ1 vs))
    (hs : ∀ i acc Γ d, I i acc Γ → ds[i]? = some d → wg d Γ fun Γ2 => wt Γ2 (fun b Γ3 => if b = true then we Γ3 (fun r Γ4 => ∃ y Γ5, frz Γ4 r = some (y, Γ5) ∧ I (i + 1) (acc ++ [y]) (wipeG Γ5 vs)) (fun _ => False) else I (i + 1) acc (wipeG Γ3 vs)) fun _ => False)
    (wk : ∀ i acc F2 H2 Γ2, I i acc Γ2 → Same F1 F2 → Rp T F2 (wipe σ vs) H2 Γ2 → (i = ds.length → J.stop i H2) ∧ ∀ d, ds[i]? = some d → J.go i H2 ∧ ∀ x H3, J.yld i H2 x H3 → ∃ F3, Nw T F2 H2 F3 H3 ∧ Rep T.K F3 x d)
    (k : ∀ F2 H2 Γ2 acc Dn, I ds.length acc Γ2 → Po T F1 σ H1 Γ1 F2 H2 (rstG Γ1 Γ2 vs) → RepR T F2 σ H2 (rstG Γ1 Γ2 vs) H1 (.ref Dn) (.new acc) → Qd Dn H2) :
    ∀ Dn, H1 Dn = none → ∃ W : Nat → Nat → Hp → Prop, (∃ m, W 0 m (upd H1 Dn (.lst []))) ∧ ∀ i m H, W i m H →
      (J.stop i H ∧ Qd Dn H) ∨ (J.go i H ∧ ∃ Nx : Hp → Prop, (∀ H', Nx H' → ∃ m', m' < m ∧ W (i + 1) m' H') ∧ ∀ x H', J.yld i H x H' → g x (wipe σ vs) H' fun σ2 H2 => wipe σ2 vs = wipe σ vs ∧ tt σ2 H2 fun b H3 =>
        if b = true then te σ2 H3 fun y H4 => ∃ acc, H4 Dn = some (.lst acc) ∧ acc.length < sizeLine ∧ Nx (upd H4 Dn (.lst (acc ++ [y]))) else Nx H3) := by
  intro Dn hDn
  have pw := p1.wipe (vs := vs)
  have xo0 : ∀ {ρ : St} {F H : Hp} {Γ : Gm}, XO T ρ E0 (fun _ => False) F H Γ := fun {ρ F H Γ} _ _ _ _ h => h.elim
  have noW : ¬ Owns (wipe σ vs) (wipeG Γ1 vs) Dn := fun z => by
    obtain ⟨us, h1, _⟩ := pw.owns z
    rw [hDn] at h1
    cases h1
  have f1D : F1 Dn = none := by
    cases e : F1 Dn with
    | none => rfl
    | some u => have := p1.sub _ _ e; rw [hDn] at this; cases this
  refine ⟨fun i m H => m = ds.length - i ∧ i ≤ ds.length ∧ ∃ F Γw acc ws, I i acc Γw ∧ acc.length ≤ i ∧ Γw = wipeG Γw vs ∧ Po T F1 (wipe σ vs) H1 (wipeG Γ1 vs) F H Γw ∧ Same F1 F ∧ H Dn = some (.lst ws) ∧ F Dn = none ∧ RepA T.K F ws acc,
    ⟨ds.length, by simp, Nat.zero_le _, F1, _, [], [], h0, Nat.le_refl _, wipeG_idem.symm, pw.po (pw.toOk.put hDn), fun _ _ h => h, upd_same, f1D, .nil⟩, ?_⟩
  rintro i m H2 ⟨rfl, hle, F2, Γ2, acc, ws, i2, hacc, hw2, q2, f2, hD2, fD2, r2⟩
  by_cases hlt : ¬ i < ds.length
  · have ei : i = ds.length := by omega
    subst ei
    refine .inl ⟨(wk _ acc F2 H2 Γ2 i2 f2 q2.rp).1 rfl, ?_⟩
    have q3 := Po.unwipe p1 q2
    refine k F2 H2 Γ2 acc Dn i2 q3 ⟨Dn, ws, rfl, hD2, fD2, hDn, r2, fun z => ?_⟩
    obtain ⟨us, h1, _⟩ := p1.owns (q3.ows z)
    rw [hDn] at h1
    cases h1
  · have hlt : i < ds.length := by omega
    refine .inr ?_
    obtain ⟨go, yl⟩ := (wk i acc F2 H2 Γ2 i2 f2 q2.rp).2 _ (List.getElem?_eq_getElem hlt)
    refine ⟨go, fun H => ∃ F Γw acc ws, I (i + 1) acc Γw ∧ acc.length ≤ i + 1 ∧ Γw = wipeG Γw vs ∧ Po T F1 (wipe σ vs) H1 (wipeG Γ1 vs) F H Γw ∧ Same F1 F ∧ H Dn = some (.lst ws) ∧ F Dn = none ∧ RepA T.K F ws acc, fun H' h => ⟨ds.length - (i + 1), by omega, rfl, hlt, h⟩, fun xv H3 hy => ?_⟩
    obtain ⟨F3, n3, r3⟩ := yl xv H3 hy
    have q3 := q2.nw n3
    have nown2 : NoOwn vs Γ2 := hw2 ▸ noOwn_wipe
    have hD3 : H3 Dn = some (.lst ws) := n3.hh _ _ hD2 lst_nt
    have fD3 : F3 Dn = none := by
      cases z : F3 Dn with
      | none => rfl
      | some u =>
        rcases n3.nf _ _ z with y | y
        · rw [fD2] at y; cases y
        · rw [hD2] at y; cases y
    refine hg F3 (wipe σ vs) H3 Γ2 xv _ _ _ q3.rp nown2 r3 (hs i acc Γ2 _ i2 (List.getElem?_eq_getElem hlt)) fun σ4 Γ4 h4 p4 n4 l4 j4 => ?_
    have eσ : wipe σ4 vs = wipe σ vs := by
      refine (wipe_ext l4 fun j hj => (j4 j hj).1).trans (wipe_ext (by rw [wipe_length]) fun j hj => wipe_out hj)
    have eΓ : wipeG Γ4 vs = Γ2 := (wipeG_ext (by rw [p4.len, l4, ← q3.rp.len]) fun j hj => (j4 j hj).2).trans hw2.symm
    have noD4 : ¬ Owns σ4 Γ4 Dn := fun z => by
      have z1 := owns_wipe' n4 z
      rw [eσ, eΓ] at z1
      exact noW (q3.ows z1)
    refine ⟨eσ, ht F3 σ4 H3 Γ4 _ _ _ p4 h4 xo0 fun F5 H5 Γ5 b hb5 q5 => ?_⟩
    have q5w : Po T F3 (wipe σ vs) H3 Γ2 F5 H5 (wipeG Γ5 vs) := by
      have := q5.wipe n4
      rw [eσ, eΓ] at this
      exact this
    have hD5 := q5.fr _ _ hD3 lst_nt noD4
    have fD5 := q5.known hD3 fD3 noD4
    have f15 : Same F1 F5 := fun b o h => q5.ff b o (n3.ff b o (f2 b o h))
    cases b with
    | false =>
      exact ⟨F5, _, acc, ws, hb5, by omega, wipeG_idem.symm, q3.trans q5w, f15, hD5, fD5, r2.mono fun b o h => q5.ff b o (n3.ff b o h)⟩
    | true =>
      have noD5 : ¬ Owns σ4 Γ5 Dn := fun z => noD4 (q5.ows z)
      refine he F5 σ4 H5 Γ5 _ _ _ q5.rp hb5 xo0 fun F6 H6 Γ6 y r h6 q6 e6 => ?_
      obtain ⟨yd, Γ7, a7, h7⟩ := h6
      obtain ⟨F7, q7, s7, r7⟩ := RepR.frz q6 e6 a7
      have n5 : NoOwn vs Γ5 := fun j hj es h => by
        obtain ⟨es', h'⟩ := q5.ow j es h
        exact n4 j hj es' h'
      have q7w : Po T F5 (wipe σ vs) H5 (wipeG Γ5 vs) F7 H6 (wipeG Γ7 vs) := by
        have := q7.wipe n5
        rw [eσ] at this
        exact this
      have hD7 := q7.fr _ _ hD5 lst_nt noD5
      have fD7 := q7.known hD5 fD5 noD5
      refine ⟨ws, hD7, ?_, F7, _, acc ++ [yd], ws ++ [y], h7, by simp; omega, wipeG_idem.symm, Po.grow pw (q3.trans (q5w.trans q7w)) hDn fD7 hD7, fun b o h => q7.ff b o (f15 b o h), upd_same, fD7, ?_⟩
      · rw [r2.length]
        omega
      · exact (r2.mono fun b o h => q7.ff b o (q5.ff b o (n3.ff b o h))).append (.cons r7 .nil)
theorem ed_lc {wi : TI} {wI : WI} {vs : List Nat} (hi : ID T E wi wI) (hg : CG T vs g wg) (ht : TD T E0 tt wt) (he : ED T E0 te we) : ED T E (tLc wi g tt te vs) (wLc wI wg wt we vs) := by
  intro F σ H Γ Q Ψ Ξ p hw x k
  refine hi F σ H Γ _ _ Ξ p hw x fun F1 H1 Γ1 J ds hr q1 wk => ?_
  obtain ⟨hlen, I, h0, hs, hd⟩ := hr
  refine lc_d (Qd := fun Dn H => Q (.ref Dn) H) hlen q1.rp hg ht he I h0 hs (fun i acc F2 H2 Γ2 _ f2 p2 => wk F2 H2 i f2 p2.toOk) fun F2 H2 Γ2 acc Dn i2 q3 e3 => ?_
  exact k F2 H2 _ _ _ (hd acc Γ2 i2) (q1.trans q3) (e3.back q1)
def wLcO (s : Nat) (wg : WG) (wt : WT) (we : WE) (vs : List Nat) : WE := fun Γ Ψ Ξ => ∃ ds, Γ[s]? = some (some (.own ds)) ∧ ds.length ≤ sizeLine ∧ ∃ I : Nat → List D → Gm → Prop, I 0 [] (wipeG Γ vs) ∧ (∀ i acc Γ, I i acc Γ → Γ[s]? = some (some (.own ds))) ∧
  (∀ i acc Γ d, I i acc Γ → ds[i]? = some d → wg d Γ fun Γ2 => wt Γ2 (fun b Γ3 => if b = true then we Γ3 (fun r Γ4 => ∃ y Γ5, frz Γ4 r = some (y, Γ5) ∧ I (i + 1) (acc ++ [y]) (wipeG Γ5 vs)) (fun _ => False) else I (i + 1) acc (wipeG Γ3 vs)) fun _ => False) ∧
  ∀ acc Γ', I ds.length acc Γ' → Ψ (.new acc) (rstG Γ Γ' vs)
end
end Dt
set_option Elab.async false
set_option linter.all false
set_option maxRecDepth 100000
set_option autoImplicit false
namespace Dt
open PySem L2 Kx
section
variable {T : Tb} {F F1 F2 F' H H1 H2 H' : Hp} {σ σ2 : St} {Γ Γ1 Γ2 Γ' Γw : Gm} {E : XK} {t ta tb tc te : TE} {w wa wb wc we : WE} {tA : TA} {wA : WA} {io : Bool}
def wIList (w : WE) : WI := fun Γ Ψ Ξ => w Γ (fun r Γ1 => ∃ ds Γ2, frz Γ1 r = some (.lst ds, Γ2) ∧ Ψ ds Γ2) Ξ
def wITup (w : WE) : WI := fun Γ Ψ Ξ => w Γ (fun r Γ1 => ∃ ds Γ2, frz Γ1 r = some (.tup ds, Γ2) ∧ Ψ ds Γ2) Ξ
def rng (lo : Int) (n : Nat) : List D := (List.range n).map fun i : Nat => D.int (lo + (i : Int))
theorem rng_length (lo : Int) (n : Nat) : (rng lo n).length = n := by simp [rng]
theorem rng_get {lo : Int} {n i : Nat} {d : D} (h : (rng lo n)[i]? = some d) : i < n ∧ d = .int (lo + (i : Int)) := by
  have hi : i < n := by have := (List.getElem?_eq_some_iff.mp h).1; rwa [rng_length] at this
  refine ⟨hi, ?_⟩
  unfold rng at h
  rw [List.getElem?_map, List.getElem?_range hi] at h
  cases h
  rfl
theorem wk_rng {lo : Int} {n : Nat} : Wk T F (Itr lo n) (rng lo n) := fun F' H' i ff o => by
  refine ⟨fun e => by rw [rng_length] at e; exact Nat.le_of_eq e.symm, fun d hd => ?_⟩
  obtain ⟨hi, rfl⟩ := rng_get hd
  refine ⟨hi, fun x H'' hy => ?_⟩
  obtain ⟨rfl, rfl⟩ := hy
  exact ⟨F', o.refl, .int _⟩
def wIRng1 (wA : WA) : WI := fun Γ Ψ Ξ => wA Γ (fun rs Γ1 => ∃ j, ats Γ1 rs = some [.int j] ∧ (-(2 ^ 62) ≤ j ∧ j < 2 ^ 62) ∧ Ψ (rng 0 j.toNat) Γ1) Ξ
theorem id_rng1 (h : AD T E tA wA) : ID T E (iRng1 tA) (wIRng1 wA) := fun F σ H Γ Q Ψ Ξ p hw x k => h F σ H Γ _ _ Ξ p hw x fun F1 H1 Γ1 vs rs hr q e => by
  obtain ⟨j, a, ⟨b1, b2⟩, hk⟩ := hr
  obtain ⟨v, rfl, hv⟩ := (e.peek q.rp a).one
  exact ⟨j, by rw [hv.int], b1, b2, k F1 H1 Γ1 _ _ hk q wk_rng⟩
def wIRng2 (wA : WA) : WI := fun Γ Ψ Ξ => wA Γ (fun rs Γ1 => ∃ i j, ats Γ1 rs = some [.int i, .int j] ∧ Ψ (rng i (j - i).toNat) Γ1) Ξ
def chs (x : Str) : List D := x.cps.toList.map fun c => D.str ⟨#[c]⟩
def wIStr (w : WE) : WI := fun Γ Ψ Ξ => w Γ (fun r Γ1 => ∃ x, r.at Γ1 = some (.str x) ∧ Ψ (chs x) Γ1) Ξ
theorem wk_str {x : Str} : Wk T F (Its x) (chs x) := fun F' H' i ff o => by
  have hl : (chs x).length = x.cps.size := by simp [chs]
  refine ⟨fun e => by rw [hl] at e; exact Nat.le_of_eq e.symm, fun d hd => ?_⟩
  have hi : i < x.cps.size := by have := (List.getElem?_eq_some_iff.mp hd).1; rwa [hl] at this
  refine ⟨hi, fun v H'' hy => ?_⟩
  obtain ⟨rfl, c, hc, rfl⟩ := hy
  unfold chs at hd
  rw [List.getElem?_map, Array.getElem?_toList, hc] at hd
  cases hd
  exact ⟨F', o.refl, .str _⟩
theorem id_str (h : ED T E t w) : ID T E (iStr t) (wIStr w) := fun F σ H Γ Q Ψ Ξ p hw x k => h F σ H Γ _ _ Ξ p hw x fun F1 H1 Γ1 v r hr q e => by
  obtain ⟨z, a, hk⟩ := hr
  exact ⟨z, (e.peek q.rp a).str, k F1 H1 Γ1 _ _ hk q wk_str⟩
def enu (ds : List D) : List D := ds.mapIdx fun i d => D.tup [.int (i : Nat), d]
def wIEnum (wA : WA) : WI := fun Γ Ψ Ξ => wA Γ (fun rs Γ1 => ∃ ds Γ2, frzL Γ1 rs = some ([.lst ds], Γ2) ∧ Ψ (enu ds) Γ2) Ξ
def zp (ds es : List D) : List D := List.zipWith (fun d e => D.tup [d, e]) ds es
def wIZip (wA : WA) : WI := fun Γ Ψ Ξ => wA Γ (fun rs Γ1 => ∃ ds es Γ2, frzL Γ1 rs = some ([.lst ds, .lst es], Γ2) ∧ Ψ (zp ds es) Γ2) Ξ
def dI (C : Int → Int → Prop) (f : Int → Int → Int) : D → D → (R → Prop) → Prop := fun d e Ψ => ∃ i j, d = .int i ∧ e = .int j ∧ C i j ∧ Ψ (.val (.int (f i j)))
theorem od_I {C : Int → Int → Prop} {f : Int → Int → Int} : OD T (rI C fun i j => .int (f i j)) (dI C f) := fun F H x y d e Q Ψ o hx hy hg k => by
  obtain ⟨i, j, rfl, rfl, c, h⟩ := hg
  exact ⟨i, j, hx.int, hy.int, c, k F H _ _ h o.refl (Rep.int _)⟩
def dI0 (f : Int → Int → Int) : D → D → (R → Prop) → Prop := fun d e Ψ => ∃ i j, d = .int i ∧ e = .int j ∧ Ψ (.val (.int (f i j)))
theorem od_I0 {f : Int → Int → Int} : OD T (rI0 fun i j => .int (f i j)) (dI0 f) := fun F H x y d e Q Ψ o hx hy hg k => by
  obtain ⟨i, j, rfl, rfl, h⟩ := hg
  exact ⟨i, j, hx.int, hy.int, k F H _ _ h o.refl (Rep.int _)⟩
def bI (f : Int → Int → Bool) : D → D → (Bool → Prop) → Prop := fun d e Ψ => ∃ i j, d = .int i ∧ e = .int j ∧ Ψ (f i j)
theorem bd_I {f : Int → Int → Bool} : BD T (rI0 fun i j => .bl (f i j)) (bI f) := fun F H x y d e Q Ψ o hx hy hg k => by
  obtain ⟨i, j, rfl, rfl, h⟩ := hg
  exact ⟨i, j, hx.int, hy.int, k _ h⟩
def scq : D → D → Option Bool
  | .int i, .int j => some (decide (i = j))
  | .str x, .str y => some (decide (x = y))
  | .bl x, .bl y => some (decide (x = y))
  | .non, .non => some true
  | _, _ => none
def bSc (f : Bool → Bool) : D → D → (Bool → Prop) → Prop := fun d e Ψ => ∃ b, scq d e = some b ∧ Ψ (f b)
theorem scq_of {d e : D} {b : Bool} (h : scq d e = some b) : ∃ x y : V, (∀ (v : V), PRep T.K F H v d → v = x) ∧ (∀ v, PRep T.K F H v e → v = y) ∧ scal x y = true ∧ decide (x = y) = b := by
  unfold scq at h
  split at h
  · cases h; exact ⟨.int _, .int _, fun v z => z.int, fun v z => z.int, rfl, by simp⟩
  · cases h; exact ⟨.str _, .str _, fun v z => z.str, fun v z => z.str, rfl, by simp⟩
  · cases h; exact ⟨.bl _, .bl _, fun v z => z.bl, fun v z => z.bl, rfl, by simp⟩
  · cases h; exact ⟨.non, .non, fun v z => z.non, fun v z => z.non, rfl, by simp⟩
  · cases h
theorem bd_eq : BD T rEq (bSc id) := fun F H x y d e Q Ψ o hx hy hg k => by
  obtain ⟨b, hb, h⟩ := hg
  obtain ⟨v, u, h1, h2, h3, h4⟩ := scq_of (T := T) (F := F) (H := H) hb
  rw [h1 x hx, h2 y hy]
  refine ⟨h3, ?_⟩
  rw [h4]
  exact k b h
theorem bd_ne : BD T rNe (bSc not) := fun F H x y d e Q Ψ o hx hy hg k => by
  obtain ⟨b, hb, h⟩ := hg
  obtain ⟨v, u, h1, h2, h3, h4⟩ := scq_of (T := T) (F := F) (H := H) hb
  rw [h1 x hx, h2 y hy]
  refine ⟨h3, ?_⟩
  rw [h4]
  exact k _ h
mutual
def D.py : D → PyData
  | .non => .none | .bl b => .bool b | .int i => .int i | .str x => .str x | .ty _ => .none | .scr _ => .none
  | .lst xs => .list (D.pyA xs) | .tup xs => .tuple (D.pyA xs) | .obj _ _ _ => .none | .dic _ _ => .none | .exc _ _ _ => .none
def D.pyA : List D → List PyData
  | [] => []
  | x :: xs => D.py x :: D.pyA xs
end
inductive Dep : Nat → D → Prop
  | non {n : Nat} : Dep n .non
  | bl {n : Nat} (b : Bool) : Dep n (.bl b)
  | int {n : Nat} (i : Int) : Dep n (.int i)
  | str {n : Nat} {x : Str} : PyData.strOk x = true → Dep n (.str x)
  | lst {n : Nat} {xs : List D} : (∀ x ∈ xs, Dep n x) → Dep (n + 1) (.lst xs)
  | tup {n : Nat} {xs : List D} : (∀ x ∈ xs, Dep n x) → Dep (n + 1) (.tup xs)
theorem Dep.lst_inv {n : Nat} {xs : List D} (h : Dep n (.lst xs)) : ∃ m, ∀ x ∈ xs, Dep m x := by
  cases h with | lst h => exact ⟨_, h⟩
theorem Dep.tup_inv {n : Nat} {xs : List D} (h : Dep n (.tup xs)) : ∃ m, ∀ x ∈ xs, Dep m x := by
  cases h with | tup h => exact ⟨_, h⟩
theorem Dep.no_ty {n : Nat} {m : String} (h : Dep n (.ty m)) : False := by cases h
theorem Dep.no_scr {n : Nat} {m : List D} (h : Dep n (.scr m)) : False := by cases h
theorem Dep.no_dic {n : Nat} {ks : List Key} {xs : List D} (h : Dep n (.dic ks xs)) : False := by cases h
theorem Dep.no_exc {n : Nat} {c : Str} {m : List Str} {xs : List D} (h : Dep n (.exc c m xs)) : False := by cases h
theorem Dep.no_obj {n : Nat} {c : Str} {m : List Str} {xs : List D} (h : Dep n (.obj c m xs)) : False := by cases h
mutual
theorem Rep.dp (s : Same F H) : ∀ {v : V} {d : D}, Rep T.K F v d → (∃ n, Dep n d) → Dp T.K H v d.py
  | _, _, .non, _ => .non
  | _, _, .bl b, _ => .bl b
  | _, _, .int i, _ => .int i
  | _, _, .str x, _ => .str x
  | _, _, .ty n, h => (h.elim fun _ h => h.no_ty).elim
  | _, _, .scr _ _, h => (h.elim fun _ h => h.no_scr).elim
  | _, _, .obj _ _ _, h => (h.elim fun _ h => h.no_obj).elim
  | _, _, .dic _ _ _, h => (h.elim fun _ h => h.no_dic).elim
  | _, _, .exc _ _ _, h => (h.elim fun _ h => h.no_exc).elim
  | _, _, .lst h r, hd => .lst (.inl (.inl (s _ _ h))) (RepA.dp s r (hd.elim fun _ h => h.lst_inv))
  | _, _, .tup h r, hd => .tup (sqt_same h s) (RepA.dp s r (hd.elim fun _ h => h.tup_inv))
theorem RepA.dp (s : Same F H) : ∀ {vs : List V} {ds : List D}, RepA T.K F vs ds → (∃ n, ∀ x ∈ ds, Dep n x) → DpAll T.K H vs (D.pyA ds)
  | _, _, .nil, _ => .nil
  | _, _, .cons h r, hd => .cons (Rep.dp s h (hd.elim fun n hd => ⟨n, hd _ (List.mem_cons_self ..)⟩)) (RepA.dp s r (hd.elim fun n hd => ⟨n, fun x hx => hd x (List.mem_cons_of_mem _ hx)⟩))
end
theorem PRep.dp {n : Nat} {v : V} {d : D} (s : Same F H) (h : PRep T.K F H v d) (hd : Dep n d) : Dp T.K H v d.py := by
  rcases h with h | ⟨a, vs, ds, rfl, rfl, ha, r⟩
  · exact h.dp s ⟨n, hd⟩
  · exact .lst (.inl (.inl ha)) (r.dp s hd.lst_inv)
theorem Dep.lay : ∀ {n : Nat} {d : D}, Dep n d → PyData.canLay0 d.py = true ∧ d.py.depth ≤ n
  | _, _, .non => ⟨rfl, Nat.zero_le _⟩
  | _, _, .bl b => ⟨rfl, Nat.zero_le _⟩
  | _, _, .int i => ⟨rfl, Nat.zero_le _⟩
  | _, _, .str h => ⟨h, Nat.zero_le _⟩
  | n + 1, .lst xs, .lst h => by
    have all : ∀ xs : List D, (∀ x ∈ xs, Dep n x) → PyData.canLayAll0 (D.pyA xs) = true ∧ PyData.depthAll (D.pyA xs) ≤ n := fun xs => by
      induction xs with
      | nil => intro _; exact ⟨rfl, Nat.zero_le _⟩
      | cons x xs ih =>
        intro h
        have h1 := Dep.lay (h x (List.mem_cons_self ..))
        have h2 := ih fun y hy => h y (List.mem_cons_of_mem _ hy)
        refine ⟨?_, ?_⟩
        · rw [D.pyA, PyData.canLayAll0, h1.1, h2.1]; rfl
        · rw [D.pyA, PyData.depthAll]
          exact Nat.max_le.mpr ⟨h1.2, h2.2⟩
    have := all xs h
    exact ⟨this.1, Nat.succ_le_succ this.2⟩
  | n + 1, .tup xs, .tup h => by
    have all : ∀ xs : List D, (∀ x ∈ xs, Dep n x) → PyData.canLayAll0 (D.pyA xs) = true ∧ PyData.depthAll (D.pyA xs) ≤ n := fun xs => by
      induction xs with
      | nil => intro _; exact ⟨rfl, Nat.zero_le _⟩
      | cons x xs ih =>
        intro h
        have h1 := Dep.lay (h x (List.mem_cons_self ..))
        have h2 := ih fun y hy => h y (List.mem_cons_of_mem _ hy)
        refine ⟨?_, ?_⟩
        · rw [D.pyA, PyData.canLayAll0, h1.1, h2.1]; rfl
        · rw [D.pyA, PyData.depthAll]
          exact Nat.max_le.mpr ⟨h1.2, h2.2⟩
    have := all xs h
    exact ⟨this.1, Nat.succ_le_succ this.2⟩
theorem Dep.shaped {n : Nat} {d : D} (h : Dep n d) (hn : n ≤ 60) : SeqAt.shaped d.py = true := by
  obtain ⟨h1, h2⟩ := h.lay
  unfold SeqAt.shaped
  rw [h1, Bool.true_and]
  exact decide_eq_true (by omega)
def deq (d e : D) : Bool := PyData.eqv d.py e.py
theorem deq_refl {n : Nat} {d : D} (h : Dep n d) : deq d d = true := SeqAt.eqv_refl _ h.lay.1
def bEq (f : Bool → Bool) : D → D → (Bool → Prop) → Prop := fun d e Ψ => (∃ n, n ≤ 60 ∧ Dep n d) ∧ (∃ n, n ≤ 60 ∧ Dep n e) ∧ Ψ (f (deq d e))
theorem bd_neD : BD T (rNeD T.K) (bEq not) := fun F H x y d e Q Ψ o hx hy hg k => by
  obtain ⟨⟨n, hn, dn⟩, ⟨m, hm, dm⟩, h⟩ := hg
  exact ⟨_, _, hx.dp o.sub dn, hy.dp o.sub dm, dn.shaped hn, dm.shaped hm, k _ h⟩
end
end Dt
set_option Elab.async false
set_option linter.all false
set_option maxRecDepth 100000
set_option autoImplicit false
namespace Dt
open PySem PySem.Spec L2 Kx PyProof.Rows
section
variable {X : Cx}
theorem call_isiAll : CallR X (.builtin "isinstance") (fun xs H Q => (∃ y T b, xs = [y, .ty T] ∧ isiB y T = some b ∧ Q (.bl b) H) ∨ (∃ a ys, xs = [.ref a, .ty "tuple"] ∧ SqT X.K H a ys ∧ Q (.bl true) H) ∨ ∃ a ys, xs = [.ref a, .ty "list"] ∧ SqL X.K H a ys ∧ Q (.bl true) H) := by
  intro pins s σ H xs us Q I r h
  rcases h with h | h | h
  · exact call_isi pins s σ H xs us Q I r h
  · exact call_isiTT pins s σ H xs us Q I r h
  · exact call_isiLL pins s σ H xs us Q I r h
end
section
variable {T : Tb} {F F1 F2 F' H H1 H2 H' : Hp} {σ σ2 : L2.St} {Γ Γ1 Γ2 Γ' Γw : Gm} {E : XK} {t ta tb tc te to : TE} {w wa wb wc we wo : WE} {tA : TA} {wA : WA} {io : Bool}
theorem od_pure {r : L2.R2} {g : D → D → (R → Prop) → Prop} (h : ∀ (F H : Hp) (x y : V) (d e : D) (Q : VK) (Ψ : R → Prop), Ok T F H → PRep T.K F H x d → PRep T.K F H y e → g d e Ψ → (∀ v z, Ψ (.val z) → Rep T.K F v z → Q v H) → r x y H Q) : OD T r g :=
  fun F H x y d e Q Ψ o hx hy hg k => h F H x y d e Q Ψ o hx hy hg fun v z hz hv => k F H v _ hz o.refl hv
theorem atI_rep {vs : List V} {ds : List D} {i : Int} {z : D} (r : RepA T.K F vs ds) (h : atI ds i = some z) : ∃ v, atI vs i = some v ∧ Rep T.K F v z := by
  unfold atI at h ⊢
  rw [r.length]
  cases e : ixN ds.length i with
  | none => rw [e] at h; cases h
  | some j =>
    rw [e] at h
    obtain ⟨v, hv, rv⟩ := r.get (show ds[j]? = some z from h)
    exact ⟨v, hv, rv⟩
def dIxL : D → D → (R → Prop) → Prop := fun d e Ψ => ∃ ds i z, (d = .lst ds ∨ d = .scr ds) ∧ e = .int i ∧ atI ds i = some z ∧ Ψ (.val z)
theorem od_ixL : OD T (rIxL T.K) dIxL := od_pure fun F H x y d e Q Ψ o hx hy hg k => by
  obtain ⟨ds, i, z, hd, rfl, ha, h⟩ := hg
  obtain ⟨a, vs, rfl, hs, r⟩ : ∃ a vs, x = .ref a ∧ SqL T.K H a vs ∧ RepA T.K F vs ds := by
    rcases hd with rfl | rfl
    · obtain ⟨a, vs, e, h, r⟩ := hx.lst o.sub; exact ⟨a, vs, e, .inl h, r⟩
    · exact hx.scr o.sub
  obtain ⟨v, hv, rv⟩ := atI_rep r ha
  exact ⟨a, vs, i, v, rfl, hy.int, hs, hv, k v z h rv⟩
def dIxT : D → D → (R → Prop) → Prop := fun d e Ψ => ∃ ds i z, d = .tup ds ∧ e = .int i ∧ atI ds i = some z ∧ Ψ (.val z)
theorem od_ixT : OD T (rIxT T.K) dIxT := od_pure fun F H x y d e Q Ψ o hx hy hg k => by
  obtain ⟨ds, i, z, rfl, rfl, ha, h⟩ := hg
  obtain ⟨a, vs, rfl, hs, r⟩ := hx.tup o.sub
  obtain ⟨v, hv, rv⟩ := atI_rep r ha
  exact ⟨a, vs, i, v, rfl, hy.int, hs, hv, k v z h rv⟩
def dIxS : D → D → (R → Prop) → Prop := fun d e Ψ => ∃ z i c, d = .str z ∧ e = .int i ∧ z.length ≤ sizeLine ∧ atI z.cps.toList i = some c ∧ Ψ (.val (.str ⟨#[c]⟩))
theorem od_ixS : OD T rIxS dIxS := od_pure fun F H x y d e Q Ψ o hx hy hg k => by
  obtain ⟨z, i, c, rfl, rfl, hl, ha, h⟩ := hg
  exact ⟨z, i, c, hx.str, hy.int, hl, ha, k _ _ h (.str _)⟩
def dIx : D → D → (R → Prop) → Prop := fun d e Ψ => match d with
  | .lst _ => dIxL d e Ψ
  | .scr _ => dIxL d e Ψ
  | .tup _ => dIxT d e Ψ
  | .str _ => dIxS d e Ψ
  | _ => False
theorem od_ix : OD T (rIx T.K) dIx := fun F H x y d e Q Ψ o hx hy hg k => by
  unfold dIx at hg
  split at hg
  · exact .inl (od_ixL F H x y _ e Q Ψ o hx hy hg k)
  · exact .inl (od_ixL F H x y _ e Q Ψ o hx hy hg k)
  · exact .inr (.inl (od_ixT F H x y _ e Q Ψ o hx hy hg k))
  · exact .inr (.inr (od_ixS F H x y _ e Q Ψ o hx hy hg k))
  · exact hg.elim
def D.v : D → V
  | .non => .non | .bl b => .bl b | .int i => .int i | .str x => .str x | _ => .ty ""
def D.flat : D → Bool
  | .non => true | .bl _ => true | .int _ => true | .str _ => true | _ => false
theorem PRep.flat {K : PySem.W.Frag} {v : V} {d : D} (h : PRep K F H v d) (f : d.flat = true) : v = d.v ∧ flatV v = true := by
  cases d <;> first
    | (cases f; done)
    | (rw [h.non]; exact ⟨rfl, rfl⟩)
    | (rw [h.bl]; exact ⟨rfl, rfl⟩)
    | (rw [h.int]; exact ⟨rfl, rfl⟩)
    | (rw [h.str]; exact ⟨rfl, rfl⟩)
theorem RepA.flat {K : PySem.W.Frag} : ∀ {vs : List V} {ds : List D}, RepA K F vs ds → ds.all D.flat = true → vs = ds.map D.v ∧ vs.all flatV = true
  | _, _, .nil, _ => ⟨rfl, rfl⟩
  | _, _, .cons h r, f => by
    simp only [List.all_cons, Bool.and_eq_true] at f
    obtain ⟨e1, f1⟩ := PRep.flat (H := F) (.inl h) f.1
    obtain ⟨e2, f2⟩ := RepA.flat r f.2
    exact ⟨by rw [List.map_cons, ← e1, ← e2], by rw [List.all_cons, f1, f2]; rfl⟩
def bIn (neg : Bool) : D → D → (Bool → Prop) → Prop := fun d e Ψ => ∃ ds, (e = .lst ds ∨ e = .tup ds) ∧ d.flat = true ∧ ds.all D.flat = true ∧ Ψ (if neg then !inV d.v (ds.map D.v) else inV d.v (ds.map D.v))
def dAddS : D → D → (R → Prop) → Prop := fun d e Ψ => ∃ x y, d = .str x ∧ e = .str y ∧ x.length + y.length ≤ sizeLine ∧ Ψ (.val (.str (x ++ y)))
theorem od_addS : OD T (fun x y H Q => ∃ i j, x = .str i ∧ y = .str j ∧ i.length + j.length ≤ sizeLine ∧ Q (.str (i ++ j)) H) dAddS := od_pure fun F H x y d e Q Ψ o hx hy hg k => by
  obtain ⟨x', y', rfl, rfl, hl, h⟩ := hg
  exact ⟨x', y', hx.str, hy.str, hl, k _ _ h (.str _)⟩
def dCat : D → D → (R → Prop) → Prop := fun d e Ψ => ∃ xs ys, d = .lst xs ∧ e = .lst ys ∧ xs.length + ys.length ≤ sizeLine ∧ Ψ (.new (xs ++ ys))
theorem tup_ok {p : Addr} {vs : List V} {ds : List D} {Q : VK} {Ψ : R → Prop} (o : Ok T F H) (hp : H p = none) (r : RepA T.K F vs ds) (h : Ψ (.val (.tup ds))) (k : ∀ F' H' v r, Ψ r → Nw T F H F' H' → RepN T F' H H' v r → Q v H') : Q (.ref p) (upd H p (.tup vs)) := by
  have n := o.lay (o := .tup vs) hp tup_nt
  exact k _ _ _ _ h n (Rep.tup (.inl (.inl upd_same)) (r.mono n.ff))
theorem ud_neg : UD T (rU fun i => .int (-i)) (fun d Ψ => ∃ i, d = .int i ∧ Ψ (.val (.int (-i)))) := fun F H x d Q Ψ o hx hg k => by
  obtain ⟨i, rfl, h⟩ := hg
  exact ⟨i, hx.int, k F H _ _ h o.refl (Rep.int _)⟩
theorem cd_pure {r : List V → Hp → VK → Prop} {g : List D → (R → Prop) → Prop} (h : ∀ (F H : Hp) (vs : List V) (ds : List D) (Q : VK) (Ψ : R → Prop), Ok T F H → PRepA T.K F H vs ds → g ds Ψ → (∀ v z, Ψ (.val z) → Rep T.K F v z → Q v H) → r vs H Q) : CD T r g :=
  fun F H vs ds Q Ψ o hx hg k => h F H vs ds Q Ψ o hx hg fun v z hz hv => k F H v _ hz o.refl hv
def dLen : List D → (R → Prop) → Prop := fun ds Ψ => ∃ zs, (ds = [.lst zs] ∨ ds = [.tup zs] ∨ ds = [.scr zs]) ∧ Ψ (.val (.int (zs.length : Nat)))
theorem seq_of {v : V} {d : D} {zs : List D} (o : Ok T F H) (h : PRep T.K F H v d) (e : d = .lst zs ∨ d = .tup zs ∨ d = .scr zs) : ∃ a vs, v = .ref a ∧ (SqL T.K H a vs ∨ SqT T.K H a vs) ∧ RepA T.K F vs zs := by
  rcases e with rfl | rfl | rfl
  · obtain ⟨a, vs, e, h, r⟩ := h.lst o.sub; exact ⟨a, vs, e, .inl (.inl h), r⟩
  · obtain ⟨a, vs, e, h, r⟩ := h.tup o.sub; exact ⟨a, vs, e, .inr h, r⟩
  · obtain ⟨a, vs, e, h, r⟩ := h.scr o.sub; exact ⟨a, vs, e, .inl h, r⟩
theorem cd_len : CD T (fun xs H Q => ∃ p ys, xs = [.ref p] ∧ (SqL T.K H p ys ∨ SqT T.K H p ys) ∧ Q (.int ys.length) H) dLen := cd_pure fun F H vs ds Q Ψ o hx hg k => by
  obtain ⟨zs, e, h⟩ := hg
  obtain ⟨d, rfl⟩ : ∃ d, ds = [d] := by rcases e with e | e | e <;> exact ⟨_, e⟩
  obtain ⟨v, rfl, hv⟩ := hx.one
  obtain ⟨a, ws, rfl, hs, r⟩ := seq_of (zs := zs) o hv (by rcases e with e | e | e <;> (cases e; simp))
  exact ⟨a, ws, rfl, hs, by rw [r.length]; exact k _ _ h (.int _)⟩
def dLenS : List D → (R → Prop) → Prop := fun ds Ψ => ∃ z, ds = [.str z] ∧ z.length ≤ sizeLine ∧ Ψ (.val (.int (z.length : Nat)))
theorem cd_lenS : CD T (fun xs H Q => ∃ z, xs = [.str z] ∧ z.length ≤ sizeLine ∧ Q (.int z.length) H) dLenS := cd_pure fun F H vs ds Q Ψ o hx hg k => by
  obtain ⟨z, rfl, hl, h⟩ := hg
  obtain ⟨v, rfl, hv⟩ := hx.one
  exact ⟨z, by rw [hv.str], hl, k _ _ h (.int _)⟩
def d1I (f : Int → Int) : List D → (R → Prop) → Prop := fun ds Ψ => ∃ i, ds = [.int i] ∧ Ψ (.val (.int (f i)))
def d2I (f : Int → Int → Int) : List D → (R → Prop) → Prop := fun ds Ψ => ∃ i j, ds = [.int i, .int j] ∧ Ψ (.val (.int (f i j)))
theorem cd_1I {f : Int → Int} : CD T (fun xs H Q => ∃ i, xs = [.int i] ∧ Q (.int (f i)) H) (d1I f) := cd_pure fun F H vs ds Q Ψ o hx hg k => by
  obtain ⟨i, rfl, h⟩ := hg
  obtain ⟨v, rfl, hv⟩ := hx.one
  exact ⟨i, by rw [hv.int], k _ _ h (.int _)⟩
theorem cd_2I {f : Int → Int → Int} : CD T (fun xs H Q => ∃ i j, xs = [.int i, .int j] ∧ Q (.int (f i j)) H) (d2I f) := cd_pure fun F H vs ds Q Ψ o hx hg k => by
  obtain ⟨i, j, rfl, h⟩ := hg
  obtain ⟨v, u, rfl, hv, hu⟩ := hx.two
  exact ⟨i, j, by rw [hv.int, hu.int], k _ _ h (.int _)⟩
def dDivmod : List D → (R → Prop) → Prop := fun ds Ψ => ∃ i j, ds = [.int i, .int j] ∧ CDivP i j ∧ Ψ (.val (.tup [.int (i / j), .int (i % j)]))
theorem cd_divmod : CD T (fun xs H Q => ∃ i j, xs = [.int i, .int j] ∧ CDivP i j ∧ ∀ p, H p = none → Q (.ref p) (L2.upd H p (.tup [.int (i / j), .int (i % j)]))) dDivmod := fun F H vs ds Q Ψ o hx hg k => by
  obtain ⟨i, j, rfl, c, h⟩ := hg
  obtain ⟨v, u, rfl, hv, hu⟩ := hx.two
  exact ⟨i, j, by rw [hv.int, hu.int], c, fun p hp => tup_ok o hp (.cons (.int _) (.cons (.int _) .nil)) h k⟩
def D.isi : D → String → Option Bool
  | .lst _, "list" => some true
  | .tup _, "tuple" => some true
  | d, T => isiB d.v T
def dIsi : List D → (R → Prop) → Prop := fun ds Ψ => ∃ d T b, ds = [d, .ty T] ∧ d.isi T = some b ∧ Ψ (.val (.bl b))
theorem PRep.ty {K : PySem.W.Frag} {v : V} {n : String} (h : PRep K F H v (.ty n)) : v = .ty n := by
  rcases h with h | ⟨_, _, _, _, z, _⟩
  · cases h; rfl
  · cases z
theorem cd_isi : CD T (fun xs H Q => (∃ y T b, xs = [y, .ty T] ∧ isiB y T = some b ∧ Q (.bl b) H) ∨ (∃ a ys, xs = [.ref a, .ty "tuple"] ∧ SqT T.K H a ys ∧ Q (.bl true) H) ∨ ∃ a ys, xs = [.ref a, .ty "list"] ∧ SqL T.K H a ys ∧ Q (.bl true) H) dIsi := cd_pure fun F H vs ds Q Ψ o hx hg k => by
  obtain ⟨d, Tn, b, rfl, hb, h⟩ := hg
  obtain ⟨v, u, rfl, hv, hu⟩ := hx.two
  obtain rfl := hu.ty
  unfold D.isi at hb
  split at hb
  · cases hb
    obtain ⟨a, ws, rfl, hs, r⟩ := hv.lst o.sub
    exact .inr (.inr ⟨a, ws, rfl, .inl hs, k _ _ h (.bl _)⟩)
  · cases hb
    obtain ⟨a, ws, rfl, hs, r⟩ := hv.tup o.sub
    exact .inr (.inl ⟨a, ws, rfl, hs, k _ _ h (.bl _)⟩)
  · refine .inl ⟨v, Tn, b, rfl, ?_, k _ _ h (.bl _)⟩
    have : v = d.v := by
      cases d <;> first
        | exact hv.non | exact hv.bl | exact hv.int | exact hv.str
        | (exfalso; unfold isiB D.v at hb; simp at hb)
    rw [this]
    exact hb
def dList : List D → (R → Prop) → Prop := fun ds Ψ => ∃ d zs, ds = [d] ∧ (d = .lst zs ∨ d = .tup zs ∨ d = .scr zs) ∧ Ψ (.new zs)
def dTuple : List D → (R → Prop) → Prop := fun ds Ψ => ∃ d zs, ds = [d] ∧ (d = .lst zs ∨ d = .tup zs) ∧ Ψ (.val (.tup zs))
def dStrI : List D → (R → Prop) → Prop := fun ds Ψ => ∃ i : Int, ds = [.int i] ∧ i.natAbs.log2 < 1920 ∧ Ψ (.val (.str (toString i)))
theorem cd_strI : CD T (fun xs H Q => ∃ i, xs = [.int i] ∧ i.natAbs.log2 < 1920 ∧ Q (.str (toString i)) H) dStrI := cd_pure fun F H vs ds Q Ψ o hx hg k => by
  obtain ⟨i, rfl, c, h⟩ := hg
  obtain ⟨v, rfl, hv⟩ := hx.one
  exact ⟨i, by rw [hv.int], c, k _ _ h (.str _)⟩
def dInt1 : List D → (R → Prop) → Prop := fun ds Ψ => (∃ i, ds = [.int i] ∧ Ψ (.val (.int i))) ∨ ∃ b, ds = [.bl b] ∧ Ψ (.val (.int (if b then 1 else 0)))
theorem cd_int1 : CD T (fun xs H Q => (∃ i, xs = [.int i] ∧ Q (.int i) H) ∨ ∃ k, xs = [.bl k] ∧ Q (.int (if k then 1 else 0)) H) dInt1 := cd_pure fun F H vs ds Q Ψ o hx hg k => by
  rcases hg with ⟨i, rfl, h⟩ | ⟨b, rfl, h⟩
  · obtain ⟨v, rfl, hv⟩ := hx.one
    exact .inl ⟨i, by rw [hv.int], k _ _ h (.int _)⟩
  · obtain ⟨v, rfl, hv⟩ := hx.one
    exact .inr ⟨b, by rw [hv.bl], k _ _ h (.int _)⟩
def MD (T : Tb) (r : V → List V → Hp → VK → Prop) (g : Str → D → (R → Prop) → Prop) : Prop := ∀ (F H : Hp) (a : Str) (y : V) (e : D) (Q : VK) (Ψ : R → Prop), Ok T F H → PRep T.K F H y e → g a e Ψ →
  (∀ F' H' v r, Ψ r → Nw T F H F' H' → RepN T F' H H' v r → Q v H') → r (.str a) [y] H Q
def wM1 (g : Str → D → (R → Prop) → Prop) (wo we : WE) : WE := fun Γ Ψ Ξ => wo Γ (fun r1 Γ1 => ∃ a, r1.at Γ1 = some (.str a) ∧ we Γ1 (fun r2 Γ2 => ∃ d2, r2.at Γ2 = some d2 ∧ g a d2 fun r => Ψ r Γ2) Ξ) Ξ
theorem ed_m1 {r : V → List V → Hp → VK → Prop} {g : Str → D → (R → Prop) → Prop} (m : MD T r g) (ho : ED T E to wo) (he : ED T E te we) : ED T E (tM1 r to te) (wM1 g wo we) := fun F σ H Γ Q Ψ Ξ p h x k => ho F σ H Γ _ _ Ξ p h x fun F1 H1 Γ1 v1 r1 h1 q1 e1 => by
  obtain ⟨a, a1, h1⟩ := h1
  have ev := (e1.peek q1.rp a1).str
  refine ⟨⟨a, ev⟩, he F1 σ H1 Γ1 _ _ Ξ q1.rp h1 (x.on q1) fun F2 H2 Γ2 v2 r2 h2 q2 e2 => ?_⟩
  obtain ⟨d2, a2, hg⟩ := h2
  subst ev
  have q := q1.trans q2
  exact m F2 H2 a v2 d2 Q _ q2.rp.toOk (e2.peek q2.rp a2) hg fun F4 H4 v r h4 n4 e4 => k F4 H4 Γ2 v r h4 (q.nw n4) (e4.toR q)
def dJoin : Str → D → (R → Prop) → Prop := fun a e Ψ => ∃ ys : List Str, (e = .lst (ys.map D.str) ∨ e = .tup (ys.map D.str)) ∧ (ys.map (·.length)).sum + ys.length * a.length ≤ 16777216 ∧ Ψ (.val (.str (Txt.join a ys)))
theorem md_join : MD T (fun x xs H Q => ∃ a p, ∃ ys : List Str, x = .str a ∧ xs = [.ref p] ∧ (SqL T.K H p (ys.map V.str) ∨ SqT T.K H p (ys.map V.str)) ∧ (ys.map (·.length)).sum + ys.length * a.length ≤ 16777216 ∧ Q (.str (Txt.join a ys)) H) dJoin := fun F H a y e Q Ψ o hy hg k => by
  obtain ⟨ys, he, hl, h⟩ := hg
  obtain ⟨p, vs, rfl, hs, r⟩ := seq_of (zs := ys.map D.str) o hy (by rcases he with h | h <;> simp [h])
  have := r.strs
  subst this
  exact ⟨a, p, ys, rfl, rfl, hs, hl, k F H _ _ h o.refl (Rep.str _)⟩
def wApp (i : Nat) (we : WE) : WE := fun Γ Ψ Ξ => ∃ ds0, Γ[i]? = some (some (.own ds0)) ∧ we Γ (fun r Γ1 => ∃ d Γ2 ds, frz Γ1 r = some (d, Γ2) ∧ Γ2[i]? = some (some (.own ds)) ∧ ds.length < sizeLine ∧ Ψ (.val .non) (Γ2.set i (some (.own (ds ++ [d]))))) Ξ
def wRev (i : Nat) : WE := fun Γ Ψ Ξ => ∃ ds, Γ[i]? = some (some (.own ds)) ∧ Ψ (.val .non) (Γ.set i (some (.own ds.reverse)))
def wClr (i : Nat) : WE := fun Γ Ψ Ξ => ∃ ds, Γ[i]? = some (some (.own ds)) ∧ Ψ (.val .non) (Γ.set i (some (.own [])))
abbrev WO := Gm → (Option Int → Gm → Prop) → (XD → Prop) → Prop
def OO (T : Tb) (E : XK) (t : TO) (w : WO) : Prop := ∀ (F : Hp) (σ : L2.St) (H : Hp) (Γ : Gm) (Q : Option Int → Hp → Prop) (Ψ : Option Int → Gm → Prop) (Ξ : XD → Prop), Rp T F σ H Γ → w Γ Ψ Ξ → XO T σ E Ξ F H Γ → (∀ F' H' Γ' o, Ψ o Γ' → Po T F σ H Γ F' H' Γ' → Q o H') → t σ H Q
def wNoP : WO := fun Γ Ψ _ => Ψ none Γ
theorem oo_none : OO T E tNoPart wNoP := fun F σ H Γ Q Ψ Ξ p h x k => k F H Γ _ h p.refl
def wPrt (w : WE) : WO := fun Γ Ψ Ξ => w Γ (fun r Γ1 => ∃ i, r.at Γ1 = some (.int i) ∧ Ψ (some i) Γ1) Ξ
theorem oo_some (h : ED T E t w) : OO T E (tPart t) (wPrt w) := fun F σ H Γ Q Ψ Ξ p hw x k => h F σ H Γ _ _ Ξ p hw x fun F1 H1 Γ1 v r hr q e => by
  obtain ⟨i, a, hn⟩ := hr
  exact ⟨i, (e.peek q.rp a).int, k F1 H1 Γ1 _ hn q⟩
def LD (T : Tb) (r : V → Option Int → Option Int → Hp → VK → Prop) (g : D → Option Int → Option Int → (R → Prop) → Prop) : Prop := ∀ (F H : Hp) (x : V) (d : D) (lo hi : Option Int) (Q : VK) (Ψ : R → Prop), Ok T F H → PRep T.K F H x d → g d lo hi Ψ →
  (∀ F' H' v r, Ψ r → Nw T F H F' H' → RepN T F' H H' v r → Q v H') → r x lo hi H Q
def wSl (g : D → Option Int → Option Int → (R → Prop) → Prop) (w : WE) (wl wh : WO) : WE := fun Γ Ψ Ξ => w Γ (fun r1 Γ1 => wl Γ1 (fun lo Γ2 => wh Γ2 (fun hi Γ3 => ∃ d, r1.at Γ3 = some d ∧ g d lo hi fun r => Ψ r Γ3) Ξ) Ξ) Ξ
theorem ed_sl {r : V → Option Int → Option Int → Hp → VK → Prop} {g : D → Option Int → Option Int → (R → Prop) → Prop} {tl th : TO} {wl wh : WO} (l : LD T r g) (h : ED T E t w) (hl : OO T E tl wl) (hh : OO T E th wh) : ED T E (tSl r t tl th) (wSl g w wl wh) := fun F σ H Γ Q Ψ Ξ p hw x k => h F σ H Γ _ _ Ξ p hw x fun F1 H1 Γ1 v r hr q e => by
  obtain ⟨F2, q2, s2, e2⟩ := RepR.held q e
  refine hl F2 σ H1 Γ1 _ _ Ξ q2.rp hr (x.on q2) fun F3 H3 Γ3 lo h3 q3 => ?_
  have q23 := q2.trans q3
  refine hh F3 σ H3 Γ3 _ _ Ξ q3.rp h3 (x.on q23) fun F4 H4 Γ4 hi h4 q4 => ?_
  obtain ⟨d, a, hg⟩ := h4
  rw [← R.at_hold] at a
  have qq := q23.trans q4
  exact l F4 H4 v d lo hi Q _ q4.rp.toOk (((e2.on q3).on q4).peek q4.rp a) hg fun F5 H5 v5 r5 h5 n5 e5 => k F5 H5 Γ4 v5 r5 h5 (qq.nw n5) (e5.toR qq)
def cutD (xs : List D) (lo hi : Option Int) : List D := (xs.drop (HT.sIx xs.length 0 lo)).take (HT.sIx xs.length xs.length hi - HT.sIx xs.length 0 lo)
def dSlL : D → Option Int → Option Int → (R → Prop) → Prop := fun d lo hi Ψ => ∃ ds, d = .lst ds ∧ Ψ (.new (cutD ds lo hi))
def dSlS : D → Option Int → Option Int → (R → Prop) → Prop := fun d lo hi Ψ => ∃ z, d = .str z ∧ z.length ≤ sizeLine ∧ Ψ (.val (.str (cutS z lo hi)))
theorem ld_str : LD T rSlS dSlS := fun F H x d lo hi Q Ψ o hx hg k => by
  obtain ⟨z, rfl, hl, h⟩ := hg
  exact ⟨z, hx.str, hl, k F H _ _ h o.refl (Rep.str _)⟩
end
end Dt
set_option Elab.async false
set_option linter.all false
set_option maxRecDepth 100000
set_option autoImplicit false
namespace Dt
open PySem PySem.Spec L2 Kx PyProof.Rows
section
variable {X : Cx} {K : PySem.W.Frag}
theorem ix_seqK (h : X.K = K) : IxR X (rIx K) := h ▸ ix_seq
theorem op_neDK (h : X.K = K) (hu : X.A.units + 64 < cLine) : OpR X (compareOp .NotEq) (rNeD K) := h ▸ op_neD hu
theorem call_lenK (h : X.K = K) : CallR X (.builtin "len") (fun xs H Q => ∃ p ys, xs = [.ref p] ∧ (SqL K H p ys ∨ SqT K H p ys) ∧ Q (.int ys.length) H) := h ▸ call_len_seq
theorem call_isiK (h : X.K = K) : CallR X (.builtin "isinstance") (fun xs H Q => (∃ y T b, xs = [y, .ty T] ∧ isiB y T = some b ∧ Q (.bl b) H) ∨ (∃ a ys, xs = [.ref a, .ty "tuple"] ∧ SqT K H a ys ∧ Q (.bl true) H) ∨ ∃ a ys, xs = [.ref a, .ty "list"] ∧ SqL K H a ys ∧ Q (.bl true) H) := h ▸ call_isiAll
end
structure QE (X : Cx) (T : Tb) (E : XK) (e : Expr) (t : TE) (w : WE) : Prop where
  pe : PE X e t
  ed : ED T E t w
structure QT (X : Cx) (T : Tb) (E : XK) (e : Expr) (t : TT) (w : WT) : Prop where
  pe : PT X e t
  ed : TD T E t w
structure QW (X : Cx) (T : Tb) (E : XK) (e : Expr) (t : TT) (w : WT) : Prop where
  pe : PW X e t
  ed : TD T E t w
structure QA (X : Cx) (T : Tb) (E : XK) (es : List Expr) (t : TA) (w : WA) : Prop where
  pe : PA X es t
  ed : AD T E t w
structure QO (X : Cx) (T : Tb) (E : XK) (e : Option Expr) (t : TO) (w : WO) : Prop where
  pe : PO X e t
  ed : OO T E t w
structure QS (X : Cx) (T : Tb) (io : Bool) (E : XK) (st : Stmt) (t : TS) (w : WS) : Prop where
  pe : PS X st t
  ed : SD T io E t w
structure QSs (X : Cx) (T : Tb) (io : Bool) (E : XK) (st : List Stmt) (t : TS) (w : WS) : Prop where
  pe : PSs X st t
  ed : SD T io E t w
structure QI (X : Cx) (T : Tb) (E : XK) (tg e : Expr) (t : TI) (w : WI) : Prop where
  pe : PI X tg e t
  ed : ID T E t w
structure QG (X : Cx) (T : Tb) (io : Bool) (e : Expr) (t : TG) (w : WG) : Prop where
  pe : PG X e t
  ed : GD T io t w
structure QGs (X : Cx) (T : Tb) (io : Bool) (es : List Expr) (t : TGs) (w : WGs) : Prop where
  pe : PGs X es t
  ed : GDs T io t w
structure QC (X : Cx) (T : Tb) (vs : List Nat) (e : Expr) (t : TG) (w : WG) : Prop where
  pe : PG X e t
  ed : CG T vs t w
structure QCs (X : Cx) (T : Tb) (vs : List Nat) (es : List Expr) (t : TGs) (w : WGs) : Prop where
  pe : PGs X es t
  ed : CGs T vs t w
structure QTs (X : Cx) (T : Tb) (E : XK) (e : List Expr) (t : TT) (w : WT) : Prop where
  pe : PTs X e t
  ed : TD T E t w
section
variable {X : Cx} {T : Tb} {E : XK} {io : Bool} {a b c e : Expr} {es : List Expr} {ta tb tc te t to : TE} {wa wb wc we w wo : WE} {tA : TA} {wA : WA} {pos : Pos} {t1 t2 : TT} {w1 w2 : WT} {s1 s2 : TS} {u1 u2 : WS} {x : Str}
theorem q_v (i : Nat) (h : PE X (.Name x pos) (tVar i)) : QE X T E (.Name x pos) (tVar i) (wVar i) := ⟨h, ed_var i⟩
theorem q_int {i : Int} {j} : QE X T E (.Constant (.int i) j pos) (tC (.int i)) (wC (.int i)) := ⟨pe_int, ed_c fun _ => .int i⟩
theorem q_bl {i : Bool} {j} : QE X T E (.Constant (.bool i) j pos) (tC (.bl i)) (wC (.bl i)) := ⟨pe_bl, ed_c fun _ => .bl i⟩
theorem q_non {j} : QE X T E (.Constant .none j pos) (tC .non) (wC .non) := ⟨pe_non, ed_c fun _ => .non⟩
theorem q_str {i : Str} {j} : QE X T E (.Constant (.str i) j pos) (tC (.str i)) (wC (.str i)) := ⟨pe_str, ed_c fun _ => .str i⟩
theorem q_glob {v : V} {d : D} (h : PE X (.Name x pos) (tC v)) (r : ∀ F, Rep T.K F v d) : QE X T E (.Name x pos) (tC v) (wC d) := ⟨h, ed_c r⟩
theorem q_op {op : Operator} {r : L2.R2} {g : D → D → (R → Prop) → Prop} (o : OpR X (binaryOp op) r) (d : OD T r g) (ha : QE X T E a ta wa) (hb : QE X T E b tb wb) : QE X T E (.BinOp a op b pos) (tOp r ta tb) (wOp g wa wb) := ⟨pe_op o ha.pe hb.pe, ed_op d ha.ed hb.ed⟩
theorem q_un {op : UnaryOp} {r : V → Hp → VK → Prop} {g : D → (R → Prop) → Prop} (o : UnR X (unaryOp op) r) (d : UD T r g) (ha : QE X T E a ta wa) : QE X T E (.UnaryOp op a pos) (tUn r ta) (wUn g wa) := ⟨pe_un o ha.pe, ed_un d ha.ed⟩
theorem q_ix {r : L2.R2} {g : D → D → (R → Prop) → Prop} (o : IxR X r) (d : OD T r g) (ha : QE X T E a ta wa) (hb : QE X T E b tb wb) (hs : PlainIx b) : QE X T E (.Subscript a b pos) (tOp r ta tb) (wOp g wa wb) := ⟨pe_ix o ha.pe hb.pe hs, ed_op d ha.ed hb.ed⟩
def wCmp (g : D → D → (Bool → Prop) → Prop) (wa wb : WE) : WT := fun Γ Ψ Ξ => wa Γ (fun r1 Γ1 => wb Γ1 (fun r2 Γ2 => ∃ d1 d2, r1.at Γ2 = some d1 ∧ r2.at Γ2 = some d2 ∧ g d1 d2 fun b => Ψ b Γ2) Ξ) Ξ
theorem td_cmp {r : L2.R2} {g : D → D → (Bool → Prop) → Prop} (o : BD T r g) (ha : ED T E ta wa) (hb : ED T E tb wb) : TD T E (tTest (tOp r ta tb)) (wCmp g wa wb) := by
  intro F σ H Γ Q Ψ Ξ p h x k
  refine ha F σ H Γ _ _ Ξ p h x fun F1 H1 Γ1 v1 r1 h1 q1 e1 => ?_
  obtain ⟨F2, q2, s2, e2⟩ := RepR.held q1 e1
  refine hb F2 σ H1 Γ1 _ _ Ξ q2.rp h1 (x.on q2) fun F3 H3 Γ3 v2 r2 h3 q3 e3 => ?_
  obtain ⟨d1, d2, a1, a2, hg⟩ := h3
  rw [← R.at_hold] at a1
  exact o F3 H3 v1 v2 d1 d2 _ _ q3.rp.toOk ((e2.on q3).peek q3.rp a1) (e3.peek q3.rp a2) hg fun b hb => ⟨b, rfl, k F3 H3 Γ3 b hb (q2.trans q3)⟩
theorem q_cmpT {op : CmpOp} {r : L2.R2} {g : D → D → (Bool → Prop) → Prop} (o : OpR X (compareOp op) r) (d : BD T r g) (ha : QE X T E a ta wa) (hb : QE X T E b tb wb) (m : behindInMarks op b = false) : QT X T E (.Compare a [op] [b] pos) (tTest (tOp r ta tb)) (wCmp g wa wb) := ⟨pt_cmpR o ha.pe hb.pe m, td_cmp d ha.ed hb.ed⟩
def bod (g : D → D → (Bool → Prop) → Prop) : D → D → (R → Prop) → Prop := fun d e Ψ => g d e fun b => Ψ (.val (.bl b))
theorem q_cmp {op : CmpOp} {r : L2.R2} {g : D → D → (Bool → Prop) → Prop} (o : OpR X (compareOp op) r) (d : BD T r g) (ha : QE X T E a ta wa) (hb : QE X T E b tb wb) (m : behindInMarks op b = false) : QE X T E (.Compare a [op] [b] pos) (tOp r ta tb) (wOp (bod g) wa wb) := ⟨pe_cmpR o ha.pe hb.pe m, ed_op d.od ha.ed hb.ed⟩
theorem q_chain {op op' : CmpOp} {r r' : L2.R2} {g g' : D → D → (Bool → Prop) → Prop} (o : OpR X (compareOp op) r) (d : BD T r g) (o' : OpR X (compareOp op') r') (d' : BD T r' g') (ha : QE X T E a ta wa) (hb : QE X T E b tb wb) (hc : QE X T E c tc wc) (m : lastMarks [op, op'] [b, c] = false) :
    QE X T E (.Compare a [op, op'] [b, c] pos) (tChain r r' ta tb tc) (wChain g g' wa wb wc) := ⟨pe_chain o o' ha.pe hb.pe hc.pe m, ed_chain d d' ha.ed hb.ed hc.ed⟩
theorem q_tv (h : QE X T E e t w) (he : plainTest e = true) : QT X T E e (tB t) (wB w) := ⟨pt_v h.pe he, td_b h.ed⟩
theorem q_tnot (h : QT X T E e t1 w1) : QT X T E (.UnaryOp .Not e pos) (tNot t1) (wNot w1) := ⟨pt_not h.pe, td_not h.ed⟩
theorem q_and1 (h : QT X T E e t1 w1) : QW X T E (.BoolOp .And [e] pos) t1 w1 := ⟨pw_and1 h.pe, h.ed⟩
theorem q_or1 (h : QT X T E e t1 w1) : QW X T E (.BoolOp .Or [e] pos) t1 w1 := ⟨pw_or1 h.pe, h.ed⟩
theorem q_and (h : QT X T E a t1 w1) (h' : QW X T E (.BoolOp .And (b :: es) pos) t2 w2) : QW X T E (.BoolOp .And (a :: b :: es) pos) (tAnd t1 t2) (wAnd w1 w2) := ⟨pw_and h.pe h'.pe, td_and h.ed h'.ed⟩
theorem q_or (h : QT X T E a t1 w1) (h' : QW X T E (.BoolOp .Or (b :: es) pos) t2 w2) : QW X T E (.BoolOp .Or (a :: b :: es) pos) (tOr t1 t2) (wOr w1 w2) := ⟨pw_or h.pe h'.pe, td_or h.ed h'.ed⟩
theorem QW.tst (h : QW X T E e t1 w1) : QT X T E e t1 w1 := ⟨h.pe.pt, h.ed⟩
theorem q_one {op : BoolOp} (h : QE X T E a t w) : QE X T E (.BoolOp op [a] pos) t w := ⟨pe_one h.pe, h.ed⟩
theorem q_andV (h : QE X T E a ta wa) (h' : QE X T E (.BoolOp .And (b :: es) pos) tb wb) : QE X T E (.BoolOp .And (a :: b :: es) pos) (tAndV ta tb) (wAndV wa wb) := ⟨pe_and h.pe h'.pe, ed_and h.ed h'.ed⟩
theorem q_orV (h : QE X T E a ta wa) (h' : QE X T E (.BoolOp .Or (b :: es) pos) tb wb) : QE X T E (.BoolOp .Or (a :: b :: es) pos) (tOrV ta tb) (wOrV wa wb) := ⟨pe_or h.pe h'.pe, ed_or h.ed h'.ed⟩
theorem q_notV (h : QE X T E a ta wa) : QE X T E (.UnaryOp .Not a pos) (tNotV ta) (wNotV wa) := ⟨pe_not h.pe, ed_not h.ed⟩
theorem q_if (h : QT X T E c t1 w1) (ha : QE X T E a ta wa) (hb : QE X T E b tb wb) : QE X T E (.IfExp c a b pos) (tIf t1 ta tb) (wIf w1 wa wb) := ⟨pe_ifExp h.pe ha.pe hb.pe, ed_if h.ed ha.ed hb.ed⟩
theorem q_nil : QA X T E [] tNil wANil := ⟨pa_nil, ad_nil⟩
theorem q_cons (h : QE X T E e t w) (h' : QA X T E es tA wA) (hs : isStar e = false) : QA X T E (e :: es) (tCons t tA) (wACons w wA) := ⟨pa_c h.pe h'.pe hs, ad_cons h.ed h'.ed⟩
theorem q_tup {k} (h : QA X T E es tA wA) : QE X T E (.Tuple es k pos) (tTup tA) (wTup wA) := ⟨pe_tup h.pe, ed_tup h.ed⟩
theorem q_lst (h : QA X T E es tA wA) : QE X T E (.List es pos) (tLst tA) (wLst wA) := ⟨pe_lst h.pe, ed_lst h.ed⟩
theorem q_o0 : QO X T E none tNoPart wNoP := ⟨po_none, oo_none⟩
theorem q_o1 (h : QE X T E e t w) : QO X T E (some e) (tPart t) (wPrt w) := ⟨po_some h.pe, oo_some h.ed⟩
theorem q_sl {lo hi : Option Expr} {tl th : TO} {wl wh : WO} {p2 : Pos} {r : V → Option Int → Option Int → Hp → VK → Prop} {g : D → Option Int → Option Int → (R → Prop) → Prop} (o : SlR X r) (d : LD T r g) (h : QE X T E e t w) (hl : QO X T E lo tl wl) (hh : QO X T E hi th wh) :
    QE X T E (.Subscript e (.Slice lo hi none p2) pos) (tSl r t tl th) (wSl g w wl wh) := ⟨pe_slice o h.pe hl.pe hh.pe, ed_sl d h.ed hl.ed hh.ed⟩
theorem q_cB {id : String} {r : List V → Hp → VK → Prop} {g : List D → (R → Prop) → Prop} {p : Pos} (hc : CallR X (.builtin id) r) (d : CD T r g) (hg : Gl X x) (hm : X.mg x = none) (hv : bootBuiltins x = some (.builtin id)) (ha : QA X T E (e :: es) tA wA) (hn : x ≠ "__name__") (hdb : (x == ("__debug__" : Str)) = false)
    (hs : (e :: es).any isStar = false) : QE X T E (.Call (.Name x p) (e :: es) [] pos) (tCB r tA) (wCB g wA) := ⟨pe_cB hc hg hm hv ha.pe hn hdb hs, ed_cb d ha.ed⟩
theorem q_cT {id : String} {r : List V → Hp → VK → Prop} {g : List D → (R → Prop) → Prop} {p : Pos} (hc : CallR X (.type id) r) (d : CD T r g) (hg : Gl X x) (hm : X.mg x = none) (hv : bootBuiltins x = some (.type id)) (ha : QA X T E (e :: es) tA wA) (hn : x ≠ "__name__") (hdb : (x == ("__debug__" : Str)) = false)
    (hs : (e :: es).any isStar = false) : QE X T E (.Call (.Name x p) (e :: es) [] pos) (tCB r tA) (wCB g wA) := ⟨pe_cT hc hg hm hv ha.pe hn hdb hs, ed_cb d ha.ed⟩
theorem q_call {j k : Nat} {ps : List Str} {io' : Bool} {wf : WF} {p : Pos} {CX : CXT} (C : Cal X.prog X.w X.K X.mg X.base CX j x ps (spD T io' wf)) (hr : Room k X.A) (hx : Passes CX X E) (ha : QA X T E (e :: es) tA wA) (hg : Gl X x) (hj : j ≤ k) (hdb : (x == ("__debug__" : Str)) = false) (hs : (e :: es).any isStar = false) :
    QE X T E (.Call (.Name x p) (e :: es) [] pos) (tCall (spD T io' wf) [] E tA) (wCall io' wf wA) := ⟨pe_callC C hr hx ha.pe hg hj hdb hs, ed_call ha.ed⟩
theorem q_join {o : Expr} {apos : Pos} (ho : QE X T E o to wo) (h : QE X T E e te we) (hs : isStar e = false) (hb : attributeBase o "join" X.env (eval o X.env) = eval o X.env) (hl : (apos.endLine == pos.line) = true) (hK : X.K = T.K) : QE X T E (.Call (.Attribute o "join" apos) [e] [] pos) (tM1 (fun x xs H Q => ∃ a p, ∃ ys : List Str, x = .str a ∧ xs = [.ref p] ∧ (SqL T.K H p (ys.map V.str) ∨ SqT T.K H p (ys.map V.str)) ∧ (ys.map (·.length)).sum + ys.length * a.length ≤ 16777216 ∧ Q (.str (Txt.join a ys)) H) to te) (wM1 dJoin wo we) :=
  ⟨hK ▸ pe_join ho.pe h.pe (star_cons hs) hb hl, ed_m1 md_join ho.ed h.ed⟩
theorem q_t0 : QTs X T E [] tYes (fun Γ Ψ _ => Ψ true Γ) := ⟨pts_nil, fun F σ H Γ Q Ψ Ξ p h x k => k F H Γ _ h p.refl⟩
theorem q_t1 (h : QT X T E e t1 w1) : QTs X T E [e] t1 w1 := ⟨pts_one h.pe, h.ed⟩
variable {tg iter elt : Expr} {ifs : List Expr} {scope : Scope} {own : List (Str × Nat)} {wi : TI} {wI : WI} {g : TG} {wg : WG} {gs : TGs} {wgs : WGs} {tt : TT} {wt : WT} {vs : List Nat}
theorem q_lc (hc : X.calm = true) (hN : X.N.Nodup) (hi : QI X T E tg iter wi wI) (ok : BlkOk X.N X.env.scope scope own)
    (hg : ∀ (s : Shared) (H : Hp) (C : Addr) (cl : List (Str × Addr)) (fp : List Addr), QC (X.blk s H scope (compEnvC scope cl C X.env) fp) T (own.map (·.2)) tg g wg)
    (ht : ∀ (s : Shared) (H : Hp) (C : Addr) (cl : List (Str × Addr)) (fp : List Addr), QTs (X.blk s H scope (compEnvC scope cl C X.env) fp) T E0 ifs tt wt)
    (he : ∀ (s : Shared) (H : Hp) (C : Addr) (cl : List (Str × Addr)) (fp : List Addr), QE (X.blk s H scope (compEnvC scope cl C X.env) fp) T E0 elt te we) (hs : ∀ x, foldedSetIterable iter X.env x = pure x) :
    QE X T E (.ListComp elt [⟨tg, iter, ifs, 0⟩] scope pos) (tLc wi g tt te (own.map (·.2))) (wLc wI wg wt we (own.map (·.2))) :=
  ⟨pe_lc hc hN hi.pe ok (fun s H C cl fp => (hg s H C cl fp).pe) (fun s H C cl fp => (ht s H C cl fp).pe) (fun s H C cl fp => (he s H C cl fp).pe) hs,
    ed_lc hi.ed (hg X.s_0 (fun _ => none) 0 [] []).ed (ht X.s_0 (fun _ => none) 0 [] []).ed (he X.s_0 (fun _ => none) 0 [] []).ed⟩
theorem q_cn {i : Nat} (h : PG X (.Name x pos) (gName i)) (hi : i ∈ vs) : QC X T vs (.Name x pos) (gName i) (wgName i) := ⟨h, cg_name hi⟩
theorem q_is (h : QE X T E e t w) : QI X T E tg e (iStr t) (wIStr w) := ⟨pi_str h.pe, id_str h.ed⟩
theorem q_ir1 {p : Pos} (hg : Gl X "range") (hm : X.mg "range" = none) (ha : QA X T E [a] tA wA) (hs : isStar a = false) : QI X T E tg (.Call (.Name "range" p) [a] [] pos) (iRng1 tA) (wIRng1 wA) := ⟨pi_range1 hg hm ha.pe (star_cons hs), id_rng1 ha.ed⟩
theorem q_gn {i : Nat} (h : PG X (.Name x pos) (gName i)) (hi : i ≠ 0 ∨ io = false) : QG X T io (.Name x pos) (gName i) (wgName i) := ⟨h, gd_name hi⟩
theorem q_g0 : QGs X T io [] gNil wgNil := ⟨pgs_nil, gd_nil⟩
theorem q_g1 (h : QG X T io e g wg) (h' : QGs X T io es gs wgs) (hs : (assignEach (e :: es) X.env).map (·.2) = assign e X.env :: (assignEach es X.env).map (·.2)) : QGs X T io (e :: es) (gCons g gs) (wgCons wg wgs) := ⟨pgs_cons h.pe h'.pe hs, gd_cons h.ed h'.ed⟩
theorem q_gt {n k : Nat} (hK : X.K = T.K) (hc : X.calm = true) (h : QGs X T io es gs wgs) (hn : (assignEach es X.env).length = n) (hst : (assignEach es X.env).findIdx? (·.1) = none) : QG X T io (.Tuple es k pos) (gTup T.K n gs) (wgTup n wgs) := ⟨hK ▸ pg_tup hc h.pe hn hst, gd_tup h.ed⟩
variable {st : Stmt} {sts as bs : List Stmt}
theorem q_s0 : QSs X T io E [] tNext wNext := ⟨pss_nil, sd_next⟩
theorem q_s1 (h : QS X T io E st s1 u1) : QSs X T io E [st] s1 u1 := ⟨pss_one h.pe, h.ed⟩
theorem q_sc (h : QS X T io E st s1 u1) (h' : QSs X T io E sts s2 u2) : QSs X T io E (st :: sts) (tSeq s1 s2) (wSeq u1 u2) := ⟨pss_cons h.pe h'.pe, sd_seq h.ed h'.ed⟩
theorem q_ret (h : QE X T E e t w) : QS X T io E (.Return (some e) pos) (tRet t) (wRet w) := ⟨ps_ret h.pe, sd_ret h.ed⟩
theorem q_ifS (h : QT X T E c t1 w1) (h1 : QSs X T io E as s1 u1) (h2 : QSs X T io E bs s2 u2) : QS X T io E (.If c as bs pos) (tIfS t1 s1 s2) (wIfS w1 u1 u2) := ⟨ps_if h.pe h1.pe h2.pe, sd_if h.ed h1.ed h2.ed⟩
theorem q_set {i : Nat} {pos' : Pos} (hN : X.N.Nodup) (hi : X.N[i]? = some x) (hx : L2.Loc X.env.scope x) (h : QE X T E e t w) (h0 : i ≠ 0 ∨ io = false) (hs : swapsWith e (some (.Name x pos')) pos.line X.env = pure false) (hf : X.fn x = true ∨ X.env.scope.names.lookup x = some .local) :
    QS X T io E (.Assign [.Name x pos'] e pos) (tAsg t (gName i)) (wSet i w) := ⟨ps_set hN hi hx h.pe hs hf, sd_set h.ed h0⟩
theorem q_asg (h : QE X T E e t w) (h' : QG X T io tg g wg) (hs : swapsWithSole [tg] e pos.line X.env = pure false) (hw : swappedStores [tg] e X.env = pure none) (h1 : (assignEach [tg] X.env).map (·.2) = [assign tg X.env]) :
    QS X T io E (.Assign [tg] e pos) (tAsg t g) (wAsg w wg) := ⟨ps_asg h.pe h'.pe hs hw h1, sd_asg h.ed h'.ed⟩
theorem q_putAt {i : Nat} {o k : Expr} {tk : TE} {wk : WE} {pos' : Pos} (ho : PE X o (tVar i)) (h : QE X T E e t w) (hk : QE X T E k tk wk) (hs : swapsWithSole [.Subscript o k pos'] e pos.line X.env = pure false) (hw : swappedStores [.Subscript o k pos'] e X.env = pure none) (h1 : (assignEach [.Subscript o k pos'] X.env).map (·.2) = [assign (.Subscript o k pos') X.env])
    (ha : ∀ v, assign (.Subscript o k pos') X.env v = (do
      let ov ← holding [v] (eval o X.env)
      let iv ← holding [v, ov] (eval k X.env)
      standAt pos'
      holding [v, ov, iv] (setItem ov iv v)
      release [v, ov, iv] [])) :
    QS X T io E (.Assign [.Subscript o k pos'] e pos) (tAsg t (gSub (tVar i) tk rSetL)) (wPutAt i w wk) := ⟨ps_asg h.pe (pg_sub ho hk.pe set_list ha) hs hw h1, sd_putAt h.ed hk.ed⟩
theorem q_par {i j : Nat} {x y : Str} {px py pt pt2 : Pos} {kt k2 : Nat} (hc : X.calm = true) (hN : X.N.Nodup) (hi : X.N[i]? = some x) (hj : X.N[j]? = some y) (hij : i ≠ j) (hx : X.env.scope.names.lookup x = some .local) (hy : X.env.scope.names.lookup y = some .local) (ha : QA X T E [a, b] tA wA) (h0 : (i ≠ 0 ∧ j ≠ 0) ∨ io = false)
    (hw : swappedStores [.Tuple [.Name x px, .Name y py] kt pt] (.Tuple [a, b] k2 pt2) X.env = pure (some [x, y])) (hs : swapsWithSole [.Tuple [.Name x px, .Name y py] kt pt] (.Tuple [a, b] k2 pt2) pos.line X.env = pure false) :
    QS X T io E (.Assign [.Tuple [.Name x px, .Name y py] kt pt] (.Tuple [a, b] k2 pt2) pos) (tPar i j tA) (wPar i j wA) := ⟨ps_par hc hN hi hj hij hx hy ha.pe hw hs, sd_par ha.ed h0⟩
theorem q_for (hp : PassesOwn (model X.prog X.w) X.A X.env X.xe) (hc : X.calm = true) (hi : QI X T E tg iter wi wI) (hg : QG X T io tg g wg) (hb : QSs X T io E bs s1 u1) (hf : ∀ x, foldedSetIterable iter X.env x = pure x) : QS X T io E (.For tg iter bs [] pos) (tFor wi g s1) (wFor wI wg u1) := ⟨ps_for hp hc hi.pe hg.pe hb.pe hf, sd_for hi.ed hg.ed hb.ed⟩
theorem q_while (hp : PassesOwn (model X.prog X.w) X.A X.env X.xe) (h : QT X T E c t1 w1) (hb : QSs X T io E bs s1 u1) : QS X T io E (.While c bs [] pos) (tWhile t1 s1) (wWhile w1 u1) := ⟨ps_while hp h.pe hb.pe, sd_while h.ed hb.ed⟩
end
def toN (io : Bool) (Γ : Gm) : R → Option R
  | .val d => some (.val d)
  | .new ds => some (.new ds)
  | .slot i => if io = true ∧ i = 0 then none else match Γ[i]? with
    | some (some (.own ds)) => some (.new ds)
    | some (some (.shr d)) => some (.val d)
    | _ => none
def retW (io : Bool) (Ψ : R → List D → Prop) (r : R) (Γ : Gm) : Prop := ∃ r', toN io Γ r = some r' ∧ match io with
  | true => ∃ row, Γ[0]? = some (some (.own row)) ∧ Ψ r' row
  | false => Ψ r' []
def endsW (io : Bool) (Ψ : R → List D → Prop) (Ξ : XD → Prop) : WEnds := { nx := fun Γ => retW io Ψ (.val .non) Γ, rt := fun r Γ => retW io Ψ r Γ, bk := fun _ => False, ct := fun _ => False, xe := Ξ }
def startW (io : Bool) (n : Nat) (ds row : List D) : Gm := match io with
  | true => some (.own row) :: (ds.map fun d => some (.shr d)) ++ List.replicate (n - (ds.length + 1)) none
  | false => (ds.map fun d => some (.shr d)) ++ List.replicate (n - ds.length) none
section
variable {K : PySem.W.Frag} {ts : List Addr} {ls : List (Addr × Pos × Str)} {io : Bool} {H F : Hp} {N : List Str} {vs : List V} {ds row : List D} {ra : Addr}
theorem shr_at : ∀ {ds : List D} {vs : List V} {n m : Nat} {i : Nat} {e : En}, RepA K F vs ds → ((ds.map fun d => some (En.shr d)) ++ List.replicate n none)[i]? = some (some e) → ∃ v d, (vs.map some ++ List.replicate m none)[i]? = some (some v) ∧ e = .shr d ∧ Rep K F v d
  | [], _, n, m, i, e, .nil, h => by
    simp only [List.map_nil, List.nil_append, List.getElem?_replicate] at h
    split at h <;> cases h
  | d :: ds, _, n, m, 0, e, .cons (v := v) r _, h => by
    simp at h
    exact ⟨v, d, by simp, h.symm, r⟩
  | d :: ds, _, n, m, i + 1, e, .cons r rr, h => by
    obtain ⟨v, d', h1, h2, h3⟩ := shr_at (m := m) (i := i) (e := e) rr (by simpa using h)
    exact ⟨v, d', by simpa using h1, h2, h3⟩
theorem start_ok {rv : List V} (o : Ok ⟨K, ts, ls⟩ F H) (hN : (if io then 1 else 0) + ds.length ≤ N.length) (r : RepA K F vs ds) (hr : io = true → H ra = some (.lst rv) ∧ F ra = none ∧ RepA K F rv row) :
    Rs ⟨K, ts, ls⟩ io H F ra F (start N (if io then .ref ra :: vs else vs)) H (startW io N.length ds row) := by
  have hl := r.length
  cases io with
  | false =>
    have at0 : ∀ (i : Nat) (e : En), (startW false N.length ds row)[i]? = some (some e) → ∃ v d, (start N vs)[i]? = some (some v) ∧ e = .shr d ∧ Rep K F v d := fun i e h => shr_at r h
    refine ⟨⟨o, ?_, fun i e h => ?_, fun i j es es' v h1 _ _ _ => ?_⟩, fun _ _ h => h, fun b u h _ _ => h, fun b ⟨i, es, h1, _⟩ => ?_, fun b u h => ⟨u, h⟩, fun b u h => .inl h, fun z => by cases z⟩
    · show ((ds.map fun d => some (En.shr d)) ++ List.replicate (N.length - ds.length) none).length = (vs.map some ++ List.replicate (N.length - vs.length) none).length
      simp [hl]
    · obtain ⟨v, d, h1, rfl, h3⟩ := at0 i e h
      exact ⟨v, h1, h3⟩
    · obtain ⟨_, _, _, z, _⟩ := at0 i _ h1
      cases z
    · obtain ⟨_, _, _, z, _⟩ := at0 i _ h1
      cases z
  | true =>
    obtain ⟨h1, h2, h3⟩ := hr rfl
    have at0 : ∀ (i : Nat) (e : En), (startW true N.length ds row)[i]? = some (some e) → (i = 0 ∧ e = .own row) ∨ ∃ v d, (start N (.ref ra :: vs))[i]? = some (some v) ∧ e = .shr d ∧ Rep K F v d := fun i e h => by
      cases i with
      | zero => exact .inl ⟨rfl, by simpa [startW] using h.symm⟩
      | succ i =>
        obtain ⟨v, d, g1, g2, g3⟩ := shr_at (m := N.length - (vs.length + 1)) (i := i) (e := e) r (by simpa [startW] using h)
        exact .inr ⟨v, d, by simpa [L2.start] using g1, g2, g3⟩
    have z0 : (start N (.ref ra :: vs))[0]? = some (some (.ref ra)) := by simp [L2.start]
    refine ⟨⟨o, ?_, fun i e h => ?_, fun i j es es' v g1 g2 _ _ => ?_⟩, fun _ _ h => h, fun b u h _ _ => h, fun b ⟨i, es, g1, g2⟩ => ?_, fun b u h => ⟨u, h⟩, fun b u h => .inl h, fun _ => z0⟩
    · show (some (En.own row) :: (ds.map fun d => some (En.shr d)) ++ List.replicate (N.length - (ds.length + 1)) none).length = ((V.ref ra :: vs).map some ++ List.replicate (N.length - (V.ref ra :: vs).length) none).length
      simp [hl]
    · rcases at0 i e h with ⟨rfl, rfl⟩ | ⟨v, d, g1, rfl, g3⟩
      · exact ⟨_, z0, ra, rv, rfl, h1, h2, h3⟩
      · exact ⟨v, g1, g3⟩
    · rcases at0 i _ g1 with ⟨rfl, _⟩ | ⟨_, _, _, z, _⟩
      · rcases at0 j _ g2 with ⟨rfl, _⟩ | ⟨_, _, _, z, _⟩
        · rfl
        · cases z
      · cases z
    · rcases at0 i _ g1 with ⟨rfl, _⟩ | ⟨_, _, _, z, _⟩
      · have g2' : (start N (.ref ra :: vs))[0]? = some (some (.ref b)) := g2
        rw [z0] at g2'
        cases g2'
        exact .inl ⟨rfl, rfl⟩
      · cases z
theorem ends_ok {Q : VK} {E E' : XK} {Ψ : R → List D → Prop} {Ξ : XD → Prop} (k : ∀ F' H' v r row', Ψ r row' → Fx ⟨K, ts, ls⟩ io ra F H F' H' → (io = true → ∃ rv', H' ra = some (.lst rv') ∧ F' ra = none ∧ RepA K F' rv' row') → RepN ⟨K, ts, ls⟩ F' H H' v r → Q v H')
    (x : ∀ F' H' xd, Ξ xd → Fx ⟨K, ts, ls⟩ io ra F H F' H' → XE ⟨K, ts, ls⟩ F' H' E xd) : EO ⟨K, ts, ls⟩ io H F ra E { nx := fun _ H' => Q .non H', rt := Q } (endsW io Ψ Ξ) := by
  have fx : ∀ {F' H' : Hp} {σ : L2.St} {Γ : Gm}, Rs ⟨K, ts, ls⟩ io H F ra F' σ H' Γ → Fx ⟨K, ts, ls⟩ io ra F H F' H' := fun {F' H' σ Γ} s => ⟨s.rp.toOk, s.ff, s.en, s.gro, s.nf⟩
  have ret : ∀ {F' H' : Hp} {σ : L2.St} {Γ : Gm} {v : V} {r : R}, retW io Ψ r Γ → Rs ⟨K, ts, ls⟩ io H F ra F' σ H' Γ → RepR ⟨K, ts, ls⟩ F' σ H' Γ H v r → Q v H' := fun {F' H' σ Γ v r} h s e => by
    obtain ⟨r', hr, hp⟩ := h
    have row' : ∃ row', Ψ r' row' ∧ (io = true → Γ[0]? = some (some (.own row'))) := by
      cases io with
      | true => obtain ⟨row, h1, h2⟩ := hp; exact ⟨row, h2, fun _ => h1⟩
      | false => exact ⟨[], hp, fun z => by cases z⟩
    obtain ⟨row', hΨ, h0⟩ := row'
    have at0 : io = true → ∃ rv', H' ra = some (.lst rv') ∧ F' ra = none ∧ RepA K F' rv' row' := fun z => by
      obtain ⟨u, e1, a, us, e2, ha, fa, rr⟩ := s.rp.at_ 0 _ (h0 z)
      rw [s.par z] at e1
      cases e1
      cases e2
      exact ⟨us, ha, fa, rr⟩
    refine k F' H' v r' row' hΨ (fx s) at0 ?_
    cases r with
    | val d => cases hr; exact e
    | new es => cases hr; obtain ⟨a, us, e1, e2, e3, e4, e5, _⟩ := e; exact ⟨a, us, e1, e2, e3, e4, e5⟩
    | slot i =>
      simp only [toN] at hr
      split at hr
      · cases hr
      rename_i hio
      obtain ⟨e1, en, e2⟩ := e
      rw [e2] at hr
      obtain ⟨u, e3, re⟩ := s.rp.at_ i en e2
      rw [e1] at e3
      cases e3
      cases en with
      | shr d => cases hr; exact re
      | own es =>
        cases hr
        obtain ⟨a, us, rfl, ha, fa, rr⟩ := re
        refine ⟨a, us, rfl, ha, fa, ?_, rr⟩
        rcases s.fr a ⟨i, es, e2, e1⟩ with ⟨z, rfl⟩ | z
        · exact absurd ⟨z, s.rp.apart i 0 es row' _ e2 (h0 z) e1 (s.par z)⟩ hio
        · exact z
  exact ⟨fun F' σ H' Γ h s => ret h s Rep.non, fun F' σ H' Γ h s => h.elim, fun F' σ H' Γ h s => h.elim, fun F' σ H' Γ v r h s e => ret h s e, fun F' σ H' Γ xd h s => x F' H' xd h (fx s)⟩
end
section
variable {P : Program} {wd : World} {K : PySem.W.Frag} {mg : Str → Option Value} {base : Heap} {x qual : Str} {st : Stmt} {f : Addr} {fd : FuncData} {N ps : List Str} {k : Nat} {ts : List Addr} {ls : List (Addr × Pos × Str)} {io : Bool} {wf : WF} {w : WS}
theorem spD_len {vs : List V} {H : Hp} {Q : VK} {E : XK} (hl : ∀ ds row Ψ Ξ, wf ds row Ψ Ξ → (if io then 1 else 0) + ds.length = ps.length) (h : spD ⟨K, ts, ls⟩ io wf vs H Q E) : vs.length = ps.length := by
  obtain ⟨F, ra, rv, row, vs', ds, Ψ, Ξ, o, rfl, hr, r, hw, _⟩ := h
  rw [← hl ds row Ψ Ξ hw, ← r.length]
  cases io <;> simp <;> omega
theorem fn_d (F : Fun K x qual st f fd) (S : FnScope N ps (defScope st)) (hn : ps.length ≤ N.length) (hl : ∀ ds row Ψ Ξ, wf ds row Ψ Ξ → (if io then 1 else 0) + ds.length = ps.length)
    (hw : ∀ ds row Ψ Ξ, wf ds row Ψ Ξ → w (endsW io Ψ fun _ => False) (startW io N.length ds row))
    (hb : ∀ (cdv : Value) (A : Around) (outer : List Env) (s : Shared) (H : Hp) (E : XK), Room k (A.deeper (envOfC qual (defScope st) s.heap.objs.size f cdv)) → ∃ t, QSs (cxOf (CXE P wd) P wd K mg base N qual (defScope st) f cdv A outer s H E).nox ⟨K, ts, ls⟩ io E0 (defBody st) t w) :
    FnOk P wd K mg base (CXE P wd) (k + 1) f fd ps (spD ⟨K, ts, ls⟩ io wf) := by
  refine Fun.okT F S (fun vs H Q E h => spD_len hl h) fun cdv A outer s H vs Q E hr h => ?_
  obtain ⟨t, q⟩ := hb cdv A outer s H E hr
  obtain ⟨F0, ra, rv, row, vs', ds, Ψ, Ξ, o, rfl, hrow, r, hwf, kk, kx⟩ := h
  refine ⟨t, q.pe, ?_⟩
  exact q.ed H F0 ra F0 _ H _ _ _ (start_ok o (by rw [hl ds row Ψ Ξ hwf]; exact hn) r hrow) (hw ds row Ψ Ξ hwf) (ends_ok (E' := E0) kk fun _ _ _ z => z.elim)
end
end Dt
set_option Elab.async false
set_option linter.all false
set_option maxRecDepth 100000
set_option autoImplicit false
namespace Dt
open PySem PySem.Spec L2 Kx PyProof.Rows
abbrev dAdd := dI0 fun i j => i + j
abbrev dSub := dI0 fun i j => i - j
abbrev dMul := dI CMulB fun i j => i * j
abbrev dDiv := dI CDivP fun i j => i / j
abbrev dDivB := dI CDivB fun i j => i.fdiv j
abbrev dMod := dI (fun _ j => 0 < j) fun i j => i % j
abbrev dPow := dI CPow fun i j => i ^ j.toNat
abbrev bLt := bI fun i j => decide (i < j)
abbrev bLe := bI fun i j => decide (i ≤ j)
abbrev bGt := bI fun i j => decide (j < i)
abbrev bGe := bI fun i j => decide (j ≤ i)
abbrev dAbs := d1I fun i => if i < 0 then -i else i
abbrev dMax2 := d2I fun i j => if j > i then j else i
abbrev dMin2 := d2I fun i j => if j < i then j else i
abbrev dNeg : D → (R → Prop) → Prop := fun d Ψ => ∃ i, d = .int i ∧ Ψ (.val (.int (-i)))
section
variable {T : Tb}
theorem od_add : OD T (rI0 fun i j => .int (i + j)) dAdd := od_I0
theorem od_sub : OD T (rI0 fun i j => .int (i - j)) dSub := od_I0
theorem od_mul : OD T (rI CMulB fun i j => .int (i * j)) dMul := od_I
theorem od_div : OD T (rI CDivP fun i j => .int (i / j)) dDiv := od_I
theorem od_divB : OD T (rI CDivB fun i j => .int (i.fdiv j)) dDivB := od_I
theorem od_mod : OD T (rI (fun _ j => 0 < j) fun i j => .int (i % j)) dMod := od_I
theorem od_pow : OD T (rI CPow fun i j => .int (i ^ j.toNat)) dPow := od_I
theorem bd_lt : BD T (rI0 fun i j => .bl (decide (i < j))) bLt := bd_I
theorem bd_le : BD T (rI0 fun i j => .bl (decide (i ≤ j))) bLe := bd_I
theorem bd_gt : BD T (rI0 fun i j => .bl (decide (j < i))) bGt := bd_I
theorem bd_ge : BD T (rI0 fun i j => .bl (decide (j ≤ i))) bGe := bd_I
theorem cd_abs : CD T (fun xs H Q => ∃ i, xs = [.int i] ∧ Q (.int (if i < 0 then -i else i)) H) dAbs := cd_1I
theorem cd_max2 : CD T (fun xs H Q => ∃ i j, xs = [.int i, .int j] ∧ Q (.int (if j > i then j else i)) H) dMax2 := cd_2I
theorem cd_min2 : CD T (fun xs H Q => ∃ i j, xs = [.int i, .int j] ∧ Q (.int (if j < i then j else i)) H) dMin2 := cd_2I
def D.isN : D → Bool
  | .non => true
  | _ => false
def bIsN (f : Bool → Bool) : D → D → (Bool → Prop) → Prop := fun d e Ψ => e = .non ∧ Ψ (f d.isN)
theorem PRep.isN {K : PySem.W.Frag} {F H : Hp} {v : V} {d : D} (h : PRep K F H v d) : decide (v = .non) = d.isN := by
  rcases h with h | ⟨a, vs, ds, rfl, rfl, _, _⟩
  · cases h <;> first | rfl | exact decide_eq_false (by intro z; cases z)
  · exact decide_eq_false (by intro z; cases z)
theorem bd_isN : BD T (fun x y H Q => y = .non ∧ Q (.bl (decide (x = .non))) H) (bIsN id) := fun F H x y d e Q Ψ o hx hy hg k => by
  obtain ⟨rfl, h⟩ := hg
  refine ⟨hy.non, ?_⟩
  rw [hx.isN]
  exact k _ h
theorem law_sp {K : PySem.W.Frag} {ts : List Addr} {ls : List (Addr × Pos × Str)} {wf : WF} {H : Hp} {a : Addr} {ns : List Int} (hw : ns.length ≤ 63 → wf [.scr (ns.map .int)] [] (fun r _ => r = .val (.bl true)) fun _ => False) (hl : ns.length ≤ 63) (hT : ∀ P ∈ ts, Tab H P) (hL : ∀ p ∈ ls, TabL H p.1 p.2.1 p.2.2) (hS : SqL K H a (ns.map V.int)) (hN : ∀ b ps, H b = some (.tbl ps) → b ≠ a) :
    spD ⟨K, ts, ls⟩ false wf [.ref a] H (fun v _ => v = .bl true) fun _ _ _ => False := by
  refine ⟨fun b => match H b with | some (.tbl _) => none | o => o, 0, [], [], [.ref a], [.scr (ns.map .int)], _, _, ⟨fun b o h => ?_, fun b o h => ?_, hT, hL⟩, rfl, (fun z => by cases z), .cons (.scr ?_ RepA.ofInts) .nil, hw hl, fun F' H' v r row' hr _ _ e => ?_, fun _ _ _ z => z.elim⟩
  · skip
    split at h
    · cases h
    · exact h
  · skip
    split at h
    · cases h
    · rename_i hne
      intro ps z
      subst z
      exact hne ps h
  · have key : ∀ o, H a = some o → (∀ ps, o ≠ .tbl ps) → (match H a with | some (.tbl _) => (none : Option HO) | o => o) = some o := fun o h n => by
      rw [h]
      cases o <;> first | rfl | exact absurd rfl (n _)
    rcases hS with (h | ⟨o, h⟩) | h
    · exact .inl (.inl (key _ h (fun _ z => by cases z)))
    · exact .inl (.inr ⟨o, key _ h (fun _ z => by cases z)⟩)
    · exact .inr h
  · subst hr
    cases e
    rfl
end
end Dt
set_option Elab.async false
set_option linter.all false
set_option maxRecDepth 100000
set_option autoImplicit false
namespace Dt
open PySem L2 Kx
theorem ix0 {x : D} {xs : List D} : atI (x :: xs) 0 = some x := by
  unfold atI ixN
  simp
theorem ix1 {x y : D} {xs : List D} : atI (x :: y :: xs) 1 = some y := by
  unfold atI ixN
  simp only [List.length_cons]
  rw [if_pos (by decide), if_pos (by omega)]
  rfl
theorem at_in {ds : List D} {v : Int} (h0 : 0 ≤ v) (h1 : v < ds.length) : ∃ z, z ∈ ds ∧ atI ds v = some z := by
  have hk : v.toNat < ds.length := by omega
  refine ⟨ds[v.toNat], List.getElem_mem hk, ?_⟩
  exact (congrArg (atI ds) (show v = ((v.toNat : Nat) : Int) by omega)).trans (atI_nat (List.getElem?_eq_getElem hk))
def RowD (N : Int) (row : List D) : Prop := ∃ a n : Int, row = [.int a, .int n] ∧ 0 ≤ n ∧ n ≤ N
theorem RowD.mono {M N : Int} {row : List D} (h : RowD M row) (l : M ≤ N) : RowD N row := let ⟨a, n, e, h0, h1⟩ := h; ⟨a, n, e, h0, by omega⟩
def wf__law_cell_at : WF := fun ds row Ψ Ξ => ∃ (ns : List Int) (k : Int), ds = [.scr (ns.map .int), .int k] ∧ 0 ≤ k ∧ ∀ v : Int, Ψ (.val (.int v)) []
def wf__law_take : WF := fun ds row Ψ Ξ => ∃ (b N : Int), ds = [.int b] ∧ RowD N row ∧ N < 2 ^ 60 ∧ 0 < b ∧ b < 2 ^ 60 ∧ ∀ v row', 0 ≤ v → v < b → RowD (N + 1) row' → Ψ (.val (.int v)) row'
end Dt
namespace Dt
open PySem L2 Kx
section
variable {Γ : Gm} {d e : D} {ds : List D} {i j : Int} {n : Nat} {Ψ : R → Prop} {Ψb : Bool → Prop} {f : Int → Int → Int} {fb : Int → Int → Bool} {C : Int → Int → Prop} {k : Gm → Prop} {xs ys : List D} {x y : Str}
theorem hold_val : R.hold (.val d) = .val d := rfl
theorem hold_new : R.hold (.new ds) = .val (.lst ds) := rfl
theorem hold_slot : R.hold (.slot n) = .slot n := rfl
theorem I0_int : dI0 f (.int i) (.int j) Ψ = Ψ (.val (.int (f i j))) := propext ⟨fun ⟨_, _, e1, e2, h⟩ => by cases e1; cases e2; exact h, fun h => ⟨_, _, rfl, rfl, h⟩⟩
theorem I_int : dI C f (.int i) (.int j) Ψ = (C i j ∧ Ψ (.val (.int (f i j)))) := propext ⟨fun ⟨_, _, e1, e2, h⟩ => by cases e1; cases e2; exact h, fun h => ⟨_, _, rfl, rfl, h⟩⟩
theorem B_int : bI fb (.int i) (.int j) Ψb = Ψb (fb i j) := propext ⟨fun ⟨_, _, e1, e2, h⟩ => by cases e1; cases e2; exact h, fun h => ⟨_, _, rfl, rfl, h⟩⟩
theorem bod_eq {g : D → D → (Bool → Prop) → Prop} : bod g d e Ψ = g d e fun b => Ψ (.val (.bl b)) := rfl
theorem sc_int {f : Bool → Bool} : bSc f (.int i) (.int j) Ψb = Ψb (f (decide (i = j))) := propext ⟨fun ⟨_, e1, h⟩ => by cases e1; exact h, fun h => ⟨_, rfl, h⟩⟩
theorem sc_str {f : Bool → Bool} : bSc f (.str x) (.str y) Ψb = Ψb (f (decide (x = y))) := propext ⟨fun ⟨_, e1, h⟩ => by cases e1; exact h, fun h => ⟨_, rfl, h⟩⟩
theorem sc_bl {f : Bool → Bool} {a b : Bool} : bSc f (.bl a) (.bl b) Ψb = Ψb (f (decide (a = b))) := propext ⟨fun ⟨_, e1, h⟩ => by cases e1; exact h, fun h => ⟨_, rfl, h⟩⟩
theorem ix_lst : dIx (.lst ds) (.int i) Ψ = ∃ z, atI ds i = some z ∧ Ψ (.val z) := propext ⟨fun ⟨_, _, z, e1, e2, h⟩ => by rcases e1 with e1 | e1 <;> cases e1; cases e2; exact ⟨z, h⟩, fun ⟨z, h⟩ => ⟨_, _, z, .inl rfl, rfl, h⟩⟩
theorem ix_scr : dIx (.scr ds) (.int i) Ψ = ∃ z, atI ds i = some z ∧ Ψ (.val z) := propext ⟨fun ⟨_, _, z, e1, e2, h⟩ => by rcases e1 with e1 | e1 <;> cases e1; cases e2; exact ⟨z, h⟩, fun ⟨z, h⟩ => ⟨_, _, z, .inr rfl, rfl, h⟩⟩
theorem ix_tup : dIx (.tup ds) (.int i) Ψ = ∃ z, atI ds i = some z ∧ Ψ (.val z) := propext ⟨fun ⟨_, _, z, e1, e2, h⟩ => by cases e1; cases e2; exact ⟨z, h⟩, fun ⟨z, h⟩ => ⟨_, _, z, rfl, rfl, h⟩⟩
theorem ix_str : dIx (.str x) (.int i) Ψ = (x.length ≤ sizeLine ∧ ∃ c, atI x.cps.toList i = some c ∧ Ψ (.val (.str ⟨#[c]⟩))) := propext ⟨fun ⟨_, _, c, e1, e2, h1, h⟩ => by cases e1; cases e2; exact ⟨h1, c, h⟩, fun ⟨h1, c, h⟩ => ⟨_, _, c, rfl, rfl, h1, h⟩⟩
theorem len_lst : dLen [.lst ds] Ψ = Ψ (.val (.int (ds.length : Nat))) := propext ⟨fun ⟨_, e, h⟩ => by rcases e with e | e | e <;> cases e; exact h, fun h => ⟨_, .inl rfl, h⟩⟩
theorem len_tup : dLen [.tup ds] Ψ = Ψ (.val (.int (ds.length : Nat))) := propext ⟨fun ⟨_, e, h⟩ => by rcases e with e | e | e <;> cases e; exact h, fun h => ⟨_, .inr (.inl rfl), h⟩⟩
theorem len_scr : dLen [.scr ds] Ψ = Ψ (.val (.int (ds.length : Nat))) := propext ⟨fun ⟨_, e, h⟩ => by rcases e with e | e | e <;> cases e; exact h, fun h => ⟨_, .inr (.inr rfl), h⟩⟩
theorem len_str : dLenS [.str x] Ψ = (x.length ≤ sizeLine ∧ Ψ (.val (.int (x.length : Nat)))) := propext ⟨fun ⟨_, e, h⟩ => by cases e; exact h, fun h => ⟨_, rfl, h⟩⟩
theorem one_int {f : Int → Int} : d1I f [.int i] Ψ = Ψ (.val (.int (f i))) := propext ⟨fun ⟨_, e, h⟩ => by cases e; exact h, fun h => ⟨_, rfl, h⟩⟩
theorem two_int : d2I f [.int i, .int j] Ψ = Ψ (.val (.int (f i j))) := propext ⟨fun ⟨_, _, e, h⟩ => by cases e; exact h, fun h => ⟨_, _, rfl, h⟩⟩
theorem isi_eq {T : String} : dIsi [d, .ty T] Ψ = ∃ b, d.isi T = some b ∧ Ψ (.val (.bl b)) := propext ⟨fun ⟨_, _, b, e, h⟩ => by cases e; exact ⟨b, h⟩, fun ⟨b, h⟩ => ⟨_, _, b, rfl, h⟩⟩
theorem in_tup {neg : Bool} : bIn neg d (.tup ds) Ψb = (d.flat = true ∧ ds.all D.flat = true ∧ Ψb (if neg then !inV d.v (ds.map D.v) else inV d.v (ds.map D.v))) := propext ⟨fun ⟨_, e, h⟩ => by rcases e with e | e <;> cases e; exact h, fun h => ⟨_, .inr rfl, h⟩⟩
theorem in_lst {neg : Bool} : bIn neg d (.lst ds) Ψb = (d.flat = true ∧ ds.all D.flat = true ∧ Ψb (if neg then !inV d.v (ds.map D.v) else inV d.v (ds.map D.v))) := propext ⟨fun ⟨_, e, h⟩ => by rcases e with e | e <;> cases e; exact h, fun h => ⟨_, .inl rfl, h⟩⟩
theorem addS_str : dAddS (.str x) (.str y) Ψ = (x.length + y.length ≤ sizeLine ∧ Ψ (.val (.str (x ++ y)))) := propext ⟨fun ⟨_, _, e1, e2, h⟩ => by cases e1; cases e2; exact h, fun h => ⟨_, _, rfl, rfl, h⟩⟩
theorem cat_lst : dCat (.lst xs) (.lst ys) Ψ = (xs.length + ys.length ≤ sizeLine ∧ Ψ (.new (xs ++ ys))) := propext ⟨fun ⟨_, _, e1, e2, h⟩ => by cases e1; cases e2; exact h, fun h => ⟨_, _, rfl, rfl, h⟩⟩
theorem neg_int : (∃ i', D.int i = D.int i' ∧ Ψ (.val (.int (-i')))) = Ψ (.val (.int (-i))) := propext ⟨fun ⟨_, e, h⟩ => by cases e; exact h, fun h => ⟨_, rfl, h⟩⟩
theorem ix2 {x y z : D} : atI (x :: y :: z :: xs) 2 = some z := by
  unfold atI ixN
  simp only [List.length_cons]
  rw [if_pos (by decide), if_pos (by omega)]
  rfl
theorem list_lst : dList [.lst ds] Ψ = Ψ (.new ds) := propext ⟨fun ⟨_, _, e, e1, h⟩ => by cases e; rcases e1 with e1 | e1 | e1 <;> cases e1; exact h, fun h => ⟨_, _, rfl, .inl rfl, h⟩⟩
theorem list_tup : dList [.tup ds] Ψ = Ψ (.new ds) := propext ⟨fun ⟨_, _, e, e1, h⟩ => by cases e; rcases e1 with e1 | e1 | e1 <;> cases e1; exact h, fun h => ⟨_, _, rfl, .inr (.inl rfl), h⟩⟩
theorem sl_lst {lo hi : Option Int} : dSlL (.lst ds) lo hi Ψ = Ψ (.new (cutD ds lo hi)) := propext ⟨fun ⟨_, e, h⟩ => by cases e; exact h, fun h => ⟨_, rfl, h⟩⟩
theorem sl_str' {lo hi : Option Int} : dSlS (.str x) lo hi Ψ = (x.length ≤ sizeLine ∧ Ψ (.val (.str (cutS x lo hi)))) := propext ⟨fun ⟨_, e, h⟩ => by cases e; exact h, fun h => ⟨_, rfl, h⟩⟩
theorem isN_non {f : Bool → Bool} : bIsN f d .non Ψb = Ψb (f d.isN) := propext ⟨fun ⟨_, h⟩ => h, fun h => ⟨rfl, h⟩⟩
end
end Dt
set_option Elab.async false
set_option linter.all false
set_option maxRecDepth 100000
set_option autoImplicit false
namespace Dt
open PySem L2 Kx
structure Tg {α : Sort _} (a : α) : Type where
def getR (Γ : Gm) (r : R) (k : D → Prop) : Prop := ∃ d, r.at Γ = some d ∧ k d
def blR (Γ : Gm) (r : R) (k : Bool → Prop) : Prop := ∃ d, r.at Γ = some (.bl d) ∧ k d
def intR (Γ : Gm) (r : R) (k : Int → Prop) : Prop := ∃ d, r.at Γ = some (.int d) ∧ k d
def strR (Γ : Gm) (r : R) (k : Str → Prop) : Prop := ∃ d, r.at Γ = some (.str d) ∧ k d
def frzR (Γ : Gm) (r : R) (k : D → Gm → Prop) : Prop := ∃ d Γ', frz Γ r = some (d, Γ') ∧ k d Γ'
def atsR (Γ : Gm) (rs : List R) (k : List D → Prop) : Prop := ∃ ds, ats Γ rs = some ds ∧ k ds
def frzLR (Γ : Gm) (rs : List R) (k : List D → Gm → Prop) : Prop := ∃ ds Γ', frzL Γ rs = some (ds, Γ') ∧ k ds Γ'
def ownR (Γ : Gm) (i : Nat) (k : List D → Prop) : Prop := ∃ ds, Γ[i]? = some (some (En.own ds)) ∧ k ds
def shrR (Γ : Gm) (i : Nat) (k : D → Prop) : Prop := ∃ d, Γ[i]? = some (some (En.shr d)) ∧ k d
def anyR (Γ : Gm) (i : Nat) (P : Prop) : Prop := (∃ e, Γ[i]? = some (some (e : En))) ∧ P
def ixR (n : Nat) (i : Int) (k : Nat → Prop) : Prop := ∃ j, ixN n i = some j ∧ k j
def atR (ds : List D) (i : Int) (k : D → Prop) : Prop := ∃ z, atI ds i = some z ∧ k z
def iteR (b : Bool) (P Q : Prop) (_ : Tg P := ⟨⟩) (_ : Tg Q := ⟨⟩) : Prop := if b = true then P else Q
theorem iteR_true {P Q : Prop} : iteR true P Q = P := rfl
theorem iteR_false {P Q : Prop} : iteR false P Q = Q := rfl
theorem iteR_by {b : Bool} {P Q : Prop} (h : b = true → P) (h' : b = false → Q) : iteR b P Q := by
  cases b with
  | true => exact h rfl
  | false => exact h' rfl
def callR (wf : WF) (ds row : List D) (k : R → List D → Prop) (Ξ : XD → Prop) (_ : Tg k := ⟨⟩) : Prop := wf ds row k Ξ
def sideR (P Q : Prop) (_ : Tg Q := ⟨⟩) : Prop := P ∧ Q
theorem sideR_by {P Q : Prop} (h : P) (h' : P → Q) : sideR P Q := ⟨h, h' h⟩
theorem sideR_true {Q : Prop} : sideR True Q = Q := by unfold sideR; simp
def forB (ds : List D) (wg : WG) (u : WS) (Ψ : WEnds) (Γ : Gm) (_ : Tg (wg, u, Ψ) := ⟨⟩) : Prop := ∃ I : Nat → Gm → Prop, I 0 Γ ∧ (∀ i Γ d, I i Γ → ds[i]? = some d → wg d Γ fun Γ2 => u { Ψ with nx := I (i + 1), ct := I (i + 1), bk := Ψ.nx } Γ2) ∧ ∀ Γ, I ds.length Γ → Ψ.nx Γ
theorem forB_by {ds : List D} {wg : WG} {u : WS} {Ψ : WEnds} {Γ : Gm} (I : Nat → Gm → Prop) (h0 : I 0 Γ) (hs : ∀ i Γ d, ds[i]? = some d → I i Γ → wg d Γ fun Γ2 => u { Ψ with nx := I (i + 1), ct := I (i + 1), bk := Ψ.nx } Γ2) (hd : ∀ Γ, I ds.length Γ → Ψ.nx Γ) : forB ds wg u Ψ Γ := ⟨I, h0, fun i Γ d h1 h2 => hs i Γ d h2 h1, hd⟩
def lcB (ds : List D) (wg : WG) (wt : WT) (we : WE) (vs : List Nat) (Φ : R → Gm → Prop) (Γ1 : Gm) (_ : Tg (wg, wt, we, Φ) := ⟨⟩) : Prop := ds.length ≤ sizeLine ∧ ∃ I : Nat → List D → Gm → Prop, I 0 [] (wipeG Γ1 vs) ∧
  (∀ i acc Γ d, I i acc Γ → ds[i]? = some d → wg d Γ fun Γ2 => wt Γ2 (fun b Γ3 => iteR b (we Γ3 (fun r Γ4 => frzR Γ4 r fun y Γ5 => I (i + 1) (acc ++ [y]) (wipeG Γ5 vs)) (fun _ => False)) (I (i + 1) acc (wipeG Γ3 vs))) fun _ => False) ∧
  ∀ acc Γ, I ds.length acc Γ → Φ (.new acc) (rstG Γ1 Γ vs)
theorem lcB_by {ds : List D} {wg : WG} {wt : WT} {we : WE} {vs : List Nat} {Φ : R → Gm → Prop} {Γ : Gm} (I : Nat → List D → Gm → Prop) (hl : ds.length ≤ sizeLine) (h0 : I 0 [] (wipeG Γ vs))
    (hs : ∀ i acc Γ d, ds[i]? = some d → I i acc Γ → wg d Γ fun Γ2 => wt Γ2 (fun b Γ3 => iteR b (we Γ3 (fun r Γ4 => frzR Γ4 r fun y Γ5 => I (i + 1) (acc ++ [y]) (wipeG Γ5 vs)) (fun _ => False)) (I (i + 1) acc (wipeG Γ3 vs))) fun _ => False)
    (hd : ∀ acc Γ', I ds.length acc Γ' → Φ (.new acc) (rstG Γ Γ' vs)) : lcB ds wg wt we vs Φ Γ := ⟨hl, I, h0, fun i acc Γ d h1 h2 => hs i acc Γ d h2 h1, hd⟩
def goR (k : Gm → Prop) (Γ : Gm) (_ : Tg k := ⟨⟩) : Prop := k Γ
theorem goR_ap {k : Gm → Prop} {Γ : Gm} : goR k Γ = k Γ := rfl
def varM (o : Option (Option En)) (n : Nat) (k : R → Prop) (_ : Tg k := ⟨⟩) : Prop := match o with
  | some (some (.shr d)) => k (.val d)
  | some (some (.own _)) => k (.slot n)
  | _ => False
theorem varM_shr {d : D} {n : Nat} {k : R → Prop} : varM (some (some (.shr d))) n k = k (.val d) := rfl
theorem varM_own {ds : List D} {n : Nat} {k : R → Prop} : varM (some (some (.own ds))) n k = k (.slot n) := rfl
def getM (o : Option (Option En)) (k : D → Prop) (_ : Tg k := ⟨⟩) : Prop := match o with
  | some (some e) => k e.dat
  | _ => False
theorem getM_shr {d : D} {k : D → Prop} : getM (some (some (.shr d))) k = k d := rfl
theorem getM_own {ds : List D} {k : D → Prop} : getM (some (some (.own ds))) k = k (.lst ds) := rfl
def frzM (o : Option (Option En)) (n : Nat) (Γ : Gm) (k : D → Gm → Prop) (_ : Tg k := ⟨⟩) : Prop := match o with
  | some (some (.shr d)) => k d Γ
  | some (some (.own ds)) => goR (k (.lst ds)) (Γ.set n (some (.shr (.lst ds))))
  | _ => False
theorem frzM_shr {d : D} {n : Nat} {Γ : Gm} {k : D → Gm → Prop} : frzM (some (some (.shr d))) n Γ k = k d Γ := rfl
theorem frzM_own {ds : List D} {n : Nat} {Γ : Gm} {k : D → Gm → Prop} : frzM (some (some (.own ds))) n Γ k = goR (k (.lst ds)) (Γ.set n (some (.shr (.lst ds)))) := rfl
def ownM (o : Option (Option En)) (k : List D → Prop) (_ : Tg k := ⟨⟩) : Prop := match o with
  | some (some (.own ds)) => k ds
  | _ => False
theorem ownM_own {ds : List D} {k : List D → Prop} : ownM (some (some (.own ds))) k = k ds := rfl
def shrM (o : Option (Option En)) (k : D → Prop) (_ : Tg k := ⟨⟩) : Prop := match o with
  | some (some (.shr d)) => k d
  | _ => False
theorem shrM_shr {d : D} {k : D → Prop} : shrM (some (some (.shr d))) k = k d := rfl
def anyM (o : Option (Option En)) (P : Prop) (_ : Tg P := ⟨⟩) : Prop := match o with
  | some (some _) => P
  | _ => False
theorem anyM_some {e : En} {P : Prop} : anyM (some (some e)) P = P := rfl
def ixM (o : Option Nat) (k : Nat → Prop) (_ : Tg k := ⟨⟩) : Prop := ∃ j, o = some j ∧ k j
theorem ixM_some {j : Nat} {k : Nat → Prop} : ixM (some j) k = k j := propext ⟨fun ⟨_, e, h⟩ => by cases e; exact h, fun h => ⟨_, rfl, h⟩⟩
def atM (o : Option D) (k : D → Prop) (_ : Tg k := ⟨⟩) : Prop := ∃ j, o = some j ∧ k j
theorem atM_some {j : D} {k : D → Prop} : atM (some j) k = k j := propext ⟨fun ⟨_, e, h⟩ => by cases e; exact h, fun h => ⟨_, rfl, h⟩⟩
def boM (o : Option Bool) (k : Bool → Prop) (_ : Tg k := ⟨⟩) : Prop := ∃ j, o = some j ∧ k j
theorem boM_some {j : Bool} {k : Bool → Prop} : boM (some j) k = k j := propext ⟨fun ⟨_, e, h⟩ => by cases e; exact h, fun h => ⟨_, rfl, h⟩⟩
def chM (o : Option Nat) (k : Nat → Prop) (_ : Tg k := ⟨⟩) : Prop := ∃ j, o = some j ∧ k j
section
variable {Γ : Gm} {Φ : R → Gm → Prop} {Φb : Bool → Gm → Prop} {Φs : List R → Gm → Prop} {Φd : List D → Gm → Prop} {Φo : Option Int → Gm → Prop} {Ξ : XD → Prop} {Ψ : WEnds} {wa wb wc we wo w : WE} {w1 w2 wt : WT} {wA : WA} {u1 u2 : WS} {wg : WG} {wgs : WGs} {g : D → D → (R → Prop) → Prop} {gb gb' : D → D → (Bool → Prop) → Prop} {g1 : D → (R → Prop) → Prop} {gl : List D → (R → Prop) → Prop} {i j n : Nat} {d : D} {k : Gm → Prop} {wl wh : WO} {wI : WI} {io : Bool} {wf : WF} {gs : D → Option Int → Option Int → (R → Prop) → Prop} {gm : Str → D → (R → Prop) → Prop} {ds : List D} {r : R} {rs : List R} {vs : List Nat}
section
variable {kd : D → Prop} {kb : Bool → Prop} {ki : Int → Prop} {ks : Str → Prop} {kg : D → Gm → Prop} {kl : List D → Prop} {klg : List D → Gm → Prop} {kn : Nat → Prop} {z : Int} {b : Bool} {x : Str} {P : Prop}
theorem getR_val : getR Γ (.val d) kd = kd d := propext ⟨fun ⟨_, e, h⟩ => by cases e; exact h, fun h => ⟨_, rfl, h⟩⟩
theorem getR_new : getR Γ (.new ds) kd = kd (.lst ds) := propext ⟨fun ⟨_, e, h⟩ => by cases e; exact h, fun h => ⟨_, rfl, h⟩⟩
theorem getR_slot : getR Γ (.slot n) kd = getM Γ[n]? kd := by
  unfold getR getM
  rcases q : Γ[n]? with _ | _ | e
  · exact propext ⟨fun ⟨d, e, h⟩ => (by simp only [R.at, q] at e; cases e), fun h => h.elim⟩
  · exact propext ⟨fun ⟨d, e, h⟩ => (by simp only [R.at, q] at e; cases e), fun h => h.elim⟩
  · exact propext ⟨fun ⟨d, e', h⟩ => (by simp only [R.at, q] at e'; cases e'; exact h), fun h => ⟨_, by simp only [R.at, q], h⟩⟩
theorem blR_val : blR Γ (.val (.bl b)) kb = kb b := propext ⟨fun ⟨_, e, h⟩ => by cases e; exact h, fun h => ⟨_, rfl, h⟩⟩
theorem intR_val : intR Γ (.val (.int z)) ki = ki z := propext ⟨fun ⟨_, e, h⟩ => by cases e; exact h, fun h => ⟨_, rfl, h⟩⟩
theorem strR_val : strR Γ (.val (.str x)) ks = ks x := propext ⟨fun ⟨_, e, h⟩ => by cases e; exact h, fun h => ⟨_, rfl, h⟩⟩
theorem frzR_val : frzR Γ (.val d) kg = kg d Γ := propext ⟨fun ⟨_, _, e, h⟩ => by cases e; exact h, fun h => ⟨_, _, rfl, h⟩⟩
theorem frzR_new : frzR Γ (.new ds) kg = kg (.lst ds) Γ := propext ⟨fun ⟨_, _, e, h⟩ => by cases e; exact h, fun h => ⟨_, _, rfl, h⟩⟩
theorem frzR_slot : frzR Γ (.slot n) kg = frzM Γ[n]? n Γ kg := by
  unfold frzR frzM goR
  rcases q : Γ[n]? with _ | _ | (d | ds)
  · exact propext ⟨fun ⟨d, _, e, h⟩ => (by simp only [frz, q] at e; cases e), fun h => h.elim⟩
  · exact propext ⟨fun ⟨d, _, e, h⟩ => (by simp only [frz, q] at e; cases e), fun h => h.elim⟩
  · exact propext ⟨fun ⟨d, _, e', h⟩ => (by simp only [frz, q] at e'; cases e'; exact h), fun h => ⟨_, _, by simp only [frz, q], h⟩⟩
  · exact propext ⟨fun ⟨d, _, e', h⟩ => (by simp only [frz, q] at e'; cases e'; exact h), fun h => ⟨_, _, by simp only [frz, q], h⟩⟩
theorem atsR_nil : atsR Γ [] kl = kl [] := propext ⟨fun ⟨_, e, h⟩ => by cases e; exact h, fun h => ⟨_, rfl, h⟩⟩
theorem atsR_cons : atsR Γ (r :: rs) kl = getR Γ r fun d => atsR Γ rs fun ds => kl (d :: ds) := by
  refine propext ⟨fun ⟨ds, e, h⟩ => ?_, fun ⟨d, e1, ds, e2, h⟩ => ⟨d :: ds, by simp only [ats, e1, e2], h⟩⟩
  unfold ats at e
  split at e
  · rename_i d ds' e1 e2
    cases e
    exact ⟨d, e1, ds', e2, h⟩
  · cases e
theorem frzLR_nil : frzLR Γ [] klg = klg [] Γ := propext ⟨fun ⟨_, _, e, h⟩ => by cases e; exact h, fun h => ⟨_, _, rfl, h⟩⟩
theorem frzLR_cons : frzLR Γ (r :: rs) klg = frzR Γ r fun d Γ1 => frzLR Γ1 rs fun ds Γ2 => klg (d :: ds) Γ2 := by
  refine propext ⟨fun ⟨ds, Γ', e, h⟩ => ?_, fun ⟨d, Γ1, e1, ds, Γ2, e2, h⟩ => ⟨d :: ds, Γ2, by simp only [frzL, e1, e2], h⟩⟩
  unfold frzL at e
  split at e
  · rename_i d Γ1 e1
    split at e
    · rename_i ds' Γ2 e2
      cases e
      exact ⟨d, Γ1, e1, _, _, e2, h⟩
    · cases e
  · cases e
theorem ownR_ap : ownR Γ n kl = ownM Γ[n]? kl := by
  unfold ownR ownM
  refine propext ⟨fun ⟨d, e, h⟩ => by rw [e]; exact h, fun h => ?_⟩
  split at h
  · exact ⟨_, by assumption, h⟩
  · exact h.elim
theorem shrR_ap : shrR Γ n kd = shrM Γ[n]? kd := by
  unfold shrR shrM
  refine propext ⟨fun ⟨d, e, h⟩ => by rw [e]; exact h, fun h => ?_⟩
  split at h
  · exact ⟨_, by assumption, h⟩
  · exact h.elim
theorem anyR_ap : anyR Γ n P = anyM Γ[n]? P := by
  unfold anyR anyM
  refine propext ⟨fun ⟨⟨d, e⟩, h⟩ => by rw [e]; exact h, fun h => ?_⟩
  split at h
  · exact ⟨⟨_, by assumption⟩, h⟩
  · exact h.elim
theorem ixR_ap {m : Nat} : ixR m z kn = ixM (ixN m z) kn := rfl
theorem atR_ap : atR ds z kd = atM (atI ds z) kd := rfl
theorem var_ap : wVar n Γ Φ Ξ = varM Γ[n]? n fun r => Φ r Γ := by
  unfold wVar varM
  refine propext ⟨fun ⟨e, he, h⟩ => ?_, fun h => ?_⟩
  · rw [he]
    cases e <;> exact h
  · split at h
    · exact ⟨.shr _, by assumption, h⟩
    · exact ⟨.own _, by assumption, h⟩
    · exact h.elim
end
theorem C_ap : wC d Γ Φ Ξ = Φ (.val d) Γ := rfl
theorem op_ap : wOp g wa wb Γ Φ Ξ = wa Γ (fun r1 Γ1 => wb Γ1 (fun r2 Γ2 => getR Γ2 r1 fun d1 => getR Γ2 r2 fun d2 => g d1 d2 fun r => Φ r Γ2) Ξ) Ξ := by
  unfold wOp getR
  simp only [exists_and_left]
theorem un_ap : wUn g1 wa Γ Φ Ξ = wa Γ (fun r1 Γ1 => getR Γ1 r1 fun d1 => g1 d1 fun r => Φ r Γ1) Ξ := rfl
theorem B_ap : wB w Γ Φb Ξ = w Γ (fun r Γ1 => blR Γ1 r fun b => Φb b Γ1) Ξ := rfl
theorem cmp_ap : wCmp gb wa wb Γ Φb Ξ = wa Γ (fun r1 Γ1 => wb Γ1 (fun r2 Γ2 => getR Γ2 r1 fun d1 => getR Γ2 r2 fun d2 => gb d1 d2 fun b => Φb b Γ2) Ξ) Ξ := by
  unfold wCmp getR
  simp only [exists_and_left]
theorem not_ap : wNot w1 Γ Φb Ξ = w1 Γ (fun b Γ1 => Φb (!b) Γ1) Ξ := rfl
theorem and_ap : wAnd w1 w2 Γ Φb Ξ = w1 Γ (fun b Γ1 => iteR b (w2 Γ1 Φb Ξ) (Φb false Γ1)) Ξ := rfl
theorem or_ap : wOr w1 w2 Γ Φb Ξ = w1 Γ (fun b Γ1 => iteR b (Φb true Γ1) (w2 Γ1 Φb Ξ)) Ξ := rfl
theorem if_ap : wIf w1 wa wb Γ Φ Ξ = w1 Γ (fun b Γ1 => iteR b (wa Γ1 Φ Ξ) (wb Γ1 Φ Ξ)) Ξ := rfl
theorem andV_ap : wAndV wa wb Γ Φ Ξ = wa Γ (fun r Γ1 => blR Γ1 r fun c => iteR c (wb Γ1 Φ Ξ) (Φ (.val (.bl false)) Γ1)) Ξ := rfl
theorem orV_ap : wOrV wa wb Γ Φ Ξ = wa Γ (fun r Γ1 => blR Γ1 r fun c => iteR c (Φ (.val (.bl true)) Γ1) (wb Γ1 Φ Ξ)) Ξ := rfl
theorem notV_ap : wNotV wa Γ Φ Ξ = wa Γ (fun r Γ1 => blR Γ1 r fun c => Φ (.val (.bl (!c))) Γ1) Ξ := rfl
theorem chain_ap : wChain gb gb' wa wb wc Γ Φ Ξ = wa Γ (fun r1 Γ1 => wb Γ1 (fun r2 Γ2 => getR Γ2 r1 fun d1 => getR Γ2 r2 fun d2 => gb d1 d2 fun b => iteR b (wc Γ2 (fun r3 Γ3 => getR Γ3 r2 fun d2 => getR Γ3 r3 fun d3 => gb' d2 d3 fun b => Φ (.val (.bl b)) Γ3) Ξ) (Φ (.val (.bl false)) Γ2)) Ξ) Ξ := by
  unfold wChain getR iteR
  simp only [exists_and_left]
theorem nil_ap : wANil Γ Φs Ξ = Φs [] Γ := rfl
theorem cons_ap : wACons w wA Γ Φs Ξ = w Γ (fun r Γ1 => wA Γ1 (fun rs Γ2 => Φs (r.hold :: rs) Γ2) Ξ) Ξ := rfl
theorem cb_ap : wCB gl wA Γ Φ Ξ = wA Γ (fun rs Γ1 => atsR Γ1 rs fun ds => gl ds fun r => Φ r Γ1) Ξ := rfl
theorem tup_ap : wTup wA Γ Φ Ξ = wA Γ (fun rs Γ1 => frzLR Γ1 rs fun ds Γ2 => sideR (ds.length ≤ sizeLine) (Φ (.val (.tup ds)) Γ2)) Ξ := rfl
theorem lst_ap : wLst wA Γ Φ Ξ = wA Γ (fun rs Γ1 => frzLR Γ1 rs fun ds Γ2 => sideR (ds.length ≤ sizeLine) (Φ (.new ds) Γ2)) Ξ := rfl
theorem call_ap : wCall io wf wA Γ Φ Ξ = wA Γ (fun rs Γ1 => callW io wf rs Γ1 Φ Ξ) Ξ := rfl
theorem callF : callW false wf rs Γ Φ Ξ = frzLR Γ rs fun ds Γ1 => callR wf ds [] (fun r _ => Φ r Γ1) Ξ := rfl
theorem callT : callW true wf (.slot i :: rs) Γ Φ Ξ = frzLR Γ rs fun ds Γ1 => ownR Γ1 i fun row => callR wf ds row (fun r row' => goR (Φ r) (Γ1.set i (some (.own row')))) fun _ => False :=
  propext ⟨fun ⟨_, _, ds, Γ1, row, e, h, h1, h2⟩ => by cases e; exact ⟨ds, Γ1, h, row, h1, h2⟩, fun ⟨ds, Γ1, h, row, h1, h2⟩ => ⟨_, _, ds, Γ1, row, rfl, h, h1, h2⟩⟩
theorem sl_ap : wSl gs w wl wh Γ Φ Ξ = w Γ (fun r1 Γ1 => wl Γ1 (fun lo Γ2 => wh Γ2 (fun hi Γ3 => getR Γ3 r1 fun d => gs d lo hi fun r => Φ r Γ3) Ξ) Ξ) Ξ := rfl
theorem noP_ap : wNoP Γ Φo Ξ = Φo none Γ := rfl
theorem prt_ap : wPrt w Γ Φo Ξ = w Γ (fun r Γ1 => intR Γ1 r fun i => Φo (some i) Γ1) Ξ := rfl
theorem m1_ap : wM1 gm wo we Γ Φ Ξ = wo Γ (fun r1 Γ1 => strR Γ1 r1 fun a => we Γ1 (fun r2 Γ2 => getR Γ2 r2 fun d2 => gm a d2 fun r => Φ r Γ2) Ξ) Ξ := rfl
theorem rev_ap : wRev i Γ Φ Ξ = ownR Γ i fun ds => goR (Φ (.val .non)) (Γ.set i (some (.own ds.reverse))) := rfl
theorem clr_ap : wClr i Γ Φ Ξ = ownR Γ i fun ds => goR (Φ (.val .non)) (Γ.set i (some (.own []))) := rfl
theorem app_ap : wApp i we Γ Φ Ξ = ownR Γ i fun _ => we Γ (fun r Γ1 => frzR Γ1 r fun d Γ2 => ownR Γ2 i fun ds => sideR (ds.length < sizeLine) (goR (Φ (.val .non)) (Γ2.set i (some (.own (ds ++ [d])))))) Ξ := by
  unfold wApp ownR frzR sideR goR
  simp only [exists_and_left]
theorem seq_ap : wSeq u1 u2 Ψ Γ = u1 { Ψ with nx := u2 Ψ } Γ := rfl
theorem next_ap : wNext Ψ Γ = Ψ.nx Γ := rfl
theorem brk_ap : wBreak Ψ Γ = Ψ.bk Γ := rfl
theorem cnt_ap : wCont Ψ Γ = Ψ.ct Γ := rfl
theorem drop_ap : wDrop w Ψ Γ = w Γ (fun _ Γ1 => Ψ.nx Γ1) Ψ.xe := rfl
theorem ret_ap : wRet w Ψ Γ = w Γ Ψ.rt Ψ.xe := rfl
theorem retN_ap : wRetN Ψ Γ = Ψ.rt (.val .non) Γ := rfl
theorem ifS_ap : wIfS w1 u1 u2 Ψ Γ = w1 Γ (fun b Γ1 => iteR b (u1 Ψ Γ1) (u2 Ψ Γ1)) Ψ.xe := rfl
theorem set_ap : wSet i w Ψ Γ = w Γ (fun r Γ1 => putW i r Γ1 Ψ.nx) Ψ.xe := rfl
theorem asg_ap : wAsg w wg Ψ Γ = w Γ (fun r Γ1 => frzR Γ1 r fun d Γ2 => wg d Γ2 Ψ.nx) Ψ.xe := rfl
theorem gN_ap : wgName i d Γ k = goR k (Γ.set i (some (.shr d))) := rfl
theorem gT_ap : wgTup n wgs (.tup ds) Γ k = sideR (ds.length = n) (wgs ds Γ k) := propext ⟨fun ⟨_, e, h⟩ => by cases e; exact h, fun h => ⟨_, rfl, h⟩⟩
theorem g0_ap : wgNil [] Γ k = k Γ := propext ⟨fun h => h.2, fun h => ⟨rfl, h⟩⟩
theorem g1_ap : wgCons wg wgs (d :: ds) Γ k = wg d Γ (fun Γ1 => wgs ds Γ1 k) := propext ⟨fun ⟨_, _, e, h⟩ => by cases e; exact h, fun h => ⟨_, _, rfl, h⟩⟩
theorem putAt_ap {wk : WE} : wPutAt i w wk Ψ Γ = w Γ (fun r Γ1 => frzR Γ1 r fun d Γ2 => anyR Γ2 i (wk Γ2 (fun rk Γ3 => intR Γ3 rk fun k => ownR Γ3 i fun ds => ixR ds.length k fun j => goR Ψ.nx (Γ3.set i (some (.own (ds.set j d))))) Ψ.xe)) Ψ.xe := by
  unfold wPutAt goR frzR anyR intR ownR ixR
  simp only [exists_and_left, exists_and_right]
theorem par_ap : wPar i j wA Ψ Γ = wA Γ (fun rs Γ1 => frzLR Γ1 rs fun ds Γ2 => match ds with | [d, e] => goR Ψ.nx ((Γ2.set i (some (.shr d))).set j (some (.shr e))) | _ => False) Ψ.xe := by
  unfold wPar frzLR
  congr 1
  funext rs Γ1
  refine propext ⟨fun ⟨d, e, Γ2, h, q⟩ => ⟨_, _, h, q⟩, fun ⟨ds, Γ2, h, q⟩ => ?_⟩
  dsimp only at q
  split at q
  · exact ⟨_, _, _, h, q⟩
  · exact q.elim
theorem aug_ap : wAug i w g Ψ Γ = shrR Γ i fun d => w Γ (fun r Γ1 => getR Γ1 r fun e => g d e fun r => putW i r Γ1 Ψ.nx) Ψ.xe := rfl
theorem augAt_ap {wk : WE} : wAugAt i wk w g Ψ Γ = anyR Γ i (wk Γ (fun rk Γ1 => intR Γ1 rk fun k => ownR Γ1 i fun ds => ixR ds.length k fun j => ∃ d, ds[j]? = some d ∧ w Γ1 (fun r Γ2 => getR Γ2 r fun e => ownR Γ2 i fun ds2 => sideR (ds2.length = ds.length) (g d e fun r => ∃ z, r = .val z ∧ goR Ψ.nx (Γ2.set i (some (.own (ds2.set j z)))))) Ψ.xe) Ψ.xe) := by
  unfold wAugAt goR anyR intR ownR ixR getR sideR
  simp only [exists_and_left, exists_and_right]
theorem il_ap : wIList w Γ Φd Ξ = w Γ (fun r Γ1 => frzR Γ1 r fun d Γ2 => match d with | .lst ds => Φd ds Γ2 | _ => False) Ξ := by
  unfold wIList frzR
  congr 1
  funext r Γ1
  refine propext ⟨fun ⟨ds, Γ2, h, q⟩ => ⟨_, _, h, q⟩, fun ⟨d, Γ2, h, q⟩ => ?_⟩
  dsimp only at q
  split at q
  · exact ⟨_, _, h, q⟩
  · exact q.elim
theorem it_ap : wITup w Γ Φd Ξ = w Γ (fun r Γ1 => frzR Γ1 r fun d Γ2 => match d with | .tup ds => Φd ds Γ2 | _ => False) Ξ := by
  unfold wITup frzR
  congr 1
  funext r Γ1
  refine propext ⟨fun ⟨ds, Γ2, h, q⟩ => ⟨_, _, h, q⟩, fun ⟨d, Γ2, h, q⟩ => ?_⟩
  dsimp only at q
  split at q
  · exact ⟨_, _, h, q⟩
  · exact q.elim
theorem ir1_ap : wIRng1 wA Γ Φd Ξ = wA Γ (fun rs Γ1 => atsR Γ1 rs fun ds => match ds with | [.int j] => sideR (-(2 ^ 62) ≤ j ∧ j < 2 ^ 62) (Φd (rng 0 j.toNat) Γ1) | _ => False) Ξ := by
  unfold wIRng1 atsR
  congr 1
  funext rs Γ1
  refine propext ⟨fun ⟨j, h, q⟩ => ⟨_, h, q⟩, fun ⟨ds, h, q⟩ => ?_⟩
  dsimp only at q
  split at q
  · exact ⟨_, h, q⟩
  · exact q.elim
theorem ir2_ap : wIRng2 wA Γ Φd Ξ = wA Γ (fun rs Γ1 => atsR Γ1 rs fun ds => match ds with | [.int i, .int j] => Φd (rng i (j - i).toNat) Γ1 | _ => False) Ξ := by
  unfold wIRng2 atsR
  congr 1
  funext rs Γ1
  refine propext ⟨fun ⟨i, j, h, q⟩ => ⟨_, h, q⟩, fun ⟨ds, h, q⟩ => ?_⟩
  dsimp only at q
  split at q
  · exact ⟨_, _, h, q⟩
  · exact q.elim
theorem is_ap : wIStr w Γ Φd Ξ = w Γ (fun r Γ1 => strR Γ1 r fun x => Φd (chs x) Γ1) Ξ := rfl
theorem ie_ap : wIEnum wA Γ Φd Ξ = wA Γ (fun rs Γ1 => frzLR Γ1 rs fun ds Γ2 => match ds with | [.lst es] => Φd (enu es) Γ2 | _ => False) Ξ := by
  unfold wIEnum frzLR
  congr 1
  funext rs Γ1
  refine propext ⟨fun ⟨ds, Γ2, h, q⟩ => ⟨_, _, h, q⟩, fun ⟨ds, Γ2, h, q⟩ => ?_⟩
  dsimp only at q
  split at q
  · exact ⟨_, _, h, q⟩
  · exact q.elim
theorem iz_ap : wIZip wA Γ Φd Ξ = wA Γ (fun rs Γ1 => frzLR Γ1 rs fun ds Γ2 => match ds with | [.lst es, .lst fs] => Φd (zp es fs) Γ2 | _ => False) Ξ := by
  unfold wIZip frzLR
  congr 1
  funext rs Γ1
  refine propext ⟨fun ⟨ds, es, Γ2, h, q⟩ => ⟨_, _, h, q⟩, fun ⟨ds, Γ2, h, q⟩ => ?_⟩
  dsimp only at q
  split at q
  · exact ⟨_, _, _, h, q⟩
  · exact q.elim
theorem for_ap : wFor wI wg u1 Ψ Γ = wI Γ (fun ds Γ1 => forB ds wg u1 Ψ Γ1) Ψ.xe := rfl
theorem lc_ap : wLc wI wg wt we vs Γ Φ Ξ = wI Γ (fun ds Γ1 => lcB ds wg wt we vs Φ Γ1) Ξ := rfl
def lcO (s : Nat) (ds : List D) (wg : WG) (wt : WT) (we : WE) (vs : List Nat) (Φ : R → Gm → Prop) (Γ1 : Gm) (_ : Tg (wg, wt, we, Φ) := ⟨⟩) : Prop := ds.length ≤ sizeLine ∧ ∃ I : Nat → List D → Gm → Prop, I 0 [] (wipeG Γ1 vs) ∧ (∀ i acc Γ, I i acc Γ → Γ[s]? = some (some (En.own ds))) ∧
  (∀ i acc Γ d, I i acc Γ → ds[i]? = some d → wg d Γ fun Γ2 => wt Γ2 (fun b Γ3 => iteR b (we Γ3 (fun r Γ4 => frzR Γ4 r fun y Γ5 => I (i + 1) (acc ++ [y]) (wipeG Γ5 vs)) (fun _ => False)) (I (i + 1) acc (wipeG Γ3 vs))) fun _ => False) ∧
  ∀ acc Γ, I ds.length acc Γ → Φ (.new acc) (rstG Γ1 Γ vs)
theorem lcO_ap {s : Nat} : wLcO s wg wt we vs Γ Φ Ξ = ownR Γ s fun ds => lcO s ds wg wt we vs Φ Γ := rfl
theorem startT {row : List D} : startW true n ds row = some (.own row) :: (ds.map fun d => some (.shr d)) ++ List.replicate (n - (ds.length + 1)) none := rfl
theorem startF {row : List D} : startW false n ds row = (ds.map fun d => some (.shr d)) ++ List.replicate (n - ds.length) none := rfl
variable {F : R → List D → Prop}
theorem end_rt : (endsW io F Ξ).rt r Γ = retW io F r Γ := rfl
theorem end_nx : (endsW io F Ξ).nx Γ = retW io F (.val .non) Γ := rfl
theorem end_xe : (endsW io F Ξ).xe = Ξ := rfl
theorem retT_val : retW true F (.val d) Γ = ownR Γ 0 fun row => F (.val d) row := propext ⟨fun ⟨r', h, row, h1, h2⟩ => by cases h; exact ⟨row, h1, h2⟩, fun ⟨row, h1, h2⟩ => ⟨_, rfl, row, h1, h2⟩⟩
theorem retT_new : retW true F (.new ds) Γ = ownR Γ 0 fun row => F (.new ds) row := propext ⟨fun ⟨r', h, row, h1, h2⟩ => by cases h; exact ⟨row, h1, h2⟩, fun ⟨row, h1, h2⟩ => ⟨_, rfl, row, h1, h2⟩⟩
theorem retF_val : retW false F (.val d) Γ = F (.val d) [] := propext ⟨fun ⟨r', h, h1⟩ => by cases h; exact h1, fun h1 => ⟨_, rfl, h1⟩⟩
theorem retF_new : retW false F (.new ds) Γ = F (.new ds) [] := propext ⟨fun ⟨r', h, h1⟩ => by cases h; exact h1, fun h1 => ⟨_, rfl, h1⟩⟩
theorem toN_own (h0 : ¬ (io = true ∧ i = 0)) (h : Γ[i]? = some (some (.own ds))) : toN io Γ (.slot i) = some (.new ds) := by simp only [toN, h0, if_false, h]
theorem toN_shr (h0 : ¬ (io = true ∧ i = 0)) (h : Γ[i]? = some (some (.shr d))) : toN io Γ (.slot i) = some (.val d) := by simp only [toN, h0, if_false, h]
def retM (o : Option (Option En)) (k : R → Prop) (_ : Tg k := ⟨⟩) : Prop := match o with
  | some (some (.shr d)) => k (.val d)
  | some (some (.own ds)) => k (.new ds)
  | _ => False
theorem retM_shr {kr : R → Prop} : retM (some (some (.shr d))) kr = kr (.val d) := rfl
theorem retM_own {kr : R → Prop} : retM (some (some (.own ds))) kr = kr (.new ds) := rfl
theorem retF_slot : retW false F (.slot i) Γ = retM Γ[i]? fun r => F r [] := by
  unfold retW retM
  have h0 : ¬ (false = true ∧ i = 0) := fun z => by cases z.1
  rcases q : Γ[i]? with _ | _ | (d | ds)
  · exact propext ⟨fun ⟨d, e, h⟩ => (by simp only [toN, q, h0, if_false] at e; cases e), fun h => h.elim⟩
  · exact propext ⟨fun ⟨d, e, h⟩ => (by simp only [toN, q, h0, if_false] at e; cases e), fun h => h.elim⟩
  · exact propext ⟨fun ⟨d, e, h⟩ => (by simp only [toN, q, h0, if_false] at e; cases e; exact h), fun h => ⟨_, by simp only [toN, q, h0, if_false], h⟩⟩
  · exact propext ⟨fun ⟨d, e, h⟩ => (by simp only [toN, q, h0, if_false] at e; cases e; exact h), fun h => ⟨_, by simp only [toN, q, h0, if_false], h⟩⟩
theorem retT_slot : retW true F (.slot (i + 1)) Γ = retM Γ[i + 1]? fun r => ownR Γ 0 fun row => F r row := by
  unfold retW retM ownR
  have h0 : ¬ (true = true ∧ i + 1 = 0) := fun z => by cases z.2
  rcases q : Γ[i + 1]? with _ | _ | (d | ds)
  · exact propext ⟨fun ⟨d, e, h⟩ => (by simp only [toN, q, h0, if_false] at e; cases e), fun h => h.elim⟩
  · exact propext ⟨fun ⟨d, e, h⟩ => (by simp only [toN, q, h0, if_false] at e; cases e), fun h => h.elim⟩
  · exact propext ⟨fun ⟨d, e, h⟩ => (by rw [toN_shr h0 q] at e; cases e; exact h), fun h => ⟨_, toN_shr h0 q, h⟩⟩
  · exact propext ⟨fun ⟨d, e, h⟩ => (by rw [toN_own h0 q] at e; cases e; exact h), fun h => ⟨_, toN_own h0 q, h⟩⟩
theorem put_val' : putW n (.val d) Γ k = goR k (Γ.set n (some (.shr d))) := rfl
theorem put_new' : putW n (.new ds) Γ k = goR k (Γ.set n (some (.own ds))) := rfl
theorem put_slot : putW i (.slot j) Γ k = frzM Γ[j]? j Γ fun d Γ1 => goR k (Γ1.set i (some (.shr d))) := frzR_slot (Γ := Γ) (n := j) (kg := fun d Γ1 => k (Γ1.set i (some (.shr d))))
end
section
variable {Γ : Gm} {d e : D} {ds xs ys : List D} {i j : Int} {n : Nat} {Ψ : R → Prop} {Ψb : Bool → Prop} {f : Int → Int → Int} {C : Int → Int → Prop} {x y : Str} {neg : Bool}
theorem I_ap : dI C f (.int i) (.int j) Ψ = sideR (C i j) (Ψ (.val (.int (f i j)))) := I_int
theorem dx_lst : dIx (.lst ds) (.int i) Ψ = atR ds i fun z => Ψ (.val z) := ix_lst
theorem dx_scr : dIx (.scr ds) (.int i) Ψ = atR ds i fun z => Ψ (.val z) := ix_scr
theorem dx_tup : dIx (.tup ds) (.int i) Ψ = atR ds i fun z => Ψ (.val z) := ix_tup
theorem dx_str : dIx (.str x) (.int i) Ψ = sideR (x.length ≤ sizeLine) (chM (atI x.cps.toList i) fun c => Ψ (.val (.str ⟨#[c]⟩))) := ix_str
theorem dlen_str : dLenS [.str x] Ψ = sideR (x.length ≤ sizeLine) (Ψ (.val (.int (x.length : Nat)))) := len_str
theorem din_tup : bIn neg d (.tup ds) Ψb = sideR (d.flat = true ∧ ds.all D.flat = true) (Ψb (if neg then !inV d.v (ds.map D.v) else inV d.v (ds.map D.v))) := by rw [in_tup]; unfold sideR; rw [and_assoc]
theorem din_lst : bIn neg d (.lst ds) Ψb = sideR (d.flat = true ∧ ds.all D.flat = true) (Ψb (if neg then !inV d.v (ds.map D.v) else inV d.v (ds.map D.v))) := by rw [in_lst]; unfold sideR; rw [and_assoc]
theorem daddS : dAddS (.str x) (.str y) Ψ = sideR (x.length + y.length ≤ sizeLine) (Ψ (.val (.str (x ++ y)))) := addS_str
theorem dcat : dCat (.lst xs) (.lst ys) Ψ = sideR (xs.length + ys.length ≤ sizeLine) (Ψ (.new (xs ++ ys))) := cat_lst
theorem dsl_str {lo hi : Option Int} : dSlS (.str x) lo hi Ψ = sideR (x.length ≤ sizeLine) (Ψ (.val (.str (cutS x lo hi)))) := sl_str'
theorem isi_ap {T : String} : dIsi [d, .ty T] Ψ = boM (d.isi T) fun b => Ψ (.val (.bl b)) := isi_eq
theorem deq_ap {f : Bool → Bool} : bEq f d e Ψb = sideR ((∃ n, n ≤ 60 ∧ Dep n d) ∧ ∃ n, n ≤ 60 ∧ Dep n e) (Ψb (f (deq d e))) := by
  unfold bEq sideR
  rw [and_assoc]
theorem dneg_int : dNeg (.int i) Ψ = Ψ (.val (.int (-i))) := neg_int
theorem dStrI_ap : dStrI [.int i] Ψ = sideR (i.natAbs.log2 < 1920) (Ψ (.val (.str (toString i)))) := propext ⟨fun ⟨_, e, h⟩ => by cases e; exact h, fun h => ⟨_, rfl, h⟩⟩
theorem dInt1_bl {b : Bool} : dInt1 [.bl b] Ψ = Ψ (.val (.int (if b then 1 else 0))) := propext ⟨fun h => by rcases h with ⟨_, e, _⟩ | ⟨_, e, h⟩ <;> cases e; exact h, fun h => .inr ⟨_, rfl, h⟩⟩
theorem dInt1_int : dInt1 [.int i] Ψ = Ψ (.val (.int i)) := propext ⟨fun h => by rcases h with ⟨_, e, h⟩ | ⟨_, e, _⟩ <;> cases e; exact h, fun h => .inl ⟨_, rfl, h⟩⟩
theorem dtuple_lst : dTuple [.lst ds] Ψ = Ψ (.val (.tup ds)) := propext ⟨fun ⟨_, _, e, e1, h⟩ => by cases e; rcases e1 with e1 | e1 <;> cases e1; exact h, fun h => ⟨_, _, rfl, .inl rfl, h⟩⟩
theorem dtuple_tup : dTuple [.tup ds] Ψ = Ψ (.val (.tup ds)) := propext ⟨fun ⟨_, _, e, e1, h⟩ => by cases e; rcases e1 with e1 | e1 <;> cases e1; exact h, fun h => ⟨_, _, rfl, .inr rfl, h⟩⟩
end
theorem isi_int_int (i : Int) : D.isi (.int i) "int" = some true := rfl
theorem isi_int_bool (i : Int) : D.isi (.int i) "bool" = some false := rfl
theorem isi_int_str (i : Int) : D.isi (.int i) "str" = some false := rfl
theorem isi_int_tuple (i : Int) : D.isi (.int i) "tuple" = some false := rfl
theorem isi_bl_int (i : Bool) : D.isi (.bl i) "int" = some true := rfl
theorem isi_bl_bool (i : Bool) : D.isi (.bl i) "bool" = some true := rfl
theorem isi_bl_str (i : Bool) : D.isi (.bl i) "str" = some false := rfl
theorem isi_bl_tuple (i : Bool) : D.isi (.bl i) "tuple" = some false := rfl
theorem isi_str_int (i : Str) : D.isi (.str i) "int" = some false := rfl
theorem isi_str_bool (i : Str) : D.isi (.str i) "bool" = some false := rfl
theorem isi_str_str (i : Str) : D.isi (.str i) "str" = some true := rfl
theorem isi_str_tuple (i : Str) : D.isi (.str i) "tuple" = some false := rfl
theorem isi_lst (i : List D) : D.isi (.lst i) "list" = some true := rfl
theorem isi_tup (i : List D) : D.isi (.tup i) "tuple" = some true := rfl
theorem v_int (i : Int) : D.v (.int i) = .int i := rfl
theorem v_str (i : Str) : D.v (.str i) = .str i := rfl
theorem v_bl (i : Bool) : D.v (.bl i) = .bl i := rfl
theorem v_non : D.v .non = .non := rfl
theorem fl_int (i : Int) : D.flat (.int i) = true := rfl
theorem fl_str (i : Str) : D.flat (.str i) = true := rfl
theorem fl_bl (i : Bool) : D.flat (.bl i) = true := rfl
theorem fl_non : D.flat .non = true := rfl
theorem ixN_0 {n : Nat} : ixN (n + 1) 0 = some 0 := by unfold ixN; rw [if_pos (by decide), if_pos (by omega)]; rfl
theorem ixN_1 {n : Nat} : ixN (n + 2) 1 = some 1 := by unfold ixN; rw [if_pos (by decide), if_pos (by omega)]; rfl
theorem ixN_2 {n : Nat} : ixN (n + 3) 2 = some 2 := by unfold ixN; rw [if_pos (by decide), if_pos (by omega)]; rfl
end Dt
set_option Elab.async false
set_option linter.all false
set_option maxRecDepth 100000
set_option autoImplicit false
namespace Dt
open PySem PySem.Spec L2 Kx PyProof.Rows
section
variable {X : Cx}
theorem q_never {T : Tb} {io : Bool} {E : XK} {st : Stmt} : QS X T io E st tNever (fun _ _ => False) := ⟨ps_never, sd_never⟩
end
section
variable {T : Tb} {F H : Hp}
def dRep : D → D → (R → Prop) → Prop := fun d e Ψ => ∃ xs k, d = .lst xs ∧ e = .int k ∧ (-(2 ^ 63) ≤ k ∧ k < 2 ^ 63 ∧ xs.length * k.toNat ≤ sizeLine) ∧ Ψ (.new (List.replicate k.toNat xs).flatten)
theorem drep_ap {xs : List D} {k : Int} {Ψ : R → Prop} : dRep (.lst xs) (.int k) Ψ = sideR (-(2 ^ 63) ≤ k ∧ k < 2 ^ 63 ∧ xs.length * k.toNat ≤ sizeLine) (Ψ (.new (List.replicate k.toNat xs).flatten)) := propext ⟨fun ⟨_, _, e1, e2, h⟩ => by cases e1; cases e2; exact h, fun h => ⟨_, _, rfl, rfl, h⟩⟩
theorem djoin_ap {a : Str} {ys : List Str} {Ψ : R → Prop} : dJoin a (.lst (ys.map D.str)) Ψ = sideR ((ys.map (·.length)).sum + ys.length * a.length ≤ 16777216) (Ψ (.val (.str (Txt.join a ys)))) := by
  refine propext ⟨fun ⟨zs, e, h1, h⟩ => ?_, fun h => ⟨ys, .inl rfl, h⟩⟩
  rcases e with e | e
  · have e' : ys.map D.str = zs.map D.str := D.lst.inj e
    have : ys = zs := (List.map_inj_right (f := D.str) (fun _ _ z => D.str.inj z)).mp e'
    subst this
    exact ⟨h1, h⟩
  · cases e
end
def TxOk (n : Nat) (x : Str) : Prop := x.length ≤ n ∧ PyData.strOk x = true
theorem strOk_iff {x : Str} : PyData.strOk x = true ↔ ∀ c ∈ x.cps.toList, c < 0x110000 := by
  unfold PyData.strOk
  rw [← Array.all_toList, List.all_eq_true]
  simp
theorem TxOk.mono {n m : Nat} {x : Str} (h : TxOk n x) (l : n ≤ m) : TxOk m x := ⟨Nat.le_trans h.1 l, h.2⟩
theorem len_app (x y : Str) : (x ++ y).length = x.length + y.length := by
  rw [ext_mk (x := x) rfl, ext_mk (x := y) rfl, app_mk]
  simp only [len_mk, List.length_append]
theorem TxOk.app {n m : Nat} {x y : Str} (h : TxOk n x) (h' : TxOk m y) : TxOk (n + m) (x ++ y) := by
  refine ⟨by rw [len_app]; exact Nat.add_le_add h.1 h'.1, strOk_iff.mpr fun c hc => ?_⟩
  rw [ext_mk (x := x) rfl, ext_mk (x := y) rfl, app_mk, tl_mk] at hc
  rcases List.mem_append.mp hc with z | z
  · exact strOk_iff.mp h.2 c z
  · exact strOk_iff.mp h'.2 c z
theorem TxOk.mk {n : Nat} {l : List Nat} (h : l.length ≤ n) (h' : ∀ c ∈ l, c < 0x110000) : TxOk n (mkS l) := ⟨by rw [len_mk]; exact h, strOk_iff.mpr (by rw [tl_mk]; exact h')⟩
theorem TxOk.size {n : Nat} {x : Str} (h : TxOk n x) (hn : n ≤ 1000) : x.length ≤ sizeLine := Nat.le_trans h.1 (Nat.le_trans hn (by decide))
end Dt
set_option Elab.async false
set_option linter.all false
set_option maxRecDepth 100000
set_option autoImplicit false
namespace L2
open PySem PySem.Spec PyProof.Rows
structure LamOk (X : Cx) (x : Str) (fv : List Str) (js : List Nat) (scope : Scope) (clos : List (Str × Addr)) : Prop where
  kind : scope.kind = .function
  co : scope.isCoroutine = false
  gen : scope.isGenerator = false
  par : scope.names.lookup x = some .local
  nocell : ∀ y ∈ scope.names, y.2 ≠ .cell
  frees : ∀ y, scope.names.lookup y = some .free → ∃ c, clos.lookup y = some c
  cells : ∀ y c, clos.lookup y = some c → X.env.cells.lookup y = some c
  nodup : x ∉ fv
  vis : ∀ y ∈ fv, X.env.kindOf y = some .cell ∧ scope.names.lookup y = some .free ∧ Vis X.env.scope y
  at_ : ∀ (k : Nat) (y : Str), fv[k]? = some y → ∃ j, js[k]? = some j ∧ X.N[j]? = some y
section
variable {X : Cx} {pins : List (Addr × Obj)} {σ : St} {H : Hp} {s : Shared} {x : Str} {fv : List Str} {js : List Nat} {scope : Scope} {clos : List (Str × Addr)} {A : Around} {f : Addr} {cv : Value}
abbrev lamObj (X : Cx) (params : Arguments) (body : Expr) (scope : Scope) (clos : List (Str × Addr)) (pm cv ctv : Value) : Obj :=
  { cls := .type "function", data := .func (PySem.W.kla_fn "<lambda>" (X.env.qual ++ "<lambda>") params body scope clos pm cv ctv) }
end
section
variable {X : Cx}
end
end L2
set_option Elab.async false
set_option linter.all false
set_option maxRecDepth 100000
set_option autoImplicit false
namespace PySem
open Sem (wp)
section
variable {prog : Program} {w : World} {A : Around} {E : Value → Shared → Prop} {s : Shared}
end
end PySem
namespace L2
open PySem PySem.Spec PyProof.Rows
structure Tmp (X : Cx) (pins : List (Addr × Obj)) (a : Addr) : Prop where
  sz : X.s_0.heap.objs.size ≤ a
  loc : a ≠ X.env.locals
  cel : ∀ x c, X.env.cells.lookup x = some c → c ≠ a
  pin : ∀ p ∈ X.pn ++ pins, p.1 ≠ a
  fs : a ∉ X.fs
section
variable {X : Cx} {pins : List (Addr × Obj)} {σ : St} {H : Hp} {s : Shared} {a : Addr} {h' : Heap}
end
structure SortK (g : Nat → Int) (n : Nat) (ns : List Nat) : Prop where
  perm : ns.Perm (List.range n)
  rise : ns.Pairwise fun i j => g i ≤ g j
  stay : ∀ c, ns.filter (fun i => g i == c) = (List.range n).filter fun i => g i == c
end L2
set_option Elab.async false
set_option linter.all false
set_option maxRecDepth 100000
set_option autoImplicit false
namespace L2
open PySem PySem.Spec PyProof.Rows
section
variable {X : Cx} {pins : List (Addr × Obj)} {σ : St} {H : Hp} {s : Shared} {x : Str} {fv : List Str} {js : List Nat} {scope : Scope} {clos : List (Str × Addr)} {f : Addr} {cv : Value} {params : Arguments} {body : Expr} {tl : TE} {k : Nat}
structure Kys (X : Cx) (pins : List (Addr × Obj)) (σ : St) (J : Hp → Prop) (params : Arguments) (body : Expr) (scope : Scope) (clos : List (Str × Addr)) (f : Addr) (cv pm ctv : Value) (g : Nat → Int) (kS a : Addr) (e1 : Nat) (i : Nat) (s' : Shared) (H' : Hp) (kA : Array Value) (e : Nat) : Prop where
  inv : Inv X pins σ H' s'
  j : J H'
  ks : s'.heap.get? kS = some (seqObj "list" kA e)
  as : s'.heap.get? a = some (seqObj "list" #[] e1)
  fo : s'.heap.get? f = some (lamObj X params body scope clos pm cv ctv)
  cd : CodeAt H' (X.env.qual ++ "<lambda>") cv
  nk : H' kS = none
  na : H' a = none
  nf : H' f = none
  it : IntsAre kA.toList ((List.range i).map g)
end
end L2
set_option Elab.async false
set_option linter.all false
set_option maxRecDepth 100000
set_option autoImplicit false
namespace L2
open PySem PySem.Spec PyProof.Rows
section
variable {X : Cx} {x : Str} {fv : List Str} {js : List Nat} {scope : Scope} {clos : List (Str × Addr)} {params : Arguments} {body : Expr} {tl : TE} {ta : TA} {k : Nat}
end
end L2
set_option Elab.async false
set_option linter.all false
set_option maxRecDepth 100000
set_option autoImplicit false
namespace Dt
open PySem PySem.Spec L2 Kx PyProof.Rows
section
variable {T : Tb} {F F1 F' H H1 H2 H' : Hp} {σ : L2.St} {Γ Γ1 Γ2 Γ' : Gm} {E E' : XK} {tl : TE} {wl : WE} {tA : TA} {wA : WA} {P : Addr} {lpos : Pos} {q : Str} {js : List Nat}
end
end Dt
set_option Elab.async false
set_option linter.all false
set_option maxRecDepth 100000
set_option autoImplicit false
namespace Dt
open PySem PySem.Spec L2 Kx PyProof.Rows
section
variable {X : Cx} {T : Tb} {E : XK} {x : Str} {fv : List Str} {js : List Nat} {scope sc : Scope} {clos : List (Str × Addr)} {params : Arguments} {body a : Expr} {tl : TE} {wl : WE} {tA : TA} {wA : WA} {k : Nat}
end
section
variable {P : Program} {wd : World} {K : PySem.W.Frag} {mg : Str → Option Value} {base : Heap} {x qual : Str} {st : Stmt} {f : Addr} {N ps : List Str} {k : Nat} {ts : List Addr} {ls : List (Addr × Pos × Str)} {io : Bool} {wf : WF} {w : WS} {oc kV doc pm cdv ct : Value} {od an : Option Addr} {osl : Array (Option Value)}
theorem fn_dC (lk : K.lookup f = some ⟨oc, od, .func (PySem.W.fnOf x qual (defArgs st) (defBody st) (defScope st) .none kV doc pm an cdv ct), osl⟩) (hcd : PySem.W.codeIn K cdv qual = true) (S : FnScope N ps (defScope st)) (hn : ps.length ≤ N.length) (hl : ∀ ds row Ψ Ξ, wf ds row Ψ Ξ → (if io then 1 else 0) + ds.length = ps.length)
    (hw : ∀ ds row Ψ Ξ, wf ds row Ψ Ξ → w (endsW io Ψ fun _ => False) (startW io N.length ds row))
    (hb : ∀ (A : Around) (outer : List Env) (s : Shared) (H : Hp) (E : XK), Room k (A.deeper (envOfC qual (defScope st) s.heap.objs.size f cdv)) → ∃ t, QSs (cxOf (CXE P wd) P wd K mg base N qual (defScope st) f cdv A outer s H E).nox ⟨K, ts, ls⟩ io E0 (defBody st) t w) :
    FnOk P wd K mg base (CXE P wd) (k + 1) f (PySem.W.fnOf x qual (defArgs st) (defBody st) (defScope st) .none kV doc pm an cdv ct) ps (spD ⟨K, ts, ls⟩ io wf) := by
  refine fn_of lk hcd S (fun vs H Q E h => spD_len hl h) fun A outer s H vs Q E hr h => ?_
  obtain ⟨t, q⟩ := hb A outer s H E hr
  obtain ⟨F0, ra, rv, row, vs', ds, Ψ, Ξ, o, rfl, hrow, r, hwf, kk, kx⟩ := h
  refine ⟨t, q.pe.nox, ?_⟩
  exact q.ed H F0 ra F0 _ H _ _ _ (start_ok o (by rw [hl ds row Ψ Ξ hwf]; exact hn) r hrow) (hw ds row Ψ Ξ hwf) (ends_ok (E' := E0) kk fun _ _ _ z => z.elim)
end
end Dt
set_option Elab.async false
set_option linter.all false
set_option maxRecDepth 100000
set_option autoImplicit false
namespace Dt
open PySem PySem.Spec L2 Kx
end Dt
set_option Elab.async false
set_option linter.all false
set_option maxRecDepth 100000
set_option autoImplicit false
namespace Dt
open PySem PySem.Spec L2 Kx
section
variable {X : Cx} {T : Tb} {E : XK} {io : Bool} {o k e : Expr} {tk t : TE} {wk w : WE} {pos : Pos}
end
end Dt
set_option Elab.async false
set_option linter.all false
set_option maxRecDepth 100000
set_option maxHeartbeats 2000000
set_option autoImplicit false
namespace L2
open PySem PySem.Spec PyProof.Rows
section
variable {X : Cx}
theorem vals_refs : ∀ {bs : List Addr} {us : List Value}, Vals (bs.map V.ref) us → us = bs.map Value.ref
  | [], _, .nil => rfl
  | b :: bs, _, .cons h r => by
    cases h
    rw [vals_refs r, List.map_cons]
end
end L2
namespace Dt
open PySem L2 Kx
def frD (p : Int × Int) : D := .tup [.int p.1, .int p.2]
end Dt
set_option Elab.async false
set_option linter.all false
set_option maxRecDepth 100000
set_option autoImplicit false
namespace Dea
open PySem Kx Dt L2
def rests (ts : List Int) (w : Int) : List Int := ts.map fun t => w * t % ts.sum
def quots (ts : List Int) (w : Int) : List Int := ts.map fun t => w * t / ts.sum
def bef (rs : List Int) (i j : Nat) : Bool := decide (rs.getD i 0 < rs.getD j 0 ∨ (rs.getD j 0 = rs.getD i 0 ∧ j < i))
def rank (rs : List Int) (i : Nat) : Nat := ((List.range rs.length).filter (bef rs i)).length
def left (ts : List Int) (w : Int) : Nat := (w - (quots ts w).sum).toNat
structure Ord (rs : List Int) (ns : List Nat) : Prop where
  perm : ns.Perm (List.range rs.length)
  bef : ns.Pairwise fun a b => bef rs b a = true
def dl (ts : List Int) (w : Int) (i : Nat) : Int := if ts.sum = 0 then 0 else w * ts.getD i 0 / ts.sum + (if rank (rests ts w) i < left ts w then 1 else 0)
end Dea
set_option Elab.async false
set_option linter.all false
set_option maxRecDepth 100000
set_option autoImplicit false
namespace Dt
open PySem L2 Kx
def wf__law_low : WF := fun ds row Ψ Ξ => ∃ t b : Int, ds = [.int t, .int b] ∧ b ≠ 0 ∧ Bd 3100 t ∧ Bd 3100 b ∧ Ψ (.val (frD (lowT t b, lowB t b))) []
theorem gcd_step {x y g : Nat} (h : Nat.gcd x y = g) (hy : y ≠ 0) : Nat.gcd y (x % y) = g := by
  rw [← h, Nat.gcd_comm x y, Nat.gcd_rec y x, Nat.gcd_comm]
theorem gcd_abs {t b : Int} : Int.gcd (if t < 0 then -t else t) (if b < 0 then -b else b) = Int.gcd t b := by
  unfold Int.gcd
  congr 1 <;> split <;> omega
def prodB (fs : List (Int × Int)) : Int := fs.foldl (fun c p => c * p.2) 1
def tops (fs : List (Int × Int)) : List Int := fs.map fun p => p.1 * (prodB fs / p.2)
section
variable {p : Int × Int} {Ψ : R → Prop} {Γ : Gm} {k : Gm → Prop} {wgs : WGs}
theorem fr_ix0 : dIx (frD p) (.int 0) Ψ = Ψ (.val (.int p.1)) := by unfold frD; simp only [dx_tup, atR_ap, ix0, atM_some]
theorem fr_ix1 : dIx (frD p) (.int 1) Ψ = Ψ (.val (.int p.2)) := by unfold frD; simp only [dx_tup, atR_ap, ix1, atM_some]
end
theorem fr_dep {p : Int × Int} {n : Nat} : Dep (n + 1) (frD p) := .tup fun d hd => by
  simp only [List.mem_cons, List.not_mem_nil, or_false] at hd
  rcases hd with rfl | rfl <;> exact .int _
theorem low_eq {t b : Int} (hb : 0 < b) : lowT t b * b = t * lowB t b := by
  obtain ⟨g, _, h1, h2⟩ := low_mul (t := t) hb
  generalize lowT t b = A at *
  generalize lowB t b = B at *
  rw [h1, h2]
  simp only [Int.mul_comm, Int.mul_left_comm]
end Dt
set_option Elab.async false
set_option linter.all false
set_option maxRecDepth 100000
set_option maxHeartbeats 4000000
set_option autoImplicit false
namespace L2
open PySem PySem.Spec PyProof.Rows
section
variable {κ : Type} [DecidableEq κ]
def metS (σ : List κ) (k : κ) : List κ := if k ∈ σ then σ else σ ++ [k]
def met (ks : List κ) : List κ := ks.foldl metS []
end
section
variable {prog : Program} {w : World} {A : Around} {κ : Type} [DecidableEq κ] {knd : KeyKind prog w κ}
end
local macro_rules | `(tactic| walk_at "wps") => `(tactic| (repeat (any_goals (first | assumption | wp_step))))
section
variable {prog : Program} {w : World} {A : Around} {κ : Type} [DecidableEq κ] {knd : KeyKind prog w κ} {E : Value → Shared → Prop} {s : Shared}
end
end L2
set_option Elab.async false
set_option linter.all false
set_option maxRecDepth 100000
set_option maxHeartbeats 4000000
set_option autoImplicit false
namespace L2
open PySem PySem.Spec PyProof.Rows
def SetN (p : Addr) (n : Nat) (h : Heap) : Prop := ∃ o es ep t, h.get? p = some o ∧ o.ExactSet ∧ o.data = .set es ep t ∧ t.fits es.size = true ∧ es.size = n
theorem SetN.keep {p : Addr} {n : Nat} {h1 h2 : Heap} (x : SetN p n h1) (k : ∀ o, h1.get? p = some o → h2.get? p = some o) : SetN p n h2 := by
  obtain ⟨o, es, ep, t, ho, r⟩ := x
  exact ⟨o, es, ep, t, k o ho, r⟩
section
variable {X : Cx}
end
end L2
namespace Dt
open PySem L2 Kx
section
variable {T : Tb} {E : XK} {tA : TA} {wA : WA} {X : Cx}
def SetLen (ds : List D) (n : Nat) : Prop := ds.length < 4000 ∧ ((∃ ns : List Int, ds = ns.map D.int ∧ n = (met ns).length) ∨ ∃ xs : List Str, ds = xs.map D.str ∧ n = (met xs).length)
def wLenSet (wA : WA) : WE := fun Γ Ψ Ξ => wA Γ (fun rs Γ1 => ∃ ds n, ats Γ1 rs = some [.lst ds] ∧ SetLen ds n ∧ Ψ (.val (.int (n : Nat))) Γ1) Ξ
theorem lenSet_ap {Γ : Gm} {Φ : R → Gm → Prop} {Ξ : XD → Prop} : wLenSet wA Γ Φ Ξ = wA Γ (fun rs Γ1 => atsR Γ1 rs fun ds => match ds with | [.lst es] => ∃ n, SetLen es n ∧ Φ (.val (.int (n : Nat))) Γ1 | _ => False) Ξ := by
  unfold wLenSet atsR
  congr 1
  funext rs Γ1
  refine propext ⟨fun ⟨ds, n, h, q⟩ => ⟨_, h, n, q⟩, fun ⟨ds, h, q⟩ => ?_⟩
  dsimp only at q
  split at q
  · obtain ⟨n, q⟩ := q
    exact ⟨_, n, h, q⟩
  · exact q.elim
end
end Dt
set_option Elab.async false
set_option linter.all false
set_option maxRecDepth 100000
set_option maxHeartbeats 2000000
set_option autoImplicit false
namespace L2
open PySem PySem.Spec PyProof.Rows
section
variable {X : Cx} {e k : Expr} {te tk : TE} {p2 pos : Pos}
end
end L2
namespace Dt
open PySem L2 Kx
section
variable {T : Tb} {E : XK} {X : Cx} {e k : Expr} {t tk : TE} {w wk : WE} {p2 pos : Pos}
end
end Dt
set_option Elab.async false
set_option linter.all false
set_option maxRecDepth 100000
set_option maxHeartbeats 1000000
set_option autoImplicit false
namespace Dt
open PySem L2 Kx
section
variable {T : Tb} {io : Bool} {E : XK} {X : Cx} {e : Expr} {t : TE} {w : WE} {x y : Str} {px py pos : Pos}
def wTwo (i j : Nat) (w : WE) : WS := fun Ψ Γ => w Γ (fun r Γ1 => frzR Γ1 r fun d Γ2 => goR Ψ.nx ((Γ2.set i (some (.shr d))).set j (some (.shr d)))) Ψ.xe
theorem two_ap {i j : Nat} {Ψ : WEnds} {Γ : Gm} : wTwo i j w Ψ Γ = w Γ (fun r Γ1 => frzR Γ1 r fun d Γ2 => goR Ψ.nx ((Γ2.set i (some (.shr d))).set j (some (.shr d)))) Ψ.xe := rfl
end
def wf_is_whole : WF := fun ds row Ψ Ξ => ∃ t : Int, ds = [.int t] ∧ Ψ (.val (.bl true)) []
def wf_common_divisor : WF := fun ds row Ψ Ξ => ∃ x y : Int, ds = [.int x, .int y] ∧ 0 ≤ x ∧ 0 ≤ y ∧ Ψ (.val (.int ((Int.gcd x y : Nat) : Int))) []
def wf_fraction : WF := fun ds row Ψ Ξ => ∃ t b : Int, ds = [.int t, .int b] ∧ Bd 3100 t ∧ Bd 3100 b ∧ b ≠ 0 ∧ Ψ (.val (frD (lowT t b, lowB t b))) []
structure SpB (L : Nat) (t b t2 b2 : Int) (top : Nat) : Prop where
  bt : Bd 200 t
  bb : Bd 200 b
  bt2 : Bd 200 t2
  bb2 : Bd 200 b2
  b0 : 0 < b
  b20 : 0 < b2
  lt : 0 < t2 * b - t * b2
  near : 39 * (b2 * b) ≤ (t2 * b - t * b2) * 10 ^ L
  lo : -(b * lowT (Kx.R top) (10 ^ L)) ≤ t * lowB (Kx.R top) (10 ^ L)
  hi : t2 * lowB (Kx.R top) (10 ^ L) ≤ b2 * lowT (Kx.R top) (10 ^ L)
  tops : top ≤ 300
  ls : L ≤ 80
end Dt
set_option Elab.async false
set_option linter.all false
set_option maxRecDepth 100000
set_option maxHeartbeats 1000000
set_option autoImplicit false
namespace Dt
open PySem PySem.Spec L2 Kx PyProof.Rows
def ClsF (K : PySem.W.Frag) (C : Addr) (fs : List Str) : Prop := Cls K C ∧ ∀ f ∈ fs, NoAttr K C f
theorem RepA.look {K : PySem.W.Frag} {F : Hp} {f : Str} {z : D} : ∀ {ns : List Str} {vs : List V} {ds : List D}, RepA K F vs ds → (ns.zip ds).lookup f = some z → ∃ v, (ns.zip vs).lookup f = some v ∧ Rep K F v z
  | [], _, _, _, h => by simp at h
  | _ :: _, _, _, .nil, h => by simp at h
  | n :: ns, _, _, .cons (v := v) (d := d) h r, e => by
    rw [List.zip_cons_cons, List.lookup_cons] at e
    rw [List.zip_cons_cons, List.lookup_cons]
    split at e
    · cases e
      exact ⟨v, rfl, h⟩
    · exact RepA.look r e
section
variable {T : Tb} {E : XK} {X : Cx} {e o : Expr} {es : List Expr} {t : TE} {w : WE} {pos apos p : Pos} {f m x : Str} {tA : TA} {wA : WA}
variable {CX : CXT} {k : Nat} {tab : List (Str × WF)}
def wMeth (m : Str) (tab : List (Str × WF)) (wo : WE) (wA : WA) : WE := fun Γ Ψ Ξ => wo Γ (fun r Γ1 => ∃ c ns ds wf, r = .val (.obj c ns ds) ∧ tab.lookup c = some wf ∧ ns.contains m = false ∧ wA Γ1 (fun rs Γ2 => callW false wf (.val (.obj c ns ds) :: rs) Γ2 Ψ Ξ) Ξ) Ξ
abbrev WM := List D → (List D → Prop) → (XD → Prop) → Prop
theorem ins_nt {C dx : Addr} {fs : List (Str × V)} : NoT (.ins C dx fs) := fun _ z => by cases z
def CA (K : PySem.W.Frag) (x : Str) : Addr := match PySem.W.nsIn K mainGlobals x with
  | some (some (.ref C)) => C
  | _ => 0
theorem CA_of {K : PySem.W.Frag} {x : Str} {C : Addr} (h : PySem.W.nsIn K mainGlobals x = some (some (.ref C))) : CA K x = C := by
  unfold CA
  rw [h]
structure CalN (P : Program) (w : World) (K : PySem.W.Frag) (mg : Str → Option Value) (base : Heap) (CX : CXT) (k : Nat) (x : Str) (ns ps : List Str) (sp : Sp) : Prop where
  at_ : PySem.W.nsIn K mainGlobals x = some (some (.ref (CA K x)))
  cl : ClsF K (CA K x) ns
  cal : CalK P w K mg base CX k (CA K x) x ps sp
end
structure IvS (T : Tb) (H1 F0 : Hp) (x C dx : Addr) (fs : List Str) (ds : List D) (F : Hp) (σ : L2.St) (H : Hp) (Γ : Gm) : Prop where
  rp : Rp T F σ H Γ
  nw : Nw T F0 H1 F H
  self : σ[0]? = some (some (.ref x))
  fresh : H1 x = none
  fx : F x = none
  at_ : ∃ us, H x = some (.ins C dx (fs.zip us)) ∧ us.length = fs.length ∧ RepA T.K F us ds
  no : ∀ (i : Nat) (es : List D), Γ[i]? ≠ some (some (En.own es))
section
variable {T : Tb} {H1 F0 F H F' H' : Hp} {x C dx : Addr} {fs : List Str} {ds : List D} {σ : L2.St} {Γ Γ' : Gm}
theorem IvS.noOwns {b : Addr} (s : IvS T H1 F0 x C dx fs ds F σ H Γ) : ¬ Owns σ Γ b := fun ⟨i, es, h, _⟩ => s.no i es h
theorem Nw.trans {F1 H2 F2 H3 : Hp} (a : Nw T F0 H1 F1 H2) (b : Nw T F1 H2 F2 H3) : Nw T F0 H1 F2 H3 where
  ok := b.ok
  ff := fun c o h => b.ff c o (a.ff c o h)
  hh := fun c o h t => b.hh c o (a.hh c o h t) t
  gro := fun c o h => let ⟨o1, h1⟩ := a.gro c o h; b.gro c o1 h1
  nf := fun c o h => by
    rcases b.nf c o h with z | z
    · exact a.nf c o z
    · cases e : H1 c with
      | none => exact .inr rfl
      | some u => obtain ⟨u', z'⟩ := a.gro c u e; rw [z] at z'; cases z'
theorem IvS.po (s : IvS T H1 F0 x C dx fs ds F σ H Γ) (q : Po T F σ H Γ F' H' Γ') : IvS T H1 F0 x C dx fs ds F' σ H' Γ' := by
  have n : Nw T F H F' H' := ⟨q.rp.toOk, q.ff, fun b o h t => q.fr b o h t s.noOwns, q.gro, fun b o h => (q.nf b o h).elim .inl fun z => z.elim .inr fun y => absurd y s.noOwns⟩
  obtain ⟨us, h1, h2, h3⟩ := s.at_
  refine ⟨q.rp, s.nw.trans n, s.self, s.fresh, q.known h1 s.fx s.noOwns, ⟨us, q.fr _ _ h1 ins_nt s.noOwns, h2, h3.mono q.ff⟩, ?_⟩
  · intro i es h
    obtain ⟨es', h'⟩ := q.ow i es h
    exact s.no i es' h'
abbrev WIk := Gm → List Str → List D → Prop
abbrev WIn := WIk → WIk
def SI (T : Tb) (ns : List Str) (t : TS) (w : WIn) : Prop := ∀ (H1 F0 : Hp) (x C dx : Addr) (fs : List Str) (ds : List D) (F : Hp) (σ : L2.St) (H : Hp) (Γ : Gm) (D : Ends) (Ψ : WIk), ClsF T.K C ns → IvS T H1 F0 x C dx fs ds F σ H Γ → w Ψ Γ fs ds →
  (∀ F' σ' H' Γ' fs' ds', Ψ Γ' fs' ds' → IvS T H1 F0 x C dx fs' ds' F' σ' H' Γ' → D.nx σ' H') → t D σ H
variable {ns : List Str} {s1 s2 : TS} {u1 u2 : WIn} {t1 : TT} {w1 : WT} {t : TE} {w : WE} {f : Str}
end
structure QIn (X : Cx) (T : Tb) (ns : List Str) (st : Stmt) (t : TS) (w : WIn) : Prop where
  pe : PS X st t
  ed : SI T ns t w
structure QIns (X : Cx) (T : Tb) (ns : List Str) (st : List Stmt) (t : TS) (w : WIn) : Prop where
  pe : PSs X st t
  ed : SI T ns t w
section
variable {X : Cx} {T : Tb} {ns : List Str} {c e o : Expr} {t1 : TT} {w1 : WT} {t : TE} {w : WE} {pos pos' : Pos} {f : Str} {b1 : List Stmt} {st : Stmt} {ss : List Stmt} {s1 s2 : TS} {u1 u2 : WIn} {ex : Stmt}
end
section
variable {P : Program} {wd : World} {K : PySem.W.Frag} {mg : Str → Option Value} {base : Heap} {x qual : Str} {st : Stmt} {f : Addr} {fd : FuncData} {N ps ns : List Str} {k : Nat} {ts : List Addr} {ls : List (Addr × Pos × Str)} {wm : WM} {w : WIn}
end
structure CalC (P : Program) (w : World) (K : PySem.W.Frag) (mg : Str → Option Value) (base : Heap) (CX : CXT) (k : Nat) (c m : Str) (ps : List Str) (sp : Sp) : Prop where
  at_ : PySem.W.nsIn K mainGlobals c = some (some (.ref (CA K c)))
  cl : Cls K (CA K c)
  cal : CalM P w K mg base CX k (CA K c) m ps sp
section
variable {X : Cx} {T : Tb} {CX : CXT} {j k : Nat} {m c : Str} {ps : List Str} {wf : WF} {tab : List (Str × WF)}
end
section
variable {Γ : Gm} {Φ : R → Gm → Prop} {Ξ : XD → Prop} {m f c : Str} {ns : List Str} {ds : List D} {tab : List (Str × WF)} {wo : WE} {wA : WA} {wm : WM} {Ψ : R → Prop}
def objR (r : R) (m : Str) (tab : List (Str × WF)) (k : D → WF → Prop) (_ : Tg k := ⟨⟩) : Prop := ∃ c ns ds wf, r = .val (.obj c ns ds) ∧ tab.lookup c = some wf ∧ ns.contains m = false ∧ k (.obj c ns ds) wf
theorem meth_ap : wMeth m tab wo wA Γ Φ Ξ = wo Γ (fun r Γ1 => objR r m tab fun d wf => wA Γ1 (fun rs Γ2 => callW false wf (.val d :: rs) Γ2 Φ Ξ) Ξ) Ξ := rfl
variable {Ψi : WIk} {u1 u2 : WIn} {w1 : WT} {w : WE} {fs : List Str}
end
section
variable {x y z : D} {Ψ : R → Prop}
end
end Dt
set_option Elab.async false
set_option linter.all false
set_option maxRecDepth 100000
set_option maxHeartbeats 1000000
set_option autoImplicit false
namespace Dt
open PySem L2 Kx
structure ScB (t b t2 b2 n : Int) : Prop where
  bt : Bd 100 t
  bb : Bd 100 b
  bt2 : Bd 100 t2
  bb2 : Bd 100 b2
  b0 : 0 < b
  b20 : 0 < b2
  lt : 0 < t2 * b - t * b2
  n0 : 2 ≤ n
  n1 : n ≤ 40
def nearZ (x y : Int) : Int := (2 * x + y) / (2 * y)
theorem near_scale {x y g : Int} (hy : 0 < y) (hg : 0 < g) : nearZ (x * g) (y * g) = nearZ x y := by
  unfold nearZ
  rw [show 2 * (x * g) + y * g = (2 * x + y) * g by rw [Int.add_mul, Int.mul_assoc], show 2 * (y * g) = 2 * y * g by rw [Int.mul_assoc]]
  exact Int.mul_ediv_mul_of_pos_left _ _ hg
def lvX (t b b2 n u v : Int) : Int := (u * b - t * v) * n * (b2 * b)
def lvY (t b t2 b2 v : Int) : Int := v * b * 1 * (t2 * b - t * b2)
theorem nb {n : Int} (h0 : 2 ≤ n) (h1 : n ≤ 40) : Bd 6 n := by unfold Bd; omega
end Dt
set_option Elab.async false
set_option linter.all false
set_option maxRecDepth 100000
set_option maxHeartbeats 1000000
set_option autoImplicit false
namespace Dt
open PySem PySem.Spec L2 Kx
section
variable {T : Tb} {E : XK} {X : Cx} {t : TE} {w : WE}
def fltF : D → List D
  | .tup [_, .tup es] => es
  | _ => []
def okF (d : D) : Prop := ∃ n es, d = .tup [n, .tup es]
def wFlat (a b c : Nat) (w : WE) : WE := fun Γ Ψ Ξ => (a < Γ.length ∧ b < Γ.length ∧ c < Γ.length) ∧ w Γ (fun r Γ1 => ∃ ds Γ2, frz Γ1 r = some (.tup ds, Γ2) ∧ (∀ d ∈ ds, okF d) ∧ (ds.flatMap fltF).length ≤ sizeLine ∧ Ψ (.new (ds.flatMap fltF)) Γ2) Ξ
variable {e : Expr} {pos pt p1 p2 p3 p4 p5 : Pos} {scope : Scope} {own : List (Str × Nat)} {x y z : Str} {k : Nat}
theorem flat_ap {a b c : Nat} {Γ : Gm} {Φ : R → Gm → Prop} {Ξ : XD → Prop} : wFlat a b c w Γ Φ Ξ = sideR (a < Γ.length ∧ b < Γ.length ∧ c < Γ.length) (w Γ (fun r Γ1 => frzR Γ1 r fun d Γ2 => match d with | .tup ds => sideR ((∀ d ∈ ds, okF d) ∧ (ds.flatMap fltF).length ≤ sizeLine) (Φ (.new (ds.flatMap fltF)) Γ2) | _ => False) Ξ) := by
  unfold wFlat sideR frzR
  congr 2
  funext r Γ1
  refine propext ⟨fun ⟨ds, Γ2, h, h1, h2, q⟩ => ⟨_, Γ2, h, ⟨h1, h2⟩, q⟩, fun ⟨d, Γ2, h, q⟩ => ?_⟩
  dsimp only at q
  split at q
  · exact ⟨_, Γ2, h, q.1.1, q.1.2, q.2⟩
  · exact q.elim
def wExt (i : Nat) (we : WE) : WE := fun Γ Ψ Ξ => ∃ ds0, Γ[i]? = some (some (.own ds0)) ∧ we Γ (fun r Γ1 => ∃ es ds, r = .new es ∧ Γ1[i]? = some (some (.own ds)) ∧ ds.length + es.length ≤ sizeLine ∧ Ψ (.val .non) (Γ1.set i (some (.own (ds ++ es))))) Ξ
def newR (r : R) (k : List D → Prop) (_ : Tg k := ⟨⟩) : Prop := ∃ es, r = .new es ∧ k es
theorem newR_new {es : List D} {k : List D → Prop} : newR (.new es) k = k es := propext ⟨fun ⟨_, e, h⟩ => by cases e; exact h, fun h => ⟨_, rfl, h⟩⟩
theorem ext_ap {i : Nat} {we : WE} {Γ : Gm} {Φ : R → Gm → Prop} {Ξ : XD → Prop} : wExt i we Γ Φ Ξ = ownR Γ i fun _ => we Γ (fun r Γ1 => newR r fun es => ownR Γ1 i fun ds => sideR (ds.length + es.length ≤ sizeLine) (goR (Φ (.val .non)) (Γ1.set i (some (.own (ds ++ es)))))) Ξ := by
  unfold wExt ownR newR sideR goR
  simp only [exists_and_left]
end
section
structure IsC (K : PySem.W.Frag) (c d : Str) (b : Bool) : Prop where
  at_ : PySem.W.nsIn K mainGlobals c = some (some (.ref (CA K c)))
  hg : PySem.W.plainGet K (CA K c) "__class__" = true
  hd : PySem.W.hasDictIn K (CA K c) = true
  ha : PySem.W.findIn K (.ref (CA K c)) "__class__" = some (some (.builtin "object.__class__"))
  hn : PySem.W.specialIn K (.builtin "object.__class__") "__get__" = some (some (.builtin "getset_descriptor.__get__"))
  tk : PySem.W.takesIn K (.builtin "object.__class__") = some true
  mr : PySem.W.mroIn K (CA K c) (.type "object") = some true
  ki : PySem.W.kitOne K (.ref (CA K c)) (.ref (CA K d)) = some b
variable {X : Cx} {T : Tb} {E : XK} {c d : Str} {b : Bool} {e : Expr} {t : TE} {w : WE} {pos p1 p2 : Pos}
end
section
variable {x y z : D} {Ψ : R → Prop}
end
end Dt
set_option Elab.async false
set_option linter.all false
set_option maxRecDepth 100000
set_option maxHeartbeats 1000000
set_option autoImplicit false
namespace Dt
open PySem L2 Kx
abbrev Rw := Str × List (Int × Int)
def NumOk (p : Int × Int) : Prop := Lw p.1 p.2 ∧ p.2 ∣ 10 ^ 6 ∧ -(4 * 10 ^ 12 * p.2) < p.1 ∧ p.1 < 4 * 10 ^ 12 * p.2
def un (p : Int × Int) : Int := p.1 * 10 ^ 12 / p.2
theorem NumOk.pos {p : Int × Int} (h : NumOk p) : 1 ≤ p.2 ∧ p.2 ≤ 10 ^ 6 := by
  have := h.1.1
  have := Int.le_of_dvd (by decide) h.2.1
  omega
theorem NumOk.bd {p : Int × Int} (h : NumOk p) : Bd 100 p.1 ∧ Bd 100 p.2 := by
  have := h.pos
  obtain ⟨_, _, h1, h2⟩ := h
  exact ⟨Bd.mono (m := 80) (by unfold Bd; omega) (by decide), Bd.mono (m := 80) (by unfold Bd; omega) (by decide)⟩
def CU (u v s : Int) : Int := -(-v / s) - u / s + 1
def StpU (u v m : Int) (j : Nat) : Prop := CU u v (Kx.R j) ≤ m ∧ ∀ i, i < j → m < CU u v (Kx.R i)
def mkP (x : Int) : Int × Int := (lowT x (10 ^ 12), lowB x (10 ^ 12))
theorem StpU.uniq {u v m : Int} {i j : Nat} (h : StpU u v m i) (h' : StpU u v m j) : i = j := by
  rcases Nat.lt_trichotomy i j with z | z | z
  · have := h'.2 i z
    have := h.1
    omega
  · exact z
  · have := h.2 j z
    have := h'.1
    omega
structure Un (t b u : Int) : Prop where
  b0 : 0 < b
  eq : u * b = t * 10 ^ 12
end Dt
set_option Elab.async false
set_option linter.all false
set_option maxRecDepth 100000
set_option maxHeartbeats 1000000
set_option autoImplicit false
namespace Dt
open PySem L2 Kx
end Dt
set_option Elab.async false
set_option linter.all false
set_option maxRecDepth 100000
set_option maxHeartbeats 1000000
set_option autoImplicit false
namespace Dt
open PySem L2 Kx
structure TblOk (ss : List Str) (rs : List Rw) : Prop where
  s0 : 1 ≤ ss.length
  s1 : ss.length ≤ 4
  sok : ∀ s ∈ ss, TxOk 30 s
  r0 : 1 ≤ rs.length
  r1 : rs.length ≤ 12
  rok : ∀ r ∈ rs, TxOk 30 r.1 ∧ r.2.length = ss.length ∧ ∀ p ∈ r.2, NumOk p
  rb : ∀ r ∈ rs, ∀ p ∈ r.2, -(10 ^ 12 * p.2) < p.1 ∧ p.1 < 10 ^ 12 * p.2
def IsMin (m : Int) (us : List Int) : Prop := m ∈ us ∧ ∀ y ∈ us, m ≤ y
def IsMax (m : Int) (us : List Int) : Prop := m ∈ us ∧ ∀ y ∈ us, y ≤ m
theorem IsMin.uniq {m n : Int} {us : List Int} (h : IsMin m us) (h' : IsMin n us) : m = n := by
  have := h.2 n h'.1
  have := h'.2 m h.1
  omega
theorem IsMax.uniq {m n : Int} {us : List Int} (h : IsMax m us) (h' : IsMax n us) : m = n := by
  have := h.2 n h'.1
  have := h'.2 m h.1
  omega
theorem ones_sum : ∀ l : List Nat, ((l.map fun c => (⟨#[c]⟩ : Str)).map (·.length)).sum = l.length
  | [] => rfl
  | c :: l => by
    rw [List.map_cons, List.map_cons, List.sum_cons, ones_sum l, List.length_cons, Nat.add_comm]
    rfl
theorem at_some {α : Type} {f : α → D} {P : α → Prop} {v : Int} (zs : List α) (h0 : 0 ≤ v) (h1 : v < zs.length) (hp : ∀ z ∈ zs, P z) : ∃ m, P m ∧ atI (zs.map f) v = some (f m) := by
  obtain ⟨z, hz, ha⟩ := at_in (ds := zs.map f) h0 (by simpa using h1)
  obtain ⟨m, hm, rfl⟩ := List.mem_map.mp hz
  exact ⟨m, hp m hm, ha⟩
end Dt
set_option Elab.async false
set_option linter.all false
set_option maxRecDepth 100000
set_option maxHeartbeats 1000000
set_option autoImplicit false
namespace L2
open PySem PySem.Spec PyProof.Rows
structure FnScopeS (N P : List Str) (sc : Scope) : Prop where
  kind : sc.kind = .function
  co : sc.isCoroutine = false
  gen : sc.isGenerator = false
  nd : N.Nodup
  pre : N.take P.length = P
  par : ∀ x ∈ P, sc.names.lookup x = some .local
  nocell : ∀ y ∈ sc.names, y.2 ≠ .cell
  free : ∀ y ∈ sc.names, y.2 = .free → y.1 = "__class__"
section
variable {CX : CXT} {P : Program} {w : World} {K : PySem.W.Frag} {mg : Str → Option Value} {base : Heap} {N ps : List Str} {qual : Str} {scope : Scope} {f cc : Addr} {cd : Value} {A : Around} {outer : List Env} {s : Shared} {H : Hp} {E : XK} {us : List Value} {vs : List V}
end
structure SupK (X : Cx) (C : Addr) (m : Str) (f2 : Addr) : Prop where
  fn : ∃ f fd oc od osl ar, X.env.func = some f ∧ X.K.lookup f = some ⟨oc, od, .func fd, osl⟩ ∧ (fd.params.posonlyargs ++ fd.params.args).head? = some ar ∧ X.N[0]? = some ar.arg ∧ X.env.scope.names.lookup ar.arg = some .local
  code : ∃ cda ccl cdd vs ccs file tf, X.env.code = .ref cda ∧ X.K.lookup cda = some ⟨ccl, cdd, .fields vs, ccs⟩ ∧ vs[2]? = some (.str file tf) ∧ ((X.prog.main.file : Str) == file) = true
  cell : ∃ cc cl cld csl, X.env.cells.lookup ("__class__" : Str) = some cc ∧ X.K.lookup cc = some ⟨cl, cld, .cell (some (.ref C)), csl⟩
  cls : ∃ cd, PySem.W.clsIn X.K C = some cd
  sub : PySem.W.mroIn X.K C (.ref C) = some true
  glob : X.mg "super" = none
  ks : X.env.scope.names.lookup ("super" : Str) = some .globalImplicit
  kc : X.env.scope.names.lookup ("__class__" : Str) = some .free
  top : (X.prog.main.scope.names.lookup ("super" : Str)).isSome = false
  nm : (m == ("__class__" : Str)) = false
  opq : PySem.W.nsIn X.K cStatics "thirdparty.any" = some none
  find : PySem.W.ks_superIn X.K C C m = some (some (.ref f2))
  ty : PySem.W.typeIn X.K (.ref f2) = some (.type "function")
  isf : PySem.W.fnIn X.K f2 = true
section
variable {X : Cx} {C f2 a dx : Addr} {m : Str} {pins : List (Addr × Obj)} {σ : St} {H : Hp} {s : Shared} {fs : List (Str × V)} {body : List Stmt} {p0 p1 : Pos} {whole : Sem Value} {Q : Value → Shared → Prop} {E : Value → Shared → Prop}
end
def PEAt (X : Cx) (body : List Stmt) (e : Expr) (t : TE) : Prop := ∀ (pins : List (Addr × Obj)) (s : Shared) (σ : St) (H : Hp) (Q : VK), Inv X pins σ H s → t σ H Q → PySem.wpAt (model X.prog X.w) X.A (.func body X.env) (eval e X.env) (EP X pins σ Q) X.xe s
section
variable {X : Cx} {CX : CXT} {C f2 : Addr} {fd : FuncData} {k : Nat} {m : Str} {ps : List Str} {sp : Sp} {E : XK} {body : List Stmt} {e : Expr} {es : List Expr} {p0 p1 apos pos : Pos} {ta : TA} {te : TE} {t : TS} {rest : List Stmt}
end
end L2
namespace Dt
open PySem L2 Kx
section
variable {T : Tb} {E : XK} {m c : Str} {wf : WF} {C : Addr} {tA : TA} {wA : WA}
end
structure QEAt (X : Cx) (T : Tb) (E : XK) (body : List Stmt) (e : Expr) (t : TE) (w : WE) : Prop where
  pe : PEAt X body e t
  ed : ED T E t w
section
variable {X : Cx} {T : Tb} {CX : CXT} {E : XK} {C f2 : Addr} {fd : FuncData} {k j : Nat} {m c : Str} {ps ns : List Str} {wf : WF} {wm : WM} {body : List Stmt} {e : Expr} {es : List Expr} {p0 p1 apos pos : Pos} {tA : TA} {wA : WA}
end
section
variable {P : Program} {wd : World} {K : PySem.W.Frag} {mg : Str → Option Value} {base : Heap} {x qual m : Str} {st : Stmt} {f cc cda C f2 : Addr} {N ps ns : List Str} {k : Nat} {ts : List Addr} {ls : List (Addr × Pos × Str)} {wf : WF} {kV doc pm ct oc : Value} {an od : Option Addr} {osl : Array (Option Value)} {cl : Value} {cld : Option Addr} {csl : Array (Option Value)}
structure SupD (P : Program) (K : PySem.W.Frag) (mg : Str → Option Value) (N : List Str) (st : Stmt) (x qual : Str) (f cc cda C : Addr) (m : Str) (f2 : Addr) (fd : FuncData) : Prop where
  lk : ∃ oc od kV doc pm an ct osl, fd = PySem.W.ksFn x qual (defArgs st) (defBody st) (defScope st) .none kV doc pm an (.ref cda) ct cc ∧ K.lookup f = some ⟨oc, od, .func fd, osl⟩
  cdo : PySem.W.codeIn K (.ref cda) qual = true
  par : ∃ ar, ((defArgs st).posonlyargs ++ (defArgs st).args).head? = some ar ∧ N[0]? = some ar.arg ∧ (defScope st).names.lookup ar.arg = some .local
  code : ∃ ccl cdd vs ccs file tf, K.lookup cda = some ⟨ccl, cdd, .fields vs, ccs⟩ ∧ vs[2]? = some (.str file tf) ∧ ((P.main.file : Str) == file) = true
  cell : ∃ cl cld csl, K.lookup cc = some ⟨cl, cld, .cell (some (.ref C)), csl⟩
  cls : ∃ cd, PySem.W.clsIn K C = some cd
  sub : PySem.W.mroIn K C (.ref C) = some true
  glob : mg "super" = none
  ks : (defScope st).names.lookup ("super" : Str) = some .globalImplicit
  kc : (defScope st).names.lookup ("__class__" : Str) = some .free
  top : (P.main.scope.names.lookup ("super" : Str)).isSome = false
  nm : (m == ("__class__" : Str)) = false
  opq : PySem.W.nsIn K cStatics "thirdparty.any" = some none
  find : PySem.W.ks_superIn K C C m = some (some (.ref f2))
  ty : PySem.W.typeIn K (.ref f2) = some (.type "function")
  isf : PySem.W.fnIn K f2 = true
end
section
variable {X : Cx} {T : Tb} {CX : CXT} {E : XK} {k : Nat} {e : Expr} {es : List Expr} {p pos : Pos} {tA : TA} {wA : WA} {x : Str}
end
end Dt
set_option Elab.async false
set_option linter.all false
set_option maxRecDepth 100000
set_option maxHeartbeats 1000000
set_option autoImplicit false
namespace Dt
open PySem L2 Kx
def pre (fs : List (Int × Int)) (k : Nat) : Int := ((fs.take k).map un).sum
end Dt
set_option Elab.async false
set_option linter.all false
set_option maxRecDepth 100000
set_option maxHeartbeats 1000000
set_option autoImplicit false
namespace Zt
open PySem PySem.Builtin PyProof.Rows
section
variable {prog : Program} {w : World} {A : Around} {E : Value → Shared → Prop} {s : Shared}
end
structure Apart (z TI TO i1 i2 : Addr) (f1 f2 : List Addr) : Prop where
  dist : TI ≠ z ∧ TO ≠ z ∧ i1 ≠ z ∧ i2 ≠ z ∧ TI ≠ TO ∧ TI ≠ i1 ∧ TI ≠ i2 ∧ TO ≠ i1 ∧ TO ≠ i2 ∧ i1 ≠ i2
  one : z ∉ f1 ∧ TO ∉ f1 ∧ i2 ∉ f1
  two : z ∉ f2 ∧ TO ∉ f2 ∧ i1 ∉ f2
section
variable {prog : Program} {w : World} {A : Around} {E : Value → Shared → Prop} {s : Shared} {z TI TO i1 i2 : Addr} {f1 f2 : List Addr} {n1 n2 k : Nat} {P1 P2 : Nat → Value → Prop} {S1 S2 : Nat → Heap → Prop} {a b : Value}
end
end Zt
namespace L2
open PySem PySem.Spec PyProof.Rows
end L2
namespace Dt
open PySem L2 Kx
section
variable {T : Tb} {E : XK} {F H : Hp} {tA : TA} {wA : WA}
variable {X : Cx} {a b : Expr} {pos : Pos}
end
end Dt
set_option Elab.async false
set_option linter.all false
set_option maxRecDepth 100000
set_option maxHeartbeats 1000000
set_option autoImplicit false
namespace Zt
open PySem PySem.Builtin PyProof.Rows
theorem mul_one (l : Addr) (items : Array Value) (n : Nat) (u : Tok) (od : Option Addr) (sl : Array (Option Value)) :
    Meets (Builtin.«tuple.__mul__» ⟨[.ref l, .int 1 u], []⟩) (fun _ R s => s.heap.get? l = some ⟨.type "tuple", od, .seq items n, sl⟩ ∧ R (.ok (.ret (Value.ref l))) s) :=
  .of_wp fun prog w A R s h => by
    obtain ⟨hp, g, d, tk, os⟩ := s
    obtain ⟨hl, h⟩ := h
    have e1 : (items.isEmpty || (1 : Int) == 1) = true := by simp
    wp_walk
    exact ⟨_, rfl, h⟩
end Zt
namespace Dt
open PySem PySem.Spec L2 Kx PyProof.Rows
section
variable {X : Cx} {T : Tb} {F H : Hp}
end
end Dt
set_option Elab.async false
set_option linter.all false
set_option maxRecDepth 100000
set_option maxHeartbeats 1000000
set_option autoImplicit false
namespace Dt
open PySem L2 Kx
theorem mkP_key (u : Int) : 0 < (mkP u).2 ∧ (mkP u).1 * 10 ^ 12 = u * (mkP u).2 ∧ (mkP u).2 ≤ 10 ^ 12 := by
  have lp := low_pos (t := u) (b := 10 ^ 12) (by decide)
  exact ⟨by show 0 < lowB u (10 ^ 12); omega, low_eq (by decide), lp.2.1⟩
theorem mkP_bd {u : Int} (h : u.natAbs < 2 ^ 95) : Bd 100 (mkP u).1 ∧ Bd 100 (mkP u).2 := by
  obtain ⟨g, g0, e1, e2⟩ := low_mul (t := u) (b := 10 ^ 12) (by decide)
  have k := mkP_key u
  have ht : (mkP u).1.natAbs ≤ u.natAbs := by
    show (lowT u (10 ^ 12)).natAbs ≤ u.natAbs
    conv => rhs; rw [e1, Int.natAbs_mul]
    exact Nat.le_mul_of_pos_left _ (by omega)
  exact ⟨Bd.mono (m := 95) (by unfold Bd; omega) (by decide), Bd.mono (m := 95) (by unfold Bd; omega) (by decide)⟩
theorem sc_ok {u v n : Int} (h0 : u.natAbs < 2 ^ 95) (h1 : v.natAbs < 2 ^ 95) (h : u < v) (n0 : 2 ≤ n) (n1 : n ≤ 40) : ScB (mkP u).1 (mkP u).2 (mkP v).1 (mkP v).2 n := by
  have a := mkP_bd h0
  have b := mkP_bd h1
  have ka := mkP_key u
  have kb := mkP_key v
  refine ⟨a.1, a.2, b.1, b.2, ka.1, kb.1, ?_, n0, n1⟩
  refine Int.lt_of_mul_lt_mul_right (a := 10 ^ 12) ?_ (by decide)
  rw [Int.zero_mul]
  have e1 : (mkP v).1 * (mkP u).2 * 10 ^ 12 = v * ((mkP u).2 * (mkP v).2) := by rw [Int.mul_right_comm, kb.2.1, Int.mul_assoc, Int.mul_comm (mkP v).2]
  have e2 : (mkP u).1 * (mkP v).2 * 10 ^ 12 = u * ((mkP u).2 * (mkP v).2) := by rw [Int.mul_right_comm, ka.2.1, Int.mul_assoc]
  rw [Int.sub_mul, e1, e2, ← Int.sub_mul]
  exact Int.mul_pos (by omega) (Int.mul_pos ka.1 kb.1)
section
variable {X : Cx} {T : Tb}
end
end Dt
set_option Elab.async false
set_option linter.all false
set_option maxRecDepth 100000
set_option autoImplicit false
namespace Dt
open PySem L2 Kx
mutual
inductive Nol : D → Prop
  | non : Nol .non
  | bl (b : Bool) : Nol (.bl b)
  | int (i : Int) : Nol (.int i)
  | str (x : Str) : Nol (.str x)
  | tup {ds : List D} : NolA ds → Nol (.tup ds)
  | obj {c : Str} {ns : List Str} {ds : List D} : NolA ds → Nol (.obj c ns ds)
inductive NolA : List D → Prop
  | nil : NolA []
  | cons {d : D} {ds : List D} : Nol d → NolA ds → NolA (d :: ds)
end
theorem NolA.of : ∀ {ds : List D}, (∀ d ∈ ds, Nol d) → NolA ds
  | [], _ => .nil
  | d :: ds, h => .cons (h d (List.mem_cons_self ..)) (NolA.of fun e he => h e (List.mem_cons_of_mem _ he))
theorem Nol.tup_inv {ds : List D} (h : Nol (.tup ds)) : NolA ds := by cases h with | tup h => exact h
theorem Nol.obj_inv {c : Str} {ns : List Str} {ds : List D} (h : Nol (.obj c ns ds)) : NolA ds := by cases h with | obj h => exact h
theorem NolA.inv {d : D} {ds : List D} (h : NolA (d :: ds)) : Nol d ∧ NolA ds := by cases h with | cons h r => exact ⟨h, r⟩
def nlF (F : Hp) : Hp := fun b => match F b with
  | some (.lst _) => none
  | o => o
section
variable {T : Tb} {F F1 F2 F' H H1 H2 H' H0 F0 Fs Hs : Hp} {σ : St} {Γ Γ1 Γ2 Γ' Γn Γs : Gm} {E : XK} {t ta tb tc te : TE} {w wa wb wc we : WE} {ra : Addr} {K : PySem.W.Frag}
theorem nl_to {b : Addr} {o : HO} (h : F b = some o) (n : ∀ vs, o ≠ .lst vs) : nlF F b = some o := by
  unfold nlF
  split
  · rename_i vs e
    rw [h] at e
    cases e
    exact absurd rfl (n vs)
  · exact h
theorem nl_tup {a : Addr} {vs : List V} (h : SqT K F a vs) : SqT K (nlF F) a vs := by
  rcases h with (h | ⟨o, h⟩) | h
  · exact .inl (.inl (nl_to h fun _ z => by cases z))
  · exact .inl (.inr ⟨o, nl_to h fun _ z => by cases z⟩)
  · exact .inr h
mutual
theorem Rep.nol : ∀ {v : V} {d : D}, Rep K F v d → Nol d → Rep K (nlF F) v d
  | _, _, .non, _ => .non
  | _, _, .bl b, _ => .bl b
  | _, _, .int i, _ => .int i
  | _, _, .str x, _ => .str x
  | _, _, .ty n, _ => .ty n
  | _, _, .scr h r, n => by cases n
  | _, _, .lst h r, n => by cases n
  | _, _, .tup h r, n => .tup (nl_tup h) (RepA.nol r n.tup_inv)
  | _, _, .obj c h r, n => .obj c (nl_to h fun _ z => by cases z) (RepA.nol r n.obj_inv)
theorem RepA.nol : ∀ {vs : List V} {ds : List D}, RepA K F vs ds → NolA ds → RepA K (nlF F) vs ds
  | _, _, .nil, _ => .nil
  | _, _, .cons h r, n => .cons (Rep.nol h n.inv.1) (RepA.nol r n.inv.2)
end
def shrE : Option En → Option En
  | some (.own ds) => some (.shr (.lst ds))
  | e => e
def allShr (Γ : Gm) : Gm := Γ.map shrE
inductive NolG : Gm → Gm → Prop
  | nil : NolG [] []
  | skip {e : Option En} {Γ Γn : Gm} : NolG Γ Γn → NolG (e :: Γ) (none :: Γn)
  | keep {d : D} {Γ Γn : Gm} : Nol d → NolG Γ Γn → NolG (some (.shr d) :: Γ) (some (.shr d) :: Γn)
theorem NolG.len : ∀ {Γ Γn : Gm}, NolG Γ Γn → Γn.length = Γ.length
  | _, _, .nil => rfl
  | _, _, .skip h => congrArg (· + 1) h.len
  | _, _, .keep _ h => congrArg (· + 1) h.len
theorem NolG.get : ∀ {Γ Γn : Gm}, NolG Γ Γn → ∀ (i : Nat) (e : En), Γn[i]? = some (some e) → ∃ d, e = .shr d ∧ Nol d ∧ Γ[i]? = some (some (.shr d))
  | _, _, .nil, i, e, h => by simp at h
  | _, _, .skip g, 0, e, h => by simp at h
  | _, _, .skip g, i + 1, e, h => by
    obtain ⟨d, h1, h2, h3⟩ := g.get i e (by simpa using h)
    exact ⟨d, h1, h2, by simpa using h3⟩
  | _, _, .keep n g, 0, e, h => by simp at h; exact ⟨_, h.symm, n, by simp⟩
  | _, _, .keep n g, i + 1, e, h => by
    obtain ⟨d, h1, h2, h3⟩ := g.get i e (by simpa using h)
    exact ⟨d, h1, h2, by simpa using h3⟩
def NoOw (Γ : Gm) : Prop := ∀ (i : Nat) (ds : List D), Γ[i]? ≠ some (some (.own ds))
theorem NoOw.owns {b : Addr} (h : NoOw Γ) : ¬ Owns σ Γ b := fun ⟨i, ds, e, _⟩ => h i ds e
theorem noOw_all : NoOw (allShr Γ) := fun i ds h => by
  unfold allShr at h
  rw [List.getElem?_map] at h
  cases e : Γ[i]? with
  | none => rw [e] at h; cases h
  | some u =>
    rw [e] at h
    cases u with
    | none => cases h
    | some u => cases u <;> cases h
theorem all_get {i : Nat} {e : En} (h : (allShr Γ)[i]? = some (some e)) : ∃ e', Γ[i]? = some (some e') ∧ e = .shr e'.dat := by
  unfold allShr at h
  rw [List.getElem?_map] at h
  cases q : Γ[i]? with
  | none => rw [q] at h; cases h
  | some u =>
    rw [q] at h
    cases u with
    | none => cases h
    | some u =>
      refine ⟨u, rfl, ?_⟩
      cases u <;> (cases h; rfl)
theorem NoOw.set {x : Nat} {d : D} (h : NoOw Γ) : NoOw (Γ.set x (some (.shr d))) := fun i ds e => by
  by_cases hi : i = x
  · subst hi
    by_cases hl : i < Γ.length
    · rw [List.getElem?_set_self hl] at e; cases e
    · rw [List.getElem?_eq_none (by simpa using hl)] at e; cases e
  · rw [List.getElem?_set_ne (Ne.symm hi)] at e; exact h i ds e
theorem NoOw.drop {x : Nat} (h : NoOw Γ) : NoOw (Γ.set x none) := fun i ds e => by
  by_cases hi : i = x
  · subst hi
    by_cases hl : i < Γ.length
    · rw [List.getElem?_set_self hl] at e; cases e
    · rw [List.getElem?_eq_none (by simpa using hl)] at e; cases e
  · rw [List.getElem?_set_ne (Ne.symm hi)] at e; exact h i ds e
open Classical in
theorem Rs.shr (s : Rs T false H0 F0 ra F σ H Γ) : ∃ F', Same F F' ∧ Rs T false H0 F0 ra F' σ H (allShr Γ) := by
  have p := s.rp
  have ff : Same F (fun b => if Owns σ Γ b then H b else F b) := fun b o h => by
    have no : ¬ Owns σ Γ b := fun z => by
      obtain ⟨_, _, z⟩ := p.owns z
      rw [h] at z
      cases z
    show (if Owns σ Γ b then H b else F b) = some o
    rw [if_neg no]
    exact h
  have get : ∀ b o, (if Owns σ Γ b then H b else F b) = some o → (Owns σ Γ b ∧ H b = some o) ∨ F b = some o := fun b o h => by
    by_cases z : Owns σ Γ b
    · rw [if_pos z] at h; exact .inl ⟨z, h⟩
    · rw [if_neg z] at h; exact .inr h
  refine ⟨fun b => if Owns σ Γ b then H b else F b, ff, ⟨⟨⟨fun b o h => ?_, fun b o h => ?_, p.tabs, p.labs⟩, by unfold allShr; rw [List.length_map]; exact p.len, fun i e h => ?_, fun i j ds ds' v h => absurd h (noOw_all i ds)⟩, fun b o h => ff b o (s.ff b o h), s.en, fun b h => absurd h noOw_all.owns, s.gro, fun b o h => ?_, fun z => by cases z⟩⟩
  · rcases get b o h with ⟨_, z⟩ | z
    · exact z
    · exact p.sub b o z
  · rcases get b o h with ⟨z, y⟩ | z
    · obtain ⟨vs, e, _⟩ := p.owns z
      rw [y] at e
      cases e
      exact lst_nt
    · exact p.nt b o z
  · obtain ⟨e', h1, rfl⟩ := all_get h
    obtain ⟨v, h2, h3⟩ := p.at_ i e' h1
    refine ⟨v, h2, ?_⟩
    cases e' with
    | shr d => exact Rep.mono ff h3
    | own ds =>
      obtain ⟨a, vs, rfl, ha, fa, r⟩ := h3
      refine Rep.lst (vs := vs) ?_ (r.mono ff)
      show (if Owns σ Γ a then H a else F a) = some (.lst vs)
      rw [if_pos ⟨i, ds, h1, h2⟩]
      exact ha
  · rcases get b o h with ⟨z, _⟩ | z
    · rcases s.fr b z with y | y
      · cases y.1
      · exact .inr (.inl y)
    · exact s.nf b o z
theorem Rs.drop {x : Nat} {v : V} (s : Rs T false H0 F0 ra F σ H Γ) : Rs T false H0 F0 ra F (σ.set x (some v)) H (Γ.set x Option.none) := by
  have p := s.rp
  have get : ∀ (i : Nat) (e : En), (Γ.set x Option.none)[i]? = some (some e) → i ≠ x ∧ Γ[i]? = some (some e) := fun i e h => by
    by_cases hi : i = x
    · subst hi
      by_cases hl : i < Γ.length
      · rw [List.getElem?_set_self hl] at h; cases h
      · rw [List.getElem?_eq_none (by simpa using hl)] at h; cases h
    · rw [List.getElem?_set_ne (Ne.symm hi)] at h; exact ⟨hi, h⟩
  have sg : ∀ {i : Nat}, i ≠ x → (σ.set x (some v))[i]? = σ[i]? := fun {i} h => List.getElem?_set_ne (Ne.symm h)
  refine ⟨⟨p.toOk, by simpa using p.len, fun i e h => ?_, fun i j ds ds' u h1 h2 h3 h4 => ?_⟩, s.ff, s.en, fun b ⟨i, ds, h1, h2⟩ => ?_, s.gro, s.nf, fun z => by cases z⟩
  · obtain ⟨h1, h2⟩ := get i e h
    rw [sg h1]
    exact p.at_ i e h2
  · obtain ⟨n1, h1⟩ := get i _ h1
    obtain ⟨n2, h2⟩ := get j _ h2
    rw [sg n1] at h3
    rw [sg n2] at h4
    exact p.apart i j ds ds' u h1 h2 h3 h4
  · obtain ⟨n1, h1⟩ := get i _ h1
    rw [sg n1] at h2
    exact s.fr b ⟨i, ds, h1, h2⟩
structure FrS (T : Tb) (H0 F0 : Hp) (ra : Addr) (x : Nat) (Fs Hs : Hp) (Γs : Gm) (F : Hp) (σ : St) (H : Hp) (Γ : Gm) : Prop where
  base : Rs T false H0 F0 ra Fs σ Hs Γs
  no : NoOw Γs
  cur : Rs T false H0 F0 ra F σ H Γ
  noc : NoOw Γ
  hh : ∀ b o, Hs b = some o → NoT o → H b = some o
  gro : ∀ b o, Hs b = some o → ∃ o', H b = some o'
  xs : ∃ a vs, σ[x]? = some (some (.ref a)) ∧ Hs a = none ∧ F a = some (.lst vs) ∧ 0 < vs.length ∧ vs.length ≤ 1000 ∧ ∀ u ∈ vs, ∃ b ws, u = .ref b ∧ b ≠ a ∧ Hs b = none ∧ F b = some (.lst ws) ∧ ws.length ≤ 1000
theorem FrS.po {x : Nat} (S : FrS T H0 F0 ra x Fs Hs Γs F σ H Γ) (q : Po T F σ H Γ F' H' Γ') : FrS T H0 F0 ra x Fs Hs Γs F' σ H' Γ' where
  base := S.base
  no := S.no
  cur := S.cur.po q
  noc := fun i ds h => let ⟨ds', h'⟩ := q.ow i ds h; S.noc i ds' h'
  hh := fun b o h n => q.fr b o (S.hh b o h n) n S.noc.owns
  gro := fun b o h => let ⟨o', h'⟩ := S.gro b o h; q.gro b o' h'
  xs := by
    obtain ⟨a, vs, h1, h2, h3, h4, h5, h6⟩ := S.xs
    refine ⟨a, vs, h1, h2, q.ff _ _ h3, h4, h5, fun u hu => ?_⟩
    obtain ⟨b, ws, k1, k2, k3, k4, k5⟩ := h6 u hu
    exact ⟨b, ws, k1, k2, k3, q.ff _ _ k4, k5⟩
structure Mst (T : Tb) (H0 F0 : Hp) (ra : Addr) (x m : Nat) (Fs Hs : Hp) (Γs : Gm) (σ : St) (H : Hp) : Prop where
  base : Rs T false H0 F0 ra Fs σ Hs Γs
  no : NoOw Γs
  tabs : ∀ P ∈ T.ts, Tab H P
  labs : ∀ p ∈ T.ls, TabL H p.1 p.2.1 p.2.2
  hh : ∀ b o, Hs b = some o → NoT o → H b = some o
  gro : ∀ b o, Hs b = some o → ∃ o', H b = some o'
  xs : ∃ a vs, σ[x]? = some (some (.ref a)) ∧ Hs a = none ∧ H a = some (.lst vs) ∧ vs.length ≤ m
abbrev WS2 := Gm → WEnds → Gm → Prop
abbrev WS3 := Gm → WEnds → Prop
def FD (T : Tb) (E : XK) (x : Nat) (t : TS) (w : WS2) : Prop := ∀ (H0 F0 : Hp) (ra : Addr) (Fs Hs : Hp) (Γs : Gm) (F : Hp) (σ : St) (H : Hp) (Γ : Gm) (D : Ends) (Ψ : WEnds), FrS T H0 F0 ra x Fs Hs Γs F σ H Γ → w Γs Ψ Γ → EO T false H0 F0 ra E D Ψ → t D σ H
def MuD (T : Tb) (E : XK) (x m : Nat) (t : TS) (w : WS3) : Prop := ∀ (H0 F0 : Hp) (ra : Addr) (Fs Hs : Hp) (Γs : Gm) (σ : St) (H : Hp) (D : Ends) (Ψ : WEnds), Mst T H0 F0 ra x m Fs Hs Γs σ H → w Γs Ψ → EO T false H0 F0 ra E D Ψ → t D σ H
variable {x m : Nat} {s1 s2 : TS} {u1 : WS} {w2 : WS2} {w3 : WS3} {t1 : TT} {w1 : WT}
variable {Ψ : WEnds} {u : WS}
end
structure QFs (X : Cx) (T : Tb) (E : XK) (i : Nat) (st : List Stmt) (t : TS) (w : WS2) : Prop where
  pe : PSs X st t
  ed : FD T E i t w
structure QMs (X : Cx) (T : Tb) (E : XK) (i m : Nat) (st : List Stmt) (t : TS) (w : WS3) : Prop where
  pe : PSs X st t
  ed : MuD T E i m t w
section
variable {X : Cx} {T : Tb} {E : XK} {e c o k v : Expr} {sts as : List Stmt} {t tk tv : TE} {w wk : WE} {pos spos apos p2 : Pos} {t1 : TT} {w1 : WT} {s1 s2 : TS} {u1 : WS} {w2 : WS2} {w3 : WS3} {x : Str} {i m : Nat} {j : Int} {y : V}
end
end Dt
set_option Elab.async false
set_option linter.all false
set_option maxRecDepth 100000
set_option maxHeartbeats 1000000
set_option autoImplicit false
namespace Dt
open PySem L2 Kx
def lvZ (A Z n x : Int) : Int := (2 * (x - A) * n + (Z - A)) / (2 * (Z - A))
theorem near_lv {u v n x : Int} {p : Int × Int} (h : u < v) (hp : Un p.1 p.2 x) : nearZ (lvX (mkP u).1 (mkP u).2 (mkP v).2 n p.1 p.2) (lvY (mkP u).1 (mkP u).2 (mkP v).1 (mkP v).2 p.2) = lvZ u v n x := by
  have ka := mkP_key u
  have kb := mkP_key v
  generalize mkP u = a at *
  generalize mkP v = b at *
  have hx := hp.eq
  have h0 := hp.b0
  have hk : 0 < p.2 * a.2 * b.2 * a.2 := Int.mul_pos (Int.mul_pos (Int.mul_pos h0 ka.1) kb.1) ka.1
  have ex : lvX a.1 a.2 b.2 n p.1 p.2 * 10 ^ 12 = ((x - u) * n) * (p.2 * a.2 * b.2 * a.2) := by
    unfold lvX
    have e1 : (p.1 * a.2 - a.1 * p.2) * 10 ^ 12 = (x - u) * (p.2 * a.2) := by
      rw [Int.sub_mul, Int.sub_mul, Int.mul_right_comm, ← hx, Int.mul_right_comm a.1, ka.2.1]
      simp only [Int.mul_comm, Int.mul_left_comm, Int.mul_assoc]
    have e2 : (p.1 * a.2 - a.1 * p.2) * n * (b.2 * a.2) * 10 ^ 12 = (p.1 * a.2 - a.1 * p.2) * 10 ^ 12 * n * (b.2 * a.2) := by
      generalize p.1 * a.2 - a.1 * p.2 = y
      simp only [Int.mul_comm, Int.mul_left_comm, Int.mul_assoc]
    rw [e2, e1]
    generalize x - u = y
    simp only [Int.mul_comm, Int.mul_left_comm, Int.mul_assoc]
  have ey : lvY a.1 a.2 b.1 b.2 p.2 * 10 ^ 12 = (v - u) * (p.2 * a.2 * b.2 * a.2) := by
    unfold lvY
    have e1 : (b.1 * a.2 - a.1 * b.2) * 10 ^ 12 = (v - u) * (b.2 * a.2) := by
      rw [Int.sub_mul, Int.sub_mul, Int.mul_right_comm, kb.2.1, Int.mul_right_comm a.1, ka.2.1]
      simp only [Int.mul_comm, Int.mul_left_comm, Int.mul_assoc]
    rw [Int.mul_one, Int.mul_assoc, e1]
    generalize v - u = y
    simp only [Int.mul_comm, Int.mul_left_comm, Int.mul_assoc]
  have yp : 0 < lvY a.1 a.2 b.1 b.2 p.2 := by
    refine Int.lt_of_mul_lt_mul_right (a := 10 ^ 12) ?_ (by decide)
    rw [Int.zero_mul, ey]
    exact Int.mul_pos (by omega) hk
  rw [← near_scale (g := 10 ^ 12) yp (by decide), ex, ey, near_scale (by omega) hk]
  unfold nearZ lvZ
  rw [Int.mul_assoc]
end Dt
set_option Elab.async false
set_option linter.all false
set_option maxRecDepth 100000
set_option autoImplicit false
namespace Dt
open PySem L2 Kx
section
variable {X : Cx} {T : Tb} {K : PySem.W.Frag}
end
end Dt
set_option Elab.async false
set_option linter.all false
set_option maxRecDepth 100000
set_option maxHeartbeats 1000000
set_option autoImplicit false
namespace Dt
open PySem L2 Kx
def u6 (fs : List (Int × Int)) : List Int := fs.map fun p => p.1 * 10 ^ 6 / p.2
end Dt
set_option Elab.async false
set_option linter.all false
set_option maxRecDepth 100000
set_option autoImplicit false
namespace Dt
open PySem L2 Kx
section
variable {T : Tb} {F F1 F2 F' H H1 H2 H' H0 F0 Fs Hs : Hp} {σ : St} {Γ Γ1 Γ2 Γ' Γn Γs : Gm} {E : XK} {t ta tb tc te : TE} {w wa wb wc we : WE} {ra : Addr} {K : PySem.W.Frag}
inductive HndG : Gm → Gm → Gm → Prop
  | nil : HndG [] [] []
  | skip {e : Option En} {Γ Γn Γs : Gm} : HndG Γ Γn Γs → HndG (e :: Γ) (none :: Γn) (e :: Γs)
  | keep {d : D} {Γ Γn Γs : Gm} : Nol d → HndG Γ Γn Γs → HndG (some (.shr d) :: Γ) (some (.shr d) :: Γn) (some (.shr d) :: Γs)
  | hand {ds : List D} {Γ Γn Γs : Gm} : NolA ds → HndG Γ Γn Γs → HndG (some (.own ds) :: Γ) (some (.shr (.lst ds)) :: Γn) (none :: Γs)
theorem HndG.len : ∀ {Γ Γn Γs : Gm}, HndG Γ Γn Γs → Γn.length = Γ.length ∧ Γs.length = Γ.length
  | _, _, _, .nil => ⟨rfl, rfl⟩
  | _, _, _, .skip h => ⟨congrArg (· + 1) h.len.1, congrArg (· + 1) h.len.2⟩
  | _, _, _, .keep _ h => ⟨congrArg (· + 1) h.len.1, congrArg (· + 1) h.len.2⟩
  | _, _, _, .hand _ h => ⟨congrArg (· + 1) h.len.1, congrArg (· + 1) h.len.2⟩
theorem HndG.get : ∀ {Γ Γn Γs : Gm}, HndG Γ Γn Γs → ∀ (i : Nat) (e : En), Γn[i]? = some (some e) → (∃ d, e = .shr d ∧ Nol d ∧ Γ[i]? = some (some (.shr d))) ∨ ∃ ds, e = .shr (.lst ds) ∧ NolA ds ∧ Γ[i]? = some (some (.own ds)) ∧ Γs[i]? = some none
  | _, _, _, .nil, i, e, h => by simp at h
  | _, _, _, .skip g, 0, e, h => by simp at h
  | _, _, _, .skip g, i + 1, e, h => by simpa using g.get i e (by simpa using h)
  | _, _, _, .keep n g, 0, e, h => by simp at h; exact .inl ⟨_, h.symm, n, by simp⟩
  | _, _, _, .keep n g, i + 1, e, h => by simpa using g.get i e (by simpa using h)
  | _, _, _, .hand n g, 0, e, h => by simp at h; exact .inr ⟨_, h.symm, n, by simp, by simp⟩
  | _, _, _, .hand n g, i + 1, e, h => by simpa using g.get i e (by simpa using h)
theorem Rs.part (s : Rs T false H0 F0 ra F σ H Γ) (hl : Γs.length = Γ.length) (h : ∀ (i : Nat) (e : En), Γs[i]? = some (some e) → Γ[i]? = some (some e)) : Rs T false H0 F0 ra F σ H Γs :=
  ⟨⟨s.rp.toOk, by rw [hl]; exact s.rp.len, fun i e z => s.rp.at_ i e (h i e z), fun i j ds ds' v h1 h2 h3 h4 => s.rp.apart i j ds ds' v (h i _ h1) (h j _ h2) h3 h4⟩, s.ff, s.en, fun b ⟨i, ds, h1, h2⟩ => s.fr b ⟨i, ds, h i _ h1, h2⟩, s.gro, s.nf, fun z => by cases z⟩
structure FrT (T : Tb) (H0 F0 : Hp) (ra : Addr) (x : Nat) (W : Addr → Prop) (Fs Hs : Hp) (Γs : Gm) (F : Hp) (σ : St) (H : Hp) (Γ : Gm) : Prop where
  base : Rs T false H0 F0 ra Fs σ Hs Γs
  no : NoOw Γs
  wf : ∀ b, W b → Fs b = none ∧ H0 b = none
  cur : Rs T false H0 F0 ra F σ H Γ
  noc : NoOw Γ
  hh : ∀ b o, Hs b = some o → NoT o → H b = some o
  gro : ∀ b o, Hs b = some o → ∃ o', H b = some o'
  xs : ∃ a u b vs, σ[x]? = some (some (.ref a)) ∧ SqT T.K F a [u, .ref b] ∧ (Hs b = none ∨ W b) ∧ F b = some (.lst vs) ∧ vs.length ≤ 1000
theorem FrT.po {x : Nat} {W : Addr → Prop} (S : FrT T H0 F0 ra x W Fs Hs Γs F σ H Γ) (q : Po T F σ H Γ F' H' Γ') : FrT T H0 F0 ra x W Fs Hs Γs F' σ H' Γ' where
  base := S.base
  no := S.no
  wf := S.wf
  cur := S.cur.po q
  noc := fun i ds h => let ⟨ds', h'⟩ := q.ow i ds h; S.noc i ds' h'
  hh := fun b o h n => q.fr b o (S.hh b o h n) n S.noc.owns
  gro := fun b o h => let ⟨o', h'⟩ := S.gro b o h; q.gro b o' h'
  xs := by
    obtain ⟨a, u, b, vs, h1, h2, h3, h4, h5⟩ := S.xs
    exact ⟨a, u, b, vs, h1, sqt_same h2 q.ff, h3, q.ff _ _ h4, h5⟩
theorem FrT.set {x y : Nat} {W : Addr → Prop} {v : V} {d : D} (hxy : y ≠ x) (S : FrT T H0 F0 ra x W Fs Hs Γs F σ H Γ) (r : Rep T.K F v d) : FrT T H0 F0 ra x W Fs Hs (Γs.set y none) F (σ.set y (some v)) H (Γ.set y (some (.shr d))) where
  base := S.base.drop
  no := S.no.drop
  wf := S.wf
  cur := S.cur.set (e := .shr d) r (.inr rfl) (fun _ z => by cases z)
  noc := S.noc.set
  hh := S.hh
  gro := S.gro
  xs := by
    obtain ⟨a, u, b, vs, h1, h⟩ := S.xs
    exact ⟨a, u, b, vs, by rw [List.getElem?_set_ne hxy]; exact h1, h⟩
def FDT (T : Tb) (E : XK) (x : Nat) (t : TS) (w : WS2) : Prop := ∀ (H0 F0 : Hp) (ra : Addr) (W : Addr → Prop) (Fs Hs : Hp) (Γs : Gm) (F : Hp) (σ : St) (H : Hp) (Γ : Gm) (D : Ends) (Ψ : WEnds), FrT T H0 F0 ra x W Fs Hs Γs F σ H Γ → w Γs Ψ Γ → EO T false H0 F0 ra E D Ψ → t D σ H
variable {x y m : Nat} {s1 s2 : TS} {u1 u2 : WS} {w2 : WS2} {w3 : WS3} {t1 : TT} {w1 : WT}
variable {Ψ : WEnds} {u : WS} {Γh : Gm} {wI : WI}
end
structure QFt (X : Cx) (T : Tb) (E : XK) (i : Nat) (st : List Stmt) (t : TS) (w : WS2) : Prop where
  pe : PSs X st t
  ed : FDT T E i t w
section
variable {X : Cx} {T : Tb} {E : XK} {e c o k v iter tg : Expr} {sts as : List Stmt} {t tk tv : TE} {w wk : WE} {pos spos apos p2 p3 : Pos} {t1 : TT} {w1 : WT} {s1 s2 : TS} {u1 : WS} {w2 : WS2} {x : Str} {i y : Nat} {z : V} {wi : TI} {wI : WI}
end
end Dt
set_option Elab.async false
set_option linter.all false
set_option maxRecDepth 100000
set_option maxHeartbeats 1000000
set_option autoImplicit false
namespace Zt
open PySem PySem.Builtin PyProof.Rows
section
variable {prog : Program} {w : World} {A : Around} {E : Value → Shared → Prop} {s : Shared} {z TI TO i1 i2 : Addr} {f1 f2 : List Addr} {n1 n2 k : Nat} {P1 P2 : Nat → Value → Prop} {S1 S2 : Nat → Heap → Prop} {a b : Value}
end
open AutoSeq1 (wpAny_loadPart')
end Zt
namespace L2
open PySem PySem.Spec PyProof.Rows
end L2
namespace Dt
open PySem L2 Kx
section
variable {T : Tb} {E : XK} {F H : Hp} {tA : TA} {wA : WA}
variable {X : Cx} {a b : Expr} {pos pos2 : Pos}
end
end Dt
set_option Elab.async false
set_option linter.all false
set_option maxRecDepth 100000
set_option maxHeartbeats 1000000
set_option autoImplicit false
namespace Mn
open PySem PyProof.Rows
section
variable {prog : Program} {w : World} {A : Around} {R : Result → Shared → Prop} {I : Addr} {fp wr : List Addr} {n : Nat} {P : Nat → Value → Prop} {St : Nat → Heap → Prop}
end
section
variable {prog : Program} {w : World} {A : Around} {E : Value → Shared → Prop} {s : Shared} {l : Addr}
end
end Mn
namespace L2
open PySem PySem.Spec PyProof.Rows
section
variable {X : Cx}
end
end L2
namespace Dt
open PySem L2 Kx
end Dt
set_option Elab.async false
set_option linter.all false
set_option maxRecDepth 100000
set_option autoImplicit false
namespace Kx
open PySem PySem.Spec L2 PyProof.Rows PySem.W
theorem law_callTs {Pr : Program} {w : World} {K : PySem.W.Frag} {mg mb : Str → Option Value} {CX : CXT} {k : Nat} {fa a : Addr} {Ps : List Addr} {fd : FuncData} {x : Str} {sp : Sp} {s₁ : Shared} {vs : List Value} {ns : List Int}
    (KX : K.In s₁.heap) (hns : s₁.heap.Ns mainGlobals mg) (hb : s₁.heap.Ns builtinsNs mb) (hbb : ∀ x : Str, x ≠ "__name__" → mb x = bootBuiltins x) (hlim : s₁.heap.NoLimit) (hg : s₁.gens = #[])
    (ha : s₁.heap.get? a = some { cls := .type "list", data := .seq vs.toArray }) (hi : IntsAre vs ns) (hl : ns.length ≤ sizeLine) (hr : Room k callerA) (hC : ∀ P ∈ Ps, ∃ c, CodeHd s₁.heap c P) (hP : ∀ P ∈ Ps, s₁.heap.get? P = some (tabObj #[])) (hKP : ∀ P ∈ Ps, K.lookup P = none)
    (hbm : BltB mg s₁.heap) (F : ∀ base : Heap, K.In base → base.Ns mainGlobals mg → BltB mg base → FnOk Pr w K mg base CX k fa fd [x] sp) (hbind : ∀ (s : Shared) (u : Value), BindsTo s fd ⟨[u], []⟩ [(x, u)])
    (hsp : ∀ H : Hp, (∀ P ∈ Ps, H P = some (.tbl #[])) → (∀ b u, H b = some u → b ∈ Ps ∨ (b = a ∧ K.lookup a = none ∧ ∃ o xs, u = .frz o (.lst xs))) → SqL K H a (ns.map V.int) → sp [.ref a] H (fun v _ => v = .bl true) fun _ _ _ => False)
    (hCX : ∀ H e s', CX [] H s₁ (fun _ _ _ => False) e s' → False) :
    codeAny (model Pr w) callerA (.call (.ref fa) ⟨[.ref a], []⟩) (fun r s' => r = .ok (.ret (.bool true)) ∧ OldK s₁.heap s'.heap ∧ s'.os = s₁.os ∧ AllBare s'.gens) s₁ := by
  have rv := vals_ints hi
  have lenV := hi.length
  have haP : a ∉ Ps := fun z => by
    rw [hP a z] at ha
    cases ha
  have core : ∀ H : Hp, (∀ P ∈ Ps, H P = some (.tbl #[])) → SqL K H a (ns.map V.int) → HOk Pr w H s₁.heap → (∀ b u, H b = some u → b ∈ Ps ∨ (b = a ∧ K.lookup a = none ∧ ∃ o xs, u = .frz o (.lst xs))) →
      codeAny (model Pr w) callerA (.call (.ref fa) ⟨[.ref a], []⟩) (fun r s' => r = .ok (.ret (.bool true)) ∧ OldK s₁.heap s'.heap ∧ s'.os = s₁.os ∧ AllBare s'.gens) s₁ := by
    intro H hHP hS hok hA
    have noA : ∀ {b : Addr} {o : Obj} {es : Array DictEntry} {ep : Nat}, s₁.heap.get? b = some o → o.data = .dict es ep → H b = none := fun {b o es ep} e d => by
      cases q : H b with
      | none => rfl
      | some u =>
        rcases hA b u q with z | ⟨z, _⟩
        · rw [hP b z] at e
          cases e
          cases d
        · rw [z, ha] at e
          cases e
          cases d
    have hbmB : BltB mg (hidT s₁.heap H) := by
      obtain ⟨bm, ob, b1, b2, b3, b4, b5, b6⟩ := hbm
      refine ⟨bm, ob, b1, b2, hidT_get b3 ?_, b4, b5, b6⟩
      cases q : H bm with
      | none => rfl
      | some u =>
        rcases hA bm u q with z | ⟨z, _⟩
        · rw [hP bm z] at b3
          cases b3
          cases b6
        · rw [z, ha] at b3
          cases b3
          cases b6
    have nsK : ∀ {b : Addr} {m : Str → Option Value}, s₁.heap.Ns b m → (hidT s₁.heap H).Ns b m := fun {b m} ⟨o, es, ep, e, d, r⟩ => ⟨o, es, ep, hidT_get e (noA e d), d, r⟩
    have hKb : K.In (hidT s₁.heap H) := fun b o e => hidT_get (KX b o e) (by
      cases q : H b with
      | none => rfl
      | some u =>
        rcases hA b u q with z | ⟨z, y, _⟩
        · rw [hKP b z] at e
          cases e
        · rw [z, y] at e
          cases e)
    have hM : Mod K mg (hidT s₁.heap H) := ⟨hKb, nsK hns, ⟨mb, nsK hb, hbb⟩, let ⟨mc, h1, h2⟩ := hlim; ⟨mc, nsK h1, h2⟩⟩
    have e0 : Env0 Pr w K mg (hidT s₁.heap H) callerA [] s₁ H := ⟨rfl, hM, fun b o e => of_hidT e, Nat.le_of_eq (hidT_size _ _), trivial, fun b hb => absurd (show b ∈ ([] : List Addr) from hb) (by simp), hok, .of_eq hg⟩
    refine codeAny_mono ((F _ hKb (nsK hns) hbmB).run callerA [] s₁ H ⟨[.ref a], []⟩ [.ref a] [.ref a] _ _ hr e0 (hbind s₁ (.ref a)) (.cons rfl .nil) (hsp H hHP hA hS)) fun r s' h => ?_
    cases r with
    | error e => exact (hCX H e s' h).elim
    | ok fl =>
      cases fl with
      | next => exact False.elim h
      | brk => exact False.elim h
      | cont => exact False.elim h
      | ret u =>
        obtain ⟨v, H', os, bare, un, hok', r', q⟩ := h
        have q' : v = .bl true := q
        subst q'
        obtain rfl : u = Value.bool true := r'
        have hT' : ∀ P ∈ Ps, ∃ more, s'.heap.get? P = some { cls := .none, data := .fields (#[] ++ more) } := fun P hm0 => by
          obtain ⟨more, hm⟩ := un.tbls P _ (hHP P hm0)
          exact ⟨more, hok' P _ hm⟩
        have kept : ∀ b o, b ∉ Ps → s₁.heap.get? b = some o → s'.heap.get? b = some o := fun b o hbP e => by
          cases q : H b with
          | none => exact un.keep b o e q (by intro z; exact absurd (show b ∈ ([] : List Addr) from z) (by simp)) (by simp)
          | some u =>
            rcases hA b u q with z | ⟨z, _, ob, xs, rfl⟩
            · exact absurd z hbP
            · have z2 := un.frzs b ob _ q
              obtain ⟨e1, _⟩ := hok b _ q
              obtain ⟨e2, _⟩ := hok' b _ z2
              rw [e] at e1
              cases e1
              exact e2
        refine ⟨rfl, ⟨fun b o e => ?_, fun b o e => ?_⟩, os, bare⟩
        · by_cases hbP : b ∈ Ps
          · obtain ⟨more, hT'⟩ := hT' b hbP
            obtain ⟨c, hC⟩ := hC b hbP
            have hPb := hP b hbP
            rw [hPb] at e
            cases e
            exact .inr (.inl ⟨(hC.tab hPb).isCodeTable, rfl, #[], more, rfl, hT'⟩)
          · exact .inl (kept b o hbP e)
        · by_cases hbP : b ∈ Ps
          · obtain ⟨more, hT'⟩ := hT' b hbP
            exact ⟨_, hT'⟩
          · exact ⟨o, kept b o hbP e⟩
  cases hk : K.lookup a with
  | some o =>
    have e := KX a o hk
    rw [ha] at e
    cases e
    refine core (fun b => if b ∈ Ps then some (.tbl #[]) else none) (fun P hm => if_pos hm) (.inr ⟨_, vs.toArray, _, hk, rfl, rfl, rfl, by rw [List.size_toArray, lenV]; exact hl, by simpa using rv⟩) (fun b u z => ?_) fun b u z => ?_
    · by_cases hb : b ∈ Ps
      · have z' := (if_pos hb).symm.trans z
        cases z'
        exact hP b hb
      · have z' := (if_neg hb).symm.trans z
        cases z'
    · by_cases hb : b ∈ Ps
      · exact .inl hb
      · have z' := (if_neg hb).symm.trans z
        cases z'
  | none =>
    refine core (fun b => if b ∈ Ps then some (.tbl #[]) else if b = a then some (.frz { cls := .type "list", data := .seq vs.toArray } (.lst (ns.map V.int))) else none) (fun P hm => if_pos hm)
      (.inl (.inr ⟨{ cls := .type "list", data := .seq vs.toArray }, by show (if a ∈ Ps then _ else _) = _; rw [if_neg haP, if_pos rfl]⟩)) (fun b u z => ?_) fun b u z => ?_
    · by_cases hb : b ∈ Ps
      · have z' := (if_pos hb).symm.trans z
        cases z'
        exact hP b hb
      · have z' := (if_neg hb).symm.trans z
        by_cases hb2 : b = a
        · have z'' := (if_pos hb2).symm.trans z'
          cases z''
          subst hb2
          exact ⟨ha, by rw [List.length_map]; exact hl, vs, _, rv, ha⟩
        · have z'' := (if_neg hb2).symm.trans z'
          cases z''
    · by_cases hb : b ∈ Ps
      · exact .inl hb
      · have z' := (if_neg hb).symm.trans z
        by_cases hb2 : b = a
        · have z'' := (if_pos hb2).symm.trans z'
          cases z''
          exact .inr ⟨hb2, hk, _, _, rfl⟩
        · have z'' := (if_neg hb2).symm.trans z'
          cases z''
theorem walk_ofTs {l : PySem.W.OpenLaw} {n k : Nat} {q : Program} {loose : List Str} {XP : (Str → Option Value) → Heap → Prop} {YP : World → Heap → Prop} {d : DefRec} {K : Params → PySem.W.Frag} {CX : World → CXT} {sp : Params → Sp} {x : Str} {Ps : Params → List Addr}
    (hn : l.most = some n) (hn2 : n ≤ sizeLine) (hdf : d.params.defaults = []) (hr : Room k callerA)
    (hY : ∀ (w : World) (h : Heap), YP w h → (K w.params).In h)
    (hgd : ∀ p, ∀ P ∈ Ps p, ∃ (gn : Str) (gd : DefRec) (c : Addr), (recsOf q).find? (fun e => e.name == gn) = some gd ∧ tabIn (K p) gn = some (c, P) ∧ (K p).lookup P = none)
    (F : ∀ (w : World) (mg : Str → Option Value) (fa : Addr) (h : Heap), (K w.params).In h → h.Ns mainGlobals mg → mg d.name = some (.ref fa) →
      ∃ fd : FuncData, (∀ (s : Shared) (u : Value), BindsTo s fd ⟨[u], []⟩ [(x, u)]) ∧
        ∀ base : Heap, (K w.params).In base → base.Ns mainGlobals mg → BltB mg base → FnOk l.prog w (K w.params) mg base (CX w) k fa fd [x] (sp w.params))
    (hsp : ∀ (w : World) (H : Hp) (a : Addr) (ns : List Int), ns.length ≤ n → (∀ P ∈ Ps w.params, H P = some (.tbl #[])) → (∀ b u, H b = some u → b ∈ Ps w.params ∨ (b = a ∧ (K w.params).lookup a = none ∧ ∃ o xs, u = .frz o (.lst xs))) → SqL (K w.params) H a (ns.map V.int) → sp w.params [.ref a] H (fun v _ => v = .bl true) fun _ _ _ => False)
    (hCX : ∀ (w : World) (H : Hp) (s : Shared) (e : Value) (s' : Shared), CX w [] H s (fun _ _ _ => False) e s' → False) :
    PySem.W.WalkO q loose XP YP l.row.toRowW d [] (fun f vs => PySem.call f vs) := by
  refine Att.attach_call hn hdf fun w s₀ s₁ mg mb fa o pm cd doc a vs ns G Y ho hd hcd hmg hobj hints hlen hg => ?_
  have KX := hY w _ Y
  obtain ⟨fd, hb, hF⟩ := F w mg fa _ KX G.T.g hmg
  refine law_callTs (Ps := Ps w.params) KX G.T.g G.T.b G.T.builtins G.T.nolimit hg hobj hints (Nat.le_trans hlen hn2) hr (fun P hm => ?_) (fun P hm => ?_) (fun P hm => ?_) G.T.bmain hF hb (fun H hO hA hS => hsp w H a ns hlen hO hA hS) fun H e s' => hCX w H s₁ e s'
  · obtain ⟨gn, gd, c, h1, h2, h3⟩ := hgd w.params P hm
    exact ⟨c, (tab_of G.T KX h1 h2).1⟩
  · obtain ⟨gn, gd, c, h1, h2, h3⟩ := hgd w.params P hm
    exact (tab_of G.T KX h1 h2).2
  · obtain ⟨gn, gd, c, h1, h2, h3⟩ := hgd w.params P hm
    exact h3
end Kx
set_option Elab.async false
set_option linter.all false
set_option maxRecDepth 100000
set_option maxHeartbeats 1000000
set_option autoImplicit false
namespace Dt
open PySem L2 Kx
def nxt (xs : List Str) (is : List Int) (i : Nat) : Int := is.getD i 0 + ((xs.getD i ⟨#[]⟩).length : Nat) + 1
def plStep (xs : List Str) (is : List Int) (p : List (Option Nat) × Int) (i : Nat) : List (Option Nat) × Int := if p.2 ≤ is.getD i 0 then (p.1.set i (some i), nxt xs is i) else p
def plFold (xs : List Str) (is : List Int) (ns : List Nat) : List (Option Nat) × Int := ns.foldl (plStep xs is) (List.replicate xs.length none, 0)
def nmD (xs : List Str) : Option Nat → D
  | some i => .str (xs.getD i ⟨#[]⟩)
  | none => .non
theorem plFold_succ (xs : List Str) (is : List Int) {ns : List Nat} {j i : Nat} (h : ns[j]? = some i) : plFold xs is (ns.take (j + 1)) = plStep xs is (plFold xs is (ns.take j)) i := by
  unfold plFold
  rw [List.take_add_one, h, List.foldl_append]
  rfl
def stAt (is : List Int) (i : Nat) : Int := is.getD i 0
inductive Gr (xs : List Str) (is : List Int) : Int → List (Option Nat) → List (Option Nat) → Prop
  | stop {f : Int} {M : List (Option Nat)} : (∀ i, i < xs.length → stAt is i < f) → Gr xs is f M M
  | step {f : Int} {M res : List (Option Nat)} {k : Nat} : k < xs.length → f ≤ stAt is k → (∀ i, i < xs.length → f ≤ stAt is i → nxt xs is k < nxt xs is i ∨ (nxt xs is k = nxt xs is i ∧ k ≤ i)) → Gr xs is (nxt xs is k) (M.set k (some k)) res → Gr xs is f M res
theorem skip {xs : List Str} {is : List Int} {ns : List Nat} {j : Nat} : ∀ m, (∀ p i, j ≤ p → p < j + m → ns[p]? = some i → stAt is i < (plFold xs is (ns.take j)).2) → plFold xs is (ns.take (j + m)) = plFold xs is (ns.take j)
  | 0, _ => rfl
  | m + 1, h => by
    have ih := skip m fun p i h1 h2 h3 => h p i h1 (by omega) h3
    rw [← Nat.add_assoc]
    cases e : ns[j + m]? with
    | none =>
      rw [List.getElem?_eq_none_iff] at e
      rw [List.take_of_length_le (by omega), ← ih, List.take_of_length_le (by omega)]
    | some i =>
      rw [plFold_succ xs is e, ih]
      have := h (j + m) i (by omega) (by omega) e
      unfold plStep
      rw [if_neg (by unfold stAt at this; omega)]
def Kd (c k : Str) : Prop := c = "Bars" ∧ k = "bars" ∨ c = "Lines" ∧ k = "lines" ∨ c = "Stacks" ∧ k = "stacks" ∨ c = "Shares" ∧ k = "shares"
def IsKd (k : Str) : Prop := k = "bars" ∨ k = "lines" ∨ k = "stacks" ∨ k = "shares"
theorem Kd.is {c k : Str} (h : Kd c k) : IsKd k := by
  rcases h with ⟨_, h⟩ | ⟨_, h⟩ | ⟨_, h⟩ | ⟨_, h⟩
  · exact .inl h
  · exact .inr (.inl h)
  · exact .inr (.inr (.inl h))
  · exact .inr (.inr (.inr h))
end Dt
set_option Elab.async false
set_option linter.all false
set_option maxRecDepth 100000
set_option autoImplicit false
namespace Dt
open PySem L2 Kx
section
variable {T : Tb} {F F1 F2 F' H H1 H2 H' H0 F0 Fs Hs : Hp} {σ : St} {Γ Γ1 Γ2 Γ' Γn Γs : Gm} {E : XK} {t ta tb tc te : TE} {w wa wb wc we : WE} {ra : Addr} {K : PySem.W.Frag}
def PlV (Hs F : Hp) (vs : List V) : Prop := (4 < vs.length ∧ vs.length ≤ 100) ∧ (∀ u ∈ vs.drop 3, ∃ b ws, u = .ref b ∧ Hs b = none ∧ F b = some (.lst ws) ∧ ws.length ≤ 1000) ∧ ∃ b ws c us, vs[4]? = some (.ref b) ∧ F b = some (.lst ws) ∧ ws[0]? = some (.ref c) ∧ Hs c = none ∧ F c = some (.lst us) ∧ us.length ≤ 1000
theorem PlV.mono {vs : List V} (h : PlV Hs F vs) (g : Same F F') : PlV Hs F' vs := by
  obtain ⟨h0, h1, b, ws, c, us, k1, k2, k3, k4, k5, k6⟩ := h
  refine ⟨h0, fun u hu => ?_, b, ws, c, us, k1, g _ _ k2, k3, k4, g _ _ k5, k6⟩
  obtain ⟨b, ws, e1, e2, e3, e4⟩ := h1 u hu
  exact ⟨b, ws, e1, e2, g _ _ e3, e4⟩
structure FrP (T : Tb) (H0 F0 : Hp) (ra : Addr) (x : Nat) (Fs Hs : Hp) (Γs : Gm) (F : Hp) (σ : St) (H : Hp) (Γ : Gm) : Prop where
  base : Rs T false H0 F0 ra Fs σ Hs Γs
  no : NoOw Γs
  cur : Rs T false H0 F0 ra F σ H Γ
  noc : NoOw Γ
  hh : ∀ b o, Hs b = some o → NoT o → H b = some o
  gro : ∀ b o, Hs b = some o → ∃ o', H b = some o'
  xs : ∃ a vs, σ[x]? = some (some (.ref a)) ∧ SqT T.K F a vs ∧ PlV Hs F vs
theorem FrP.po {x : Nat} (S : FrP T H0 F0 ra x Fs Hs Γs F σ H Γ) (q : Po T F σ H Γ F' H' Γ') : FrP T H0 F0 ra x Fs Hs Γs F' σ H' Γ' where
  base := S.base
  no := S.no
  cur := S.cur.po q
  noc := fun i ds h => let ⟨ds', h'⟩ := q.ow i ds h; S.noc i ds' h'
  hh := fun b o h n => q.fr b o (S.hh b o h n) n S.noc.owns
  gro := fun b o h => let ⟨o', h'⟩ := S.gro b o h; q.gro b o' h'
  xs := by
    obtain ⟨a, vs, h1, h2, h3⟩ := S.xs
    exact ⟨a, vs, h1, sqt_same h2 q.ff, h3.mono q.ff⟩
structure MsC (T : Tb) (H0 F0 : Hp) (ra : Addr) (Fs Hs : Hp) (Γs : Gm) (σ : St) (H : Hp) : Prop where
  base : Rs T false H0 F0 ra Fs σ Hs Γs
  no : NoOw Γs
  tabs : ∀ P ∈ T.ts, Tab H P
  labs : ∀ p ∈ T.ls, TabL H p.1 p.2.1 p.2.2
  hh : ∀ b o, Hs b = some o → NoT o → H b = some o
  gro : ∀ b o, Hs b = some o → ∃ o', H b = some o'
theorem MsC.put {a : Addr} {vs vs' : List V} (S : MsC T H0 F0 ra Fs Hs Γs σ H) (na : Hs a = none) (ha : H a = some (.lst vs)) : MsC T H0 F0 ra Fs Hs Γs σ (upd H a (.lst vs')) := by
  have ne : ∀ b o, Hs b = some o → b ≠ a := fun b o h z => by subst z; rw [na] at h; cases h
  refine ⟨S.base, S.no, fun P hP => tab_lst ha (S.tabs P hP), fun p hP => lab_lst ha (S.labs p hP), fun b o h n => ?_, fun b o h => ?_⟩
  · rw [upd_ne (ne b o h)]; exact S.hh b o h n
  · rw [upd_ne (ne b o h)]; exact S.gro b o h
theorem MsC.new {a : Addr} {o' : HO} (S : MsC T H0 F0 ra Fs Hs Γs σ H) (ha : H a = none) : MsC T H0 F0 ra Fs Hs Γs σ (upd H a o') := by
  have ne : ∀ b o, H b = some o → b ≠ a := fun b o h z => by subst z; rw [ha] at h; cases h
  refine ⟨S.base, S.no, fun P hP => tab_new ha (S.tabs P hP), fun p hP => lab_new ha (S.labs p hP), fun b o h n => ?_, fun b o h => ?_⟩
  · rw [upd_ne (ne b o (S.hh b o h n))]; exact S.hh b o h n
  · obtain ⟨o2, h'⟩ := S.gro b o h
    exact ⟨o2, by rw [upd_ne (ne b o2 h')]; exact h'⟩
theorem MsC.set {y : Nat} {v : V} (S : MsC T H0 F0 ra Fs Hs Γs σ H) : MsC T H0 F0 ra Fs Hs (Γs.set y none) (σ.set y (some v)) H := ⟨S.base.drop, S.no.drop, S.tabs, S.labs, S.hh, S.gro⟩
theorem MsC.weak {y : Nat} (S : MsC T H0 F0 ra Fs Hs Γs σ H) : MsC T H0 F0 ra Fs Hs (Γs.set y none) σ H := ⟨S.base.part (by simp) fun i e z => by
      by_cases hi : i = y
      · subst hi
        by_cases hl : i < Γs.length
        · rw [List.getElem?_set_self hl] at z; cases z
        · rw [List.getElem?_eq_none (by simpa using hl)] at z; cases z
      · rw [List.getElem?_set_ne (Ne.symm hi)] at z; exact z, S.no.drop, S.tabs, S.labs, S.hh, S.gro⟩
variable {x y m : Nat} {s1 s2 : TS} {u1 u2 : WS} {w2 : WS2} {w3 : WS3} {t1 : TT} {w1 : WT}
theorem MsC.go {s : TS} {u : WS} (h : SD T false E s u) {D : Ends} {Ψ : WEnds} (S : MsC T H0 F0 ra Fs Hs Γs σ H) (hw : u Ψ Γs) (e : EO T false H0 F0 ra E D Ψ) : s D σ H := by
  have p := S.base.rp
  refine h H0 F0 ra Fs σ H Γs D Ψ ⟨⟨⟨fun b o z => S.hh b o (p.sub b o z) (p.nt b o z), p.nt, S.tabs, S.labs⟩, p.len, fun i en z => ?_, fun i j ds _ _ z => absurd z (S.no i ds)⟩, S.base.ff, fun b o z n y => S.hh b o (S.base.en b o z n y) n, fun b z => absurd z S.no.owns, fun b o z => let ⟨o1, z1⟩ := S.base.gro b o z; S.gro b o1 z1, S.base.nf, fun z => by cases z⟩ hw e
  obtain ⟨v, h1, h2⟩ := p.at_ i en z
  refine ⟨v, h1, ?_⟩
  cases en with
  | shr d => exact h2
  | own ds => exact absurd z (S.no i ds)
def NwL (Hs H : Hp) (n : Nat) (vs : List V) : Prop := ∀ u ∈ vs, ∃ b ws, u = .ref b ∧ Hs b = none ∧ H b = some (.lst ws) ∧ ws.length ≤ n
theorem NwL.put {n : Nat} {vs ws ws' : List V} {c : Addr} (h : NwL Hs H n vs) (hc : H c = some (.lst ws)) (hl : ws'.length ≤ n + 1) : NwL Hs (upd H c (.lst ws')) (n + 1) vs := fun u hu => by
  obtain ⟨b, us, e1, e2, e3, e4⟩ := h u hu
  by_cases z : b = c
  · subst z
    exact ⟨b, ws', e1, e2, upd_same, hl⟩
  · exact ⟨b, us, e1, e2, by rw [upd_ne z]; exact e3, by omega⟩
theorem NwL.new {n : Nat} {vs : List V} {c : Addr} {o : HO} (h : NwL Hs H n vs) (hc : H c = none) : NwL Hs (upd H c o) n vs := fun u hu => by
  obtain ⟨b, us, e1, e2, e3, e4⟩ := h u hu
  exact ⟨b, us, e1, e2, by rw [upd_ne (fun z => by rw [z, hc] at e3; cases e3)]; exact e3, e4⟩
structure MsP (T : Tb) (H0 F0 : Hp) (ra : Addr) (x : Nat) (Fs Hs : Hp) (Γs : Gm) (σ : St) (H : Hp) : Prop where
  co : MsC T H0 F0 ra Fs Hs Γs σ H
  xs : ∃ a vs, σ[x]? = some (some (.ref a)) ∧ SqT T.K H a vs ∧ (4 < vs.length ∧ vs.length ≤ 100) ∧ NwL Hs H 1001 (vs.drop 3)
def FDP (T : Tb) (E : XK) (x : Nat) (t : TS) (w : WS2) : Prop := ∀ (H0 F0 : Hp) (ra : Addr) (Fs Hs : Hp) (Γs : Gm) (F : Hp) (σ : St) (H : Hp) (Γ : Gm) (D : Ends) (Ψ : WEnds), FrP T H0 F0 ra x Fs Hs Γs F σ H Γ → w Γs Ψ Γ → EO T false H0 F0 ra E D Ψ → t D σ H
def MPD (T : Tb) (E : XK) (x : Nat) (t : TS) (w : WS3) : Prop := ∀ (H0 F0 : Hp) (ra : Addr) (Fs Hs : Hp) (Γs : Gm) (σ : St) (H : Hp) (D : Ends) (Ψ : WEnds), MsP T H0 F0 ra x Fs Hs Γs σ H → w Γs Ψ → EO T false H0 F0 ra E D Ψ → t D σ H
variable {Ψ : WEnds} {u : WS}
end
structure QFp (X : Cx) (T : Tb) (E : XK) (i : Nat) (st : List Stmt) (t : TS) (w : WS2) : Prop where
  pe : PSs X st t
  ed : FDP T E i t w
structure QMp (X : Cx) (T : Tb) (E : XK) (i : Nat) (st : List Stmt) (t : TS) (w : WS3) : Prop where
  pe : PSs X st t
  ed : MPD T E i t w
section
variable {X : Cx} {T : Tb} {E : XK} {e c o k j v tg lo : Expr} {sts as : List Stmt} {t tk tj tv : TE} {w wk : WE} {pos spos apos p2 p3 p4 p5 : Pos} {t1 : TT} {w1 : WT} {s1 s2 : TS} {u1 : WS} {w2 : WS2} {w3 : WS3} {x yn : Str} {i y : Nat} {z : V}
end
end Dt
set_option Elab.async false
set_option linter.all false
set_option maxRecDepth 100000
set_option maxHeartbeats 1000000
set_option autoImplicit false
namespace Dt
open PySem L2 Kx
end Dt
set_option Elab.async false
set_option linter.all false
set_option maxRecDepth 100000
set_option maxHeartbeats 1000000
set_option autoImplicit false
namespace Dt
open PySem PySem.Spec L2 Kx PyProof.Rows
end Dt
set_option Elab.async false
set_option linter.all false
set_option maxRecDepth 100000
set_option maxHeartbeats 1000000
set_option autoImplicit false
namespace Dt
open PySem PySem.Spec L2 Kx PyProof.Rows
theorem app_cps (x y : Str) : (x ++ y).cps.toList = x.cps.toList ++ y.cps.toList := by
  show (x.cps ++ y.cps).toList = _
  simp
theorem cut_head {x : Str} {a : Int} (h0 : 0 ≤ a) (h1 : a ≤ x.length) : (cutS x none (some a)).cps.toList = x.cps.toList.take a.toNat := by
  unfold cutS
  have e : HT.sIx x.length x.length (some a) = a.toNat := by
    show (if a < 0 then _ else min a.toNat x.length) = _
    rw [if_neg (by omega)]
    omega
  rw [HT.sIx_none, e]
  simp
theorem cps_len (x : Str) : x.cps.toList.length = x.length := rfl
theorem lcB_ff {α : Type} {l : List α} {f : α → D} {wg : WG} {wt : WT} {we : WE} {vs : List Nat} {Φ : R → Gm → Prop} {Γ : Gm} (t : α → Bool) (g : α → D) (hl : l.length ≤ sizeLine)
    (hs : ∀ a, a ∈ l → ∀ k : List D → Gm → Prop, k (if t a then [g a] else []) (wipeG Γ vs) → wg (f a) (wipeG Γ vs) fun Γ2 => wt Γ2 (fun b Γ3 => iteR b (we Γ3 (fun r Γ4 => frzR Γ4 r fun y Γ5 => k [y] (wipeG Γ5 vs)) fun _ => False) (k [] (wipeG Γ3 vs))) fun _ => False)
    (hd : Φ (.new ((l.filter t).map g)) (rstG Γ (wipeG Γ vs) vs)) : lcB (l.map f) wg wt we vs Φ Γ := by
  refine lcB_by (fun i acc Γ' => Γ' = wipeG Γ vs ∧ acc = ((l.take i).filter t).map g) (by rw [List.length_map]; exact hl) ⟨rfl, rfl⟩ (fun i acc Γ' d hd' ⟨e1, e2⟩ => ?_) fun acc Γ' ⟨e1, e2⟩ => ?_
  · subst e1 e2
    rw [List.getElem?_map] at hd'
    obtain ⟨a, ha, rfl⟩ := Option.map_eq_some_iff.mp hd'
    have key : ((l.take (i + 1)).filter t).map g = ((l.take i).filter t).map g ++ (if t a then [g a] else []) := by
      rw [List.take_add_one, ha, List.filter_append, List.map_append]
      congr 1
      by_cases z : t a = true
      · rw [if_pos z]
        show List.map g (List.filter t [a]) = _
        rw [List.filter_cons_of_pos z]; rfl
      · rw [if_neg z]
        show List.map g (List.filter t [a]) = _
        rw [List.filter_cons_of_neg z]; rfl
    have := hs a (List.mem_of_getElem? ha) (fun ys Γ5 => Γ5 = wipeG Γ vs ∧ (match ys with | [] => ((l.take i).filter t).map g = ((l.take (i + 1)).filter t).map g | y :: _ => ((l.take i).filter t).map g ++ [y] = ((l.take (i + 1)).filter t).map g)) ⟨rfl, by
      rw [key]
      by_cases z : t a = true
      · rw [if_pos z]
      · rw [if_neg z, List.append_nil]⟩
    exact this
  · subst e1 e2
    rw [List.length_map, List.take_length]
    exact hd
def inR (xs : List Str) (res : List (Option Nat)) (x : Str) : Bool := inV (.str x) ((res.map (nmD xs)).map D.v)
def lf (xs : List Str) (res : List (Option Nat)) : List Str := xs.filter fun x => !inR xs res x
def kp (xs : List Str) (res : List (Option Nat)) : List Str := (res.filter Option.isSome).map fun o => xs.getD (o.getD 0) ⟨#[]⟩
end Dt
set_option Elab.async false
set_option linter.all false
set_option maxRecDepth 100000
set_option maxHeartbeats 1000000
set_option autoImplicit false
namespace Kx
open PySem PySem.Spec L2 PyProof.Rows PySem.W
section
variable {X : Cx} {o e : Expr} {to te : TE} {apos pos : Pos}
end
end Kx
namespace Dt
open PySem PySem.Spec L2 Kx PyProof.Rows
section
variable {T : Tb} {E : XK}
def dPad (f : Str → Int → Str) : Str → D → (R → Prop) → Prop := fun a e Ψ => ∃ i, e = .int i ∧ PadOk i = true ∧ Ψ (.val (.str (f a i)))
theorem md_pad {f : Str → Int → Str} : MD T (fun x xs H Q => ∃ a i, x = .str a ∧ xs = [.int i] ∧ PadOk i = true ∧ Q (.str (f a i)) H) (dPad f) := fun F H a y e Q Ψ o hy hg k => by
  obtain ⟨i, rfl, hp, h⟩ := hg
  exact ⟨a, i, rfl, by rw [hy.int], hp, k F H _ _ h o.refl (Rep.str _)⟩
theorem dpad_int {f : Str → Int → Str} {a : Str} {i : Int} {Ψ : R → Prop} : dPad f a (.int i) Ψ = sideR (PadOk i = true) (Ψ (.val (.str (f a i)))) := propext ⟨fun ⟨_, e, h⟩ => by cases e; exact h, fun h => ⟨_, rfl, h⟩⟩
def dRstr : Str → D → (R → Prop) → Prop := fun a e Ψ => ∃ b, e = .str b ∧ a.length ≤ sizeLine ∧ Ψ (.val (.str (Txt.rstripChars a b)))
theorem md_rstr : MD T (fun x xs H Q => ∃ a b, x = .str a ∧ xs = [.str b] ∧ a.length ≤ sizeLine ∧ Q (.str (Txt.rstripChars a b)) H) dRstr := fun F H a y e Q Ψ o hy hg k => by
  obtain ⟨b, rfl, hp, h⟩ := hg
  exact ⟨a, b, rfl, by rw [hy.str], hp, k F H _ _ h o.refl (Rep.str _)⟩
theorem drstr_str {a b : Str} {Ψ : R → Prop} : dRstr a (.str b) Ψ = sideR (a.length ≤ sizeLine) (Ψ (.val (.str (Txt.rstripChars a b)))) := propext ⟨fun ⟨_, e, h⟩ => by cases e; exact h, fun h => ⟨_, rfl, h⟩⟩
def hasS (j i : Str) : Bool := !(Builtin.Str.occurrences j i 0 j.length 1).isEmpty
def bInS (f : Bool → Bool) : D → D → (Bool → Prop) → Prop := fun d e Ψ => ∃ i j, d = .str i ∧ e = .str j ∧ Ψ (f (hasS j i))
theorem bd_inS : BD T (fun x y H Q => ∃ i j, x = .str i ∧ y = .str j ∧ Q (.bl (!(Builtin.Str.occurrences j i 0 j.length 1).isEmpty)) H) (bInS id) := fun F H x y d e Q Ψ o hx hy hg k => by
  obtain ⟨i, j, rfl, rfl, h⟩ := hg
  exact ⟨i, j, hx.str, hy.str, k _ h⟩
theorem bd_notInS : BD T (fun x y H Q => ∃ i j, x = .str i ∧ y = .str j ∧ Q (.bl (!(!(Builtin.Str.occurrences j i 0 j.length 1).isEmpty))) H) (bInS not) := fun F H x y d e Q Ψ o hx hy hg k => by
  obtain ⟨i, j, rfl, rfl, h⟩ := hg
  exact ⟨i, j, hx.str, hy.str, k _ h⟩
theorem inS_str {f : Bool → Bool} {i j : Str} {Ψ : Bool → Prop} : bInS f (.str i) (.str j) Ψ = Ψ (f (hasS j i)) := propext ⟨fun ⟨_, _, e1, e2, h⟩ => by cases e1; cases e2; exact h, fun h => ⟨_, _, rfl, rfl, h⟩⟩
abbrev WJ := Str → Gm → (Str → Gm → Prop) → (XD → Prop) → Prop
def JD (T : Tb) (E : XK) (t : TJ) (w : WJ) : Prop := ∀ (F : Hp) (σ : L2.St) (H : Hp) (Γ : Gm) (out : Str) (Q : VK) (Ψ : Str → Gm → Prop) (Ξ : XD → Prop), Rp T F σ H Γ → w out Γ Ψ Ξ → XO T σ E Ξ F H Γ →
  (∀ F' H' Γ' x, Ψ x Γ' → Po T F σ H Γ F' H' Γ' → Q (.str x) H') → t σ H out Q
variable {t : TJ} {w : WJ} {te : TE} {we : WE}
def wJ0 : WJ := fun out Γ Ψ _ => out.length ≤ sizeLine ∧ Ψ out Γ
theorem jd_nil : JD T E (fun _ H out Q => out.length ≤ sizeLine ∧ Q (.str out) H) wJ0 := fun F σ H Γ out Q Ψ Ξ p h _ k => ⟨h.1, k F H Γ _ h.2 p.refl⟩
def wJT (x : Str) (w : WJ) : WJ := fun out Γ Ψ Ξ => (out ++ x).length ≤ sizeLine ∧ w (out ++ x) Γ Ψ Ξ
def fmtR (d : D) (out : Str) (k : Str → Prop) : Prop := (∃ y, d = .str y ∧ y.length ≤ sizeLine ∧ (out ++ y).length ≤ sizeLine ∧ k (out ++ y)) ∨ ∃ i : Int, d = .int i ∧ i.natAbs.log2 < 1920 ∧ (out ++ (toString i : Str)).length ≤ sizeLine ∧ k (out ++ (toString i : Str))
def wJV (we : WE) (w : WJ) : WJ := fun out Γ Ψ Ξ => we Γ (fun r Γ1 => ∃ d, r.at Γ1 = some d ∧ fmtR d out fun x => w x Γ1 Ψ Ξ) Ξ
theorem jd_val (he : ED T E te we) (h : JD T E t w) : JD T E (fun σ H out Q => te σ H fun v H1 =>
    (∃ y, v = .str y ∧ y.length ≤ sizeLine ∧ (out ++ y).length ≤ sizeLine ∧ t σ H1 (out ++ y) Q) ∨ ∃ i : Int, v = .int i ∧ i.natAbs.log2 < 1920 ∧ (out ++ (toString i : Str)).length ≤ sizeLine ∧ t σ H1 (out ++ (toString i : Str)) Q) (wJV we w) := fun F σ H Γ out Q Ψ Ξ p hw z k =>
  he F σ H Γ _ _ Ξ p hw z fun F1 H1 Γ1 v r hr q e => by
    obtain ⟨d, a, hf⟩ := hr
    have pv := e.peek q.rp a
    rcases hf with ⟨y, rfl, l1, l2, hk⟩ | ⟨i, rfl, l1, l2, hk⟩
    · exact .inl ⟨y, pv.str, l1, l2, h F1 σ H1 Γ1 _ Q Ψ Ξ q.rp hk (z.on q) fun F2 H2 Γ2 x hx q2 => k F2 H2 Γ2 x hx (q.trans q2)⟩
    · exact .inr ⟨i, pv.int, l1, l2, h F1 σ H1 Γ1 _ Q Ψ Ξ q.rp hk (z.on q) fun F2 H2 Γ2 x hx q2 => k F2 H2 Γ2 x hx (q.trans q2)⟩
def wFStr (w : WJ) : WE := fun Γ Ψ Ξ => w Str.empty Γ (fun x Γ1 => Ψ (.val (.str x)) Γ1) Ξ
theorem ed_fstr (h : JD T E t w) : ED T E (fun σ H Q => t σ H Str.empty Q) (wFStr w) := fun F σ H Γ Q Ψ Ξ p hw z k =>
  h F σ H Γ _ Q _ Ξ p hw z fun F1 H1 Γ1 x hx q => k F1 H1 Γ1 _ _ hx q (Rep.str _)
variable {Γ : Gm} {Ψj : Str → Gm → Prop} {Ψ : R → Gm → Prop} {Ξ : XD → Prop} {out : Str}
theorem fstr_ap : wFStr w Γ Ψ Ξ = w Str.empty Γ (fun x Γ1 => Ψ (.val (.str x)) Γ1) Ξ := rfl
theorem j0_ap : wJ0 out Γ Ψj Ξ = sideR (out.length ≤ sizeLine) (Ψj out Γ) := rfl
theorem jT_ap {x : Str} : wJT x w out Γ Ψj Ξ = sideR ((out ++ x).length ≤ sizeLine) (w (out ++ x) Γ Ψj Ξ) := rfl
theorem jV_ap : wJV we w out Γ Ψj Ξ = we Γ (fun r Γ1 => getR Γ1 r fun d => fmtR d out fun x => w x Γ1 Ψj Ξ) Ξ := rfl
theorem fmt_str {y : Str} {k : Str → Prop} : fmtR (.str y) out k = sideR (y.length ≤ sizeLine ∧ (out ++ y).length ≤ sizeLine) (k (out ++ y)) := propext (Iff.intro (fun h => by
  rcases h with ⟨_, e, h1, h2, h3⟩ | ⟨_, e, _⟩
  · cases e; exact ⟨⟨h1, h2⟩, h3⟩
  · cases e) fun h => Or.inl ⟨y, rfl, h.1.1, h.1.2, h.2⟩)
theorem fmt_int {i : Int} {k : Str → Prop} : fmtR (.int i) out k = sideR (i.natAbs.log2 < 1920 ∧ (out ++ (toString i : Str)).length ≤ sizeLine) (k (out ++ (toString i : Str))) := propext (Iff.intro (fun h => by
  rcases h with ⟨_, e, _⟩ | ⟨_, e, h1, h2, h3⟩
  · cases e
  · cases e; exact ⟨⟨h1, h2⟩, h3⟩) fun h => Or.inr ⟨i, rfl, h.1.1, h.1.2, h.2⟩)
end
structure QJ (X : Cx) (T : Tb) (E : XK) (es : List Expr) (t : TJ) (w : WJ) : Prop where
  pe : PJ X es t
  ed : JD T E t w
section
variable {X : Cx} {T : Tb} {E : XK} {o e e1 e2 : Expr} {es : List Expr} {to te : TE} {wo we : WE} {t : TJ} {w : WJ} {apos pos : Pos}
theorem q_j0 : QJ X T E [] (fun _ H out Q => out.length ≤ sizeLine ∧ Q (.str out) H) wJ0 := ⟨pj_nil, jd_nil⟩
theorem q_jV (he : QE X T E e te we) (h : QJ X T E es t w) : QJ X T E (.FormattedValue e (-1) none pos :: es) (fun σ H out Q => te σ H fun v H1 =>
    (∃ y, v = .str y ∧ y.length ≤ sizeLine ∧ (out ++ y).length ≤ sizeLine ∧ t σ H1 (out ++ y) Q) ∨ ∃ i : Int, v = .int i ∧ i.natAbs.log2 < 1920 ∧ (out ++ (toString i : Str)).length ≤ sizeLine ∧ t σ H1 (out ++ (toString i : Str)) Q) (wJV we w) := ⟨pj_val he.pe h.pe, jd_val he.ed h.ed⟩
theorem q_fstr (h : QJ X T E (e1 :: e2 :: es) t w) : QE X T E (.JoinedStr (e1 :: e2 :: es) pos) (fun σ H Q => t σ H Str.empty Q) (wFStr w) := ⟨pe_fstr h.pe, ed_fstr h.ed⟩
theorem q_zfill (ho : QE X T E o to wo) (h : QE X T E e te we) (hs : isStar e = false) (hb : attributeBase o "zfill" X.env (eval o X.env) = eval o X.env) (hl : (apos.endLine == pos.line) = true) : QE X T E (.Call (.Attribute o "zfill" apos) [e] [] pos) (tM1 (fun x xs H Q => ∃ a i, x = .str a ∧ xs = [.int i] ∧ PadOk i = true ∧ Q (.str (Txt.zfill a i)) H) to te) (wM1 (dPad Txt.zfill) wo we) := ⟨pe_zfill ho.pe h.pe hs hb hl, ed_m1 md_pad ho.ed h.ed⟩
theorem q_rstrip (ho : QE X T E o to wo) (h : QE X T E e te we) (hs : isStar e = false) (hb : attributeBase o "rstrip" X.env (eval o X.env) = eval o X.env) (hl : (apos.endLine == pos.line) = true) : QE X T E (.Call (.Attribute o "rstrip" apos) [e] [] pos) (tM1 (fun x xs H Q => ∃ a b, x = .str a ∧ xs = [.str b] ∧ a.length ≤ sizeLine ∧ Q (.str (Txt.rstripChars a b)) H) to te) (wM1 dRstr wo we) := ⟨pe_rstripC ho.pe h.pe hs hb hl, ed_m1 md_rstr ho.ed h.ed⟩
end
end Dt
set_option Elab.async false
set_option linter.all false
set_option maxRecDepth 100000
set_option maxHeartbeats 2000000
set_option autoImplicit false
namespace L2
open PySem PySem.Spec PyProof.Rows
inductive Src where
  | t (a : Addr)
  | l (a : Addr)
  | s (x : Str)
def Src.v : Src → V
  | .t a => .ref a
  | .l a => .ref a
  | .s x => .str x
section
variable {X : Cx} {pins : List (Addr × Obj)} {σ : L2.St} {H : Hp} {s : Shared}
end
def SrcAt (h : Heap) : Src → Prop
  | .t a => ∃ xs, h.IsTuple a xs
  | .l a => ∃ xs, h.IsList a xs
  | .s _ => True
theorem SrcAt.push {h : Heap} {S : Src} (g : SrcAt h S) (o : Obj) : SrcAt (h.push o) S := by
  cases S with
  | t a => obtain ⟨xs, g⟩ := g; exact ⟨xs, Heap.IsTuple.push g _⟩
  | l a => obtain ⟨xs, g⟩ := g; exact ⟨xs, Heap.IsList.push g _⟩
  | s x => trivial
end L2
namespace Dt
open PySem L2 Kx
section
variable {T : Tb} {F : Hp} {E : XK} {tA : TA} {wA : WA}
variable {X : Cx} {a b : Expr} {pos : Pos}
end
end Dt
set_option Elab.async false
set_option linter.all false
set_option maxRecDepth 100000
set_option maxHeartbeats 2000000
set_option autoImplicit false
namespace Zt
open PySem PySem.Builtin PyProof.Rows
structure Apart3 (z TI TO i1 i2 i3 : Addr) (f1 f2 f3 : List Addr) : Prop where
  TIz : TI ≠ z
  TOz : TO ≠ z
  z1 : i1 ≠ z
  z2 : i2 ≠ z
  z3 : i3 ≠ z
  TIO : TI ≠ TO
  I1 : TI ≠ i1
  I2 : TI ≠ i2
  I3 : TI ≠ i3
  O1 : TO ≠ i1
  O2 : TO ≠ i2
  O3 : TO ≠ i3
  one : z ∉ f1 ∧ TO ∉ f1 ∧ i2 ∉ f1 ∧ i3 ∉ f1
  two : z ∉ f2 ∧ TO ∉ f2 ∧ i1 ∉ f2 ∧ i3 ∉ f2
  thr : z ∉ f3 ∧ TO ∉ f3 ∧ i1 ∉ f3 ∧ i2 ∉ f3
section
variable {prog : Program} {w : World} {A : Around} {E : Value → Shared → Prop} {s : Shared} {z TI TO i1 i2 i3 : Addr} {f1 f2 f3 : List Addr} {n1 n2 n3 k : Nat} {P1 P2 P3 : Nat → Value → Prop} {S1 S2 S3 : Nat → Heap → Prop} {a b c : Value}
end
end Zt
namespace L2
open PySem PySem.Spec PyProof.Rows
end L2
namespace L2
open PySem PySem.Spec PyProof.Rows
end L2
namespace Dt
open PySem L2 Kx
section
variable {T : Tb} {F : Hp} {E : XK} {tA : TA} {wA : WA}
variable {X : Cx} {a b c : Expr} {pos : Pos}
end
end Dt
set_option Elab.async false
set_option linter.all false
set_option maxRecDepth 100000
set_option maxHeartbeats 2000000
set_option autoImplicit false
namespace Zt
open PySem PySem.Builtin PyProof.Rows
section
variable {prog : Program} {w : World} {A : Around} {E : Value → Shared → Prop} {s : Shared}
end
end Zt
namespace L2
open PySem PySem.Spec PyProof.Rows
end L2
namespace Dt
open PySem L2 Kx
section
variable {T : Tb} {F : Hp} {E : XK} {tA : TA} {wA : WA}
variable {X : Cx} {tg a : Expr} {pos : Pos}
end
end Dt
set_option Elab.async false
set_option linter.all false
set_option maxRecDepth 100000
set_option maxHeartbeats 1000000
set_option autoImplicit false
namespace Kx
open PySem PySem.Spec L2 PyProof.Rows PySem.W
def repS (x : Str) (n : Int) : Str := ⟨(List.replicate n.toNat x.cps).foldl (· ++ ·) #[]⟩
theorem rep_fold (c : Array Nat) : ∀ (m : Nat) (a : Array Nat), ((List.replicate m c).foldl (· ++ ·) a).size = a.size + m * c.size
  | 0, a => by simp
  | m + 1, a => by
    rw [List.replicate_succ, List.foldl_cons, rep_fold c m, Array.size_append, Nat.succ_mul]
    omega
theorem repS_len (x : Str) (n : Int) : (repS x n).length = n.toNat * x.length := by
  show ((List.replicate n.toNat x.cps).foldl (· ++ ·) #[]).size = _
  rw [rep_fold]
  simp
  rfl
theorem repS_one (x : Str) : repS x 1 = x := by
  show (⟨(List.replicate 1 x.cps).foldl (· ++ ·) #[]⟩ : Str) = x
  simp
theorem repS_nil {x : Str} (n : Int) (h : x.length = 0) : repS x n = x := by
  have h1 : (repS x n).cps.size = 0 := by
    have := repS_len x n
    rw [h] at this
    exact this.trans (Nat.mul_zero _)
  have h2 : x.cps.size = 0 := h
  have e : (repS x n).cps = x.cps := by rw [Array.eq_empty_of_size_eq_zero h1, Array.eq_empty_of_size_eq_zero h2]
  cases x
  generalize hz : repS _ n = y at *
  cases y
  simp only [Str.mk.injEq]
  exact e
section
variable {X : Cx}
theorem op_repS : OpR X (binaryOp .Mult) (fun x y H Q => ∃ a n, x = .str a ∧ y = .int n ∧ (0 ≤ n ∧ n ≤ 100000 ∧ a.length ≤ 100000 ∧ a.length * n.toNat ≤ 1000000) ∧ Q (.str (repS a n)) H) := by
  intro pins s σ H x y v u Q I rx ry h
  obtain ⟨a, n, rfl, rfl, ⟨h0, h1, h2, h3⟩, q⟩ := h
  obtain ⟨t, rfl⟩ := rx
  obtain ⟨t', rfl⟩ := ry
  refine PySem.P.mul_str (by rw [decide_eq_false (by omega), decide_eq_false (by omega)]; rfl) (fun g _ => ?_) (fun g _ => ?_) ?_
  · have : (100000 : Int) ≤ (2 ^ 63 - 1) / n := (Int.le_ediv_iff_mul_le (by omega)).mpr (by
      have := Int.mul_le_mul_of_nonneg_left h1 (show (0 : Int) ≤ 100000 by decide)
      omega)
    omega
  · exact decide_eq_false (fun z : sizeLine < a.length * n.toNat => by
      have : 1000000 ≤ sizeLine := by decide
      omega)
  · by_cases g : n < 1
    · rw [if_pos g]
      have e : n = 0 := by omega
      subst e
      exact ⟨by decide, .str (repS a 0), H, I.tok _, ⟨_, rfl⟩, q⟩
    · rw [if_neg g]
      by_cases g2 : (n == 1 || a.length == 0) = true
      · rw [if_pos g2]
        have e : repS a n = a := by
          rw [Bool.or_eq_true, beq_iff_eq, beq_iff_eq] at g2
          rcases g2 with rfl | g2
          · exact repS_one a
          · exact repS_nil n g2
        rw [e] at q
        exact ⟨.str a, H, I, ⟨_, rfl⟩, q⟩
      · rw [if_neg g2]
        refine ⟨?_, .str (repS a n), H, I.tok _, ⟨_, rfl⟩, q⟩
        have e := repS_len a n
        show (repS a n).length ≤ sizeLine
        rw [e, Nat.mul_comm]
        exact Nat.le_trans h3 (by decide)
end
end Kx
namespace Dt
open PySem L2 Kx
section
variable {T : Tb}
def dRepS : D → D → (R → Prop) → Prop := fun d e Ψ => ∃ a n, d = .str a ∧ e = .int n ∧ (0 ≤ n ∧ n ≤ 100000 ∧ a.length ≤ 100000 ∧ a.length * n.toNat ≤ 1000000) ∧ Ψ (.val (.str (repS a n)))
theorem od_repS : OD T (fun x y H Q => ∃ a n, x = .str a ∧ y = .int n ∧ (0 ≤ n ∧ n ≤ 100000 ∧ a.length ≤ 100000 ∧ a.length * n.toNat ≤ 1000000) ∧ Q (.str (repS a n)) H) dRepS := fun F H x y d e Q Ψ o hx hy hg k => by
  obtain ⟨a, n, rfl, rfl, hb, h⟩ := hg
  exact ⟨a, n, hx.str, hy.int, hb, k F H _ _ h o.refl (Rep.str _)⟩
theorem drepS_ap {a : Str} {n : Int} {Ψ : R → Prop} : dRepS (.str a) (.int n) Ψ = sideR (0 ≤ n ∧ n ≤ 100000 ∧ a.length ≤ 100000 ∧ a.length * n.toNat ≤ 1000000) (Ψ (.val (.str (repS a n)))) := propext ⟨fun ⟨_, _, e1, e2, h⟩ => by cases e1; cases e2; exact h, fun h => ⟨_, _, rfl, rfl, h⟩⟩
end
end Dt
set_option Elab.async false
set_option linter.all false
set_option maxRecDepth 100000
set_option maxHeartbeats 1000000
set_option autoImplicit false
namespace Dt
open PySem PySem.Spec L2 Kx PyProof.Rows
end Dt
set_option Elab.async false
set_option linter.all false
set_option maxRecDepth 100000
set_option maxHeartbeats 1000000
set_option autoImplicit false
namespace Dt
open PySem PySem.Spec L2 Kx PyProof.Rows
theorem glj (a : Str) (ys : List Str) : Builtin.Str.glued a ys = Str.join a ys := by first | exact StrLaws.glued_eq_join a ys | exact PySem.glued_eq_join a ys | exact glued_eq_join a ys
end Dt
namespace Dt
open PySem PySem.Spec L2 Kx PyProof.Rows
def unitsOf (p : Int × Int) : Int := (if p.1 < 0 then -p.1 else p.1) * 10 ^ 12 / p.2
def behindS (p : Int × Int) : Str := Txt.rstripChars (Txt.zfill (toString (unitsOf p % 10 ^ 12) : Str) 12) "0"
def shownS (p : Int × Int) : Str := (((Str.empty ++ (if p.1 < 0 then "-" else "")) ++ (toString (unitsOf p / 10 ^ 12) : Str)) ++ (if (behindS p).length = 0 then "" else ".")) ++ behindS p
def MkOk (p : Int × Int) : Prop := 0 < p.2 ∧ p.2 ≤ 10 ^ 12 ∧ (if p.1 < 0 then -p.1 else p.1) * 10 ^ 12 % p.2 = 0 ∧ unitsOf p < 10 ^ 27 ∧ -(10 ^ 30) < p.1 ∧ p.1 < 10 ^ 30
def wf_show_number : WF := fun ds row Ψ Ξ => ∃ p : Int × Int, ds = [frD p] ∧ MkOk p ∧ Ψ (.val (.str (shownS p))) []
end Dt
set_option Elab.async false
set_option linter.all false
set_option maxRecDepth 100000
set_option maxHeartbeats 1000000
set_option autoImplicit false
namespace Dt
open PySem L2 Kx
section
variable {T : Tb} {E : XK} {t : TE} {w : WE}
def wBS (w : WE) : WT := fun Γ Ψ Ξ => w Γ (fun r Γ1 => ∃ y : Str, r.at Γ1 = some (.str y) ∧ y.length ≤ sizeLine ∧ Ψ ((y.length : Int) != 0) Γ1) Ξ
theorem td_bS (h : ED T E t w) : TD T E (fun σ H Q => t σ H fun x H' => ∃ k, TruV T.K x H' k ∧ Q k H') (wBS w) := fun F σ H Γ Q Ψ Ξ p h1 x k => h F σ H Γ _ _ Ξ p h1 x fun F' H' Γ' v r hr q e => by
  obtain ⟨y, a, hl, hb⟩ := hr
  rw [(e.peek q.rp a).str]
  exact ⟨_, ⟨hl, rfl⟩, k F' H' Γ' _ hb q⟩
def txtR (Γ : Gm) (r : R) (k : Str → Prop) : Prop := ∃ y : Str, r.at Γ = some (.str y) ∧ k y
theorem txR_val {Γ : Gm} {y : Str} {k : Str → Prop} : txtR Γ (.val (.str y)) k = k y := propext ⟨fun ⟨_, e, h⟩ => by cases e; exact h, fun h => ⟨_, rfl, h⟩⟩
theorem BS_ap {Γ : Gm} {Φb : Bool → Gm → Prop} {Ξ : XD → Prop} : wBS w Γ Φb Ξ = w Γ (fun r Γ1 => txtR Γ1 r fun y => sideR (y.length ≤ sizeLine) (Φb ((y.length : Int) != 0) Γ1)) Ξ := rfl
theorem ddm_ap {i j : Int} {Ψ : R → Prop} : dDivmod [.int i, .int j] Ψ = sideR (CDivP i j) (Ψ (.val (.tup [.int (i / j), .int (i % j)]))) := propext ⟨fun ⟨_, _, e, h⟩ => by cases e; exact h, fun h => ⟨_, _, rfl, h⟩⟩
variable {X : Cx} {e : Expr}
theorem q_tS (hK : X.K = T.K) (h : QE X T E e t w) (he : plainTest e = true) : QT X T E e (fun σ H Q => t σ H fun x H' => ∃ k, TruV T.K x H' k ∧ Q k H') (wBS w) := ⟨hK ▸ pt_tr h.pe he, td_bS h.ed⟩
end
end Dt
set_option Elab.async false
set_option linter.all false
set_option maxRecDepth 100000
set_option maxHeartbeats 1000000
set_option autoImplicit false
namespace Dt
open PySem PySem.Spec L2 Kx PyProof.Rows
def lvlS (a z : Int × Int) (n : Int) (m : Int × Int) : Int := nearZ (lvX a.1 a.2 z.2 n m.1 m.2) (lvY a.1 a.2 z.1 z.2 m.2)
structure MsOk (ms : List (Int × Int)) (n : Int) (a z : Int × Int) : Prop where
  hd : ms.head? = some a
  la : ms.getLast? = some z
  sc : ScB a.1 a.2 z.1 z.2 n
  ok : ∀ m ∈ ms, MkOk m ∧ Bd 600 m.1 ∧ Bd 600 m.2 ∧ 0 ≤ lvlS a z n m ∧ lvlS a z n m ≤ n
  ln : ms.length ≤ 100
  n0 : 2 ≤ n
  n1 : n ≤ 40
end Dt
set_option Elab.async false
set_option linter.all false
set_option maxRecDepth 100000
set_option maxHeartbeats 1000000
set_option autoImplicit false
namespace Dt
open PySem PySem.Spec L2 Kx PyProof.Rows
structure PlOk (k : Str) (w n : Int) (ms : List (Int × Int)) (lss : List (List Int)) (xs : List (Option Str)) (ss : List Str) (a z : Int × Int) : Prop where
  kd : IsKd k
  w0 : 1 ≤ w
  w1 : w ≤ 6
  mo : MsOk ms n a z
  l0 : 1 ≤ lss.length
  l1 : lss.length ≤ 12
  ll : ∀ l ∈ lss, l.length ≤ 4
  xl : xs.length ≤ 40
  xo : ∀ x, some x ∈ xs → x.length ≤ 30
  s0 : 1 ≤ ss.length
  s1 : ss.length ≤ 4
  so : ∀ s ∈ ss, s.length ≤ 30
end Dt
namespace Dt
open PySem PySem.Spec L2 Kx PyProof.Rows
end Dt
namespace Dt
open PySem PySem.Spec L2 Kx PyProof.Rows
end Dt
namespace Dt
open PySem PySem.Spec L2 Kx PyProof.Rows
end Dt
namespace Dt
open PySem PySem.Spec L2 Kx PyProof.Rows
end Dt
set_option Elab.async false
set_option linter.all false
set_option maxRecDepth 100000
set_option maxHeartbeats 1000000
set_option autoImplicit false
namespace Dt
open PySem PySem.Spec L2 Kx PyProof.Rows
def AllC (P : Nat → Prop) (x : Str) : Prop := ∀ c ∈ x.cps.toList, P c
section
variable {P : Nat → Prop} {x y : Str}
theorem AllC.app (h : AllC P x) (h' : AllC P y) : AllC P (x ++ y) := fun c hc => by
  rw [app_cps] at hc
  exact (List.mem_append.mp hc).elim (h c) (h' c)
theorem AllC.one {c : Nat} (h : P c) : AllC P ⟨#[c]⟩ := fun d hd => by
  cases List.mem_singleton.mp hd
  exact h
theorem allC_join {sep : Str} (hs : AllC P sep) : ∀ ys : List Str, (∀ y ∈ ys, AllC P y) → AllC P (Str.join sep ys)
  | [], _ => fun c hc => by cases hc
  | [y], h => h y (List.mem_singleton.mpr rfl)
  | y :: z :: ys, h => by
    show AllC P (y ++ sep ++ Str.join sep (z :: ys))
    exact ((h y (List.mem_cons_self ..)).app hs).app (allC_join hs (z :: ys) fun v hv => h v (List.mem_cons_of_mem _ hv))
theorem AllC.join {sep : Str} (hs : AllC P sep) {ys : List Str} (h : ∀ y ∈ ys, AllC P y) : AllC P (Txt.join sep ys) := by
  unfold Txt.join
  rw [glj]
  exact allC_join hs ys h
theorem allC_pad (h : AllC P x) {c : Nat} (hc : P c) (a b : Nat) : AllC P (Builtin.Str.padded x a b c) := fun d hd => by
  have hd : d ∈ (Array.replicate a c ++ x.cps ++ Array.replicate b c).toList := hd
  rw [Array.toList_append, Array.toList_append, Array.toList_replicate, Array.toList_replicate] at hd
  rcases List.mem_append.mp hd with z | z
  · rcases List.mem_append.mp z with z | z
    · rw [(List.mem_replicate.mp z).2]; exact hc
    · exact h d z
  · rw [(List.mem_replicate.mp z).2]; exact hc
theorem AllC.ljust (h : AllC P x) (hc : P 32) (i : Int) : AllC P (Txt.ljust x i) := by
  unfold Txt.ljust
  split
  · exact h
  · exact allC_pad h hc _ _
theorem AllC.sub (h : AllC P x) (a b : Nat) : AllC P (Builtin.Str.strSub x a b) := fun d hd => by
  rw [StrLaws.strSub_toList] at hd
  first | exact h d (List.mem_of_mem_drop (List.mem_of_mem_take hd)) | exact h d (List.mem_of_mem_take (List.mem_of_mem_drop hd))
theorem AllC.zfill (h : AllC P x) (hc : P 48) (i : Int) : AllC P (Txt.zfill x i) := by
  unfold Txt.zfill
  split
  · exact h
  · unfold zfilled
    split
    · exact (h.sub 0 1).app (allC_pad (h.sub _ _) hc _ _)
    · exact (h.sub 0 1).app (allC_pad (h.sub _ _) hc _ _)
    · exact allC_pad h hc _ _
theorem AllC.rstrip (h : AllC P x) (z : Str) : AllC P (Txt.rstripChars x z) := by
  unfold Txt.rstripChars
  rw [PyProof.Rows.stripBy_eq]
  exact h.sub _ _
theorem AllC.mono {P' : Nat → Prop} (h : AllC P x) (i : ∀ c, P c → P' c) : AllC P' x := fun c hc => i c (h c hc)
end
def Cl (c : Nat) : Prop := c ≠ 10 ∧ c < 0x110000
theorem cl_ok {x : Str} (h : AllC Cl x) : PyData.strOk x = true := strOk_iff.mpr fun c hc => (h c hc).2
def Ltr (x : Str) : Prop := 1 ≤ x.length ∧ x.length ≤ 30 ∧ AllC (fun c => 97 ≤ c ∧ c ≤ 122) x
theorem Ltr.cl {x : Str} (h : Ltr x) : AllC Cl x := h.2.2.mono fun c hc => ⟨by omega, by omega⟩
theorem Ltr.ne {x : Str} (h : Ltr x) : x.cps.toList ≠ [] := fun e => by
  have : x.cps.toList.length = x.length := rfl
  rw [e] at this
  have := h.1
  simp at *
  omega
theorem Ltr.tx {x : Str} (h : Ltr x) : TxOk 30 x := ⟨h.2.1, cl_ok h.cl⟩
def plMs (S f : Int) (m : Nat) : List (Int × Int) := (List.range m).map fun i : Nat => mkP (S * (f + i))
structure PMk (k : Str) (n S f : Int) (m : Nat) : Prop where
  S0 : 0 < S
  S1 : S ≤ 5 * 10 ^ 24
  m0 : 2 ≤ m
  m1 : (m : Int) ≤ n / 2 + 2
  n0 : 2 ≤ n
  n1 : n ≤ 40
  f0 : -22 ≤ f
  f1 : f ≤ 20
  br : k = "bars" → f ≤ 0 ∧ 0 < f + m
  st : k = "stacks" → f = 0
  sh : k = "shares" → f = 0 ∧ S * (m - 1) = 100 * 10 ^ 12
theorem abs_nn {i : Int} : (if i < 0 then -i else i) = (i.natAbs : Int) := by split <;> omega
theorem units_mkP (u : Int) : unitsOf (mkP u) = (u.natAbs : Int) ∧ (if (mkP u).1 < 0 then -(mkP u).1 else (mkP u).1) * 10 ^ 12 % (mkP u).2 = 0 := by
  obtain ⟨k1, k2, k3⟩ := mkP_key u
  unfold unitsOf
  generalize mkP u = p at *
  have e : (if p.1 < 0 then -p.1 else p.1) * 10 ^ 12 = (u.natAbs : Int) * p.2 := by
    rw [abs_nn]
    have a : ((p.1 * 10 ^ 12).natAbs : Int) = ((u * p.2).natAbs : Int) := by rw [k2]
    rw [Int.natAbs_mul, Int.natAbs_mul] at a
    have b : ((10 ^ 12 : Int).natAbs : Int) = 10 ^ 12 := by decide
    have c : (p.2.natAbs : Int) = p.2 := by omega
    rw [Int.natCast_mul, Int.natCast_mul, b, c] at a
    exact a
  rw [e]
  exact ⟨Int.mul_ediv_cancel _ (by omega), Int.mul_emod_left _ _⟩
theorem mk_ok {u : Int} (h : u.natAbs < 10 ^ 27) : MkOk (mkP u) := by
  obtain ⟨k1, k2, k3⟩ := mkP_key u
  obtain ⟨u1, u2⟩ := units_mkP u
  have hp := (low_pos (t := u) (b := 10 ^ 12) (by decide)).2.2
  have hp : (mkP u).1.natAbs ≤ u.natAbs := hp
  refine ⟨k1, k3, u2, by rw [u1]; omega, by omega, by omega⟩
theorem lvZ_in {u v n x : Int} (h : u < v) (h0 : u ≤ x) (h1 : x ≤ v) (n0 : 0 ≤ n) : 0 ≤ lvZ u v n x ∧ lvZ u v n x ≤ n := by
  unfold lvZ
  have a : 0 ≤ (x - u) * n := Int.mul_nonneg (by omega) n0
  have b : (x - u) * n ≤ (v - u) * n := Int.mul_le_mul_of_nonneg_right (by omega) n0
  constructor
  · refine Int.ediv_nonneg ?_ (by omega)
    rw [Int.mul_assoc]
    omega
  · refine Int.le_of_lt_add_one (Int.ediv_lt_of_lt_mul (by omega) ?_)
    have : (n + 1) * (2 * (v - u)) = 2 * ((v - u) * n) + 2 * (v - u) := by
      rw [Int.add_mul, Int.one_mul, Int.mul_comm n, Int.mul_assoc]
    rw [this, Int.mul_assoc]
    omega
theorem un_mkP (u : Int) : Un (mkP u).1 (mkP u).2 u := by
  obtain ⟨k1, k2, k3⟩ := mkP_key u
  exact ⟨k1, k2.symm⟩
theorem sf_bd {S f : Int} {i : Nat} {m : Nat} {k : Str} {n : Int} (h : PMk k n S f m) (hi : i < m) : (S * (f + i)).natAbs < 10 ^ 27 := by
  have := h.S0; have := h.S1; have := h.m1; have := h.n1; have := h.f0; have := h.f1
  rw [Int.natAbs_mul]
  have a : S.natAbs ≤ 5 * 10 ^ 24 := by omega
  have b : (f + i).natAbs ≤ 45 := by omega
  exact Nat.lt_of_le_of_lt (Nat.mul_le_mul a b) (by decide)
theorem plMs_head {S f : Int} {m : Nat} (h : 2 ≤ m) : (plMs S f m).head? = some (mkP (S * f)) := by
  obtain ⟨q, rfl⟩ : ∃ q, m = q + 1 := ⟨m - 1, by omega⟩
  unfold plMs
  rw [List.range_succ_eq_map, List.map_cons, List.head?_cons]
  simp
theorem plMs_last {S f : Int} {m : Nat} (h : 2 ≤ m) : (plMs S f m).getLast? = some (mkP (S * (f + (m - 1)))) := by
  obtain ⟨q, rfl⟩ : ∃ q, m = q + 1 := ⟨m - 1, by omega⟩
  unfold plMs
  rw [List.range_succ, List.map_append, List.getLast?_append]
  simp only [List.map_cons, List.map_nil, List.getLast?_singleton, Option.some_or]
  rw [show f + (q : Int) = f + (((q + 1 : Nat) : Int) - 1) by omega]
theorem plMs_lv {S f : Int} {m i : Nat} {k : Str} {n : Int} (h : PMk k n S f m) : lvlS (mkP (S * f)) (mkP (S * (f + (m - 1)))) n (mkP (S * (f + i))) = lvZ (S * f) (S * (f + (m - 1))) n (S * (f + i)) := by
  have := h.m0
  exact near_lv (Int.mul_lt_mul_of_pos_left (by omega) h.S0) (un_mkP _)
theorem plMs_ok {k : Str} {n S f : Int} {m : Nat} (h : PMk k n S f m) : MsOk (plMs S f m) n (mkP (S * f)) (mkP (S * (f + (m - 1)))) := by
  have := h.m0; have := h.m1; have := h.n1; have := h.n0
  have b0 := sf_bd h (i := 0) (by omega)
  have b1 := sf_bd h (i := m - 1) (by omega)
  rw [show f + ((0 : Nat) : Int) = f by omega] at b0
  rw [show f + ((m - 1 : Nat) : Int) = f + ((m : Int) - 1) by omega] at b1
  have p : (10 : Nat) ^ 27 ≤ 2 ^ 95 := by decide
  have lt : S * f < S * (f + (m - 1)) := Int.mul_lt_mul_of_pos_left (by omega) h.S0
  refine ⟨plMs_head h.m0, plMs_last h.m0, sc_ok (by omega) (by omega) lt h.n0 h.n1, fun x hx => ?_, by unfold plMs; rw [List.length_map, List.length_range]; omega, h.n0, h.n1⟩
  obtain ⟨i, hi, rfl⟩ := List.mem_map.mp hx
  have hi := List.mem_range.mp hi
  have bi := sf_bd h hi
  have bd := mkP_bd (u := S * (f + i)) (by omega)
  have lv := lvZ_in lt (n := n) (x := S * (f + i)) (Int.mul_le_mul_of_nonneg_left (by omega) (by have := h.S0; omega)) (Int.mul_le_mul_of_nonneg_left (by omega) (by have := h.S0; omega)) (by omega)
  rw [← plMs_lv h] at lv
  exact ⟨mk_ok bi, bd.1.mono, bd.2.mono, lv.1, lv.2⟩
end Dt
set_option Elab.async false
set_option linter.all false
set_option maxRecDepth 100000
set_option maxHeartbeats 1000000
set_option autoImplicit false
namespace Dt
open PySem PySem.Spec L2 Kx PyProof.Rows
def dIntS : List D → (R → Prop) → Prop := fun ds Ψ => ∃ (a : Str) (n : Int), ds = [.str a] ∧ PySem.intText? a = some n ∧ a.length ≤ 640 ∧ Ψ (.val (.int n))
theorem cd_intS {T : Tb} : CD T (fun xs H Q => ∃ a n, xs = [.str a] ∧ PySem.intText? a = some n ∧ a.length ≤ 640 ∧ Q (.int n) H) dIntS := cd_pure fun F H vs ds Q Ψ o hx hg k => by
  obtain ⟨a, n, rfl, c, l, h⟩ := hg
  obtain ⟨v, rfl, hv⟩ := hx.one
  exact ⟨a, n, by rw [hv.str], c, l, k _ _ h (.int _)⟩
structure BandOk (k : Str) (n : Int) (l : List Int) : Prop where
  io : ∀ x ∈ l, 0 ≤ x ∧ x ≤ n
  up : k = "stacks" ∨ k = "shares" → l.Pairwise (· ≤ ·)
  sh : k = "shares" → l.getLast? = some n ∨ ∀ x ∈ l, x = 0
structure LPl (k : Str) (w n S f : Int) (m : Nat) (lss : List (List Int)) (xs : List (Option Str)) (ss : List Str) : Prop where
  kd : IsKd k
  w0 : 1 ≤ w
  w1 : w ≤ 6
  pm : PMk k n S f m
  l0 : 1 ≤ lss.length
  l1 : lss.length ≤ 12
  ll : ∀ l ∈ lss, l.length = ss.length ∧ BandOk k n l
  xl : xs.length = lss.length
  xo : ∀ x, some x ∈ xs → Ltr x
  s0 : 1 ≤ ss.length
  s1 : ss.length ≤ 4
  so : ∀ s ∈ ss, Ltr s
theorem LPl.ok {k : Str} {w n S f : Int} {m : Nat} {lss : List (List Int)} {xs : List (Option Str)} {ss : List Str} (h : LPl k w n S f m lss xs ss) : PlOk k w n (plMs S f m) lss xs ss (mkP (S * f)) (mkP (S * (f + (m - 1)))) where
  kd := h.kd
  w0 := h.w0
  w1 := h.w1
  mo := plMs_ok h.pm
  l0 := h.l0
  l1 := h.l1
  ll := fun l hl => by have := h.s1; rw [(h.ll l hl).1]; omega
  xl := by have := h.l1; rw [h.xl]; omega
  xo := fun x hx => (h.xo x hx).2.1
  s0 := h.s0
  s1 := h.s1
  so := fun s hs => (h.so s hs).2.1
end Dt
namespace Dt
open PySem PySem.Spec L2 Kx PyProof.Rows
end Dt
set_option Elab.async false
set_option linter.all false
set_option maxRecDepth 100000
set_option maxHeartbeats 1000000
set_option autoImplicit false
namespace Kx
open PySem PySem.Spec L2 PyProof.Rows
section
variable {X : Cx}
end
end Kx
namespace Dt
open PySem PySem.Spec L2 Kx PyProof.Rows
section
variable {T : Tb}
end
end Dt
set_option Elab.async false
set_option linter.all false
set_option maxRecDepth 100000
set_option maxHeartbeats 1000000
set_option autoImplicit false
namespace Dt
open PySem PySem.Spec L2 Kx PyProof.Rows
section
variable {α β : Type}
end
end Dt
set_option Elab.async false
set_option linter.all false
set_option maxRecDepth 100000
set_option maxHeartbeats 1000000
set_option autoImplicit false
namespace Dt
open PySem PySem.Spec L2 Kx PyProof.Rows
theorem cut_fr (x : Str) {a : Int} (h0 : 0 ≤ a) (h2 : a ≤ x.length) : (cutS x (some a) none).cps.toList = x.cps.toList.drop a.toNat := by
  unfold cutS
  have e1 : HT.sIx x.length 0 (some a) = a.toNat := by
    show (if a < 0 then _ else min a.toNat x.length) = _
    rw [if_neg (by omega)]
    omega
  rw [e1, HT.sIx_none]
  show (x.cps.toList.drop a.toNat).take _ = _
  rw [List.take_of_length_le (by rw [List.length_drop, cps_len]; exact Nat.le_refl _)]
end Dt
set_option Elab.async false
set_option linter.all false
set_option maxRecDepth 100000
set_option maxHeartbeats 1000000
set_option autoImplicit false
namespace Dt
open PySem PySem.Spec L2 Kx PyProof.Rows
end Dt
set_option Elab.async false
set_option linter.all false
set_option maxRecDepth 100000
set_option maxHeartbeats 1000000
set_option autoImplicit false
namespace Dt
open PySem PySem.Spec L2 Kx PyProof.Rows
end Dt
set_option Elab.async false
set_option linter.all false
set_option maxRecDepth 100000
set_option maxHeartbeats 1000000
set_option autoImplicit false
namespace Dt
open PySem PySem.Spec L2 Kx PyProof.Rows
section
variable {T : Tb} {E : XK} {ta tb : TE} {wa wb : WE}
end
section
variable {X : Cx} {T : Tb} {E : XK} {o e : Expr} {to te : TE} {wo we : WE} {apos pos : Pos}
end
end Dt
set_option Elab.async false
set_option linter.all false
set_option maxRecDepth 100000
set_option maxHeartbeats 1000000
set_option autoImplicit false
namespace Dt
open PySem PySem.Spec L2 Kx PyProof.Rows
def gB (n S f : Int) (m : Nat) : Int := lvZ (S * f) (S * (f + (m - 1))) n 0
end Dt
set_option Elab.async false
set_option linter.all false
set_option maxRecDepth 100000
set_option maxHeartbeats 1000000
set_option autoImplicit false
namespace Dt
open PySem PySem.Spec L2 Kx PyProof.Rows
end Dt
set_option Elab.async false
set_option linter.all false
set_option maxRecDepth 100000
set_option maxHeartbeats 1000000
set_option autoImplicit false
namespace Dt
open PySem PySem.Spec L2 Kx PyProof.Rows
theorem LPl.with {k : Str} {w n S f : Int} {m : Nat} {lss ls : List (List Int)} {xs : List (Option Str)} {ss : List Str} (h : LPl k w n S f m lss xs ss) (h0 : 1 ≤ ls.length) (h1 : ls.length ≤ 12) (hl : ∀ l ∈ ls, l ∈ lss) : LPl k w n S f m ls (List.replicate ls.length none) ss :=
  { h with l0 := h0, l1 := h1, ll := fun l x => h.ll l (hl l x), xl := List.length_replicate .., xo := fun x hx => by have := (List.mem_replicate.mp hx).2; cases this }
end Dt
set_option Elab.async false
set_option linter.all false
set_option maxRecDepth 100000
set_option maxHeartbeats 1000000
set_option autoImplicit false
namespace Dt
open PySem PySem.Spec L2 Kx PyProof.Rows
end Dt
set_option Elab.async false
set_option linter.all false
set_option maxRecDepth 100000
set_option maxHeartbeats 1000000
set_option autoImplicit false
namespace Kx
open PySem PySem.Spec L2 PyProof.Rows PySem.W
section
variable {X : Cx} {o e : Expr} {to te : TE} {apos pos : Pos}
theorem pe_part (ho : PE X o to) (he : PE X e te) (hs : isStar e = false := by rfl) (hbase : attributeBase o "partition" X.env (eval o X.env) = eval o X.env := by rfl) (hline : (apos.endLine == pos.line) = true := by rfl) :
    PE X (.Call (.Attribute o "partition" apos) [e] [] pos) (tM1 (fun x xs H Q => ∃ a b, x = .str a ∧ xs = [.str b] ∧ (b.length == 0) = false ∧ a.length ≤ sizeLine ∧
      ∀ p, H p = none → Q (.ref p) (upd H p (.tup [.str (Txt.partition a b).1, .str (Txt.partition a b).2.1, .str (Txt.partition a b).2.2]))) to te) :=
  pe_m1 F.slot_str_partition F.type_str_partition mt_partition ho he (star_cons hs) hbase hline
end
end Kx
namespace Dt
open PySem PySem.Spec L2 Kx PyProof.Rows
section
variable {T : Tb} {E : XK}
def partD (a b : Str) : D := .tup [.str (Txt.partition a b).1, .str (Txt.partition a b).2.1, .str (Txt.partition a b).2.2]
def dPart : Str → D → (R → Prop) → Prop := fun a e Ψ => ∃ b : Str, e = .str b ∧ ((b.length == 0) = false ∧ a.length ≤ sizeLine) ∧ Ψ (.val (partD a b))
theorem md_part : MD T (fun x xs H Q => ∃ a b, x = .str a ∧ xs = [.str b] ∧ (b.length == 0) = false ∧ a.length ≤ sizeLine ∧
    ∀ p, H p = none → Q (.ref p) (upd H p (.tup [.str (Txt.partition a b).1, .str (Txt.partition a b).2.1, .str (Txt.partition a b).2.2]))) dPart := fun F H a y e Q Ψ o hy hg k => by
  obtain ⟨b, rfl, ⟨hb, hp⟩, h⟩ := hg
  exact ⟨a, b, rfl, by rw [hy.str], hb, hp, fun p hp => tup_ok o hp (.cons (.str _) (.cons (.str _) (.cons (.str _) .nil))) h k⟩
theorem dpart_str {a b : Str} {Ψ : R → Prop} : dPart a (.str b) Ψ = sideR ((b.length == 0) = false ∧ a.length ≤ sizeLine) (Ψ (.val (partD a b))) := propext ⟨fun ⟨_, e, h⟩ => by cases e; exact h, fun h => ⟨_, rfl, h⟩⟩
end
section
variable {X : Cx} {T : Tb} {E : XK} {o e : Expr} {to te : TE} {wo we : WE} {apos pos : Pos}
theorem q_part (ho : QE X T E o to wo) (h : QE X T E e te we) (hs : isStar e = false) (hb : attributeBase o "partition" X.env (eval o X.env) = eval o X.env) (hl : (apos.endLine == pos.line) = true) : QE X T E (.Call (.Attribute o "partition" apos) [e] [] pos) (tM1 (fun x xs H Q => ∃ a b, x = .str a ∧ xs = [.str b] ∧ (b.length == 0) = false ∧ a.length ≤ sizeLine ∧
    ∀ p, H p = none → Q (.ref p) (upd H p (.tup [.str (Txt.partition a b).1, .str (Txt.partition a b).2.1, .str (Txt.partition a b).2.2]))) to te) (wM1 dPart wo we) := ⟨pe_part ho.pe h.pe hs hb hl, ed_m1 md_part ho.ed h.ed⟩
end
end Dt
namespace Dt
open PySem PySem.Spec L2 Kx PyProof.Rows
end Dt
set_option Elab.async false
set_option linter.all false
set_option maxRecDepth 100000
set_option maxHeartbeats 1000000
set_option autoImplicit false
namespace Dt
open PySem PySem.Spec L2 Kx PyProof.Rows
def ten (p : Int × Int) : Int × Int := (lowT (10 * p.1) p.2, lowB (10 * p.1) p.2)
def Les (p : Int × Int) : Prop := -(10 ^ 11 * p.2) < p.1 ∧ p.1 < 10 ^ 11 * p.2
def rs10 (rs : List Rw) : List Rw := rs.map fun r => (r.1, r.2.map ten)
theorem ten_key {p : Int × Int} (h : 1 ≤ p.2) : 1 ≤ (ten p).2 ∧ (ten p).1 * p.2 = 10 * p.1 * (ten p).2 ∧ (ten p).2 ∣ p.2 := by
  obtain ⟨g, g0, e1, e2⟩ := low_mul (t := 10 * p.1) (b := p.2) (by omega)
  have lp := low_pos (t := 10 * p.1) (b := p.2) (by omega)
  refine ⟨lp.1, low_eq (by omega), ⟨g, ?_⟩⟩
  show p.2 = lowB (10 * p.1) p.2 * g
  rw [Int.mul_comm]
  exact e2
theorem ten_ok {p : Int × Int} (h : NumOk p) (hl : Les p) : NumOk (ten p) ∧ -(10 ^ 12 * (ten p).2) < (ten p).1 ∧ (ten p).1 < 10 ^ 12 * (ten p).2 := by
  have hp := h.pos
  obtain ⟨k1, k2, k3⟩ := ten_key hp.1
  have b1 : -(10 ^ 12 * (ten p).2) < (ten p).1 := by
    refine Int.lt_of_mul_lt_mul_right (a := p.2) ?_ (by omega)
    rw [k2]
    have := Int.mul_lt_mul_of_pos_right hl.1 (show 0 < 10 * (ten p).2 by omega)
    have e1 : -(10 ^ 11 * p.2) * (10 * (ten p).2) = -(10 ^ 12 * (ten p).2) * p.2 := by
      rw [Int.neg_mul, Int.neg_mul, show (10 : Int) ^ 12 = 10 ^ 11 * 10 by decide]
      simp only [Int.mul_comm, Int.mul_left_comm, Int.mul_assoc]
    have e2 : p.1 * (10 * (ten p).2) = 10 * p.1 * (ten p).2 := by simp only [Int.mul_comm, Int.mul_left_comm, Int.mul_assoc]
    omega
  have b2 : (ten p).1 < 10 ^ 12 * (ten p).2 := by
    refine Int.lt_of_mul_lt_mul_right (a := p.2) ?_ (by omega)
    rw [k2]
    have := Int.mul_lt_mul_of_pos_right hl.2 (show 0 < 10 * (ten p).2 by omega)
    have e1 : (10 ^ 11 * p.2) * (10 * (ten p).2) = 10 ^ 12 * (ten p).2 * p.2 := by
      rw [show (10 : Int) ^ 12 = 10 ^ 11 * 10 by decide]
      simp only [Int.mul_comm, Int.mul_left_comm, Int.mul_assoc]
    have e2 : p.1 * (10 * (ten p).2) = 10 * p.1 * (ten p).2 := by simp only [Int.mul_comm, Int.mul_left_comm, Int.mul_assoc]
    omega
  refine ⟨⟨?_, Int.dvd_trans k3 h.2.1, by omega, by omega⟩, b1, b2⟩
  exact lw_low (by omega)
structure T10 (ss : List Str) (rs : List Rw) : Prop where
  ok : TblOk ss rs
  les : ∀ r ∈ rs, ∀ p ∈ r.2, Les p
theorem T10.num {ss : List Str} {rs : List Rw} (h : T10 ss rs) {r : Rw} (hr : r ∈ rs) {p : Int × Int} (hp : p ∈ r.2) : NumOk p ∧ Les p := ⟨(h.ok.rok r hr).2.2 p hp, h.les r hr p hp⟩
theorem T10.tbl {ss : List Str} {rs : List Rw} (h : T10 ss rs) : TblOk ss (rs10 rs) where
  s0 := h.ok.s0
  s1 := h.ok.s1
  sok := h.ok.sok
  r0 := by unfold rs10; rw [List.length_map]; exact h.ok.r0
  r1 := by unfold rs10; rw [List.length_map]; exact h.ok.r1
  rok := fun r hr => by
    obtain ⟨q, hq, rfl⟩ := List.mem_map.mp hr
    refine ⟨(h.ok.rok q hq).1, by show (q.2.map ten).length = _; rw [List.length_map]; exact (h.ok.rok q hq).2.1, fun p hp => ?_⟩
    obtain ⟨x, hx, rfl⟩ := List.mem_map.mp hp
    exact (ten_ok (h.num hq hx).1 (h.num hq hx).2).1
  rb := fun r hr p hp => by
    obtain ⟨q, hq, rfl⟩ := List.mem_map.mp hr
    obtain ⟨x, hx, rfl⟩ := List.mem_map.mp hp
    exact (ten_ok (h.num hq hx).1 (h.num hq hx).2).2
theorem SortK.le {g : Nat → Int} {n : Nat} {ns : List Nat} (so : SortK g n ns) : ns.Pairwise fun i j => g i < g j ∨ (g i = g j ∧ i ≤ j) := List.pairwise_iff_forall_sublist.mpr fun {a b} h => by
  have r := List.pairwise_iff_forall_sublist.mp so.rise h
  by_cases z : g a = g b
  · refine .inr ⟨z, ?_⟩
    have f := h.filter (fun i => g i == g b)
    rw [so.stay] at f
    have f2 := f.trans List.filter_sublist
    have e : [a, b].filter (fun i => g i == g b) = [a, b] := by simp [z]
    rw [e] at f2
    have := List.pairwise_iff_forall_sublist.mp List.pairwise_lt_range f2
    omega
  · exact .inl (by omega)
theorem SortK.uniq {g : Nat → Int} {n : Nat} {ns ms : List Nat} (so : SortK g n ns) (so' : SortK g n ms) : ns = ms := by
  have p := so.perm.trans so'.perm.symm
  refine p.eq_of_pairwise (le := fun i j => g i < g j ∨ (g i = g j ∧ i ≤ j)) (fun a b _ _ h1 h2 => ?_) (SortK.le so) (SortK.le so')
  omega
end Dt
set_option Elab.async false
set_option linter.all false
set_option maxRecDepth 100000
set_option maxHeartbeats 1000000
set_option autoImplicit false
namespace Dt
open PySem PySem.Spec L2 Kx PyProof.Rows
section
variable {k : Str} {w n : Int} {ms : List (Int × Int)} {lss : List (List Int)} {xs : List (Option Str)} {ss : List Str} {a z : Int × Int}
end
end Dt
set_option Elab.async false
set_option linter.all false
set_option maxRecDepth 100000
set_option maxHeartbeats 1000000
set_option autoImplicit false
namespace Dt
open PySem PySem.Spec L2 Kx PyProof.Rows
section
variable {k : Str} {w n : Int} {ms : List (Int × Int)} {lss : List (List Int)} {xs : List (Option Str)} {ss : List Str} {a z : Int × Int}
end
section
variable {k : Str} {w n : Int} {ms : List (Int × Int)} {lss : List (List Int)} {xs : List (Option Str)} {ss : List Str} {a z : Int × Int}
end
end Dt
set_option Elab.async false
set_option linter.all false
set_option maxRecDepth 100000
set_option maxHeartbeats 1000000
set_option autoImplicit false
namespace Kx
open PySem PySem.Spec L2 PyProof.Rows PySem.W
section
variable {X : Cx}
end
end Kx
namespace Dt
open PySem PySem.Spec L2 Kx PyProof.Rows
section
variable {T : Tb} {E : XK}
def kD : Key → D
  | .inl i => .int i
  | .inr x => .str x
theorem PRep.dic {F H : Hp} {v : V} {ks : List Key} {ds : List D} (s : Same F H) (h : PRep T.K F H v (.dic ks ds)) : ∃ a vs, v = .ref a ∧ H a = some (.dK (ks.zip vs)) ∧ ks.length = vs.length ∧ RepA T.K F vs ds := by
  rcases h with h | ⟨_, _, _, _, e, _⟩
  · cases h with
    | dic h l r => exact ⟨_, _, rfl, s _ _ h, l, r⟩
  · cases e
theorem PRep.key {F H : Hp} {v : V} {k : Key} (h : PRep T.K F H v (kD k)) : v = kV k := by
  cases k with
  | inl i => exact h.int
  | inr x => exact h.str
theorem Rep.key {F : Hp} {v : V} {k : Key} (h : Rep T.K F v (kD k)) : v = kV k := by
  cases k with
  | inl i => cases h; rfl
  | inr x => cases h; rfl
end
end Dt
set_option Elab.async false
set_option linter.all false
set_option maxRecDepth 100000
set_option autoImplicit false
namespace L2
open PySem PySem.Spec PyProof.Rows
theorem setGen_size (s : Shared) (g : Nat) (x : GenState) : (s.setGen g x).gens.size = s.gens.size := by
  show (s.gens.setIfInBounds g x).size = _
  exact Array.size_setIfInBounds
theorem runs_gens {M : Model} {Γ : PySem.Ctx} {p : Pos} {t : Sem PySem.Fin} {fs : List PySem.Frame} {s s' : Shared} {e : End} (h : Runs M Γ p t fs s e s') : s.gens.size ≤ s'.gens.size := by
  induction h with
  | newGen _ ih => simp only [Array.size_push] at ih; omega
  | _ => first | omega | (simp only [setGen_size] at *; omega)
theorem wakes_gens {M : Model} {Γ : PySem.Ctx} {p : Pos} {g : Nat} {r : Resume} {s s' : Shared} {res : GenResult} (h : Wakes M Γ p g r s res s') : s.gens.size ≤ s'.gens.size := by
  unfold Wakes at h
  split at h
  · exact h.elim
  · split at h
    · obtain ⟨e, s1, h1, _, _, rfl⟩ := h
      have := runs_gens h1
      simp only [setGen_size] at *; omega
    · obtain ⟨_, rfl⟩ := h; exact Nat.le_refl _
    · obtain ⟨_, rfl⟩ := h; rw [setGen_size]; exact Nat.le_refl _
  · obtain ⟨e, s1, h1, _, _, rfl⟩ := h
    have := runs_gens h1
    simp only [setGen_size] at *; omega
  · obtain ⟨_, rfl⟩ := h; exact Nat.le_refl _
  · obtain ⟨_, rfl⟩ := h; exact Nat.le_refl _
theorem wp_gens {M : Model} {Γ : PySem.Ctx} {α : Type} {n : Nat} (t : Sem α) : ∀ (Q : α → Pos → Shared → Prop) (E : Value → Pos → Shared → Prop) (p : Pos) (s : Shared), n ≤ s.gens.size → Sem.wp M Γ t Q E p s → Sem.wp M Γ t (fun a p' s' => n ≤ s'.gens.size ∧ Q a p' s') (fun e p' s' => n ≤ s'.gens.size ∧ E e p' s') p s := by
  induction t with
  | pure a => intro Q E p s hn h; rw [Sem.wp] at h ⊢; exact ⟨hn, h⟩
  | raise x => intro Q E p s hn h; rw [Sem.wp] at h ⊢; exact ⟨hn, h⟩
  | call c h g l k ih =>
    intro Q E p s hn h
    rw [Sem.wp] at h ⊢
    obtain ⟨r, s1, hr, hq⟩ := h
    exact ⟨r, s1, hr, ih r Q E p s1 (Nat.le_trans hn (runs_gens hr)) hq⟩
  | resume g r l k ih =>
    intro Q E p s hn h
    rw [Sem.wp] at h ⊢
    obtain ⟨r, s1, hr, hq⟩ := h
    exact ⟨r, s1, hr, ih r Q E p s1 (Nat.le_trans hn (wakes_gens hr)) hq⟩
  | newGen c k ih =>
    intro Q E p s hn h
    rw [Sem.wp] at h ⊢
    exact ih _ Q E p _ (by simp only [Array.size_push]; omega) h
  | load a p k ih =>
    intro Q E p s hn h
    rw [Sem.wp] at h ⊢
    obtain ⟨o, h1, h2⟩ := h
    exact ⟨o, h1, ih _ Q E p _ hn h2⟩
  | genState a k ih =>
    intro Q E p s hn h
    rw [Sem.wp] at h ⊢
    obtain ⟨o, h1, h2⟩ := h
    exact ⟨o, h1, ih _ Q E p _ hn h2⟩
  | update a pt f k ih =>
    intro Q E p s hn h
    rw [Sem.wp] at h ⊢
    exact ⟨h.1, ih _ Q E p _ hn h.2⟩
  | choose a pt f ih =>
    intro Q E p s hn h
    rw [Sem.wp] at h ⊢
    exact ⟨h.1, ih _ Q E p _ hn h.2⟩
  | _ =>
    intro Q E p s hn h
    rw [Sem.wp] at h ⊢
    first
      | exact h
      | exact h.elim
      | (rename_i ih; exact ih _ Q E _ _ hn h)
theorem wpAny_gens {M : Model} {A : Around} {α : Type} {t : Sem α} {Q : α → Shared → Prop} {E : Value → Shared → Prop} {s : Shared} {n : Nat} (hn : n ≤ s.gens.size) (h : wpAny M A t Q E s) : wpAny M A t (fun a s' => n ≤ s'.gens.size ∧ Q a s') (fun e s' => n ≤ s'.gens.size ∧ E e s') s :=
  fun Γ p hΓ => wp_gens t _ _ p s hn (h Γ p hΓ)
end L2
set_option Elab.async false
set_option linter.all false
set_option maxRecDepth 100000
set_option autoImplicit false
namespace L2
open PySem PySem.Spec PyProof.Rows PySem.W
def cxGen (X : Cx) (A : Around) (env : Env) (s : Shared) (H : Hp) (fp : List Addr) : Cx where
  prog := X.prog
  w := X.w
  K := X.K
  mg := X.mg
  base := X.base
  A := A
  N := X.N
  s_0 := s
  H_0 := H
  env := env
  outer := X.stack
  stack := env :: X.stack
  ex := fp
  calm := true
  fn := fun _ => false
  pn := []
  xe := fun _ _ => False
abbrev genE (X : Cx) (scope : Scope) (C : Addr) (code : Value) : Env := genEnv scope (cloFrom X.env.cells scope.names []) C code builtinsNs X.env
section
variable {X : Cx} {pins : List (Addr × Obj)} {σ : St} {H : Hp} {s : Shared}
theorem gen_start {A : Around} {scope : Scope} {own : List (Str × Nat)} {fp : List Addr} {code it : Value} {h' : Heap} {g' : Array GenState} {tk : Nat} {a : Addr} {oa : Obj}
    (I : Inv X pins σ H s) (ok : BlkOk X.N X.env.scope scope own) (hN : X.N.Nodup) (hnc : ∀ y ∈ scope.names, y.2 ≠ .cell) (hfp : ∀ b ∈ fp, FpOk X pins H b ∧ b < s.heap.objs.size)
    (hA : A.frames = some (genE X scope s.heap.objs.size code :: X.stack)) (hh : A.handled = none)
    (hns : h'.Ns s.heap.objs.size (fun y => if y = (".0" : Str) then some it else none)) (hk : ∀ b o, s.heap.get? b = some o → h'.get? b = some o) (hg : AllBare g')
    (ha : h'.get? a = some oa) (hsz : s.heap.objs.size < a) (hoa : ∀ v, oa.data ≠ .cell v) :
    Inv (cxGen X A (genE X scope s.heap.objs.size code) s H fp) [(a, oa)] (wipe σ (own.map (·.2))) H { s with heap := h', gens := g', toks := tk } := by
  have hfree : ∀ y ∈ scope.names, y.2 = .free → ∃ c, X.env.cells.lookup y.1 = some c := fun y hy e => by
    rcases ok.free y hy e with k | k
    · exact I.ok.has _ (.inl k)
    · exact I.ok.has _ (.inr k)
  have cm : ∀ {y c}, (y, c) ∈ cloFrom X.env.cells scope.names [] → X.env.cells.lookup y = some c ∧ c < s.heap.objs.size := fun {y c} hm => by
    rcases cloFrom_mem hm with hm | ⟨h1, rfl⟩
    · cases hm
    · obtain ⟨c, hc⟩ := hfree _ h1 rfl
      rw [hc]
      obtain ⟨w, z⟩ := I.cell _ _ hc
      exact ⟨rfl, z.lt⟩
  have look : ∀ {y}, scope.names.lookup y = some .free → ∃ c, (cloFrom X.env.cells scope.names []).lookup y = some c ∧ X.env.cells.lookup y = some c := fun {y} hl => by
    have hy : (y, NameKind.free) ∈ scope.names := PySem.mem_of_lookup hl
    obtain ⟨c', e'⟩ := mem_lookup (cloFrom_has (cells := X.env.cells) (acc := []) hy)
    exact ⟨c', e', (cm (PySem.mem_of_lookup e')).1⟩
  have okB : (cxGen X A (genE X scope s.heap.objs.size code) s H fp).Ok := by
    refine ⟨I.ok.mod, ok.kind, I.ok.glob, rfl, Nat.le_refl _, fun y z c e1 e2 => I.ok.inj y z c (cm (PySem.mem_of_lookup e1)).1 (cm (PySem.mem_of_lookup e2)).1, fun y hy => ?_, fun y c z e => (by cases z), fun _ => hh, hA, .inr ⟨rfl, rfl⟩, fun b hb => ⟨?_, fun y c e z => ?_⟩, I.bs, Nat.le_trans I.ok.bsz I.sz, fun b o e hb => ?_, fun b hb z => ?_, I.stack, I.stkFree⟩
    · have hy : scope.names.lookup y = some .cell ∨ scope.names.lookup y = some .free := hy
      rcases hy with hy | hy
      · exact absurd rfl (hnc _ (PySem.mem_of_lookup hy))
      · obtain ⟨c, e, _⟩ := look hy
        exact ⟨c, e⟩
    · exact Nat.ne_of_lt (hfp b hb).2
    · exact (hfp b hb).1.2.2.2.2.1 y c (cm (PySem.mem_of_lookup e)).1 z
    · rcases (hfp b hb).1.2.2.2.1 with z | z
      · exact I.ok.noex b o e z
      · exact absurd (Nat.lt_of_lt_of_le (Heap.lt_size e) (Nat.le_trans I.ok.bsz z)) (Nat.lt_irrefl _)
    · rcases List.mem_cons.mp (I.stkSub b z) with z | z
      · exact (hfp b hb).1.2.1 z
      · exact (hfp b hb).1.2.2.1 z
  refine ⟨okB, rfl, hg, Un.kept hk, ⟨_, hns, fun i y av e1 e2 e3 => ?_⟩, fun y c e => ?_, I.hok.fresh (Nat.le_refl _), fun y c e => I.freeC y c (cm (PySem.mem_of_lookup e)).1, fun p hp => ?_, I.hok.kept hk, by rw [wipe_length]; exact I.len⟩
  · obtain ⟨e2, hne⟩ := wipe_some e2
    have own' : scope.names.lookup y = some .local → False := fun hl => by
      rcases ok.own _ (PySem.mem_of_lookup hl) (.inl rfl) with e' | e'
      · obtain ⟨p, hp, hpy⟩ := List.mem_map.mp e'
        have e4 := ok.ix p hp
        have : p.1 = y := hpy
        rw [this] at e4
        exact hne (List.mem_map.mpr ⟨p, hp, nodup_ix hN e4 e1⟩)
      · exact e' (List.mem_of_getElem? e1)
    have e3 : Vis scope y := e3
    rcases e3 with e3 | e3 | e3
    · exact (own' e3).elim
    · exact absurd rfl (hnc _ (PySem.mem_of_lookup e3))
    · obtain ⟨m, hn, hl⟩ := I.loc
      have hvis : Vis X.env.scope y := (ok.free _ (PySem.mem_of_lookup e3) rfl).elim (fun k => .inr (.inl k)) (fun k => .inr (.inr k))
      obtain ⟨w, r, q⟩ := hl i y av e1 e2 hvis
      refine ⟨w, r, .inr ⟨.inr e3, ?_⟩⟩
      obtain ⟨c, h1, h2⟩ := look e3
      rcases q with ⟨k, _⟩ | ⟨_, c', e', z⟩
      · have k : X.env.scope.names.lookup y = some .local := k
        rcases ok.free _ (PySem.mem_of_lookup e3) rfl with k' | k' <;> rw [show X.env.scope.names.lookup y = _ from k'] at k <;> cases k
      · rw [h2] at e'; cases e'
        exact ⟨c, h1, z.keeps hk⟩
  · obtain ⟨w, z⟩ := I.cell y c (cm (PySem.mem_of_lookup e)).1
    exact ⟨w, z.keeps hk⟩
  · have e : p = (a, oa) := by simpa [cxGen] using hp
    subst e
    refine ⟨ha, I.hok.fresh (Nat.le_of_lt hsz), Nat.ne_of_gt hsz, fun z => ?_, hoa⟩
    have z : a ∈ frs X.stack := z
    rcases List.mem_cons.mp (I.stkSub a z) with z | z
    · exact absurd (z ▸ I.lt) (Nat.not_lt_of_gt hsz)
    · exact I.nofs (Nat.le_of_lt hsz) z
theorem Inv.gend {g' : Array GenState} {t' : Nat} {h' : Heap} (I : Inv X pins σ H s) (hg : AllBare g') (hk : ∀ b o, s.heap.get? b = some o → h'.get? b = some o) : Inv X pins σ H { s with heap := h', gens := g', toks := t' } :=
  I.step (d' := s.drawn) (ch := []) (fun _ z => nomatch z) (fun b o _ _ _ e _ => hk b o e) (fun b o _ _ _ e _ => ⟨o.slots, hk b o e⟩) (fun _ _ _ _ n => n) (fun b o _ e => ⟨o, hk b o e⟩) (fun _ _ e => e) (fun _ _ _ e => e) (fun b ps e => ⟨#[], by rw [e]; simp⟩) (fun m hm => hm.keeps hk) (I.hok.kept hk) hg
end
end L2
set_option Elab.async false
set_option linter.all false
set_option maxRecDepth 100000
set_option autoImplicit false
namespace L2
open PySem PySem.Spec PyProof.Rows PySem.W
abbrev gExp (elt tg iter : Expr) (scope : Scope) (gpos : Pos) : Expr := .GeneratorExp elt [⟨tg, iter, [], 0⟩] scope gpos
abbrev gCode (elt tg iter : Expr) (scope : Scope) (gpos : Pos) (it : Value) (env : Env) : Code := .compLoop (gExp elt tg iter scope gpos) 0 it .none env
def GRest (Y : Cx) (pins : List (Addr × Obj)) (σ : St) (fp : List Addr) (tn : Nat → Heap → Prop) (W : Nat → Nat → Hp → Prop) (g n : Nat) (s : Shared) : Prop :=
  ∃ i m H', m < n ∧ W i m H' ∧ Inv Y pins σ H' s ∧ tn i s.heap ∧ (∀ b ∈ fp, H' b = none) ∧ g < s.gens.size
def GFail (Y : Cx) (pins : List (Addr × Obj)) (g : Nat) (Q : VK) (s : Shared) : Prop := ∃ σ8 H', Inv Y pins σ8 H' s ∧ g < s.gens.size ∧ Q (.bl false) H'
def GDone (Y : Cx) (pins : List (Addr × Obj)) (σ : St) (g : Nat) (Q : VK) (s : Shared) : Prop := ∃ H', Inv Y pins σ H' s ∧ g < s.gens.size ∧ Q (.bl true) H'
def genYd (rest : Nat → Shared → Prop) (fail : Shared → Prop) : Protocol := fun n _ v s κ => ∃ b, v = .bool b ∧ if b = true then rest n s ∧ ∀ s'', rest n s'' → κ (.send .none) s'' else fail s
def GTurn (J : It) (W : Nat → Nat → Hp → Prop) (gt : TG) (te : TE) (σ : St) (vs : List Nat) (Q : VK) : Prop := ∀ i m H, W i m H →
  (J.stop i H ∧ Q (.bl true) H) ∨ (J.go i H ∧ ∃ Nx : Hp → Prop, (∀ H', Nx H' → ∃ m', m' < m ∧ W (i + 1) m' H') ∧ ∀ x H', J.yld i H x H' → gt x (wipe σ vs) H' fun σ2 H2 => wipe σ2 vs = wipe σ vs ∧ te σ2 H2 fun y H3 => ∃ b, y = .bl b ∧ if b = true then Nx H3 else Q (.bl false) H3)
theorem seg_genL {X : Cx} {A1 : Around} {elt tg iter : Expr} {scope : Scope} {gpos : Pos} {it : Addr} {env : Env} {s0 : Shared} {H0 : Hp} {fp : List Addr} {tn : Nat → Heap → Prop} {J : It} {W : Nat → Nat → Hp → Prop} {gt : TG} {te : TE} {σ : St} {vs : List Nat} {Q : VK} {pins : List (Addr × Obj)} {g : Nat}
    (T : Turn X.prog X.w X.K tg J fp it tn) (hp : ∀ p ∈ pins, ∀ b ∈ fp, p.1 ≠ b) (hco : env.scope.isCoroutine = false)
    (hg : PG (cxGen X (A1.over (gCode elt tg iter scope gpos (.ref it) env) []) env s0 H0 fp) tg gt) (he : PE (cxGen X (A1.over (gCode elt tg iter scope gpos (.ref it) env) []) env s0 H0 fp) elt te) (turn : GTurn J W gt te σ vs Q) :
    ∀ (n : Nat) (s₀ s : Shared), GRest (cxGen X (A1.over (gCode elt tg iter scope gpos (.ref it) env) []) env s0 H0 fp) pins (wipe σ vs) fp tn W g n s →
      Seg (model X.prog X.w) A1 (fun _ _ r s => r = .ok .next ∧ GDone (cxGen X (A1.over (gCode elt tg iter scope gpos (.ref it) env) []) env s0 H0 fp) pins (wipe σ vs) g Q s) (genYd (GRest (cxGen X (A1.over (gCode elt tg iter scope gpos (.ref it) env) []) env s0 H0 fp) pins (wipe σ vs) fp tn W g) (GFail (cxGen X (A1.over (gCode elt tg iter scope gpos (.ref it) env) []) env s0 H0 fp) pins g Q))
        n s₀ (gCode elt tg iter scope gpos (.ref it) env) ((model X.prog X.w).den (gCode elt tg iter scope gpos (.ref it) env)) [] s := by
  generalize hY : cxGen X (A1.over (gCode elt tg iter scope gpos (.ref it) env) []) env s0 H0 fp = Y at hg he ⊢
  have yA : Y.A = A1.over (gCode elt tg iter scope gpos (.ref it) env) [] := by rw [← hY]; rfl
  have yP : Y.prog = X.prog := by rw [← hY]; rfl
  have yw : Y.w = X.w := by rw [← hY]; rfl
  have yK : Y.K = X.K := by rw [← hY]; rfl
  have ye : Y.env = env := by rw [← hY]; rfl
  have yc : Y.calm = true := by rw [← hY]; rfl
  have yx : Y.ex = fp := by rw [← hY]; rfl
  have yn : Y.pn = [] := by rw [← hY]; rfl
  have yxe : Y.xe = fun _ _ => False := by rw [← hY]; rfl
  have stat : ∀ {σ' : St} {H' : Hp} {s' : Shared}, Inv Y pins σ' H' s' → (∀ b ∈ fp, H' b = none) → ∀ b ∈ fp, FpOk Y pins H' b := fun {σ' H' s'} I' hn b hb =>
    ⟨hn b hb, (I'.ok.exf b (yx ▸ hb)).1, I'.ok.exfs b (yx ▸ hb), .inl (yx ▸ hb), fun x c e => (I'.ok.exf b (yx ▸ hb)).2 x c e, fun p hp' => by
      rw [yn] at hp'
      exact hp p (by simpa using hp') b hb⟩
  have td0 := fun i s σ H I f t st => T.done Y yP yw yK yc i pins s σ H (fun _ _ => False) I f t st
  have ti0 := fun i s σ H I f t st => T.item Y yP yw yK yc i pins s σ H (fun _ _ => False) I f t st
  have pg : ∀ (pins : List (Addr × Obj)) s σ H v u Q, Inv Y pins σ H s → RelV v u → gt v σ H Q → wpAny (model X.prog X.w) Y.A (assign tg env u) (fun _ s' => ∃ σ' H', Inv Y pins σ' H' s' ∧ Q σ' H') (fun _ _ => False) s := fun pins s σ H v u Q I r h => by
    have z := hg pins s σ H v u Q I r h
    rw [yP, yw, ye, yxe] at z
    exact z
  have pe : ∀ (pins : List (Addr × Obj)) s σ H Q, Inv Y pins σ H s → te σ H Q → wpAny (model X.prog X.w) Y.A (eval elt env) (EP Y pins σ Q) (fun _ _ => False) s := fun pins s σ H Q I h => by
    have z := he pins s σ H Q I h
    rw [yP, yw, ye, yxe] at z
    exact z
  rw [yA] at td0 ti0 pg pe
  intro n
  induction n with
  | zero =>
    rintro s₀ s ⟨i, m, H', hm, _⟩
    omega
  | succ n ih =>
    rintro s₀ s5 ⟨i, m, H5, hm, w5, I5, st5, n5, gs5⟩
    show Seg _ _ _ _ _ _ _ (Sem.onRaise (compTurn (gExp elt tg iter scope gpos) 0 (.ref it) .none env) (leaving env)) [] s5
    rw [Sem.onRaise_eq_wrap, compTurn_gen]
    refine seg_bind_wrap (wpAny_standAt ?_)
    refine seg_bind_wrap ?_
    rcases turn i m H5 w5 with ⟨stop, qq⟩ | ⟨go, Nx, hNx, step⟩
    · refine thnF (wpAny_mono (wpAny_gens gs5 (td0 i s5 _ H5 I5 (stat I5 n5) st5 stop)) (fun _ _ z => z) fun _ _ z => z.2.elim) fun r s6 ⟨g6, hr, I6⟩ => ?_
      subst hr
      exact seg_end (.ok .next) ⟨rfl, H5, I6, g6, qq⟩
    · refine thnF (wpAny_mono (wpAny_gens gs5 (ti0 i s5 _ H5 I5 (stat I5 n5) st5 go)) (fun _ _ z => z) fun _ _ z => z.2.elim) fun r s6 ⟨g6, u, hr, h6⟩ => ?_
      subst hr
      refine seg_bind_wrap ?_
      refine thnF (wpAny_mono (wpAny_gens g6 h6) (fun _ _ z => z) fun _ _ z => z.2.elim) fun _ s7 ⟨g7, x, H7, I7, r7, y7, st7, n7⟩ => ?_
      have I7' := I7.pinned (stat I7 n7) (T.obj _ _ st7)
      refine seg_bind_wrap ?_
      refine thnF (wpAny_mono (wpAny_gens g7 (pg _ s7 _ H7 x u _ I7' r7 (step x H7 y7))) (fun _ _ z => z) fun _ _ z => z.2.elim) fun _ s8 ⟨g8, σ8, H8, I8, hw8, q8⟩ => ?_
      refine seg_bind_wrap (wpAny_tests_nil ?_)
      show Seg _ _ _ _ _ _ _ (Sem.wrap _ _ id id ((do let v ← eval elt env; standAt elt.pos; let _ ← yieldOut env v; pure ()) >>= fun _ => again (gCode elt tg iter scope gpos (.ref it) env))) [] s8
      rw [Sem.bind_eq_wrap', Sem.wrap_wrap]
      refine seg_bind_wrap ?_
      refine thnF (wpAny_mono (wpAny_gens g8 (pe _ s8 σ8 H8 _ I8 q8)) (fun _ _ z => z) fun _ _ z => z.2.elim) fun z s9 ⟨g9, yv, H9, I9, r9, b, hb, q9⟩ => ?_
      refine seg_bind_wrap (wpAny_standAt ?_)
      have ey : yieldOut env z = Sem.yield z false [] (fun r => match r with | .send x => Sem.pure x | .throw e => raiseThrown e) := by
        unfold yieldOut
        rw [if_neg (by rw [hco]; decide)]
        rfl
      rw [ey, Sem.bind_eq_wrap', Sem.wrap_wrap, Sem.wrap.eq_22]
      subst hb
      have r9 : z = .bool b := r9
      refine seg_yield rfl rfl rfl ⟨b, r9, ?_⟩
      cases b with
      | false => exact ⟨σ8, H9, I9.unpinned, g9, q9⟩
      | true =>
        simp only [if_true] at q9 ⊢
        obtain ⟨m', hm', w'⟩ := hNx H9 q9
        have pin' : ∀ b ∈ fp, ∀ o, s7.heap.get? b = some o → s9.heap.get? b = some o ∧ H9 b = none := fun b hb o e =>
          let z := I9.pin (b, o) (List.mem_append_right _ (List.mem_append_right _ (mem_pinsAt hb e)))
          ⟨z.1, z.2.1⟩
        have hl : (wipe σ vs).length = σ8.length := by rw [← hw8, wipe_length]
        refine ⟨⟨i + 1, m', H9, by omega, w', (I9.unpinned (pins := pins)).weak hl (fun j v e => ?_), T.keep _ _ _ st7 fun b hb o e => (pin' b hb o e).1, fun b hb => ?_, g9⟩, fun s'' hr => ?_⟩
        · rw [← hw8] at e
          exact (wipe_some e).1
        · obtain ⟨o, e, _⟩ := T.obj _ _ st7 b hb
          exact (pin' b hb o e).2
        · show Seg _ _ _ _ _ _ _ (Sem.pure (Fin.again (gCode elt tg iter scope gpos (.ref it) env))) [] s''
          exact seg_again rfl (ih s'' s'' hr)
end L2
set_option Elab.async false
set_option linter.all false
set_option maxRecDepth 100000
set_option autoImplicit false
namespace L2
open PySem PySem.Spec PyProof.Rows PySem.W
theorem bare_set {gs : Array GenState} {g : Nat} {x : GenState} (h : AllBare gs) (hx : x.bare = true) : AllBare (gs.setIfInBounds g x) := by
  intro y hy
  rcases Array.mem_or_eq_of_mem_setIfInBounds hy with z | rfl
  · exact h y z
  · exact hx
theorem GRest.gens {Y : Cx} {pins : List (Addr × Obj)} {σ : St} {fp : List Addr} {tn : Nat → Heap → Prop} {W : Nat → Nat → Hp → Prop} {g n : Nat} {s : Shared} {x : GenState} {tk : Nat} (h : GRest Y pins σ fp tn W g n s) (hx : x.bare = true) : GRest Y pins σ fp tn W g n ({ s with toks := tk }.setGen g x) := by
  obtain ⟨i, m, H', h1, h2, I, h3, h4, h5⟩ := h
  exact ⟨i, m, H', h1, h2, I.gend (bare_set I.bare hx) fun _ _ e => e, h3, h4, by rw [setGen_size]; exact h5⟩
def AllR (Y : Cx) (Q : VK) (r : Result) (s : Shared) : Prop := ∃ b pins σ H', r = .ok (.ret (.bool b)) ∧ Inv Y pins σ H' s ∧ Q (.bl b) H'
theorem all_loop {X Y : Cx} {A : Around} {a : Addr} {oa : Obj} {nm qn : Value} {σ : St} {fp : List Addr} {tn : Nat → Heap → Prop} {W : Nat → Nat → Hp → Prop} {g : Nat} {Q : VK} (hh : A.handled = none) (hd : (A.under (.builtin "all.loop" ⟨[.ref a], []⟩)).depth < recursionLimit)
    (o1 : oa.cls = .type "generator") (o2 : oa.data = .fields #[.int g 0, nm, qn]) (o3 : oa.slots = #[]) :
    ∀ (n : Nat) (s : Shared) (gs : GenState), GRest Y [(a, oa)] σ fp tn W g n s → s.gens[g]? = some gs →
      (∀ s'', GRest Y [(a, oa)] σ fp tn W g n s'' → GenState.Goes (model X.prog X.w) (A.under (.builtin "all.loop" ⟨[.ref a], []⟩)).in1 (fun _ _ r s => r = .ok .next ∧ GDone Y [(a, oa)] σ g Q s) (genYd (GRest Y [(a, oa)] σ fp tn W g) (GFail Y [(a, oa)] g Q)) n gs (.send .none) s'') →
      codeAny (model X.prog X.w) A (.builtin "all.loop" ⟨[.ref a], []⟩) (AllR Y Q) s := by
  intro n
  induction n with
  | zero =>
    rintro s gs ⟨i, m, H', hm, _⟩
    omega
  | succ n ih =>
    intro s gs hr hg hgo
    refine codeAny_builtin F.entry_all_loop ?_
    show wpAny _ _ (pyNext (.ref a) >>= _) _ _ s
    have hr0 := hr
    obtain ⟨i, m, H', hm, w, I, st, nf, gsz⟩ := hr
    have isg : s.heap.IsGen a g := ⟨oa, nm, qn, (I.pin (a, oa) (List.mem_append_right _ (List.mem_singleton.mpr rfl))).1, o1, o2, o3⟩
    refine wpAny_bind (wpAny_pyNext_genexpQ (n := n + 1) (P := fun _ _ s => GDone Y [(a, oa)] σ g Q s) hh I.nolimit hd isg hg (hgo _ (hr0.gens (tk := s.toks) rfl)) (fun v s1 gs' hb hy => ?_) fun s1 hdn h' hk => ?_)
    · obtain ⟨b, rfl, hy⟩ := hy
      cases b with
      | false =>
        obtain ⟨σ8, H8, I8, g8, q8⟩ := hy
        refine wpAny_bind (wpAny_holding (wpAny_truthy_bool (wpAny_bind (wpAny_letGo ?_))))
        simp only [Bool.false_eq_true, if_false]
        refine wpAny_bind (wpAny_rule ?_)
        exact wpAny_pure ⟨false, _, σ8, H8, rfl, I8.gend (bare_set I8.bare hb) fun _ _ e => e, q8⟩
      | true =>
        obtain ⟨hr1, hk1⟩ := hy
        refine wpAny_bind (wpAny_holding (wpAny_truthy_bool (wpAny_bind (wpAny_letGo ?_))))
        simp only [if_true]
        have g1 : g < s1.gens.size := by
          obtain ⟨_, _, _, _, _, _, _, _, z⟩ := hr1
          exact z
        refine wpAny_pure ⟨rfl, ih _ gs' (hr1.gens (tk := s1.toks) hb) ?_ fun s'' h'' => hk1 s'' h''⟩
        show (s1.gens.setIfInBounds g gs')[g]? = some gs'
        rw [Array.getElem?_setIfInBounds_self_of_lt g1]
    · obtain ⟨H9, I9, g9, q9⟩ := hdn
      refine wpAny_bind (wpAny_rule ?_)
      exact wpAny_pure ⟨true, _, σ, H9, rfl, I9.gend (bare_set I9.bare rfl) hk, q9⟩
end L2
set_option Elab.async false
set_option linter.all false
set_option maxRecDepth 100000
set_option autoImplicit false
namespace L2
open PySem PySem.Spec PyProof.Rows PySem.W Kx
abbrev sCode (elt tg iter : Expr) (scope : Scope) (gpos : Pos) (it : Value) (env : Env) : Code := .compStart (gExp elt tg iter scope gpos) 0 it .none env
abbrev allA (A : Around) (a : Addr) : Around := (A.under (.builtin "all.loop" ⟨[.ref a], []⟩)).in1
theorem seg_genS {P : Program} {w : World} {K : PySem.W.Frag} {A1 : Around} {R : GenEnd} {Yp : Protocol} {elt tg iter : Expr} {scope : Scope} {gpos : Pos} {it : Addr} {env : Env} {fp : List Addr} {tn : Nat → Heap → Prop} {J : It} {n i : Nat} {s₀ s : Shared}
    (T : Turn P w K tg J fp it tn) (st : tn i s.heap) (h : Seg (model P w) A1 R Yp n s₀ (gCode elt tg iter scope gpos (.ref it) env) ((model P w).den (gCode elt tg iter scope gpos (.ref it) env)) [] s) :
    Seg (model P w) A1 R Yp n s₀ (sCode elt tg iter scope gpos (.ref it) env) ((model P w).den (sCode elt tg iter scope gpos (.ref it) env)) [] s := by
  show Seg _ _ _ _ _ _ _ (Sem.onRaise (compStart (gExp elt tg iter scope gpos) 0 (.ref it) .none env) (leaving env)) [] s
  rw [Sem.onRaise_eq_wrap]
  unfold compStart
  rw [if_neg (by show ¬ ((0 : Nat) != 0) = true; decide)]
  refine seg_bind_wrap (fun Γ p hΓ => ?_)
  show Sem.wp _ Γ (Sem.ask Sem.pure) _ _ p s
  rw [Sem.wp, Sem.wp]
  cases hc : w.params.followText "comprehension-iter-twice" with
  | true =>
    rw [if_pos (show (model P w).w.params.followText "comprehension-iter-twice" = true from hc)]
    exact seg_again rfl h
  | false =>
    rw [if_neg (show ¬ (model P w).w.params.followText "comprehension-iter-twice" = true from by rw [show (model P w).w.params.followText "comprehension-iter-twice" = false from hc]; decide)]
    refine seg_bind_wrap (wpAny_rule ?_)
    show Seg _ _ _ _ _ _ _ (Sem.wrap _ _ id id (standAt iter.pos >>= fun _ => (pyIter (.ref it) >>= fun x => again (.compLoop (gExp elt tg iter scope gpos) 0 x .none env)))) [] s
    refine seg_bind_wrap (wpAny_standAt ?_)
    refine seg_bind_wrap (T.self _ i _ _ _ st ?_)
    exact seg_again rfl h
theorem allA_room {k : Nat} {A : Around} {a it : Addr} {elt tg iter : Expr} {scope : Scope} {gpos : Pos} {env : Env} (r : Room (k + 1) A) : Room k ((allA A a).over (gCode elt tg iter scope gpos (.ref it) env) []) := by
  have e1 : ((allA A a).over (gCode elt tg iter scope gpos (.ref it) env) []).depth = A.depth + 0 + 0 + 1 := rfl
  have e2 : ((allA A a).over (gCode elt tg iter scope gpos (.ref it) env) []).units = A.units + 1 + 1 + 0 + 3 := rfl
  refine ⟨r.hd, ?_, ?_⟩
  · have := r.dp; rw [e1]; omega
  · have := r.un; rw [e2]; omega
theorem allA_frames {A : Around} {a it : Addr} {elt tg iter : Expr} {scope : Scope} {gpos : Pos} {env : Env} {l : List Env} (h : A.frames = some l) : ((allA A a).over (gCode elt tg iter scope gpos (.ref it) env) []).frames = some (env :: l) := by
  show pushEnvs [env] (pushEnvs [] (pushEnvs [] A.frames)) = _
  rw [h]
  rfl
theorem check_all (a : Value) : checkBuiltinCall "all" ⟨[a], []⟩ = pure () := by kernel_rfl
end L2
set_option Elab.async false
set_option linter.all false
set_option maxRecDepth 100000
set_option autoImplicit false
namespace L2
open PySem PySem.Spec PyProof.Rows PySem.W Kx
def tAllW (P : Addr) (wi : TI) (g : TG) (te : TE) (vs : List Nat) : TE := fun σ H Q => wi σ H fun J H1 => Tab H1 P ∧ ∀ H2, (∀ b, b ≠ P → H2 b = H1 b) → Tab H2 P → ∃ W m, W 0 m H2 ∧ GTurn J W g te σ vs Q
section
variable {X : Cx}
theorem closG {pins : List (Addr × Obj)} {σ : St} {H : Hp} {s : Shared} {scope : Scope} {own : List (Str × Nat)} (I : Inv X pins σ H s) (ok : BlkOk X.N X.env.scope scope own) : closureFor scope X.env = pure (cloFrom X.env.cells scope.names []) :=
  closure_ok fun y hy e => by
    rcases ok.free y hy e with k | k
    · exact I.ok.has _ (.inl k)
    · exact I.ok.has _ (.inr k)
theorem pe_allG {k : Nat} {elt tg iter : Expr} {scope : Scope} {own : List (Str × Nat)} {p pos gpos : Pos} {wi : TI} {gt : TG} {te : TE} {c P bm : Addr} {ob : Obj} (hr : Room (k + 1) X.A) (hcalm : X.calm = true) (hN : X.N.Nodup) (hi : PI X tg iter wi) (ok : BlkOk X.N X.env.scope scope own)
    (hcode : X.env.code = .ref c) (hCK : codeHdIn X.K c P = true) (hB : Blt X bm ob) (hg : Gl X "all") (hm : X.mg "all" = none)
    (hco : scope.isCoroutine = false) (hnc : ∀ y ∈ scope.names, y.2 ≠ .cell) (h0 : scope.names.lookup (".0" : Str) = some NameKind.local)
    (hpg : ∀ (A : Around) (s : Shared) (H : Hp) (code : Value) (fp : List Addr), Room k A → PG (cxGen X A (genE X scope s.heap.objs.size code) s H fp) tg gt)
    (hpe : ∀ (A : Around) (s : Shared) (H : Hp) (code : Value) (fp : List Addr), Room k A → PE (cxGen X A (genE X scope s.heap.objs.size code) s H fp) elt te)
    (hfold : ∀ v, genFold iter X.env v = pure v) :
    PE X (.Call (.Name "all" p) [gExp elt tg iter scope gpos] [] pos) (tAllW P wi gt te (own.map (·.2))) := by
  intro pins s σ H Q I h
  refine wpAny_Call_Name_kw (ld_blt I hg hm (u := .builtin "all") (by decide +kernel) ?_)
  refine PyProof.Rows.callWith_builtin1 ?_ rfl rfl
  refine Calls.spliced_cons ?_
  have hh : X.A.handled = none := I.ok.hd hcalm
  have hC : CodeHd X.base c P := codeHd_of_K I.ok.mod.kin hCK
  refine wpAny_GeneratorExp_make hco (closG I ok) hnc h0 ok.kind hr.depth ?_ hfold
  refine thn (hi pins s σ H _ I h) fun xv s1 hx => thn hx fun itv s2 h2 => ?_
  obtain ⟨it, fp, tn, J, H2, e, I2, T, st2, f2, ⟨ps, hP, hTr⟩, q⟩ := h2
  subst e
  have hPo : s2.heap.get? P = some { cls := .none, data := .fields ps } := I2.hok P _ hP
  have hlim : s2.heap.NoLimit := I2.nolimit
  have hPlt : P < s2.heap.objs.size := Heap.lt_size hPo
  have bne : ∀ b o, X.base.get? b = some o → b ≠ P := fun b o e z => by
    have := (I2.bs b o e).2
    rw [z, hP] at this
    cases this
  have C2 : CodeHd s2.heap c P := hC.keeps I2.bk
  refine ⟨hlim, ?_⟩
  have main : ∀ (code : Value) (h3 : Heap) (tk : Nat) (more : Array Value), Heap.ExtBut P s2.heap h3 → h3.get? P = some { cls := .none, data := .fields (ps ++ more) } → TriplesOk (ps ++ more).toList →
      wpAny (model X.prog X.w) X.A (builtinsFor X.env.globals X.env.builtins) (fun bi s4 => ∀ h' : Heap, (h'.Ns s4.heap.objs.size fun y => if y = (".0" : Str) then some (.ref it) else none) → Heap.SameBut s4.heap.objs.size (s4.heap.push { cls := .type "frame", data := .dict #[] }) h' →
        wpAny (model X.prog X.w) X.A (spliced (backTo pos (starEach [] X.env))) (fun us s' => wpAny (model X.prog X.w) X.A (call (.builtin "all") (.ref h'.objs.size :: us)) (EP X pins σ Q) X.xe s') X.xe
          { heap := h'.push { cls := .type "generator", data := .fields #[.int (s4.gens.size : Int) 0, .str "<genexpr>" (s4.toks + 1), .str (X.env.qual ++ "<genexpr>") (s4.toks + 1 + 1)] },
            gens := s4.gens.push (.fresh (sCode elt tg iter scope gpos (.ref it) (genEnv scope (cloFrom X.env.cells scope.names []) s4.heap.objs.size code bi X.env))), drawn := s4.drawn, toks := s4.toks + 1 + 1 + 1, os := s4.os }) X.xe { s2 with heap := h3, toks := tk } := by
    intro code h3 tk more hx3 hPT hTr3
    have I3 : Inv X pins σ (L2.upd H2 P (.tbl (ps ++ more))) { s2 with heap := h3, toks := tk } := Inv.tabbed I2 hP (fun b o hb e => hx3 b o hb e) hPT I2.bare rfl
    have bk3 : ∀ b o, X.base.get? b = some o → h3.get? b = some o := fun b o e => I3.bk b o e
    refine wpAny_builtinsFor (bm := bm) (o := ob) (m := X.mg) (by rw [I2.ok.glob]; exact I2.mod.glob.keeps bk3) hB.name hB.ne (bk3 _ _ hB.obj) hB.cls hB.dict hB.data ?_
    intro h' hns hsb
    refine Calls.spliced_nil ?_
    have fpP : ∀ b ∈ fp, b ≠ P := fun b hb z => by
      have := (f2 b hb).1
      rw [z, hP] at this
      cases this
    have f3 : ∀ b ∈ fp, FpOk X pins (L2.upd H2 P (.tbl (ps ++ more))) b ∧ b < h3.objs.size := fun b hb => by
      obtain ⟨o, e, _⟩ := T.obj _ _ st2 b hb
      exact ⟨⟨by rw [upd_ne (fpP b hb)]; exact (f2 b hb).1, (f2 b hb).2⟩, Heap.lt_size (hx3 b o (fpP b hb) e)⟩
    have st3 : tn 0 h3 := T.keep _ _ _ st2 fun b hb o e => hx3 b o (fpP b hb) e
    have hk : ∀ b o, h3.get? b = some o → h'.get? b = some o := fun b o e => (hsb.2 b (Nat.ne_of_lt (Heap.lt_size e))).trans (Heap.get?_push_of_some _ e)
    have szh : h3.objs.size < h'.objs.size := hns.lt
    generalize hoa : ({ cls := .type "generator", data := .fields #[.int (s2.gens.size : Int) 0, .str "<genexpr>" (tk + 1), .str (X.env.qual ++ "<genexpr>") (tk + 1 + 1)] } : Obj) = oa
    have o1 : oa.cls = .type "generator" := by rw [← hoa]
    have o2 : oa.data = .fields #[.int (s2.gens.size : Int) 0, .str "<genexpr>" (tk + 1), .str (X.env.qual ++ "<genexpr>") (tk + 1 + 1)] := by rw [← hoa]
    have o3 : oa.slots = #[] := by rw [← hoa]
    have of : oa.isFreed = false := by rw [← hoa]; rfl
    generalize ha : h'.objs.size = a
    have hget : (h'.push oa).get? a = some oa := by rw [← ha]; exact Heap.get?_push_size _ of
    obtain ⟨W, m, w0, turn⟩ := q (L2.upd H2 P (.tbl (ps ++ more))) (fun b hb => upd_ne hb) ⟨ps ++ more, upd_same, hTr3⟩
    have hk5 : ∀ b o, h3.get? b = some o → (h'.push oa).get? b = some o := fun b o e => Heap.get?_push_of_some _ (hk b o e)
    have bare5 : AllBare (s2.gens.push (.fresh (sCode elt tg iter scope gpos (.ref it) (genEnv scope (cloFrom X.env.cells scope.names []) h3.objs.size code builtinsNs X.env)))) := I2.bare.push rfl
    have IY := gen_start (A := (allA X.A a).over (gCode elt tg iter scope gpos (.ref it) (genE X scope h3.objs.size code)) []) (code := code) (it := .ref it) (tk := tk + 1 + 1 + 1) I3 ok hN hnc f3 (allA_frames I3.ok.frames) hh (hns.keeps fun b o e => Heap.get?_push_of_some _ e) hk5 bare5 hget (by rw [← ha]; exact szh) (fun v z => by rw [o2] at z; cases z)
    have rm : Room k ((allA X.A a).over (gCode elt tg iter scope gpos (.ref it) (genE X scope h3.objs.size code)) []) := allA_room hr
    have fpa : ∀ p ∈ [(a, oa)], ∀ b ∈ fp, p.1 ≠ b := fun p hp b hb z => by
      rw [List.mem_singleton.mp hp] at z
      have z : a = b := z
      have q2 : h'.objs.size < h3.objs.size := by rw [ha, z]; exact (f3 b hb).2
      omega
    have gl := seg_genL (X := X) (A1 := allA X.A a) (gpos := gpos) (s0 := { s2 with heap := h3, toks := tk }) (H0 := L2.upd H2 P (.tbl (ps ++ more))) (pins := [(a, oa)]) (g := s2.gens.size) T fpa (show (genE X scope h3.objs.size code).scope.isCoroutine = false from hco) (hpg _ { s2 with heap := h3, toks := tk } _ code fp rm) (hpe _ { s2 with heap := h3, toks := tk } _ code fp rm) turn
    refine wpAny_call (codeAny_call_builtin F.plain_all F.entry_all ?_)
    refine wpAny_of_eq (check_all _) ?_
    show wpAny _ _ (oneArg "all" ⟨[.ref a], []⟩ >>= fun x => pyIter x >>= fun it => again (.builtin "all.loop" ⟨[it], []⟩)) _ _ _
    refine wpAny_bind (wpAny_of_eq (show oneArg "all" ⟨[.ref a], []⟩ = pure (.ref a) from rfl) ?_)
    refine wpAny_bind (wpAny_pyIter_gen ⟨oa, _, _, hget, o1, o2, o3⟩ ?_)
    refine wpAny_pure ⟨plainId_quiet F.plain_all_loop _, ?_⟩
    refine codeAny_mono (all_loop (X := X) (Q := Q) hh ?_ o1 o2 o3 (m + 1) _ (.fresh (sCode elt tg iter scope gpos (.ref it) (genEnv scope (cloFrom X.env.cells scope.names []) h3.objs.size code builtinsNs X.env))) ⟨0, m, _, Nat.lt_succ_self m, w0, IY, T.keep _ _ _ st3 fun b _ o e => hk5 b o e, fun b hb => (f3 b hb).1.1, ?_⟩ ?_ fun s'' h'' => ?_) fun r s' hrs => ?_
    · have := hr.dp
      show X.A.depth + 0 < _
      omega
    · show s2.gens.size < (s2.gens.push _).size
      rw [Array.size_push]
      exact Nat.lt_succ_self _
    · show (s2.gens.push _)[s2.gens.size]? = _
      exact Array.getElem?_push_size
    · have h0 := h''
      obtain ⟨i, _, _, _, _, _, st'', _⟩ := h0
      exact ⟨rfl, seg_genS T st'' (gl (m + 1) s'' s'' h'')⟩
    · obtain ⟨b, pins', σ', H', rfl, I6, q6⟩ := hrs
      exact ⟨.bl b, H', I3.call' (ch := fp) I6.os I6.base I6.hok I6.bare fun b hb => ⟨(f3 b hb).1.2.2.2.1, (f3 b hb).1.2.1, (f3 b hb).1.2.2.2.2.1, (f3 b hb).1.2.2.2.2.2⟩, rfl, q6⟩
  cases hf : codeAmong gpos ps.toList with
  | some cv =>
    refine wpAny_genexprCode_hit hcode (C2.code hPo hTr) hf ?_
    exact main cv _ s2.toks #[] (Heap.ExtBut.refl _ _) (by simpa using hPo) (by simpa using hTr)
  | none =>
    refine wpAny_genexprCodeX hcode (C2.code hPo hTr) (C2.tab hPo) hf fun c' h3 tk3 hx3 hge hlt hcode3 _ htab3 _ => ?_
    refine main (.ref c') h3 tk3 #[rawInt gpos.line, rawInt gpos.col, .ref c'] hx3 htab3.2 ?_
    obtain ⟨_, _, _, _, _, _, _, _, _, op, _, _, _, _, _, _, _, hop, hod, ht, _⟩ := hcode3
    exact ht
end
end L2
set_option Elab.async false
set_option linter.all false
set_option maxRecDepth 100000
set_option autoImplicit false
namespace Dt
open PySem PySem.Spec L2 Kx PyProof.Rows
section
variable {T : Tb} {F F1 F2 F' H H1 H2 H' : Hp} {σ σ2 : L2.St} {Γ Γ1 Γ2 Γ' Γw : Gm} {E : XK} {te : TE} {we : WE} {P : Addr}
theorem nw_tabG (o : Ok T F H1) (hP : P ∈ T.ts) (hls : ∀ p ∈ T.ls, p.1 ≠ P) (k : ∀ b, b ≠ P → H2 b = H1 b) (t : Tab H2 P) : Nw T F H1 F H2 := by
  obtain ⟨ps1, e1, _⟩ := o.tabs _ hP
  have hne : ∀ b u, H1 b = some u → NoT u → H2 b = some u := fun b u e n => (k b (fun z => by rw [z, e1] at e; cases e; exact n _ rfl)).trans e
  refine ⟨⟨fun b u e => hne b u (o.sub b u e) (o.nt b u e), o.nt, fun P' hP' => ?_, fun p hp => ?_⟩, fun _ _ e => e, hne, fun b u e => ?_, fun _ _ e => .inl e⟩
  · by_cases h : P' = P
    · subst h
      exact t
    · obtain ⟨ps, e, r⟩ := o.tabs P' hP'
      exact ⟨ps, (k _ h).trans e, r⟩
  · obtain ⟨ps, e, r, c⟩ := o.labs p hp
    exact ⟨ps, (k _ (hls p hp)).trans e, r, fun cv hcv => codeAt_sub (c cv hcv) fun b u e n => .inl (hne b u e n)⟩
  · by_cases h : b = P
    · obtain ⟨ps, e', _⟩ := t
      exact ⟨_, by rw [h]; exact e'⟩
    · exact ⟨u, (k b h).trans e⟩
def allB (ds : List D) (wg : WG) (we : WE) (vs : List Nat) (Φ : R → Gm → Prop) (Γ1 : Gm) : Prop := ∃ I : Nat → Gm → Prop, I 0 (wipeG Γ1 vs) ∧
  (∀ i Γ d, I i Γ → ds[i]? = some d → wg d Γ fun Γ2 => we Γ2 (fun r Γ3 => ∃ b, r.at Γ3 = some (.bl b) ∧ iteR b (I (i + 1) (wipeG Γ3 vs)) (Φ (.val (.bl false)) (rstG Γ1 (wipeG Γ3 vs) vs))) fun _ => False) ∧
  ∀ Γ, I ds.length Γ → Φ (.val (.bl true)) (rstG Γ1 Γ vs)
def wAllG (wI : WI) (wg : WG) (we : WE) (vs : List Nat) : WE := fun Γ Φ Ξ => wI Γ (fun ds Γ1 => allB ds wg we vs Φ Γ1) Ξ
theorem ed_allG {wi : TI} {wI : WI} {g : TG} {wg : WG} {vs : List Nat} (hP : P ∈ T.ts) (hls : ∀ p ∈ T.ls, p.1 ≠ P) (hi : ID T E wi wI) (hg : CG T vs g wg) (he : ED T E0 te we) : ED T E (tAllW P wi g te vs) (wAllG wI wg we vs) := by
  intro F σ H Γ Q Ψ Ξ p hw x k
  refine hi F σ H Γ _ _ Ξ p hw x fun F1 H1 Γ1 J ds hr q1 wk => ?_
  obtain ⟨I, h0, hs, hd⟩ := hr
  refine ⟨q1.rp.tabs P hP, fun H2 ho hT => ?_⟩
  have q2 := q1.nw (nw_tabG q1.rp.toOk hP hls ho hT)
  have p2 := q2.rp
  have pw := p2.wipe (vs := vs)
  have xo0 : ∀ {ρ : L2.St} {F H : Hp} {Γ : Gm}, XO T ρ E0 (fun _ => False) F H Γ := fun {ρ F H Γ} _ _ _ _ h => h.elim
  refine ⟨fun i m H => m = ds.length - i ∧ i ≤ ds.length ∧ ∃ F Γw, I i Γw ∧ Γw = wipeG Γw vs ∧ Po T F1 (L2.wipe σ vs) H2 (wipeG Γ1 vs) F H Γw ∧ Same F1 F, ds.length, ⟨by simp, Nat.zero_le _, F1, _, h0, wipeG_idem.symm, pw.refl, fun _ _ h => h⟩, ?_⟩
  rintro i m H3 ⟨rfl, hle, F3, Γ3, i3, hw3, q3, f3⟩
  by_cases hlt : ¬ i < ds.length
  · have ei : i = ds.length := by omega
    subst ei
    refine .inl ⟨(wk F3 H3 _ f3 q3.rp.toOk).1 rfl, ?_⟩
    exact k F3 H3 _ _ _ (hd Γ3 i3) (q2.trans (Po.unwipe p2 q3)) (Rep.bl _)
  · have hlt : i < ds.length := by omega
    refine .inr ?_
    obtain ⟨go, yl⟩ := (wk F3 H3 i f3 q3.rp.toOk).2 _ (List.getElem?_eq_getElem hlt)
    refine ⟨go, fun H => ∃ F Γw, I (i + 1) Γw ∧ Γw = wipeG Γw vs ∧ Po T F1 (L2.wipe σ vs) H2 (wipeG Γ1 vs) F H Γw ∧ Same F1 F, fun H' h => ⟨ds.length - (i + 1), by omega, rfl, hlt, h⟩, fun xv H4 hy => ?_⟩
    obtain ⟨F4, n4, r4⟩ := yl xv H4 hy
    have q4 := q3.nw n4
    have nown3 : NoOwn vs Γ3 := hw3 ▸ noOwn_wipe
    refine hg F4 (L2.wipe σ vs) H4 Γ3 xv _ _ _ q4.rp nown3 r4 (hs i Γ3 _ i3 (List.getElem?_eq_getElem hlt)) fun σ5 Γ5 h5 p5 n5 l5 j5 => ?_
    have eσ : L2.wipe σ5 vs = L2.wipe σ vs := (wipe_ext l5 fun j hj => (j5 j hj).1).trans (wipe_ext (by rw [wipe_length]) fun j hj => wipe_out hj)
    have eΓ : wipeG Γ5 vs = Γ3 := (wipeG_ext (by rw [p5.len, l5, ← q4.rp.len]) fun j hj => (j5 j hj).2).trans hw3.symm
    refine ⟨eσ, he F4 σ5 H4 Γ5 _ _ _ p5 h5 xo0 fun F6 H6 Γ6 y r h6 q6 e6 => ?_⟩
    obtain ⟨b, hb, h6⟩ := h6
    have q6w : Po T F4 (L2.wipe σ vs) H4 Γ3 F6 H6 (wipeG Γ6 vs) := by
      have := q6.wipe n5
      rw [eσ, eΓ] at this
      exact this
    refine ⟨b, (e6.peek q6.rp hb).bl, ?_⟩
    cases b with
    | false => exact k F6 H6 _ _ _ h6 (q2.trans (Po.unwipe p2 (q4.trans q6w))) (Rep.bl _)
    | true => exact ⟨F6, _, h6, wipeG_idem.symm, q4.trans q6w, fun b o h => q6.ff b o (n4.ff b o (f3 b o h))⟩
theorem allG_ap {wI : WI} {wg : WG} {vs : List Nat} {Φ : R → Gm → Prop} {Ξ : XD → Prop} : wAllG wI wg we vs Γ Φ Ξ = wI Γ (fun ds Γ1 => allB ds wg we vs Φ Γ1) Ξ := rfl
theorem allB_map {ds : List D} {wg : WG} {vs : List Nat} {Φ : R → Gm → Prop} {Γ : Gm} (f : D → Bool)
    (hs : ∀ d, d ∈ ds → ∀ k : Bool → Gm → Prop, k (f d) (wipeG Γ vs) → wg d (wipeG Γ vs) fun Γ2 => we Γ2 (fun r Γ4 => ∃ b, r.at Γ4 = some (.bl b) ∧ k b (wipeG Γ4 vs)) fun _ => False)
    (hd : Φ (.val (.bl (ds.all f))) (rstG Γ (wipeG Γ vs) vs)) : allB ds wg we vs Φ Γ := by
  refine ⟨fun i Γ' => Γ' = wipeG Γ vs ∧ (ds.take i).all f = true, ⟨rfl, rfl⟩, fun i Γ' d ⟨e1, e2⟩ hd' => ?_, fun Γ' ⟨e1, e2⟩ => ?_⟩
  · subst e1
    refine hs d (List.mem_of_getElem? hd') (fun b Γ4 => iteR b (Γ4 = wipeG Γ vs ∧ (ds.take (i + 1)).all f = true) (Φ (.val (.bl false)) (rstG Γ Γ4 vs))) ?_
    refine iteR_by (fun hb => ⟨rfl, ?_⟩) fun hb => ?_
    · rw [List.take_add_one, hd', List.all_append, e2]
      simp [hb]
    · have e : ds.all f = false := by
        rw [Bool.eq_false_iff]
        intro z
        rw [List.all_eq_true] at z
        rw [z d (List.mem_of_getElem? hd')] at hb
        cases hb
      rw [e] at hd
      exact hd
  · subst e1
    rw [List.take_length] at e2
    rw [e2] at hd
    exact hd
end
section
variable {X : Cx} {T : Tb} {E : XK} {elt tg iter : Expr} {scope : Scope} {own : List (Str × Nat)} {te : TE} {we : WE} {wi : TI} {wI : WI} {g : TG} {wg : WG}
theorem q_allG {k : Nat} {P c bm : Addr} {ob : Obj} {p pos gpos : Pos} (hP : P ∈ T.ts) (hls : ∀ p ∈ T.ls, p.1 ≠ P) (hr : Room (k + 1) X.A) (hcalm : X.calm = true) (hN : X.N.Nodup) (hi : QI X T E tg iter wi wI) (ok : BlkOk X.N X.env.scope scope own)
    (hcode : X.env.code = .ref c) (hCK : PySem.W.codeHdIn X.K c P = true) (hB : Kx.Blt X bm ob) (hg : Gl X "all") (hm : X.mg "all" = none)
    (hco : scope.isCoroutine = false) (hnc : ∀ y ∈ scope.names, y.2 ≠ .cell) (h0 : scope.names.lookup (".0" : Str) = some NameKind.local)
    (hpg : ∀ (A : Around) (s : Shared) (H : Hp) (code : Value) (fp : List Addr), Room k A → QC (cxGen X A (genE X scope s.heap.objs.size code) s H fp) T (own.map (·.2)) tg g wg)
    (hpe : ∀ (A : Around) (s : Shared) (H : Hp) (code : Value) (fp : List Addr), Room k A → QE (cxGen X A (genE X scope s.heap.objs.size code) s H fp) T E0 elt te we)
    (hfold : ∀ v, genFold iter X.env v = pure v) :
    QE X T E (.Call (.Name "all" p) [gExp elt tg iter scope gpos] [] pos) (tAllW P wi g te (own.map (·.2))) (wAllG wI wg we (own.map (·.2))) :=
  ⟨pe_allG hr hcalm hN hi.pe ok hcode hCK hB hg hm hco hnc h0 (fun A s H code fp r => (hpg A s H code fp r).pe) (fun A s H code fp r => (hpe A s H code fp r).pe) hfold,
    have r := allA_room (a := 0) (it := 0) (elt := elt) (tg := tg) (iter := iter) (scope := scope) (gpos := gpos) (env := X.env) hr
    ed_allG hP hls hi.ed (hpg _ X.s_0 (fun _ => none) .none [] r).ed (hpe _ X.s_0 (fun _ => none) .none [] r).ed⟩
end
end Dt
set_option Elab.async false
set_option linter.all false
set_option maxRecDepth 100000
set_option autoImplicit false
namespace L2
open PySem PySem.Spec PyProof.Rows
end L2
namespace Dt
open PySem PySem.Spec L2 Kx PyProof.Rows
end Dt
set_option Elab.async false
set_option linter.all false
set_option maxRecDepth 100000
set_option maxHeartbeats 1000000
set_option autoImplicit false
namespace Kx
open PySem PySem.Spec L2 PyProof.Rows PySem.W
section
variable {X : Cx} {o e : Expr} {to te : TE} {apos pos : Pos}
theorem pe_findT (ho : PE X o to) (he : PE X e te) (hs : isStar e = false := by rfl) (hbase : attributeBase o "find" X.env (eval o X.env) = eval o X.env := by rfl) (hline : (apos.endLine == pos.line) = true := by rfl) :
    PE X (.Call (.Attribute o "find" apos) [e] [] pos) (tM1 (fun x xs H Q => ∃ a b, x = .str a ∧ xs = [.str b] ∧ Q (.int (Txt.find a b)) H) to te) :=
  pe_m1 F.slot_str_find F.type_str_find mt_find ho he (star_cons hs) hbase hline
theorem pe_countT (ho : PE X o to) (he : PE X e te) (hs : isStar e = false := by rfl) (hbase : attributeBase o "count" X.env (eval o X.env) = eval o X.env := by rfl) (hline : (apos.endLine == pos.line) = true := by rfl) :
    PE X (.Call (.Attribute o "count" apos) [e] [] pos) (tM1 (fun x xs H Q => ∃ a b, x = .str a ∧ xs = [.str b] ∧ Q (.int (Txt.count a b)) H) to te) :=
  pe_m1 F.slot_str_count F.type_str_count mt_count ho he (star_cons hs) hbase hline
end
end Kx
namespace Dt
open PySem PySem.Spec L2 Kx PyProof.Rows
section
variable {T : Tb} {E : XK} {to t1 t2 : TE} {wo w1 w2 : WE}
def dRmp : Str → D → (R → Prop) → Prop := fun a e Ψ => ∃ b, e = .str b ∧ a.length ≤ sizeLine ∧ Ψ (.val (.str (Txt.removeprefix a b)))
theorem md_rmp : MD T (fun x xs H Q => ∃ a b, x = .str a ∧ xs = [.str b] ∧ a.length ≤ sizeLine ∧ Q (.str (Txt.removeprefix a b)) H) dRmp := fun F H a y e Q Ψ o hy hg k => by
  obtain ⟨b, rfl, hp, h⟩ := hg
  exact ⟨a, b, rfl, by rw [hy.str], hp, k F H _ _ h o.refl (Rep.str _)⟩
theorem drmp_str {a b : Str} {Ψ : R → Prop} : dRmp a (.str b) Ψ = sideR (a.length ≤ sizeLine) (Ψ (.val (.str (Txt.removeprefix a b)))) := propext ⟨fun ⟨_, e, h⟩ => by cases e; exact h, fun h => ⟨_, rfl, h⟩⟩
def dFindT : Str → D → (R → Prop) → Prop := fun a e Ψ => ∃ b, e = .str b ∧ Ψ (.val (.int (Txt.find a b)))
theorem md_find : MD T (fun x xs H Q => ∃ a b, x = .str a ∧ xs = [.str b] ∧ Q (.int (Txt.find a b)) H) dFindT := fun F H a y e Q Ψ o hy hg k => by
  obtain ⟨b, rfl, h⟩ := hg
  exact ⟨a, b, rfl, by rw [hy.str], k F H _ _ h o.refl (Rep.int _)⟩
theorem dfind_str {a b : Str} {Ψ : R → Prop} : dFindT a (.str b) Ψ = Ψ (.val (.int (Txt.find a b))) := propext ⟨fun ⟨_, e, h⟩ => by cases e; exact h, fun h => ⟨_, rfl, h⟩⟩
def dCountT : Str → D → (R → Prop) → Prop := fun a e Ψ => ∃ b, e = .str b ∧ Ψ (.val (.int (Txt.count a b)))
theorem md_count : MD T (fun x xs H Q => ∃ a b, x = .str a ∧ xs = [.str b] ∧ Q (.int (Txt.count a b)) H) dCountT := fun F H a y e Q Ψ o hy hg k => by
  obtain ⟨b, rfl, h⟩ := hg
  exact ⟨a, b, rfl, by rw [hy.str], k F H _ _ h o.refl (Rep.int _)⟩
theorem dcount_str {a b : Str} {Ψ : R → Prop} : dCountT a (.str b) Ψ = Ψ (.val (.int (Txt.count a b))) := propext ⟨fun ⟨_, e, h⟩ => by cases e; exact h, fun h => ⟨_, rfl, h⟩⟩
def dSidx : Str → D → (R → Prop) → Prop := fun a e Ψ => ∃ b i rest, e = .str b ∧ Builtin.Str.occurrences a b 0 a.length 1 = i :: rest ∧ Ψ (.val (.int (i : Nat)))
theorem md_sidx : MD T (fun x xs H Q => ∃ a b i rest, x = .str a ∧ xs = [.str b] ∧ Builtin.Str.occurrences a b 0 a.length 1 = i :: rest ∧ Q (.int (i : Nat)) H) dSidx := fun F H a y e Q Ψ o hy hg k => by
  obtain ⟨b, i, rest, rfl, hp, h⟩ := hg
  exact ⟨a, b, i, rest, rfl, by rw [hy.str], hp, k F H _ _ h o.refl (Rep.int _)⟩
def dSplit : Str → D → (R → Prop) → Prop := fun a e Ψ => ∃ b : Str, e = .str b ∧ ((b.length == 0) = false ∧ a.length + 2 ≤ sizeLine) ∧ Ψ (.new ((Txt.split a b).map D.str))
theorem dsplit_str {a b : Str} {Ψ : R → Prop} : dSplit a (.str b) Ψ = sideR ((b.length == 0) = false ∧ a.length + 2 ≤ sizeLine) (Ψ (.new ((Txt.split a b).map D.str))) := propext ⟨fun ⟨_, e, h⟩ => by cases e; exact h, fun h => ⟨_, rfl, h⟩⟩
def ljR (a : Str) (d : D) (y : Str) (k : Str → Prop) : Prop := ∃ (i : Int) (c : Nat), d = .int i ∧ y = ⟨#[c]⟩ ∧ PadOk i = true ∧ k (Txt.ljustF a i c)
def wLjF (wo w1 w2 : WE) : WE := fun Γ Ψ Ξ => wo Γ (fun r1 Γ1 => strR Γ1 r1 fun a => w1 Γ1 (fun r2 Γ2 => getR Γ2 r2 fun d => w2 Γ2 (fun r3 Γ3 => strR Γ3 r3 fun y => ljR a d y fun x => Ψ (.val (.str x)) Γ3) Ξ) Ξ) Ξ
theorem ljF_ap {Γ : Gm} {Φ : R → Gm → Prop} {Ξ : XD → Prop} : wLjF wo w1 w2 Γ Φ Ξ = wo Γ (fun r1 Γ1 => strR Γ1 r1 fun a => w1 Γ1 (fun r2 Γ2 => getR Γ2 r2 fun d => w2 Γ2 (fun r3 Γ3 => strR Γ3 r3 fun y => ljR a d y fun x => Φ (.val (.str x)) Γ3) Ξ) Ξ) Ξ := rfl
theorem lj_int {a y : Str} {i : Int} {k : Str → Prop} (c : Nat) (hy : y = ⟨#[c]⟩) (hp : PadOk i = true) (h : k (Txt.ljustF a i c)) : ljR a (.int i) y k := ⟨i, c, rfl, hy, hp, h⟩
theorem ed_ljF (ho : ED T E to wo) (h1 : ED T E t1 w1) (h2 : ED T E t2 w2) : ED T E (tM2 (fun x xs H Q => ∃ (a : Str) (i : Int) (c : Nat), x = .str a ∧ xs = [.int i, .str ⟨#[c]⟩] ∧ PadOk i = true ∧ Q (.str (Txt.ljustF a i c)) H) to t1 t2) (wLjF wo w1 w2) := fun F σ H Γ Q Ψ Ξ p h x k => ho F σ H Γ _ _ Ξ p h x fun F1 H1 Γ1 v1 r1 hr1 q1 e1 => by
  obtain ⟨a, a1, hr1⟩ := hr1
  have ev := (e1.peek q1.rp a1).str
  refine ⟨⟨a, ev⟩, h1 F1 σ H1 Γ1 _ _ Ξ q1.rp hr1 (x.on q1) fun F2 H2 Γ2 v2 r2 hr2 q2 e2 => ?_⟩
  obtain ⟨d, a2, hr2⟩ := hr2
  have p2 := e2.peek q2.rp a2
  refine h2 F2 σ H2 Γ2 _ _ Ξ q2.rp hr2 (x.on (q1.trans q2)) fun F3 H3 Γ3 v3 r3 hr3 q3 e3 => ?_
  obtain ⟨y, a3, i, c, rfl, rfl, hp, hr3⟩ := hr3
  exact ⟨a, i, c, ev, by rw [p2.int, (e3.peek q3.rp a3).str], hp, k F3 H3 Γ3 _ _ hr3 ((q1.trans q2).trans q3) (Rep.str _)⟩
end
end Dt
set_option Elab.async false
set_option linter.all false
set_option maxRecDepth 100000
set_option autoImplicit false
namespace L2
open PySem PySem.Spec PyProof.Rows PySem.W
section
variable {X : Cx} {pins : List (Addr × Obj)} {σ : St} {H : Hp} {s : Shared}
end
section
variable {X : Cx}
end
end L2
set_option Elab.async false
set_option linter.all false
set_option maxRecDepth 100000
set_option maxHeartbeats 4000000
set_option autoImplicit false
namespace Zt
open PySem PySem.Spec PyProof.Rows L2 Builtin
local macro_rules | `(tactic| walk_at "wps") => `(tactic| (repeat (any_goals (first | assumption | wp_step))))
end Zt
set_option Elab.async false
set_option linter.all false
set_option maxRecDepth 100000
set_option maxHeartbeats 4000000
set_option autoImplicit false
namespace Zt
open PySem PySem.Spec PyProof.Rows L2 Builtin
section
variable {prog : Program} {w : World} {A : Around} {E : Value → Shared → Prop} {s : Shared} {k : Nat} {i1 : Addr} {f1 : List Addr} {n1 : Nat} {P1 : Nat → Value → Prop} {S1 : Nat → Heap → Prop}
end
end Zt
set_option Elab.async false
set_option linter.all false
set_option maxRecDepth 100000
set_option maxHeartbeats 2000000
set_option autoImplicit false
namespace L2
open PySem PySem.Spec PyProof.Rows
end L2
namespace Dt
open PySem PySem.Spec L2 Kx PyProof.Rows
section
variable {T : Tb} {F F' H : Hp} {E : XK} {tA : TA} {wA : WA}
def enuC (k0 : Int) (ds : List D) : List D := ds.mapIdx fun i d => D.tup [.int (k0 + (i : Nat)), d]
def wIEnumC (k0 : Int) (wA : WA) : WI := fun Γ Ψ Ξ => wA Γ (fun rs Γ1 => ∃ ds Γ2, frzL Γ1 rs = some ([.lst ds], Γ2) ∧ Ψ (enuC k0 ds) Γ2) Ξ
theorem ieC_ap {k0 : Int} {Γ : Gm} {Φd : List D → Gm → Prop} {Ξ : XD → Prop} : wIEnumC k0 wA Γ Φd Ξ = wA Γ (fun rs Γ1 => frzLR Γ1 rs fun ds Γ2 => match ds with | [.lst es] => Φd (enuC k0 es) Γ2 | _ => False) Ξ := by
  unfold wIEnumC frzLR
  congr 1
  funext rs Γ1
  refine propext ⟨fun ⟨ds, Γ2, h, q⟩ => ⟨_, _, h, q⟩, fun ⟨ds, Γ2, h, q⟩ => ?_⟩
  dsimp only at q
  split at q
  · exact ⟨_, _, h, q⟩
  · exact q.elim
end
section
variable {X : Cx} {T : Tb} {E : XK} {a : Expr} {tA : TA} {wA : WA}
end
end Dt
set_option Elab.async false
set_option linter.all false
set_option maxRecDepth 100000
set_option maxHeartbeats 1000000
set_option autoImplicit false
namespace Dt
open PySem PySem.Spec L2 Kx PyProof.Rows
def NolR : R → Prop
  | .val d => Nol d
  | .new ds => NolA ds
  | .slot _ => False
section
variable {T : Tb} {F F1 F2 F' H H1 H2 H' : Hp} {σ : L2.St} {Γ Γ1 Γ2 Γ' : Gm} {E : XK} {t te tw : TE} {w we ww : WE} {tA : TA} {wA : WA}
def wLend (wf : WF) (wA : WA) : WE := fun Γ Ψ Ξ => wA Γ (fun rs Γ1 => ∃ ds, ats Γ1 rs = some ds ∧ callR wf ds [] (fun r _ => NolR r ∧ Ψ r Γ1) fun _ => False) Ξ
def valR (r : R) (k : D → Prop) : Prop := ∃ d, r = .val d ∧ k d
theorem valR_val {d : D} {k : D → Prop} : valR (.val d) k = k d := propext ⟨fun ⟨_, e, h⟩ => by cases e; exact h, fun h => ⟨_, rfl, h⟩⟩
def dStar (d1 : D) (d : D) (Ψ : R → Prop) : Prop := ∃ es, (d = .lst es ∨ d = .tup es) ∧ es.length + 1 ≤ sizeLine ∧ Ψ (.new (d1 :: es))
theorem dstar_lst {d1 : D} {es : List D} {Ψ : R → Prop} : dStar d1 (.lst es) Ψ = sideR (es.length + 1 ≤ sizeLine) (Ψ (.new (d1 :: es))) := propext ⟨fun ⟨_, e, h⟩ => by rcases e with e | e <;> cases e; exact h, fun h => ⟨_, .inl rfl, h⟩⟩
theorem dstar_tup {d1 : D} {es : List D} {Ψ : R → Prop} : dStar d1 (.tup es) Ψ = sideR (es.length + 1 ≤ sizeLine) (Ψ (.new (d1 :: es))) := propext ⟨fun ⟨_, e, h⟩ => by rcases e with e | e <;> cases e; exact h, fun h => ⟨_, .inr rfl, h⟩⟩
def wLstS (we ww : WE) : WE := fun Γ Ψ Ξ => we Γ (fun r1 Γ1 => valR r1 fun d1 => ww Γ1 (fun r2 Γ2 => getR Γ2 r2 fun d2 => dStar d1 d2 fun r => Ψ r Γ2) Ξ) Ξ
end
section
variable {X : Cx} {T : Tb} {E : XK} {o e e1 e2 : Expr} {es : List Expr} {to te t1 t2 : TE} {wo we w1 w2 : WE} {tA : TA} {wA : WA} {apos pos p : Pos} {x : Str}
theorem q_rmp (ho : QE X T E o to wo) (h : QE X T E e te we) (hs : isStar e = false) (hb : attributeBase o "removeprefix" X.env (eval o X.env) = eval o X.env) (hl : (apos.endLine == pos.line) = true) : QE X T E (.Call (.Attribute o "removeprefix" apos) [e] [] pos) (tM1 (fun x xs H Q => ∃ a b, x = .str a ∧ xs = [.str b] ∧ a.length ≤ sizeLine ∧ Q (.str (Txt.removeprefix a b)) H) to te) (wM1 dRmp wo we) := ⟨pe_removeprefix ho.pe h.pe hs hb hl, ed_m1 md_rmp ho.ed h.ed⟩
theorem q_findT (ho : QE X T E o to wo) (h : QE X T E e te we) (hs : isStar e = false) (hb : attributeBase o "find" X.env (eval o X.env) = eval o X.env) (hl : (apos.endLine == pos.line) = true) : QE X T E (.Call (.Attribute o "find" apos) [e] [] pos) (tM1 (fun x xs H Q => ∃ a b, x = .str a ∧ xs = [.str b] ∧ Q (.int (Txt.find a b)) H) to te) (wM1 dFindT wo we) := ⟨pe_findT ho.pe h.pe hs hb hl, ed_m1 md_find ho.ed h.ed⟩
theorem q_countT (ho : QE X T E o to wo) (h : QE X T E e te we) (hs : isStar e = false) (hb : attributeBase o "count" X.env (eval o X.env) = eval o X.env) (hl : (apos.endLine == pos.line) = true) : QE X T E (.Call (.Attribute o "count" apos) [e] [] pos) (tM1 (fun x xs H Q => ∃ a b, x = .str a ∧ xs = [.str b] ∧ Q (.int (Txt.count a b)) H) to te) (wM1 dCountT wo we) := ⟨pe_countT ho.pe h.pe hs hb hl, ed_m1 md_count ho.ed h.ed⟩
theorem q_sidx (ho : QE X T E o to wo) (h : QE X T E e te we) (hs : isStar e = false) (hb : attributeBase o "index" X.env (eval o X.env) = eval o X.env) (hl : (apos.endLine == pos.line) = true) : QE X T E (.Call (.Attribute o "index" apos) [e] [] pos) (tM1 (fun x xs H Q => ∃ a b i rest, x = .str a ∧ xs = [.str b] ∧ Builtin.Str.occurrences a b 0 a.length 1 = i :: rest ∧ Q (.int (i : Nat)) H) to te) (wM1 dSidx wo we) := ⟨pe_sindex ho.pe h.pe hs hb hl, ed_m1 md_sidx ho.ed h.ed⟩
theorem q_ljF (ho : QE X T E o to wo) (h1 : QE X T E e1 t1 w1) (h2 : QE X T E e2 t2 w2) (hs : (isStar e1 || isStar e2) = false) (hb : attributeBase o "ljust" X.env (eval o X.env) = eval o X.env) (hl : (apos.endLine == pos.line) = true) : QE X T E (.Call (.Attribute o "ljust" apos) [e1, e2] [] pos) (tM2 (fun x xs H Q => ∃ (a : Str) (i : Int) (c : Nat), x = .str a ∧ xs = [.int i, .str ⟨#[c]⟩] ∧ PadOk i = true ∧ Q (.str (Txt.ljustF a i c)) H) to t1 t2) (wLjF wo w1 w2) := ⟨pe_ljustF ho.pe h1.pe h2.pe hs hb hl, ed_ljF ho.ed h1.ed h2.ed⟩
end
end Dt
namespace Dt
open PySem PySem.Spec L2 Kx PyProof.Rows
section
variable {Γ : Gm} {Φ : R → Gm → Prop} {Ξ : XD → Prop} {we ww wo w1 w2 : WE} {wA : WA} {wf : WF}
theorem lend_ap : wLend wf wA Γ Φ Ξ = wA Γ (fun rs Γ1 => atsR Γ1 rs fun ds => callR wf ds [] (fun r _ => NolR r ∧ Φ r Γ1) fun _ => False) Ξ := rfl
theorem lstS_ap : wLstS we ww Γ Φ Ξ = we Γ (fun r1 Γ1 => valR r1 fun d1 => ww Γ1 (fun r2 Γ2 => getR Γ2 r2 fun d2 => dStar d1 d2 fun r => Φ r Γ2) Ξ) Ξ := rfl
end
end Dt
set_option Elab.async false
set_option linter.all false
set_option maxRecDepth 100000
set_option maxHeartbeats 4000000
set_option autoImplicit false
namespace Dt
open PySem PySem.Spec L2 Kx PyProof.Rows PySem.NumText
def nT (neg : Bool) (A D : List Nat) : Int := sgI neg * ((digitsVal (A ++ D) : Nat) : Int)
def nB (D : List Nat) : Int := (10 : Int) ^ D.length
theorem nB_pos (D : List Nat) : 0 < nB D := Int.pow_pos (by decide)
theorem unit_is {D : List Nat} (h : D.length ≤ 12) : nB D * 10 ^ (12 - D.length) = 1000000000000 := by
  unfold nB
  rw [← Int.pow_add, show D.length + (12 - D.length) = 12 by omega]
  rfl
theorem read_low {neg : Bool} {A D : List Nat} (h : Num neg A D) : lowT (sgI neg * ((digitsVal (A ++ padE D) : Nat) : Int)) 1000000000000 = lowT (nT neg A D) (nB D) ∧ lowB (sgI neg * ((digitsVal (A ++ padE D) : Nat) : Int)) 1000000000000 = lowB (nT neg A D) (nB D) := by
  have e : sgI neg * ((digitsVal (A ++ padE D) : Nat) : Int) = nT neg A D * 10 ^ (12 - D.length) := by
    rw [dv_pad, Int.natCast_mul, ← Int.mul_assoc, Int.natCast_pow]
    rfl
  rw [e, ← unit_is h.dl]
  exact low_scale (nB_pos D) (Int.pow_pos (by decide))
theorem partS_txt {neg : Bool} {A D : List Nat} (h : Num neg A D) : partS (mkS (txt neg A D)) = (mkS A, mkS (ptL D), mkS D) := by
  unfold partS
  rw [rp_txt h]
  exact part_txt (A := A) _ _ (no46 h.a)
theorem fig_one {c : Nat} (h : 48 ≤ c ∧ c ≤ 57) : isFig c = true := by
  have : c = 48 ∨ c = 49 ∨ c = 50 ∨ c = 51 ∨ c = 52 ∨ c = 53 ∨ c = 54 ∨ c = 55 ∨ c = 56 ∨ c = 57 := by omega
  rcases this with rfl | rfl | rfl | rfl | rfl | rfl | rfl | rfl | rfl | rfl <;> decide +kernel
theorem fig_ok {l : List Nat} {m : Int} (h : AllDigits l) (h1 : l ≠ []) (h2 : (l.length : Int) ≤ m) : figsOk (mkS l) m = true := by
  have : 0 < l.length := List.length_pos_iff.mpr h1
  unfold figsOk
  rw [len_mk, tl_mk, decide_eq_true (by omega), decide_eq_true h2, List.all_eq_true.mpr (fun c hc => fig_one (h c hc))]
  rfl
theorem num_true {neg : Bool} {A D : List Nat} (h : Num neg A D) : numS (mkS (txt neg A D)) = true := by
  unfold numS
  rw [partS_txt h]
  have al := h.al
  have dl := h.dl
  have n1 : decide (mkS (txt neg A D) = Str.ofString "-0") = false := by
    refine decide_eq_false fun z => ?_
    have z2 : txt neg A D = [45, 48] := by
      have := congrArg (fun s : Str => s.cps.toList) z
      simp only [tl_mk] at this
      rw [this]
      decide +kernel
    cases neg with
    | false =>
      cases hA : A with
      | nil => exact h.a0 hA
      | cons c r =>
        rw [hA] at z2
        have := h.a c (by rw [hA]; simp)
        have z3 : c :: (r ++ dotL D) = [45, 48] := z2
        have := (List.cons.inj z3).1
        omega
    | true =>
      have z3 : 45 :: (A ++ dotL D) = [45, 48] := z2
      have z4 := (List.cons.inj z3).2
      refine h.nz rfl ?_
      cases hA : A with
      | nil => exact absurd hA h.a0
      | cons c r =>
        rw [hA] at z4
        have z5 := List.cons.inj z4
        have z6 := List.append_eq_nil_iff.mp z5.2
        refine ⟨by rw [z5.1, z6.1], ?_⟩
        cases D with
        | nil => rfl
        | cons x y => cases z6.2
  have n2 : aheadS (mkS A) = true := by
    unfold aheadS
    rw [fig_ok h.a h.a0 (by omega), tl_mk]
    rcases h.az with rfl | z
    · rw [nought]
      decide +kernel
    · cases hA : A with
      | nil => exact absurd hA h.a0
      | cons c r =>
        have : c ≠ 48 := fun y => z r (by rw [hA, y])
        simp [this]
  have n3 : (decide (mkS (ptL D) = Str.ofString "") || Kx.behindS (mkS D)) = true := by
    cases hD : D with
    | nil =>
      rw [decide_eq_true (show mkS (ptL []) = Str.ofString "" from by decide +kernel)]
      rfl
    | cons c r =>
      rw [← hD]
      have hne : D ≠ [] := by rw [hD]; simp
      unfold Kx.behindS
      rw [fig_ok h.d hne (by omega), tl_mk, List.getLast?_eq_some_getLast hne]
      have : D.getLast hne ≠ 48 := fun y => h.dz D.dropLast (by rw [← y]; exact (List.dropLast_concat_getLast hne).symm)
      simp [this]
  show (!decide (mkS (txt neg A D) = Str.ofString "-0") && (aheadS (mkS A) && (decide (mkS (ptL D) = Str.ofString "") || Kx.behindS (mkS D)))) = true
  rw [n1, n2, n3]
  rfl
abbrev NT := Bool × List Nat × List Nat
def NumT (n : NT) : Prop := Num n.1 n.2.1 n.2.2
def ntS (n : NT) : Str := mkS (txt n.1 n.2.1 n.2.2)
def ntF (n : NT) : Int × Int := (lowT (nT n.1 n.2.1 n.2.2) (nB n.2.2), lowB (nT n.1 n.2.1 n.2.2) (nB n.2.2))
theorem nT_lt {neg : Bool} {A D : List Nat} (h : Num neg A D) : (nT neg A D).natAbs < 10 ^ (A.length + D.length) := by
  have := dv_lt (app_digits h.a h.d)
  rw [List.length_append] at this
  unfold nT sgI
  cases neg <;> simp <;> exact this
theorem nB_le {D : List Nat} (h : D.length ≤ 12) : nB D ≤ 10 ^ 12 := by
  have e := unit_is h
  have : (1 : Int) ≤ 10 ^ (12 - D.length) := by
    have : (0 : Int) < 10 ^ (12 - D.length) := Int.pow_pos (by decide)
    omega
  have := Int.mul_le_mul_of_nonneg_left this (Int.le_of_lt (nB_pos D))
  omega
structure Small (n : NT) : Prop where
  num : NumT n
  a12 : n.2.1.length ≤ 12
  d6 : n.2.2.length ≤ 6
structure Nm (x : Str) : Prop where
  l1 : 1 ≤ x.cps.toList.length
  l2 : x.cps.toList.length ≤ 10
  az : ∀ c ∈ x.cps.toList, 97 ≤ c ∧ c ≤ 122
abbrev TRow := Str × List NT
structure TOk (ss : List Str) (rs : List TRow) : Prop where
  s1 : 1 ≤ ss.length
  s4 : ss.length ≤ 4
  snd : ss.Nodup
  snm : ∀ s ∈ ss, Nm s
  r1 : 1 ≤ rs.length
  r12 : rs.length ≤ 12
  rnd : (rs.map (·.1)).Nodup
  rnm : ∀ r ∈ rs, Nm r.1
  rl : ∀ r ∈ rs, r.2.length = ss.length
  rn : ∀ r ∈ rs, ∀ n ∈ r.2, Small n
end Dt
set_option Elab.async false
set_option linter.all false
set_option maxRecDepth 100000
set_option maxHeartbeats 4000000
set_option autoImplicit false
namespace Dt
open PySem PySem.Spec L2 Kx PyProof.Rows PySem.NumText
theorem txt_signs {neg : Bool} {A D : List Nat} (h : Num neg A D) : ∀ c ∈ txt neg A D, c = 45 ∨ c = 46 ∨ (48 ≤ c ∧ c ≤ 57) := fun c hc => by
  unfold txt at hc
  rcases List.mem_append.mp hc with hc | hc
  · unfold sgL at hc
    cases neg with
    | true => simp at hc; exact .inl hc
    | false => simp at hc
  · rcases List.mem_append.mp hc with hc | hc
    · exact .inr (.inr (h.a c hc))
    · cases hD : D with
      | nil => rw [hD] at hc; simp [dotL] at hc
      | cons x y =>
        have e : dotL D = 46 :: D := by rw [hD]; rfl
        rw [e] at hc
        rcases List.mem_cons.mp hc with rfl | hc
        · exact .inr (.inl rfl)
        · exact .inr (.inr (h.d c hc))
theorem nt_len {n : NT} (h : NumT n) : (ntS n).length ≤ 29 := by
  unfold ntS
  rw [len_mk]
  exact len_txt h
def frN (n : NT) : D := frD (ntF n)
def wf_are_figures : WF := fun ds row Ψ Ξ => ∃ (l : List Nat) (m : Int), ds = [.str (mkS l), .int m] ∧ l.length ≤ 100000 ∧ Ψ (.val (.bl (figsOk (mkS l) m))) []
def wf_is_ahead : WF := fun ds row Ψ Ξ => ∃ l : List Nat, ds = [.str (mkS l)] ∧ l.length ≤ 100000 ∧ Ψ (.val (.bl (aheadS (mkS l)))) []
def wf_is_behind : WF := fun ds row Ψ Ξ => ∃ l : List Nat, ds = [.str (mkS l)] ∧ l.length ≤ 100000 ∧ Ψ (.val (.bl (Kx.behindS (mkS l)))) []
def wf_is_number : WF := fun ds row Ψ Ξ => ∃ l : List Nat, ds = [.str (mkS l)] ∧ l.length ≤ 100000 ∧ Ψ (.val (.bl (numS (mkS l)))) []
def wf_read_number : WF := fun ds row Ψ Ξ => ∃ n : NT, ds = [.str (ntS n)] ∧ NumT n ∧ Ψ (.val (frN n)) []
end Dt
set_option Elab.async false
set_option linter.all false
set_option maxRecDepth 100000
set_option maxHeartbeats 4000000
set_option autoImplicit false
namespace Dt
open PySem PySem.Spec L2 Kx PyProof.Rows PySem.NumText
theorem TOk.take {ss : List Str} {rs : List TRow} (h : TOk ss rs) {i : Nat} (hi : 1 ≤ i) : TOk ss (rs.take i) where
  s1 := h.s1
  s4 := h.s4
  snd := h.snd
  snm := h.snm
  r1 := by have := h.r1; rw [List.length_take]; omega
  r12 := by have := h.r12; rw [List.length_take]; omega
  rnd := by rw [List.map_take]; exact h.rnd.sublist (List.take_sublist ..)
  rnm := fun r hr => h.rnm r (List.mem_of_mem_take hr)
  rl := fun r hr => h.rl r (List.mem_of_mem_take hr)
  rn := fun r hr => h.rn r (List.mem_of_mem_take hr)
theorem take_succ {α : Type} {l : List α} {i : Nat} {a : α} (ha : l[i]? = some a) : l.take (i + 1) = l.take i ++ [a] := by rw [List.take_add_one, ha]; rfl
end Dt
set_option Elab.async false
set_option linter.all false
set_option maxRecDepth 100000
set_option maxHeartbeats 4000000
set_option autoImplicit false
namespace Dt
open PySem PySem.Spec L2 Kx PyProof.Rows PySem.NumText
def Lt (l : List Nat) : Prop := ∀ c ∈ l, 97 ≤ c ∧ c ≤ 122
end Dt
set_option Elab.async false
set_option linter.all false
set_option maxRecDepth 100000
set_option maxHeartbeats 4000000
set_option autoImplicit false
namespace Dt
open PySem PySem.Spec L2 Kx PyProof.Rows PySem.NumText
end Dt
set_option Elab.async false
set_option linter.all false
set_option maxRecDepth 100000
set_option maxHeartbeats 4000000
set_option autoImplicit false
namespace Dt
open PySem PySem.Spec L2 Kx PyProof.Rows PySem.NumText
end Dt
set_option Elab.async false
set_option linter.all false
set_option maxRecDepth 100000
set_option maxHeartbeats 4000000
set_option autoImplicit false
namespace Dt
open PySem PySem.Spec L2 Kx PyProof.Rows PySem.W
section
variable {T : Tb} {F F1 F2 F' H H1 H2 H' : Hp} {σ : L2.St} {Γ Γ1 Γ2 Γ' : Gm} {E : XK} {t : TE} {w : WE} {tA : TA} {wA : WA} {io : Bool}
def wRaise (c : Str) (wA : WA) : WS := fun Ψ Γ => wA Γ (fun rs _ => rs.length ≤ 1000 ∧ Ψ.xe ⟨c, [], []⟩) Ψ.xe
theorem sd_raise {c : Str} {C : Addr} (h : AD T E tA wA) (hns : PySem.W.nsIn T.K mainGlobals c = some (some (.ref C))) : SD T io E (tRaise E C tA) (wRaise c wA) := fun H0 F0 ra F σ H Γ D Ψ s hw e =>
  h F σ H Γ _ _ _ s.rp hw (e.xo s) fun F1 H1 Γ1 vs rs hr q er => by
    refine ⟨by rw [er.len]; exact hr.1, ?_⟩
    exact (e.xe F1 σ H1 Γ1 _ hr.2 (s.po q) C hns).1 rfl
theorem AD.calm (h : AD T E0 tA wA) (E : XK) {Γ : Gm} {Ψ : List R → Gm → Prop} {Q : List V → Hp → Prop} (p : Rp T F σ H Γ) (hw : wA Γ Ψ fun _ => False)
    (k : ∀ F' H' Γ' vs rs, Ψ rs Γ' → Po T F σ H Γ F' H' Γ' → RepRs T F' σ H' Γ' H vs rs → Q vs H') : tA σ H Q := h F σ H Γ _ _ _ p hw (fun _ _ _ _ z _ => z.elim) k
def wCallT (io' : Bool) (wf : WF) (wA : WA) : WE := fun Γ Ψ Ξ => wA Γ (fun rs Γ1 => callW io' wf rs Γ1 Ψ Ξ) fun _ => False
theorem ed_callT {io' : Bool} {wf : WF} (h : AD T E0 tA wA) (Eh : XK) : ED T Eh (tCall (spD T io' wf) [] Eh tA) (wCallT io' wf wA) := fun F σ H Γ Q Ψ Ξ p h1 x k => h.calm Eh p h1 fun F1 H1 Γ1 vs rs hr q e => by
  rw [List.append_nil]
  exact call_d q e hr x k
def wIfT (w : WT) (u1 u2 : WS) : WS := fun Ψ Γ => w Γ (fun b Γ1 => if b = true then u1 Ψ Γ1 else u2 Ψ Γ1) fun _ => False
theorem sd_ifT {t1 : TT} {w1 : WT} {u1 u2 : WS} {s1 s2 : TS} {Eh : XK} (h : TD T E0 t1 w1) (h1 : SD T io Eh s1 u1) (h2 : SD T io Eh s2 u2) : SD T io Eh (fun D σ H => t1 σ H fun k H1 => if k = true then s1 D σ H1 else s2 D σ H1) (wIfT w1 u1 u2) :=
  fun H0 F0 ra F σ H Γ D Ψ s hw e => h F σ H Γ _ _ _ s.rp hw (fun _ _ _ _ z _ => z.elim) fun F1 H1 Γ1 b hb q => by
    cases b with
    | true => exact h1 H0 F0 ra F1 σ H1 Γ1 D Ψ (s.po q) hb e
    | false => exact h2 H0 F0 ra F1 σ H1 Γ1 D Ψ (s.po q) hb e
theorem rs_unset {H0 F0 : Hp} {ra : Addr} {i : Nat} (s : Rs T false H0 F0 ra F σ H Γ) : Rs T false H0 F0 ra F (σ.set i none) H (Γ.set i none) := by
  have p := s.rp
  have get : ∀ (j : Nat) (e : En), (Γ.set i none)[j]? = some (some e) → j ≠ i ∧ Γ[j]? = some (some e) := fun j e hj => by
    by_cases hji : j = i
    · subst hji
      have hl : j < (Γ.set j none).length := (List.getElem?_eq_some_iff.mp hj).1
      rw [List.length_set] at hl
      rw [List.getElem?_set_self hl] at hj
      cases hj
    · rw [List.getElem?_set_ne (Ne.symm hji)] at hj
      exact ⟨hji, hj⟩
  have back : ∀ (j : Nat) (v : V), (σ.set i none)[j]? = some (some v) → σ[j]? = some (some v) := fun j v hj => by
    by_cases hji : j = i
    · subst hji
      have hl : j < (σ.set j none).length := (List.getElem?_eq_some_iff.mp hj).1
      rw [List.length_set] at hl
      rw [List.getElem?_set_self hl] at hj
      cases hj
    · rw [List.getElem?_set_ne (Ne.symm hji)] at hj
      exact hj
  have own : ∀ b, Owns (σ.set i none) (Γ.set i none) b → Owns σ Γ b := fun b ⟨j, ds, e1, e2⟩ => ⟨j, ds, (get j _ e1).2, back j _ e2⟩
  refine ⟨⟨p.toOk, by rw [List.length_set, List.length_set]; exact p.len, fun j e hj => ?_, fun j k ds ds' v h1 h2 h3 h4 => p.apart j k ds ds' v (get j _ h1).2 (get k _ h2).2 (back _ _ h3) (back _ _ h4)⟩, s.ff, s.en, fun b h => s.fr b (own b h), s.gro, s.nf, fun z => by cases z⟩
  obtain ⟨hji, hj⟩ := get j e hj
  obtain ⟨v, e1, r⟩ := p.at_ j e hj
  exact ⟨v, by rw [List.getElem?_set_ne (Ne.symm hji)]; exact e1, r⟩
def AllShr (Γ : Gm) : Prop := ∀ (i : Nat) (ds : List D), Γ[i]? ≠ some (some (.own ds))
theorem Rs.refl0 {ra : Addr} (p : Rp T F σ H Γ) (n : AllShr Γ) : Rs T false H F ra F σ H Γ :=
  ⟨p, fun _ _ h => h, fun _ _ h _ _ => h, fun b ⟨i, ds, h1, _⟩ => absurd h1 (n i ds), fun _ o h => ⟨o, h⟩, fun _ _ h => .inl h, fun z => by cases z⟩
theorem Rs.tr {H0 F0 : Hp} {ra : Addr} {σ' : L2.St} (s : Rs T false H0 F0 ra F σ H Γ) (s2 : Rs T false H F ra F' σ' H' Γ') : Rs T false H0 F0 ra F' σ' H' Γ' :=
  ⟨s2.rp, fun b o h => s2.ff _ _ (s.ff _ _ h), fun b o h nt hb => s2.en b o (s.en b o h nt hb) nt (fun z => nomatch z.1), fun b h => (s2.fr b h).elim (fun z => nomatch z.1) fun z => .inr (s.none z), fun b o h => let ⟨o1, h1⟩ := s.gro b o h; s2.gro b o1 h1, fun b o h => (s2.nf b o h).elim (fun z => s.nf b o z) fun z => z.elim (fun z => .inr (.inl (s.none z))) (fun z => by cases z.1), fun z => by cases z⟩
theorem Rs.oldR {H0 F0 : Hp} {ra : Addr} {σ' : L2.St} (s : Rs T false H0 F0 ra F σ H Γ) (n : AllShr Γ) (s2 : Rs T false H F ra F' σ' H' Γ') : Rs T false H0 F0 ra F' σ H' Γ := by
  refine ⟨⟨s2.rp.toOk, s.rp.len, fun i e h => ?_, fun i j ds ds' v h1 => absurd h1 (n i ds)⟩, fun b o h => s2.ff _ _ (s.ff _ _ h), fun b o h nt hb => s2.en b o (s.en b o h nt hb) nt (fun z => nomatch z.1), fun b ⟨i, ds, h1, _⟩ => absurd h1 (n i ds), fun b o h => let ⟨o1, h1⟩ := s.gro b o h; s2.gro b o1 h1, fun b o h => ?_, fun z => by cases z⟩
  · obtain ⟨v, e1, r⟩ := s.rp.at_ i e h
    refine ⟨v, e1, ?_⟩
    cases e with
    | shr d => exact Rep.mono s2.ff r
    | own ds => exact absurd h (n i ds)
  · rcases s2.nf b o h with z | z | z
    · exact s.nf b o z
    · exact .inr (.inl (s.none z))
    · cases z.1
def hdE (Ψ : WEnds) (i : Nat) : WEnds := { nx := fun Γ2 => Ψ.nx (Γ2.set i none), rt := Ψ.rt, bk := fun Γ2 => Ψ.bk (Γ2.set i none), ct := fun Γ2 => Ψ.ct (Γ2.set i none), xe := fun _ => False }
def wTryX (cs : List Str) (u : WS) (i : Nat) (uh : WS) : WS := fun Ψ Γ => AllShr Γ ∧ u { nx := Ψ.nx, rt := Ψ.rt, bk := Ψ.bk, ct := Ψ.ct, xe := fun xd => xd.ns = [] ∧ xd.ds = [] ∧ xd.c ∈ cs ∧ uh (hdE Ψ i) (Γ.set i (some (.shr (.exc xd.c [] [])))) } Γ
theorem ext_nt {φ : Heap → Prop} : NoT (.ext φ) := fun _ z => by cases z
theorem sd_try {cs : List Str} {tb : XK → TS} {ts : TS} {u uh : WS} {i : Nat} {Cb : Addr} (hu : ∀ Eh, SD T false Eh (tb Eh) u) (hh : SD T false E0 ts uh)
    (hcs : ∀ c ∈ cs, ∃ C, PySem.W.nsIn T.K mainGlobals c = some (some (.ref C)) ∧ exmOne T.K (.ref C) (.ref Cb) = some true) : SD T false E (tTry T.K tb ts i Cb) (wTryX cs u i uh) := fun H0 F0 ra F σ H Γ D Ψ s hw e => by
  obtain ⟨hn, hw⟩ := hw
  refine ⟨fun v _ H' => ∃ (C : Addr) (F' : Hp) (σ' : L2.St) (Γ' : Gm) (xd : XD), v = .ref C ∧ xd.ns = [] ∧ xd.ds = [] ∧ xd.c ∈ cs ∧ PySem.W.nsIn T.K mainGlobals xd.c = some (some (.ref C)) ∧ Rs T false H F ra F' σ' H' Γ' ∧
    uh (hdE Ψ i) (Γ.set i (some (.shr (.exc xd.c [] [])))), ?_, fun C H' a hE ha => ?_⟩
  · refine hu _ H F ra F σ H Γ D _ (Rs.refl0 s.rp hn) hw ⟨fun F1 σ1 H1 Γ1 h s1 => e.nx F1 σ1 H1 Γ1 h (s.tr s1), fun F1 σ1 H1 Γ1 h s1 => e.bk F1 σ1 H1 Γ1 h (s.tr s1), fun F1 σ1 H1 Γ1 h s1 => e.ct F1 σ1 H1 Γ1 h (s.tr s1), fun F1 σ1 H1 Γ1 v r h s1 er => e.rt F1 σ1 H1 Γ1 v r h (s.tr s1) ?_, fun F1 σ1 H1 Γ1 xd h s1 C hC => ⟨fun _ => ⟨C, F1, σ1, Γ1, xd, rfl, h.1, h.2.1, h.2.2.1, hC, s1, h.2.2.2⟩, fun dx vs hdx _ => ⟨C, F1, σ1, Γ1, xd, rfl, h.1, h.2.1, h.2.2.1, hC, s1, h.2.2.2⟩⟩⟩
    cases r with
    | val d => exact er
    | new ds => obtain ⟨a, vs, q1, q2, q3, q4, q5⟩ := er; exact ⟨a, vs, q1, q2, q3, s.none q4, q5⟩
    | slot j => exact er
  · obtain ⟨C', F', σ', Γ', xd, e1, n1, n2, hc, hns, s2, hx⟩ := hE
    cases e1
    obtain ⟨C2, h1, h2⟩ := hcs _ hc
    rw [h1] at hns
    cases hns
    refine ⟨h2, ?_⟩
    have s3 := s.oldR hn s2
    have n := s3.rp.toOk.lay (o := excH a C) ha ext_nt
    have s4 : Rs T false H0 F0 ra (L2.upd F' a (excH a C)) σ (L2.upd H' a (excH a C)) Γ := s3.po (s3.rp.po n)
    have s5 := s4.set (i := i) (v := .ref a) (e := .shr (.exc xd.c [] [])) (.exc h1 (.inl ⟨rfl, L2.upd_same⟩) .nil) (.inr rfl) (fun _ z => by cases z)
    refine hh H0 F0 ra _ _ _ _ _ _ s5 hx ⟨fun F2 σ2 H2 Γ2 h s6 => e.nx _ _ _ _ h (rs_unset s6), fun F2 σ2 H2 Γ2 h s6 => e.bk _ _ _ _ h (rs_unset s6), fun F2 σ2 H2 Γ2 h s6 => e.ct _ _ _ _ h (rs_unset s6), fun F2 σ2 H2 Γ2 v r h s6 er => e.rt F2 σ2 H2 Γ2 v r h s6 er, fun _ _ _ _ _ z _ => z.elim⟩
end
section
variable {X : Cx} {T : Tb} {E : XK} {io : Bool} {e : Expr} {es : List Expr} {tA : TA} {wA : WA} {pos : Pos} {x : Str}
structure QB (X : Cx) (T : Tb) (body : List Stmt) (tb : XK → TS) (u : WS) : Prop where
  pe : PB X body tb
  ed : ∀ Eh, SD T false Eh (tb Eh) u
theorem qb_set {j k i : Nat} {ps : List Str} {io' : Bool} {wf : WF} {y : Str} {p py pos' : Pos} (hne : ∀ e s, X.xe e s → False) (C : Cal X.prog X.w X.K X.mg X.base (CXE X.prog X.w) j x ps (spD T io' wf)) (hr : Room k X.A) (ha : QA X T E0 (e :: es) tA wA) (hg : Gl X x) (hj : j ≤ k)
    (hdb : (x == ("__debug__" : Str)) = false) (hs : (e :: es).any isStar = false) (hN : X.N.Nodup) (hi : X.N[i]? = some y) (hx : Loc X.env.scope y) (hf : X.fn y = true) :
    QB X T [.Assign [.Name y py] (.Call (.Name x p) (e :: es) [] pos) pos'] (fun Eh => tAsg (tCall (spD T io' wf) [] Eh tA) (gName i)) (wSet i (wCallT io' wf wA)) :=
  ⟨pb_set hne C hr ha.pe hg hj hdb hs hN hi hx hf, fun Eh => sd_set (ed_callT ha.ed Eh) (.inr rfl)⟩
theorem qb_if {c : Expr} {a b : List Stmt} {tc : TT} {wc : WT} {ta tb : XK → TS} {ua ub : WS} (hne : ∀ e s, X.xe e s → False) (hc : QT X T E0 c tc wc) (ha : QB X T a ta ua) (hb : QB X T b tb ub) :
    QB X T [.If c a b pos] (fun Eh D σ H => tc σ H fun k H1 => if k = true then ta Eh D σ H1 else tb Eh D σ H1) (wIfT wc ua ub) :=
  ⟨pb_if hne hc.pe ha.pe hb.pe, fun Eh => sd_ifT hc.ed (ha.ed Eh) (hb.ed Eh)⟩
theorem q_tryX {body : List Stmt} {tb : XK → TS} {ts : TS} {u uh : WS} {i : Nat} {y n : Str} {np hpos : Pos} {b0 : Stmt} {suite : List Stmt} {Cb : Addr} {cs : List Str} (hK : X.K = T.K) (hne : ∀ e s, X.xe e s → False)
    (hst : X.stack = X.env :: X.outer) (hfr : X.env.frame = some X.env.locals) (hb : QB X T body tb u) (hg : Gl X y) (hm : X.mg y = some (.ref Cb)) (hN : X.N.Nodup) (hi : X.N[i]? = some n) (hx : X.env.scope.names.lookup n = some .local) (hf : X.fn n = true)
    (hsu : ∀ a, QSs (inH X a) T false E0 (b0 :: suite) ts uh) (hdb : (y == ("__debug__" : Str)) = false)
    (hcs : ∀ c ∈ cs, ∃ C, PySem.W.nsIn T.K mainGlobals c = some (some (.ref C)) ∧ exmOne T.K (.ref C) (.ref Cb) = some true) :
    QS X T false E (.Try body [.ExceptHandler (some (.Name y np)) (some n) (b0 :: suite) hpos] [] [] pos) (tTry X.K tb ts i Cb) (wTryX cs u i uh) :=
  ⟨ps_try hne hst hfr hb.pe hg hm hN hi hx hf (fun a => (hsu a).pe) hdb, hK ▸ sd_try hb.ed (hsu 0).ed hcs⟩
end
section
variable {P : Program} {wd : World} {K : PySem.W.Frag} {mg : Str → Option Value} {base : Heap} {x qual : Str} {st : Stmt} {f : Addr} {fd : FuncData} {N ps : List Str} {k : Nat} {ts : List Addr} {ls : List (Addr × Pos × Str)} {io : Bool} {wf : WF} {w : WS}
theorem fn_dX (F : Fun K x qual st f fd) (S : FnScope N ps (defScope st)) (hn : ps.length ≤ N.length) (hl : ∀ ds row Ψ Ξ, wf ds row Ψ Ξ → (if io then 1 else 0) + ds.length = ps.length)
    (hw : ∀ ds row Ψ Ξ, wf ds row Ψ Ξ → w (endsW io Ψ Ξ) (startW io N.length ds row))
    (hb : ∀ (cdv : Value) (A : Around) (outer : List Env) (s : Shared) (H : Hp) (E : XK), Room k (A.deeper (envOfC qual (defScope st) s.heap.objs.size f cdv)) → ∃ t, QSs (cxOf (CXE P wd) P wd K mg base N qual (defScope st) f cdv A outer s H E) ⟨K, ts, ls⟩ io E (defBody st) t w) :
    FnOk P wd K mg base (CXE P wd) (k + 1) f fd ps (spD ⟨K, ts, ls⟩ io wf) := by
  refine Fun.okE F S (fun vs H Q E h => spD_len hl h) fun cdv A outer s H vs Q E hr h => ?_
  obtain ⟨t, q⟩ := hb cdv A outer s H E hr
  obtain ⟨F0, ra, rv, row, vs', ds, Ψ, Ξ, o, rfl, hrow, r, hwf, kk, kx⟩ := h
  refine ⟨t, q.pe, ?_⟩
  exact q.ed H F0 ra F0 _ H _ _ _ (start_ok o (by rw [hl ds row Ψ Ξ hwf]; exact hn) r hrow) (hw ds row Ψ Ξ hwf) (ends_ok (E' := E) kk kx)
variable {qual : Str} {scope : Scope} {cdv : Value} {A : Around} {outer : List Env} {s : Shared} {H : Hp} {E : XK}
theorem q_raise {y : Str} {C : Addr} {e : Expr} {es : List Expr} {np cpos pos : Pos} {t : TA} {wA : WA} {B newId initId : String} {bmB : List Value} (T : ExcK K y C newId bmB) (FB : ExcBaseFacts B newId initId bmB)
    (hG : Gl (cxOf (CXE P wd) P wd K mg base N qual scope f cdv A outer s H E) y) (ha : QA (cxOf (CXE P wd) P wd K mg base N qual scope f cdv A outer s H E) ⟨K, ts, ls⟩ E (e :: es) t wA) (hkind : scope.kind = .function) (hs : (e :: es).any isStar = false) (hd : (y == ("__debug__" : Str)) = false) :
    QS (cxOf (CXE P wd) P wd K mg base N qual scope f cdv A outer s H E) ⟨K, ts, ls⟩ io E (.Raise (some (.Call (.Name y np) (e :: es) [] cpos)) none pos) (tRaise E C t) (wRaise y wA) :=
  ⟨ps_raise T FB hG ha.pe hkind hs hd, sd_raise ha.ed T.ns⟩
end
end Dt
set_option Elab.async false
set_option linter.all false
set_option maxRecDepth 100000
set_option maxHeartbeats 4000000
set_option autoImplicit false
namespace Dt
open PySem PySem.Spec L2 Kx PyProof.Rows PySem.W
theorem exc_cls {K : PySem.W.Frag} {C : Addr} {bmB : List Value} {newId : String} (q : PySem.W.excIn K C bmB newId = true) : (PySem.W.clsIn K C).isSome = true := by
  unfold PySem.W.excIn at q
  split at q
  case h_2 => cases q
  rename_i ho
  unfold PySem.W.clsIn
  rw [ho]
  rfl
section
variable {X : Cx} {T : Tb} {E : XK} {c d : Str} {b : Bool} {e : Expr} {t : TE} {w : WE} {pos p1 p2 : Pos}
def rIsX (K : PySem.W.Frag) (c : Str) (y : V) (b : Bool) : List V → Hp → VK → Prop := fun vs H Q => ∃ a, vs = [.ref a, y] ∧ H a = some (excH a (CA K c)) ∧ Q (.bl b) H
theorem cr_isX {d : Str} (A : ExcA X.K (CA X.K c)) (k : kitOne X.K (.ref (CA X.K c)) (.ref (CA X.K d)) = some b) : CallR X (.builtin "isinstance") (rIsX X.K c (.ref (CA X.K d)) b) := by
  intro pins s σ H xs us Q I r ⟨a, e1, h1, q⟩
  exact call_isiE pins s σ H xs us Q I r ⟨a, CA X.K c, _, b, e1, h1, A, .inl ⟨_, rfl, k⟩, q⟩
theorem cr_isXt {n : String} (A : ExcA X.K (CA X.K c)) (k : kitOne X.K (.ref (CA X.K c)) (.type n) = some b) : CallR X (.builtin "isinstance") (rIsX X.K c (.ty n) b) := by
  intro pins s σ H xs us Q I r ⟨a, e1, h1, q⟩
  exact call_isiE pins s σ H xs us Q I r ⟨a, CA X.K c, _, b, e1, h1, A, .inr ⟨_, rfl, k⟩, q⟩
def wIsX (c : Str) (b : Bool) (w : WE) : WE := fun Γ Ψ Ξ => w Γ (fun r Γ1 => r = .val (.exc c [] []) ∧ Ψ (.val (.bl b)) Γ1) Ξ
theorem rep_exc0 {K : PySem.W.Frag} {F : Hp} {v : V} {c : Str} (h : Rep K F v (.exc c [] [])) : ∃ a, v = .ref a ∧ F a = some (excH a (CA K c)) := by
  cases h with
  | exc hC hF hr =>
    refine ⟨_, rfl, ?_⟩
    rcases hF with h | h
    · rw [CA_of hC]; exact h.2
    · exact absurd rfl h.1
theorem ed_isX {y : V} (h : ED T E t w) : ED T E (tCB (rIsX T.K c y b) (tCons t (tCons (tC y) tNil))) (wIsX c b w) := fun F σ H Γ Q Ψ Ξ p hw x k => h F σ H Γ _ _ Ξ p hw x fun F1 H1 Γ1 v r hr q e => by
  obtain ⟨rfl, hΨ⟩ := hr
  obtain ⟨a, rfl, hF⟩ := rep_exc0 (show Rep T.K F1 v (.exc c [] []) from e)
  exact ⟨a, rfl, q.rp.sub _ _ hF, k F1 H1 Γ1 _ _ hΨ q (Rep.bl b)⟩
theorem q_isX {d : Str} (hK : X.K = T.K) (A : ExcA X.K (CA X.K c)) (kk : kitOne X.K (.ref (CA X.K c)) (.ref (CA X.K d)) = some b) (h : QE X T E e t w) (hg : Gl X "isinstance") (hm : X.mg "isinstance" = none) (hv : PE X (.Name d p2) (tC (.ref (CA X.K d)))) (hs : [e, .Name d p2].any isStar = false) :
    QE X T E (.Call (.Name "isinstance" p1) [e, .Name d p2] [] pos) (tCB (rIsX T.K c (.ref (CA X.K d)) b) (tCons t (tCons (tC (.ref (CA X.K d))) tNil))) (wIsX c b w) :=
  ⟨hK ▸ pe_cB (cr_isX A kk) hg hm (by decide +kernel) (pa_c h.pe (pa_c hv pa_nil (by rfl)) (by simpa using (by simpa using hs : isStar e = false ∧ _).1)) (by decide) (by decide) hs, ed_isX h.ed⟩
theorem q_isXt {n : String} {ne : Expr} (hK : X.K = T.K) (A : ExcA X.K (CA X.K c)) (kk : kitOne X.K (.ref (CA X.K c)) (.type n) = some b) (h : QE X T E e t w) (hg : Gl X "isinstance") (hm : X.mg "isinstance" = none) (hv : PE X ne (tC (.ty n))) (hn : isStar ne = false) (hs : [e, ne].any isStar = false) :
    QE X T E (.Call (.Name "isinstance" p1) [e, ne] [] pos) (tCB (rIsX T.K c (.ty n) b) (tCons t (tCons (tC (.ty n)) tNil))) (wIsX c b w) :=
  ⟨hK ▸ pe_cB (cr_isXt A kk) hg hm (by decide +kernel) (pa_c h.pe (pa_c hv pa_nil hn) (by simpa using (by simpa using hs : isStar e = false ∧ _).1)) (by decide) (by decide) hs, ed_isX h.ed⟩
def tCs : List V → TA
  | [] => tNil
  | y :: ys => tCons (tC y) (tCs ys)
theorem tCs_is {σ : L2.St} {H : Hp} : ∀ {ys : List V} {Q : List V → Hp → Prop}, Q ys H → tCs ys σ H Q
  | [], _, h => h
  | y :: ys, _, h => tCs_is (ys := ys) h
def rIsXs (K : PySem.W.Frag) (c : Str) (Ds : List Addr) (b : Bool) : List V → Hp → VK → Prop := fun vs H Q => ∃ a tp, vs = [.ref a, .ref tp] ∧ H a = some (excH a (CA K c)) ∧ H tp = some (.tup (Ds.map V.ref)) ∧ Q (.bl b) H
theorem cr_isXs {Ds : List Addr} (A : ExcA X.K (CA X.K c)) (k : kitAny X.K (.ref (CA X.K c)) (Ds.map Value.ref) = some b) : CallR X (.builtin "isinstance") (rIsXs X.K c Ds b) := by
  intro pins s σ H xs us Q I r ⟨a, tp, e1, h1, h2, q⟩
  exact call_isiET pins s σ H xs us Q I r ⟨a, CA X.K c, tp, Ds, b, e1, h1, A, h2, k, q⟩
theorem ed_isXs {Ds : List Addr} (hl : Ds.length ≤ sizeLine) (h : ED T E t w) : ED T E (tCB (rIsXs T.K c Ds b) (tCons t (tCons (tTup (tCs (Ds.map V.ref))) tNil))) (wIsX c b w) := fun F σ H Γ Q Ψ Ξ p hw x k => h F σ H Γ _ _ Ξ p hw x fun F1 H1 Γ1 v r hr q e => by
  obtain ⟨rfl, hΨ⟩ := hr
  obtain ⟨a, rfl, hF⟩ := rep_exc0 (show Rep T.K F1 v (.exc c [] []) from e)
  have ha := q.rp.sub _ _ hF
  refine tCs_is ⟨by rw [List.length_map]; exact hl, fun tp htp => ⟨a, tp, rfl, same_new htp _ _ _ ha, L2.upd_same, ?_⟩⟩
  have n := q.rp.toOk.lay (o := .tup (Ds.map V.ref)) htp (fun _ z => by cases z)
  exact k _ _ Γ1 _ _ hΨ (q.nw n) (Rep.bl b)
theorem q_isXs {Ds : List Addr} {ns : List Expr} {x1 : Nat} {tpos : Pos} (hK : X.K = T.K) (A : ExcA X.K (CA X.K c)) (kk : kitAny X.K (.ref (CA X.K c)) (Ds.map Value.ref) = some b) (h : QE X T E e t w) (hg : Gl X "isinstance") (hm : X.mg "isinstance" = none) (hl : Ds.length ≤ sizeLine) (hv : PA X ns (tCs (Ds.map V.ref))) (hs : [e, .Tuple ns x1 tpos].any isStar = false) :
    QE X T E (.Call (.Name "isinstance" p1) [e, .Tuple ns x1 tpos] [] pos) (tCB (rIsXs T.K c Ds b) (tCons t (tCons (tTup (tCs (Ds.map V.ref))) tNil))) (wIsX c b w) :=
  ⟨hK ▸ pe_cB (cr_isXs A kk) hg hm (by decide +kernel) (pa_c h.pe (pa_c (pe_tup hv) pa_nil (by rfl)) (by simpa using (by simpa using hs : isStar e = false ∧ _).1)) (by decide) (by decide) hs, ed_isXs hl h.ed⟩
def rIsiN (K : PySem.W.Frag) : List V → Hp → VK → Prop := fun xs H Q => (∃ y b, xs = [y, .ty "str"] ∧ isiB y "str" = some b ∧ Q (.bl b) H) ∨ ∃ y, xs = [y, .ty "str"] ∧ (y = .non ∨ ∃ a ys, y = .ref a ∧ (SqT K H a ys ∨ SqL K H a ys)) ∧ Q (.bl false) H
theorem call_isiN : CallR X (.builtin "isinstance") (rIsiN X.K) := by
  intro pins s σ H xs us Q I r h
  rcases h with ⟨y, b, e1, hb, q⟩ | ⟨y, rfl, hy, q⟩
  · exact call_isi pins s σ H xs us Q I r ⟨y, "str", b, e1, hb, q⟩
  · obtain ⟨u1, u2, rfl, r1, r2⟩ := r.two
    cases r2
    rcases hy with rfl | ⟨a, ys, rfl, hs⟩
    · cases r1
      exact PySem.W.kia_one PySem.W.kitx_none I.kIn trivial rfl (by intro z; cases z) fun tk => ⟨.bl false, H, I.tok tk, rfl, q⟩
    · cases r1
      rcases hs with hs | hs
      · obtain ⟨its, _, ⟨o, ho, hc, _⟩, _⟩ := I.tuple hs
        exact PySem.W.kia_one PySem.W.kitx_tuple I.kIn ⟨o, ho, hc⟩ rfl (by intro z; cases z) fun tk => ⟨.bl false, H, I.tok tk, rfl, q⟩
      · obtain ⟨its, _, ⟨o, n, ho, hc, _⟩, _⟩ := I.list hs
        exact PySem.W.kia_one PySem.W.kitx_list I.kIn ⟨o, ho, hc⟩ rfl (by intro z; cases z) fun tk => ⟨.bl false, H, I.tok tk, rfl, q⟩
def D.isiN : D → Option Bool
  | .lst _ => some false
  | .tup _ => some false
  | .non => some false
  | d => isiB d.v "str"
def dIsiN : List D → (R → Prop) → Prop := fun ds Ψ => ∃ d b, ds = [d, .ty "str"] ∧ d.isiN = some b ∧ Ψ (.val (.bl b))
theorem cd_isiN : CD T (rIsiN T.K) dIsiN := cd_pure fun F H vs ds Q Ψ o hx hg k => by
  obtain ⟨d, b, rfl, hb, h⟩ := hg
  obtain ⟨v, u, rfl, hv, hu⟩ := hx.two
  obtain rfl := hu.ty
  unfold D.isiN at hb
  split at hb
  · cases hb
    obtain ⟨a, ws, rfl, hs, r⟩ := hv.lst o.sub
    exact .inr ⟨_, rfl, .inr ⟨a, ws, rfl, .inr (.inl hs)⟩, k _ _ h (.bl _)⟩
  · cases hb
    obtain ⟨a, ws, rfl, hs, r⟩ := hv.tup o.sub
    exact .inr ⟨_, rfl, .inr ⟨a, ws, rfl, .inl hs⟩, k _ _ h (.bl _)⟩
  · cases hb
    obtain rfl := hv.non
    exact .inr ⟨_, rfl, .inl rfl, k _ _ h (.bl _)⟩
  · refine .inl ⟨v, b, rfl, ?_, k _ _ h (.bl _)⟩
    have : v = d.v := by
      cases d <;> first
        | exact hv.non | exact hv.bl | exact hv.int | exact hv.str
        | (exfalso; unfold isiB D.v at hb; simp at hb)
    rw [this]
    exact hb
theorem raise_ap {wA : WA} {Ψe : WEnds} {Γ : Gm} : wRaise c wA Ψe Γ = wA Γ (fun rs _ => rs.length ≤ 1000 ∧ Ψe.xe ⟨c, [], []⟩) Ψe.xe := rfl
theorem ifT_ap {w1 : WT} {u1 u2 : WS} {Ψe : WEnds} {Γ : Gm} : wIfT w1 u1 u2 Ψe Γ = w1 Γ (fun b Γ1 => iteR b (u1 Ψe Γ1) (u2 Ψe Γ1)) fun _ => False := rfl
theorem hdE_nx {Ψe : WEnds} {i : Nat} {Γ : Gm} : (hdE Ψe i).nx Γ = Ψe.nx (Γ.set i none) := rfl
theorem disiN_ap {d : D} {Ψ : R → Prop} : dIsiN [d, .ty "str"] Ψ = ∃ b, d.isiN = some b ∧ Ψ (.val (.bl b)) := propext ⟨fun ⟨_, _, e, h⟩ => by cases e; exact ⟨_, h⟩, fun ⟨b, h⟩ => ⟨d, b, rfl, h⟩⟩
theorem isX_ap {Γ : Gm} {Φ : R → Gm → Prop} {Ξ : XD → Prop} : wIsX c b w Γ Φ Ξ = w Γ (fun r Γ1 => r = .val (.exc c [] []) ∧ Φ (.val (.bl b)) Γ1) Ξ := rfl
theorem isX_val {c' : Str} {P : Prop} : ((R.val (.exc c' [] []) = .val (.exc c [] [])) ∧ P) = (c' = c ∧ P) := propext ⟨fun ⟨h, p⟩ => ⟨by cases h; rfl, p⟩, fun ⟨h, p⟩ => ⟨by rw [h], p⟩⟩
theorem callT_ap {io' : Bool} {wf : WF} {wA : WA} {Γ : Gm} {Φ : R → Gm → Prop} {Ξ : XD → Prop} : wCallT io' wf wA Γ Φ Ξ = wA Γ (fun rs Γ1 => callW io' wf rs Γ1 Φ Ξ) fun _ => False := rfl
end
end Dt
set_option Elab.async false
set_option linter.all false
set_option maxRecDepth 100000
set_option maxHeartbeats 4000000
set_option autoImplicit false
namespace Dt
open PySem PySem.Spec L2 Kx PyProof.Rows PySem.NumText
def NoTx (d : D) : Prop := d = .non ∨ (∃ i, d = .int i) ∨ (∃ b, d = .bl b) ∨ (∃ xs, d = .tup xs) ∨ ∃ xs, d = .lst xs
def BadT (d : D) : Prop := (∃ l : List Nat, d = .str (mkS l) ∧ l.length ≤ 10000 ∧ numS (mkS l) = false) ∨ NoTx d
def BadF (p : Int × Int) : Prop := 1 ≤ p.2 ∧ p.2 ≤ 10 ^ 13 ∧ Bd 100 p.1 ∧ ((if p.1 < 0 then -p.1 else p.1) * 1000000000000 % p.2 ≠ 0 ∨ 1000000000000000000000000000 ≤ (if p.1 < 0 then -p.1 else p.1) * 1000000000000 / p.2)
def noNum : XD := ⟨"NoNumber", [], []⟩
theorem cop_one {r g : Nat} (hr : ∀ d, d ∣ r → d = 1 ∨ d = r) (h : ¬ r ∣ g) : Nat.gcd r g = 1 := by
  rcases hr _ (Nat.gcd_dvd_left r g) with e | e
  · exact e
  · exact absurd (e ▸ Nat.gcd_dvd_right r g) h
theorem prime_d {r : Nat} (h0 : 0 < r) (h : ∀ d : Fin (r + 1), d.val ∣ r → d.val = 1 ∨ d.val = r) : ∀ d, d ∣ r → d = 1 ∨ d = r := fun d hd => h ⟨d, Nat.lt_succ_of_le (Nat.le_of_dvd h0 hd)⟩ hd
theorem no_units {r g T b : Nat} (hr : ∀ d, d ∣ r → d = 1 ∨ d = r) (h10 : Nat.gcd r (10 ^ 12) = 1) (hx : ¬ r ∣ g * T) (hy : r ∣ g * b) : ¬ b ∣ T * 10 ^ 12 := fun h => by
  have hg : ¬ r ∣ g := fun z => hx (Nat.dvd_trans z (Nat.dvd_mul_right g T))
  have hb : r ∣ b := Nat.Coprime.dvd_of_dvd_mul_left (cop_one hr hg) hy
  have h2 : r ∣ T * 10 ^ 12 := Nat.dvd_trans hb h
  have h3 : r ∣ T := Nat.Coprime.dvd_of_dvd_mul_right h10 h2
  exact hx (Nat.dvd_trans h3 (Nat.dvd_mul_left T g))
theorem bad_low {s p v w : Int} (hs : s = 1 ∨ s = -1) (hp : p = 3 ∨ p = 7 ∨ p = 11 ∨ p = 13 ∨ p = 49) (v0 : 0 ≤ v) (v1 : v < 1000) (w0 : 0 ≤ w) (w1 : w < 90) : BadF (lowT (s * (1 + p * v)) (p * (1 + w)), lowB (s * (1 + p * v)) (p * (1 + w))) := by
  have hy : 0 < p * (1 + w) ∧ p * (1 + w) ≤ 10000 := by rcases hp with rfl | rfl | rfl | rfl | rfl <;> constructor <;> omega
  have hx : (s * (1 + p * v)).natAbs = (1 + p * v).natAbs ∧ (1 + p * v).natAbs < 100000 := by
    constructor
    · rcases hs with rfl | rfl <;> omega
    · rcases hp with rfl | rfl | rfl | rfl | rfl <;> omega
  obtain ⟨g, g0, e1, e2⟩ := low_mul (t := s * (1 + p * v)) hy.1
  have lp := low_pos (t := s * (1 + p * v)) hy.1
  obtain ⟨r, hr, h10, hrx, hry⟩ : ∃ r : Nat, (∀ d, d ∣ r → d = 1 ∨ d = r) ∧ Nat.gcd r (10 ^ 12) = 1 ∧ ¬ r ∣ (1 + p * v).natAbs ∧ r ∣ (p * (1 + w)).natAbs := by
    rcases hp with rfl | rfl | rfl | rfl | rfl
    · exact ⟨3, prime_d (by decide) (by decide), by decide +kernel, by omega, by omega⟩
    · exact ⟨7, prime_d (by decide) (by decide), by decide +kernel, by omega, by omega⟩
    · exact ⟨11, prime_d (by decide) (by decide), by decide +kernel, by omega, by omega⟩
    · exact ⟨13, prime_d (by decide) (by decide), by decide +kernel, by omega, by omega⟩
    · exact ⟨7, prime_d (by decide) (by decide), by decide +kernel, by omega, by omega⟩
  generalize lowT (s * (1 + p * v)) (p * (1 + w)) = t at *
  generalize lowB (s * (1 + p * v)) (p * (1 + w)) = b at *
  refine ⟨by show 1 ≤ b; omega, by show b ≤ 10 ^ 13; omega, (show t.natAbs < 2 ^ 100 from Nat.lt_trans (m := 100000) (by omega) (by decide)), .inl fun z => ?_⟩
  have z : (if t < 0 then -t else t) * 1000000000000 % b = 0 := z
  have e3 : (1 + p * v).natAbs = g.natAbs * t.natAbs := by rw [← hx.1, e1, Int.natAbs_mul]
  have e4 : (p * (1 + w)).natAbs = g.natAbs * b.natAbs := by rw [e2, Int.natAbs_mul]
  rw [e3] at hrx
  rw [e4] at hry
  refine no_units hr h10 hrx hry ?_
  have h5 : b ∣ (if t < 0 then -t else t) * 1000000000000 := Int.dvd_of_emod_eq_zero z
  have h6 := Int.natAbs_dvd_natAbs.mpr h5
  rw [Int.natAbs_mul] at h6
  rw [show (if t < 0 then -t else t).natAbs = t.natAbs from by split <;> omega] at h6
  exact h6
theorem pt_is : Str.ofString "." = (⟨#[46]⟩ : Str) := dot
theorem at_pt {r : List Nat} {i : Nat} : StrLaws.At (mkS r) (⟨#[46]⟩ : Str) (mkS r).length i ↔ r[i]? = some 46 := by
  have := StrLaws.subAt_one (mkS r) 46 i
  rw [tl_mk] at this
  exact this
theorem find_no {r : List Nat} (h : 46 ∉ r) : Txt.find (mkS r) (Str.ofString ".") = -1 := by
  rw [pt_is]
  unfold Txt.find
  rcases StrLaws.occ_head (mkS r) (⟨#[46]⟩ : Str) 1 (by decide) with ⟨e, _⟩ | ⟨i, q, e, ha, _⟩
  · rw [e]
  · exact absurd (List.mem_of_getElem? (at_pt.mp ha)) h
theorem find_pt {a b : List Nat} (h : 46 ∉ a) : Txt.find (mkS (a ++ 46 :: b)) (Str.ofString ".") = (a.length : Int) := by
  have h0 : (a ++ 46 :: b)[a.length]? = some 46 := by simp
  rw [pt_is]
  unfold Txt.find
  rcases StrLaws.occ_head (mkS (a ++ 46 :: b)) (⟨#[46]⟩ : Str) 1 (by decide) with ⟨e, hn⟩ | ⟨i, q, e, ha, hn⟩
  · exact absurd (at_pt.mpr h0) (hn _)
  · rw [e]
    have hi := at_pt.mp ha
    rcases Nat.lt_trichotomy i a.length with z | z | z
    · rw [List.getElem?_append_left z] at hi
      exact absurd (List.mem_of_getElem? hi) h
    · rw [z]
    · exact absurd (at_pt.mpr h0) (hn _ z)
theorem count_chain {r : List Nat} : ∀ (cuts : List Nat) (a f : Nat), StrLaws.ChainG (mkS r) (⟨#[46]⟩ : Str) (mkS r).length a cuts f → (∀ k, f ≤ k → ¬ StrLaws.At (mkS r) (⟨#[46]⟩ : Str) (mkS r).length k) → cuts.length = (r.drop a).count 46
  | [], a, f, h, hn => by
    have e : f = a := h
    subst e
    refine (List.count_eq_zero.mpr fun z => ?_).symm
    obtain ⟨i, hi⟩ := List.mem_iff_getElem?.mp z
    rw [List.getElem?_drop] at hi
    exact hn (f + i) (by omega) (at_pt.mpr hi)
  | c :: cs, a, f, h, hn => by
    obtain ⟨h1, h2, h3, h4⟩ := h
    have hc := at_pt.mp h2
    have ih := count_chain cs (c + 1) f h4 hn
    have e1 : r.drop a = (r.drop a).take (c - a) ++ r.drop c := by
      have := (List.take_append_drop (c - a) (r.drop a)).symm
      rw [List.drop_drop, show a + (c - a) = c by omega] at this
      exact this
    have e2 : r.drop c = 46 :: r.drop (c + 1) := by
      obtain ⟨hl, he⟩ := List.getElem?_eq_some_iff.mp hc
      rw [List.drop_eq_getElem_cons hl, he]
    have e3 : ((r.drop a).take (c - a)).count 46 = 0 := List.count_eq_zero.mpr fun z => by
      obtain ⟨i, hi⟩ := List.mem_iff_getElem?.mp z
      have hl := (List.getElem?_eq_some_iff.mp hi).1
      rw [List.length_take] at hl
      rw [List.getElem?_take_of_lt (by omega), List.getElem?_drop] at hi
      exact h3 (a + i) (by omega) (by omega) (at_pt.mpr hi)
    rw [e1, List.count_append, e3, e2, List.count_cons_self, List.length_cons, ih]
    omega
theorem count_pt (r : List Nat) : Txt.count (mkS r) (Str.ofString ".") = ((r.count 46 : Nat) : Int) := by
  rw [pt_is]
  obtain ⟨f, h1, h2⟩ := StrLaws.occ_tight (mkS r) (⟨#[46]⟩ : Str) (by decide)
  have := count_chain _ 0 f h1 h2
  unfold Txt.count
  rw [this, List.drop_zero]
theorem fig_inv {c : Nat} (h : isFig c = true) : 48 ≤ c ∧ c ≤ 57 := by
  have e : (Str.ofString "0123456789").cps.toList = [48, 49, 50, 51, 52, 53, 54, 55, 56, 57] := by decide +kernel
  have := of_decide_eq_true h
  rw [e] at this
  simp at this
  omega
theorem sg_rest (l : List Nat) : ∃ neg, l = sgL neg ++ restL l := by
  cases l with
  | nil => exact ⟨false, rfl⟩
  | cons c r =>
    by_cases h : c = 45
    · exact ⟨true, by show c :: r = [45] ++ (if c = 45 then r else c :: r); rw [if_pos h, h]; rfl⟩
    · exact ⟨false, by show c :: r = [] ++ (if c = 45 then r else c :: r); rw [if_neg h]; rfl⟩
theorem ahead_inv {a : List Nat} (h : aheadL a = true) : AllDigits a ∧ a ≠ [] ∧ a.length ≤ 15 ∧ (a = [48] ∨ ∀ r, a ≠ 48 :: r) := by
  unfold aheadL at h
  simp only [Bool.and_eq_true, Bool.or_eq_true, decide_eq_true_eq, List.all_eq_true] at h
  obtain ⟨⟨h1, h2, h3⟩, h4⟩ := h
  refine ⟨fun c hc => fig_inv (h3 c hc), fun z => by rw [z] at h1; simp at h1, h2, h4.elim .inl fun z => .inr fun r e => z (by rw [e]; rfl)⟩
theorem behind_inv {b : List Nat} (h : behindL b = true) : AllDigits b ∧ b ≠ [] ∧ b.length ≤ 12 ∧ (∀ r, b ≠ r ++ [48]) := by
  unfold behindL at h
  simp only [Bool.and_eq_true, decide_eq_true_eq, List.all_eq_true] at h
  obtain ⟨⟨h1, h2, h3⟩, h4⟩ := h
  refine ⟨fun c hc => fig_inv (h3 c hc), fun z => by rw [z] at h1; simp at h1, h2, fun r e => h4 (by rw [e]; simp)⟩
theorem num_ex {l : List Nat} (h : numS (mkS l) = true) : ∃ n, NumT n ∧ ntS n = mkS l := by
  obtain ⟨neg, hl⟩ := sg_rest l
  rcases split46 (restL l) with z | ⟨a, b, z, n⟩
  · rw [num_no z] at h
    simp only [Bool.and_eq_true, Bool.not_eq_true', decide_eq_false_iff_not] at h
    obtain ⟨h1, h2⟩ := h
    obtain ⟨a1, a2, a3, a4⟩ := ahead_inv h2
    refine ⟨(neg, restL l, []), ⟨a1, (fun c hc => by cases hc), a2, a3, by simp, a4, (fun r e => by simp at e), fun hn ⟨y, _⟩ => h1 ?_⟩, ?_⟩
    · have hn : neg = true := hn
      have y : restL l = [48] := y
      rw [hl, y, hn]
      rfl
    · show mkS (sgL neg ++ (restL l ++ dotL [])) = mkS l
      rw [show dotL [] = [] from rfl, List.append_nil, ← hl]
  · unfold numS partS at h
    rw [rp_rest, z, part1 a b n] at h
    simp only [Bool.and_eq_true] at h
    obtain ⟨h1, h2, h3⟩ := h
    rw [show decide (Str.ofString "." = Str.ofString "") = false from by decide +kernel, Bool.false_or, behind_mk] at h3
    rw [ahead_mk] at h2
    obtain ⟨a1, a2, a3, a4⟩ := ahead_inv h2
    obtain ⟨b1, b2, b3, b4⟩ := behind_inv h3
    refine ⟨(neg, a, b), ⟨a1, b1, a2, a3, b3, a4, b4, fun _ ⟨_, y⟩ => b2 y⟩, ?_⟩
    show mkS (sgL neg ++ (a ++ dotL b)) = mkS l
    have : dotL b = 46 :: b := by
      cases b with
      | nil => exact absurd rfl b2
      | cons x y => rfl
    rw [this, ← z, ← hl]
end Dt
set_option Elab.async false
set_option linter.all false
set_option maxRecDepth 100000
set_option maxHeartbeats 4000000
namespace Law
open PySem L2 Kx Dt
local macro_rules | `(tactic| walk_at "ev") => `(tactic| (try simp only [↓dfind_str, ↓dcount_str, ↓hdE_nx, ↓raise_ap, ↓ifT_ap, ↓disiN_ap, ↓isX_ap, ↓isX_val, ↓callT_ap, ↓fr_ix0, ↓fr_ix1, ↓BS_ap, ↓allG_ap, ↓ddm_ap, ↓txR_val, ↓flat_ap, ↓ext_ap, ↓newR_new, ↓drepS_ap, ↓lend_ap, ↓lstS_ap, ↓ljF_ap, ↓valR_val, ↓dstar_lst, ↓dstar_tup, ↓dsplit_str, ↓drmp_str, ↓dpart_str, ↓drstr_str, ↓dpad_int, ↓ieC_ap, ↓atsR_nil, ↓atsR_cons, ↓inS_str, ↓lenSet_ap, ↓fstr_ap, ↓j0_ap, ↓jT_ap, ↓jV_ap, ↓fmt_str, ↓fmt_int, ↓meth_ap, ↓two_ap, ↓seq_ap, ↓next_ap, ↓brk_ap, ↓cnt_ap, ↓drop_ap, ↓ret_ap, ↓retN_ap, ↓ifS_ap, ↓set_ap, ↓asg_ap, ↓putAt_ap, ↓par_ap, ↓aug_ap, ↓augAt_ap, ↓C_ap, ↓op_ap, ↓un_ap, ↓B_ap, ↓cmp_ap, ↓not_ap, ↓and_ap, ↓or_ap, ↓if_ap, ↓andV_ap, ↓orV_ap, ↓notV_ap, ↓chain_ap, ↓nil_ap, ↓cons_ap, ↓cb_ap, ↓tup_ap, ↓lst_ap, ↓call_ap, ↓callF, ↓callT, ↓sl_ap, ↓noP_ap, ↓prt_ap, ↓m1_ap, ↓rev_ap, ↓clr_ap, ↓app_ap, ↓gN_ap, ↓gT_ap, ↓g0_ap, ↓g1_ap, ↓il_ap, ↓it_ap, ↓ir1_ap, ↓ir2_ap, ↓is_ap, ↓ie_ap, ↓iz_ap, ↓for_ap, ↓lc_ap, ↓lcO_ap, ↓var_ap, ↓end_rt, ↓end_nx, ↓retT_val, ↓retT_new, ↓retT_slot, ↓retF_val, ↓retF_new, ↓retF_slot, ↓getR_val, ↓getR_new, ↓getR_slot, ↓blR_val, ↓intR_val, ↓strR_val, ↓frzR_val, ↓frzR_new, ↓frzR_slot, ↓atsR_nil, ↓atsR_cons, ↓frzLR_nil, ↓frzLR_cons, ↓ownR_ap, ↓shrR_ap, ↓anyR_ap, ↓ixR_ap, ↓atR_ap, ↓iteR_true, ↓iteR_false, ↓sideR_true, ↓put_val', ↓put_new', ↓put_slot, ↓I0_int, ↓I_ap, ↓B_int, ↓bod_eq, ↓sc_int, ↓sc_str, ↓sc_bl, ↓dx_lst, ↓dx_scr, ↓dx_tup, ↓dx_str, ↓len_lst, ↓len_tup, ↓len_scr, ↓dlen_str, ↓one_int, ↓two_int, ↓isi_ap, ↓din_tup, ↓din_lst, ↓daddS, ↓dcat, ↓dneg_int, ↓list_lst, ↓list_tup, ↓dtuple_lst, ↓dtuple_tup, ↓sl_lst, ↓dsl_str, ↓isN_non, ↓deq_ap, ↓dStrI_ap, ↓dInt1_bl, ↓dInt1_int, ↓drep_ap, ↓djoin_ap, startT, startF, goR_ap, varM_shr, varM_own, getM_shr, getM_own, frzM_shr, frzM_own, ownM_own, shrM_shr, anyM_some, ixM_some, atM_some, boM_some, retM_shr, retM_own, isi_int_int, isi_int_bool, isi_int_str, isi_int_tuple, isi_bl_int, isi_bl_bool, isi_bl_str, isi_bl_tuple, isi_str_int, isi_str_bool, isi_str_str, isi_str_tuple, isi_lst, isi_tup, v_int, v_str, v_bl, v_non, fl_int, fl_str, fl_bl, fl_non, List.all_cons, List.all_nil, Bool.and_self, end_xe, hold_val, hold_new, hold_slot, ix0, ix1, ix2, ixN_0, ixN_1, ixN_2, List.map_cons, List.map_nil, List.length_cons, List.length_nil, List.cons_append, List.nil_append, List.replicate_succ, List.replicate_zero, List.getElem?_cons_zero, List.getElem?_cons_succ, List.getElem?_nil, List.set_cons_zero, List.set_cons_succ, List.set_nil, and_true, true_and, reduceIte, reduceCtorEq, Bool.false_eq_true, Bool.not_true, Bool.not_false, if_true, if_false, Nat.zero_add, Nat.reduceAdd, Nat.reduceSub, wipeG, rstG]))
local macro_rules | `(tactic| walk_at "side") => `(tactic| first
  | assumption
  | exact ⟨by decide, by decide, by decide⟩
  | exact ⟨by decide, by decide⟩
  | (show (0 : Int) < _; decide)
  | (show (0 : Int) < _; omega)
  | exact Or.inr (Or.inr ⟨by omega, by omega⟩)
  | exact Or.inr (Or.inl ⟨by omega, by omega⟩)
  | exact ⟨by omega, Bd.mono (n := 8000) (m := 400) (by unfold Bd; omega) (by decide)⟩
  | exact ⟨by omega, by omega⟩
  | exact Nat.le_trans (m := 1000) (by simp) (by decide)
  | (show _ ≤ 16777216; omega)
  | rfl
  | decide)
local macro_rules | `(tactic| walk_at "sd") => `(tactic| (refine sideR_by (by walk_at "side") fun _ => ?_; walk_at "ev"))
def top (i : Nat) : Stmt := PySem.Challenge.pw_chartscribe_k05_no_numbers.main.body.getD i (.Pass ⟨0, 0, 0, 0⟩)
abbrev LSK (K : PySem.W.Frag) : List (Addr × Pos × Str) := []
abbrev tabG0 (K : PySem.W.Frag) : Addr := ((PySem.W.tabIn K "are_figures").map (·.2)).getD 0
abbrev TSK (K : PySem.W.Frag) : List Addr := [tabG0 K]
open PySem.NumText
def wf_is_number : WF := fun ds row Ψ Ξ => ∃ d, ds = [d] ∧ ((∃ l : List Nat, d = .str (mkS l) ∧ l.length ≤ 100000 ∧ Ψ (.val (.bl (numS (mkS l)))) []) ∨ NoTx d ∧ Ψ (.val (.bl false)) [])
def wf_read_number : WF := fun ds row Ψ Ξ => ∃ d, ds = [d] ∧ ((∃ n : NT, d = .str (ntS n) ∧ NumT n ∧ Ψ (.val (frN n)) []) ∨ BadT d ∧ Ξ noNum)
def wf_show_number : WF := fun ds row Ψ Ξ => ∃ p : Int × Int, ds = [frD p] ∧ BadF p ∧ Ξ noNum
def wf__law_low : WF := fun ds row Ψ Ξ => ∃ t b : Int, ds = [.int t, .int b] ∧ b ≠ 0 ∧ Bd 3100 t ∧ Bd 3100 b ∧ Ψ (.val (frD (lowT t b, lowB t b))) []
def wf__law_figures : WF := fun ds row Ψ Ξ => ∃ (m N : Int), ds = [.int m] ∧ RowD N row ∧ 0 ≤ N ∧ N < 2 ^ 50 ∧ 0 ≤ m ∧ m ≤ 100 ∧ ∀ (l : List Nat) row', AllDigits l → (l.length : Int) = m → RowD (N + m) row' → Ψ (.val (.str (mkS l))) row'
def wf__law_number_text : WF := fun ds row Ψ Ξ => ∃ (a d N : Int), ds = [.int a, .int d] ∧ RowD N row ∧ 0 ≤ N ∧ N < 2 ^ 40 ∧ 3 ≤ a ∧ a ≤ 15 ∧ 2 ≤ d ∧ d ≤ 12 ∧ ∀ (n : NT) row', NumT n → (n.2.1.length : Int) ≤ a → (n.2.2.length : Int) ≤ d → RowD (N + 100) row' → Ψ (.val (.str (ntS n))) row'
def wf__law_worth : WF := fun ds row Ψ Ξ => ∃ n : NT, ds = [.str (ntS n)] ∧ NumT n ∧ Ψ (.val (frN n)) []
def wf__law_is_number : WF := fun ds row Ψ Ξ => ∃ l : List Nat, ds = [.str (mkS l), .int 15, .int 12] ∧ l.length ≤ 1000 ∧ Ψ (.val (.bl (numS (mkS l)))) []
def wf__law_bent : WF := fun ds row Ψ Ξ => ∃ (l : List Nat) (N : Int), ds = [.str (mkS l)] ∧ l.length ≤ 29 ∧ RowD N row ∧ 0 ≤ N ∧ N < 2 ^ 40 ∧ ∀ (m : List Nat) row', m.length ≤ 100 → RowD (N + 100) row' → Ψ (.val (.str (mkS m))) row'
def wf__law_heard : WF := fun ds row Ψ Ξ => ∃ d b, ds = [d, .bl b] ∧ ((∃ n : NT, d = .str (ntS n) ∧ b = false ∧ NumT n ∧ Ψ (.val (.tup [.str (Str.ofString "told"), frN n])) []) ∨ (BadT d ∧ b = false ∧ Ψ (.val (.tup [.str (Str.ofString "refused"), .bl true])) []) ∨ ∃ p, d = frD p ∧ b = true ∧ BadF p ∧ Ψ (.val (.tup [.str (Str.ofString "refused"), .bl true])) [])
def wf__law_unwritten : WF := fun ds row Ψ Ξ => ∃ N : Int, ds = [] ∧ RowD N row ∧ 0 ≤ N ∧ N < 2 ^ 40 ∧ ∀ p row', BadF p → RowD (N + 10) row' → Ψ (.val (frD p)) row'
def wf_law : WF := fun ds row Ψ Ξ => ∃ ns : List Int, ds = [.scr (ns.map .int)] ∧ ns.length ≤ 63 ∧ Ψ (.val (.bl true)) []
def w_is_whole : WS := (wRet (wAndV (wCB dIsi (wACons (wVar 0) (wACons (wC (.ty "int")) wANil))) (wNotV (wCB dIsi (wACons (wVar 0) (wACons (wC (.ty "bool")) wANil))))))
theorem d_is_whole : ∀ ds row Ψ Ξ, wf_is_whole ds row Ψ Ξ → goR (w_is_whole (endsW false Ψ fun _ => False)) (startW false 1 ds row) := by
  rintro ds row Ψ Ξ ⟨t, rfl, q⟩
  unfold w_is_whole
  walk_at "ev"
  exact q
abbrev s_is_whole : Stmt := top 13
theorem sc_is_whole : FnScope ["thing"] ["thing"] (defScope s_is_whole) := ⟨rfl, rfl, rfl, by decide +kernel, rfl, by decide +kernel, by decide +kernel⟩
theorem ok_is_whole {P : Program} {w : World} {K : PySem.W.Frag} {mg : Str → Option Value} {base : Heap} {f : Addr} {fd : FuncData} (F : Fun K "is_whole" "is_whole" s_is_whole f fd)  (z_isinstance : mg "isinstance" = none) (z_int : mg "int" = none) (z_bool : mg "bool" = none) : FnOk P w K mg base (CXE P w) 1 f fd ["thing"] (spD ⟨K, TSK K, LSK K⟩ false wf_is_whole) := by
  have nd := (sc_is_whole).nd
  refine fn_d F sc_is_whole (by decide) (fun ds row Ψ Ξ h => by first | (obtain ⟨rfl, _⟩ := h; rfl) | (obtain ⟨_, rfl, _⟩ := h; rfl) | (obtain ⟨_, _, rfl, _⟩ := h; rfl) | (obtain ⟨_, _, _, rfl, _⟩ := h; rfl) | (obtain ⟨_, _, _, _, rfl, _⟩ := h; rfl) | (obtain ⟨_, _, _, _, _, rfl, _⟩ := h; rfl) | (obtain ⟨_, _, _, _, _, _, rfl, _⟩ := h; rfl) | (obtain ⟨_, _, _, _, _, _, _, rfl, _⟩ := h; rfl) | (obtain ⟨_, _, _, _, _, _, _, _, rfl, _⟩ := h; rfl) | (obtain ⟨_, _, _, _, _, _, _, _, _, rfl, _⟩ := h; rfl) | (obtain ⟨_, _, _, _, _, _, _, _, _, _, rfl, _⟩ := h; rfl) | (obtain ⟨_, _, _, _, _, _, _, _, _, _, _, rfl, _⟩ := h; rfl) | (obtain ⟨_, _, _, _, _, _, _, _, _, _, _, _, rfl, _⟩ := h; rfl) | (obtain ⟨_, _, _, _, _, _, _, _, _, _, _, _, _, rfl, _⟩ := h; rfl)) d_is_whole (fun cdv A outer s H E hr => ⟨_, (q_s1 (q_ret (q_andV (q_cB (call_isiK (by rfl)) cd_isi (by rfl) z_isinstance (by decide +kernel) (q_cons (q_v 0 (pv 0)) (q_cons (q_glob (pe_bltn (v := .ty "int") (by rfl) z_int (by decide +kernel) rfl) (fun _ => .ty _)) q_nil (by rfl)) (by rfl)) (by decide) (by decide) (by rfl)) (q_one (q_notV (q_cB (call_isiK (by rfl)) cd_isi (by rfl) z_isinstance (by decide +kernel) (q_cons (q_v 0 (pv 0)) (q_cons (q_glob (pe_bltn (v := .ty "bool") (by rfl) z_bool (by decide +kernel) rfl) (fun _ => .ty _)) q_nil (by rfl)) (by rfl)) (by decide) (by decide) (by rfl)))))))⟩)
def w_common_divisor : WS := (wSeq (wWhile (wCmp (bSc not) (wVar 1) (wC (.int 0))) (wPar 0 1 (wACons (wVar 1) (wACons (wOp dMod (wVar 0) (wVar 1)) wANil))))
  (wRet (wVar 0)))
theorem d_common_divisor : ∀ ds row Ψ Ξ, wf_common_divisor ds row Ψ Ξ → goR (w_common_divisor (endsW false Ψ fun _ => False)) (startW false 2 ds row) := by
  rintro ds row Ψ Ξ ⟨x, y, rfl, x0, y0, q⟩
  unfold w_common_divisor
  refine ⟨fun m Γ => ∃ (x' y' : Int), Γ = [some (En.shr (D.int x')), some (En.shr (D.int y'))] ∧ 0 ≤ x' ∧ 0 ≤ y' ∧ m = y'.toNat ∧ Nat.gcd x'.toNat y'.toNat = Int.gcd x y, ⟨_, x, y, rfl, x0, y0, rfl, ?_⟩, ?_⟩
  · unfold Int.gcd
    congr 1 <;> omega
  rintro m Γ ⟨x', y', rfl, hx, hy, rfl, hg⟩
  walk_at "ev"
  by_cases h0 : y' = 0
  · subst h0
    simp only [decide_true, Bool.not_true]
    walk_at "ev"
    have e : x' = ((Int.gcd x y : Nat) : Int) := by
      rw [← hg]
      simp
      omega
    rw [e]
    exact q
  · simp only [h0, decide_false, Bool.not_false]
    walk_at "ev"
    refine sideR_by (show 0 < y' by omega) fun _ => ?_
    walk_at "ev"
    have h1 := Int.emod_nonneg x' h0
    have h2 := Int.emod_lt_of_pos x' (show 0 < y' by omega)
    refine ⟨(x' % y').toNat, by omega, _, _, rfl, hy, h1, rfl, ?_⟩
    have e : (x' % y').toNat = x'.toNat % y'.toNat := by
      have := Int.toNat_emod hx hy
      omega
    rw [e]
    exact gcd_step hg (by omega)
abbrev s_common_divisor : Stmt := top 14
theorem sc_common_divisor : FnScope ["one", "other"] ["one", "other"] (defScope s_common_divisor) := ⟨rfl, rfl, rfl, by decide +kernel, rfl, by decide +kernel, by decide +kernel⟩
theorem ok_common_divisor {P : Program} {w : World} {K : PySem.W.Frag} {mg : Str → Option Value} {base : Heap} {f : Addr} {fd : FuncData} (F : Fun K "common_divisor" "common_divisor" s_common_divisor f fd)   : FnOk P w K mg base (CXE P w) 1 f fd ["one", "other"] (spD ⟨K, TSK K, LSK K⟩ false wf_common_divisor) := by
  have nd := (sc_common_divisor).nd
  refine fn_d F sc_common_divisor (by decide) (fun ds row Ψ Ξ h => by first | (obtain ⟨rfl, _⟩ := h; rfl) | (obtain ⟨_, rfl, _⟩ := h; rfl) | (obtain ⟨_, _, rfl, _⟩ := h; rfl) | (obtain ⟨_, _, _, rfl, _⟩ := h; rfl) | (obtain ⟨_, _, _, _, rfl, _⟩ := h; rfl) | (obtain ⟨_, _, _, _, _, rfl, _⟩ := h; rfl) | (obtain ⟨_, _, _, _, _, _, rfl, _⟩ := h; rfl) | (obtain ⟨_, _, _, _, _, _, _, rfl, _⟩ := h; rfl) | (obtain ⟨_, _, _, _, _, _, _, _, rfl, _⟩ := h; rfl) | (obtain ⟨_, _, _, _, _, _, _, _, _, rfl, _⟩ := h; rfl) | (obtain ⟨_, _, _, _, _, _, _, _, _, _, rfl, _⟩ := h; rfl) | (obtain ⟨_, _, _, _, _, _, _, _, _, _, _, rfl, _⟩ := h; rfl) | (obtain ⟨_, _, _, _, _, _, _, _, _, _, _, _, rfl, _⟩ := h; rfl) | (obtain ⟨_, _, _, _, _, _, _, _, _, _, _, _, _, rfl, _⟩ := h; rfl)) d_common_divisor (fun cdv A outer s H E hr => ⟨_, (q_sc (q_while PassesOwn.never (q_cmpT op_ne bd_ne (q_v 1 (pv 1)) q_int (nomark _)) (q_s1 (q_par (i := 0) (j := 1) (by rfl) nd rfl rfl (by decide) rfl rfl (q_cons (q_v 1 (pv 1)) (q_cons (q_op op_mod od_mod (q_v 0 (pv 0)) (q_v 1 (pv 1))) q_nil (by rfl)) (by rfl)) (Or.inr rfl) (by rfl) (by rfl))))
      (q_s1 (q_ret (q_v 0 (pv 0)))))⟩)
def w_fraction : WS := (wSeq (wIfS (wOr (wNot (wB (wCall false wf_is_whole (wACons (wVar 0) wANil)))) (wNot (wB (wCall false wf_is_whole (wACons (wVar 1) wANil))))) (fun _ _ => False) wNext)
  (wSeq (wIfS (wCmp (bSc id) (wVar 1) (wC (.int 0))) (fun _ _ => False) wNext)
  (wSeq (wSet 2 (wCall false wf_common_divisor (wACons (wCB dAbs (wACons (wVar 0) wANil)) (wACons (wCB dAbs (wACons (wVar 1) wANil)) wANil))))
  (wSeq (wIfS (wCmp bLt (wVar 1) (wC (.int 0))) (wSet 2 (wUn dNeg (wVar 2))) wNext)
  (wRet (wTup (wACons (wOp dDivB (wVar 0) (wVar 2)) (wACons (wOp dDivB (wVar 1) (wVar 2)) wANil))))))))
theorem d_fraction : ∀ ds row Ψ Ξ, wf_fraction ds row Ψ Ξ → goR (w_fraction (endsW false Ψ fun _ => False)) (startW false 3 ds row) := by
  rintro ds row Ψ Ξ ⟨t, b, rfl, bt, bb, b0, q⟩
  unfold w_fraction
  walk_at "ev"
  refine ⟨t, rfl, ?_⟩
  walk_at "ev"
  refine ⟨b, rfl, ?_⟩
  walk_at "ev"
  simp only [b0, decide_false, id]
  walk_at "ev"
  refine ⟨_, _, rfl, by split <;> omega, by split <;> omega, ?_⟩
  rw [gcd_abs]
  walk_at "ev"
  have hpos : 0 < Int.gcd t b := Int.gcd_pos_of_ne_zero_right t b0
  have hb : Bd 3100 ((Int.gcd t b : Nat) : Int) := by
    have : Int.gcd t b ≤ b.natAbs := Nat.gcd_le_right _ (by omega)
    unfold Bd at *
    omega
  refine iteR_by (fun h => ?_) (fun h => ?_)
  · have h := of_decide_eq_true h
    walk_at "ev"
    refine sideR_by ⟨by omega, (Bd.mono (m := 3101) (by unfold Bd at *; omega) (by decide))⟩ fun _ => ?_
    walk_at "ev"
    refine sideR_by ⟨by omega, (Bd.mono (m := 3101) (by unfold Bd at *; omega) (by decide))⟩ fun _ => ?_
    walk_at "ev"
    walk_at "sd"
    rw [show -((Int.gcd t b : Nat) : Int) = lowG t b by unfold lowG; rw [if_pos h]]
    exact q
  · have h := of_decide_eq_false h
    walk_at "ev"
    refine sideR_by ⟨by omega, hb.mono⟩ fun _ => ?_
    walk_at "ev"
    refine sideR_by ⟨by omega, hb.mono⟩ fun _ => ?_
    walk_at "ev"
    walk_at "sd"
    rw [show ((Int.gcd t b : Nat) : Int) = lowG t b by unfold lowG; rw [if_neg h]]
    exact q
abbrev s_fraction : Stmt := top 15
theorem sc_fraction : FnScope ["top", "bottom", "shared"] ["top", "bottom"] (defScope s_fraction) := ⟨rfl, rfl, rfl, by decide +kernel, rfl, by decide +kernel, by decide +kernel⟩
theorem ok_fraction {P : Program} {w : World} {K : PySem.W.Frag} {mg : Str → Option Value} {base : Heap} {f : Addr} {fd : FuncData} (F : Fun K "fraction" "fraction" s_fraction f fd) (C_is_whole : Cal P w K mg base (CXE P w) 1 "is_whole" ["thing"] (spD ⟨K, TSK K, LSK K⟩ false wf_is_whole)) (C_common_divisor : Cal P w K mg base (CXE P w) 1 "common_divisor" ["one", "other"] (spD ⟨K, TSK K, LSK K⟩ false wf_common_divisor)) (z_abs : mg "abs" = none) : FnOk P w K mg base (CXE P w) 2 f fd ["top", "bottom"] (spD ⟨K, TSK K, LSK K⟩ false wf_fraction) := by
  have nd := (sc_fraction).nd
  refine fn_d F sc_fraction (by decide) (fun ds row Ψ Ξ h => by first | (obtain ⟨rfl, _⟩ := h; rfl) | (obtain ⟨_, rfl, _⟩ := h; rfl) | (obtain ⟨_, _, rfl, _⟩ := h; rfl) | (obtain ⟨_, _, _, rfl, _⟩ := h; rfl) | (obtain ⟨_, _, _, _, rfl, _⟩ := h; rfl) | (obtain ⟨_, _, _, _, _, rfl, _⟩ := h; rfl) | (obtain ⟨_, _, _, _, _, _, rfl, _⟩ := h; rfl) | (obtain ⟨_, _, _, _, _, _, _, rfl, _⟩ := h; rfl) | (obtain ⟨_, _, _, _, _, _, _, _, rfl, _⟩ := h; rfl) | (obtain ⟨_, _, _, _, _, _, _, _, _, rfl, _⟩ := h; rfl) | (obtain ⟨_, _, _, _, _, _, _, _, _, _, rfl, _⟩ := h; rfl) | (obtain ⟨_, _, _, _, _, _, _, _, _, _, _, rfl, _⟩ := h; rfl) | (obtain ⟨_, _, _, _, _, _, _, _, _, _, _, _, rfl, _⟩ := h; rfl) | (obtain ⟨_, _, _, _, _, _, _, _, _, _, _, _, _, rfl, _⟩ := h; rfl)) d_fraction (fun cdv A outer s H E hr => ⟨_, (q_sc (q_ifS (QW.tst (q_or (q_tnot (q_tv (q_call C_is_whole hr passE0 (q_cons (q_v 0 (pv 0)) q_nil (by rfl)) (by rfl) (by decide) (by decide) (by rfl)) (by rfl))) (q_or1 (q_tnot (q_tv (q_call C_is_whole hr passE0 (q_cons (q_v 1 (pv 1)) q_nil (by rfl)) (by rfl) (by decide) (by decide) (by rfl)) (by rfl)))))) (q_s1 q_never) q_s0)
      (q_sc (q_ifS (q_cmpT op_eq bd_eq (q_v 1 (pv 1)) q_int (nomark _)) (q_s1 q_never) q_s0)
      (q_sc (q_set (i := 2) nd rfl (Or.inl rfl) (q_call C_common_divisor hr passE0 (q_cons (q_cB call_abs cd_abs (by rfl) z_abs (by decide +kernel) (q_cons (q_v 0 (pv 0)) q_nil (by rfl)) (by decide) (by decide) (by rfl)) (q_cons (q_cB call_abs cd_abs (by rfl) z_abs (by decide +kernel) (q_cons (q_v 1 (pv 1)) q_nil (by rfl)) (by decide) (by decide) (by rfl)) q_nil (by rfl)) (by rfl)) (by rfl) (by decide) (by decide) (by rfl)) (Or.inl (by decide)) (by rfl) (by first | exact .inl rfl | exact .inr rfl))
      (q_sc (q_ifS (q_cmpT op_lt bd_lt (q_v 1 (pv 1)) q_int (nomark _)) (q_s1 (q_set (i := 2) nd rfl (Or.inl rfl) (q_un un_neg ud_neg (q_v 2 (pv 2))) (Or.inl (by decide)) (by rfl) (by first | exact .inl rfl | exact .inr rfl))) q_s0)
      (q_s1 (q_ret (q_tup (q_cons (q_op op_fdivB od_divB (q_v 0 (pv 0)) (q_v 2 (pv 2))) (q_cons (q_op op_fdivB od_divB (q_v 1 (pv 1)) (q_v 2 (pv 2))) q_nil (by rfl)) (by rfl)))))))))⟩)
def w_are_figures : WS := (wRet (wAndV (wChain bLe bLe (wC (.int 1)) (wCB dLenS (wACons (wVar 0) wANil)) (wVar 1)) (wAllG (wIStr (wVar 0)) (wgName 2) (wOp (bod (bInS id)) (wVar 2) (wC (.str (Str.ofString "0123456789")))) [2])))
theorem d_are_figures : ∀ ds row Ψ Ξ, wf_are_figures ds row Ψ Ξ → goR (w_are_figures (endsW false Ψ fun _ => False)) (startW false 3 ds row) := by
  rintro ds row Ψ Ξ ⟨l, m, rfl, hl, q⟩
  unfold w_are_figures
  walk_at "ev"
  refine sideR_by (by rw [len_mk]; exact Nat.le_trans hl (by decide)) fun _ => ?_
  walk_at "ev"
  refine iteR_by (fun h1 => ?_) fun h1 => ?_
  · walk_at "ev"
    refine iteR_by (fun h2 => ?_) fun h2 => ?_
    · walk_at "ev"
      refine allB_map (fun d => match d with | .str x => x.cps.toList.all isFig | _ => false) (fun d hd k hk => ?_) ?_
      · unfold chs at hd
        obtain ⟨c, _, rfl⟩ := List.mem_map.mp hd
        walk_at "ev"
        refine ⟨_, rfl, ?_⟩
        rw [show id (hasS (Str.ofString "0123456789") ⟨#[c]⟩) = isFig c from StrLaws.found_one _ c]
        have z : (match D.str (⟨#[c]⟩ : Str) with | D.str x => x.cps.toList.all isFig | x => false) = isFig c := by simp
        rw [z] at hk
        exact hk
      · have e : (decide ((1 : Int) ≤ ((mkS l).length : Int)) && (decide (((mkS l).length : Int) ≤ m) && (chs (mkS l)).all fun d => match d with | .str x => x.cps.toList.all isFig | _ => false)) = figsOk (mkS l) m := by
          unfold figsOk chs
          rw [List.all_map]
          congr 2
          refine congrArg (fun f => (mkS l).cps.toList.all f) (funext fun c => ?_)
          simp
        rw [h1, h2, Bool.true_and, Bool.true_and] at e
        rw [e]
        show (endsW false Ψ fun _ => False).rt _ [some (En.shr (D.str (mkS l))), some (En.shr (D.int m)), none]
        walk_at "ev"
        exact q
    · walk_at "ev"
      have : figsOk (mkS l) m = false := by unfold figsOk; rw [h2]; simp
      rw [this] at q
      exact q
  · walk_at "ev"
    have : figsOk (mkS l) m = false := by unfold figsOk; rw [h1]; simp
    rw [this] at q
    exact q
abbrev s_are_figures : Stmt := top 22
theorem sc_are_figures : FnScope ["text", "most", "sign"] ["text", "most"] (defScope s_are_figures) := ⟨rfl, rfl, rfl, by decide +kernel, rfl, by decide +kernel, by decide +kernel⟩
theorem ok_are_figures {P : Program} {w : World} {K : PySem.W.Frag} {mg : Str → Option Value} {base : Heap} {t_FIGURES : Tok} {f c : Addr} {oc kV doc pm ct : Value} {od an : Option Addr} {osl : Array (Option Value)} (lk : K.lookup f = some ⟨oc, od, .func (PySem.W.fnOf "are_figures" "are_figures" (defArgs s_are_figures) (defBody s_are_figures) (defScope s_are_figures) .none kV doc pm an (.ref c) ct), osl⟩) (hcd : PySem.W.codeIn K (.ref c) "are_figures" = true) (hCK : PySem.W.codeHdIn K c (tabG0 K) = true) (hB : Kx.BltB mg base) (hls : ∀ p ∈ LSK K, p.1 ≠ tabG0 K)  (z_len : mg "len" = none) (z_all : mg "all" = none) (m_FIGURES : mg "FIGURES" = some (.str (Str.ofString "0123456789") t_FIGURES)) : FnOk P w K mg base (CXE P w) 2 f (PySem.W.fnOf "are_figures" "are_figures" (defArgs s_are_figures) (defBody s_are_figures) (defScope s_are_figures) .none kV doc pm an (.ref c) ct) ["text", "most"] (spD ⟨K, TSK K, LSK K⟩ false wf_are_figures) := by
  have nd := (sc_are_figures).nd
  obtain ⟨bm, ob, b1, b2, b3, b4, b5, b6⟩ := hB
  refine fn_dC lk hcd sc_are_figures (by decide) (fun ds row Ψ Ξ h => by first | (obtain ⟨rfl, _⟩ := h; rfl) | (obtain ⟨_, rfl, _⟩ := h; rfl) | (obtain ⟨_, _, rfl, _⟩ := h; rfl) | (obtain ⟨_, _, _, rfl, _⟩ := h; rfl) | (obtain ⟨_, _, _, _, rfl, _⟩ := h; rfl) | (obtain ⟨_, _, _, _, _, rfl, _⟩ := h; rfl) | (obtain ⟨_, _, _, _, _, _, rfl, _⟩ := h; rfl) | (obtain ⟨_, _, _, _, _, _, _, rfl, _⟩ := h; rfl) | (obtain ⟨_, _, _, _, _, _, _, _, rfl, _⟩ := h; rfl) | (obtain ⟨_, _, _, _, _, _, _, _, _, rfl, _⟩ := h; rfl) | (obtain ⟨_, _, _, _, _, _, _, _, _, _, rfl, _⟩ := h; rfl) | (obtain ⟨_, _, _, _, _, _, _, _, _, _, _, rfl, _⟩ := h; rfl) | (obtain ⟨_, _, _, _, _, _, _, _, _, _, _, _, rfl, _⟩ := h; rfl) | (obtain ⟨_, _, _, _, _, _, _, _, _, _, _, _, _, rfl, _⟩ := h; rfl)) d_are_figures (fun A outer s H E hr => ⟨_, (q_s1 (q_ret (q_andV (q_chain op_le bd_le op_le bd_le q_int (q_cB call_len_str cd_lenS (by rfl) z_len (by decide +kernel) (q_cons (q_v 0 (pv 0)) q_nil (by rfl)) (by decide) (by decide) (by rfl)) (q_v 1 (pv 1)) (by rfl)) (q_one (q_allG (k := 0) (P := tabG0 K) (own := [("sign", 2)]) (List.mem_cons_self ..) hls hr (by rfl) nd (q_is (q_v 0 (pv 0))) (blkOk_by (own := [("sign", 2)]) (N := ["text", "most", "sign"]) (sc := defScope s_are_figures) (by decide +kernel)) (by rfl) hCK ⟨b1, b2, b3, b4, b5, b6⟩ (by rfl) z_all (by rfl) (by decide +kernel) (by rfl) (fun _ _ _ _ _ hr => (q_cn (i := 2) (pg_name nd rfl (Or.inl rfl)) (by decide))) (fun _ _ _ _ _ hr => (q_cmp op_in_str bd_inS (q_v 2 (pv 2)) (q_glob (v := .str (Str.ofString "0123456789")) (pe_glob (by rfl) m_FIGURES ⟨_, rfl⟩) (fun _ => .str _)) (by rfl))) (fun _ => rfl))))))⟩)
def w_is_ahead : WS := (wRet (wAndV (wCall false wf_are_figures (wACons (wVar 0) (wACons (wC (.int 15)) wANil))) (wOrV (wOp (bod (bSc id)) (wVar 0) (wC (.str "0"))) (wOp (bod (bSc not)) (wOp dIx (wVar 0) (wC (.int 0))) (wC (.str "0"))))))
theorem d_is_ahead : ∀ ds row Ψ Ξ, wf_is_ahead ds row Ψ Ξ → goR (w_is_ahead (endsW false Ψ fun _ => False)) (startW false 1 ds row) := by
  rintro ds row Ψ Ξ ⟨l, rfl, hl, q⟩
  unfold w_is_ahead
  walk_at "ev"
  refine ⟨l, 15, rfl, hl, ?_⟩
  walk_at "ev"
  refine iteR_by (fun h => ?_) fun h => ?_
  · walk_at "ev"
    refine iteR_by (fun h2 => ?_) fun h2 => ?_
    · walk_at "ev"
      have : aheadS (mkS l) = true := by unfold aheadS; rw [h]; simp only [id] at h2; rw [h2]; rfl
      rw [this] at q
      exact q
    · walk_at "ev"
      cases l with
      | nil => exact absurd h (by decide +kernel)
      | cons c r =>
        refine sideR_by (by rw [len_mk]; exact Nat.le_trans hl (by decide)) fun _ => ?_
        rw [tl_mk]
        refine ⟨c, atI_nat (j := 0) (show (c :: r)[0]? = some c from rfl), ?_⟩
        walk_at "ev"
        have : aheadS (mkS (c :: r)) = !decide ((⟨#[c]⟩ : Str) = Str.ofString "0") := by
          unfold aheadS
          simp only [id] at h2
          rw [h, h2, tl_mk, nought, show ((⟨#[c]⟩ : Str)) = mkS [c] from rfl, dmk]
          simp
        rw [this] at q
        exact q
  · walk_at "ev"
    have : aheadS (mkS l) = false := by unfold aheadS; rw [h]; rfl
    rw [this] at q
    exact q
abbrev s_is_ahead : Stmt := top 23
theorem sc_is_ahead : FnScope ["text"] ["text"] (defScope s_is_ahead) := ⟨rfl, rfl, rfl, by decide +kernel, rfl, by decide +kernel, by decide +kernel⟩
theorem ok_is_ahead {P : Program} {w : World} {K : PySem.W.Frag} {mg : Str → Option Value} {base : Heap} {t_MOST_AHEAD : Tok} {f : Addr} {fd : FuncData} (F : Fun K "is_ahead" "is_ahead" s_is_ahead f fd) (C_are_figures : Cal P w K mg base (CXE P w) 2 "are_figures" ["text", "most"] (spD ⟨K, TSK K, LSK K⟩ false wf_are_figures))  (m_MOST_AHEAD : mg "MOST_AHEAD" = some (.int 15 t_MOST_AHEAD)) : FnOk P w K mg base (CXE P w) 3 f fd ["text"] (spD ⟨K, TSK K, LSK K⟩ false wf_is_ahead) := by
  have nd := (sc_is_ahead).nd
  refine fn_d F sc_is_ahead (by decide) (fun ds row Ψ Ξ h => by first | (obtain ⟨rfl, _⟩ := h; rfl) | (obtain ⟨_, rfl, _⟩ := h; rfl) | (obtain ⟨_, _, rfl, _⟩ := h; rfl) | (obtain ⟨_, _, _, rfl, _⟩ := h; rfl) | (obtain ⟨_, _, _, _, rfl, _⟩ := h; rfl) | (obtain ⟨_, _, _, _, _, rfl, _⟩ := h; rfl) | (obtain ⟨_, _, _, _, _, _, rfl, _⟩ := h; rfl) | (obtain ⟨_, _, _, _, _, _, _, rfl, _⟩ := h; rfl) | (obtain ⟨_, _, _, _, _, _, _, _, rfl, _⟩ := h; rfl) | (obtain ⟨_, _, _, _, _, _, _, _, _, rfl, _⟩ := h; rfl) | (obtain ⟨_, _, _, _, _, _, _, _, _, _, rfl, _⟩ := h; rfl) | (obtain ⟨_, _, _, _, _, _, _, _, _, _, _, rfl, _⟩ := h; rfl) | (obtain ⟨_, _, _, _, _, _, _, _, _, _, _, _, rfl, _⟩ := h; rfl) | (obtain ⟨_, _, _, _, _, _, _, _, _, _, _, _, _, rfl, _⟩ := h; rfl)) d_is_ahead (fun cdv A outer s H E hr => ⟨_, (q_s1 (q_ret (q_andV (q_call C_are_figures hr passE0 (q_cons (q_v 0 (pv 0)) (q_cons (q_glob (v := .int 15) (pe_glob (by rfl) m_MOST_AHEAD ⟨_, rfl⟩) (fun _ => .int _)) q_nil (by rfl)) (by rfl)) (by rfl) (by decide) (by decide) (by rfl)) (q_one (q_orV (q_cmp op_eq bd_eq (q_v 0 (pv 0)) q_str (nomark _)) (q_one (q_cmp op_ne bd_ne (q_ix (ix_seqK (by rfl)) od_ix (q_v 0 (pv 0)) q_int (fun _ _ => rfl)) q_str (nomark _))))))))⟩)
def w_is_behind : WS := (wRet (wAndV (wCall false wf_are_figures (wACons (wVar 0) (wACons (wC (.int 12)) wANil))) (wOp (bod (bSc not)) (wOp dIx (wVar 0) (wUn dNeg (wC (.int 1)))) (wC (.str "0")))))
theorem d_is_behind : ∀ ds row Ψ Ξ, wf_is_behind ds row Ψ Ξ → goR (w_is_behind (endsW false Ψ fun _ => False)) (startW false 1 ds row) := by
  rintro ds row Ψ Ξ ⟨l, rfl, hl, q⟩
  unfold w_is_behind
  walk_at "ev"
  refine ⟨l, 12, rfl, hl, ?_⟩
  walk_at "ev"
  refine iteR_by (fun h => ?_) fun h => ?_
  · walk_at "ev"
    refine sideR_by (by rw [len_mk]; exact Nat.le_trans hl (by decide)) fun _ => ?_
    rw [tl_mk]
    cases hz : l.getLast? with
    | none => rw [List.getLast?_eq_none_iff.mp hz] at h; exact absurd h (by decide +kernel)
    | some c =>
      refine ⟨c, ?_, ?_⟩
      · obtain ⟨y, e⟩ := List.getLast?_eq_some_iff.mp hz
        rw [e]
        exact atI_last _ _
      walk_at "ev"
      have : Kx.behindS (mkS l) = !decide ((⟨#[c]⟩ : Str) = Str.ofString "0") := by
        unfold Kx.behindS
        rw [h, tl_mk, hz, nought, show ((⟨#[c]⟩ : Str)) = mkS [c] from rfl, dmk]
        simp
      rw [this] at q
      exact q
  · walk_at "ev"
    have : Kx.behindS (mkS l) = false := by unfold Kx.behindS; rw [h]; rfl
    rw [this] at q
    exact q
abbrev s_is_behind : Stmt := top 24
theorem sc_is_behind : FnScope ["text"] ["text"] (defScope s_is_behind) := ⟨rfl, rfl, rfl, by decide +kernel, rfl, by decide +kernel, by decide +kernel⟩
theorem ok_is_behind {P : Program} {w : World} {K : PySem.W.Frag} {mg : Str → Option Value} {base : Heap} {t_MOST_BEHIND : Tok} {f : Addr} {fd : FuncData} (F : Fun K "is_behind" "is_behind" s_is_behind f fd) (C_are_figures : Cal P w K mg base (CXE P w) 2 "are_figures" ["text", "most"] (spD ⟨K, TSK K, LSK K⟩ false wf_are_figures))  (m_MOST_BEHIND : mg "MOST_BEHIND" = some (.int 12 t_MOST_BEHIND)) : FnOk P w K mg base (CXE P w) 3 f fd ["text"] (spD ⟨K, TSK K, LSK K⟩ false wf_is_behind) := by
  have nd := (sc_is_behind).nd
  refine fn_d F sc_is_behind (by decide) (fun ds row Ψ Ξ h => by first | (obtain ⟨rfl, _⟩ := h; rfl) | (obtain ⟨_, rfl, _⟩ := h; rfl) | (obtain ⟨_, _, rfl, _⟩ := h; rfl) | (obtain ⟨_, _, _, rfl, _⟩ := h; rfl) | (obtain ⟨_, _, _, _, rfl, _⟩ := h; rfl) | (obtain ⟨_, _, _, _, _, rfl, _⟩ := h; rfl) | (obtain ⟨_, _, _, _, _, _, rfl, _⟩ := h; rfl) | (obtain ⟨_, _, _, _, _, _, _, rfl, _⟩ := h; rfl) | (obtain ⟨_, _, _, _, _, _, _, _, rfl, _⟩ := h; rfl) | (obtain ⟨_, _, _, _, _, _, _, _, _, rfl, _⟩ := h; rfl) | (obtain ⟨_, _, _, _, _, _, _, _, _, _, rfl, _⟩ := h; rfl) | (obtain ⟨_, _, _, _, _, _, _, _, _, _, _, rfl, _⟩ := h; rfl) | (obtain ⟨_, _, _, _, _, _, _, _, _, _, _, _, rfl, _⟩ := h; rfl) | (obtain ⟨_, _, _, _, _, _, _, _, _, _, _, _, _, rfl, _⟩ := h; rfl)) d_is_behind (fun cdv A outer s H E hr => ⟨_, (q_s1 (q_ret (q_andV (q_call C_are_figures hr passE0 (q_cons (q_v 0 (pv 0)) (q_cons (q_glob (v := .int 12) (pe_glob (by rfl) m_MOST_BEHIND ⟨_, rfl⟩) (fun _ => .int _)) q_nil (by rfl)) (by rfl)) (by rfl) (by decide) (by decide) (by rfl)) (q_one (q_cmp op_ne bd_ne (q_ix (ix_seqK (by rfl)) od_ix (q_v 0 (pv 0)) (q_un un_neg ud_neg q_int) (fun _ _ => rfl)) q_str (nomark _))))))⟩)
def w_is_number : WS := (wSeq (wIfS (wOr (wNot (wB (wCB dIsiN (wACons (wVar 0) (wACons (wC (.ty "str")) wANil))))) (wCmp (bSc id) (wVar 0) (wC (.str "-0")))) (wRet (wC (.bl false))) wNext)
  (wSeq (wAsg (wM1 dPart (wM1 dRmp (wVar 0) (wC (.str "-"))) (wC (.str "."))) (wgTup 3 (wgCons (wgName 1) (wgCons (wgName 2) (wgCons (wgName 3) wgNil)))))
  (wRet (wAndV (wCall false wf_is_ahead (wACons (wVar 1) wANil)) (wOrV (wOp (bod (bSc id)) (wVar 2) (wC (.str ""))) (wCall false wf_is_behind (wACons (wVar 3) wANil)))))))
theorem d_is_number : ∀ ds row Ψ Ξ, wf_is_number ds row Ψ Ξ → goR (w_is_number (endsW false Ψ fun _ => False)) (startW false 4 ds row) := by
  rintro ds row Ψ Ξ ⟨d, rfl, h⟩
  unfold w_is_number
  rcases h with ⟨l, rfl, hl, q⟩ | ⟨hd, q⟩
  rotate_left
  · have hi : d.isiN = some false := by
      rcases hd with rfl | ⟨i, rfl⟩ | ⟨b, rfl⟩ | ⟨xs, rfl⟩ | ⟨xs, rfl⟩ <;> rfl
    walk_at "ev"
    refine ⟨false, hi, ?_⟩
    walk_at "ev"
    exact q
  walk_at "ev"
  refine ⟨true, rfl, ?_⟩
  walk_at "ev"
  refine iteR_by (fun h => ?_) fun h => ?_
  · simp only [id] at h
    walk_at "ev"
    have : numS (mkS l) = false := by unfold numS; rw [h]; rfl
    rw [this] at q
    exact q
  · simp only [id] at h
    walk_at "ev"
    refine sideR_by (by rw [len_mk]; exact Nat.le_trans hl (by decide)) fun _ => ?_
    rw [rp_rest]
    have hr : (restL l).length ≤ l.length := by
      cases l with
      | nil => exact Nat.le_refl _
      | cons c r => show (if c = 45 then r else c :: r).length ≤ _; split <;> simp
    have hs : numS (mkS l) = (aheadS (partS (mkS l)).1 && (decide ((partS (mkS l)).2.1 = Str.ofString "") || Kx.behindS (partS (mkS l)).2.2)) := by unfold numS; rw [h]; rfl
    obtain ⟨a, p, d, e, la, ld⟩ : ∃ (a : List Nat) (p : Str) (d : List Nat), Txt.partition (mkS (restL l)) (Str.ofString ".") = (mkS a, p, mkS d) ∧ a.length ≤ l.length ∧ d.length ≤ l.length := by
      rcases split46 (restL l) with z | ⟨a, b, z, n⟩
      · exact ⟨_, _, [], part2 _ z, hr, by simp⟩
      · rw [z] at hr ⊢
        simp at hr
        exact ⟨_, _, _, part1 a b n, by omega, by omega⟩
    have e2 : partS (mkS l) = (mkS a, p, mkS d) := by unfold partS; rw [rp_rest, e]
    rw [e2] at hs
    rw [hs] at q
    walk_at "ev"
    refine sideR_by (by rw [len_mk]; exact ⟨rfl, Nat.le_trans hr (Nat.le_trans hl (show 100000 ≤ sizeLine by decide))⟩) fun _ => ?_
    unfold partD
    rw [e]
    walk_at "ev"
    refine ⟨a, rfl, by omega, ?_⟩
    walk_at "ev"
    refine iteR_by (fun h1 => ?_) fun h1 => ?_
    · rw [h1, Bool.true_and] at q
      walk_at "ev"
      refine iteR_by (fun h2 => ?_) fun h2 => ?_
      · simp only [id] at h2
        rw [h2, Bool.true_or] at q
        walk_at "ev"
        exact q
      · simp only [id] at h2
        rw [h2, Bool.false_or] at q
        walk_at "ev"
        refine ⟨d, rfl, by omega, ?_⟩
        walk_at "ev"
        exact q
    · rw [h1] at q
      walk_at "ev"
      exact q
abbrev s_is_number : Stmt := top 25
theorem sc_is_number : FnScope ["text", "ahead", "point", "behind"] ["text"] (defScope s_is_number) := ⟨rfl, rfl, rfl, by decide +kernel, rfl, by decide +kernel, by decide +kernel⟩
theorem ok_is_number {P : Program} {w : World} {K : PySem.W.Frag} {mg : Str → Option Value} {base : Heap} {f : Addr} {fd : FuncData} (F : Fun K "is_number" "is_number" s_is_number f fd) (C_is_ahead : Cal P w K mg base (CXE P w) 3 "is_ahead" ["text"] (spD ⟨K, TSK K, LSK K⟩ false wf_is_ahead)) (C_is_behind : Cal P w K mg base (CXE P w) 3 "is_behind" ["text"] (spD ⟨K, TSK K, LSK K⟩ false wf_is_behind)) (z_isinstance : mg "isinstance" = none) (z_str : mg "str" = none) : FnOk P w K mg base (CXE P w) 4 f fd ["text"] (spD ⟨K, TSK K, LSK K⟩ false wf_is_number) := by
  have nd := (sc_is_number).nd
  refine fn_d F sc_is_number (by decide) (fun ds row Ψ Ξ h => by first | (obtain ⟨rfl, _⟩ := h; rfl) | (obtain ⟨_, rfl, _⟩ := h; rfl) | (obtain ⟨_, _, rfl, _⟩ := h; rfl) | (obtain ⟨_, _, _, rfl, _⟩ := h; rfl) | (obtain ⟨_, _, _, _, rfl, _⟩ := h; rfl) | (obtain ⟨_, _, _, _, _, rfl, _⟩ := h; rfl) | (obtain ⟨_, _, _, _, _, _, rfl, _⟩ := h; rfl) | (obtain ⟨_, _, _, _, _, _, _, rfl, _⟩ := h; rfl) | (obtain ⟨_, _, _, _, _, _, _, _, rfl, _⟩ := h; rfl) | (obtain ⟨_, _, _, _, _, _, _, _, _, rfl, _⟩ := h; rfl) | (obtain ⟨_, _, _, _, _, _, _, _, _, _, rfl, _⟩ := h; rfl) | (obtain ⟨_, _, _, _, _, _, _, _, _, _, _, rfl, _⟩ := h; rfl) | (obtain ⟨_, _, _, _, _, _, _, _, _, _, _, _, rfl, _⟩ := h; rfl) | (obtain ⟨_, _, _, _, _, _, _, _, _, _, _, _, _, rfl, _⟩ := h; rfl)) d_is_number (fun cdv A outer s H E hr => ⟨_, (q_sc (q_ifS (QW.tst (q_or (q_tnot (q_tv (q_cB call_isiN cd_isiN (by rfl) z_isinstance (by decide +kernel) (q_cons (q_v 0 (pv 0)) (q_cons (q_glob (pe_bltn (v := .ty "str") (by rfl) z_str (by decide +kernel) rfl) (fun _ => .ty _)) q_nil (by rfl)) (by rfl)) (by decide) (by decide) (by rfl)) (by rfl))) (q_or1 (q_cmpT op_eq bd_eq (q_v 0 (pv 0)) q_str (nomark _))))) (q_s1 (q_ret q_bl)) q_s0)
      (q_sc (q_asg (q_part (q_rmp (q_v 0 (pv 0)) q_str (by rfl) (by rfl) (by rfl)) q_str (by rfl) (by rfl) (by rfl)) (q_gt (by rfl) (by rfl) (q_g1 (q_gn (i := 1) (pg_name nd rfl (Or.inl rfl)) (Or.inl (by decide))) (q_g1 (q_gn (i := 2) (pg_name nd rfl (Or.inl rfl)) (Or.inl (by decide))) (q_g1 (q_gn (i := 3) (pg_name nd rfl (Or.inl rfl)) (Or.inl (by decide))) q_g0 (by rfl)) (by rfl)) (by rfl)) (by rfl) (by rfl)) (by rfl) (by rfl) (by rfl))
      (q_s1 (q_ret (q_andV (q_call C_is_ahead hr passE0 (q_cons (q_v 1 (pv 1)) q_nil (by rfl)) (by rfl) (by decide) (by decide) (by rfl)) (q_one (q_orV (q_cmp op_eq bd_eq (q_v 2 (pv 2)) q_str (nomark _)) (q_one (q_call C_is_behind hr passE0 (q_cons (q_v 3 (pv 3)) q_nil (by rfl)) (by rfl) (by decide) (by decide) (by rfl))))))))))⟩)
def w_read_number : WS := (wSeq (wIfS (wNot (wB (wCall false wf_is_number (wACons (wVar 0) wANil)))) (wRaise "NoNumber" (wACons (wC (.str "no number is written so")) wANil)) wNext)
  (wSeq (wAsg (wM1 dPart (wVar 0) (wC (.str "."))) (wgTup 3 (wgCons (wgName 1) (wgCons (wgName 2) (wgCons (wgName 3) wgNil)))))
  (wRet (wCall false wf_fraction (wACons (wCB dIntS (wACons (wOp dAddS (wVar 1) (wLjF (wVar 3) (wC (.int 12)) (wC (.str "0")))) wANil)) (wACons (wC (.int 1000000000000)) wANil))))))
theorem d_read_number : ∀ ds row Ψ Ξ, wf_read_number ds row Ψ Ξ → goR (w_read_number (endsW false Ψ Ξ)) (startW false 4 ds row) := by
  rintro ds row Ψ Ξ ⟨d, rfl, h⟩
  unfold w_read_number
  rcases h with ⟨⟨neg, A, D⟩, rfl, hn, q⟩ | ⟨hb, q⟩
  rotate_left
  · walk_at "ev"
    have key : wf_is_number [d] [] (fun r row => r = .val (.bl false) ∧ row = []) Ξ := by
      rcases hb with ⟨l, rfl, hl, e⟩ | hb
      · exact ⟨_, rfl, .inl ⟨l, rfl, by omega, by rw [e], rfl⟩⟩
      · exact ⟨_, rfl, .inr ⟨hb, rfl, rfl⟩⟩
    have fin : ∀ k : R → List D → Prop, k (.val (.bl false)) [] → callR wf_is_number [d] [] k Ξ := fun k hk => by
      rcases hb with ⟨l, rfl, hl, e⟩ | hb
      · exact ⟨_, rfl, .inl ⟨l, rfl, by omega, by rw [e]; exact hk⟩⟩
      · exact ⟨_, rfl, .inr ⟨hb, hk⟩⟩
    clear key
    refine fin _ ?_
    walk_at "ev"
    exact ⟨by decide, q⟩
  have hn : Num neg A D := hn
  walk_at "ev"
  have al := hn.al
  have dl := hn.dl
  have tl := len_txt hn
  refine ⟨_, rfl, .inl ⟨txt neg A D, rfl, Nat.le_trans tl (by decide), ?_⟩⟩
  rw [num_true hn]
  walk_at "ev"
  have et : txt neg A D = (sgL neg ++ A) ++ dotL D := (List.append_assoc _ _ _).symm
  have ep : Txt.partition (mkS (txt neg A D)) (Str.ofString ".") = (mkS (sgL neg ++ A), mkS (ptL D), mkS D) := by
    rw [et]
    exact part_txt (A := A) _ _ (no46s neg hn.a)
  have en : ntS (neg, A, D) = mkS (txt neg A D) := rfl
  rw [en]
  refine sideR_by ⟨rfl, by rw [len_mk]; exact Nat.le_trans tl (by decide)⟩ fun _ => ?_
  unfold partD
  rw [ep]
  walk_at "ev"
  refine lj_int 48 nought (by decide) ?_
  rw [lj D dl]
  walk_at "ev"
  refine sideR_by (by rw [len_mk, len_mk, List.length_append, List.length_append, List.length_replicate]; have : (sgL neg).length ≤ 1 := by { cases neg <;> decide }; exact Nat.le_trans (m := 50) (by omega) (by decide)) fun _ => ?_
  rw [app_mk]
  have e2 : sgL neg ++ A ++ (D ++ List.replicate (12 - D.length) 48) = sgL neg ++ (A ++ padE D) := by
    rw [List.append_assoc]
    rfl
  rw [e2]
  have dvl := dv_lt (app_digits hn.a (padE_digits hn.d))
  rw [List.length_append, padE_len hn.dl] at dvl
  have dv27 : digitsVal (A ++ padE D) < 10 ^ 27 := Nat.lt_of_lt_of_le dvl (Nat.pow_le_pow_right (by decide) (by omega))
  have bdv : Bd 3100 (sgI neg * ((digitsVal (A ++ padE D) : Nat) : Int)) := Bd.mono (m := 100) (by
    generalize digitsVal (A ++ padE D) = n at dv27
    unfold Bd sgI
    cases neg <;> simp <;> omega) (by decide)
  walk_at "ev"
  refine ⟨_, _, rfl, int_txt hn, by rw [len_mk, List.length_append, List.length_append, padE_len hn.dl]; have : (sgL neg).length ≤ 1 := by { cases neg <;> decide }; omega, ?_⟩
  walk_at "ev"
  refine ⟨_, _, rfl, bdv, Bd.mono (m := 100) (by unfold Bd; omega) (by decide), by decide, ?_⟩
  rw [(read_low hn).1, (read_low hn).2]
  walk_at "ev"
  exact q
abbrev s_read_number : Stmt := top 26
theorem sc_read_number : FnScope ["text", "ahead", "point", "behind"] ["text"] (defScope s_read_number) := ⟨rfl, rfl, rfl, by decide +kernel, rfl, by decide +kernel, by decide +kernel⟩
theorem ok_read_number {P : Program} {w : World} {K : PySem.W.Frag} {mg : Str → Option Value} {base : Heap} {t_UNIT : Tok} {t_MOST_BEHIND : Tok} {f : Addr} {fd : FuncData} (F : Fun K "read_number" "read_number" s_read_number f fd) (C_is_number : Cal P w K mg base (CXE P w) 4 "is_number" ["text"] (spD ⟨K, TSK K, LSK K⟩ false wf_is_number)) (C_fraction : Cal P w K mg base (CXE P w) 2 "fraction" ["top", "bottom"] (spD ⟨K, TSK K, LSK K⟩ false wf_fraction)) (T_NoNumber : ExcK K "NoNumber" (CA K "NoNumber") "ValueError.__new__" [.type "ValueError", .type "Exception", .type "BaseException", .type "object"]) (z_int : mg "int" = none) (m_UNIT : mg "UNIT" = some (.int 1000000000000 t_UNIT)) (m_MOST_BEHIND : mg "MOST_BEHIND" = some (.int 12 t_MOST_BEHIND)) : FnOk P w K mg base (CXE P w) 5 f fd ["text"] (spD ⟨K, TSK K, LSK K⟩ false wf_read_number) := by
  have nd := (sc_read_number).nd
  refine fn_dX F sc_read_number (by decide) (fun ds row Ψ Ξ h => by first | (obtain ⟨rfl, _⟩ := h; rfl) | (obtain ⟨_, rfl, _⟩ := h; rfl) | (obtain ⟨_, _, rfl, _⟩ := h; rfl) | (obtain ⟨_, _, _, rfl, _⟩ := h; rfl) | (obtain ⟨_, _, _, _, rfl, _⟩ := h; rfl) | (obtain ⟨_, _, _, _, _, rfl, _⟩ := h; rfl) | (obtain ⟨_, _, _, _, _, _, rfl, _⟩ := h; rfl) | (obtain ⟨_, _, _, _, _, _, _, rfl, _⟩ := h; rfl) | (obtain ⟨_, _, _, _, _, _, _, _, rfl, _⟩ := h; rfl) | (obtain ⟨_, _, _, _, _, _, _, _, _, rfl, _⟩ := h; rfl) | (obtain ⟨_, _, _, _, _, _, _, _, _, _, rfl, _⟩ := h; rfl) | (obtain ⟨_, _, _, _, _, _, _, _, _, _, _, rfl, _⟩ := h; rfl) | (obtain ⟨_, _, _, _, _, _, _, _, _, _, _, _, rfl, _⟩ := h; rfl) | (obtain ⟨_, _, _, _, _, _, _, _, _, _, _, _, _, rfl, _⟩ := h; rfl)) d_read_number (fun cdv A outer s H E hr => ⟨_, (q_sc (q_ifS (q_tnot (q_tv (q_call C_is_number hr Kx.pass_on (q_cons (q_v 0 (pv 0)) q_nil (by rfl)) (by rfl) (by decide) (by decide) (by rfl)) (by rfl))) (q_s1 (q_raise T_NoNumber PySem.F.excBase_ValueError (by rfl) (q_cons q_str q_nil (by rfl)) rfl (by rfl) (by decide))) q_s0)
      (q_sc (q_asg (q_part (q_v 0 (pv 0)) q_str (by rfl) (by rfl) (by rfl)) (q_gt (by rfl) (by rfl) (q_g1 (q_gn (i := 1) (pg_name nd rfl (Or.inl rfl)) (Or.inl (by decide))) (q_g1 (q_gn (i := 2) (pg_name nd rfl (Or.inl rfl)) (Or.inl (by decide))) (q_g1 (q_gn (i := 3) (pg_name nd rfl (Or.inl rfl)) (Or.inl (by decide))) q_g0 (by rfl)) (by rfl)) (by rfl)) (by rfl) (by rfl)) (by rfl) (by rfl) (by rfl))
      (q_s1 (q_ret (q_call C_fraction hr Kx.pass_on (q_cons (q_cT call_int_str cd_intS (by rfl) z_int (by decide +kernel) (q_cons (q_op op_add_str od_addS (q_v 1 (pv 1)) (q_ljF (q_v 3 (pv 3)) (q_glob (v := .int 12) (pe_glob (by rfl) m_MOST_BEHIND ⟨_, rfl⟩) (fun _ => .int _)) q_str (by rfl) (by rfl) (by rfl))) q_nil (by rfl)) (by decide) (by decide) (by rfl)) (q_cons (q_glob (v := .int 1000000000000) (pe_glob (by rfl) m_UNIT ⟨_, rfl⟩) (fun _ => .int _)) q_nil (by rfl)) (by rfl)) (by rfl) (by decide) (by decide) (by rfl))))))⟩)
def w_show_number : WS := (wSeq (wAsg (wCB dDivmod (wACons (wOp dMul (wCB dAbs (wACons (wOp dIx (wVar 0) (wC (.int 0))) wANil)) (wC (.int 1000000000000))) (wACons (wOp dIx (wVar 0) (wC (.int 1))) wANil))) (wgTup 2 (wgCons (wgName 1) (wgCons (wgName 2) wgNil))))
  (wSeq (wIfS (wOr (wCmp (bSc not) (wVar 2) (wC (.int 0))) (wCmp bGe (wVar 1) (wC (.int 1000000000000000000000000000)))) (wRaise "NoNumber" (wACons (wC (.str "this fraction is not written as a number")) wANil)) wNext)
  (wSeq (wAsg (wCB dDivmod (wACons (wVar 1) (wACons (wC (.int 1000000000000)) wANil))) (wgTup 2 (wgCons (wgName 3) (wgCons (wgName 4) wgNil))))
  (wSeq (wSet 5 (wM1 dRstr (wM1 (dPad Txt.zfill) (wCB dStrI (wACons (wVar 4) wANil)) (wC (.int 12))) (wC (.str "0"))))
  (wSeq (wSet 6 (wIf (wCmp bLt (wOp dIx (wVar 0) (wC (.int 0))) (wC (.int 0))) (wC (.str "-")) (wC (.str ""))))
  (wSeq (wSet 7 (wIf (wBS (wVar 5)) (wC (.str ".")) (wC (.str ""))))
  (wRet (wFStr (wJV (wVar 6) (wJV (wVar 3) (wJV (wVar 7) (wJV (wVar 5) wJ0))))))))))))
theorem d_show_number : ∀ ds row Ψ Ξ, wf_show_number ds row Ψ Ξ → goR (w_show_number (endsW false Ψ Ξ)) (startW false 8 ds row) := by
  rintro ds row Ψ Ξ ⟨p, rfl, ⟨p1, p2, p3, hz⟩, q⟩
  unfold w_show_number
  unfold frD
  walk_at "ev"
  refine sideR_by (.inr (.inr ⟨by decide, by decide⟩)) fun _ => ?_
  walk_at "ev"
  have e0 : 0 ≤ (if p.1 < 0 then -p.1 else p.1) := by split <;> omega
  refine sideR_by ⟨by omega, Bd.mono (n := 8000) (m := 400) (by unfold Bd; omega) (by decide)⟩ fun _ => ?_
  walk_at "ev"
  refine iteR_by (fun z => ?_) (fun z => ?_)
  · walk_at "ev"
    exact ⟨by decide, q⟩
  · walk_at "ev"
    refine iteR_by (fun z2 => ?_) (fun z2 => ?_)
    · walk_at "ev"
      exact ⟨by decide, q⟩
    · have h1 := of_decide_eq_false z2
      have h2 : (if p.1 < 0 then -p.1 else p.1) * 1000000000000 % p.2 = 0 := by simpa using z
      rcases hz with y | y
      · exact absurd h2 y
      · omega
abbrev s_show_number : Stmt := top 27
theorem sc_show_number : FnScope ["one", "units", "rest", "ahead", "places", "behind", "sign", "point"] ["one"] (defScope s_show_number) := ⟨rfl, rfl, rfl, by decide +kernel, rfl, by decide +kernel, by decide +kernel⟩
theorem ok_show_number {P : Program} {w : World} {K : PySem.W.Frag} {mg : Str → Option Value} {base : Heap} {t_UNIT : Tok} {t_TOO_GREAT : Tok} {t_MOST_BEHIND : Tok} {f : Addr} {fd : FuncData} (F : Fun K "show_number" "show_number" s_show_number f fd)  (T_NoNumber : ExcK K "NoNumber" (CA K "NoNumber") "ValueError.__new__" [.type "ValueError", .type "Exception", .type "BaseException", .type "object"]) (z_divmod : mg "divmod" = none) (z_abs : mg "abs" = none) (z_str : mg "str" = none) (m_UNIT : mg "UNIT" = some (.int 1000000000000 t_UNIT)) (m_TOO_GREAT : mg "TOO_GREAT" = some (.int 1000000000000000000000000000 t_TOO_GREAT)) (m_MOST_BEHIND : mg "MOST_BEHIND" = some (.int 12 t_MOST_BEHIND)) : FnOk P w K mg base (CXE P w) 1 f fd ["one"] (spD ⟨K, TSK K, LSK K⟩ false wf_show_number) := by
  have nd := (sc_show_number).nd
  refine fn_dX F sc_show_number (by decide) (fun ds row Ψ Ξ h => by first | (obtain ⟨rfl, _⟩ := h; rfl) | (obtain ⟨_, rfl, _⟩ := h; rfl) | (obtain ⟨_, _, rfl, _⟩ := h; rfl) | (obtain ⟨_, _, _, rfl, _⟩ := h; rfl) | (obtain ⟨_, _, _, _, rfl, _⟩ := h; rfl) | (obtain ⟨_, _, _, _, _, rfl, _⟩ := h; rfl) | (obtain ⟨_, _, _, _, _, _, rfl, _⟩ := h; rfl) | (obtain ⟨_, _, _, _, _, _, _, rfl, _⟩ := h; rfl) | (obtain ⟨_, _, _, _, _, _, _, _, rfl, _⟩ := h; rfl) | (obtain ⟨_, _, _, _, _, _, _, _, _, rfl, _⟩ := h; rfl) | (obtain ⟨_, _, _, _, _, _, _, _, _, _, rfl, _⟩ := h; rfl) | (obtain ⟨_, _, _, _, _, _, _, _, _, _, _, rfl, _⟩ := h; rfl) | (obtain ⟨_, _, _, _, _, _, _, _, _, _, _, _, rfl, _⟩ := h; rfl) | (obtain ⟨_, _, _, _, _, _, _, _, _, _, _, _, _, rfl, _⟩ := h; rfl)) d_show_number (fun cdv A outer s H E hr => ⟨_, (q_sc (q_asg (q_cB call_divmodB cd_divmod (by rfl) z_divmod (by decide +kernel) (q_cons (q_op op_mulB od_mul (q_cB call_abs cd_abs (by rfl) z_abs (by decide +kernel) (q_cons (q_ix (ix_seqK (by rfl)) od_ix (q_v 0 (pv 0)) q_int (fun _ _ => rfl)) q_nil (by rfl)) (by decide) (by decide) (by rfl)) (q_glob (v := .int 1000000000000) (pe_glob (by rfl) m_UNIT ⟨_, rfl⟩) (fun _ => .int _))) (q_cons (q_ix (ix_seqK (by rfl)) od_ix (q_v 0 (pv 0)) q_int (fun _ _ => rfl)) q_nil (by rfl)) (by rfl)) (by decide) (by decide) (by rfl)) (q_gt (by rfl) (by rfl) (q_g1 (q_gn (i := 1) (pg_name nd rfl (Or.inl rfl)) (Or.inl (by decide))) (q_g1 (q_gn (i := 2) (pg_name nd rfl (Or.inl rfl)) (Or.inl (by decide))) q_g0 (by rfl)) (by rfl)) (by rfl) (by rfl)) (by rfl) (by rfl) (by rfl))
      (q_sc (q_ifS (QW.tst (q_or (q_cmpT op_ne bd_ne (q_v 2 (pv 2)) q_int (nomark _)) (q_or1 (q_cmpT op_ge bd_ge (q_v 1 (pv 1)) (q_glob (v := .int 1000000000000000000000000000) (pe_glob (by rfl) m_TOO_GREAT ⟨_, rfl⟩) (fun _ => .int _)) (nomark _))))) (q_s1 (q_raise T_NoNumber PySem.F.excBase_ValueError (by rfl) (q_cons q_str q_nil (by rfl)) rfl (by rfl) (by decide))) q_s0)
      (q_sc (q_asg (q_cB call_divmodB cd_divmod (by rfl) z_divmod (by decide +kernel) (q_cons (q_v 1 (pv 1)) (q_cons (q_glob (v := .int 1000000000000) (pe_glob (by rfl) m_UNIT ⟨_, rfl⟩) (fun _ => .int _)) q_nil (by rfl)) (by rfl)) (by decide) (by decide) (by rfl)) (q_gt (by rfl) (by rfl) (q_g1 (q_gn (i := 3) (pg_name nd rfl (Or.inl rfl)) (Or.inl (by decide))) (q_g1 (q_gn (i := 4) (pg_name nd rfl (Or.inl rfl)) (Or.inl (by decide))) q_g0 (by rfl)) (by rfl)) (by rfl) (by rfl)) (by rfl) (by rfl) (by rfl))
      (q_sc (q_set (i := 5) nd rfl (Or.inl rfl) (q_rstrip (q_zfill (q_cT call_str_int cd_strI (by rfl) z_str (by decide +kernel) (q_cons (q_v 4 (pv 4)) q_nil (by rfl)) (by decide) (by decide) (by rfl)) (q_glob (v := .int 12) (pe_glob (by rfl) m_MOST_BEHIND ⟨_, rfl⟩) (fun _ => .int _)) (by rfl) (by rfl) (by rfl)) q_str (by rfl) (by rfl) (by rfl)) (Or.inl (by decide)) (by rfl) (by first | exact .inl rfl | exact .inr rfl))
      (q_sc (q_set (i := 6) nd rfl (Or.inl rfl) (q_if (q_cmpT op_lt bd_lt (q_ix (ix_seqK (by rfl)) od_ix (q_v 0 (pv 0)) q_int (fun _ _ => rfl)) q_int (nomark _)) q_str q_str) (Or.inl (by decide)) (by rfl) (by first | exact .inl rfl | exact .inr rfl))
      (q_sc (q_set (i := 7) nd rfl (Or.inl rfl) (q_if (q_tS (by rfl) (q_v 5 (pv 5)) (by rfl)) q_str q_str) (Or.inl (by decide)) (by rfl) (by first | exact .inl rfl | exact .inr rfl))
      (q_s1 (q_ret (q_fstr (q_jV (q_v 6 (pv 6)) (q_jV (q_v 3 (pv 3)) (q_jV (q_v 7 (pv 7)) (q_jV (q_v 5 (pv 5)) q_j0)))))))))))))⟩)
def w__law_cell_at : WS := (wSeq (wIfS (wCmp bLt (wVar 1) (wCB dLen (wACons (wVar 0) wANil))) (wRet (wOp dIx (wVar 0) (wVar 1))) wNext)
  (wRet (wC (.int 0))))
theorem d__law_cell_at : ∀ ds row Ψ Ξ, wf__law_cell_at ds row Ψ Ξ → goR (w__law_cell_at (endsW false Ψ fun _ => False)) (startW false 2 ds row) := by
  rintro ds row Ψ Ξ ⟨ns, k, rfl, h0, q⟩
  unfold w__law_cell_at
  walk_at "ev"
  refine iteR_by (fun h => ?_) (fun h => ?_)
  rotate_left
  · walk_at "ev"
    exact q 0
  have h := of_decide_eq_true h
  walk_at "ev"
  obtain ⟨z, hz, ha⟩ := at_in (ds := ns.map D.int) h0 h
  obtain ⟨v, _, rfl⟩ := List.mem_map.mp hz
  refine ⟨_, ha, ?_⟩
  walk_at "ev"
  exact q v
abbrev s__law_cell_at : Stmt := top 29
theorem sc__law_cell_at : FnScope ["_law_script", "_law_k"] ["_law_script", "_law_k"] (defScope s__law_cell_at) := ⟨rfl, rfl, rfl, by decide +kernel, rfl, by decide +kernel, by decide +kernel⟩
theorem ok__law_cell_at {P : Program} {w : World} {K : PySem.W.Frag} {mg : Str → Option Value} {base : Heap} {f : Addr} {fd : FuncData} (F : Fun K "_law_cell_at" "_law_cell_at" s__law_cell_at f fd)  (z_len : mg "len" = none) : FnOk P w K mg base (CXE P w) 1 f fd ["_law_script", "_law_k"] (spD ⟨K, TSK K, LSK K⟩ false wf__law_cell_at) := by
  have nd := (sc__law_cell_at).nd
  refine fn_d F sc__law_cell_at (by decide) (fun ds row Ψ Ξ h => by first | (obtain ⟨rfl, _⟩ := h; rfl) | (obtain ⟨_, rfl, _⟩ := h; rfl) | (obtain ⟨_, _, rfl, _⟩ := h; rfl) | (obtain ⟨_, _, _, rfl, _⟩ := h; rfl) | (obtain ⟨_, _, _, _, rfl, _⟩ := h; rfl) | (obtain ⟨_, _, _, _, _, rfl, _⟩ := h; rfl) | (obtain ⟨_, _, _, _, _, _, rfl, _⟩ := h; rfl) | (obtain ⟨_, _, _, _, _, _, _, rfl, _⟩ := h; rfl) | (obtain ⟨_, _, _, _, _, _, _, _, rfl, _⟩ := h; rfl) | (obtain ⟨_, _, _, _, _, _, _, _, _, rfl, _⟩ := h; rfl) | (obtain ⟨_, _, _, _, _, _, _, _, _, _, rfl, _⟩ := h; rfl) | (obtain ⟨_, _, _, _, _, _, _, _, _, _, _, rfl, _⟩ := h; rfl) | (obtain ⟨_, _, _, _, _, _, _, _, _, _, _, _, rfl, _⟩ := h; rfl) | (obtain ⟨_, _, _, _, _, _, _, _, _, _, _, _, _, rfl, _⟩ := h; rfl)) d__law_cell_at (fun cdv A outer s H E hr => ⟨_, (q_sc (q_ifS (q_cmpT op_lt bd_lt (q_v 1 (pv 1)) (q_cB (call_lenK (by rfl)) cd_len (by rfl) z_len (by decide +kernel) (q_cons (q_v 0 (pv 0)) q_nil (by rfl)) (by decide) (by decide) (by rfl)) (nomark _)) (q_s1 (q_ret (q_ix (ix_seqK (by rfl)) od_ix (q_v 0 (pv 0)) (q_v 1 (pv 1)) (fun _ _ => rfl)))) q_s0)
      (q_s1 (q_ret q_int)))⟩)
def w__law_take : WS := (wSeq (wPutAt 0 (wOp dAdd (wOp dIx (wVar 0) (wC (.int 1))) (wC (.int 1))) (wC (.int 1)))
  (wSeq (wIfS (wCmp bGe (wOp dIx (wVar 0) (wC (.int 0))) (wOp dPow (wC (.int 10)) (wC (.int 18)))) (wSeq (wSet 2 (wOp dSub (wOp dIx (wVar 0) (wC (.int 0))) (wOp dPow (wC (.int 10)) (wC (.int 18)))))
  (wSeq (wPutAt 0 (wOp dAdd (wOp dPow (wC (.int 10)) (wC (.int 18))) (wOp dDiv (wVar 2) (wVar 1))) (wC (.int 0)))
  (wRet (wOp dMod (wVar 2) (wVar 1))))) wNext)
  (wSeq (wSet 3 (wOp dMod (wOp dAdd (wOp dAdd (wOp dAdd (wOp dMul (wOp dIx (wVar 0) (wC (.int 0))) (wC (.int 40692))) (wOp dMul (wOp dMul (wC (.int 104729)) (wOp dIx (wVar 0) (wC (.int 1)))) (wOp dIx (wVar 0) (wC (.int 1))))) (wOp dMul (wC (.int 31)) (wOp dIx (wVar 0) (wC (.int 1))))) (wC (.int 5))) (wC (.int 2147483399))))
  (wSeq (wSet 3 (wOp dMod (wOp dAdd (wOp dAdd (wOp dMul (wVar 3) (wVar 3)) (wOp dMul (wC (.int 48271)) (wVar 3))) (wOp dIx (wVar 0) (wC (.int 1)))) (wC (.int 2147483647))))
  (wRet (wOp dMod (wOp dDiv (wVar 3) (wC (.int 7))) (wVar 1)))))))
theorem d__law_take : ∀ ds row Ψ Ξ, wf__law_take ds row Ψ Ξ → goR (w__law_take (endsW true Ψ fun _ => False)) (startW true 4 ds row) := by
  rintro ds row Ψ Ξ ⟨b, N, rfl, ⟨a, n, rfl, h0, h1⟩, hN, hb0, hb1, q⟩
  unfold w__law_take
  walk_at "ev"
  walk_at "sd"
  refine iteR_by (fun h => ?_) (fun h => ?_)
  · walk_at "ev"
    repeat walk_at "sd"
    exact q _ _ (Int.emod_nonneg _ (by omega)) (Int.emod_lt_of_pos _ hb0) ⟨_, _, rfl, by omega, by omega⟩
  · walk_at "ev"
    repeat walk_at "sd"
    exact q _ _ (Int.emod_nonneg _ (by omega)) (Int.emod_lt_of_pos _ hb0) ⟨_, _, rfl, by omega, by omega⟩
abbrev s__law_take : Stmt := top 30
theorem sc__law_take : FnScope ["_law_row", "_law_base", "_law_rest", "_law_number"] ["_law_row", "_law_base"] (defScope s__law_take) := ⟨rfl, rfl, rfl, by decide +kernel, rfl, by decide +kernel, by decide +kernel⟩
theorem ok__law_take {P : Program} {w : World} {K : PySem.W.Frag} {mg : Str → Option Value} {base : Heap} {f : Addr} {fd : FuncData} (F : Fun K "_law_take" "_law_take" s__law_take f fd)   : FnOk P w K mg base (CXE P w) 1 f fd ["_law_row", "_law_base"] (spD ⟨K, TSK K, LSK K⟩ true wf__law_take) := by
  have nd := (sc__law_take).nd
  refine fn_d F sc__law_take (by decide) (fun ds row Ψ Ξ h => by first | (obtain ⟨rfl, _⟩ := h; rfl) | (obtain ⟨_, rfl, _⟩ := h; rfl) | (obtain ⟨_, _, rfl, _⟩ := h; rfl) | (obtain ⟨_, _, _, rfl, _⟩ := h; rfl) | (obtain ⟨_, _, _, _, rfl, _⟩ := h; rfl) | (obtain ⟨_, _, _, _, _, rfl, _⟩ := h; rfl) | (obtain ⟨_, _, _, _, _, _, rfl, _⟩ := h; rfl) | (obtain ⟨_, _, _, _, _, _, _, rfl, _⟩ := h; rfl) | (obtain ⟨_, _, _, _, _, _, _, _, rfl, _⟩ := h; rfl) | (obtain ⟨_, _, _, _, _, _, _, _, _, rfl, _⟩ := h; rfl) | (obtain ⟨_, _, _, _, _, _, _, _, _, _, rfl, _⟩ := h; rfl) | (obtain ⟨_, _, _, _, _, _, _, _, _, _, _, rfl, _⟩ := h; rfl) | (obtain ⟨_, _, _, _, _, _, _, _, _, _, _, _, rfl, _⟩ := h; rfl) | (obtain ⟨_, _, _, _, _, _, _, _, _, _, _, _, _, rfl, _⟩ := h; rfl)) d__law_take (fun cdv A outer s H E hr => ⟨_, (q_sc (q_putAt (pv 0) (q_op op_add od_add (q_ix (ix_seqK (by rfl)) od_ix (q_v 0 (pv 0)) q_int (fun _ _ => rfl)) q_int) q_int (by rfl) (by rfl) (by rfl) (by intro _; rfl))
      (q_sc (q_ifS (q_cmpT op_ge bd_ge (q_ix (ix_seqK (by rfl)) od_ix (q_v 0 (pv 0)) q_int (fun _ _ => rfl)) (q_op op_pow od_pow q_int q_int) (nomark _)) (q_sc (q_set (i := 2) nd rfl (Or.inl rfl) (q_op op_sub od_sub (q_ix (ix_seqK (by rfl)) od_ix (q_v 0 (pv 0)) q_int (fun _ _ => rfl)) (q_op op_pow od_pow q_int q_int)) (Or.inl (by decide)) (by rfl) (by first | exact .inl rfl | exact .inr rfl))
      (q_sc (q_putAt (pv 0) (q_op op_add od_add (q_op op_pow od_pow q_int q_int) (q_op op_fdivP od_div (q_v 2 (pv 2)) (q_v 1 (pv 1)))) q_int (by rfl) (by rfl) (by rfl) (by intro _; rfl))
      (q_s1 (q_ret (q_op op_mod od_mod (q_v 2 (pv 2)) (q_v 1 (pv 1))))))) q_s0)
      (q_sc (q_set (i := 3) nd rfl (Or.inl rfl) (q_op op_mod od_mod (q_op op_add od_add (q_op op_add od_add (q_op op_add od_add (q_op op_mulB od_mul (q_ix (ix_seqK (by rfl)) od_ix (q_v 0 (pv 0)) q_int (fun _ _ => rfl)) q_int) (q_op op_mulB od_mul (q_op op_mulB od_mul q_int (q_ix (ix_seqK (by rfl)) od_ix (q_v 0 (pv 0)) q_int (fun _ _ => rfl))) (q_ix (ix_seqK (by rfl)) od_ix (q_v 0 (pv 0)) q_int (fun _ _ => rfl)))) (q_op op_mulB od_mul q_int (q_ix (ix_seqK (by rfl)) od_ix (q_v 0 (pv 0)) q_int (fun _ _ => rfl)))) q_int) q_int) (Or.inl (by decide)) (by rfl) (by first | exact .inl rfl | exact .inr rfl))
      (q_sc (q_set (i := 3) nd rfl (Or.inl rfl) (q_op op_mod od_mod (q_op op_add od_add (q_op op_add od_add (q_op op_mulB od_mul (q_v 3 (pv 3)) (q_v 3 (pv 3))) (q_op op_mulB od_mul q_int (q_v 3 (pv 3)))) (q_ix (ix_seqK (by rfl)) od_ix (q_v 0 (pv 0)) q_int (fun _ _ => rfl))) q_int) (Or.inl (by decide)) (by rfl) (by first | exact .inl rfl | exact .inr rfl))
      (q_s1 (q_ret (q_op op_mod od_mod (q_op op_fdivP od_div (q_v 3 (pv 3)) q_int) (q_v 1 (pv 1)))))))))⟩)
def w__law_low : WS := (wSeq (wSet 2 (wCB dAbs (wACons (wVar 0) wANil)))
  (wSeq (wSet 3 (wCB dAbs (wACons (wVar 1) wANil)))
  (wSeq (wWhile (wCmp (bSc not) (wVar 3) (wC (.int 0))) (wSeq (wSet 4 (wOp dMod (wVar 2) (wVar 3)))
  (wSeq (wSet 2 (wVar 3))
  (wSet 3 (wVar 4)))))
  (wSeq (wIfS (wCmp bLt (wVar 1) (wC (.int 0))) (wSet 2 (wOp dSub (wC (.int 0)) (wVar 2))) wNext)
  (wRet (wTup (wACons (wOp dDivB (wVar 0) (wVar 2)) (wACons (wOp dDivB (wVar 1) (wVar 2)) wANil))))))))
theorem d__law_low : ∀ ds row Ψ Ξ, wf__law_low ds row Ψ Ξ → goR (w__law_low (endsW false Ψ fun _ => False)) (startW false 5 ds row) := by
  rintro ds row Ψ Ξ ⟨t, b, rfl, b0, bt, bb, q⟩
  unfold w__law_low
  walk_at "ev"
  refine ⟨fun m Γ => ∃ (x y : Int) (x4 : Option En), Γ = [some (En.shr (D.int t)), some (En.shr (D.int b)), some (En.shr (D.int x)), some (En.shr (D.int y)), x4] ∧ 0 ≤ x ∧ 0 ≤ y ∧ m = y.toNat ∧ Nat.gcd x.toNat y.toNat = Int.gcd t b, ⟨_, _, _, _, rfl, ?_, ?_, rfl, ?_⟩, ?_⟩
  · split <;> omega
  · split <;> omega
  · rw [← gcd_abs]
    unfold Int.gcd
    congr 1 <;> split <;> omega
  rintro m Γ ⟨x, y, x4, rfl, x0, y0, rfl, hg⟩
  walk_at "ev"
  by_cases hy : y = 0
  · subst hy
    simp only [decide_true, Bool.not_true]
    walk_at "ev"
    have hx : x = ((Int.gcd t b : Nat) : Int) := by
      rw [← hg]
      simp
      omega
    subst hx
    have hpos : 0 < Int.gcd t b := Int.gcd_pos_of_ne_zero_right t b0
    have hb : Bd 3100 ((Int.gcd t b : Nat) : Int) := by
      have : Int.gcd t b ≤ b.natAbs := Nat.gcd_le_right _ (by omega)
      unfold Bd at *
      omega
    refine iteR_by (fun h => ?_) (fun h => ?_)
    · have h := of_decide_eq_true h
      walk_at "ev"
      refine sideR_by ⟨by omega, (Bd.mono (m := 3101) (by unfold Bd at *; omega) (by decide))⟩ fun _ => ?_
      walk_at "ev"
      refine sideR_by ⟨by omega, (Bd.mono (m := 3101) (by unfold Bd at *; omega) (by decide))⟩ fun _ => ?_
      walk_at "ev"
      walk_at "sd"
      rw [show (0 : Int) - ((Int.gcd t b : Nat) : Int) = lowG t b by unfold lowG; rw [if_pos h]; omega]
      exact q
    · have h := of_decide_eq_false h
      walk_at "ev"
      refine sideR_by ⟨by omega, hb.mono⟩ fun _ => ?_
      walk_at "ev"
      refine sideR_by ⟨by omega, hb.mono⟩ fun _ => ?_
      walk_at "ev"
      walk_at "sd"
      rw [show ((Int.gcd t b : Nat) : Int) = lowG t b by unfold lowG; rw [if_neg h]]
      exact q
  · simp only [hy, decide_false, Bool.not_false]
    walk_at "ev"
    refine sideR_by (show 0 < y by omega) fun _ => ?_
    walk_at "ev"
    have h1 := Int.emod_nonneg x hy
    have h2 := Int.emod_lt_of_pos x (show 0 < y by omega)
    refine ⟨(x % y).toNat, by omega, _, _, _, rfl, y0, h1, rfl, ?_⟩
    have e : (x % y).toNat = x.toNat % y.toNat := by
      have := Int.toNat_emod x0 y0
      omega
    rw [e]
    exact gcd_step hg (by omega)
abbrev s__law_low : Stmt := top 31
theorem sc__law_low : FnScope ["_law_top", "_law_bottom", "_law_one", "_law_other", "_law_rest"] ["_law_top", "_law_bottom"] (defScope s__law_low) := ⟨rfl, rfl, rfl, by decide +kernel, rfl, by decide +kernel, by decide +kernel⟩
theorem ok__law_low {P : Program} {w : World} {K : PySem.W.Frag} {mg : Str → Option Value} {base : Heap} {f : Addr} {fd : FuncData} (F : Fun K "_law_low" "_law_low" s__law_low f fd)  (z_abs : mg "abs" = none) : FnOk P w K mg base (CXE P w) 1 f fd ["_law_top", "_law_bottom"] (spD ⟨K, TSK K, LSK K⟩ false wf__law_low) := by
  have nd := (sc__law_low).nd
  refine fn_d F sc__law_low (by decide) (fun ds row Ψ Ξ h => by first | (obtain ⟨rfl, _⟩ := h; rfl) | (obtain ⟨_, rfl, _⟩ := h; rfl) | (obtain ⟨_, _, rfl, _⟩ := h; rfl) | (obtain ⟨_, _, _, rfl, _⟩ := h; rfl) | (obtain ⟨_, _, _, _, rfl, _⟩ := h; rfl) | (obtain ⟨_, _, _, _, _, rfl, _⟩ := h; rfl) | (obtain ⟨_, _, _, _, _, _, rfl, _⟩ := h; rfl) | (obtain ⟨_, _, _, _, _, _, _, rfl, _⟩ := h; rfl) | (obtain ⟨_, _, _, _, _, _, _, _, rfl, _⟩ := h; rfl) | (obtain ⟨_, _, _, _, _, _, _, _, _, rfl, _⟩ := h; rfl) | (obtain ⟨_, _, _, _, _, _, _, _, _, _, rfl, _⟩ := h; rfl) | (obtain ⟨_, _, _, _, _, _, _, _, _, _, _, rfl, _⟩ := h; rfl) | (obtain ⟨_, _, _, _, _, _, _, _, _, _, _, _, rfl, _⟩ := h; rfl) | (obtain ⟨_, _, _, _, _, _, _, _, _, _, _, _, _, rfl, _⟩ := h; rfl)) d__law_low (fun cdv A outer s H E hr => ⟨_, (q_sc (q_set (i := 2) nd rfl (Or.inl rfl) (q_cB call_abs cd_abs (by rfl) z_abs (by decide +kernel) (q_cons (q_v 0 (pv 0)) q_nil (by rfl)) (by decide) (by decide) (by rfl)) (Or.inl (by decide)) (by rfl) (by first | exact .inl rfl | exact .inr rfl))
      (q_sc (q_set (i := 3) nd rfl (Or.inl rfl) (q_cB call_abs cd_abs (by rfl) z_abs (by decide +kernel) (q_cons (q_v 1 (pv 1)) q_nil (by rfl)) (by decide) (by decide) (by rfl)) (Or.inl (by decide)) (by rfl) (by first | exact .inl rfl | exact .inr rfl))
      (q_sc (q_while PassesOwn.never (q_cmpT op_ne bd_ne (q_v 3 (pv 3)) q_int (nomark _)) (q_sc (q_set (i := 4) nd rfl (Or.inl rfl) (q_op op_mod od_mod (q_v 2 (pv 2)) (q_v 3 (pv 3))) (Or.inl (by decide)) (by rfl) (by first | exact .inl rfl | exact .inr rfl))
      (q_sc (q_set (i := 2) nd rfl (Or.inl rfl) (q_v 3 (pv 3)) (Or.inl (by decide)) (by rfl) (by first | exact .inl rfl | exact .inr rfl))
      (q_s1 (q_set (i := 3) nd rfl (Or.inl rfl) (q_v 4 (pv 4)) (Or.inl (by decide)) (by rfl) (by first | exact .inl rfl | exact .inr rfl))))))
      (q_sc (q_ifS (q_cmpT op_lt bd_lt (q_v 1 (pv 1)) q_int (nomark _)) (q_s1 (q_set (i := 2) nd rfl (Or.inl rfl) (q_op op_sub od_sub q_int (q_v 2 (pv 2))) (Or.inl (by decide)) (by rfl) (by first | exact .inl rfl | exact .inr rfl))) q_s0)
      (q_s1 (q_ret (q_tup (q_cons (q_op op_fdivB od_divB (q_v 0 (pv 0)) (q_v 2 (pv 2))) (q_cons (q_op op_fdivB od_divB (q_v 1 (pv 1)) (q_v 2 (pv 2))) q_nil (by rfl)) (by rfl)))))))))⟩)
def w__law_figures : WS := (wRet (wM1 dJoin (wC (.str "")) (wLc (wIRng1 (wACons (wVar 1) wANil)) (wgName 2) (fun Γ Ψ _ => Ψ true Γ) (wOp dIx (wC (.str "0123456789")) (wCall true wf__law_take (wACons (wVar 0) (wACons (wC (.int 10)) wANil)))) [2])))
theorem d__law_figures : ∀ ds row Ψ Ξ, wf__law_figures ds row Ψ Ξ → goR (w__law_figures (endsW true Ψ fun _ => False)) (startW true 3 ds row) := by
  rintro ds row Ψ Ξ ⟨m, N, rfl, hr, n0, n1, m0, m1, q⟩
  unfold w__law_figures
  walk_at "ev"
  refine sideR_by (by omega) fun _ => ?_
  refine lcB_by (fun i acc Γ => ∃ (row5 : List D) (l : List Nat), Γ = [some (En.own row5), some (En.shr (D.int m)), none] ∧ acc = (l.map fun c => (⟨#[c]⟩ : Str)).map D.str ∧ l.length = i ∧ AllDigits l ∧ RowD (N + i) row5) ?_ ⟨_, [], rfl, rfl, rfl, (fun c hc => by cases hc), hr.mono (by omega)⟩ ?_ ?_
  · rw [rng_length]
    exact Nat.le_trans (m := 100) (by omega) (by decide)
  · rintro i acc Γ d hd ⟨row5, l, rfl, rfl, hl, hc, R5⟩
    obtain ⟨hi, rfl⟩ := rng_get hd
    walk_at "ev"
    refine ⟨10, _, rfl, R5, by omega, by decide, by decide, fun v6 row6 v60 v61 R6 => ?_⟩
    walk_at "ev"
    obtain ⟨c, hat, c1, c2⟩ := at_dig v60 v61
    walk_at "sd"
    refine ⟨c, hat, ?_⟩
    walk_at "ev"
    refine ⟨row6, l ++ [c], rfl, by simp, by simp [hl], fun c' hc' => ?_, R6.mono (by omega)⟩
    rcases List.mem_append.mp hc' with z | z
    · exact hc c' z
    · cases List.mem_singleton.mp z
      exact ⟨c1, c2⟩
  rintro acc Γ ⟨row5, l, rfl, rfl, hl, hc, R5⟩
  rw [rng_length] at hl R5
  walk_at "ev"
  refine sideR_by ?_ fun _ => ?_
  · rw [ones_sum, List.length_map]
    show l.length + l.length * 0 ≤ 16777216
    omega
  rw [join_mk]
  walk_at "ev"
  exact q l _ hc (by omega) (R5.mono (by omega))
abbrev s__law_figures : Stmt := top 32
theorem sc__law_figures : FnScope ["_law_row", "_law_many", "_law_turn"] ["_law_row", "_law_many"] (defScope s__law_figures) := ⟨rfl, rfl, rfl, by decide +kernel, rfl, by decide +kernel, by decide +kernel⟩
theorem ok__law_figures {P : Program} {w : World} {K : PySem.W.Frag} {mg : Str → Option Value} {base : Heap} {f : Addr} {fd : FuncData} (F : Fun K "_law_figures" "_law_figures" s__law_figures f fd) (C__law_take : Cal P w K mg base (CXE P w) 1 "_law_take" ["_law_row", "_law_base"] (spD ⟨K, TSK K, LSK K⟩ true wf__law_take)) (z_range : mg "range" = none) : FnOk P w K mg base (CXE P w) 2 f fd ["_law_row", "_law_many"] (spD ⟨K, TSK K, LSK K⟩ true wf__law_figures) := by
  have nd := (sc__law_figures).nd
  refine fn_d F sc__law_figures (by decide) (fun ds row Ψ Ξ h => by first | (obtain ⟨rfl, _⟩ := h; rfl) | (obtain ⟨_, rfl, _⟩ := h; rfl) | (obtain ⟨_, _, rfl, _⟩ := h; rfl) | (obtain ⟨_, _, _, rfl, _⟩ := h; rfl) | (obtain ⟨_, _, _, _, rfl, _⟩ := h; rfl) | (obtain ⟨_, _, _, _, _, rfl, _⟩ := h; rfl) | (obtain ⟨_, _, _, _, _, _, rfl, _⟩ := h; rfl) | (obtain ⟨_, _, _, _, _, _, _, rfl, _⟩ := h; rfl) | (obtain ⟨_, _, _, _, _, _, _, _, rfl, _⟩ := h; rfl) | (obtain ⟨_, _, _, _, _, _, _, _, _, rfl, _⟩ := h; rfl) | (obtain ⟨_, _, _, _, _, _, _, _, _, _, rfl, _⟩ := h; rfl) | (obtain ⟨_, _, _, _, _, _, _, _, _, _, _, rfl, _⟩ := h; rfl) | (obtain ⟨_, _, _, _, _, _, _, _, _, _, _, _, rfl, _⟩ := h; rfl) | (obtain ⟨_, _, _, _, _, _, _, _, _, _, _, _, _, rfl, _⟩ := h; rfl)) d__law_figures (fun cdv A outer s H E hr => ⟨_, (q_s1 (q_ret (q_join q_str (q_lc (own := [("_law_turn", 2)]) (by rfl) nd (q_ir1 (by rfl) z_range (q_cons (q_v 1 (pv 1)) q_nil (by rfl)) (by rfl)) (blkOk_by (own := [("_law_turn", 2)]) (N := ["_law_row", "_law_many", "_law_turn"]) (sc := defScope s__law_figures) (by decide +kernel)) (fun _ _ _ _ _ => (q_cn (i := 2) (pg_name nd rfl (Or.inl rfl)) (by decide))) (fun _ _ _ _ _ => q_t0) (fun _ _ _ _ _ => (q_ix (ix_seqK (by rfl)) od_ix q_str (q_call C__law_take hr passE0 (q_cons (q_v 0 (pv 0)) (q_cons q_int q_nil (by rfl)) (by rfl)) (by rfl) (by decide) (by decide) (by rfl)) (fun _ _ => rfl))) (fun _ => rfl)) (by rfl) (by rfl) (by rfl) (by rfl))))⟩)
def w__law_number_text : WS := (wSeq (wSet 3 (wOp dAdd (wC (.int 1)) (wCall true wf__law_take (wACons (wVar 0) (wACons (wOp dIx (wLst (wACons (wC (.int 1)) (wACons (wC (.int 3)) (wACons (wVar 1) wANil)))) (wCall true wf__law_take (wACons (wVar 0) (wACons (wC (.int 3)) wANil)))) wANil)))))
  (wSeq (wSet 4 (wCall true wf__law_figures (wACons (wVar 0) (wACons (wVar 3) wANil))))
  (wSeq (wSet 4 (wOp dIx (wLst (wACons (wOp dAddS (wOp dIx (wC (.str "123456789")) (wCall true wf__law_take (wACons (wVar 0) (wACons (wC (.int 9)) wANil)))) (wSl dSlS (wVar 4) (wPrt (wC (.int 1))) wNoP)) (wACons (wC (.str "0")) wANil))) (wCB dInt1 (wACons (wOp (bod (bSc id)) (wCall true wf__law_take (wACons (wVar 0) (wACons (wC (.int 4)) wANil))) (wC (.int 0))) wANil))))
  (wSeq (wIfS (wCmp (bSc id) (wCall true wf__law_take (wACons (wVar 0) (wACons (wC (.int 2)) wANil))) (wC (.int 0))) (wSeq (wSet 3 (wCall true wf__law_take (wACons (wVar 0) (wACons (wOp dIx (wLst (wACons (wC (.int 2)) (wACons (wVar 2) wANil))) (wCall true wf__law_take (wACons (wVar 0) (wACons (wC (.int 2)) wANil)))) wANil))))
  (wSet 4 (wOp dAddS (wOp dAddS (wOp dAddS (wVar 4) (wC (.str "."))) (wCall true wf__law_figures (wACons (wVar 0) (wACons (wVar 3) wANil)))) (wOp dIx (wC (.str "123456789")) (wCall true wf__law_take (wACons (wVar 0) (wACons (wC (.int 9)) wANil))))))) wNext)
  (wSeq (wIfS (wAnd (wCmp (bSc not) (wVar 4) (wC (.str "0"))) (wCmp (bSc id) (wCall true wf__law_take (wACons (wVar 0) (wACons (wC (.int 3)) wANil))) (wC (.int 0)))) (wSet 4 (wOp dAddS (wC (.str "-")) (wVar 4))) wNext)
  (wRet (wVar 4)))))))
theorem d__law_number_text : ∀ ds row Ψ Ξ, wf__law_number_text ds row Ψ Ξ → goR (w__law_number_text (endsW true Ψ fun _ => False)) (startW true 5 ds row) := by
  rintro ds row Ψ Ξ ⟨a, d, N, rfl, hr, n0, n1, a0, a1, d0, d1, q⟩
  unfold w__law_number_text
  walk_at "ev"
  refine sideR_by (by decide) fun _ => ?_
  walk_at "ev"
  refine ⟨3, _, rfl, hr, by omega, by decide, by decide, fun v1 row1 v10 v11 R1 => ?_⟩
  walk_at "ev"
  obtain ⟨y, hy, ha⟩ := at_some (f := D.int) (P := fun z : Int => 1 ≤ z ∧ z ≤ a) (v := v1) [1, 3, a] v10 v11 (fun z hz => by
    simp only [List.mem_cons, List.not_mem_nil, or_false] at hz
    omega)
  refine ⟨_, ha, ?_⟩
  walk_at "ev"
  refine ⟨y, _, rfl, R1, by omega, by omega, by omega, fun v2 row2 v20 v21 R2 => ?_⟩
  walk_at "ev"
  refine ⟨1 + v2, _, rfl, R2, by omega, by omega, by omega, by omega, fun l row3 hl ll R3 => ?_⟩
  walk_at "ev"
  refine ⟨9, _, rfl, R3, by omega, by decide, by decide, fun v4 row4 v40 v41 R4 => ?_⟩
  walk_at "ev"
  obtain ⟨c, hat, c1, c2⟩ := at_dig9 v40 v41
  walk_at "sd"
  refine ⟨c, hat, ?_⟩
  walk_at "ev"
  have sz : ∀ n : Nat, n ≤ 1000 → n ≤ sizeLine := fun n h => Nat.le_trans h (by decide)
  refine sideR_by (sz _ (by rw [len_mk]; omega)) fun _ => ?_
  obtain ⟨x, l', rfl⟩ : ∃ x l', l = x :: l' := by
    cases l with
    | nil => simp at ll; omega
    | cons x y => exact ⟨x, y, rfl⟩
  rw [List.length_cons] at ll
  rw [cut1]
  walk_at "ev"
  rw [show (⟨#[c]⟩ : Str) = mkS [c] from rfl]
  refine sideR_by (sz _ (by rw [len_mk, len_mk, List.length_singleton]; omega)) fun _ => ?_
  rw [app_mk]
  walk_at "ev"
  refine sideR_by (by decide) fun _ => ?_
  walk_at "ev"
  refine ⟨4, _, rfl, R4, by omega, by decide, by decide, fun v5 row5 v50 v51 R5 => ?_⟩
  walk_at "ev"
  obtain ⟨A, hA, aA, lA, A0, Az⟩ : ∃ A : List Nat, atI [D.str (mkS ([c] ++ l')), D.str (Str.ofString "0")] (if id (decide (v5 = 0)) = true then (1 : Int) else 0) = some (D.str (mkS A)) ∧ AllDigits A ∧ (A.length : Int) ≤ a ∧ A ≠ [] ∧ (A = [48] ∨ ∀ r, A ≠ 48 :: r) := by
    by_cases z : v5 = 0
    · refine ⟨[48], by simp only [z, decide_true, id, if_true, nought]; exact atI_nat (j := 1) rfl, fun d hd => by rw [List.mem_singleton.mp hd]; omega, by simp; omega, by simp, .inl rfl⟩
    · refine ⟨c :: l', by simp only [z, decide_false, id]; exact at_first, fun d hd => ?_, by rw [List.length_cons]; omega, by simp, .inr fun r e => by cases e; omega⟩
      rcases List.mem_cons.mp hd with rfl | hd
      · omega
      · exact hl d (List.mem_cons_of_mem _ hd)
  refine ⟨_, hA, ?_⟩
  walk_at "ev"
  refine ⟨2, _, rfl, R5, by omega, by decide, by decide, fun v6 row6 v60 v61 R6 => ?_⟩
  walk_at "ev"
  refine iteR_by (fun h => ?_) (fun h => ?_)
  rotate_left
  obtain ⟨E, eE, aE, lE, zE⟩ : ∃ E : List Nat, mkS A = mkS (A ++ dotL E) ∧ AllDigits E ∧ (E.length : Int) ≤ d ∧ (∀ r, E ≠ r ++ [48]) := ⟨[], by simp [dotL], (fun c hc => by cases hc), by simp; omega, fun r e => by simp at e⟩
  obtain ⟨rowZ, eZ⟩ : ∃ rowZ, rowZ = row6 := ⟨_, rfl⟩
  have RZ : RowD (N + 60) rowZ := by rw [eZ]; exact R6.mono (by omega)
  rw [← eZ]
  obtain ⟨u, hu⟩ : ∃ u : Int, u = 1 + v2 := ⟨_, rfl⟩
  rw [← hu, eE]
  rotate_left
  walk_at "ev"
  refine sideR_by (by decide) fun _ => ?_
  walk_at "ev"
  refine ⟨2, _, rfl, R6, by omega, by decide, by decide, fun v7 row7 v70 v71 R7 => ?_⟩
  walk_at "ev"
  obtain ⟨y2, hy2, ha2⟩ := at_some (f := D.int) (P := fun z : Int => 2 ≤ z ∧ z ≤ d) (v := v7) [2, d] v70 v71 (fun z hz => by
    simp only [List.mem_cons, List.not_mem_nil, or_false] at hz
    omega)
  refine ⟨_, ha2, ?_⟩
  walk_at "ev"
  refine ⟨y2, _, rfl, R7, by omega, by omega, by omega, fun v8 row8 v80 v81 R8 => ?_⟩
  walk_at "ev"
  refine sideR_by (sz _ (by rw [len_mk, dot, len_mk, List.length_singleton]; omega)) fun _ => ?_
  walk_at "ev"
  refine ⟨v8, _, rfl, R8, by omega, by omega, by omega, by omega, fun l2 row9 hl2 ll2 R9 => ?_⟩
  walk_at "ev"
  rw [dot, app_mk]
  refine sideR_by (sz _ (by rw [len_mk, len_mk, List.length_append, List.length_singleton]; omega)) fun _ => ?_
  rw [app_mk]
  walk_at "ev"
  refine ⟨9, _, rfl, R9, by omega, by decide, by decide, fun v10 row10 v100 v101 R10 => ?_⟩
  walk_at "ev"
  obtain ⟨c3, hat3, c31, c32⟩ := at_dig9 v100 v101
  walk_at "sd"
  refine ⟨c3, hat3, ?_⟩
  walk_at "ev"
  rw [show (⟨#[c3]⟩ : Str) = mkS [c3] from rfl]
  refine sideR_by (sz _ (by rw [len_mk, len_mk, List.length_append, List.length_append, List.length_singleton, List.length_singleton]; omega)) fun _ => ?_
  rw [app_mk]
  walk_at "ev"
  obtain ⟨E, eE, aE, lE, zE⟩ : ∃ E : List Nat, mkS (A ++ [46] ++ l2 ++ [c3]) = mkS (A ++ dotL E) ∧ AllDigits E ∧ (E.length : Int) ≤ d ∧ (∀ r, E ≠ r ++ [48]) := by
    refine ⟨l2 ++ [c3], ?_, fun c hc => ?_, by rw [List.length_append, List.length_singleton]; omega, fun r e => ?_⟩
    · have : dotL (l2 ++ [c3]) = 46 :: (l2 ++ [c3]) := by cases l2 <;> rfl
      rw [this]
      simp
    · rcases List.mem_append.mp hc with hc | hc
      · exact hl2 c hc
      · rw [List.mem_singleton.mp hc]; omega
    · have := List.append_inj_right' e rfl
      simp at this
      omega
  obtain ⟨rowZ, eZ⟩ : ∃ rowZ, rowZ = row10 := ⟨_, rfl⟩
  have RZ : RowD (N + 60) rowZ := by rw [eZ]; exact R10.mono (by omega)
  rw [← eZ]
  obtain ⟨u, hu⟩ : ∃ u : Int, u = v8 := ⟨_, rfl⟩
  rw [← hu, eE]
  all_goals
    clear eE eZ hu
    walk_at "ev"
    have fin : ∀ neg : Bool, (neg = true → ¬ (A = [48] ∧ E = [])) → NumT (neg, A, E) := fun neg hz => ⟨aA, aE, A0, by show A.length ≤ 15; omega, by show E.length ≤ 12; omega, Az, zE, hz⟩
    have hne : mkS (A ++ dotL E) ≠ Str.ofString "0" → ¬ (A = [48] ∧ E = []) := fun z ⟨y1, y2⟩ => z (by rw [y1, y2, nought]; rfl)
    have dl : (dotL E).length ≤ E.length + 1 := by cases E <;> simp [dotL]
    refine iteR_by (fun h0 => ?_) (fun h0 => ?_)
    · have h0 : mkS (A ++ dotL E) ≠ Str.ofString "0" := by simpa using h0
      walk_at "ev"
      refine ⟨3, _, rfl, RZ, by omega, by decide, by decide, fun v11 row11 v110 v111 R11 => ?_⟩
      walk_at "ev"
      refine iteR_by (fun h1 => ?_) (fun h1 => ?_)
      · walk_at "ev"
        rw [dash]
        refine sideR_by (sz _ (by rw [len_mk, len_mk, List.length_append, List.length_singleton]; omega)) fun _ => ?_
        rw [app_mk]
        walk_at "ev"
        exact q (true, A, E) _ (fin true fun _ => hne h0) lA lE (R11.mono (by omega))
      · walk_at "ev"
        exact q (false, A, E) _ (fin false fun y => by cases y) lA lE (R11.mono (by omega))
    · walk_at "ev"
      exact q (false, A, E) _ (fin false fun y => by cases y) lA lE (RZ.mono (by omega))
abbrev s__law_number_text : Stmt := top 33
theorem sc__law_number_text : FnScope ["_law_row", "_law_ahead", "_law_behind", "_law_many", "_law_text"] ["_law_row", "_law_ahead", "_law_behind"] (defScope s__law_number_text) := ⟨rfl, rfl, rfl, by decide +kernel, rfl, by decide +kernel, by decide +kernel⟩
theorem ok__law_number_text {P : Program} {w : World} {K : PySem.W.Frag} {mg : Str → Option Value} {base : Heap} {f : Addr} {fd : FuncData} (F : Fun K "_law_number_text" "_law_number_text" s__law_number_text f fd) (C__law_take : Cal P w K mg base (CXE P w) 1 "_law_take" ["_law_row", "_law_base"] (spD ⟨K, TSK K, LSK K⟩ true wf__law_take)) (C__law_figures : Cal P w K mg base (CXE P w) 2 "_law_figures" ["_law_row", "_law_many"] (spD ⟨K, TSK K, LSK K⟩ true wf__law_figures)) (z_int : mg "int" = none) : FnOk P w K mg base (CXE P w) 3 f fd ["_law_row", "_law_ahead", "_law_behind"] (spD ⟨K, TSK K, LSK K⟩ true wf__law_number_text) := by
  have nd := (sc__law_number_text).nd
  refine fn_d F sc__law_number_text (by decide) (fun ds row Ψ Ξ h => by first | (obtain ⟨rfl, _⟩ := h; rfl) | (obtain ⟨_, rfl, _⟩ := h; rfl) | (obtain ⟨_, _, rfl, _⟩ := h; rfl) | (obtain ⟨_, _, _, rfl, _⟩ := h; rfl) | (obtain ⟨_, _, _, _, rfl, _⟩ := h; rfl) | (obtain ⟨_, _, _, _, _, rfl, _⟩ := h; rfl) | (obtain ⟨_, _, _, _, _, _, rfl, _⟩ := h; rfl) | (obtain ⟨_, _, _, _, _, _, _, rfl, _⟩ := h; rfl) | (obtain ⟨_, _, _, _, _, _, _, _, rfl, _⟩ := h; rfl) | (obtain ⟨_, _, _, _, _, _, _, _, _, rfl, _⟩ := h; rfl) | (obtain ⟨_, _, _, _, _, _, _, _, _, _, rfl, _⟩ := h; rfl) | (obtain ⟨_, _, _, _, _, _, _, _, _, _, _, rfl, _⟩ := h; rfl) | (obtain ⟨_, _, _, _, _, _, _, _, _, _, _, _, rfl, _⟩ := h; rfl) | (obtain ⟨_, _, _, _, _, _, _, _, _, _, _, _, _, rfl, _⟩ := h; rfl)) d__law_number_text (fun cdv A outer s H E hr => ⟨_, (q_sc (q_set (i := 3) nd rfl (Or.inl rfl) (q_op op_add od_add q_int (q_call C__law_take hr passE0 (q_cons (q_v 0 (pv 0)) (q_cons (q_ix (ix_seqK (by rfl)) od_ix (q_lst (q_cons q_int (q_cons q_int (q_cons (q_v 1 (pv 1)) q_nil (by rfl)) (by rfl)) (by rfl))) (q_call C__law_take hr passE0 (q_cons (q_v 0 (pv 0)) (q_cons q_int q_nil (by rfl)) (by rfl)) (by rfl) (by decide) (by decide) (by rfl)) (fun _ _ => rfl)) q_nil (by rfl)) (by rfl)) (by rfl) (by decide) (by decide) (by rfl))) (Or.inl (by decide)) (by rfl) (by first | exact .inl rfl | exact .inr rfl))
      (q_sc (q_set (i := 4) nd rfl (Or.inl rfl) (q_call C__law_figures hr passE0 (q_cons (q_v 0 (pv 0)) (q_cons (q_v 3 (pv 3)) q_nil (by rfl)) (by rfl)) (by rfl) (by decide) (by decide) (by rfl)) (Or.inl (by decide)) (by rfl) (by first | exact .inl rfl | exact .inr rfl))
      (q_sc (q_set (i := 4) nd rfl (Or.inl rfl) (q_ix (ix_seqK (by rfl)) od_ix (q_lst (q_cons (q_op op_add_str od_addS (q_ix (ix_seqK (by rfl)) od_ix q_str (q_call C__law_take hr passE0 (q_cons (q_v 0 (pv 0)) (q_cons q_int q_nil (by rfl)) (by rfl)) (by rfl) (by decide) (by decide) (by rfl)) (fun _ _ => rfl)) (q_sl sl_str ld_str (q_v 4 (pv 4)) (q_o1 q_int) q_o0)) (q_cons q_str q_nil (by rfl)) (by rfl))) (q_cT call_int1 cd_int1 (by rfl) z_int (by decide +kernel) (q_cons (q_cmp op_eq bd_eq (q_call C__law_take hr passE0 (q_cons (q_v 0 (pv 0)) (q_cons q_int q_nil (by rfl)) (by rfl)) (by rfl) (by decide) (by decide) (by rfl)) q_int (nomark _)) q_nil (by rfl)) (by decide) (by decide) (by rfl)) (fun _ _ => rfl)) (Or.inl (by decide)) (by rfl) (by first | exact .inl rfl | exact .inr rfl))
      (q_sc (q_ifS (q_cmpT op_eq bd_eq (q_call C__law_take hr passE0 (q_cons (q_v 0 (pv 0)) (q_cons q_int q_nil (by rfl)) (by rfl)) (by rfl) (by decide) (by decide) (by rfl)) q_int (nomark _)) (q_sc (q_set (i := 3) nd rfl (Or.inl rfl) (q_call C__law_take hr passE0 (q_cons (q_v 0 (pv 0)) (q_cons (q_ix (ix_seqK (by rfl)) od_ix (q_lst (q_cons q_int (q_cons (q_v 2 (pv 2)) q_nil (by rfl)) (by rfl))) (q_call C__law_take hr passE0 (q_cons (q_v 0 (pv 0)) (q_cons q_int q_nil (by rfl)) (by rfl)) (by rfl) (by decide) (by decide) (by rfl)) (fun _ _ => rfl)) q_nil (by rfl)) (by rfl)) (by rfl) (by decide) (by decide) (by rfl)) (Or.inl (by decide)) (by rfl) (by first | exact .inl rfl | exact .inr rfl))
      (q_s1 (q_set (i := 4) nd rfl (Or.inl rfl) (q_op op_add_str od_addS (q_op op_add_str od_addS (q_op op_add_str od_addS (q_v 4 (pv 4)) q_str) (q_call C__law_figures hr passE0 (q_cons (q_v 0 (pv 0)) (q_cons (q_v 3 (pv 3)) q_nil (by rfl)) (by rfl)) (by rfl) (by decide) (by decide) (by rfl))) (q_ix (ix_seqK (by rfl)) od_ix q_str (q_call C__law_take hr passE0 (q_cons (q_v 0 (pv 0)) (q_cons q_int q_nil (by rfl)) (by rfl)) (by rfl) (by decide) (by decide) (by rfl)) (fun _ _ => rfl))) (Or.inl (by decide)) (by rfl) (by first | exact .inl rfl | exact .inr rfl)))) q_s0)
      (q_sc (q_ifS (QW.tst (q_and (q_cmpT op_ne bd_ne (q_v 4 (pv 4)) q_str (nomark _)) (q_and1 (q_cmpT op_eq bd_eq (q_call C__law_take hr passE0 (q_cons (q_v 0 (pv 0)) (q_cons q_int q_nil (by rfl)) (by rfl)) (by rfl) (by decide) (by decide) (by rfl)) q_int (nomark _))))) (q_s1 (q_set (i := 4) nd rfl (Or.inl rfl) (q_op op_add_str od_addS q_str (q_v 4 (pv 4))) (Or.inl (by decide)) (by rfl) (by first | exact .inl rfl | exact .inr rfl))) q_s0)
      (q_s1 (q_ret (q_v 4 (pv 4)))))))))⟩)
def w__law_worth : WS := (wSeq (wSet 1 (wOp dSub (wC (.int 1)) (wOp dMul (wC (.int 2)) (wCB dInt1 (wACons (wOp (bod (bSc id)) (wOp dIx (wVar 0) (wC (.int 0))) (wC (.str "-"))) wANil)))))
  (wSeq (wSet 2 (wC (.int 0)))
  (wSeq (wSet 3 (wC (.int 1)))
  (wSeq (wSet 4 (wC (.bl false)))
  (wSeq (wFor (wIStr (wVar 0)) (wgName 5) (wIfS (wCmp (bSc id) (wVar 5) (wC (.str "."))) (wSet 4 (wC (.bl true))) (wIfS (wCmp (bSc not) (wVar 5) (wC (.str "-"))) (wSeq (wSet 2 (wOp dAdd (wOp dMul (wC (.int 10)) (wVar 2)) (wM1 dSidx (wC (.str "0123456789")) (wVar 5))))
  (wIfS (wB (wVar 4)) (wSet 3 (wOp dMul (wC (.int 10)) (wVar 3))) wNext)) wNext)))
  (wRet (wCall false wf__law_low (wACons (wOp dMul (wVar 1) (wVar 2)) (wACons (wVar 3) wANil)))))))))
theorem d__law_worth : ∀ ds row Ψ Ξ, wf__law_worth ds row Ψ Ξ → goR (w__law_worth (endsW false Ψ fun _ => False)) (startW false 6 ds row) := by
  rintro ds row Ψ Ξ ⟨⟨neg, A, B⟩, rfl, hn, q⟩
  have hn : Num neg A B := hn
  have al := hn.al
  have dl := hn.dl
  have tl := len_txt hn
  unfold w__law_worth
  walk_at "ev"
  rw [show ntS (neg, A, B) = mkS (txt neg A B) from rfl]
  refine sideR_by (by rw [len_mk]; exact Nat.le_trans tl (by decide)) fun _ => ?_
  rw [tl_mk]
  obtain ⟨c, r, hcr, hneg⟩ : ∃ c r, txt neg A B = c :: r ∧ (decide (c = 45) = neg) := by
    cases neg with
    | true => exact ⟨45, _, rfl, rfl⟩
    | false =>
      cases hA : A with
      | nil => exact absurd hA hn.a0
      | cons x y =>
        have := hn.a x (by rw [hA]; simp)
        exact ⟨x, _, rfl, decide_eq_false (by omega)⟩
  refine ⟨c, by rw [hcr]; exact at_first, ?_⟩
  walk_at "ev"
  rw [show decide ((⟨#[c]⟩ : Str) = Str.ofString "-") = decide (c = 45) from by rw [show (⟨#[c]⟩ : Str) = mkS [c] from rfl, dash, dmk]; simp, hneg]
  refine sideR_by (.inr (.inl ⟨by decide, by decide⟩)) fun _ => ?_
  walk_at "ev"
  have wt := wtxt hn
  have hs : ∀ c ∈ txt neg A B, c = 45 ∨ c = 46 ∨ (48 ≤ c ∧ c ≤ 57) := txt_signs hn
  refine forB_by (fun i Γ => ∃ e5 : Option En, Γ = [some (En.shr (D.str (mkS (txt neg A B)))), some (En.shr (D.int (sgI neg))), some (En.shr (D.int (((txt neg A B).take i).foldl wstep (0, 1, false)).1)), some (En.shr (D.int (((txt neg A B).take i).foldl wstep (0, 1, false)).2.1)), some (En.shr (D.bl (((txt neg A B).take i).foldl wstep (0, 1, false)).2.2)), e5]) ⟨_, by rw [show sgI neg = 1 - 2 * (if id neg = true then (1 : Int) else 0) from by cases neg <;> rfl]; rfl⟩ ?_ ?_
  · rintro i Γ d hd ⟨e5, rfl⟩
    unfold chs at hd
    rw [tl_mk, List.getElem?_map] at hd
    obtain ⟨c, hc, rfl⟩ := Option.map_eq_some_iff.mp hd
    have hcs := hs c (List.mem_of_getElem? hc)
    rw [take_succ hc, List.foldl_append]
    generalize ((txt neg A B).take i).foldl wstep (0, 1, false) = S
    obtain ⟨t, b, f⟩ := S
    rw [show List.foldl wstep (t, b, f) [c] = wstep (t, b, f) c from rfl]
    walk_at "ev"
    rw [show decide ((⟨#[c]⟩ : Str) = Str.ofString ".") = decide (c = 46) from by rw [show (⟨#[c]⟩ : Str) = mkS [c] from rfl, dot, dmk]; simp]
    refine iteR_by (fun h => ?_) (fun h => ?_)
    · have h : c = 46 := by simpa using h
      subst h
      walk_at "ev"
      exact ⟨_, rfl⟩
    · have h : c ≠ 46 := by simpa using h
      walk_at "ev"
      rw [show decide ((⟨#[c]⟩ : Str) = Str.ofString "-") = decide (c = 45) from by rw [show (⟨#[c]⟩ : Str) = mkS [c] from rfl, dash, dmk]; simp]
      refine iteR_by (fun h2 => ?_) (fun h2 => ?_)
      · have h2 : c ≠ 45 := by simpa using h2
        have h3 : 48 ≤ c ∧ c ≤ 57 := by omega
        have ew : wstep (t, b, f) c = (10 * t + (c - 48), if f then 10 * b else b, f) := by
          unfold wstep
          rw [if_neg h, if_neg h2]
        rw [ew]
        walk_at "ev"
        refine sideR_by (.inr (.inl ⟨by decide, by decide⟩)) fun _ => ?_
        walk_at "ev"
        refine ⟨_, _, _, rfl, occ_dig h3, ?_⟩
        walk_at "ev"
        rw [show (10 * (t : Int) + ((c - 48 : Nat) : Int)) = ((10 * t + (c - 48) : Nat) : Int) from by omega]
        cases f with
        | true =>
          walk_at "ev"
          refine sideR_by (.inr (.inl ⟨by decide, by decide⟩)) fun _ => ?_
          walk_at "ev"
          rw [show (10 * (b : Int)) = ((10 * b : Nat) : Int) from by omega]
          exact ⟨_, rfl⟩
        | false =>
          walk_at "ev"
          exact ⟨_, rfl⟩
      · have h2 : c = 45 := by simpa using h2
        subst h2
        walk_at "ev"
        exact ⟨_, rfl⟩
  · rintro Γ ⟨e5, rfl⟩
    obtain ⟨f, ef⟩ := wt
    rw [show (chs (mkS (txt neg A B))).length = (txt neg A B).length by unfold chs; rw [List.length_map, tl_mk], List.take_length, ef]
    walk_at "ev"
    have hsg : sgI neg = 1 ∨ sgI neg = -1 := by cases neg <;> decide
    refine sideR_by (.inr (.inl ⟨by omega, by omega⟩)) fun _ => ?_
    walk_at "ev"
    have eB : ((10 ^ B.length : Nat) : Int) = nB B := by rw [Int.natCast_pow]; rfl
    rw [eB]
    have hb := nB_pos B
    have hb2 := nB_le dl
    have q1 := nT_lt hn
    have q2 : (10 : Nat) ^ (A.length + B.length) ≤ 10 ^ 27 := Nat.pow_le_pow_right (by decide) (by omega)
    have e27 : (10 : Nat) ^ 27 < 2 ^ 100 := by decide
    have e12 : (10 : Int) ^ 12 < 2 ^ 100 := by decide
    have q3 : Bd 3100 (nT neg A B) := Bd.mono (m := 100) (by unfold Bd; omega) (by decide)
    have q4 : Bd 3100 (nB B) := Bd.mono (m := 100) (by unfold Bd; omega) (by decide)
    refine ⟨nT neg A B, nB B, rfl, by omega, q3, q4, ?_⟩
    walk_at "ev"
    exact q
abbrev s__law_worth : Stmt := top 34
theorem sc__law_worth : FnScope ["_law_text", "_law_sign", "_law_top", "_law_bottom", "_law_behind", "_law_letter"] ["_law_text"] (defScope s__law_worth) := ⟨rfl, rfl, rfl, by decide +kernel, rfl, by decide +kernel, by decide +kernel⟩
theorem ok__law_worth {P : Program} {w : World} {K : PySem.W.Frag} {mg : Str → Option Value} {base : Heap} {f : Addr} {fd : FuncData} (F : Fun K "_law_worth" "_law_worth" s__law_worth f fd) (C__law_low : Cal P w K mg base (CXE P w) 1 "_law_low" ["_law_top", "_law_bottom"] (spD ⟨K, TSK K, LSK K⟩ false wf__law_low)) (z_int : mg "int" = none) : FnOk P w K mg base (CXE P w) 2 f fd ["_law_text"] (spD ⟨K, TSK K, LSK K⟩ false wf__law_worth) := by
  have nd := (sc__law_worth).nd
  refine fn_d F sc__law_worth (by decide) (fun ds row Ψ Ξ h => by first | (obtain ⟨rfl, _⟩ := h; rfl) | (obtain ⟨_, rfl, _⟩ := h; rfl) | (obtain ⟨_, _, rfl, _⟩ := h; rfl) | (obtain ⟨_, _, _, rfl, _⟩ := h; rfl) | (obtain ⟨_, _, _, _, rfl, _⟩ := h; rfl) | (obtain ⟨_, _, _, _, _, rfl, _⟩ := h; rfl) | (obtain ⟨_, _, _, _, _, _, rfl, _⟩ := h; rfl) | (obtain ⟨_, _, _, _, _, _, _, rfl, _⟩ := h; rfl) | (obtain ⟨_, _, _, _, _, _, _, _, rfl, _⟩ := h; rfl) | (obtain ⟨_, _, _, _, _, _, _, _, _, rfl, _⟩ := h; rfl) | (obtain ⟨_, _, _, _, _, _, _, _, _, _, rfl, _⟩ := h; rfl) | (obtain ⟨_, _, _, _, _, _, _, _, _, _, _, rfl, _⟩ := h; rfl) | (obtain ⟨_, _, _, _, _, _, _, _, _, _, _, _, rfl, _⟩ := h; rfl) | (obtain ⟨_, _, _, _, _, _, _, _, _, _, _, _, _, rfl, _⟩ := h; rfl)) d__law_worth (fun cdv A outer s H E hr => ⟨_, (q_sc (q_set (i := 1) nd rfl (Or.inl rfl) (q_op op_sub od_sub q_int (q_op op_mulB od_mul q_int (q_cT call_int1 cd_int1 (by rfl) z_int (by decide +kernel) (q_cons (q_cmp op_eq bd_eq (q_ix (ix_seqK (by rfl)) od_ix (q_v 0 (pv 0)) q_int (fun _ _ => rfl)) q_str (nomark _)) q_nil (by rfl)) (by decide) (by decide) (by rfl)))) (Or.inl (by decide)) (by rfl) (by first | exact .inl rfl | exact .inr rfl))
      (q_sc (q_set (i := 2) nd rfl (Or.inl rfl) q_int (Or.inl (by decide)) (by rfl) (by first | exact .inl rfl | exact .inr rfl))
      (q_sc (q_set (i := 3) nd rfl (Or.inl rfl) q_int (Or.inl (by decide)) (by rfl) (by first | exact .inl rfl | exact .inr rfl))
      (q_sc (q_set (i := 4) nd rfl (Or.inl rfl) q_bl (Or.inl (by decide)) (by rfl) (by first | exact .inl rfl | exact .inr rfl))
      (q_sc (q_for PassesOwn.never (by rfl) (q_is (q_v 0 (pv 0))) (q_gn (i := 5) (pg_name nd rfl (Or.inl rfl)) (Or.inl (by decide))) (q_s1 (q_ifS (q_cmpT op_eq bd_eq (q_v 5 (pv 5)) q_str (nomark _)) (q_s1 (q_set (i := 4) nd rfl (Or.inl rfl) q_bl (Or.inl (by decide)) (by rfl) (by first | exact .inl rfl | exact .inr rfl))) (q_s1 (q_ifS (q_cmpT op_ne bd_ne (q_v 5 (pv 5)) q_str (nomark _)) (q_sc (q_set (i := 2) nd rfl (Or.inl rfl) (q_op op_add od_add (q_op op_mulB od_mul q_int (q_v 2 (pv 2))) (q_sidx q_str (q_v 5 (pv 5)) (by rfl) (by rfl) (by rfl))) (Or.inl (by decide)) (by rfl) (by first | exact .inl rfl | exact .inr rfl))
      (q_s1 (q_ifS (q_tv (q_v 4 (pv 4)) (by rfl)) (q_s1 (q_set (i := 3) nd rfl (Or.inl rfl) (q_op op_mulB od_mul q_int (q_v 3 (pv 3))) (Or.inl (by decide)) (by rfl) (by first | exact .inl rfl | exact .inr rfl))) q_s0))) q_s0)))) (fun _ => rfl))
      (q_s1 (q_ret (q_call C__law_low hr passE0 (q_cons (q_op op_mulB od_mul (q_v 1 (pv 1)) (q_v 2 (pv 2))) (q_cons (q_v 3 (pv 3)) q_nil (by rfl)) (by rfl)) (by rfl) (by decide) (by decide) (by rfl)))))))))⟩)
def w__law_is_number : WS := (wSeq (wSet 3 (wVar 0))
  (wSeq (wIfS (wCmp (bSc id) (wSl dSlS (wVar 0) wNoP (wPrt (wC (.int 1)))) (wC (.str "-"))) (wSet 3 (wSl dSlS (wVar 0) (wPrt (wC (.int 1))) wNoP)) wNext)
  (wSeq (wIfS (wOr (wCmp bGt (wCB dLen (wACons (wLc (wIStr (wVar 3)) (wgName 7) (wCmp (bInS not) (wVar 7) (wC (.str "0123456789."))) (wVar 7) [7]) wANil)) (wC (.int 0))) (wOr (wCmp bGt (wM1 dCountT (wVar 3) (wC (.str "."))) (wC (.int 1))) (wCmp (bSc id) (wVar 0) (wC (.str "-0"))))) (wRet (wC (.bl false))) wNext)
  (wSeq (wSet 4 (wM1 dFindT (wVar 3) (wC (.str "."))))
  (wSeq (wSet 5 (wVar 3))
  (wSeq (wSet 6 (wC (.str "1")))
  (wSeq (wIfS (wCmp bGe (wVar 4) (wC (.int 0))) (wSeq (wSet 5 (wSl dSlS (wVar 3) wNoP (wPrt (wVar 4))))
  (wSet 6 (wSl dSlS (wVar 3) (wPrt (wOp dAdd (wVar 4) (wC (.int 1)))) wNoP))) wNext)
  (wSeq (wIfS (wOr (wCmp (bSc id) (wVar 5) (wC (.str ""))) (wOr (wCmp (bSc id) (wVar 6) (wC (.str ""))) (wOr (wCmp bGt (wCB dLenS (wACons (wVar 5) wANil)) (wVar 1)) (wCmp bGt (wCB dLenS (wACons (wVar 6) wANil)) (wVar 2))))) (wRet (wC (.bl false))) wNext)
  (wRet (wAndV (wOrV (wOp (bod (bSc id)) (wVar 5) (wC (.str "0"))) (wOp (bod (bSc not)) (wOp dIx (wVar 5) (wC (.int 0))) (wC (.str "0")))) (wOp (bod (bSc not)) (wOp dIx (wVar 6) (wUn dNeg (wC (.int 1)))) (wC (.str "0")))))))))))))
theorem d__law_is_number : ∀ ds row Ψ Ξ, wf__law_is_number ds row Ψ Ξ → goR (w__law_is_number (endsW false Ψ fun _ => False)) (startW false 8 ds row) := by
  rintro ds row Ψ Ξ ⟨l, rfl, hl, q⟩
  have sz : ∀ n : Nat, n ≤ 1000 → n ≤ sizeLine := fun n h => Nat.le_trans h (by decide)
  rw [look_num] at q
  unfold lookL at q
  unfold w__law_is_number
  walk_at "ev"
  refine sideR_by (sz _ (by rw [len_mk]; omega)) fun _ => ?_
  have hr : (restL l).length ≤ l.length := by
    cases l with
    | nil => exact Nat.le_refl _
    | cons c r => show (if c = 45 then r else c :: r).length ≤ _; split <;> simp
  have hc : cutS (mkS l) none (some 1) = mkS (l.take 1) := by
    cases l with
    | nil => decide +kernel
    | cons c r => exact ext_mk (by rw [cut_head (by decide) (by rw [len_mk, List.length_cons]; omega), tl_mk]; rfl)
  rw [hc]
  walk_at "ev"
  refine iteR_by (fun h => ?_) fun h => ?_
  rotate_left
  have e : mkS l = mkS (restL l) := by
    cases l with
    | nil => rfl
    | cons c r =>
      simp only [id] at h
      rw [dash, dmk] at h
      have h : c ≠ 45 := by simpa using h
      show _ = mkS (if c = 45 then r else c :: r)
      rw [if_neg h]
  rotate_left
  walk_at "ev"
  refine sideR_by (sz _ (by rw [len_mk]; omega)) fun _ => ?_
  rw [show cutS (mkS l) (some 1) none = mkS (restL l) from by
    cases l with
    | nil => simp only [id] at h; exact absurd h (by decide +kernel)
    | cons c r =>
      simp only [id] at h
      rw [dash, dmk] at h
      have h : c = 45 := by simpa using h
      rw [cut1]
      show _ = mkS (if c = 45 then r else c :: r)
      rw [if_pos h]]
  walk_at "ev"
  have hr2 : (restL l).length ≤ 1000 := by omega
  generalize restL l = r at *
  rotate_left
  have el : restL l = l := (mk_inj e).symm
  rw [el] at q hr
  have hr2 : l.length ≤ 1000 := hl
  clear e el
  walk_at "ev"
  obtain ⟨r, er⟩ : ∃ r, r = l := ⟨_, rfl⟩
  rw [← er] at hr2 q ⊢
  clear er
  all_goals
    have hfig : ∀ c : Nat, hasS (Str.ofString "0123456789.") ⟨#[c]⟩ = (isFig c || c == 46) := fun c => by
      refine (StrLaws.found_one _ c).trans ?_
      have e1 : (Str.ofString "0123456789.").cps.toList = (Str.ofString "0123456789").cps.toList ++ [46] := by decide +kernel
      rw [e1]
      unfold isFig
      by_cases h1 : c ∈ (Str.ofString "0123456789").cps.toList <;> by_cases h2 : c = 46 <;> simp [h1, h2]
    rw [show chs (mkS r) = r.map fun c => D.str ⟨#[c]⟩ from by unfold chs; rw [tl_mk]]
    refine lcB_ff (fun c => !(isFig c || c == 46)) (fun c => D.str ⟨#[c]⟩) (sz _ (by omega)) (fun c hc k hk => ?_) ?_
    · walk_at "ev"
      rw [hfig]
      refine iteR_by (fun hz => ?_) (fun hz => ?_)
      · rw [show (!(isFig c || c == 46)) = true from hz] at hk
        walk_at "ev"
        exact hk
      · rw [show (!(isFig c || c == 46)) = false from hz] at hk
        exact hk
    walk_at "ev"
    rw [List.length_map]
    generalize hB : (r.filter fun c => !(isFig c || c == 46)).length = B at *
    refine iteR_by (fun z1 => ?_) (fun z1 => ?_)
    · rw [if_pos (.inl (by have := of_decide_eq_true z1; omega))] at q
      walk_at "ev"
      exact q
    walk_at "ev"
    rw [count_pt]
    refine iteR_by (fun z2 => ?_) (fun z2 => ?_)
    · rw [if_pos (.inr (.inl (by have := of_decide_eq_true z2; omega)))] at q
      walk_at "ev"
      exact q
    walk_at "ev"
    refine iteR_by (fun z3 => ?_) (fun z3 => ?_)
    · simp only [id] at z3
      rw [minus0, dmk] at z3
      rw [if_pos (.inr (.inr (of_decide_eq_true z3)))] at q
      walk_at "ev"
      exact q
    simp only [id] at z3
    rw [minus0, dmk] at z3
    have n1 := of_decide_eq_false z1
    have n2 := of_decide_eq_false z2
    have n3 := of_decide_eq_false z3
    rw [if_neg (by rintro (y | y | y); exact n1 (by omega); exact n2 (by omega); exact n3 y)] at q
    walk_at "ev"
    have o1 : Str.ofString "1" = mkS [49] := by decide +kernel
    obtain ⟨v, hv⟩ : ∃ v : Bool, v = v := ⟨true, rfl⟩
    rcases split46 r with hm | ⟨a, b, er, hm⟩
    rotate_left
    subst er
    rw [find_pt hm]
    obtain ⟨t1, t2⟩ := tw (b := b) hm
    have hmem : 46 ∈ a ++ 46 :: b := by simp
    rw [if_pos hmem, if_pos hmem, t1, t2, List.tail_cons] at q
    have lab : (a ++ 46 :: b).length = a.length + (b.length + 1) := by simp
    walk_at "ev"
    refine iteR_by (fun _ => ?_) fun z => absurd z (by simp)
    walk_at "ev"
    refine sideR_by (sz _ (by rw [len_mk]; omega)) fun _ => ?_
    rw [show cutS (mkS (a ++ 46 :: b)) none (some (a.length : Int)) = mkS a from ext_mk (by rw [cut_head (by omega) (by rw [len_mk]; omega), tl_mk]; simp)]
    walk_at "ev"
    refine sideR_by (sz _ (by rw [len_mk]; omega)) fun _ => ?_
    rw [show cutS (mkS (a ++ 46 :: b)) (some ((a.length : Int) + 1)) none = mkS b from ext_mk (by rw [cut_fr _ (by omega) (by rw [len_mk]; omega), tl_mk, show ((a.length : Int) + 1).toNat = a.length + 1 by omega]; simp)]
    have lf : a.length ≤ 1000 := by omega
    have ls : b.length ≤ 1000 := by omega
    obtain ⟨f, ef⟩ : ∃ f, f = a := ⟨_, rfl⟩
    obtain ⟨s, es⟩ : ∃ s, s = b := ⟨_, rfl⟩
    rw [← ef] at lf
    rw [← es] at ls
    rw [show mkS a = mkS f by rw [ef], show mkS b = mkS s by rw [es]]
    rw [← ef, ← es] at q
    clear ef es
    rotate_left
    rw [find_no hm]
    rw [if_neg hm, if_neg hm] at q
    walk_at "ev"
    refine iteR_by (fun z => absurd z (by decide)) fun _ => ?_
    rw [o1]
    obtain ⟨f, ef⟩ : ∃ f, f = r := ⟨_, rfl⟩
    obtain ⟨s, es⟩ : ∃ s : List Nat, s = [49] := ⟨_, rfl⟩
    have lf : f.length ≤ 1000 := by rw [ef]; exact hr2
    have ls : s.length ≤ 1000 := by rw [es]; decide
    rw [← es] at q ⊢
    rw [← ef] at q ⊢
    clear ef es
    all_goals
      walk_at "ev"
      refine iteR_by (fun y1 => ?_) (fun y1 => ?_)
      · simp only [id] at y1
        rw [noneS, dmk] at y1
        rw [if_pos (.inl (of_decide_eq_true y1))] at q
        walk_at "ev"
        exact q
      walk_at "ev"
      refine iteR_by (fun y2 => ?_) (fun y2 => ?_)
      · simp only [id] at y2
        rw [noneS, dmk] at y2
        rw [if_pos (.inr (.inl (of_decide_eq_true y2)))] at q
        walk_at "ev"
        exact q
      walk_at "ev"
      refine sideR_by (sz _ (by rw [len_mk]; omega)) fun _ => ?_
      walk_at "ev"
      rw [len_mk]
      refine iteR_by (fun y3 => ?_) (fun y3 => ?_)
      · rw [if_pos (.inr (.inr (.inl (by have := of_decide_eq_true y3; omega))))] at q
        walk_at "ev"
        exact q
      walk_at "ev"
      refine sideR_by (sz _ (by rw [len_mk]; omega)) fun _ => ?_
      walk_at "ev"
      rw [len_mk]
      refine iteR_by (fun y4 => ?_) (fun y4 => ?_)
      · rw [if_pos (.inr (.inr (.inr (by have := of_decide_eq_true y4; omega))))] at q
        walk_at "ev"
        exact q
      simp only [id] at y1 y2
      rw [noneS, dmk] at y1 y2
      have m1 := of_decide_eq_false y1
      have m2 := of_decide_eq_false y2
      have m3 := of_decide_eq_false y3
      have m4 := of_decide_eq_false y4
      rw [if_neg (by rintro (y | y | y | y); exact m1 y; exact m2 y; exact m3 (by omega); exact m4 (by omega))] at q
      obtain ⟨x, f', rfl⟩ : ∃ x f', f = x :: f' := by
        cases f with
        | nil => exact absurd rfl m1
        | cons x y => exact ⟨x, y, rfl⟩
      obtain ⟨y, hy⟩ : ∃ y, s.getLast? = some y := by
        cases hz : s.getLast? with
        | none => exact absurd (List.getLast?_eq_none_iff.mp hz) m2
        | some y => exact ⟨y, rfl⟩
      obtain ⟨s', rfl⟩ := List.getLast?_eq_some_iff.mp hy
      have h48 : ∀ x : Nat, decide ((⟨#[x]⟩ : Str) = Str.ofString "0") = decide (x = 48) := fun x => by
        rw [show (⟨#[x]⟩ : Str) = mkS [x] from rfl, nought, dmk]
        simp
      have e1 : decide ((x :: f').head? ≠ some 48) = !decide (x = 48) := by simp
      have e2 : decide ((s' ++ [y]).getLast? ≠ some 48) = !decide (y = 48) := by simp
      rw [e1, e2] at q
      walk_at "ev"
      refine iteR_by (fun w1 => ?_) (fun w1 => ?_)
      · simp only [id] at w1
        rw [nought, dmk] at w1
        rw [w1, Bool.true_or, Bool.true_and] at q
        walk_at "ev"
        refine sideR_by (sz _ (by rw [len_mk]; omega)) fun _ => ?_
        rw [tl_mk]
        refine ⟨y, atI_last _ _, ?_⟩
        walk_at "ev"
        rw [h48]
        exact q
      · simp only [id] at w1
        rw [nought, dmk] at w1
        rw [w1, Bool.false_or] at q
        walk_at "ev"
        refine sideR_by (sz _ (by rw [len_mk]; omega)) fun _ => ?_
        rw [tl_mk]
        refine ⟨x, atI_nat (j := 0) (show (x :: f')[0]? = some x from rfl), ?_⟩
        walk_at "ev"
        rw [h48]
        refine iteR_by (fun w2 => ?_) (fun w2 => ?_)
        · rw [w2, Bool.true_and] at q
          walk_at "ev"
          refine sideR_by (sz _ (by rw [len_mk]; omega)) fun _ => ?_
          rw [tl_mk]
          refine ⟨y, atI_last _ _, ?_⟩
          walk_at "ev"
          rw [h48]
          exact q
        · rw [w2, Bool.false_and] at q
          walk_at "ev"
          exact q
abbrev s__law_is_number : Stmt := top 35
theorem sc__law_is_number : FnScope ["_law_text", "_law_ahead", "_law_behind", "_law_rest", "_law_at", "_law_first", "_law_second", "_law_letter"] ["_law_text", "_law_ahead", "_law_behind"] (defScope s__law_is_number) := ⟨rfl, rfl, rfl, by decide +kernel, rfl, by decide +kernel, by decide +kernel⟩
theorem ok__law_is_number {P : Program} {w : World} {K : PySem.W.Frag} {mg : Str → Option Value} {base : Heap} {f : Addr} {fd : FuncData} (F : Fun K "_law_is_number" "_law_is_number" s__law_is_number f fd)  (z_len : mg "len" = none) : FnOk P w K mg base (CXE P w) 1 f fd ["_law_text", "_law_ahead", "_law_behind"] (spD ⟨K, TSK K, LSK K⟩ false wf__law_is_number) := by
  have nd := (sc__law_is_number).nd
  refine fn_d F sc__law_is_number (by decide) (fun ds row Ψ Ξ h => by first | (obtain ⟨rfl, _⟩ := h; rfl) | (obtain ⟨_, rfl, _⟩ := h; rfl) | (obtain ⟨_, _, rfl, _⟩ := h; rfl) | (obtain ⟨_, _, _, rfl, _⟩ := h; rfl) | (obtain ⟨_, _, _, _, rfl, _⟩ := h; rfl) | (obtain ⟨_, _, _, _, _, rfl, _⟩ := h; rfl) | (obtain ⟨_, _, _, _, _, _, rfl, _⟩ := h; rfl) | (obtain ⟨_, _, _, _, _, _, _, rfl, _⟩ := h; rfl) | (obtain ⟨_, _, _, _, _, _, _, _, rfl, _⟩ := h; rfl) | (obtain ⟨_, _, _, _, _, _, _, _, _, rfl, _⟩ := h; rfl) | (obtain ⟨_, _, _, _, _, _, _, _, _, _, rfl, _⟩ := h; rfl) | (obtain ⟨_, _, _, _, _, _, _, _, _, _, _, rfl, _⟩ := h; rfl) | (obtain ⟨_, _, _, _, _, _, _, _, _, _, _, _, rfl, _⟩ := h; rfl) | (obtain ⟨_, _, _, _, _, _, _, _, _, _, _, _, _, rfl, _⟩ := h; rfl)) d__law_is_number (fun cdv A outer s H E hr => ⟨_, (q_sc (q_set (i := 3) nd rfl (Or.inl rfl) (q_v 0 (pv 0)) (Or.inl (by decide)) (by rfl) (by first | exact .inl rfl | exact .inr rfl))
      (q_sc (q_ifS (q_cmpT op_eq bd_eq (q_sl sl_str ld_str (q_v 0 (pv 0)) q_o0 (q_o1 q_int)) q_str (nomark _)) (q_s1 (q_set (i := 3) nd rfl (Or.inl rfl) (q_sl sl_str ld_str (q_v 0 (pv 0)) (q_o1 q_int) q_o0) (Or.inl (by decide)) (by rfl) (by first | exact .inl rfl | exact .inr rfl))) q_s0)
      (q_sc (q_ifS (QW.tst (q_or (q_cmpT op_gt bd_gt (q_cB (call_lenK (by rfl)) cd_len (by rfl) z_len (by decide +kernel) (q_cons (q_lc (own := [("_law_letter", 7)]) (by rfl) nd (q_is (q_v 3 (pv 3))) (blkOk_by (own := [("_law_letter", 7)]) (N := ["_law_text", "_law_ahead", "_law_behind", "_law_rest", "_law_at", "_law_first", "_law_second", "_law_letter"]) (sc := defScope s__law_is_number) (by decide +kernel)) (fun _ _ _ _ _ => (q_cn (i := 7) (pg_name nd rfl (Or.inl rfl)) (by decide))) (fun _ _ _ _ _ => (q_t1 (q_cmpT op_notIn_str bd_notInS (q_v 7 (pv 7)) q_str (by rfl)))) (fun _ _ _ _ _ => (q_v 7 (pv 7))) (fun _ => rfl)) q_nil (by rfl)) (by decide) (by decide) (by rfl)) q_int (nomark _)) (q_or (q_cmpT op_gt bd_gt (q_countT (q_v 3 (pv 3)) q_str (by rfl) (by rfl) (by rfl)) q_int (nomark _)) (q_or1 (q_cmpT op_eq bd_eq (q_v 0 (pv 0)) q_str (nomark _)))))) (q_s1 (q_ret q_bl)) q_s0)
      (q_sc (q_set (i := 4) nd rfl (Or.inl rfl) (q_findT (q_v 3 (pv 3)) q_str (by rfl) (by rfl) (by rfl)) (Or.inl (by decide)) (by rfl) (by first | exact .inl rfl | exact .inr rfl))
      (q_sc (q_set (i := 5) nd rfl (Or.inl rfl) (q_v 3 (pv 3)) (Or.inl (by decide)) (by rfl) (by first | exact .inl rfl | exact .inr rfl))
      (q_sc (q_set (i := 6) nd rfl (Or.inl rfl) q_str (Or.inl (by decide)) (by rfl) (by first | exact .inl rfl | exact .inr rfl))
      (q_sc (q_ifS (q_cmpT op_ge bd_ge (q_v 4 (pv 4)) q_int (nomark _)) (q_sc (q_set (i := 5) nd rfl (Or.inl rfl) (q_sl sl_str ld_str (q_v 3 (pv 3)) q_o0 (q_o1 (q_v 4 (pv 4)))) (Or.inl (by decide)) (by rfl) (by first | exact .inl rfl | exact .inr rfl))
      (q_s1 (q_set (i := 6) nd rfl (Or.inl rfl) (q_sl sl_str ld_str (q_v 3 (pv 3)) (q_o1 (q_op op_add od_add (q_v 4 (pv 4)) q_int)) q_o0) (Or.inl (by decide)) (by rfl) (by first | exact .inl rfl | exact .inr rfl)))) q_s0)
      (q_sc (q_ifS (QW.tst (q_or (q_cmpT op_eq bd_eq (q_v 5 (pv 5)) q_str (nomark _)) (q_or (q_cmpT op_eq bd_eq (q_v 6 (pv 6)) q_str (nomark _)) (q_or (q_cmpT op_gt bd_gt (q_cB call_len_str cd_lenS (by rfl) z_len (by decide +kernel) (q_cons (q_v 5 (pv 5)) q_nil (by rfl)) (by decide) (by decide) (by rfl)) (q_v 1 (pv 1)) (nomark _)) (q_or1 (q_cmpT op_gt bd_gt (q_cB call_len_str cd_lenS (by rfl) z_len (by decide +kernel) (q_cons (q_v 6 (pv 6)) q_nil (by rfl)) (by decide) (by decide) (by rfl)) (q_v 2 (pv 2)) (nomark _))))))) (q_s1 (q_ret q_bl)) q_s0)
      (q_s1 (q_ret (q_andV (q_orV (q_cmp op_eq bd_eq (q_v 5 (pv 5)) q_str (nomark _)) (q_one (q_cmp op_ne bd_ne (q_ix (ix_seqK (by rfl)) od_ix (q_v 5 (pv 5)) q_int (fun _ _ => rfl)) q_str (nomark _)))) (q_one (q_cmp op_ne bd_ne (q_ix (ix_seqK (by rfl)) od_ix (q_v 6 (pv 6)) (q_un un_neg ud_neg q_int) (fun _ _ => rfl)) q_str (nomark _))))))))))))))⟩)
def w__law_bent : WS := (wSeq (wSet 2 (wCall true wf__law_take (wACons (wVar 0) (wACons (wOp dAdd (wCB dLenS (wACons (wVar 1) wANil)) (wC (.int 1))) wANil))))
  (wSeq (wSet 3 (wCall true wf__law_take (wACons (wVar 0) (wACons (wC (.int 8)) wANil))))
  (wSeq (wIfS (wCmp (bSc id) (wVar 3) (wC (.int 0))) (wRet (wOp dAddS (wSl dSlS (wVar 1) wNoP (wPrt (wVar 2))) (wSl dSlS (wVar 1) (wPrt (wOp dAdd (wVar 2) (wC (.int 1)))) wNoP))) wNext)
  (wSeq (wIfS (wCmp (bSc id) (wVar 3) (wC (.int 1))) (wRet (wOp dAddS (wOp dAddS (wSl dSlS (wVar 1) wNoP (wPrt (wVar 2))) (wSl dSlS (wVar 1) (wPrt (wVar 2)) (wPrt (wOp dAdd (wVar 2) (wC (.int 1)))))) (wSl dSlS (wVar 1) (wPrt (wVar 2)) wNoP))) wNext)
  (wSeq (wIfS (wCmp (bSc id) (wVar 3) (wC (.int 2))) (wRet (wOp dAddS (wOp dIx (wLst (wACons (wC (.str "0")) (wACons (wC (.str "00")) (wACons (wC (.str "-0")) (wACons (wC (.str "-")) (wACons (wC (.str "+")) (wACons (wC (.str " ")) (wACons (wC (.str ".")) (wACons (wC (.str "0.")) wANil))))))))) (wCall true wf__law_take (wACons (wVar 0) (wACons (wC (.int 8)) wANil)))) (wVar 1))) wNext)
  (wSeq (wIfS (wCmp (bSc id) (wVar 3) (wC (.int 3))) (wRet (wOp dAddS (wVar 1) (wOp dIx (wLst (wACons (wC (.str "0")) (wACons (wC (.str ".0")) (wACons (wC (.str ".")) (wACons (wC (.str ".50")) (wACons (wC (.str " ")) (wACons (wC (.str "\n")) (wACons (wC (.str "e3")) (wACons (wC (.str "-")) wANil))))))))) (wCall true wf__law_take (wACons (wVar 0) (wACons (wC (.int 8)) wANil)))))) wNext)
  (wSeq (wIfS (wCmp (bSc id) (wVar 3) (wC (.int 4))) (wRet (wOp dAddS (wCall true wf__law_figures (wACons (wVar 0) (wACons (wOp dAdd (wC (.int 14)) (wCall true wf__law_take (wACons (wVar 0) (wACons (wC (.int 3)) wANil)))) wANil))) (wVar 1))) wNext)
  (wSeq (wIfS (wCmp (bSc id) (wVar 3) (wC (.int 5))) (wRet (wOp dAddS (wOp dAddS (wOp dAddS (wVar 1) (wC (.str "."))) (wCall true wf__law_figures (wACons (wVar 0) (wACons (wOp dAdd (wC (.int 11)) (wCall true wf__law_take (wACons (wVar 0) (wACons (wC (.int 3)) wANil)))) wANil)))) (wC (.str "7")))) wNext)
  (wSeq (wIfS (wCmp (bSc id) (wVar 3) (wC (.int 6))) (wRet (wOp dIx (wLst (wACons (wC (.str "")) (wACons (wC (.str "-")) (wACons (wC (.str ".")) (wACons (wC (.str "-0")) (wACons (wC (.str "-0.0")) (wACons (wC (.str "0.0")) (wACons (wC (.str ".5")) (wACons (wC (.str "5.")) (wACons (wC (.str "1_0")) (wACons (wC (.str "a")) (wACons (wC (.str "0x1")) (wACons (wC (.str "--1")) (wACons (wC (.str "1.2.3")) wANil)))))))))))))) (wCall true wf__law_take (wACons (wVar 0) (wACons (wC (.int 13)) wANil))))) wNext)
  (wSeq (wSet 4 (wLst (wACons (wC (.str "0")) (wACons (wC (.str "7")) (wACons (wC (.str ".")) (wACons (wC (.str "-")) (wACons (wC (.str "+")) (wACons (wC (.str " ")) (wACons (wC (.str "a")) (wACons (wC (.str "_")) (wACons (wC (.str "\n")) wANil)))))))))))
  (wRet (wOp dAddS (wOp dAddS (wSl dSlS (wVar 1) wNoP (wPrt (wVar 2))) (wOp dIx (wVar 4) (wCall true wf__law_take (wACons (wVar 0) (wACons (wC (.int 9)) wANil))))) (wSl dSlS (wVar 1) (wPrt (wVar 2)) wNoP)))))))))))))
theorem d__law_bent : ∀ ds row Ψ Ξ, wf__law_bent ds row Ψ Ξ → goR (w__law_bent (endsW true Ψ fun _ => False)) (startW true 5 ds row) := by
  rintro ds row Ψ Ξ ⟨l, N, rfl, hl, R, h0, h1, q⟩
  have sz : ∀ n : Nat, n ≤ 1000 → n ≤ sizeLine := fun n h => Nat.le_trans h (by decide)
  have fin : ∀ (x : Str) (row' : List D), x.length ≤ 100 → RowD (N + 100) row' → Ψ (.val (.str x)) row' := fun x row' h1 h2 => by
    have e : x = mkS x.cps.toList := ext_mk rfl
    rw [e]
    exact q _ _ (by simpa [Str.length] using h1) h2
  have cl : ∀ lo hi, (cutS (mkS l) lo hi).length ≤ 29 := fun lo hi => Nat.le_trans (cutS_length _ _ _) (by rw [len_mk]; exact hl)
  have ll : (mkS l).length = l.length := len_mk l
  unfold w__law_bent
  walk_at "ev"
  refine sideR_by (sz _ (by omega)) fun _ => ?_
  walk_at "ev"
  refine ⟨_, _, rfl, R, by omega, by omega, by omega, fun v1 row1 v10 v11 R1 => ?_⟩
  walk_at "ev"
  refine ⟨8, _, rfl, R1, by omega, by decide, by decide, fun v2 row2 v20 v21 R2 => ?_⟩
  walk_at "ev"
  refine iteR_by (fun z => ?_) (fun z => ?_)
  · walk_at "ev"
    refine sideR_by (sz _ (by omega)) fun _ => ?_
    walk_at "ev"
    refine sideR_by (sz _ (by omega)) fun _ => ?_
    walk_at "ev"
    have c1 := cl none (some v1)
    have c2 := cl (some (v1 + 1)) none
    refine sideR_by (sz _ (by omega)) fun _ => ?_
    walk_at "ev"
    exact fin _ _ (by rw [len_app]; omega) (R2.mono (by omega))
  walk_at "ev"
  refine iteR_by (fun z => ?_) (fun z => ?_)
  · walk_at "ev"
    have c1 := cl none (some v1)
    have c2 := cl (some v1) (some (v1 + 1))
    have c3 := cl (some v1) none
    refine sideR_by (sz _ (by omega)) fun _ => ?_
    walk_at "ev"
    refine sideR_by (sz _ (by omega)) fun _ => ?_
    walk_at "ev"
    refine sideR_by (sz _ (by omega)) fun _ => ?_
    walk_at "ev"
    refine sideR_by (sz _ (by omega)) fun _ => ?_
    walk_at "ev"
    refine sideR_by (sz _ (by rw [len_app]; omega)) fun _ => ?_
    walk_at "ev"
    exact fin _ _ (by rw [len_app, len_app]; omega) (R2.mono (by omega))
  walk_at "ev"
  refine iteR_by (fun z => ?_) (fun z => ?_)
  · walk_at "ev"
    refine sideR_by (by decide) fun _ => ?_
    walk_at "ev"
    refine ⟨8, _, rfl, R2, by omega, by decide, by decide, fun v3 row3 v30 v31 R3 => ?_⟩
    walk_at "ev"
    obtain ⟨y, hy, ha⟩ := at_some (f := D.str) (P := fun y : Str => y.length ≤ 5) (v := v3) [Str.ofString "0", Str.ofString "00", Str.ofString "-0", Str.ofString "-", Str.ofString "+", Str.ofString " ", Str.ofString ".", Str.ofString "0."] v30 (by exact v31) (by decide +kernel)
    refine ⟨_, ha, ?_⟩
    walk_at "ev"
    refine sideR_by (sz _ (by omega)) fun _ => ?_
    walk_at "ev"
    exact fin _ _ (by rw [len_app]; omega) (R3.mono (by omega))
  walk_at "ev"
  refine iteR_by (fun z => ?_) (fun z => ?_)
  · walk_at "ev"
    refine sideR_by (by decide) fun _ => ?_
    walk_at "ev"
    refine ⟨8, _, rfl, R2, by omega, by decide, by decide, fun v3 row3 v30 v31 R3 => ?_⟩
    walk_at "ev"
    obtain ⟨y, hy, ha⟩ := at_some (f := D.str) (P := fun y : Str => y.length ≤ 5) (v := v3) [Str.ofString "0", Str.ofString ".0", Str.ofString ".", Str.ofString ".50", Str.ofString " ", Str.ofString "\n", Str.ofString "e3", Str.ofString "-"] v30 (by exact v31) (by decide +kernel)
    refine ⟨_, ha, ?_⟩
    walk_at "ev"
    refine sideR_by (sz _ (by omega)) fun _ => ?_
    walk_at "ev"
    exact fin _ _ (by rw [len_app]; omega) (R3.mono (by omega))
  walk_at "ev"
  refine iteR_by (fun z => ?_) (fun z => ?_)
  · walk_at "ev"
    refine ⟨3, _, rfl, R2, by omega, by decide, by decide, fun v3 row3 v30 v31 R3 => ?_⟩
    walk_at "ev"
    refine ⟨14 + v3, _, rfl, R3, by omega, by omega, by omega, by omega, fun l2 row4 hd2 hl2 R4 => ?_⟩
    walk_at "ev"
    refine sideR_by (sz _ (by rw [len_mk, len_mk]; omega)) fun _ => ?_
    walk_at "ev"
    exact fin _ _ (by rw [len_app, len_mk, len_mk]; omega) (R4.mono (by omega))
  walk_at "ev"
  refine iteR_by (fun z => ?_) (fun z => ?_)
  · walk_at "ev"
    have d1 : (Str.ofString ".").length = 1 := rfl
    have d7 : (Str.ofString "7").length = 1 := rfl
    refine sideR_by (sz _ (by omega)) fun _ => ?_
    walk_at "ev"
    refine ⟨3, _, rfl, R2, by omega, by decide, by decide, fun v3 row3 v30 v31 R3 => ?_⟩
    walk_at "ev"
    refine ⟨11 + v3, _, rfl, R3, by omega, by omega, by omega, by omega, fun l2 row4 hd2 hl2 R4 => ?_⟩
    walk_at "ev"
    refine sideR_by (sz _ (by rw [len_app, len_mk, len_mk]; omega)) fun _ => ?_
    walk_at "ev"
    refine sideR_by (sz _ (by rw [len_app, len_app, len_mk, len_mk]; omega)) fun _ => ?_
    walk_at "ev"
    exact fin _ _ (by rw [len_app, len_app, len_app, len_mk, len_mk]; omega) (R4.mono (by omega))
  walk_at "ev"
  refine iteR_by (fun z => ?_) (fun z => ?_)
  · walk_at "ev"
    refine sideR_by (by decide) fun _ => ?_
    walk_at "ev"
    refine ⟨13, _, rfl, R2, by omega, by decide, by decide, fun v3 row3 v30 v31 R3 => ?_⟩
    walk_at "ev"
    obtain ⟨y, hy, ha⟩ := at_some (f := D.str) (P := fun y : Str => y.length ≤ 5) (v := v3) [Str.ofString "", Str.ofString "-", Str.ofString ".", Str.ofString "-0", Str.ofString "-0.0", Str.ofString "0.0", Str.ofString ".5", Str.ofString "5.", Str.ofString "1_0", Str.ofString "a", Str.ofString "0x1", Str.ofString "--1", Str.ofString "1.2.3"] v30 (by exact v31) (by decide +kernel)
    refine ⟨_, ha, ?_⟩
    walk_at "ev"
    exact fin _ _ (by omega) (R3.mono (by omega))
  walk_at "ev"
  refine sideR_by (by decide) fun _ => ?_
  walk_at "ev"
  have c1 := cl none (some v1)
  have c3 := cl (some v1) none
  refine sideR_by (sz _ (by omega)) fun _ => ?_
  walk_at "ev"
  refine ⟨9, _, rfl, R2, by omega, by decide, by decide, fun v3 row3 v30 v31 R3 => ?_⟩
  walk_at "ev"
  obtain ⟨y, hy, ha⟩ := at_some (f := D.str) (P := fun y : Str => y.length ≤ 5) (v := v3) [Str.ofString "0", Str.ofString "7", Str.ofString ".", Str.ofString "-", Str.ofString "+", Str.ofString " ", Str.ofString "a", Str.ofString "_", Str.ofString "\n"] v30 (by exact v31) (by decide +kernel)
  refine ⟨_, ha, ?_⟩
  walk_at "ev"
  refine sideR_by (sz _ (by omega)) fun _ => ?_
  walk_at "ev"
  refine sideR_by (sz _ (by omega)) fun _ => ?_
  walk_at "ev"
  refine sideR_by (sz _ (by rw [len_app]; omega)) fun _ => ?_
  walk_at "ev"
  exact fin _ _ (by rw [len_app, len_app]; omega) (R3.mono (by omega))
abbrev s__law_bent : Stmt := top 36
theorem sc__law_bent : FnScope ["_law_row", "_law_text", "_law_at", "_law_way", "_law_some"] ["_law_row", "_law_text"] (defScope s__law_bent) := ⟨rfl, rfl, rfl, by decide +kernel, rfl, by decide +kernel, by decide +kernel⟩
theorem ok__law_bent {P : Program} {w : World} {K : PySem.W.Frag} {mg : Str → Option Value} {base : Heap} {f : Addr} {fd : FuncData} (F : Fun K "_law_bent" "_law_bent" s__law_bent f fd) (C__law_take : Cal P w K mg base (CXE P w) 1 "_law_take" ["_law_row", "_law_base"] (spD ⟨K, TSK K, LSK K⟩ true wf__law_take)) (C__law_figures : Cal P w K mg base (CXE P w) 2 "_law_figures" ["_law_row", "_law_many"] (spD ⟨K, TSK K, LSK K⟩ true wf__law_figures)) (z_len : mg "len" = none) : FnOk P w K mg base (CXE P w) 3 f fd ["_law_row", "_law_text"] (spD ⟨K, TSK K, LSK K⟩ true wf__law_bent) := by
  have nd := (sc__law_bent).nd
  refine fn_d F sc__law_bent (by decide) (fun ds row Ψ Ξ h => by first | (obtain ⟨rfl, _⟩ := h; rfl) | (obtain ⟨_, rfl, _⟩ := h; rfl) | (obtain ⟨_, _, rfl, _⟩ := h; rfl) | (obtain ⟨_, _, _, rfl, _⟩ := h; rfl) | (obtain ⟨_, _, _, _, rfl, _⟩ := h; rfl) | (obtain ⟨_, _, _, _, _, rfl, _⟩ := h; rfl) | (obtain ⟨_, _, _, _, _, _, rfl, _⟩ := h; rfl) | (obtain ⟨_, _, _, _, _, _, _, rfl, _⟩ := h; rfl) | (obtain ⟨_, _, _, _, _, _, _, _, rfl, _⟩ := h; rfl) | (obtain ⟨_, _, _, _, _, _, _, _, _, rfl, _⟩ := h; rfl) | (obtain ⟨_, _, _, _, _, _, _, _, _, _, rfl, _⟩ := h; rfl) | (obtain ⟨_, _, _, _, _, _, _, _, _, _, _, rfl, _⟩ := h; rfl) | (obtain ⟨_, _, _, _, _, _, _, _, _, _, _, _, rfl, _⟩ := h; rfl) | (obtain ⟨_, _, _, _, _, _, _, _, _, _, _, _, _, rfl, _⟩ := h; rfl)) d__law_bent (fun cdv A outer s H E hr => ⟨_, (q_sc (q_set (i := 2) nd rfl (Or.inl rfl) (q_call C__law_take hr passE0 (q_cons (q_v 0 (pv 0)) (q_cons (q_op op_add od_add (q_cB call_len_str cd_lenS (by rfl) z_len (by decide +kernel) (q_cons (q_v 1 (pv 1)) q_nil (by rfl)) (by decide) (by decide) (by rfl)) q_int) q_nil (by rfl)) (by rfl)) (by rfl) (by decide) (by decide) (by rfl)) (Or.inl (by decide)) (by rfl) (by first | exact .inl rfl | exact .inr rfl))
      (q_sc (q_set (i := 3) nd rfl (Or.inl rfl) (q_call C__law_take hr passE0 (q_cons (q_v 0 (pv 0)) (q_cons q_int q_nil (by rfl)) (by rfl)) (by rfl) (by decide) (by decide) (by rfl)) (Or.inl (by decide)) (by rfl) (by first | exact .inl rfl | exact .inr rfl))
      (q_sc (q_ifS (q_cmpT op_eq bd_eq (q_v 3 (pv 3)) q_int (nomark _)) (q_s1 (q_ret (q_op op_add_str od_addS (q_sl sl_str ld_str (q_v 1 (pv 1)) q_o0 (q_o1 (q_v 2 (pv 2)))) (q_sl sl_str ld_str (q_v 1 (pv 1)) (q_o1 (q_op op_add od_add (q_v 2 (pv 2)) q_int)) q_o0)))) q_s0)
      (q_sc (q_ifS (q_cmpT op_eq bd_eq (q_v 3 (pv 3)) q_int (nomark _)) (q_s1 (q_ret (q_op op_add_str od_addS (q_op op_add_str od_addS (q_sl sl_str ld_str (q_v 1 (pv 1)) q_o0 (q_o1 (q_v 2 (pv 2)))) (q_sl sl_str ld_str (q_v 1 (pv 1)) (q_o1 (q_v 2 (pv 2))) (q_o1 (q_op op_add od_add (q_v 2 (pv 2)) q_int)))) (q_sl sl_str ld_str (q_v 1 (pv 1)) (q_o1 (q_v 2 (pv 2))) q_o0)))) q_s0)
      (q_sc (q_ifS (q_cmpT op_eq bd_eq (q_v 3 (pv 3)) q_int (nomark _)) (q_s1 (q_ret (q_op op_add_str od_addS (q_ix (ix_seqK (by rfl)) od_ix (q_lst (q_cons q_str (q_cons q_str (q_cons q_str (q_cons q_str (q_cons q_str (q_cons q_str (q_cons q_str (q_cons q_str q_nil (by rfl)) (by rfl)) (by rfl)) (by rfl)) (by rfl)) (by rfl)) (by rfl)) (by rfl))) (q_call C__law_take hr passE0 (q_cons (q_v 0 (pv 0)) (q_cons q_int q_nil (by rfl)) (by rfl)) (by rfl) (by decide) (by decide) (by rfl)) (fun _ _ => rfl)) (q_v 1 (pv 1))))) q_s0)
      (q_sc (q_ifS (q_cmpT op_eq bd_eq (q_v 3 (pv 3)) q_int (nomark _)) (q_s1 (q_ret (q_op op_add_str od_addS (q_v 1 (pv 1)) (q_ix (ix_seqK (by rfl)) od_ix (q_lst (q_cons q_str (q_cons q_str (q_cons q_str (q_cons q_str (q_cons q_str (q_cons q_str (q_cons q_str (q_cons q_str q_nil (by rfl)) (by rfl)) (by rfl)) (by rfl)) (by rfl)) (by rfl)) (by rfl)) (by rfl))) (q_call C__law_take hr passE0 (q_cons (q_v 0 (pv 0)) (q_cons q_int q_nil (by rfl)) (by rfl)) (by rfl) (by decide) (by decide) (by rfl)) (fun _ _ => rfl))))) q_s0)
      (q_sc (q_ifS (q_cmpT op_eq bd_eq (q_v 3 (pv 3)) q_int (nomark _)) (q_s1 (q_ret (q_op op_add_str od_addS (q_call C__law_figures hr passE0 (q_cons (q_v 0 (pv 0)) (q_cons (q_op op_add od_add q_int (q_call C__law_take hr passE0 (q_cons (q_v 0 (pv 0)) (q_cons q_int q_nil (by rfl)) (by rfl)) (by rfl) (by decide) (by decide) (by rfl))) q_nil (by rfl)) (by rfl)) (by rfl) (by decide) (by decide) (by rfl)) (q_v 1 (pv 1))))) q_s0)
      (q_sc (q_ifS (q_cmpT op_eq bd_eq (q_v 3 (pv 3)) q_int (nomark _)) (q_s1 (q_ret (q_op op_add_str od_addS (q_op op_add_str od_addS (q_op op_add_str od_addS (q_v 1 (pv 1)) q_str) (q_call C__law_figures hr passE0 (q_cons (q_v 0 (pv 0)) (q_cons (q_op op_add od_add q_int (q_call C__law_take hr passE0 (q_cons (q_v 0 (pv 0)) (q_cons q_int q_nil (by rfl)) (by rfl)) (by rfl) (by decide) (by decide) (by rfl))) q_nil (by rfl)) (by rfl)) (by rfl) (by decide) (by decide) (by rfl))) q_str))) q_s0)
      (q_sc (q_ifS (q_cmpT op_eq bd_eq (q_v 3 (pv 3)) q_int (nomark _)) (q_s1 (q_ret (q_ix (ix_seqK (by rfl)) od_ix (q_lst (q_cons q_str (q_cons q_str (q_cons q_str (q_cons q_str (q_cons q_str (q_cons q_str (q_cons q_str (q_cons q_str (q_cons q_str (q_cons q_str (q_cons q_str (q_cons q_str (q_cons q_str q_nil (by rfl)) (by rfl)) (by rfl)) (by rfl)) (by rfl)) (by rfl)) (by rfl)) (by rfl)) (by rfl)) (by rfl)) (by rfl)) (by rfl)) (by rfl))) (q_call C__law_take hr passE0 (q_cons (q_v 0 (pv 0)) (q_cons q_int q_nil (by rfl)) (by rfl)) (by rfl) (by decide) (by decide) (by rfl)) (fun _ _ => rfl)))) q_s0)
      (q_sc (q_set (i := 4) nd rfl (Or.inl rfl) (q_lst (q_cons q_str (q_cons q_str (q_cons q_str (q_cons q_str (q_cons q_str (q_cons q_str (q_cons q_str (q_cons q_str (q_cons q_str q_nil (by rfl)) (by rfl)) (by rfl)) (by rfl)) (by rfl)) (by rfl)) (by rfl)) (by rfl)) (by rfl))) (Or.inl (by decide)) (by rfl) (by first | exact .inl rfl | exact .inr rfl))
      (q_s1 (q_ret (q_op op_add_str od_addS (q_op op_add_str od_addS (q_sl sl_str ld_str (q_v 1 (pv 1)) q_o0 (q_o1 (q_v 2 (pv 2)))) (q_ix (ix_seqK (by rfl)) od_ix (q_v 4 (pv 4)) (q_call C__law_take hr passE0 (q_cons (q_v 0 (pv 0)) (q_cons q_int q_nil (by rfl)) (by rfl)) (by rfl) (by decide) (by decide) (by rfl)) (fun _ _ => rfl))) (q_sl sl_str ld_str (q_v 1 (pv 1)) (q_o1 (q_v 2 (pv 2))) q_o0))))))))))))))⟩)
def w__law_heard : WS := (wSeq (wSet 2 (wC .non))
  (wSeq (wSet 3 (wC .non))
  (wSeq (wTryX ["NoNumber"] (wIfT (wB (wVar 1)) (wSet 3 (wCallT false wf_show_number (wACons (wVar 0) wANil))) (wSet 3 (wCallT false wf_read_number (wACons (wVar 0) wANil)))) 4 (wSet 2 (wVar 4)))
  (wSeq (wIfS (wCmp (bIsN id) (wVar 2) (wC .non)) (wRet (wTup (wACons (wC (.str "told")) (wACons (wVar 3) wANil)))) wNext)
  (wSeq (wSet 5 (wIsX "NoNumber" false (wVar 2)))
  (wRet (wTup (wACons (wC (.str "refused")) (wACons (wAndV (wIsX "NoNumber" true (wVar 2)) (wAndV (wIsX "NoNumber" true (wVar 2)) (wNotV (wVar 5)))) wANil)))))))))
theorem d__law_heard : ∀ ds row Ψ Ξ, wf__law_heard ds row Ψ Ξ → goR (w__law_heard (endsW false Ψ fun _ => False)) (startW false 6 ds row) := by
  rintro ds row Ψ Ξ ⟨d, b, rfl, h⟩
  unfold w__law_heard
  walk_at "ev"
  refine ⟨fun i ds z => ?_, ?_⟩
  · rcases i with _ | _ | _ | _ | _ | _ | i <;> simp at z
  walk_at "ev"
  rcases h with ⟨n, rfl, rfl, hn, q⟩ | ⟨hb, rfl, q⟩ | ⟨p, rfl, rfl, hp, q⟩
  · walk_at "ev"
    refine ⟨_, rfl, .inl ⟨n, rfl, hn, ?_⟩⟩
    walk_at "ev"
    rw [show id D.non.isN = true from rfl]
    walk_at "ev"
    refine sideR_by (by decide) fun _ => ?_
    walk_at "ev"
    exact q
  · walk_at "ev"
    refine ⟨_, rfl, .inr ⟨hb, ?_⟩⟩
    refine ⟨rfl, rfl, by simp [noNum], ?_⟩
    simp only [noNum]
    walk_at "ev"
    rw [show id (D.exc (Str.ofString "NoNumber") [] []).isN = false from rfl]
    walk_at "ev"
    refine sideR_by (by decide) fun _ => ?_
    walk_at "ev"
    exact q
  · walk_at "ev"
    refine ⟨p, rfl, hp, ?_⟩
    refine ⟨rfl, rfl, by simp [noNum], ?_⟩
    simp only [noNum]
    walk_at "ev"
    rw [show id (D.exc (Str.ofString "NoNumber") [] []).isN = false from rfl]
    walk_at "ev"
    refine sideR_by (by decide) fun _ => ?_
    walk_at "ev"
    exact q
abbrev s__law_heard : Stmt := top 37
theorem sc__law_heard : FnScope ["_law_thing", "_law_is_shown", "_law_heard_here", "_law_found", "e", "_law_others"] ["_law_thing", "_law_is_shown"] (defScope s__law_heard) := ⟨rfl, rfl, rfl, by decide +kernel, rfl, by decide +kernel, by decide +kernel⟩
theorem ok__law_heard {P : Program} {w : World} {K : PySem.W.Frag} {mg : Str → Option Value} {base : Heap} {f : Addr} {fd : FuncData} (F : Fun K "_law_heard" "_law_heard" s__law_heard f fd) (C_show_number : Cal P w K mg base (CXE P w) 1 "show_number" ["one"] (spD ⟨K, TSK K, LSK K⟩ false wf_show_number)) (C_read_number : Cal P w K mg base (CXE P w) 5 "read_number" ["text"] (spD ⟨K, TSK K, LSK K⟩ false wf_read_number)) (A_NoNumber : ExcA K (CA K "NoNumber")) (kx_NoNumber_NoNumber : PySem.W.kitOne K (.ref (CA K "NoNumber")) (.ref (CA K "NoNumber")) = some true) (kt_NoNumber_ValueError : PySem.W.kitOne K (.ref (CA K "NoNumber")) (.type "ValueError") = some true) (ka_NoNumber_0 : PySem.W.kitAny K (.ref (CA K "NoNumber")) [.ref (CA K "Below"), .ref (CA K "NoChange"), .ref (CA K "NoFraction"), .ref (CA K "NoName"), .ref (CA K "NoRow"), .ref (CA K "NoSheet"), .ref (CA K "NoSize"), .ref (CA K "NoTable"), .ref (CA K "NoText")] = some false) (nX_NoNumber : PySem.W.nsIn K mainGlobals "NoNumber" = some (some (.ref (CA K "NoNumber")))) (xm_ChartError_NoNumber : PySem.W.exmOne K (.ref (CA K "NoNumber")) (.ref (CA K "ChartError")) = some true) (mX_ChartError : mg "ChartError" = some (.ref (CA K "ChartError"))) (mX_Below : mg "Below" = some (.ref (CA K "Below"))) (mX_NoChange : mg "NoChange" = some (.ref (CA K "NoChange"))) (mX_NoFraction : mg "NoFraction" = some (.ref (CA K "NoFraction"))) (mX_NoName : mg "NoName" = some (.ref (CA K "NoName"))) (mX_NoRow : mg "NoRow" = some (.ref (CA K "NoRow"))) (mX_NoSheet : mg "NoSheet" = some (.ref (CA K "NoSheet"))) (mX_NoSize : mg "NoSize" = some (.ref (CA K "NoSize"))) (mX_NoTable : mg "NoTable" = some (.ref (CA K "NoTable"))) (mX_NoText : mg "NoText" = some (.ref (CA K "NoText"))) (mX_NoNumber : mg "NoNumber" = some (.ref (CA K "NoNumber"))) (z_isinstance : mg "isinstance" = none) (z_ValueError : mg "ValueError" = none) : FnOk P w K mg base (CXE P w) 6 f fd ["_law_thing", "_law_is_shown"] (spD ⟨K, TSK K, LSK K⟩ false wf__law_heard) := by
  have nd := (sc__law_heard).nd
  refine fn_d F sc__law_heard (by decide) (fun ds row Ψ Ξ h => by first | (obtain ⟨rfl, _⟩ := h; rfl) | (obtain ⟨_, rfl, _⟩ := h; rfl) | (obtain ⟨_, _, rfl, _⟩ := h; rfl) | (obtain ⟨_, _, _, rfl, _⟩ := h; rfl) | (obtain ⟨_, _, _, _, rfl, _⟩ := h; rfl) | (obtain ⟨_, _, _, _, _, rfl, _⟩ := h; rfl) | (obtain ⟨_, _, _, _, _, _, rfl, _⟩ := h; rfl) | (obtain ⟨_, _, _, _, _, _, _, rfl, _⟩ := h; rfl) | (obtain ⟨_, _, _, _, _, _, _, _, rfl, _⟩ := h; rfl) | (obtain ⟨_, _, _, _, _, _, _, _, _, rfl, _⟩ := h; rfl) | (obtain ⟨_, _, _, _, _, _, _, _, _, _, rfl, _⟩ := h; rfl) | (obtain ⟨_, _, _, _, _, _, _, _, _, _, _, rfl, _⟩ := h; rfl) | (obtain ⟨_, _, _, _, _, _, _, _, _, _, _, _, rfl, _⟩ := h; rfl) | (obtain ⟨_, _, _, _, _, _, _, _, _, _, _, _, _, rfl, _⟩ := h; rfl)) d__law_heard (fun cdv A outer s H E hr => ⟨_, (q_sc (q_set (i := 2) nd rfl (Or.inl rfl) q_non (Or.inl (by decide)) (by rfl) (by first | exact .inl rfl | exact .inr rfl))
      (q_sc (q_set (i := 3) nd rfl (Or.inl rfl) q_non (Or.inl (by decide)) (by rfl) (by first | exact .inl rfl | exact .inr rfl))
      (q_sc (q_tryX (i := 4) (cs := ["NoNumber"]) (by rfl) (fun _ _ z => z) rfl rfl (qb_if (fun _ _ z => z) (q_tv (q_v 1 (pv 1)) (by rfl)) (qb_set (i := 3) (fun _ _ z => z) C_show_number hr (q_cons (q_v 0 (pv 0)) q_nil (by rfl)) (by rfl) (by decide) (by decide) (by rfl) nd rfl (Or.inl rfl) rfl) (qb_set (i := 3) (fun _ _ z => z) C_read_number hr (q_cons (q_v 0 (pv 0)) q_nil (by rfl)) (by rfl) (by decide) (by decide) (by rfl) nd rfl (Or.inl rfl) rfl)) (by rfl) mX_ChartError nd rfl (by rfl) rfl (fun _ => (q_s1 (q_set (i := 2) nd rfl (Or.inl rfl) (q_v 4 (pv 4)) (Or.inl (by decide)) (by rfl) (by first | exact .inl rfl | exact .inr rfl)))) (by decide) (fun c hc => by simp only [List.mem_cons, List.not_mem_nil, or_false] at hc; rcases hc with rfl; exact ⟨_, nX_NoNumber, xm_ChartError_NoNumber⟩))
      (q_sc (q_ifS (q_cmpT op_isN bd_isN (q_v 2 (pv 2)) q_non (nomark _)) (q_s1 (q_ret (q_tup (q_cons q_str (q_cons (q_v 3 (pv 3)) q_nil (by rfl)) (by rfl))))) q_s0)
      (q_sc (q_set (i := 5) nd rfl (Or.inl rfl) (q_isXs (c := "NoNumber") (b := false) (Ds := [CA _ "Below", CA _ "NoChange", CA _ "NoFraction", CA _ "NoName", CA _ "NoRow", CA _ "NoSheet", CA _ "NoSize", CA _ "NoTable", CA _ "NoText"]) (by rfl) A_NoNumber ka_NoNumber_0 (q_v 2 (pv 2)) (by rfl) z_isinstance (by show 9 ≤ sizeLine; decide) (pa_c (pe_glob (v := .ref (CA _ "Below")) (by rfl) mX_Below rfl) (pa_c (pe_glob (v := .ref (CA _ "NoChange")) (by rfl) mX_NoChange rfl) (pa_c (pe_glob (v := .ref (CA _ "NoFraction")) (by rfl) mX_NoFraction rfl) (pa_c (pe_glob (v := .ref (CA _ "NoName")) (by rfl) mX_NoName rfl) (pa_c (pe_glob (v := .ref (CA _ "NoRow")) (by rfl) mX_NoRow rfl) (pa_c (pe_glob (v := .ref (CA _ "NoSheet")) (by rfl) mX_NoSheet rfl) (pa_c (pe_glob (v := .ref (CA _ "NoSize")) (by rfl) mX_NoSize rfl) (pa_c (pe_glob (v := .ref (CA _ "NoTable")) (by rfl) mX_NoTable rfl) (pa_c (pe_glob (v := .ref (CA _ "NoText")) (by rfl) mX_NoText rfl) pa_nil))))))))) (by rfl)) (Or.inl (by decide)) (by rfl) (by first | exact .inl rfl | exact .inr rfl))
      (q_s1 (q_ret (q_tup (q_cons q_str (q_cons (q_andV (q_isX (c := "NoNumber") (b := true) (d := "NoNumber") (by rfl) A_NoNumber kx_NoNumber_NoNumber (q_v 2 (pv 2)) (by rfl) z_isinstance (pe_glob (v := .ref (CA _ "NoNumber")) (by rfl) mX_NoNumber rfl) (by rfl)) (q_andV (q_isXt (c := "NoNumber") (b := true) (n := "ValueError") (by rfl) A_NoNumber kt_NoNumber_ValueError (q_v 2 (pv 2)) (by rfl) z_isinstance (pe_bltn (v := .ty "ValueError") (by rfl) z_ValueError (by decide +kernel) rfl) (by rfl) (by rfl)) (q_one (q_notV (q_v 5 (pv 5)))))) q_nil (by rfl)) (by rfl))))))))))⟩)
def w__law_unwritten : WS := (wSeq (wSet 1 (wCall true wf__law_take (wACons (wVar 0) (wACons (wC (.int 3)) wANil))))
  (wSeq (wSet 2 (wOp dSub (wC (.int 1)) (wOp dMul (wC (.int 2)) (wCall true wf__law_take (wACons (wVar 0) (wACons (wC (.int 2)) wANil))))))
  (wSeq (wIfS (wCmp (bSc id) (wVar 1) (wC (.int 0))) (wSeq (wSet 3 (wOp dIx (wLst (wACons (wC (.int 3)) (wACons (wC (.int 7)) (wACons (wC (.int 11)) (wACons (wC (.int 13)) (wACons (wC (.int 49)) wANil)))))) (wCall true wf__law_take (wACons (wVar 0) (wACons (wC (.int 5)) wANil)))))
  (wRet (wCall false wf__law_low (wACons (wOp dMul (wVar 2) (wOp dAdd (wC (.int 1)) (wOp dMul (wVar 3) (wCall true wf__law_take (wACons (wVar 0) (wACons (wC (.int 1000)) wANil)))))) (wACons (wOp dMul (wVar 3) (wOp dAdd (wC (.int 1)) (wCall true wf__law_take (wACons (wVar 0) (wACons (wC (.int 90)) wANil))))) wANil))))) wNext)
  (wSeq (wIfS (wCmp (bSc id) (wVar 1) (wC (.int 1))) (wRet (wTup (wACons (wOp dMul (wVar 2) (wOp dAdd (wOp dMul (wC (.int 10)) (wCall true wf__law_take (wACons (wVar 0) (wACons (wC (.int 1000)) wANil)))) (wC (.int 1)))) (wACons (wOp dPow (wC (.int 10)) (wC (.int 13))) wANil)))) wNext)
  (wRet (wTup (wACons (wOp dMul (wVar 2) (wOp dAdd (wOp dPow (wC (.int 10)) (wC (.int 15))) (wCall true wf__law_take (wACons (wVar 0) (wACons (wOp dPow (wC (.int 10)) (wC (.int 6))) wANil))))) (wACons (wC (.int 1)) wANil))))))))
theorem d__law_unwritten : ∀ ds row Ψ Ξ, wf__law_unwritten ds row Ψ Ξ → goR (w__law_unwritten (endsW true Ψ fun _ => False)) (startW true 4 ds row) := by
  rintro ds row Ψ Ξ ⟨N, rfl, R, h0, h1, q⟩
  unfold w__law_unwritten
  walk_at "ev"
  refine ⟨3, _, rfl, R, by omega, by decide, by decide, fun v1 row1 v10 v11 R1 => ?_⟩
  walk_at "ev"
  refine ⟨2, _, rfl, R1, by omega, by decide, by decide, fun v2 row2 v20 v21 R2 => ?_⟩
  walk_at "ev"
  refine sideR_by (.inr (.inl ⟨by decide, by decide⟩)) fun _ => ?_
  walk_at "ev"
  obtain ⟨s, es, hs⟩ : ∃ s : Int, s = 1 - 2 * v2 ∧ (s = 1 ∨ s = -1) := ⟨_, rfl, by omega⟩
  rw [← es]
  refine iteR_by (fun z => ?_) (fun z => ?_)
  · walk_at "ev"
    refine sideR_by (by decide) fun _ => ?_
    walk_at "ev"
    refine ⟨5, _, rfl, R2, by omega, by decide, by decide, fun v3 row3 v30 v31 R3 => ?_⟩
    walk_at "ev"
    obtain ⟨p, hp, ha⟩ := at_some (f := D.int) (P := fun z : Int => z = 3 ∨ z = 7 ∨ z = 11 ∨ z = 13 ∨ z = 49) (v := v3) [3, 7, 11, 13, 49] v30 (by exact v31) (fun z hz => by
      simp only [List.mem_cons, List.not_mem_nil, or_false] at hz
      exact hz)
    refine ⟨_, ha, ?_⟩
    walk_at "ev"
    refine ⟨1000, _, rfl, R3, by omega, by decide, by decide, fun v4 row4 v40 v41 R4 => ?_⟩
    walk_at "ev"
    refine sideR_by (.inr (.inl ⟨by omega, by omega⟩)) fun _ => ?_
    walk_at "ev"
    refine sideR_by (.inr (.inl ⟨by omega, by omega⟩)) fun _ => ?_
    walk_at "ev"
    refine ⟨90, _, rfl, R4, by omega, by decide, by decide, fun v5 row5 v50 v51 R5 => ?_⟩
    walk_at "ev"
    refine sideR_by (.inr (.inl ⟨by omega, by omega⟩)) fun _ => ?_
    walk_at "ev"
    have bad := bad_low hs hp v40 v41 v50 v51
    have hy : 0 < p * (1 + v5) ∧ p * (1 + v5) ≤ 10000 := by rcases hp with rfl | rfl | rfl | rfl | rfl <;> constructor <;> omega
    have hx : (s * (1 + p * v4)).natAbs < 100000 := by rcases hs with rfl | rfl <;> rcases hp with rfl | rfl | rfl | rfl | rfl <;> omega
    have e100 : (100000 : Nat) < 2 ^ 100 := by decide
    refine ⟨_, _, rfl, by omega, Bd.mono (m := 100) (by unfold Bd; omega) (by decide), Bd.mono (m := 100) (by unfold Bd; omega) (by decide), ?_⟩
    walk_at "ev"
    exact q _ _ bad (R5.mono (by omega))
  · walk_at "ev"
    refine iteR_by (fun z2 => ?_) (fun z2 => ?_)
    · walk_at "ev"
      refine ⟨1000, _, rfl, R2, by omega, by decide, by decide, fun v4 row4 v40 v41 R4 => ?_⟩
      walk_at "ev"
      refine sideR_by (.inr (.inl ⟨by decide, by decide⟩)) fun _ => ?_
      walk_at "ev"
      refine sideR_by (.inr (.inl ⟨by omega, by omega⟩)) fun _ => ?_
      walk_at "ev"
      refine sideR_by ⟨by decide, by decide, by decide⟩ fun _ => ?_
      walk_at "ev"
      refine sideR_by (by decide) fun _ => ?_
      walk_at "ev"
      have e13 : (10 : Int) ^ Int.toNat 13 = 10000000000000 := by decide
      refine q (s * (10 * v4 + 1), 10 ^ Int.toNat 13) _ ⟨by show (1 : Int) ≤ 10 ^ Int.toNat 13; omega, by show (10 : Int) ^ Int.toNat 13 ≤ 10 ^ 13; decide, by show (s * (10 * v4 + 1)).natAbs < 2 ^ 100; have : (100000 : Nat) < 2 ^ 100 := by { decide }; rcases hs with rfl | rfl <;> omega, .inl ?_⟩ (R4.mono (by omega))
      show (if s * (10 * v4 + 1) < 0 then -(s * (10 * v4 + 1)) else s * (10 * v4 + 1)) * 1000000000000 % (10 ^ Int.toNat 13) ≠ 0
      rw [e13]
      rcases hs with rfl | rfl <;> split <;> omega
    · walk_at "ev"
      refine sideR_by ⟨by decide, by decide, by decide⟩ fun _ => ?_
      walk_at "ev"
      refine sideR_by ⟨by decide, by decide, by decide⟩ fun _ => ?_
      walk_at "ev"
      refine ⟨10 ^ Int.toNat 6, _, rfl, R2, by omega, by decide, by decide, fun v4 row4 v40 v41 R4 => ?_⟩
      walk_at "ev"
      have e15 : (10 : Int) ^ Int.toNat 15 = 1000000000000000 := by decide
      have e6 : (10 : Int) ^ Int.toNat 6 = 1000000 := by decide
      refine sideR_by (.inr (.inl ⟨by omega, by omega⟩)) fun _ => ?_
      walk_at "ev"
      refine sideR_by (by decide) fun _ => ?_
      walk_at "ev"
      refine q (s * (10 ^ Int.toNat 15 + v4), 1) _ ⟨by show (1 : Int) ≤ 1; decide, by show (1 : Int) ≤ 10 ^ 13; decide, by show (s * (10 ^ Int.toNat 15 + v4)).natAbs < 2 ^ 100; have : (10000000000000000 : Nat) < 2 ^ 100 := by { decide }; rw [e15]; rcases hs with rfl | rfl <;> omega, .inr ?_⟩ (R4.mono (by omega))
      show (1000000000000000000000000000 : Int) ≤ (if s * (10 ^ Int.toNat 15 + v4) < 0 then -(s * (10 ^ Int.toNat 15 + v4)) else s * (10 ^ Int.toNat 15 + v4)) * 1000000000000 / 1
      rw [e15]
      rcases hs with rfl | rfl <;> split <;> omega
abbrev s__law_unwritten : Stmt := top 38
theorem sc__law_unwritten : FnScope ["_law_row", "_law_way", "_law_sign", "_law_prime"] ["_law_row"] (defScope s__law_unwritten) := ⟨rfl, rfl, rfl, by decide +kernel, rfl, by decide +kernel, by decide +kernel⟩
theorem ok__law_unwritten {P : Program} {w : World} {K : PySem.W.Frag} {mg : Str → Option Value} {base : Heap} {f : Addr} {fd : FuncData} (F : Fun K "_law_unwritten" "_law_unwritten" s__law_unwritten f fd) (C__law_take : Cal P w K mg base (CXE P w) 1 "_law_take" ["_law_row", "_law_base"] (spD ⟨K, TSK K, LSK K⟩ true wf__law_take)) (C__law_low : Cal P w K mg base (CXE P w) 1 "_law_low" ["_law_top", "_law_bottom"] (spD ⟨K, TSK K, LSK K⟩ false wf__law_low))  : FnOk P w K mg base (CXE P w) 2 f fd ["_law_row"] (spD ⟨K, TSK K, LSK K⟩ true wf__law_unwritten) := by
  have nd := (sc__law_unwritten).nd
  refine fn_d F sc__law_unwritten (by decide) (fun ds row Ψ Ξ h => by first | (obtain ⟨rfl, _⟩ := h; rfl) | (obtain ⟨_, rfl, _⟩ := h; rfl) | (obtain ⟨_, _, rfl, _⟩ := h; rfl) | (obtain ⟨_, _, _, rfl, _⟩ := h; rfl) | (obtain ⟨_, _, _, _, rfl, _⟩ := h; rfl) | (obtain ⟨_, _, _, _, _, rfl, _⟩ := h; rfl) | (obtain ⟨_, _, _, _, _, _, rfl, _⟩ := h; rfl) | (obtain ⟨_, _, _, _, _, _, _, rfl, _⟩ := h; rfl) | (obtain ⟨_, _, _, _, _, _, _, _, rfl, _⟩ := h; rfl) | (obtain ⟨_, _, _, _, _, _, _, _, _, rfl, _⟩ := h; rfl) | (obtain ⟨_, _, _, _, _, _, _, _, _, _, rfl, _⟩ := h; rfl) | (obtain ⟨_, _, _, _, _, _, _, _, _, _, _, rfl, _⟩ := h; rfl) | (obtain ⟨_, _, _, _, _, _, _, _, _, _, _, _, rfl, _⟩ := h; rfl) | (obtain ⟨_, _, _, _, _, _, _, _, _, _, _, _, _, rfl, _⟩ := h; rfl)) d__law_unwritten (fun cdv A outer s H E hr => ⟨_, (q_sc (q_set (i := 1) nd rfl (Or.inl rfl) (q_call C__law_take hr passE0 (q_cons (q_v 0 (pv 0)) (q_cons q_int q_nil (by rfl)) (by rfl)) (by rfl) (by decide) (by decide) (by rfl)) (Or.inl (by decide)) (by rfl) (by first | exact .inl rfl | exact .inr rfl))
      (q_sc (q_set (i := 2) nd rfl (Or.inl rfl) (q_op op_sub od_sub q_int (q_op op_mulB od_mul q_int (q_call C__law_take hr passE0 (q_cons (q_v 0 (pv 0)) (q_cons q_int q_nil (by rfl)) (by rfl)) (by rfl) (by decide) (by decide) (by rfl)))) (Or.inl (by decide)) (by rfl) (by first | exact .inl rfl | exact .inr rfl))
      (q_sc (q_ifS (q_cmpT op_eq bd_eq (q_v 1 (pv 1)) q_int (nomark _)) (q_sc (q_set (i := 3) nd rfl (Or.inl rfl) (q_ix (ix_seqK (by rfl)) od_ix (q_lst (q_cons q_int (q_cons q_int (q_cons q_int (q_cons q_int (q_cons q_int q_nil (by rfl)) (by rfl)) (by rfl)) (by rfl)) (by rfl))) (q_call C__law_take hr passE0 (q_cons (q_v 0 (pv 0)) (q_cons q_int q_nil (by rfl)) (by rfl)) (by rfl) (by decide) (by decide) (by rfl)) (fun _ _ => rfl)) (Or.inl (by decide)) (by rfl) (by first | exact .inl rfl | exact .inr rfl))
      (q_s1 (q_ret (q_call C__law_low hr passE0 (q_cons (q_op op_mulB od_mul (q_v 2 (pv 2)) (q_op op_add od_add q_int (q_op op_mulB od_mul (q_v 3 (pv 3)) (q_call C__law_take hr passE0 (q_cons (q_v 0 (pv 0)) (q_cons q_int q_nil (by rfl)) (by rfl)) (by rfl) (by decide) (by decide) (by rfl))))) (q_cons (q_op op_mulB od_mul (q_v 3 (pv 3)) (q_op op_add od_add q_int (q_call C__law_take hr passE0 (q_cons (q_v 0 (pv 0)) (q_cons q_int q_nil (by rfl)) (by rfl)) (by rfl) (by decide) (by decide) (by rfl)))) q_nil (by rfl)) (by rfl)) (by rfl) (by decide) (by decide) (by rfl))))) q_s0)
      (q_sc (q_ifS (q_cmpT op_eq bd_eq (q_v 1 (pv 1)) q_int (nomark _)) (q_s1 (q_ret (q_tup (q_cons (q_op op_mulB od_mul (q_v 2 (pv 2)) (q_op op_add od_add (q_op op_mulB od_mul q_int (q_call C__law_take hr passE0 (q_cons (q_v 0 (pv 0)) (q_cons q_int q_nil (by rfl)) (by rfl)) (by rfl) (by decide) (by decide) (by rfl))) q_int)) (q_cons (q_op op_pow od_pow q_int q_int) q_nil (by rfl)) (by rfl))))) q_s0)
      (q_s1 (q_ret (q_tup (q_cons (q_op op_mulB od_mul (q_v 2 (pv 2)) (q_op op_add od_add (q_op op_pow od_pow q_int q_int) (q_call C__law_take hr passE0 (q_cons (q_v 0 (pv 0)) (q_cons (q_op op_pow od_pow q_int q_int) q_nil (by rfl)) (by rfl)) (by rfl) (by decide) (by decide) (by rfl)))) (q_cons q_int q_nil (by rfl)) (by rfl)))))))))⟩)
def w_law : WS := (wSeq (wFor (wIRng1 (wACons (wCB dMax2 (wACons (wC (.int 1)) (wACons (wCB dMin2 (wACons (wC (.int 20)) (wACons (wCB dLen (wACons (wVar 0) wANil)) wANil))) wANil))) wANil)) (wgName 1) (wSeq (wSet 2 (wLst (wACons (wCall false wf__law_cell_at (wACons (wVar 0) (wACons (wVar 1) wANil))) (wACons (wC (.int 0)) wANil))))
  (wSeq (wSet 3 (wCall true wf__law_number_text (wACons (wVar 2) (wACons (wC (.int 15)) (wACons (wC (.int 12)) wANil)))))
  (wSeq (wSet 4 (wCall true wf__law_bent (wACons (wVar 2) (wACons (wVar 3) wANil))))
  (wSeq (wSet 5 (wTup (wACons (wC (.str "refused")) (wACons (wC (.bl true)) wANil))))
  (wSeq (wIfS (wB (wCall false wf__law_is_number (wACons (wVar 4) (wACons (wC (.int 15)) (wACons (wC (.int 12)) wANil))))) (wSet 5 (wTup (wACons (wC (.str "told")) (wACons (wCall false wf__law_worth (wACons (wVar 4) wANil)) wANil)))) wNext)
  (wSeq (wIfS (wOr (wCmp (bEq not) (wCall false wf__law_heard (wACons (wVar 4) (wACons (wC (.bl false)) wANil))) (wVar 5)) (wCmp (bEq not) (wCall false wf__law_heard (wACons (wCall true wf__law_unwritten (wACons (wVar 2) wANil)) (wACons (wC (.bl true)) wANil))) (wTup (wACons (wC (.str "refused")) (wACons (wC (.bl true)) wANil))))) (wRet (wC (.bl false))) wNext)
  (wSeq (wSet 6 (wOp dRepS (wC (.str "12345")) (wOp dAdd (wC (.int 1000)) (wCall true wf__law_take (wACons (wVar 2) (wACons (wC (.int 9)) wANil))))))
  (wSeq (wSet 7 (wOp dIx (wLst (wACons (wC .non) (wACons (wC (.int 7)) (wACons (wC (.bl true)) (wACons (wTup (wACons (wC (.int 1)) (wACons (wC (.int 1)) wANil))) (wACons (wLst (wACons (wC (.str "1")) wANil)) (wACons (wVar 6) (wACons (wOp dAddS (wC (.str "-")) (wVar 6)) (wACons (wOp dAddS (wC (.str "0.")) (wVar 6)) (wACons (wOp dAddS (wVar 6) (wC (.str ".5"))) wANil)))))))))) (wCall true wf__law_take (wACons (wVar 2) (wACons (wC (.int 9)) wANil)))))
  (wIfS (wOr (wCmp (bEq not) (wCall false wf__law_heard (wACons (wVar 7) (wACons (wC (.bl false)) wANil))) (wTup (wACons (wC (.str "refused")) (wACons (wC (.bl true)) wANil)))) (wCmp (bEq not) (wCall false wf__law_heard (wACons (wVar 3) (wACons (wC (.bl false)) wANil))) (wTup (wACons (wC (.str "told")) (wACons (wCall false wf__law_worth (wACons (wVar 3) wANil)) wANil))))) (wRet (wC (.bl false))) wNext))))))))))
  (wRet (wC (.bl true))))
theorem d_law : ∀ ds row Ψ Ξ, wf_law ds row Ψ Ξ → goR (w_law (endsW false Ψ fun _ => False)) (startW false 8 ds row) := by
  rintro ds row Ψ Ξ ⟨ns, rfl, hl, q⟩
  unfold w_law
  walk_at "ev"
  refine sideR_by (by rw [List.length_map]; split <;> split <;> omega) fun _ => ?_
  generalize (if (if ((List.map D.int ns).length : Int) < 20 then ((List.map D.int ns).length : Int) else 20) > 1 then (if ((List.map D.int ns).length : Int) < 20 then ((List.map D.int ns).length : Int) else 20) else 1).toNat = mm
  have long : ∀ l : List Nat, 29 < l.length → numS (mkS l) = false := fun l h => by
    refine Bool.eq_false_iff.mpr fun z => ?_
    obtain ⟨n, hn, e⟩ := num_ex z
    have := nt_len hn
    rw [e, len_mk] at this
    omega
  refine forB_by (fun i Γ => ∃ e1 e2 e3 e4 e5 e6 e7 : Option En, Γ = [some (En.shr (D.scr (ns.map D.int))), e1, e2, e3, e4, e5, e6, e7]) ⟨_, _, _, _, _, _, _, rfl⟩ ?_ ?_
  · rintro i Γ d hd ⟨e1, e2, e3, e4, e5, e6, e7, rfl⟩
    obtain ⟨hi, rfl⟩ := rng_get hd
    walk_at "ev"
    refine ⟨ns, _, rfl, by omega, fun v => ?_⟩
    walk_at "ev"
    refine sideR_by (by decide) fun _ => ?_
    walk_at "ev"
    refine ⟨15, 12, 0, rfl, ⟨_, _, rfl, by omega, by omega⟩, by omega, by omega, by omega, by omega, by omega, by omega, fun n row1 hn ha hb R1 => ?_⟩
    walk_at "ev"
    refine ⟨txt n.1 n.2.1 n.2.2, _, rfl, len_txt hn, R1, by omega, by omega, fun m row2 hm R2 => ?_⟩
    walk_at "ev"
    refine sideR_by (by decide) fun _ => ?_
    walk_at "ev"
    refine ⟨m, rfl, by omega, ?_⟩
    walk_at "ev"
    have hr2 : Dep 2 (D.tup [D.str (Str.ofString "refused"), D.bl true]) := .tup fun d hd => by
      simp only [List.mem_cons, List.not_mem_nil, or_false] at hd
      rcases hd with rfl | rfl
      · exact .str (by decide +kernel)
      · exact .bl _
    have ht2 : ∀ n : NT, Dep 2 (D.tup [D.str (Str.ofString "told"), frN n]) := fun n => .tup fun d hd => by
      simp only [List.mem_cons, List.not_mem_nil, or_false] at hd
      rcases hd with rfl | rfl
      · exact .str (by decide +kernel)
      · exact fr_dep
    refine iteR_by (fun h => ?_) (fun h => ?_)
    rotate_left
    walk_at "ev"
    refine ⟨_, _, rfl, .inr (.inl ⟨.inl ⟨m, rfl, by omega, h⟩, rfl, ?_⟩)⟩
    walk_at "ev"
    refine sideR_by ⟨⟨2, by decide, hr2⟩, ⟨2, by decide, hr2⟩⟩ fun _ => ?_
    rw [deq_refl hr2]
    walk_at "ev"
    rotate_left
    obtain ⟨n2, hn2, en2⟩ := num_ex h
    rw [← en2]
    walk_at "ev"
    refine ⟨n2, rfl, hn2, ?_⟩
    walk_at "ev"
    refine sideR_by (by decide) fun _ => ?_
    walk_at "ev"
    refine ⟨_, _, rfl, .inl ⟨n2, rfl, rfl, hn2, ?_⟩⟩
    walk_at "ev"
    refine sideR_by ⟨⟨2, by decide, ht2 n2⟩, ⟨2, by decide, ht2 n2⟩⟩ fun _ => ?_
    rw [deq_refl (ht2 n2)]
    walk_at "ev"
    all_goals
      refine ⟨_, rfl, R2, by omega, by omega, fun p row3 hp R3 => ?_⟩
      walk_at "ev"
      refine ⟨_, _, rfl, .inr (.inr ⟨p, rfl, rfl, hp, ?_⟩)⟩
      walk_at "ev"
      refine sideR_by (by decide) fun _ => ?_
      walk_at "ev"
      refine sideR_by ⟨⟨2, by decide, hr2⟩, ⟨2, by decide, hr2⟩⟩ fun _ => ?_
      rw [deq_refl hr2]
      walk_at "ev"
      refine ⟨9, _, rfl, R3, by omega, by decide, by decide, fun v3 row4 v30 v31 R4 => ?_⟩
      walk_at "ev"
      have l5 : (Str.ofString "12345").length = 5 := rfl
      refine sideR_by ⟨by omega, by omega, by omega, by rw [l5]; omega⟩ fun _ => ?_
      have gl := repS_len (Str.ofString "12345") (1000 + v3)
      rw [l5] at gl
      generalize repS (Str.ofString "12345") (1000 + v3) = great at *
      have sz : ∀ n : Nat, n ≤ 10000 → n ≤ sizeLine := fun n h => Nat.le_trans h (by decide)
      have k1 : (Str.ofString "-").length = 1 := rfl
      have k2 : (Str.ofString "0.").length = 2 := rfl
      have k3 : (Str.ofString ".5").length = 2 := rfl
      have badS : ∀ x : Str, 29 < x.length → x.length ≤ 10000 → BadT (.str x) := fun x h1 h2 => by
        have e : x = mkS x.cps.toList := ext_mk rfl
        have el : x.cps.toList.length = x.length := by simp [Str.length]
        exact .inl ⟨x.cps.toList, by rw [← e], by omega, long _ (by omega)⟩
      walk_at "ev"
      refine sideR_by (by decide) fun _ => ?_
      walk_at "ev"
      refine sideR_by (by decide) fun _ => ?_
      walk_at "ev"
      refine sideR_by (sz _ (by omega)) fun _ => ?_
      walk_at "ev"
      refine sideR_by (sz _ (by omega)) fun _ => ?_
      walk_at "ev"
      refine sideR_by (sz _ (by omega)) fun _ => ?_
      walk_at "ev"
      refine sideR_by (by decide) fun _ => ?_
      walk_at "ev"
      refine ⟨9, _, rfl, R4, by omega, by decide, by decide, fun v4 row5 v40 v41 R5 => ?_⟩
      walk_at "ev"
      obtain ⟨th, hth, hat⟩ := at_some (f := fun d : D => d) (P := BadT) (v := v4) [.non, .int 7, .bl true, .tup [.int 1, .int 1], .lst [.str (Str.ofString "1")], .str great, .str (Str.ofString "-" ++ great), .str (Str.ofString "0." ++ great), .str (great ++ Str.ofString ".5")] v40 (by exact v41) (fun z hz => by
        simp only [List.mem_cons, List.not_mem_nil, or_false] at hz
        rcases hz with rfl | rfl | rfl | rfl | rfl | rfl | rfl | rfl | rfl
        · exact .inr (.inl rfl)
        · exact .inr (.inr (.inl ⟨_, rfl⟩))
        · exact .inr (.inr (.inr (.inl ⟨_, rfl⟩)))
        · exact .inr (.inr (.inr (.inr (.inl ⟨_, rfl⟩))))
        · exact .inr (.inr (.inr (.inr (.inr ⟨_, rfl⟩))))
        · exact badS _ (by omega) (by omega)
        · exact badS _ (by rw [len_app]; omega) (by rw [len_app]; omega)
        · exact badS _ (by rw [len_app]; omega) (by rw [len_app]; omega)
        · exact badS _ (by rw [len_app]; omega) (by rw [len_app]; omega))
      rw [List.map_id'] at hat
      refine ⟨_, hat, ?_⟩
      walk_at "ev"
      refine ⟨_, _, rfl, .inr (.inl ⟨hth, rfl, ?_⟩)⟩
      walk_at "ev"
      refine sideR_by (by decide) fun _ => ?_
      walk_at "ev"
      refine sideR_by ⟨⟨2, by decide, hr2⟩, ⟨2, by decide, hr2⟩⟩ fun _ => ?_
      rw [deq_refl hr2]
      walk_at "ev"
      refine ⟨_, _, rfl, .inl ⟨n, rfl, rfl, hn, ?_⟩⟩
      walk_at "ev"
      refine ⟨n, rfl, hn, ?_⟩
      walk_at "ev"
      refine sideR_by (by decide) fun _ => ?_
      walk_at "ev"
      refine sideR_by ⟨⟨2, by decide, ht2 n⟩, ⟨2, by decide, ht2 n⟩⟩ fun _ => ?_
      rw [deq_refl (ht2 n)]
      walk_at "ev"
      exact ⟨_, _, _, _, _, _, _, rfl⟩
  · rintro Γ ⟨e1, e2, e3, e4, e5, e6, e7, rfl⟩
    walk_at "ev"
    exact q
abbrev s_law : Stmt := top 39
theorem sc_law : FnScope ["_law_script", "_law_k", "_law_row", "_law_text", "_law_bent_here", "_law_due", "_law_great", "_law_thing"] ["_law_script"] (defScope s_law) := ⟨rfl, rfl, rfl, by decide +kernel, rfl, by decide +kernel, by decide +kernel⟩
theorem ok_law {P : Program} {w : World} {K : PySem.W.Frag} {mg : Str → Option Value} {base : Heap} {f : Addr} {fd : FuncData} (F : Fun K "law" "law" s_law f fd) (C__law_cell_at : Cal P w K mg base (CXE P w) 1 "_law_cell_at" ["_law_script", "_law_k"] (spD ⟨K, TSK K, LSK K⟩ false wf__law_cell_at)) (C__law_number_text : Cal P w K mg base (CXE P w) 3 "_law_number_text" ["_law_row", "_law_ahead", "_law_behind"] (spD ⟨K, TSK K, LSK K⟩ true wf__law_number_text)) (C__law_bent : Cal P w K mg base (CXE P w) 3 "_law_bent" ["_law_row", "_law_text"] (spD ⟨K, TSK K, LSK K⟩ true wf__law_bent)) (C__law_is_number : Cal P w K mg base (CXE P w) 1 "_law_is_number" ["_law_text", "_law_ahead", "_law_behind"] (spD ⟨K, TSK K, LSK K⟩ false wf__law_is_number)) (C__law_worth : Cal P w K mg base (CXE P w) 2 "_law_worth" ["_law_text"] (spD ⟨K, TSK K, LSK K⟩ false wf__law_worth)) (C__law_heard : Cal P w K mg base (CXE P w) 6 "_law_heard" ["_law_thing", "_law_is_shown"] (spD ⟨K, TSK K, LSK K⟩ false wf__law_heard)) (C__law_unwritten : Cal P w K mg base (CXE P w) 2 "_law_unwritten" ["_law_row"] (spD ⟨K, TSK K, LSK K⟩ true wf__law_unwritten)) (C__law_take : Cal P w K mg base (CXE P w) 1 "_law_take" ["_law_row", "_law_base"] (spD ⟨K, TSK K, LSK K⟩ true wf__law_take)) (z_range : mg "range" = none) (z_max : mg "max" = none) (z_min : mg "min" = none) (z_len : mg "len" = none) : FnOk P w K mg base (CXE P w) 7 f fd ["_law_script"] (spD ⟨K, TSK K, LSK K⟩ false wf_law) := by
  have nd := (sc_law).nd
  refine fn_d F sc_law (by decide) (fun ds row Ψ Ξ h => by first | (obtain ⟨rfl, _⟩ := h; rfl) | (obtain ⟨_, rfl, _⟩ := h; rfl) | (obtain ⟨_, _, rfl, _⟩ := h; rfl) | (obtain ⟨_, _, _, rfl, _⟩ := h; rfl) | (obtain ⟨_, _, _, _, rfl, _⟩ := h; rfl) | (obtain ⟨_, _, _, _, _, rfl, _⟩ := h; rfl) | (obtain ⟨_, _, _, _, _, _, rfl, _⟩ := h; rfl) | (obtain ⟨_, _, _, _, _, _, _, rfl, _⟩ := h; rfl) | (obtain ⟨_, _, _, _, _, _, _, _, rfl, _⟩ := h; rfl) | (obtain ⟨_, _, _, _, _, _, _, _, _, rfl, _⟩ := h; rfl) | (obtain ⟨_, _, _, _, _, _, _, _, _, _, rfl, _⟩ := h; rfl) | (obtain ⟨_, _, _, _, _, _, _, _, _, _, _, rfl, _⟩ := h; rfl) | (obtain ⟨_, _, _, _, _, _, _, _, _, _, _, _, rfl, _⟩ := h; rfl) | (obtain ⟨_, _, _, _, _, _, _, _, _, _, _, _, _, rfl, _⟩ := h; rfl)) d_law (fun cdv A outer s H E hr => ⟨_, (q_sc (q_for PassesOwn.never (by rfl) (q_ir1 (by rfl) z_range (q_cons (q_cB (call_max2 rfl) cd_max2 (by rfl) z_max (by decide +kernel) (q_cons q_int (q_cons (q_cB (call_min2 rfl) cd_min2 (by rfl) z_min (by decide +kernel) (q_cons q_int (q_cons (q_cB (call_lenK (by rfl)) cd_len (by rfl) z_len (by decide +kernel) (q_cons (q_v 0 (pv 0)) q_nil (by rfl)) (by decide) (by decide) (by rfl)) q_nil (by rfl)) (by rfl)) (by decide) (by decide) (by rfl)) q_nil (by rfl)) (by rfl)) (by decide) (by decide) (by rfl)) q_nil (by rfl)) (by rfl)) (q_gn (i := 1) (pg_name nd rfl (Or.inl rfl)) (Or.inl (by decide))) (q_sc (q_set (i := 2) nd rfl (Or.inl rfl) (q_lst (q_cons (q_call C__law_cell_at hr passE0 (q_cons (q_v 0 (pv 0)) (q_cons (q_v 1 (pv 1)) q_nil (by rfl)) (by rfl)) (by rfl) (by decide) (by decide) (by rfl)) (q_cons q_int q_nil (by rfl)) (by rfl))) (Or.inl (by decide)) (by rfl) (by first | exact .inl rfl | exact .inr rfl))
      (q_sc (q_set (i := 3) nd rfl (Or.inl rfl) (q_call C__law_number_text hr passE0 (q_cons (q_v 2 (pv 2)) (q_cons q_int (q_cons q_int q_nil (by rfl)) (by rfl)) (by rfl)) (by rfl) (by decide) (by decide) (by rfl)) (Or.inl (by decide)) (by rfl) (by first | exact .inl rfl | exact .inr rfl))
      (q_sc (q_set (i := 4) nd rfl (Or.inl rfl) (q_call C__law_bent hr passE0 (q_cons (q_v 2 (pv 2)) (q_cons (q_v 3 (pv 3)) q_nil (by rfl)) (by rfl)) (by rfl) (by decide) (by decide) (by rfl)) (Or.inl (by decide)) (by rfl) (by first | exact .inl rfl | exact .inr rfl))
      (q_sc (q_set (i := 5) nd rfl (Or.inl rfl) (q_tup (q_cons q_str (q_cons q_bl q_nil (by rfl)) (by rfl))) (Or.inl (by decide)) (by rfl) (by first | exact .inl rfl | exact .inr rfl))
      (q_sc (q_ifS (q_tv (q_call C__law_is_number hr passE0 (q_cons (q_v 4 (pv 4)) (q_cons q_int (q_cons q_int q_nil (by rfl)) (by rfl)) (by rfl)) (by rfl) (by decide) (by decide) (by rfl)) (by rfl)) (q_s1 (q_set (i := 5) nd rfl (Or.inl rfl) (q_tup (q_cons q_str (q_cons (q_call C__law_worth hr passE0 (q_cons (q_v 4 (pv 4)) q_nil (by rfl)) (by rfl) (by decide) (by decide) (by rfl)) q_nil (by rfl)) (by rfl))) (Or.inl (by decide)) (by rfl) (by first | exact .inl rfl | exact .inr rfl))) q_s0)
      (q_sc (q_ifS (QW.tst (q_or (q_cmpT (op_neDK (by rfl) hr.units) bd_neD (q_call C__law_heard hr passE0 (q_cons (q_v 4 (pv 4)) (q_cons q_bl q_nil (by rfl)) (by rfl)) (by rfl) (by decide) (by decide) (by rfl)) (q_v 5 (pv 5)) (nomark _)) (q_or1 (q_cmpT (op_neDK (by rfl) hr.units) bd_neD (q_call C__law_heard hr passE0 (q_cons (q_call C__law_unwritten hr passE0 (q_cons (q_v 2 (pv 2)) q_nil (by rfl)) (by rfl) (by decide) (by decide) (by rfl)) (q_cons q_bl q_nil (by rfl)) (by rfl)) (by rfl) (by decide) (by decide) (by rfl)) (q_tup (q_cons q_str (q_cons q_bl q_nil (by rfl)) (by rfl))) (nomark _))))) (q_s1 (q_ret q_bl)) q_s0)
      (q_sc (q_set (i := 6) nd rfl (Or.inl rfl) (q_op op_repS od_repS q_str (q_op op_add od_add q_int (q_call C__law_take hr passE0 (q_cons (q_v 2 (pv 2)) (q_cons q_int q_nil (by rfl)) (by rfl)) (by rfl) (by decide) (by decide) (by rfl)))) (Or.inl (by decide)) (by rfl) (by first | exact .inl rfl | exact .inr rfl))
      (q_sc (q_set (i := 7) nd rfl (Or.inl rfl) (q_ix (ix_seqK (by rfl)) od_ix (q_lst (q_cons q_non (q_cons q_int (q_cons q_bl (q_cons (q_tup (q_cons q_int (q_cons q_int q_nil (by rfl)) (by rfl))) (q_cons (q_lst (q_cons q_str q_nil (by rfl))) (q_cons (q_v 6 (pv 6)) (q_cons (q_op op_add_str od_addS q_str (q_v 6 (pv 6))) (q_cons (q_op op_add_str od_addS q_str (q_v 6 (pv 6))) (q_cons (q_op op_add_str od_addS (q_v 6 (pv 6)) q_str) q_nil (by rfl)) (by rfl)) (by rfl)) (by rfl)) (by rfl)) (by rfl)) (by rfl)) (by rfl)) (by rfl))) (q_call C__law_take hr passE0 (q_cons (q_v 2 (pv 2)) (q_cons q_int q_nil (by rfl)) (by rfl)) (by rfl) (by decide) (by decide) (by rfl)) (fun _ _ => rfl)) (Or.inl (by decide)) (by rfl) (by first | exact .inl rfl | exact .inr rfl))
      (q_s1 (q_ifS (QW.tst (q_or (q_cmpT (op_neDK (by rfl) hr.units) bd_neD (q_call C__law_heard hr passE0 (q_cons (q_v 7 (pv 7)) (q_cons q_bl q_nil (by rfl)) (by rfl)) (by rfl) (by decide) (by decide) (by rfl)) (q_tup (q_cons q_str (q_cons q_bl q_nil (by rfl)) (by rfl))) (nomark _)) (q_or1 (q_cmpT (op_neDK (by rfl) hr.units) bd_neD (q_call C__law_heard hr passE0 (q_cons (q_v 3 (pv 3)) (q_cons q_bl q_nil (by rfl)) (by rfl)) (by rfl) (by decide) (by decide) (by rfl)) (q_tup (q_cons q_str (q_cons (q_call C__law_worth hr passE0 (q_cons (q_v 3 (pv 3)) q_nil (by rfl)) (by rfl) (by decide) (by decide) (by rfl)) q_nil (by rfl)) (by rfl))) (nomark _))))) (q_s1 (q_ret q_bl)) q_s0)))))))))) (fun _ => rfl))
      (q_s1 (q_ret q_bl)))⟩)
theorem all_mk {l : PySem.W.OpenLaw} {w : World} {K : PySem.W.Frag} {h : Heap} {mg : Str → Option Value} {fa : Addr} (X : K.In h) (G : h.Ns mainGlobals mg) (hfa : mg "law" = some (.ref fa))
    {f0 : Addr} {od0 an0 : Option Addr} {sl0 : Array (Option Value)} {oc0 kV0 dc0 pm0 cd0 ct0 : Value} {f1 : Addr} {od1 an1 : Option Addr} {sl1 : Array (Option Value)} {oc1 kV1 dc1 pm1 cd1 ct1 : Value} {f2 : Addr} {od2 an2 : Option Addr} {sl2 : Array (Option Value)} {oc2 kV2 dc2 pm2 cd2 ct2 : Value} {f3 : Addr} {od3 an3 : Option Addr} {sl3 : Array (Option Value)} {oc3 kV3 dc3 pm3 ct3 : Value} {gca0 : Addr} {f4 : Addr} {od4 an4 : Option Addr} {sl4 : Array (Option Value)} {oc4 kV4 dc4 pm4 cd4 ct4 : Value} {f5 : Addr} {od5 an5 : Option Addr} {sl5 : Array (Option Value)} {oc5 kV5 dc5 pm5 cd5 ct5 : Value} {f6 : Addr} {od6 an6 : Option Addr} {sl6 : Array (Option Value)} {oc6 kV6 dc6 pm6 cd6 ct6 : Value} {f7 : Addr} {od7 an7 : Option Addr} {sl7 : Array (Option Value)} {oc7 kV7 dc7 pm7 cd7 ct7 : Value} {f8 : Addr} {od8 an8 : Option Addr} {sl8 : Array (Option Value)} {oc8 kV8 dc8 pm8 cd8 ct8 : Value} {f9 : Addr} {od9 an9 : Option Addr} {sl9 : Array (Option Value)} {oc9 kV9 dc9 pm9 cd9 ct9 : Value} {f10 : Addr} {od10 an10 : Option Addr} {sl10 : Array (Option Value)} {oc10 kV10 dc10 pm10 cd10 ct10 : Value} {f11 : Addr} {od11 an11 : Option Addr} {sl11 : Array (Option Value)} {oc11 kV11 dc11 pm11 cd11 ct11 : Value} {f12 : Addr} {od12 an12 : Option Addr} {sl12 : Array (Option Value)} {oc12 kV12 dc12 pm12 cd12 ct12 : Value} {f13 : Addr} {od13 an13 : Option Addr} {sl13 : Array (Option Value)} {oc13 kV13 dc13 pm13 cd13 ct13 : Value} {f14 : Addr} {od14 an14 : Option Addr} {sl14 : Array (Option Value)} {oc14 kV14 dc14 pm14 cd14 ct14 : Value} {f15 : Addr} {od15 an15 : Option Addr} {sl15 : Array (Option Value)} {oc15 kV15 dc15 pm15 cd15 ct15 : Value} {f16 : Addr} {od16 an16 : Option Addr} {sl16 : Array (Option Value)} {oc16 kV16 dc16 pm16 cd16 ct16 : Value} {f17 : Addr} {od17 an17 : Option Addr} {sl17 : Array (Option Value)} {oc17 kV17 dc17 pm17 cd17 ct17 : Value} {f18 : Addr} {od18 an18 : Option Addr} {sl18 : Array (Option Value)} {oc18 kV18 dc18 pm18 cd18 ct18 : Value} {f19 : Addr} {od19 an19 : Option Addr} {sl19 : Array (Option Value)} {oc19 kV19 dc19 pm19 cd19 ct19 : Value} {t_FIGURES : Tok} {t_MOST_AHEAD : Tok} {t_MOST_BEHIND : Tok} {t_UNIT : Tok} {t_TOO_GREAT : Tok} {a_NoNumber : Addr} {a_ChartError : Addr} {a_Below : Addr} {a_NoChange : Addr} {a_NoFraction : Addr} {a_NoName : Addr} {a_NoRow : Addr} {a_NoSheet : Addr} {a_NoSize : Addr} {a_NoTable : Addr} {a_NoText : Addr}
    (nX_NoNumber : PySem.W.nsIn K mainGlobals "NoNumber" = some (some (.ref a_NoNumber)))
    (nX_ChartError : PySem.W.nsIn K mainGlobals "ChartError" = some (some (.ref a_ChartError)))
    (nX_Below : PySem.W.nsIn K mainGlobals "Below" = some (some (.ref a_Below)))
    (nX_NoChange : PySem.W.nsIn K mainGlobals "NoChange" = some (some (.ref a_NoChange)))
    (nX_NoFraction : PySem.W.nsIn K mainGlobals "NoFraction" = some (some (.ref a_NoFraction)))
    (nX_NoName : PySem.W.nsIn K mainGlobals "NoName" = some (some (.ref a_NoName)))
    (nX_NoRow : PySem.W.nsIn K mainGlobals "NoRow" = some (some (.ref a_NoRow)))
    (nX_NoSheet : PySem.W.nsIn K mainGlobals "NoSheet" = some (some (.ref a_NoSheet)))
    (nX_NoSize : PySem.W.nsIn K mainGlobals "NoSize" = some (some (.ref a_NoSize)))
    (nX_NoTable : PySem.W.nsIn K mainGlobals "NoTable" = some (some (.ref a_NoTable)))
    (nX_NoText : PySem.W.nsIn K mainGlobals "NoText" = some (some (.ref a_NoText)))
    (eX_NoNumber : PySem.W.excIn K a_NoNumber [.type "ValueError", .type "Exception", .type "BaseException", .type "object"] "ValueError.__new__" = true)
    (xq1_NoNumber : PySem.W.mroIn K a_NoNumber (.type "object") = some true)
    (xq2_NoNumber : PySem.W.mroIn K a_NoNumber (.type "BaseException") = some true)
    (xq3_NoNumber : PySem.W.findIn K (.ref a_NoNumber) "__class__" = some (some (.builtin "object.__class__")))
    (xq4_NoNumber : PySem.W.findIn K (.ref a_NoNumber) "__getattribute__" = some (some (.builtin "BaseException.__getattribute__")))
    (xq5_NoNumber : PySem.W.findIn K (.ref a_NoNumber) "__getattr__" = some none)
    (kx_NoNumber_NoNumber : PySem.W.kitOne K (.ref a_NoNumber) (.ref a_NoNumber) = some true)
    (kt_NoNumber_ValueError : PySem.W.kitOne K (.ref a_NoNumber) (.type "ValueError") = some true)
    (ka__law_heard_NoNumber_0 : PySem.W.kitAny K (.ref a_NoNumber) [.ref a_Below, .ref a_NoChange, .ref a_NoFraction, .ref a_NoName, .ref a_NoRow, .ref a_NoSheet, .ref a_NoSize, .ref a_NoTable, .ref a_NoText] = some false)
    (xm_ChartError_NoNumber : PySem.W.exmOne K (.ref a_NoNumber) (.ref a_ChartError) = some true)
    (a0 : PySem.W.nsIn K mainGlobals "is_whole" = some (some (.ref f0))) (l0 : K.lookup f0 = some ⟨oc0, od0, .func (PySem.W.fnOf "is_whole" "is_whole" (defArgs s_is_whole) (defBody s_is_whole) (defScope s_is_whole) .none kV0 dc0 pm0 an0 cd0 ct0), sl0⟩) (c0 : PySem.W.codeIn K cd0 "is_whole" = true) (k0 : PySem.W.keepIn K (.ref f0) = true)
    (a1 : PySem.W.nsIn K mainGlobals "common_divisor" = some (some (.ref f1))) (l1 : K.lookup f1 = some ⟨oc1, od1, .func (PySem.W.fnOf "common_divisor" "common_divisor" (defArgs s_common_divisor) (defBody s_common_divisor) (defScope s_common_divisor) .none kV1 dc1 pm1 an1 cd1 ct1), sl1⟩) (c1 : PySem.W.codeIn K cd1 "common_divisor" = true) (k1 : PySem.W.keepIn K (.ref f1) = true)
    (a2 : PySem.W.nsIn K mainGlobals "fraction" = some (some (.ref f2))) (l2 : K.lookup f2 = some ⟨oc2, od2, .func (PySem.W.fnOf "fraction" "fraction" (defArgs s_fraction) (defBody s_fraction) (defScope s_fraction) .none kV2 dc2 pm2 an2 cd2 ct2), sl2⟩) (c2 : PySem.W.codeIn K cd2 "fraction" = true) (k2 : PySem.W.keepIn K (.ref f2) = true)
    (a3 : PySem.W.nsIn K mainGlobals "are_figures" = some (some (.ref f3))) (l3 : K.lookup f3 = some ⟨oc3, od3, .func (PySem.W.fnOf "are_figures" "are_figures" (defArgs s_are_figures) (defBody s_are_figures) (defScope s_are_figures) .none kV3 dc3 pm3 an3 (.ref gca0) ct3), sl3⟩) (c3 : PySem.W.codeIn K (.ref gca0) "are_figures" = true) (k3 : PySem.W.keepIn K (.ref f3) = true)
    (a4 : PySem.W.nsIn K mainGlobals "is_ahead" = some (some (.ref f4))) (l4 : K.lookup f4 = some ⟨oc4, od4, .func (PySem.W.fnOf "is_ahead" "is_ahead" (defArgs s_is_ahead) (defBody s_is_ahead) (defScope s_is_ahead) .none kV4 dc4 pm4 an4 cd4 ct4), sl4⟩) (c4 : PySem.W.codeIn K cd4 "is_ahead" = true) (k4 : PySem.W.keepIn K (.ref f4) = true)
    (a5 : PySem.W.nsIn K mainGlobals "is_behind" = some (some (.ref f5))) (l5 : K.lookup f5 = some ⟨oc5, od5, .func (PySem.W.fnOf "is_behind" "is_behind" (defArgs s_is_behind) (defBody s_is_behind) (defScope s_is_behind) .none kV5 dc5 pm5 an5 cd5 ct5), sl5⟩) (c5 : PySem.W.codeIn K cd5 "is_behind" = true) (k5 : PySem.W.keepIn K (.ref f5) = true)
    (a6 : PySem.W.nsIn K mainGlobals "is_number" = some (some (.ref f6))) (l6 : K.lookup f6 = some ⟨oc6, od6, .func (PySem.W.fnOf "is_number" "is_number" (defArgs s_is_number) (defBody s_is_number) (defScope s_is_number) .none kV6 dc6 pm6 an6 cd6 ct6), sl6⟩) (c6 : PySem.W.codeIn K cd6 "is_number" = true) (k6 : PySem.W.keepIn K (.ref f6) = true)
    (a7 : PySem.W.nsIn K mainGlobals "read_number" = some (some (.ref f7))) (l7 : K.lookup f7 = some ⟨oc7, od7, .func (PySem.W.fnOf "read_number" "read_number" (defArgs s_read_number) (defBody s_read_number) (defScope s_read_number) .none kV7 dc7 pm7 an7 cd7 ct7), sl7⟩) (c7 : PySem.W.codeIn K cd7 "read_number" = true) (k7 : PySem.W.keepIn K (.ref f7) = true)
    (a8 : PySem.W.nsIn K mainGlobals "show_number" = some (some (.ref f8))) (l8 : K.lookup f8 = some ⟨oc8, od8, .func (PySem.W.fnOf "show_number" "show_number" (defArgs s_show_number) (defBody s_show_number) (defScope s_show_number) .none kV8 dc8 pm8 an8 cd8 ct8), sl8⟩) (c8 : PySem.W.codeIn K cd8 "show_number" = true) (k8 : PySem.W.keepIn K (.ref f8) = true)
    (a9 : PySem.W.nsIn K mainGlobals "_law_cell_at" = some (some (.ref f9))) (l9 : K.lookup f9 = some ⟨oc9, od9, .func (PySem.W.fnOf "_law_cell_at" "_law_cell_at" (defArgs s__law_cell_at) (defBody s__law_cell_at) (defScope s__law_cell_at) .none kV9 dc9 pm9 an9 cd9 ct9), sl9⟩) (c9 : PySem.W.codeIn K cd9 "_law_cell_at" = true) (k9 : PySem.W.keepIn K (.ref f9) = true)
    (a10 : PySem.W.nsIn K mainGlobals "_law_take" = some (some (.ref f10))) (l10 : K.lookup f10 = some ⟨oc10, od10, .func (PySem.W.fnOf "_law_take" "_law_take" (defArgs s__law_take) (defBody s__law_take) (defScope s__law_take) .none kV10 dc10 pm10 an10 cd10 ct10), sl10⟩) (c10 : PySem.W.codeIn K cd10 "_law_take" = true) (k10 : PySem.W.keepIn K (.ref f10) = true)
    (a11 : PySem.W.nsIn K mainGlobals "_law_low" = some (some (.ref f11))) (l11 : K.lookup f11 = some ⟨oc11, od11, .func (PySem.W.fnOf "_law_low" "_law_low" (defArgs s__law_low) (defBody s__law_low) (defScope s__law_low) .none kV11 dc11 pm11 an11 cd11 ct11), sl11⟩) (c11 : PySem.W.codeIn K cd11 "_law_low" = true) (k11 : PySem.W.keepIn K (.ref f11) = true)
    (a12 : PySem.W.nsIn K mainGlobals "_law_figures" = some (some (.ref f12))) (l12 : K.lookup f12 = some ⟨oc12, od12, .func (PySem.W.fnOf "_law_figures" "_law_figures" (defArgs s__law_figures) (defBody s__law_figures) (defScope s__law_figures) .none kV12 dc12 pm12 an12 cd12 ct12), sl12⟩) (c12 : PySem.W.codeIn K cd12 "_law_figures" = true) (k12 : PySem.W.keepIn K (.ref f12) = true)
    (a13 : PySem.W.nsIn K mainGlobals "_law_number_text" = some (some (.ref f13))) (l13 : K.lookup f13 = some ⟨oc13, od13, .func (PySem.W.fnOf "_law_number_text" "_law_number_text" (defArgs s__law_number_text) (defBody s__law_number_text) (defScope s__law_number_text) .none kV13 dc13 pm13 an13 cd13 ct13), sl13⟩) (c13 : PySem.W.codeIn K cd13 "_law_number_text" = true) (k13 : PySem.W.keepIn K (.ref f13) = true)
    (a14 : PySem.W.nsIn K mainGlobals "_law_worth" = some (some (.ref f14))) (l14 : K.lookup f14 = some ⟨oc14, od14, .func (PySem.W.fnOf "_law_worth" "_law_worth" (defArgs s__law_worth) (defBody s__law_worth) (defScope s__law_worth) .none kV14 dc14 pm14 an14 cd14 ct14), sl14⟩) (c14 : PySem.W.codeIn K cd14 "_law_worth" = true) (k14 : PySem.W.keepIn K (.ref f14) = true)
    (a15 : PySem.W.nsIn K mainGlobals "_law_is_number" = some (some (.ref f15))) (l15 : K.lookup f15 = some ⟨oc15, od15, .func (PySem.W.fnOf "_law_is_number" "_law_is_number" (defArgs s__law_is_number) (defBody s__law_is_number) (defScope s__law_is_number) .none kV15 dc15 pm15 an15 cd15 ct15), sl15⟩) (c15 : PySem.W.codeIn K cd15 "_law_is_number" = true) (k15 : PySem.W.keepIn K (.ref f15) = true)
    (a16 : PySem.W.nsIn K mainGlobals "_law_bent" = some (some (.ref f16))) (l16 : K.lookup f16 = some ⟨oc16, od16, .func (PySem.W.fnOf "_law_bent" "_law_bent" (defArgs s__law_bent) (defBody s__law_bent) (defScope s__law_bent) .none kV16 dc16 pm16 an16 cd16 ct16), sl16⟩) (c16 : PySem.W.codeIn K cd16 "_law_bent" = true) (k16 : PySem.W.keepIn K (.ref f16) = true)
    (a17 : PySem.W.nsIn K mainGlobals "_law_heard" = some (some (.ref f17))) (l17 : K.lookup f17 = some ⟨oc17, od17, .func (PySem.W.fnOf "_law_heard" "_law_heard" (defArgs s__law_heard) (defBody s__law_heard) (defScope s__law_heard) .none kV17 dc17 pm17 an17 cd17 ct17), sl17⟩) (c17 : PySem.W.codeIn K cd17 "_law_heard" = true) (k17 : PySem.W.keepIn K (.ref f17) = true)
    (a18 : PySem.W.nsIn K mainGlobals "_law_unwritten" = some (some (.ref f18))) (l18 : K.lookup f18 = some ⟨oc18, od18, .func (PySem.W.fnOf "_law_unwritten" "_law_unwritten" (defArgs s__law_unwritten) (defBody s__law_unwritten) (defScope s__law_unwritten) .none kV18 dc18 pm18 an18 cd18 ct18), sl18⟩) (c18 : PySem.W.codeIn K cd18 "_law_unwritten" = true) (k18 : PySem.W.keepIn K (.ref f18) = true)
    (a19 : PySem.W.nsIn K mainGlobals "law" = some (some (.ref f19))) (l19 : K.lookup f19 = some ⟨oc19, od19, .func (PySem.W.fnOf "law" "law" (defArgs s_law) (defBody s_law) (defScope s_law) .none kV19 dc19 pm19 an19 cd19 ct19), sl19⟩) (c19 : PySem.W.codeIn K cd19 "law" = true) (k19 : PySem.W.keepIn K (.ref f19) = true)
    (hgt0 : PySem.W.tabIn K "are_figures" = some (gca0, tabG0 K)) (hGK0 : PySem.W.codeHdIn K gca0 (tabG0 K) = true) (hls0 : ∀ p ∈ LSK K, p.1 ≠ tabG0 K)
    (z_isinstance : PySem.W.nsIn K mainGlobals "isinstance" = some none)
    (z_int : PySem.W.nsIn K mainGlobals "int" = some none)
    (z_bool : PySem.W.nsIn K mainGlobals "bool" = some none)
    (z_abs : PySem.W.nsIn K mainGlobals "abs" = some none)
    (z_len : PySem.W.nsIn K mainGlobals "len" = some none)
    (z_all : PySem.W.nsIn K mainGlobals "all" = some none)
    (z_str : PySem.W.nsIn K mainGlobals "str" = some none)
    (z_divmod : PySem.W.nsIn K mainGlobals "divmod" = some none)
    (z_range : PySem.W.nsIn K mainGlobals "range" = some none)
    (z_ValueError : PySem.W.nsIn K mainGlobals "ValueError" = some none)
    (z_max : PySem.W.nsIn K mainGlobals "max" = some none)
    (z_min : PySem.W.nsIn K mainGlobals "min" = some none)
    (m_FIGURES : PySem.W.nsIn K mainGlobals "FIGURES" = some (some (.str (Str.ofString "0123456789") t_FIGURES)))
    (m_MOST_AHEAD : PySem.W.nsIn K mainGlobals "MOST_AHEAD" = some (some (.int 15 t_MOST_AHEAD)))
    (m_MOST_BEHIND : PySem.W.nsIn K mainGlobals "MOST_BEHIND" = some (some (.int 12 t_MOST_BEHIND)))
    (m_UNIT : PySem.W.nsIn K mainGlobals "UNIT" = some (some (.int 1000000000000 t_UNIT)))
    (m_TOO_GREAT : PySem.W.nsIn K mainGlobals "TOO_GREAT" = some (some (.int 1000000000000000000000000000 t_TOO_GREAT)))
    : ∃ fd : FuncData, (∀ (s : Shared) (v : Value), BindsTo s fd ⟨[v], []⟩ [("_law_script", v)]) ∧ ∀ base : Heap, K.In base → base.Ns mainGlobals mg → Kx.BltB mg base → FnOk l.prog w K mg base (CXE l.prog w) 7 fa fd ["_law_script"] (spD ⟨K, TSK K, LSK K⟩ false wf_law) := by
  have e := hfa.symm.trans (PySem.W.mg_of X G a19)
  cases e
  have F0 := fun_mk (st := s_is_whole) l0 c0 k0
  have F1 := fun_mk (st := s_common_divisor) l1 c1 k1
  have F2 := fun_mk (st := s_fraction) l2 c2 k2
  have F3 := fun_mk (st := s_are_figures) l3 c3 k3
  have F4 := fun_mk (st := s_is_ahead) l4 c4 k4
  have F5 := fun_mk (st := s_is_behind) l5 c5 k5
  have F6 := fun_mk (st := s_is_number) l6 c6 k6
  have F7 := fun_mk (st := s_read_number) l7 c7 k7
  have F8 := fun_mk (st := s_show_number) l8 c8 k8
  have F9 := fun_mk (st := s__law_cell_at) l9 c9 k9
  have F10 := fun_mk (st := s__law_take) l10 c10 k10
  have F11 := fun_mk (st := s__law_low) l11 c11 k11
  have F12 := fun_mk (st := s__law_figures) l12 c12 k12
  have F13 := fun_mk (st := s__law_number_text) l13 c13 k13
  have F14 := fun_mk (st := s__law_worth) l14 c14 k14
  have F15 := fun_mk (st := s__law_is_number) l15 c15 k15
  have F16 := fun_mk (st := s__law_bent) l16 c16 k16
  have F17 := fun_mk (st := s__law_heard) l17 c17 k17
  have F18 := fun_mk (st := s__law_unwritten) l18 c18 k18
  have F19 := fun_mk (st := s_law) l19 c19 k19
  obtain rfl : a_NoNumber = CA K "NoNumber" := (CA_of nX_NoNumber).symm
  have mX_NoNumber := PySem.W.mg_of X G nX_NoNumber
  obtain rfl : a_ChartError = CA K "ChartError" := (CA_of nX_ChartError).symm
  have mX_ChartError := PySem.W.mg_of X G nX_ChartError
  obtain rfl : a_Below = CA K "Below" := (CA_of nX_Below).symm
  have mX_Below := PySem.W.mg_of X G nX_Below
  obtain rfl : a_NoChange = CA K "NoChange" := (CA_of nX_NoChange).symm
  have mX_NoChange := PySem.W.mg_of X G nX_NoChange
  obtain rfl : a_NoFraction = CA K "NoFraction" := (CA_of nX_NoFraction).symm
  have mX_NoFraction := PySem.W.mg_of X G nX_NoFraction
  obtain rfl : a_NoName = CA K "NoName" := (CA_of nX_NoName).symm
  have mX_NoName := PySem.W.mg_of X G nX_NoName
  obtain rfl : a_NoRow = CA K "NoRow" := (CA_of nX_NoRow).symm
  have mX_NoRow := PySem.W.mg_of X G nX_NoRow
  obtain rfl : a_NoSheet = CA K "NoSheet" := (CA_of nX_NoSheet).symm
  have mX_NoSheet := PySem.W.mg_of X G nX_NoSheet
  obtain rfl : a_NoSize = CA K "NoSize" := (CA_of nX_NoSize).symm
  have mX_NoSize := PySem.W.mg_of X G nX_NoSize
  obtain rfl : a_NoTable = CA K "NoTable" := (CA_of nX_NoTable).symm
  have mX_NoTable := PySem.W.mg_of X G nX_NoTable
  obtain rfl : a_NoText = CA K "NoText" := (CA_of nX_NoText).symm
  have mX_NoText := PySem.W.mg_of X G nX_NoText
  have T_NoNumber : ExcK K "NoNumber" (CA K "NoNumber") "ValueError.__new__" [.type "ValueError", .type "Exception", .type "BaseException", .type "object"] := ⟨nX_NoNumber, eX_NoNumber⟩
  have A_NoNumber : ExcA K (CA K "NoNumber") := ⟨exc_cls eX_NoNumber, xq1_NoNumber, xq2_NoNumber, xq3_NoNumber, xq4_NoNumber, xq5_NoNumber⟩
  have b0 := F0.binds (ps := ["thing"]) fun _ _ _ _ _ _ us hl => match us, hl with | [_], _ => rfl
  have b1 := F1.binds (ps := ["one", "other"]) fun _ _ _ _ _ _ us hl => match us, hl with | [_, _], _ => rfl
  have b2 := F2.binds (ps := ["top", "bottom"]) fun _ _ _ _ _ _ us hl => match us, hl with | [_, _], _ => rfl
  have b3 := F3.binds (ps := ["text", "most"]) fun _ _ _ _ _ _ us hl => match us, hl with | [_, _], _ => rfl
  have b4 := F4.binds (ps := ["text"]) fun _ _ _ _ _ _ us hl => match us, hl with | [_], _ => rfl
  have b5 := F5.binds (ps := ["text"]) fun _ _ _ _ _ _ us hl => match us, hl with | [_], _ => rfl
  have b6 := F6.binds (ps := ["text"]) fun _ _ _ _ _ _ us hl => match us, hl with | [_], _ => rfl
  have b7 := F7.binds (ps := ["text"]) fun _ _ _ _ _ _ us hl => match us, hl with | [_], _ => rfl
  have b8 := F8.binds (ps := ["one"]) fun _ _ _ _ _ _ us hl => match us, hl with | [_], _ => rfl
  have b9 := F9.binds (ps := ["_law_script", "_law_k"]) fun _ _ _ _ _ _ us hl => match us, hl with | [_, _], _ => rfl
  have b10 := F10.binds (ps := ["_law_row", "_law_base"]) fun _ _ _ _ _ _ us hl => match us, hl with | [_, _], _ => rfl
  have b11 := F11.binds (ps := ["_law_top", "_law_bottom"]) fun _ _ _ _ _ _ us hl => match us, hl with | [_, _], _ => rfl
  have b12 := F12.binds (ps := ["_law_row", "_law_many"]) fun _ _ _ _ _ _ us hl => match us, hl with | [_, _], _ => rfl
  have b13 := F13.binds (ps := ["_law_row", "_law_ahead", "_law_behind"]) fun _ _ _ _ _ _ us hl => match us, hl with | [_, _, _], _ => rfl
  have b14 := F14.binds (ps := ["_law_text"]) fun _ _ _ _ _ _ us hl => match us, hl with | [_], _ => rfl
  have b15 := F15.binds (ps := ["_law_text", "_law_ahead", "_law_behind"]) fun _ _ _ _ _ _ us hl => match us, hl with | [_, _, _], _ => rfl
  have b16 := F16.binds (ps := ["_law_row", "_law_text"]) fun _ _ _ _ _ _ us hl => match us, hl with | [_, _], _ => rfl
  have b17 := F17.binds (ps := ["_law_thing", "_law_is_shown"]) fun _ _ _ _ _ _ us hl => match us, hl with | [_, _], _ => rfl
  have b18 := F18.binds (ps := ["_law_row"]) fun _ _ _ _ _ _ us hl => match us, hl with | [_], _ => rfl
  have z_isinstance := PySem.W.mg_none_of X G z_isinstance
  have z_int := PySem.W.mg_none_of X G z_int
  have z_bool := PySem.W.mg_none_of X G z_bool
  have z_abs := PySem.W.mg_none_of X G z_abs
  have z_len := PySem.W.mg_none_of X G z_len
  have z_all := PySem.W.mg_none_of X G z_all
  have z_str := PySem.W.mg_none_of X G z_str
  have z_divmod := PySem.W.mg_none_of X G z_divmod
  have z_range := PySem.W.mg_none_of X G z_range
  have z_ValueError := PySem.W.mg_none_of X G z_ValueError
  have z_max := PySem.W.mg_none_of X G z_max
  have z_min := PySem.W.mg_none_of X G z_min
  have m_FIGURES := PySem.W.mg_of X G m_FIGURES
  have m_MOST_AHEAD := PySem.W.mg_of X G m_MOST_AHEAD
  have m_MOST_BEHIND := PySem.W.mg_of X G m_MOST_BEHIND
  have m_UNIT := PySem.W.mg_of X G m_UNIT
  have m_TOO_GREAT := PySem.W.mg_of X G m_TOO_GREAT
  refine ⟨PySem.W.fnOf "law" "law" (defArgs s_law) (defBody s_law) (defScope s_law) .none kV19 dc19 pm19 an19 cd19 ct19, fun s v => .of_eq rfl, fun base hK hG hB => ?_⟩
  have C_is_whole : Cal l.prog w K mg base (CXE l.prog w) 1 "is_whole" ["thing"] (spD ⟨K, TSK K, LSK K⟩ false wf_is_whole) := Kx.Fun.cal F0 (ok_is_whole (P := l.prog) (w := w) (mg := mg) (base := base) F0 z_isinstance z_int z_bool) b0 (PySem.W.mg_of X G a0)
  have C_common_divisor : Cal l.prog w K mg base (CXE l.prog w) 1 "common_divisor" ["one", "other"] (spD ⟨K, TSK K, LSK K⟩ false wf_common_divisor) := Kx.Fun.cal F1 (ok_common_divisor (P := l.prog) (w := w) (mg := mg) (base := base) F1 ) b1 (PySem.W.mg_of X G a1)
  have C_fraction : Cal l.prog w K mg base (CXE l.prog w) 2 "fraction" ["top", "bottom"] (spD ⟨K, TSK K, LSK K⟩ false wf_fraction) := Kx.Fun.cal F2 (ok_fraction (P := l.prog) (w := w) (mg := mg) (base := base) F2 C_is_whole C_common_divisor z_abs) b2 (PySem.W.mg_of X G a2)
  have C_are_figures : Cal l.prog w K mg base (CXE l.prog w) 2 "are_figures" ["text", "most"] (spD ⟨K, TSK K, LSK K⟩ false wf_are_figures) := Kx.Fun.cal F3 (ok_are_figures (P := l.prog) (w := w) (mg := mg) (base := base) l3 c3 hGK0 hB hls0 z_len z_all m_FIGURES) b3 (PySem.W.mg_of X G a3)
  have C_is_ahead : Cal l.prog w K mg base (CXE l.prog w) 3 "is_ahead" ["text"] (spD ⟨K, TSK K, LSK K⟩ false wf_is_ahead) := Kx.Fun.cal F4 (ok_is_ahead (P := l.prog) (w := w) (mg := mg) (base := base) F4 C_are_figures m_MOST_AHEAD) b4 (PySem.W.mg_of X G a4)
  have C_is_behind : Cal l.prog w K mg base (CXE l.prog w) 3 "is_behind" ["text"] (spD ⟨K, TSK K, LSK K⟩ false wf_is_behind) := Kx.Fun.cal F5 (ok_is_behind (P := l.prog) (w := w) (mg := mg) (base := base) F5 C_are_figures m_MOST_BEHIND) b5 (PySem.W.mg_of X G a5)
  have C_is_number : Cal l.prog w K mg base (CXE l.prog w) 4 "is_number" ["text"] (spD ⟨K, TSK K, LSK K⟩ false wf_is_number) := Kx.Fun.cal F6 (ok_is_number (P := l.prog) (w := w) (mg := mg) (base := base) F6 C_is_ahead C_is_behind z_isinstance z_str) b6 (PySem.W.mg_of X G a6)
  have C_read_number : Cal l.prog w K mg base (CXE l.prog w) 5 "read_number" ["text"] (spD ⟨K, TSK K, LSK K⟩ false wf_read_number) := Kx.Fun.cal F7 (ok_read_number (P := l.prog) (w := w) (mg := mg) (base := base) F7 C_is_number C_fraction T_NoNumber z_int m_UNIT m_MOST_BEHIND) b7 (PySem.W.mg_of X G a7)
  have C_show_number : Cal l.prog w K mg base (CXE l.prog w) 1 "show_number" ["one"] (spD ⟨K, TSK K, LSK K⟩ false wf_show_number) := Kx.Fun.cal F8 (ok_show_number (P := l.prog) (w := w) (mg := mg) (base := base) F8 T_NoNumber z_divmod z_abs z_str m_UNIT m_TOO_GREAT m_MOST_BEHIND) b8 (PySem.W.mg_of X G a8)
  have C__law_cell_at : Cal l.prog w K mg base (CXE l.prog w) 1 "_law_cell_at" ["_law_script", "_law_k"] (spD ⟨K, TSK K, LSK K⟩ false wf__law_cell_at) := Kx.Fun.cal F9 (ok__law_cell_at (P := l.prog) (w := w) (mg := mg) (base := base) F9 z_len) b9 (PySem.W.mg_of X G a9)
  have C__law_take : Cal l.prog w K mg base (CXE l.prog w) 1 "_law_take" ["_law_row", "_law_base"] (spD ⟨K, TSK K, LSK K⟩ true wf__law_take) := Kx.Fun.cal F10 (ok__law_take (P := l.prog) (w := w) (mg := mg) (base := base) F10 ) b10 (PySem.W.mg_of X G a10)
  have C__law_low : Cal l.prog w K mg base (CXE l.prog w) 1 "_law_low" ["_law_top", "_law_bottom"] (spD ⟨K, TSK K, LSK K⟩ false wf__law_low) := Kx.Fun.cal F11 (ok__law_low (P := l.prog) (w := w) (mg := mg) (base := base) F11 z_abs) b11 (PySem.W.mg_of X G a11)
  have C__law_figures : Cal l.prog w K mg base (CXE l.prog w) 2 "_law_figures" ["_law_row", "_law_many"] (spD ⟨K, TSK K, LSK K⟩ true wf__law_figures) := Kx.Fun.cal F12 (ok__law_figures (P := l.prog) (w := w) (mg := mg) (base := base) F12 C__law_take z_range) b12 (PySem.W.mg_of X G a12)
  have C__law_number_text : Cal l.prog w K mg base (CXE l.prog w) 3 "_law_number_text" ["_law_row", "_law_ahead", "_law_behind"] (spD ⟨K, TSK K, LSK K⟩ true wf__law_number_text) := Kx.Fun.cal F13 (ok__law_number_text (P := l.prog) (w := w) (mg := mg) (base := base) F13 C__law_take C__law_figures z_int) b13 (PySem.W.mg_of X G a13)
  have C__law_worth : Cal l.prog w K mg base (CXE l.prog w) 2 "_law_worth" ["_law_text"] (spD ⟨K, TSK K, LSK K⟩ false wf__law_worth) := Kx.Fun.cal F14 (ok__law_worth (P := l.prog) (w := w) (mg := mg) (base := base) F14 C__law_low z_int) b14 (PySem.W.mg_of X G a14)
  have C__law_is_number : Cal l.prog w K mg base (CXE l.prog w) 1 "_law_is_number" ["_law_text", "_law_ahead", "_law_behind"] (spD ⟨K, TSK K, LSK K⟩ false wf__law_is_number) := Kx.Fun.cal F15 (ok__law_is_number (P := l.prog) (w := w) (mg := mg) (base := base) F15 z_len) b15 (PySem.W.mg_of X G a15)
  have C__law_bent : Cal l.prog w K mg base (CXE l.prog w) 3 "_law_bent" ["_law_row", "_law_text"] (spD ⟨K, TSK K, LSK K⟩ true wf__law_bent) := Kx.Fun.cal F16 (ok__law_bent (P := l.prog) (w := w) (mg := mg) (base := base) F16 C__law_take C__law_figures z_len) b16 (PySem.W.mg_of X G a16)
  have C__law_heard : Cal l.prog w K mg base (CXE l.prog w) 6 "_law_heard" ["_law_thing", "_law_is_shown"] (spD ⟨K, TSK K, LSK K⟩ false wf__law_heard) := Kx.Fun.cal F17 (ok__law_heard (P := l.prog) (w := w) (mg := mg) (base := base) F17 C_show_number C_read_number A_NoNumber kx_NoNumber_NoNumber kt_NoNumber_ValueError ka__law_heard_NoNumber_0 nX_NoNumber xm_ChartError_NoNumber mX_ChartError mX_Below mX_NoChange mX_NoFraction mX_NoName mX_NoRow mX_NoSheet mX_NoSize mX_NoTable mX_NoText mX_NoNumber z_isinstance z_ValueError) b17 (PySem.W.mg_of X G a17)
  have C__law_unwritten : Cal l.prog w K mg base (CXE l.prog w) 2 "_law_unwritten" ["_law_row"] (spD ⟨K, TSK K, LSK K⟩ true wf__law_unwritten) := Kx.Fun.cal F18 (ok__law_unwritten (P := l.prog) (w := w) (mg := mg) (base := base) F18 C__law_take C__law_low) b18 (PySem.W.mg_of X G a18)
  exact ok_law F19 C__law_cell_at C__law_number_text C__law_bent C__law_is_number C__law_worth C__law_heard C__law_unwritten C__law_take z_range z_max z_min z_len
theorem walk {l : PySem.W.OpenLaw} {q : Program} {loose : List Str} {XP : (Str → Option Value) → Heap → Prop} {YP : World → Heap → Prop} {d : DefRec} {K : Params → PySem.W.Frag} (hn : l.most = some 63) (hdf : d.params.defaults = [])
    (hY : ∀ (w : World) (h : Heap), YP w h → (K w.params).In h)
    {gdg0 : DefRec} (hgdg0 : (PyProof.Rows.recsOf q).find? (fun e => e.name == ("are_figures" : Str)) = some gdg0) (htabg0 : ∀ p, PySem.W.tabIn (K p) "are_figures" = some (((PySem.W.tabIn (K p) "are_figures").map (·.1)).getD 0, tabG0 (K p))) (hKPg0 : ∀ p, (K p).lookup (tabG0 (K p)) = none)
    (F : ∀ (w : World) (mg : Str → Option Value) (fa : Addr) (h : Heap), (K w.params).In h → h.Ns mainGlobals mg → mg d.name = some (.ref fa) →
      ∃ fd : FuncData, (∀ (s : Shared) (u : Value), BindsTo s fd ⟨[u], []⟩ [("_law_script", u)]) ∧ ∀ base : Heap, (K w.params).In base → base.Ns mainGlobals mg → Kx.BltB mg base → FnOk l.prog w (K w.params) mg base (CXE l.prog w) 7 fa fd ["_law_script"] (spD ⟨K w.params, TSK (K w.params), LSK (K w.params)⟩ false wf_law)) :
    PySem.W.WalkO q loose XP YP l.row.toRowW d [] (fun f vs => PySem.call f vs) := by
  have hall : ∀ p, ∀ P ∈ (LSK (K p)).map (·.1) ++ TSK (K p), ∃ (gn : Str) (gd : DefRec) (c : Addr), (PyProof.Rows.recsOf q).find? (fun e => e.name == gn) = some gd ∧ PySem.W.tabIn (K p) gn = some (c, P) ∧ (K p).lookup P = none := fun p P hP => by
    simp only [List.map_cons, List.map_nil, List.cons_append, List.nil_append, List.mem_cons, List.not_mem_nil, or_false] at hP
    rcases hP with rfl
    · exact ⟨_, gdg0, _, hgdg0, htabg0 p, hKPg0 p⟩
  refine Kx.walk_ofTs (n := 63) (k := 7) (x := "_law_script") (CX := fun w => CXE l.prog w) (sp := fun p => spD ⟨K p, TSK (K p), LSK (K p)⟩ false wf_law) (Ps := fun p => (LSK (K p)).map (·.1) ++ TSK (K p)) hn (by decide) hdf ⟨rfl, by decide, by decide⟩ hY hall F (fun w H a ns h1 h2 hA h3 => law_sp (fun hl => ⟨ns, rfl, hl, rfl⟩) h1 (fun P hP => ⟨#[], h2 P (List.mem_append_right _ hP), trivial⟩) (fun p hp => ⟨#[], h2 p.1 (List.mem_append_left _ (List.mem_map_of_mem hp)), trivial, fun cv z => by cases z⟩) h3 (fun b ps z e => by
    subst e
    rcases hA _ _ z with y | ⟨_, _, o, xs, y⟩
    · rcases h3 with (h | ⟨o, h⟩) | ⟨o, _, _, hk, _⟩
      · rw [h] at z; cases z
      · rw [h] at z; cases z
      · obtain ⟨_, _, _, _, _, hl⟩ := hall w.params _ y
        rw [hl] at hk; cases hk
    · cases y)) fun _ _ _ _ _ z => by
    obtain ⟨_, _, _, _, _, _, y, _⟩ := z
    exact y
end Law
open PySem PySem.W PyProof.Rows
set_option maxRecDepth 100000 in
set_option maxHeartbeats 0 in
theorem PySem.Challenge.cw_chartscribe_k05_no_numbers_holds : PySem.Challenge.rw_chartscribe_k05_no_numbers.Holds := by
  w_on; o_law; k_head; (case hw => w_witness2)
  k_fill
  refine Law.walk (l := PySem.Challenge.rw_chartscribe_k05_no_numbers) rfl rfl (fun w h Y => PySem.W.kIn_of Y) rfl ?htabg0 ?hKPg0 ?F
  case htabg0 => (intro p; kernel_rfl)
  case hKPg0 => (intro p; kernel_rfl)
  case F =>
    intro w mg fa h KX G hmg
    refine' Law.all_mk KX G hmg ?nX_NoNumber ?nX_ChartError ?nX_Below ?nX_NoChange ?nX_NoFraction ?nX_NoName ?nX_NoRow ?nX_NoSheet ?nX_NoSize ?nX_NoTable ?nX_NoText ?eX_NoNumber ?xq1_NoNumber ?xq2_NoNumber ?xq3_NoNumber ?xq4_NoNumber ?xq5_NoNumber ?kx_NoNumber_NoNumber ?kt_NoNumber_ValueError ?ka__law_heard_NoNumber_0 ?xm_ChartError_NoNumber ?a0 ?l0 ?c0 ?k0 ?a1 ?l1 ?c1 ?k1 ?a2 ?l2 ?c2 ?k2 ?a3 ?l3 ?c3 ?k3 ?a4 ?l4 ?c4 ?k4 ?a5 ?l5 ?c5 ?k5 ?a6 ?l6 ?c6 ?k6 ?a7 ?l7 ?c7 ?k7 ?a8 ?l8 ?c8 ?k8 ?a9 ?l9 ?c9 ?k9 ?a10 ?l10 ?c10 ?k10 ?a11 ?l11 ?c11 ?k11 ?a12 ?l12 ?c12 ?k12 ?a13 ?l13 ?c13 ?k13 ?a14 ?l14 ?c14 ?k14 ?a15 ?l15 ?c15 ?k15 ?a16 ?l16 ?c16 ?k16 ?a17 ?l17 ?c17 ?k17 ?a18 ?l18 ?c18 ?k18 ?a19 ?l19 ?c19 ?k19 ?hgt0 ?hGK0 ?hls0 ?z_isinstance ?z_int ?z_bool ?z_abs ?z_len ?z_all ?z_str ?z_divmod ?z_range ?z_ValueError ?z_max ?z_min ?m_FIGURES ?m_MOST_AHEAD ?m_MOST_BEHIND ?m_UNIT ?m_TOO_GREAT
    (case nX_NoNumber => k_is)
    (case nX_ChartError => k_is)
    (case nX_Below => k_is)
    (case nX_NoChange => k_is)
    (case nX_NoFraction => k_is)
    (case nX_NoName => k_is)
    (case nX_NoRow => k_is)
    (case nX_NoSheet => k_is)
    (case nX_NoSize => k_is)
    (case nX_NoTable => k_is)
    (case nX_NoText => k_is)
    (case eX_NoNumber => k_exc)
    (case xq1_NoNumber => k_is)
    (case xq2_NoNumber => k_is)
    (case xq3_NoNumber => k_is)
    (case xq4_NoNumber => k_is)
    (case xq5_NoNumber => k_is)
    (case kx_NoNumber_NoNumber => kit_is)
    (case kt_NoNumber_ValueError => kit_is)
    (case ka__law_heard_NoNumber_0 => kit_is)
    (case xm_ChartError_NoNumber => kts_exm)
    (case a0 => k_is)
    (case l0 => k_is)
    (case c0 => k_is)
    (case k0 => k_is)
    (case a1 => k_is)
    (case l1 => k_is)
    (case c1 => k_is)
    (case k1 => k_is)
    (case a2 => k_is)
    (case l2 => k_is)
    (case c2 => k_is)
    (case k2 => k_is)
    (case a3 => k_is)
    (case l3 => k_is)
    (case c3 => k_is)
    (case k3 => k_is)
    (case a4 => k_is)
    (case l4 => k_is)
    (case c4 => k_is)
    (case k4 => k_is)
    (case a5 => k_is)
    (case l5 => k_is)
    (case c5 => k_is)
    (case k5 => k_is)
    (case a6 => k_is)
    (case l6 => k_is)
    (case c6 => k_is)
    (case k6 => k_is)
    (case a7 => k_is)
    (case l7 => k_is)
    (case c7 => k_is)
    (case k7 => k_is)
    (case a8 => k_is)
    (case l8 => k_is)
    (case c8 => k_is)
    (case k8 => k_is)
    (case a9 => k_is)
    (case l9 => k_is)
    (case c9 => k_is)
    (case k9 => k_is)
    (case a10 => k_is)
    (case l10 => k_is)
    (case c10 => k_is)
    (case k10 => k_is)
    (case a11 => k_is)
    (case l11 => k_is)
    (case c11 => k_is)
    (case k11 => k_is)
    (case a12 => k_is)
    (case l12 => k_is)
    (case c12 => k_is)
    (case k12 => k_is)
    (case a13 => k_is)
    (case l13 => k_is)
    (case c13 => k_is)
    (case k13 => k_is)
    (case a14 => k_is)
    (case l14 => k_is)
    (case c14 => k_is)
    (case k14 => k_is)
    (case a15 => k_is)
    (case l15 => k_is)
    (case c15 => k_is)
    (case k15 => k_is)
    (case a16 => k_is)
    (case l16 => k_is)
    (case c16 => k_is)
    (case k16 => k_is)
    (case a17 => k_is)
    (case l17 => k_is)
    (case c17 => k_is)
    (case k17 => k_is)
    (case a18 => k_is)
    (case l18 => k_is)
    (case c18 => k_is)
    (case k18 => k_is)
    (case a19 => k_is)
    (case l19 => k_is)
    (case c19 => k_is)
    (case k19 => k_is)
    (case hgt0 => kernel_rfl)
    (case hGK0 => kernel_rfl)
    (case hls0 => (intro p hp; simp only [Law.LSK, List.mem_cons, List.not_mem_nil, or_false] at hp))
    (case z_isinstance => k_is)
    (case z_int => k_is)
    (case z_bool => k_is)
    (case z_abs => k_is)
    (case z_len => k_is)
    (case z_all => k_is)
    (case z_str => k_is)
    (case z_divmod => k_is)
    (case z_range => k_is)
    (case z_ValueError => k_is)
    (case z_max => k_is)
    (case z_min => k_is)
    (case m_FIGURES => k_is)
    (case m_MOST_AHEAD => k_is)
    (case m_MOST_BEHIND => k_is)
    (case m_UNIT => k_is)
    (case m_TOO_GREAT => k_is)
