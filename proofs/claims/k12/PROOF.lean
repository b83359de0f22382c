import PyProof.Rows.All
import Wide.All
import OpenK.AllK
import Wide.FinOn
import PyProof.EqAt
import PyProof.EqKinds
import PyProof.TupleCall
import KE.BitLaws
import KE.KSortKeySt
import KE.KLam
import PyProof.ListRange
import KE.KSortTupG
import PyProof.Rows.SetFrom
import KE.KRevSl
import KE.KSuper
import PyProof.Draws
import PyProof.ListMulRoad
import PyProof.IsiNone
import PyProof.WalkInts
import PyProof.StrOps2
import KE.KStar
import PyProof.ListNew
import KE.KEqDict
import PyProof.InstStoreFacts
import PySem.Challenge.RW_chartscribe_k12_tables_made
set_option Elab.async false
set_option linter.all false
set_option maxRecDepth 100000
namespace L2
open PySem PySem.Spec PyProof.Rows
abbrev Key := Sum Int Str
def keyIs : Key → Value → Bool
  | .inl k, v => Value.isInt k v
  | .inr x, v => Value.isStrOf x v
def keyH (w : World) : Key → Int
  | .inl k => hashInt k
  | .inr x => hashStr w x
theorem keyIs_shape : ∀ {k : Key} {v : Value}, keyIs k v = true → (∃ i t, k = Sum.inl i ∧ v = Value.int i t) ∨ (∃ x t, k = Sum.inr x ∧ v = Value.str x t)
  | .inl i, v, h => by
    obtain ⟨t, e⟩ := Value.isInt_shape (k := i) (v := v) h
    exact .inl ⟨i, t, rfl, e⟩
  | .inr x, v, h => by
    obtain ⟨t, e⟩ := Value.isStrOf_shape (x := x) (v := v) h
    exact .inr ⟨x, t, rfl, e⟩
theorem key_ll (a b : Int) : decide ((Sum.inl a : Key) = Sum.inl b) = (a == b) := by
  by_cases e : a = b
  · subst e; simp
  · have h : ¬ (Sum.inl a : Key) = Sum.inl b := fun q => e (Sum.inl.inj q)
    rw [decide_eq_false h]
    exact (beq_eq_false_iff_ne.mpr e).symm
theorem key_rr (a b : Str) : decide ((Sum.inr a : Key) = Sum.inr b) = decide (a = b) := by
  by_cases e : a = b
  · subst e; simp
  · have h : ¬ (Sum.inr a : Key) = Sum.inr b := fun q => e (Sum.inr.inj q)
    rw [decide_eq_false h, decide_eq_false e]
theorem key_lr (a : Int) (b : Str) : decide ((Sum.inl a : Key) = Sum.inr b) = false := decide_eq_false (fun q => nomatch q)
theorem key_rl (a : Str) (b : Int) : decide ((Sum.inr a : Key) = Sum.inl b) = false := decide_eq_false (fun q => nomatch q)
def mixKind (prog : Program) (w : World) : PySem.KeyKind prog w Key where
  is := keyIs
  hash := keyH w
  inj := fun v a b ha hb => by
    rcases keyIs_shape ha with ⟨i, t, rfl, rfl⟩ | ⟨x, t, rfl, rfl⟩
    · rcases keyIs_shape hb with ⟨j, u, rfl, e⟩ | ⟨y, u, rfl, e⟩
      · injection e with e1 _; rw [e1]
      · exact nomatch e
    · rcases keyIs_shape hb with ⟨j, u, rfl, e⟩ | ⟨y, u, rfl, e⟩
      · exact nomatch e
      · injection e with e1 _; rw [e1]
  byValue := fun k v h => by
    rcases keyIs_shape h with ⟨i, t, rfl, rfl⟩ | ⟨x, t, rfl, rfl⟩ <;> rfl
  pyHash := fun hv h => by
    rcases keyIs_shape hv with ⟨i, t, rfl, rfl⟩ | ⟨x, t, rfl, rfl⟩
    · exact wpAny_pyHash_int h
    · exact wpAny_pyHash_str h
  eqBool := fun hu hv h => by
    rcases keyIs_shape hu with ⟨i, t, rfl, rfl⟩ | ⟨x, t, rfl, rfl⟩
    · rcases keyIs_shape hv with ⟨j, u, rfl, rfl⟩ | ⟨y, u, rfl, rfl⟩
      · rw [key_ll] at h; exact wpAny_eqBool_int h
      · rw [key_lr] at h; exact SeqAt.EqAt.int_str i t y u _ _ _ _ h
    · rcases keyIs_shape hv with ⟨j, u, rfl, rfl⟩ | ⟨y, u, rfl, rfl⟩
      · rw [key_rl] at h; exact SeqAt.EqAt.str_int x t j u _ _ _ _ h
      · rw [key_rr] at h; exact wpAny_eqBool_str h
  «strs» := fun k x t v h => by
    rcases keyIs_shape h with ⟨i, u, rfl, e⟩ | ⟨y, u, rfl, e⟩
    · exact nomatch e
    · injection e with e1 _
      subst e1
      cases v <;> rfl
end L2
namespace L2
open PySem PySem.Spec PyProof.Rows
inductive V where
  | non | bl (b : Bool) | int (i : Int) | str (x : Str) | byt (b : Array UInt8) | flt (b : UInt64) | ref (a : Addr) | ty (n : String)
  deriving DecidableEq
def RelV : V → Value → Prop
  | .non, u => u = Value.none
  | .bl b, u => u = Value.bool b
  | .int i, u => ∃ t, u = Value.int i t
  | .str x, u => ∃ t, u = Value.str x t
  | .byt b, u => ∃ t, u = Value.bytes b t
  | .flt b, u => ∃ t, u = Value.float b t
  | .ref a, u => u = Value.ref a
  | .ty n, u => u = Value.type n
abbrev Vals : List V → List Value → Prop := Paired RelV
theorem Vals.length {xs : List V} {us : List Value} (r : Vals xs us) : xs.length = us.length := Paired.length r
theorem Vals.get : ∀ {xs : List V} {us : List Value} {i : Nat} {x : V}, Vals xs us → xs[i]? = some x → ∃ u, us[i]? = some u ∧ RelV x u
  | _, _, _, _, .nil, e => by simp at e
  | _, _, 0, _, .cons r _, e => by simp at e; subst e; exact ⟨_, rfl, r⟩
  | _, _, i + 1, x, .cons _ t, e => by
    obtain ⟨u, h1, h2⟩ := Vals.get (i := i) (x := x) t (by simpa using e)
    exact ⟨u, by simpa using h1, h2⟩
theorem Vals.set {x : V} {u : Value} (r : RelV x u) : ∀ {xs : List V} {us : List Value} (i : Nat), Vals xs us → Vals (xs.set i x) (us.set i u)
  | _, _, _, .nil => .nil
  | _, _, 0, .cons _ t => .cons r t
  | _, _, i + 1, .cons q t => .cons q (Vals.set r i t)
theorem Vals.append : ∀ {xs ys : List V} {us ws : List Value}, Vals xs us → Vals ys ws → Vals (xs ++ ys) (us ++ ws)
  | _, _, _, _, .nil, s => s
  | _, _, _, _, .cons r t, s => .cons r (Vals.append t s)
theorem Vals.take : ∀ {xs : List V} {us : List Value} (n : Nat), Vals xs us → Vals (xs.take n) (us.take n)
  | _, _, 0, _ => .nil
  | _, _, _ + 1, .nil => .nil
  | _, _, n + 1, .cons r t => .cons r (Vals.take n t)
theorem Vals.drop : ∀ {xs : List V} {us : List Value} (n : Nat), Vals xs us → Vals (xs.drop n) (us.drop n)
  | _, _, 0, r => r
  | _, _, _ + 1, .nil => .nil
  | _, _, n + 1, .cons _ t => Vals.drop n t
theorem Vals.none_of : ∀ {xs : List V} {us : List Value} {i : Nat}, Vals xs us → xs[i]? = none → us[i]? = none := fun {xs us i} r e => by
  have h1 := r.length
  have h2 : xs.length ≤ i := List.getElem?_eq_none_iff.mp e
  exact List.getElem?_eq_none_iff.mpr (by omega)
def RelO : Option V → Option Value → Prop
  | some v, some u => RelV v u
  | none, none => True
  | _, _ => False
def KV {κ : Type} : List (κ × V) → List (κ × Value) → Prop := Paired fun (p : κ × V) (q : κ × Value) => p.1 = q.1 ∧ RelV p.2 q.2
def kV : Key → V
  | .inl i => .int i
  | .inr x => .str x
inductive HO where
  | lst (xs : List V)
  | tup (xs : List V)
  | dK (kvs : List (Key × V)) | dT (kvs : List (List Key × V))
  | set (S : Int → Bool) (n : Nat)
  | ins (C dx : Addr) (fs : List (Str × V))
  | own (x : Addr)
  | xd (fs : List (Str × V))
  | met (f x : Addr)
  | rng (lo hi : Int)
  | frz (o : Obj) (u : HO)
  | tbl (ps : Array Value)
  | ext (φ : Heap → Prop)
abbrev Hp := Addr → Option HO
def upd (H : Hp) (a : Addr) (o : HO) : Hp := fun b => if b = a then some o else H b
theorem upd_same {H : Hp} {a : Addr} {o : HO} : upd H a o a = some o := by unfold upd; rw [if_pos rfl]
theorem upd_ne {H : Hp} {a b : Addr} {o : HO} (h : b ≠ a) : upd H a o b = H b := by unfold upd; rw [if_neg h]
theorem ne_of {H : Hp} {a b : Addr} {o u : HO} (h : H a = some o) (h' : H b = some u) (d : o ≠ u) : a ≠ b := by
  intro e; subst e; rw [h] at h'; exact d (Option.some.inj h')
theorem ne_of_none {H : Hp} {a b : Addr} {o : HO} (h : H a = some o) (h' : H b = none) : a ≠ b := by
  intro e; subst e; rw [h] at h'; cases h'
section
variable (P : Program) (w : World)
def ObjOk (H : Hp) (h : Heap) (a : Addr) : HO → Prop
  | .lst xs => xs.length ≤ sizeLine ∧ ∃ (its : List Value) (n : Nat), Vals xs its ∧ h.get? a = some { cls := .type "list", data := .seq its.toArray n }
  | .tup xs => xs.length ≤ sizeLine ∧ ∃ its : List Value, Vals xs its ∧ IsTup h a its.toArray
  | .dK kvs => kvs.length ≤ sizeLine ∧ (a == sysModules) = false ∧ ∃ vs, KV kvs vs ∧ h.DictOf (mixKind P w) a vs
  | .dT kvs => kvs.length ≤ sizeLine ∧ (a == sysModules) = false ∧ ∃ xs : List (List Key × Addr × Value),
      Paired (fun (p : List Key × V) (q : List Key × Addr × Value) => p.1 = q.1 ∧ H q.2.1 = some (.tup (p.1.map kV)) ∧ RelV p.2 q.2.2) kvs xs ∧
      ∃ o es ep, h.get? a = some o ∧ o.ExactDict ∧ o.data = .dict es ep ∧ es.toList = xs.map (entryOfKey (tupleKind (mixKind P w))) ∧ (xs.map (·.1)).Nodup
  | .set S n => h.SetOf (intKind P w) a S n
  | .ins C dx fs => H dx = some (.own a) ∧ fs.length ≤ 1000 ∧ dx ≠ a ∧ h.get? a = some (PySem.W.instObj C dx) ∧
      ∃ mA, h.Ns1 dx mA ∧ (∀ f, RelO (fs.lookup f) (mA f)) ∧ PySem.Within mA (fs.map (·.1))
  | .own _ => ∃ o, h.get? a = some o
  | .xd fs => ∃ mA, h.Ns1 a mA ∧ ∀ f, RelO (fs.lookup f) (mA f)
  | .rng lo hi => ∃ t u v, h.get? a = some { cls := .type "range", data := .fields #[.int lo t, .int hi u, .int 1 v] }
  | .frz o u => h.get? a = some o ∧ ObjOk H h a u
  | .tbl ps => h.get? a = some { cls := .none, data := .fields ps }
  | .met f x => h.get? a = some (PySem.W.methodObj (.ref f) (.ref x))
  | .ext φ => φ h ∧ (∃ o, h.get? a = some o) ∧ ∀ h1 h2 : Heap, φ h1 → (∀ o, h1.get? a = some o → h2.get? a = some o) → φ h2
def HOk (H : Hp) (h : Heap) : Prop := ∀ a o, H a = some o → ObjOk P w H h a o
end
section
variable {P : Program} {w : World} {H H' : Hp} {h h' : Heap} {a : Addr} {o : HO}
theorem ObjOk.lt (x : ObjOk P w H h a o) : a < h.objs.size := by
  cases o with
  | lst xs => obtain ⟨_, _, _, _, e⟩ := x; exact Heap.lt_size e
  | tup xs => obtain ⟨_, _, _, p⟩ := x; exact p.lt
  | dK kvs => obtain ⟨_, _, _, _, o, _, _, e, _⟩ := x; exact Heap.lt_size e
  | dT kvs => obtain ⟨_, _, _, _, o, _, _, e, _⟩ := x; exact Heap.lt_size e
  | set S n => obtain ⟨o, _, _, _, e, _⟩ := x; exact Heap.lt_size e
  | ins C dx fs => obtain ⟨_, _, _, e, _⟩ := x; exact Heap.lt_size e
  | own y => obtain ⟨_, e⟩ := x; exact Heap.lt_size e
  | xd fs => obtain ⟨_, ⟨_, _, _, e, _⟩, _⟩ := x; exact Heap.lt_size e
  | rng lo hi => obtain ⟨_, _, _, e⟩ := x; exact Heap.lt_size e
  | frz ob u => obtain ⟨e, _⟩ := x; exact Heap.lt_size e
  | tbl ps => exact Heap.lt_size (show h.get? a = some _ from x)
  | met f y => exact Heap.lt_size (show h.get? a = some _ from x)
  | ext φ => obtain ⟨_, ⟨_, e⟩, _⟩ := x; exact Heap.lt_size e
theorem Paired.mapP {α β : Type} {F G : α → β → Prop} : ∀ {l₁ : List α} {l₂ : List β}, Paired F l₁ l₂ → (∀ a b, F a b → G a b) → Paired G l₁ l₂
  | _, _, .nil, _ => .nil
  | _, _, .cons r t, f => .cons (f _ _ r) (Paired.mapP t f)
theorem ObjOk.stay (x : ObjOk P w H h a o) (k : ∀ b u, (b = a ∨ H b = some (.own a)) → h.get? b = some u → h'.get? b = some u)
    (ho : ∀ b, H b = some (.own a) → H' b = some (.own a)) (ht : ∀ b xs, H b = some (.tup xs) → H' b = some (.tup xs)) : ObjOk P w H' h' a o := by
  induction o with
  | lst xs => obtain ⟨z, its, n, r, e⟩ := x; exact ⟨z, its, n, r, k _ _ (.inl rfl) e⟩
  | tup xs => obtain ⟨z, its, r, ob, e, c⟩ := x; exact ⟨z, its, r, ob, k _ _ (.inl rfl) e, c⟩
  | dK kvs => obtain ⟨z, y, vs, r, ob, es, ep, e, c⟩ := x; exact ⟨z, y, vs, r, ob, es, ep, k _ _ (.inl rfl) e, c⟩
  | dT kvs =>
    obtain ⟨z, y, xs, r, ob, es, ep, e, c⟩ := x
    exact ⟨z, y, xs, Paired.mapP r fun p q z => ⟨z.1, ht _ _ z.2.1, z.2.2⟩, ob, es, ep, k _ _ (.inl rfl) e, c⟩
  | set S n => obtain ⟨ob, es, ep, t, e, c⟩ := x; exact ⟨ob, es, ep, t, k _ _ (.inl rfl) e, c⟩
  | ins C dx fs =>
    obtain ⟨d, z, ne, e, mA, ⟨od, es, ep, e2, c⟩, r⟩ := x
    exact ⟨ho _ d, z, ne, k _ _ (.inl rfl) e, mA, ⟨od, es, ep, k _ _ (.inr d) e2, c⟩, r⟩
  | own y => obtain ⟨ob, e⟩ := x; exact ⟨ob, k _ _ (.inl rfl) e⟩
  | xd fs => obtain ⟨mA, ⟨od, es, ep, e, c⟩, r⟩ := x; exact ⟨mA, ⟨od, es, ep, k _ _ (.inl rfl) e, c⟩, r⟩
  | rng lo hi => obtain ⟨t, u, v, e⟩ := x; exact ⟨t, u, v, k _ _ (.inl rfl) e⟩
  | frz ob u ih => obtain ⟨e, q⟩ := x; exact ⟨k _ _ (.inl rfl) e, ih q⟩
  | tbl ps =>
    have e : h.get? a = some { cls := .none, data := .fields ps } := x
    show h'.get? a = some { cls := .none, data := .fields ps }
    exact k a _ (.inl rfl) e
  | met f y =>
    have e : h.get? a = some (PySem.W.methodObj (.ref f) (.ref y)) := x
    show h'.get? a = some (PySem.W.methodObj (.ref f) (.ref y))
    exact k a _ (.inl rfl) e
  | ext φ => obtain ⟨p, ⟨o, e⟩, st⟩ := x; exact ⟨st _ _ p fun o q => k _ _ (.inl rfl) q, ⟨o, k _ _ (.inl rfl) e⟩, st⟩
theorem HOk.lt (x : HOk P w H h) (e : H a = some o) : a < h.objs.size := (x a o e).lt
theorem HOk.fresh (x : HOk P w H h) (e : h.objs.size ≤ a) : H a = none := by
  cases q : H a with
  | none => rfl
  | some u => exact absurd (Nat.lt_of_lt_of_le (x.lt q) e) (Nat.lt_irrefl _)
theorem HOk.kept (x : HOk P w H h) (k : ∀ b u, h.get? b = some u → h'.get? b = some u) : HOk P w H h' := fun a o e =>
  (x a o e).stay (fun b u _ q => k b u q) (fun _ q => q) fun _ _ q => q
theorem HOk.laid (x : HOk P w H h) (k : ∀ b u, h.get? b = some u → h'.get? b = some u) (hp : h.objs.size ≤ a) (new : ObjOk P w (upd H a o) h' a o) : HOk P w (upd H a o) h' := fun b u e => by
  have hn := x.fresh hp
  by_cases hb : b = a
  · subst hb; rw [upd_same] at e; cases e; exact new
  · rw [upd_ne hb] at e
    exact (x b u e).stay (fun c v _ q => k c v q) (fun c q => by rw [upd_ne (ne_of_none q hn)]; exact q) fun c xs q => by rw [upd_ne (ne_of_none q hn)]; exact q
end
def Rd (H : Hp) (a : Addr) (u : HO) : Prop := H a = some u ∨ ∃ o, H a = some (.frz o u)
theorem Rd.of {H : Hp} {a : Addr} {u : HO} (h : H a = some u) : Rd H a u := .inl h
theorem Rd.ok {P : Program} {w : World} {H : Hp} {h : Heap} {a : Addr} {u : HO} (r : Rd H a u) (x : HOk P w H h) : ObjOk P w H h a u := by
  rcases r with r | ⟨o, r⟩
  · exact x a u r
  · obtain ⟨_, q⟩ := x a _ r
    exact q
def Mut : Option HO → Prop
  | some (.lst _) => True
  | some (.dK _) => True
  | some (.dT _) => True
  | some (.set _ _) => True
  | some (.ins _ _ _) => True
  | some (.ext _) => True
  | _ => False
section
variable {P : Program} {w : World} {H : Hp} {h h' : Heap} {x e : Addr} {o' : HO}
theorem HOk.write (ok : HOk P w H h) (mu : Mut (H x)) (he : e = x ∨ H e = some (.own x)) (k : ∀ b u, b ≠ e → h.get? b = some u → h'.get? b = some u) (heo : ∃ u, h'.get? e = some u)
    (new : ObjOk P w (upd H x o') h' x o') : HOk P w (upd H x o') h' := fun b u q => by
  have nown : ∀ c y, H c = some (.own y) → c ≠ x := fun c y r z => by subst z; rw [r] at mu; exact mu
  have ntup : ∀ c xs, H c = some (.tup xs) → c ≠ x := fun c xs r z => by subst z; rw [r] at mu; exact mu
  by_cases hb : b = x
  · subst hb; rw [upd_same] at q; cases q; exact new
  · rw [upd_ne hb] at q
    by_cases hbe : b = e
    · have q' : H b = some (.own x) := by
        rcases he with z | z
        · exact absurd (hbe.trans z) hb
        · rw [hbe]; exact z
      rw [q] at q'; cases q'
      obtain ⟨v, hv⟩ := heo
      exact ⟨v, by rw [hbe]; exact hv⟩
    · refine (ok b u q).stay (fun c v hc r => k c v ?_ r) (fun c r => by rw [upd_ne (nown c b r)]; exact r) fun c xs r => by rw [upd_ne (ntup c xs r)]; exact r
      rcases hc with rfl | hc
      · exact hbe
      · rintro rfl
        rcases he with z | z
        · exact nown c b hc z
        · rw [hc] at z; cases z; exact hb rfl
end
structure Un (fs ex : List Addr) (H H' : Hp) (h h' : Heap) : Prop where
  keep : ∀ b o, h.get? b = some o → H b = none → b ∉ fs → b ∉ ex → h'.get? b = some o
  slot : ∀ b o, h.get? b = some o → H b = none → b ∈ fs → b ∉ ex → ∃ sl, h'.get? b = some { o with slots := sl }
  free : ∀ b o, h.get? b = some o → H b = none → b ∉ ex → H' b = none
  there : ∀ b o, h.get? b = some o → b ∉ ex → ∃ o', h'.get? b = some o'
  tups : ∀ b xs, H b = some (.tup xs) → H' b = some (.tup xs)
  frzs : ∀ b o u, H b = some (.frz o u) → H' b = some (.frz o u)
  tbls : ∀ b ps, H b = some (.tbl ps) → ∃ more, H' b = some (.tbl (ps ++ more))
section
variable {fs fs' ex ex' : List Addr} {H H1 H2 : Hp} {h h1 h2 h' : Heap} {a x e : Addr} {o : HO}
theorem Un.any (u : Un fs ex H H1 h h1) {b : Addr} {ob : Obj} (q : h.get? b = some ob) (n : H b = none) (hx : b ∉ ex) : ∃ sl, h1.get? b = some { ob with slots := sl } := by
  by_cases hb : b ∈ fs
  · exact u.slot b ob q n hb hx
  · exact ⟨ob.slots, u.keep b ob q n hb hx⟩
theorem Un.trans (a : Un fs ex H H1 h h1) (b : Un fs ex H1 H2 h1 h2) : Un fs ex H H2 h h2 where
  keep := fun c ob q n hc hx => b.keep c ob (a.keep c ob q n hc hx) (a.free c ob q n hx) hc hx
  slot := fun c ob q n hc hx => by
    obtain ⟨sl, e1⟩ := a.slot c ob q n hc hx
    obtain ⟨sl', e2⟩ := b.slot c _ e1 (a.free c ob q n hx) hc hx
    exact ⟨sl', e2⟩
  free := fun c ob q n hx => by
    obtain ⟨o', e1⟩ := a.there c ob q hx
    exact b.free c o' e1 (a.free c ob q n hx) hx
  there := fun c ob q hx => by
    obtain ⟨o', e1⟩ := a.there c ob q hx
    exact b.there c o' e1 hx
  tups := fun c xs q => b.tups c xs (a.tups c xs q)
  frzs := fun c ob xs q => b.frzs c ob xs (a.frzs c ob xs q)
  tbls := fun c ps q => by
    obtain ⟨m1, e1⟩ := a.tbls c ps q
    obtain ⟨m2, e2⟩ := b.tbls c _ e1
    exact ⟨m1 ++ m2, by rw [e2, Array.append_assoc]⟩
theorem Un.kept (k : ∀ b u, h.get? b = some u → h'.get? b = some u) : Un fs ex H H h h' :=
  ⟨fun b ob q _ _ _ => k b ob q, fun b ob q _ _ _ => ⟨ob.slots, k b ob q⟩, fun _ _ _ n _ => n, fun b ob q _ => ⟨ob, k b ob q⟩, fun _ _ q => q, fun _ _ _ q => q, fun _ ps q => ⟨#[], by rw [q]; simp⟩⟩
theorem Un.refl : Un fs ex H H h h := Un.kept fun _ _ q => q
theorem Un.laid (k : ∀ b u, h.get? b = some u → h'.get? b = some u) (hp : h.objs.size ≤ a) (hn : H a = none) : Un fs ex H (upd H a o) h h' where
  keep := fun b u q _ _ _ => k b u q
  slot := fun b u q _ _ _ => ⟨u.slots, k b u q⟩
  free := fun b u q n _ => by rw [upd_ne (Nat.ne_of_lt (Nat.lt_of_lt_of_le (Heap.lt_size q) hp))]; exact n
  there := fun b u q _ => ⟨u, k b u q⟩
  tups := fun b xs q => by rw [upd_ne (ne_of_none q hn)]; exact q
  frzs := fun b u xs q => by rw [upd_ne (ne_of_none q hn)]; exact q
  tbls := fun b ps q => ⟨#[], by rw [upd_ne (ne_of_none q hn), q]; simp⟩
theorem Un.write (mu : Mut (H x)) (he : e = x ∨ H e = some (.own x)) (k : ∀ b u, b ≠ e → h.get? b = some u → h'.get? b = some u) (heo : ∃ u, h'.get? e = some u) : Un fs ex H (upd H x o) h h' := by
  have hx : ∀ b, H b = none → b ≠ x := fun b n z => by subst z; rw [n] at mu; exact mu
  have hb : ∀ b, H b = none → b ≠ e := fun b n z => by
    subst z
    rcases he with r | r
    · exact hx b n r
    · rw [n] at r; cases r
  have hm : ∀ b u, H b = some u → ¬ Mut (some u) → b ≠ x := fun b u q nm z => by subst z; rw [q] at mu; exact nm mu
  refine ⟨fun b u q n _ _ => k b u (hb b n) q, fun b u q n _ _ => ⟨u.slots, k b u (hb b n) q⟩, fun b u q n _ => by rw [upd_ne (hx b n)]; exact n, fun b u q _ => ?_,
    fun b xs q => by rw [upd_ne (hm b _ q fun z => z)]; exact q, fun b u xs q => by rw [upd_ne (hm b _ q fun z => z)]; exact q, fun b ps q => ⟨#[], by rw [upd_ne (hm b _ q fun z => z), q]; simp⟩⟩
  by_cases hbe : b = e
  · subst hbe; exact heo
  · exact ⟨u, k b u hbe q⟩
theorem Un.mono (u : Un fs ex H H1 h h1) (hs : ∀ b ∈ fs, b ∈ fs') (hx : ∀ b ∈ ex, b ∈ ex') : Un fs' ex' H H1 h h1 :=
  ⟨fun b ob q n hb he => u.keep b ob q n (fun z => hb (hs b z)) fun z => he (hx b z), fun _ _ q n _ he => u.any q n fun z => he (hx _ z), fun b ob q n he => u.free b ob q n fun z => he (hx b z), fun b ob q he => u.there b ob q fun z => he (hx b z), u.tups, u.frzs, u.tbls⟩
end
def trk (h : Heap) (H : Hp) : List Addr := (List.range h.objs.size).filter fun a => (H a).isSome
def hidT (h : Heap) (H : Hp) : Heap := PySem.W.hideAll h (trk h H)
theorem hidT_size (h : Heap) (H : Hp) : (hidT h H).objs.size = h.objs.size := PySem.W.hideAll_size _ _
theorem hidT_get {h : Heap} {H : Hp} {b : Addr} {o : Obj} (e : h.get? b = some o) (n : H b = none) : (hidT h H).get? b = some o :=
  PySem.W.hideAll_get _ e fun hm => by
    have q : (H b).isSome = true := (List.mem_filter.mp hm).2
    rw [n] at q; simp at q
theorem of_hidT {h : Heap} {H : Hp} {b : Addr} {o : Obj} (e : (hidT h H).get? b = some o) : h.get? b = some o ∧ H b = none := by
  have e' : h.get? b = some o := PySem.W.of_hideAll (trk h H) e
  refine ⟨e', ?_⟩
  cases q : H b with
  | none => rfl
  | some x =>
    have hm : b ∈ trk h H := List.mem_filter.mpr ⟨List.mem_range.mpr (Heap.lt_size e'), by simp [q]⟩
    have z : (hidT h H).get? b = none := PySem.W.hideAll_none (trk h H) hm
    rw [z] at e; cases e
def allNews (g h : Heap) (L : Addr) : List (Addr × Obj) := (List.range h.objs.size).filterMap fun a => if a = L ∨ (g.get? a).isSome = true then none else (h.get? a).map fun o => (a, o)
def rest (g h : Heap) (L d : Addr) : List (Addr × Obj) := (allNews g h L).filter fun p => decide (p.1 ≠ d)
end L2
namespace L2
open PySem PySem.Spec PyProof.Rows
structure Mod (K : PySem.W.Frag) (mg : Str → Option Value) (base : Heap) : Prop where
  kin : K.In base
  glob : base.Ns mainGlobals mg
  blt : ∃ mb, base.Ns builtinsNs mb ∧ ∀ x : Str, x ≠ "__name__" → mb x = bootBuiltins x
  nolimit : base.NoLimit
structure Cx where
  prog : Program
  w : World
  K : PySem.W.Frag
  mg : Str → Option Value
  base : Heap
  A : Around
  N : List Str
  s_0 : Shared
  H_0 : Hp
  env : Env
  outer : List Env
  stack : List Env
  ex : List Addr
  fn : Str → Bool
  calm : Bool
  pn : List (Addr × Obj)
  xe : Value → Shared → Prop
def frs (l : List Env) : List Addr := l.filterMap (·.frame)
abbrev Cx.fs (X : Cx) : List Addr := frs X.outer
def Vis (sc : Scope) (x : Str) : Prop := sc.names.lookup x = some .local ∨ sc.names.lookup x = some .cell ∨ sc.names.lookup x = some .free
def Loc (sc : Scope) (x : Str) : Prop := sc.names.lookup x = some .local ∨ sc.names.lookup x = some .cell
def Look (env : Env) (h : Heap) (m : Str → Option Value) (x : Str) (u : Value) : Prop :=
  (env.kindOf x = some .local ∧ m x = some u) ∨ ((env.kindOf x = some .cell ∨ env.kindOf x = some .free) ∧ ∃ c, env.cells.lookup x = some c ∧ h.IsCell c (some u))
structure Cx.Ok (X : Cx) : Prop where
  mod : Mod X.K X.mg X.base
  kind : X.env.scope.kind = .function
  glob : X.env.globals = mainGlobals
  blt : X.env.builtins = builtinsNs
  above : X.s_0.heap.objs.size ≤ X.env.locals
  inj : ∀ x y c, X.env.cells.lookup x = some c → X.env.cells.lookup y = some c → x = y
  has : ∀ x, (X.env.kindOf x = some .cell ∨ X.env.kindOf x = some .free) → ∃ c, X.env.cells.lookup x = some c
  cab : ∀ x c, X.fn x = true → X.env.cells.lookup x = some c → X.s_0.heap.objs.size ≤ c
  hd : X.calm = true → X.A.handled = none
  frames : X.A.frames = some X.stack
  stk : X.stack = X.outer ∨ (X.stack = X.env :: X.outer ∧ X.env.frame = some X.env.locals)
  exf : ∀ b ∈ X.ex, b ≠ X.env.locals ∧ ∀ x c, X.env.cells.lookup x = some c → c ≠ b
  bs : ∀ b o, X.base.get? b = some o → X.s_0.heap.get? b = some o ∧ X.H_0 b = none
  bsz : X.base.objs.size ≤ X.s_0.heap.objs.size
  noex : ∀ b o, X.base.get? b = some o → b ∉ X.ex
  exfs : ∀ b ∈ X.ex, b ∉ X.fs
  funs : X.s_0.heap.FunFrames X.base X.outer
  frf : ∀ b ∈ X.fs, X.H_0 b = none
structure Inv (X : Cx) (pins : List (Addr × Obj)) (σ : List (Option V)) (H : Hp) (s : Shared) : Prop where
  ok : X.Ok
  os : s.os = X.s_0.os
  bare : AllBare s.gens
  base : Un X.fs X.ex X.H_0 H X.s_0.heap s.heap
  loc : ∃ m, s.heap.Ns X.env.locals m ∧ ∀ (i : Nat) (x : Str) (v : V), X.N[i]? = some x → σ[i]? = some (some v) → Vis X.env.scope x → ∃ u, RelV v u ∧ Look X.env s.heap m x u
  cell : ∀ x c, X.env.cells.lookup x = some c → ∃ v, s.heap.IsCell c v
  free : H X.env.locals = none
  freeC : ∀ x c, X.env.cells.lookup x = some c → H c = none
  pin : ∀ p ∈ X.pn ++ pins, s.heap.get? p.1 = some p.2 ∧ H p.1 = none ∧ p.1 ≠ X.env.locals ∧ p.1 ∉ X.fs ∧ ∀ v, p.2.data ≠ .cell v
  hok : HOk X.prog X.w H s.heap
  len : σ.length = X.N.length
section
variable {X : Cx} {pins : List (Addr × Obj)} {σ : List (Option V)} {H H' : Hp} {s : Shared} {h' : Heap}
theorem Cx.Ok.nofr (ok : X.Ok) {b : Addr} {o : Obj} (e : X.base.get? b = some o) : b ∉ X.fs := fun hb => by
  have := (ok.funs.mem hb).1
  rw [e] at this; cases this
theorem Inv.bs (I : Inv X pins σ H s) : ∀ b o, X.base.get? b = some o → s.heap.get? b = some o ∧ H b = none := fun b o e =>
  ⟨I.base.keep b o (I.ok.bs b o e).1 (I.ok.bs b o e).2 (I.ok.nofr e) (I.ok.noex b o e), I.base.free b o (I.ok.bs b o e).1 (I.ok.bs b o e).2 (I.ok.noex b o e)⟩
theorem Inv.bk (I : Inv X pins σ H s) : ∀ b o, X.base.get? b = some o → s.heap.get? b = some o := fun b o e => (I.bs b o e).1
theorem Inv.mod (I : Inv X pins σ H s) : Mod X.K X.mg X.base := I.ok.mod
theorem Inv.kIn (I : Inv X pins σ H s) : X.K.In s.heap := I.ok.mod.kin.keeps I.bk
theorem Inv.nolimit (I : Inv X pins σ H s) : s.heap.NoLimit := I.ok.mod.nolimit.keeps I.bk
theorem Inv.fr (I : Inv X pins σ H s) : ∃ m, Fr X.base X.env.locals s.heap m :=
  let ⟨m, hn, _⟩ := I.loc
  ⟨m, hn, I.bk, Nat.le_trans I.ok.bsz I.ok.above⟩
theorem Inv.lt (I : Inv X pins σ H s) : X.env.locals < s.heap.objs.size := let ⟨_, hn, _⟩ := I.loc; hn.lt
theorem Inv.sz (I : Inv X pins σ H s) : X.s_0.heap.objs.size ≤ s.heap.objs.size := Nat.le_trans I.ok.above (Nat.le_of_lt I.lt)
theorem Inv.nofs (I : Inv X pins σ H s) {a : Addr} (h : s.heap.objs.size ≤ a) : a ∉ X.fs := fun hb => by
  obtain ⟨_, o, ho, _⟩ := I.ok.funs.mem hb
  exact absurd (Nat.lt_of_lt_of_le (Heap.lt_size ho) (Nat.le_trans I.sz h)) (Nat.lt_irrefl _)
theorem Inv.cne (I : Inv X pins σ H s) : ∀ x c, X.env.cells.lookup x = some c → c ≠ X.env.locals := fun x c e z => by
  obtain ⟨v, o, ho, hd⟩ := I.cell x c e
  obtain ⟨m, ⟨o', es, ep, ho', hd', _⟩, _⟩ := I.loc
  rw [z, ho'] at ho; cases ho; rw [hd'] at hd; cases hd
theorem Inv.funs (I : Inv X pins σ H s) : s.heap.FunFrames X.base X.outer := by
  have all : ∀ (l : List Env), (∀ b ∈ frs l, b ∈ X.fs) → X.s_0.heap.FunFrames X.base l → s.heap.FunFrames X.base l := by
    intro l
    induction l with
    | nil => intro _ _; trivial
    | cons env r ih =>
      intro hs hl
      obtain ⟨hk, ⟨L, o, hf, hn, ho, hd⟩, hr⟩ := hl
      have hL : L ∈ X.fs := hs L (by unfold frs; rw [List.filterMap_cons, hf]; exact List.mem_cons_self)
      obtain ⟨sl, e⟩ := I.base.slot L o ho (I.ok.frf L hL) hL fun z => I.ok.exfs L z hL
      exact ⟨hk, ⟨L, _, hf, hn, e, hd⟩, ih (fun b hb => hs b (by unfold frs; rw [List.filterMap_cons, hf]; exact List.mem_cons_of_mem _ hb)) hr⟩
  exact all X.outer (fun _ hb => hb) I.ok.funs
theorem Inv.stack (I : Inv X pins σ H s) : s.heap.FunFrames X.base X.stack := by
  rcases I.ok.stk with e | ⟨e, hf⟩
  · rw [e]; exact I.funs
  · rw [e]
    obtain ⟨m, hn, _⟩ := I.loc
    refine .cons (by rw [I.ok.kind]; decide) hf hn ?_ I.funs
    exact Heap.get?_none_of_le (Nat.le_trans I.ok.bsz I.ok.above)
theorem Inv.stkSub (I : Inv X pins σ H s) : ∀ b ∈ frs X.stack, b ∈ X.env.locals :: X.fs := fun b hb => by
  rcases I.ok.stk with e | ⟨e, hf⟩
  · rw [e] at hb; exact List.mem_cons_of_mem _ hb
  · rw [e] at hb
    unfold frs at hb
    rw [List.filterMap_cons, hf] at hb
    exact hb
theorem Inv.stkFree (I : Inv X pins σ H s) : ∀ b ∈ frs X.stack, H b = none := fun b hb => by
  rcases List.mem_cons.mp (I.stkSub b hb) with e | hb
  · rw [e]; exact I.free
  · obtain ⟨_, o, ho, _⟩ := I.ok.funs.mem hb
    exact I.base.free b o ho (I.ok.frf b hb) fun z => I.ok.exfs b z hb
theorem Inv.step {g' : Array GenState} {t' : Nat} {d' : Drawn} {ch : List Addr} (I : Inv X pins σ H s)
    (hch : ∀ b ∈ ch, (b ∈ X.ex ∨ X.s_0.heap.objs.size ≤ b) ∧ b ≠ X.env.locals ∧ (∀ x c, X.env.cells.lookup x = some c → c ≠ b) ∧ ∀ p ∈ X.pn ++ pins, p.1 ≠ b)
    (keep : ∀ b o, b ≠ X.env.locals → b ∉ X.fs → b ∉ ch → s.heap.get? b = some o → H b = none → h'.get? b = some o)
    (slot : ∀ b o, b ≠ X.env.locals → b ∈ X.fs → b ∉ ch → s.heap.get? b = some o → H b = none → ∃ sl, h'.get? b = some { o with slots := sl }) (free : ∀ b o, b ∉ ch → s.heap.get? b = some o → H b = none → H' b = none)
    (there : ∀ b o, b ∉ ch → s.heap.get? b = some o → ∃ o', h'.get? b = some o')
    (tups : ∀ b xs, H b = some (.tup xs) → H' b = some (.tup xs)) (frzs : ∀ b o u, H b = some (.frz o u) → H' b = some (.frz o u)) (tbls : ∀ b ps, H b = some (.tbl ps) → ∃ more, H' b = some (.tbl (ps ++ more)))
    (ns : ∀ m, s.heap.Ns X.env.locals m → h'.Ns X.env.locals m) (hok : HOk X.prog X.w H' h') (hg : AllBare g') :
    Inv X pins σ H' { s with heap := h', gens := g', drawn := d', toks := t' } := by
  have neL : ∀ b o, X.s_0.heap.get? b = some o → b ≠ X.env.locals := fun b o e => Nat.ne_of_lt (Nat.lt_of_lt_of_le (Heap.lt_size e) I.ok.above)
  have neC : ∀ b o, X.s_0.heap.get? b = some o → b ∉ X.ex → b ∉ ch := fun b o e hx hb => by
    rcases (hch b hb).1 with z | z
    · exact hx z
    · exact absurd (Nat.lt_of_lt_of_le (Heap.lt_size e) z) (Nat.lt_irrefl _)
  have cellK : ∀ x c, X.env.cells.lookup x = some c → ∀ v, s.heap.IsCell c v → h'.IsCell c v := fun x c e v ⟨o, ho, hd⟩ => by
    have nch : c ∉ ch := fun z => (hch c z).2.2.1 x c e rfl
    by_cases hc : c ∈ X.fs
    · obtain ⟨sl, q⟩ := slot c o (I.cne x c e) hc nch ho (I.freeC x c e)
      exact ⟨_, q, hd⟩
    · exact ⟨o, keep c o (I.cne x c e) hc nch ho (I.freeC x c e), hd⟩
  refine ⟨I.ok, I.os, hg, ⟨fun b o e n hb hx => ?_, fun b o e n hb hx => ?_, fun b o e n hx => ?_, fun b o e hx => ?_, fun b xs e => tups b xs (I.base.tups b xs e), fun b o xs e => frzs b o xs (I.base.frzs b o xs e), fun b ps e => ?_⟩, ?_, fun x c e => ?_, ?_, fun x c e => ?_, fun p hp => ?_, hok, I.len⟩
  · exact keep b o (neL b o e) hb (neC b o e hx) (I.base.keep b o e n hb hx) (I.base.free b o e n hx)
  · obtain ⟨sl, e1⟩ := I.base.slot b o e n hb hx
    obtain ⟨sl', e2⟩ := slot b _ (neL b o e) hb (neC b o e hx) e1 (I.base.free b o e n hx)
    exact ⟨sl', e2⟩
  · obtain ⟨o', e1⟩ := I.base.there b o e hx
    exact free b o' (neC b o e hx) e1 (I.base.free b o e n hx)
  · obtain ⟨o', e1⟩ := I.base.there b o e hx
    exact there b o' (neC b o e hx) e1
  · obtain ⟨m1, e1⟩ := I.base.tbls b ps e
    obtain ⟨m2, e2⟩ := tbls b _ e1
    exact ⟨m1 ++ m2, by rw [e2, Array.append_assoc]⟩
  · obtain ⟨m, hn, hl⟩ := I.loc
    refine ⟨m, ns m hn, fun i x v e1 e2 e3 => ?_⟩
    obtain ⟨u, r, l⟩ := hl i x v e1 e2 e3
    refine ⟨u, r, ?_⟩
    rcases l with l | ⟨k, c, e, z⟩
    · exact .inl l
    · exact .inr ⟨k, c, e, cellK x c e _ z⟩
  · obtain ⟨v, z⟩ := I.cell x c e
    exact ⟨v, cellK x c e v z⟩
  · obtain ⟨m, ⟨o, _, _, ho, _⟩, _⟩ := I.loc
    exact free _ o (fun z => (hch _ z).2.1 rfl) ho I.free
  · obtain ⟨v, o, ho, hd⟩ := I.cell x c e
    exact free c o (fun z => (hch c z).2.2.1 x c e rfl) ho (I.freeC x c e)
  · obtain ⟨e, n, ne, nf, d⟩ := I.pin p hp
    have nch : p.1 ∉ ch := fun z => (hch p.1 z).2.2.2 p hp rfl
    exact ⟨keep p.1 p.2 ne nf nch e n, free p.1 p.2 nch e n, ne, nf, d⟩
theorem Inv.un {t' : Nat} (I : Inv X pins σ H s) (u : Un X.fs [] H H' s.heap h') (hok : HOk X.prog X.w H' h') : Inv X pins σ H' { s with heap := h', toks := t' } := by
  obtain ⟨m, ⟨o, es, ep, ho, r⟩, _⟩ := id I.loc
  obtain ⟨sl, hL⟩ := u.any ho I.free (by simp)
  exact I.step (g' := s.gens) (d' := s.drawn) (ch := []) (fun _ z => nomatch z) (fun b o _ hb _ e n => u.keep b o e n hb (by simp)) (fun b o _ hb _ e n => u.slot b o e n hb (by simp)) (fun b o _ e n => u.free b o e n (by simp)) (fun b o _ e => u.there b o e (by simp)) u.tups u.frzs u.tbls (fun m' hm => by
    obtain ⟨o', es', ep', ho', r'⟩ := hm
    rw [ho] at ho'; cases ho'
    exact ⟨_, es', ep', hL, r'⟩) hok I.bare
theorem Inv.call {g' : Array GenState} {t' : Nat} {d' : Drawn} {ch : List Addr} (I : Inv X pins σ H s) (u : Un (frs X.stack) ch H H' s.heap h') (hok : HOk X.prog X.w H' h') (hg : AllBare g')
    (hch : ∀ b ∈ ch, (b ∈ X.ex ∨ X.s_0.heap.objs.size ≤ b) ∧ b ≠ X.env.locals ∧ (∀ x c, X.env.cells.lookup x = some c → c ≠ b) ∧ ∀ p ∈ X.pn ++ pins, p.1 ≠ b) :
    Inv X pins σ H' { s with heap := h', gens := g', drawn := d', toks := t' } := by
  obtain ⟨m, ⟨o, es, ep, ho, r⟩, _⟩ := id I.loc
  obtain ⟨sl, hL⟩ := u.any ho I.free fun z => (hch _ z).2.1 rfl
  exact I.step (ch := ch) hch (fun b o hL hb hc e n => u.keep b o e n (fun z => (List.mem_cons.mp (I.stkSub b z)).elim hL hb) hc) (fun b o _ _ hc e n => u.any e n hc) (fun b o hc e n => u.free b o e n hc) (fun b o hc e => u.there b o e hc) u.tups u.frzs u.tbls (fun m' hm => by
    obtain ⟨o', es', ep', ho', r'⟩ := hm
    rw [ho] at ho'; cases ho'
    exact ⟨_, es', ep', hL, r'⟩) hok hg
theorem Inv.turned {t' : Nat} {it : Addr} (I : Inv X pins σ H s) (k : ∀ b o, b ≠ it → s.heap.get? b = some o → h'.get? b = some o) (hn : H it = none) (hL : it ≠ X.env.locals)
    (h1 : it ∈ X.ex ∨ X.s_0.heap.objs.size ≤ it) (h2 : ∀ x c, X.env.cells.lookup x = some c → c ≠ it) (h3 : ∀ p ∈ X.pn ++ pins, p.1 ≠ it) : Inv X pins σ H { s with heap := h', toks := t' } := by
  have nit : ∀ b u, H b = some u → b ≠ it := fun b u e z => by rw [z, hn] at e; cases e
  refine I.step (g' := s.gens) (d' := s.drawn) (ch := [it]) (fun b hb => ?_) (fun b o _ _ hc e _ => k b o (fun z => hc (by simp [z])) e) (fun b o _ _ hc e _ => ⟨o.slots, k b o (fun z => hc (by simp [z])) e⟩) (fun _ _ _ _ n => n)
    (fun b o hc e => ⟨o, k b o (fun z => hc (by simp [z])) e⟩) (fun _ _ e => e) (fun _ _ _ e => e) (fun b ps e => ⟨#[], by rw [e]; simp⟩) (fun m hm => ?_) (fun b u e => ?_) I.bare
  · have e : b = it := by simpa using hb
    subst e
    exact ⟨h1, hL, h2, h3⟩
  · obtain ⟨o, es, ep, ho, r⟩ := hm
    exact ⟨o, es, ep, k _ o (Ne.symm hL) ho, r⟩
  · refine (I.hok b u e).stay (fun c v hc q => k c v ?_ q) (fun _ q => q) fun _ _ q => q
    rcases hc with z | z
    · rw [z]; exact nit b u e
    · exact nit c _ z
theorem Inv.tok (I : Inv X pins σ H s) (t : Nat) : Inv X pins σ H { s with toks := t } := I.un (h' := s.heap) (t' := t) Un.refl I.hok
theorem Inv.kept {t' : Nat} (I : Inv X pins σ H s) (k : ∀ b u, s.heap.get? b = some u → h'.get? b = some u) : Inv X pins σ H { s with heap := h', toks := t' } := I.un (Un.kept k) (I.hok.kept k)
theorem Inv.laid {a : Addr} {o : HO} {t' : Nat} (I : Inv X pins σ H s) (k : ∀ b u, s.heap.get? b = some u → h'.get? b = some u) (hp : s.heap.objs.size ≤ a) (new : ObjOk X.prog X.w (upd H a o) h' a o) :
    Inv X pins σ (upd H a o) { s with heap := h', toks := t' } := I.un (Un.laid k hp (I.hok.fresh hp)) (I.hok.laid k hp new)
theorem Inv.write {x e : Addr} {o : HO} {t' : Nat} (I : Inv X pins σ H s) (mu : Mut (H x)) (he : e = x ∨ H e = some (.own x)) (k : ∀ b u, b ≠ e → s.heap.get? b = some u → h'.get? b = some u) (heo : ∃ u, h'.get? e = some u)
    (new : ObjOk X.prog X.w (upd H x o) h' x o) : Inv X pins σ (upd H x o) { s with heap := h', toks := t' } := I.un (Un.write mu he k heo) (I.hok.write mu he k heo new)
theorem Inv.weak {σ' : List (Option V)} (I : Inv X pins σ H s) (hl : σ'.length = σ.length) (w : ∀ (i : Nat) v, σ'[i]? = some (some v) → σ[i]? = some (some v)) : Inv X pins σ' H s :=
  ⟨I.ok, I.os, I.bare, I.base, let ⟨m, hn, hl'⟩ := I.loc; ⟨m, hn, fun i x v e1 e2 e3 => hl' i x v e1 (w i v e2) e3⟩, I.cell, I.free, I.freeC, I.pin, I.hok, hl.trans I.len⟩
theorem Inv.pins_of {pins' : List (Addr × Obj)} (I : Inv X pins σ H s) (h : ∀ p ∈ pins', s.heap.get? p.1 = some p.2 ∧ H p.1 = none ∧ p.1 ≠ X.env.locals ∧ p.1 ∉ X.fs ∧ ∀ v, p.2.data ≠ .cell v) : Inv X pins' σ H s :=
  ⟨I.ok, I.os, I.bare, I.base, I.loc, I.cell, I.free, I.freeC, fun p hp => (List.mem_append.mp hp).elim (fun z => I.pin p (List.mem_append_left _ z)) (h p), I.hok, I.len⟩
theorem nodup_ix {N : List Str} (hN : N.Nodup) {i j : Nat} {x : Str} (a : N[i]? = some x) (b : N[j]? = some x) : i = j := by
  obtain ⟨h1, e1⟩ := List.getElem?_eq_some_iff.mp a
  obtain ⟨h2, e2⟩ := List.getElem?_eq_some_iff.mp b
  exact (List.getElem_inj hN).mp (e1.trans e2.symm)
theorem store_ok2 {M : Model} {A : Around} {E : Value → Shared → Prop} {i : Nat} {x : Str} {v : V} {u : Value} {Q : Unit → Shared → Prop} (I : Inv X pins σ H s) (hN : X.N.Nodup) (hi : X.N[i]? = some x) (hx : Loc X.env.scope x) (r : RelV v u)
    (h : ∀ s', Inv X pins (σ.set i (some v)) H s' → (∃ a, Heap.SameBut a s.heap s'.heap ∧ (a = X.env.locals ∨ X.env.cells.lookup x = some a)) → Q () s') (hf : X.fn x = true ∨ X.env.scope.names.lookup x = some .local := by first | exact .inl rfl | exact .inr rfl | assumption) : wpAny M A (storeName X.env x u) Q E s := by
  obtain ⟨m, hn, hl⟩ := id I.loc
  have hcls : (X.env.scope.kind == .class || (X.env.scope.kind == .module && X.env.locals != X.env.globals)) = false := by rw [I.ok.kind]; rfl
  have hiσ : i < σ.length := by rw [I.len]; exact (List.getElem?_eq_some_iff.mp hi).1
  have cne := I.cne
  have tracked : ∀ {a : Addr} {h' : Heap}, (∃ o, s.heap.get? a = some o ∧ H a = none) → Heap.SameBut a s.heap h' → HOk X.prog X.w H h' := fun {a h'} ha hs b ob e => by
    obtain ⟨_, _, hfree⟩ := ha
    refine (I.hok b ob e).stay (fun c w' hc q => (hs.2 c ?_).trans q) (fun _ q => q) fun _ _ q => q
    rintro rfl
    rcases hc with rfl | hc
    · rw [hfree] at e; cases e
    · rw [hfree] at hc; cases hc
  rcases hx with hk | hk
  · refine wpAny_storeName_local hk hn (fun h' hn' hs => ?_) hcls
    obtain ⟨oL, _, _, hoL, _⟩ := id hn
    refine h _ ⟨I.ok, I.os, I.bare, ⟨fun b o e n hb hx => ?_, fun b o e n hb hx => ?_, I.base.free, fun b o e hx => ?_, I.base.tups, I.base.frzs, I.base.tbls⟩, ⟨_, hn', fun j y v' e1 e2 e3 => ?_⟩, fun y c e => ?_, I.free, I.freeC, fun p hp => ?_, tracked ⟨oL, hoL, I.free⟩ hs, by simpa using I.len⟩ ⟨_, hs, .inl rfl⟩
    · exact (hs.2 b (Nat.ne_of_lt (Nat.lt_of_lt_of_le (Heap.lt_size e) I.ok.above))).trans (I.base.keep b o e n hb hx)
    · obtain ⟨sl, e1⟩ := I.base.slot b o e n hb hx
      exact ⟨sl, (hs.2 b (Nat.ne_of_lt (Nat.lt_of_lt_of_le (Heap.lt_size e) I.ok.above))).trans e1⟩
    · obtain ⟨o', e1⟩ := I.base.there b o e hx
      exact ⟨o', (hs.2 b (Nat.ne_of_lt (Nat.lt_of_lt_of_le (Heap.lt_size e) I.ok.above))).trans e1⟩
    · by_cases hj : j = i
      · subst hj
        rw [hi] at e1; cases e1
        rw [List.getElem?_set_self hiσ] at e2
        cases e2
        exact ⟨u, r, .inl ⟨hk, by simp⟩⟩
      · rw [List.getElem?_set_ne (Ne.symm hj)] at e2
        obtain ⟨u', r', q⟩ := hl j y v' e1 e2 e3
        refine ⟨u', r', ?_⟩
        rcases q with ⟨k, e⟩ | ⟨k, c, e, z⟩
        · refine .inl ⟨k, ?_⟩
          have : y ≠ x := fun e => hj (nodup_ix hN e1 (e ▸ hi))
          simp [this, e]
        · exact .inr ⟨k, c, e, z.sameBut hs (cne y c e)⟩
    · obtain ⟨w', z⟩ := I.cell y c e
      exact ⟨w', z.sameBut hs (cne y c e)⟩
    · obtain ⟨e, n, ne, nf, d⟩ := I.pin p hp
      exact ⟨(hs.2 p.1 ne).trans e, n, ne, nf, d⟩
  · have hfn : X.fn x = true := by
      rcases hf with z | z
      · exact z
      · rw [z] at hk; cases hk
    obtain ⟨c, hc⟩ := I.ok.has x (.inl hk)
    obtain ⟨w', z⟩ := I.cell x c hc
    refine wpAny_storeName_cell I.ok.kind hk hc z (fun h' hc' hs => ?_)
    obtain ⟨oc, hoc, hocd⟩ := id z
    refine h { s with heap := h' } ⟨I.ok, I.os, I.bare, ⟨fun b o e n hb hx => ?_, fun b o e n hb hx => ?_, I.base.free, fun b o e hx => ?_, I.base.tups, I.base.frzs, I.base.tbls⟩, ⟨m, hn.sameBut hs (Ne.symm (cne x c hc)), fun j y v' e1 e2 e3 => ?_⟩, fun y c' e => ?_, I.free, I.freeC, fun p hp => ?_, tracked ⟨oc, hoc, I.freeC x c hc⟩ hs, by simpa using I.len⟩ ⟨c, hs, .inr hc⟩
    · exact (hs.2 b (Nat.ne_of_lt (Nat.lt_of_lt_of_le (Heap.lt_size e) (I.ok.cab x c hfn hc)))).trans (I.base.keep b o e n hb hx)
    · obtain ⟨sl, e1⟩ := I.base.slot b o e n hb hx
      exact ⟨sl, (hs.2 b (Nat.ne_of_lt (Nat.lt_of_lt_of_le (Heap.lt_size e) (I.ok.cab x c hfn hc)))).trans e1⟩
    · obtain ⟨o', e1⟩ := I.base.there b o e hx
      exact ⟨o', (hs.2 b (Nat.ne_of_lt (Nat.lt_of_lt_of_le (Heap.lt_size e) (I.ok.cab x c hfn hc)))).trans e1⟩
    · by_cases hj : j = i
      · subst hj
        rw [hi] at e1; cases e1
        rw [List.getElem?_set_self hiσ] at e2
        cases e2
        exact ⟨u, r, .inr ⟨.inl hk, c, hc, hc'⟩⟩
      · rw [List.getElem?_set_ne (Ne.symm hj)] at e2
        obtain ⟨u', r', q⟩ := hl j y v' e1 e2 e3
        refine ⟨u', r', ?_⟩
        rcases q with q | ⟨k, c', e, z'⟩
        · exact .inl q
        · refine .inr ⟨k, c', e, z'.sameBut hs ?_⟩
          rintro rfl
          exact hj (nodup_ix hN e1 (I.ok.inj _ _ _ e hc ▸ hi))
    · by_cases hcc : c' = c
      · subst hcc; exact ⟨_, hc'⟩
      · obtain ⟨w2, z2⟩ := I.cell y c' e
        exact ⟨w2, z2.sameBut hs hcc⟩
    · obtain ⟨e, n, ne, nf, d⟩ := I.pin p hp
      refine ⟨(hs.2 p.1 ?_).trans e, n, ne, nf, d⟩
      intro q
      rw [q, hoc] at e
      have q' : oc = p.2 := Option.some.inj e
      exact d w' (by rw [← q']; exact hocd)
theorem store_ok {M : Model} {A : Around} {E : Value → Shared → Prop} {i : Nat} {x : Str} {v : V} {u : Value} {Q : Unit → Shared → Prop} (I : Inv X pins σ H s) (hN : X.N.Nodup) (hi : X.N[i]? = some x) (hx : Loc X.env.scope x) (r : RelV v u)
    (h : ∀ s', Inv X pins (σ.set i (some v)) H s' → Q () s') (hf : X.fn x = true ∨ X.env.scope.names.lookup x = some .local := by first | exact .inl rfl | exact .inr rfl | assumption) : wpAny M A (storeName X.env x u) Q E s :=
  store_ok2 I hN hi hx r (fun s' I' _ => h s' I') hf
theorem Inv.call' {s' : Shared} {ch : List Addr} (I : Inv X pins σ H s) (ho : s'.os = s.os) (u : Un (frs X.stack) ch H H' s.heap s'.heap) (hok : HOk X.prog X.w H' s'.heap) (hg : AllBare s'.gens)
    (hch : ∀ b ∈ ch, (b ∈ X.ex ∨ X.s_0.heap.objs.size ≤ b) ∧ b ≠ X.env.locals ∧ (∀ x c, X.env.cells.lookup x = some c → c ≠ b) ∧ ∀ p ∈ X.pn ++ pins, p.1 ≠ b) : Inv X pins σ H' s' := by
  obtain ⟨h', g', d', t', o'⟩ := s'
  have e : o' = s.os := ho
  subst e
  exact I.call (g' := g') (t' := t') (d' := d') u hok hg hch
end
abbrev XK := Value → Option Addr → Hp → Prop
abbrev St := List (Option V)
abbrev VK := V → Hp → Prop
abbrev TE := St → Hp → VK → Prop
abbrev TT := St → Hp → (Bool → Hp → Prop) → Prop
abbrev TA := St → Hp → (List V → Hp → Prop) → Prop
structure Ends where
  nx : St → Hp → Prop
  rt : VK
  bk : St → Hp → Prop := fun _ _ => False
  ct : St → Hp → Prop := fun _ _ => False
abbrev TS := Ends → St → Hp → Prop
def EP (X : Cx) (pins : List (Addr × Obj)) (σ : St) (Q : VK) (u : Value) (s' : Shared) : Prop := ∃ v H', Inv X pins σ H' s' ∧ RelV v u ∧ Q v H'
def TP (X : Cx) (pins : List (Addr × Obj)) (σ : St) (Q : Bool → Hp → Prop) (b : Bool) (s' : Shared) : Prop := ∃ H', Inv X pins σ H' s' ∧ Q b H'
def AP (X : Cx) (pins : List (Addr × Obj)) (σ : St) (Q : List V → Hp → Prop) (us : List Value) (s' : Shared) : Prop := ∃ vs H', Inv X pins σ H' s' ∧ Vals vs us ∧ Q vs H'
def SP (X : Cx) (pins : List (Addr × Obj)) (D : Ends) (f : Flow) (s' : Shared) : Prop :=
  match f with
  | .next => ∃ σ' H', Inv X pins σ' H' s' ∧ D.nx σ' H'
  | .brk => ∃ σ' H', Inv X pins σ' H' s' ∧ D.bk σ' H'
  | .cont => ∃ σ' H', Inv X pins σ' H' s' ∧ D.ct σ' H'
  | .ret u => ∃ v σ' H', Inv X pins σ' H' s' ∧ RelV v u ∧ D.rt v H'
def PE (X : Cx) (e : Expr) (t : TE) : Prop :=
  ∀ (pins : List (Addr × Obj)) (s : Shared) (σ : St) (H : Hp) (Q : VK), Inv X pins σ H s → t σ H Q → wpAny (model X.prog X.w) X.A (eval e X.env) (EP X pins σ Q) X.xe s
def PT (X : Cx) (e : Expr) (t : TT) : Prop :=
  ∀ (pins : List (Addr × Obj)) (s : Shared) (σ : St) (H : Hp) (Q : Bool → Hp → Prop), Inv X pins σ H s → t σ H Q → wpAny (model X.prog X.w) X.A (isTrue e X.env (eval e X.env)) (TP X pins σ Q) X.xe s
def PW (X : Cx) (e : Expr) (t : TT) : Prop :=
  ∀ (whole : Sem Value) (pins : List (Addr × Obj)) (s : Shared) (σ : St) (H : Hp) (Q : Bool → Hp → Prop), Inv X pins σ H s → t σ H Q → wpAny (model X.prog X.w) X.A (isTrue e X.env whole) (TP X pins σ Q) X.xe s
theorem PW.pt {X : Cx} {e : Expr} {t : TT} (h : PW X e t) : PT X e t := h _
def PA (X : Cx) (es : List Expr) (t : TA) : Prop :=
  ∀ (pos : Pos) (pins : List (Addr × Obj)) (s : Shared) (σ : St) (H : Hp) (Q : List V → Hp → Prop), Inv X pins σ H s → t σ H Q → wpAny (model X.prog X.w) X.A (spliced (backTo pos (starEach es X.env))) (AP X pins σ Q) X.xe s
def PS (X : Cx) (st : Stmt) (t : TS) : Prop :=
  ∀ (pins : List (Addr × Obj)) (s : Shared) (σ : St) (H : Hp) (D : Ends), Inv X pins σ H s → t D σ H → wpAny (model X.prog X.w) X.A (exec st X.env) (SP X pins D) X.xe s
def PSs (X : Cx) (st : List Stmt) (t : TS) : Prop :=
  ∀ (pins : List (Addr × Obj)) (s : Shared) (σ : St) (H : Hp) (D : Ends), Inv X pins σ H s → t D σ H → wpAny (model X.prog X.w) X.A (execs st X.env) (SP X pins D) X.xe s
theorem thn {α : Type} {t : Sem α} {Q Q' : α → Shared → Prop} {M : Model} {A : Around} {E : Value → Shared → Prop} {s : Shared} (h : wpAny M A t Q E s) (hQ : ∀ a s, Q a s → Q' a s) : wpAny M A t Q' E s := wpAny_mono h hQ fun _ _ x => x
end L2
namespace L2
open PySem PySem.Spec PyProof.Rows
section
variable {X : Cx}
def tVar (i : Nat) : TE := fun σ H Q => ∃ v, σ[i]? = some (some v) ∧ Q v H
def tC (v : V) : TE := fun _ H Q => Q v H
theorem pe_var {i : Nat} {x : Str} {pos : Pos} (hN : X.N[i]? = some x) (hv : Vis X.env.scope x) (hd : (x == ("__debug__" : Str)) = false := by decide) (hcd : (x == ("__classdict__" : Str)) = false := by decide) : PE X (.Name x pos) (tVar i) := by
  intro pins s σ H Q I h
  obtain ⟨v, e, h⟩ := h
  obtain ⟨m, hn, hl⟩ := I.loc
  obtain ⟨u, r, l⟩ := hl i x v hN e hv
  have fin : EP X pins σ Q u s := ⟨v, H, I, r, h⟩
  rcases l with ⟨hk, hm⟩ | ⟨hk, c, hc, hcell⟩
  · exact wpAny_Name (wpAny_loadName_local I.ok.kind hk hn hm fin) hd
  · rcases hk with hk | hk
    · exact wpAny_Name (wpAny_loadName_cell I.ok.kind hk hc hcell fin) hd
    · exact wpAny_Name (wpAny_loadName_free I.ok.kind hk hc hcell fin hcd) hd
theorem pe_int {i j pos} : PE X (.Constant (.int i) j pos) (tC (.int i)) := fun _ _ _ H _ I h => wpAny_Constant_int ⟨.int i, H, I.tok _, ⟨_, rfl⟩, h⟩
theorem pe_bl {b j pos} : PE X (.Constant (.bool b) j pos) (tC (.bl b)) := fun _ _ _ H _ I h => Constant_bool ⟨.bl b, H, I, rfl, h⟩
theorem pe_str {x j pos} : PE X (.Constant (.str x) j pos) (tC (.str x)) := fun _ _ _ H _ I h => Calls.Constant_str ⟨.str x, H, I.tok _, ⟨_, rfl⟩, h⟩
def Gl (X : Cx) (x : Str) : Prop := X.env.kindOf x = some .globalImplicit
theorem ld_glob {E : Value → Shared → Prop} {pins : List (Addr × Obj)} {s : Shared} {σ : St} {H : Hp} {x : Str} {u : Value} {pos : Pos} {Q : Value → Shared → Prop} (I : Inv X pins σ H s) (hg : Gl X x) (hm : X.mg x = some u) (h : Q u s)
    (hd : (x == ("__debug__" : Str)) = false := by decide) : wpAny (model X.prog X.w) X.A (eval (.Name x pos) X.env) Q E s :=
  Calls.Name_function_global I.ok.kind hg (Calls.loadGlobal_global (by rw [I.ok.glob]; exact I.mod.glob.keeps I.bk) hm h) hd
theorem ld_blt {E : Value → Shared → Prop} {pins : List (Addr × Obj)} {s : Shared} {σ : St} {H : Hp} {x : Str} {u : Value} {pos : Pos} {Q : Value → Shared → Prop} (I : Inv X pins σ H s) (hg : Gl X x) (hm : X.mg x = none) (hv : bootBuiltins x = some u) (h : Q u s)
    (hn : x ≠ "__name__" := by decide) (hd : (x == ("__debug__" : Str)) = false := by decide) : wpAny (model X.prog X.w) X.A (eval (.Name x pos) X.env) Q E s := by
  obtain ⟨mb, h1, h2⟩ := I.mod.blt
  exact Calls.Name_function_global I.ok.kind hg (Calls.loadGlobal_builtin (by rw [I.ok.glob]; exact I.mod.glob.keeps I.bk) hm (by rw [I.ok.blt]; exact h1.keeps I.bk) ((h2 x hn).trans hv) h) hd
theorem pe_glob {x : Str} {v : V} {u : Value} {pos : Pos} (hg : Gl X x) (hm : X.mg x = some u) (r : RelV v u) (hd : (x == ("__debug__" : Str)) = false := by decide) : PE X (.Name x pos) (tC v) :=
  fun _ _ _ H _ I h => ld_glob I hg hm ⟨v, H, I, r, h⟩ hd
theorem pe_bltn {x : Str} {v : V} {u : Value} {pos : Pos} (hg : Gl X x) (hm : X.mg x = none) (hv : bootBuiltins x = some u) (r : RelV v u) (hn : x ≠ "__name__" := by decide) (hd : (x == ("__debug__" : Str)) = false := by decide) : PE X (.Name x pos) (tC v) :=
  fun _ _ _ H _ I h => ld_blt I hg hm hv ⟨v, H, I, r, h⟩ hn hd
variable {a b : Expr} {ta tb : TE} {pos : Pos}
def tB (t : TE) : TT := fun σ H Q => t σ H fun x H1 => ∃ c, x = .bl c ∧ Q c H1
theorem pt_val {e : Expr} {t : TE} (h : PE X e t) (he : ∀ whole, isTrue e X.env whole = (do let v ← whole; standAt e.pos; holding [v] (truthy v)) := by intro _; rfl) : PT X e (tB t) := by
  intro pins s σ H Q I hw
  refine isTrue_plain (thn (h pins s σ H _ I hw) fun v s1 ⟨x, H1, I1, r1, q1⟩ => ?_) (he _)
  obtain ⟨d, rfl, q⟩ := q1
  cases r1
  exact wpAny_truthy_bool ⟨H1, I1, q⟩
variable {tA tB' : TT} {rest : List Expr}
def tOr (t u : TT) : TT := fun σ H Q => t σ H fun c H1 => if c = true then Q true H1 else u σ H1 Q
def tNot (t : TT) : TT := fun σ H Q => t σ H fun c H1 => Q (!c) H1
theorem pw_or1 (ha : PT X a tA) : PW X (.BoolOp .Or [a] pos) tA := by
  intro wh pins s σ H Q I h
  refine isTrue_or (thn (ha pins s σ H Q I h) fun c s1 e => ?_)
  cases c with
  | false => exact isTrue_or_nil e
  | true => exact e
theorem pw_or (ha : PT X a tA) (hb : PW X (.BoolOp .Or (b :: rest) pos) tB') : PW X (.BoolOp .Or (a :: b :: rest) pos) (tOr tA tB') := by
  intro wh pins s σ H Q I h
  refine isTrue_or (thn (ha pins s σ H _ I h) fun c s1 ⟨H1, I1, q1⟩ => ?_)
  cases c with
  | true => exact ⟨H1, I1, q1⟩
  | false => exact hb wh pins s1 σ H1 Q I1 q1
theorem pt_not (ha : PT X a tA) : PT X (.UnaryOp .Not a pos) (tNot tA) := by
  intro pins s σ H Q I h
  exact isTrue_not (ha pins s σ H (fun c H1 => Q (!c) H1) I h)
def tAndV (ta tb : TE) : TE := fun σ H Q => ta σ H fun x H1 => ∃ c, x = .bl c ∧ if c = true then tb σ H1 Q else Q (.bl false) H1
def tNotV (ta : TE) : TE := fun σ H Q => ta σ H fun x H1 => ∃ c, x = .bl c ∧ Q (.bl (!c)) H1
theorem pe_one {op} {t : TE} (h : PE X a t) : PE X (.BoolOp op [a] pos) t := fun pins s σ H Q I hw => BoolOp_one (h pins s σ H Q I hw)
theorem pe_and (ha : PE X a ta) (hb : PE X (.BoolOp .And (b :: rest) pos) tb) : PE X (.BoolOp .And (a :: b :: rest) pos) (tAndV ta tb) := by
  intro pins s σ H Q I h
  refine BoolOp_and (thn (ha pins s σ H _ I h) fun v s1 ⟨x, H1, I1, r1, q1⟩ => ?_)
  obtain ⟨c, rfl, q1⟩ := q1
  cases r1
  refine wpAny_truthy_bool ?_
  cases c with
  | true => exact hb pins s1 σ H1 Q I1 q1
  | false => exact ⟨.bl false, H1, I1, rfl, q1⟩
theorem pe_not (ha : PE X a ta) : PE X (.UnaryOp .Not a pos) (tNotV ta) := by
  intro pins s σ H Q I h
  refine UnaryOp_ (thn (ha pins s σ H _ I h) fun v s1 ⟨x, H1, I1, r1, q1⟩ => ?_)
  obtain ⟨c, rfl, q1⟩ := q1
  cases r1
  exact not_of (wpAny_truthy_bool ⟨.bl (!c), H1, I1, rfl, q1⟩)
end
end L2
namespace L2
open PySem PySem.Spec PyProof.Rows
def SqL (K : PySem.W.Frag) (H : Hp) (a : Addr) (xs : List V) : Prop :=
  Rd H a (.lst xs) ∨
    ∃ (o : Obj) (its : Array Value) (n : Nat), K.lookup a = some o ∧ o.cls = .type "list" ∧ o.dict = none ∧ o.data = .seq its n ∧ its.size ≤ sizeLine ∧ Vals xs its.toList
def SqT (K : PySem.W.Frag) (H : Hp) (a : Addr) (xs : List V) : Prop :=
  Rd H a (.tup xs) ∨
    ∃ (o : Obj) (its : Array Value) (n : Nat), K.lookup a = some o ∧ o.cls = .type "tuple" ∧ o.data = .seq its n ∧ its.size ≤ sizeLine ∧ Vals xs its.toList
def absV : Value → Option V
  | .none => some .non
  | .bool b => some (.bl b)
  | .int i _ => some (.int i)
  | .str x _ => some (.str x)
  | .bytes b _ => some (.byt b)
  | .float b _ => some (.flt b)
  | .ref a => some (.ref a)
  | .type n => some (.ty n)
  | _ => none
theorem RelV.abs {x : V} {u : Value} (r : RelV x u) : absV u = some x := by
  cases x with
  | non => cases r; rfl
  | bl _ => cases r; rfl
  | int _ => obtain ⟨t, rfl⟩ := r; rfl
  | str _ => obtain ⟨t, rfl⟩ := r; rfl
  | byt _ => obtain ⟨t, rfl⟩ := r; rfl
  | flt _ => obtain ⟨t, rfl⟩ := r; rfl
  | ref _ => cases r; rfl
  | ty _ => cases r; rfl
theorem RelV.inj {x y : V} {u : Value} (r : RelV x u) (q : RelV y u) : x = y := Option.some.inj (r.abs.symm.trans q.abs)
theorem Vals.inj : ∀ {xs ys : List V} {us : List Value}, Vals xs us → Vals ys us → xs = ys
  | _, _, _, .nil, .nil => rfl
  | _, _, _, .cons r t, .cons r' t' => by rw [r.inj r', Vals.inj t t']
section
variable {X : Cx} {pins : List (Addr × Obj)} {σ : St} {H : Hp} {s : Shared} {a : Addr} {xs ys : List V}
theorem SqL.of {K : PySem.W.Frag} (h : H a = some (.lst xs)) : SqL K H a xs := .inl (.inl h)
theorem SqT.of {K : PySem.W.Frag} (h : H a = some (.tup xs)) : SqT K H a xs := .inl (.inl h)
theorem Inv.list (I : Inv X pins σ H s) (h : SqL X.K H a xs) : ∃ its : List Value, Vals xs its ∧ PlainL s.heap a its.toArray ∧ xs.length ≤ sizeLine := by
  rcases h with h | ⟨o, its, n, hk, hc, hd, hs, hz, r⟩
  · obtain ⟨z, its, n, r, e⟩ := h.ok I.hok
    exact ⟨its, r, ⟨_, n, e, rfl, rfl, rfl⟩, z⟩
  · refine ⟨its.toList, r, ⟨o, n, I.kIn a o hk, hc, hd, by simpa using hs⟩, ?_⟩
    have e := r.length
    simp only [Array.length_toList] at e
    omega
theorem Inv.tuple (I : Inv X pins σ H s) (h : SqT X.K H a xs) : ∃ its : List Value, Vals xs its ∧ IsTup s.heap a its.toArray ∧ xs.length ≤ sizeLine := by
  rcases h with h | ⟨o, its, n, hk, hc, hs, hz, r⟩
  · obtain ⟨z, its, r, p⟩ := h.ok I.hok
    exact ⟨its, r, p, z⟩
  · refine ⟨its.toList, r, ⟨o, I.kIn a o hk, hc, n, by simpa using hs⟩, ?_⟩
    have e := r.length
    simp only [Array.length_toList] at e
    omega
theorem Inv.list_inj (I : Inv X pins σ H s) (h : SqL X.K H a xs) (h' : SqL X.K H a ys) : xs = ys := by
  obtain ⟨its, r, ⟨o, n, e, _, _, d⟩, _⟩ := I.list h
  obtain ⟨its', r', ⟨o', n', e', _, _, d'⟩, _⟩ := I.list h'
  rw [e] at e'; cases e'
  rw [d] at d'
  injection d' with d1 _
  have : its = its' := by simpa using congrArg Array.toList d1
  subst this
  exact r.inj r'
theorem Inv.tuple_inj (I : Inv X pins σ H s) (h : SqT X.K H a xs) (h' : SqT X.K H a ys) : xs = ys := by
  obtain ⟨its, r, ⟨o, e, _, n, d⟩, _⟩ := I.tuple h
  obtain ⟨its', r', ⟨o', e', _, n', d'⟩, _⟩ := I.tuple h'
  rw [e] at e'; cases e'
  rw [d] at d'
  injection d' with d1 _
  have : its = its' := by simpa using congrArg Array.toList d1
  subst this
  exact r.inj r'
end
abbrev Cx.wish (X : Cx) (E : Value → Shared → Prop) : Cx := { X with xe := E }
abbrev Cx.nox (X : Cx) : Cx := X.wish fun _ _ => False
theorem Cx.Ok.wish {X : Cx} (ok : X.Ok) (E : Value → Shared → Prop) : (X.wish E).Ok :=
  ⟨ok.mod, ok.kind, ok.glob, ok.blt, ok.above, ok.inj, ok.has, ok.cab, ok.hd, ok.frames, ok.stk, ok.exf, ok.bs, ok.bsz, ok.noex, ok.exfs, ok.funs, ok.frf⟩
theorem Cx.Ok.unwish {X : Cx} {E : Value → Shared → Prop} (ok : (X.wish E).Ok) : X.Ok :=
  ⟨ok.mod, ok.kind, ok.glob, ok.blt, ok.above, ok.inj, ok.has, ok.cab, ok.hd, ok.frames, ok.stk, ok.exf, ok.bs, ok.bsz, ok.noex, ok.exfs, ok.funs, ok.frf⟩
section
variable {X : Cx} {pins : List (Addr × Obj)} {σ : St} {H : Hp} {s : Shared} {E : Value → Shared → Prop}
theorem Inv.wish (I : Inv X pins σ H s) (E : Value → Shared → Prop) : Inv (X.wish E) pins σ H s := ⟨I.ok.wish E, I.os, I.bare, I.base, I.loc, I.cell, I.free, I.freeC, I.pin, I.hok, I.len⟩
theorem Inv.unwish (I : Inv (X.wish E) pins σ H s) : Inv X pins σ H s := ⟨I.ok.unwish, I.os, I.bare, I.base, I.loc, I.cell, I.free, I.freeC, I.pin, I.hok, I.len⟩
theorem SP.unwish {D : Ends} {f : Flow} {s' : Shared} (h : SP (X.wish E) pins D f s') : SP X pins D f s' := by
  cases f with
  | next => obtain ⟨σ', H', I, q⟩ := h; exact ⟨σ', H', I.unwish, q⟩
  | brk => obtain ⟨σ', H', I, q⟩ := h; exact ⟨σ', H', I.unwish, q⟩
  | cont => obtain ⟨σ', H', I, q⟩ := h; exact ⟨σ', H', I.unwish, q⟩
  | ret u => obtain ⟨v, σ', H', I, r, q⟩ := h; exact ⟨v, σ', H', I.unwish, r, q⟩
theorem PE.nox {e : Expr} {t : TE} (h : PE X.nox e t) : PE X e t := fun pins s σ H Q I hw =>
  wpAny_mono (h pins s σ H Q (I.wish _) hw) (fun _ _ ⟨v, H', I', r, q⟩ => ⟨v, H', I'.unwish, r, q⟩) fun _ _ z => False.elim z
theorem PT.nox {e : Expr} {t : TT} (h : PT X.nox e t) : PT X e t := fun pins s σ H Q I hw =>
  wpAny_mono (h pins s σ H Q (I.wish _) hw) (fun _ _ ⟨H', I', q⟩ => ⟨H', I'.unwish, q⟩) fun _ _ z => False.elim z
theorem PSs.nox {st : List Stmt} {t : TS} (h : PSs X.nox st t) : PSs X st t := fun pins s σ H D I hw =>
  wpAny_mono (h pins s σ H D (I.wish _) hw) (fun _ _ q => q.unwish) fun _ _ z => False.elim z
end
section
variable {X : Cx} {st : Stmt} {rest : List Stmt} {t u : TS} {e : Expr} {te : TE} {pos : Pos}
def tNext : TS := fun D σ H => D.nx σ H
def tSeq (t u : TS) : TS := fun D σ H => t { D with nx := u D } σ H
theorem pss_nil : PSs X [] tNext := fun _ _ σ H _ I h => wpAny_execs_nil ⟨σ, H, I, h⟩
theorem pss_cons (h1 : PS X st t) (h2 : PSs X rest u) : PSs X (st :: rest) (tSeq t u) := by
  intro pins s σ H D I h
  refine wpAny_execs_cons (thn (h1 pins s σ H { D with nx := u D } I h) fun f s1 q => ?_)
  cases f with
  | next =>
    obtain ⟨σ', H', I', q⟩ := q
    exact h2 pins s1 σ' H' D I' q
  | ret v => exact q
  | brk => exact q
  | cont => exact q
theorem pss_one (h1 : PS X st t) : PSs X [st] t := by
  intro pins s σ H D I h
  refine wpAny_execs_cons (thn (h1 pins s σ H D I h) fun f s1 q => ?_)
  cases f with
  | next => exact wpAny_execs_nil q
  | ret v => exact q
  | brk => exact q
  | cont => exact q
theorem Inv.quiet {pins : List (Addr × Obj)} {σ : St} {H : Hp} {s : Shared} (I : Inv X pins σ H s) : interactive X.env = false := by simp [interactive, I.ok.kind]
def tDrop (te : TE) : TS := fun D σ H => te σ H fun _ H1 => D.nx σ H1
theorem ps_expr (he : PE X e te) (hs : swapsWith e none pos.line X.env = pure false := by rfl) : PS X (.Expr e pos) (tDrop te) := by
  intro pins s σ H D I h
  exact wpAny_Expr_any (thn (he pins s σ H _ I h) fun v s1 ⟨x, H1, I1, r1, q1⟩ => ⟨σ, H1, I1, q1⟩) I.quiet hs
def tRet (te : TE) : TS := fun D σ H => te σ H D.rt
theorem ps_ret (he : PE X e te) : PS X (.Return (some e) pos) (tRet te) := by
  intro pins s σ H D I h
  exact wpAny_Return_some (thn (he pins s σ H _ I h) fun v s1 ⟨x, H1, I1, r1, q1⟩ => ⟨x, σ, H1, I1, r1, q1⟩)
def tIfS (c : TT) (t u : TS) : TS := fun D σ H => c σ H fun b H1 => if b = true then t D σ H1 else u D σ H1
theorem ps_if {c : Expr} {a b : List Stmt} {tc : TT} (hc : PT X c tc) (ha : PSs X a t) (hb : PSs X b u) : PS X (.If c a b pos) (tIfS tc t u) := by
  intro pins s σ H D I h
  refine wpAny_If (thn (hc pins s σ H _ I h) fun d s1 ⟨H1, I1, q1⟩ => ?_)
  cases d with
  | true => exact ha pins s1 σ H1 D I1 q1
  | false => exact hb pins s1 σ H1 D I1 q1
def tNever : TS := fun _ _ _ => False
theorem ps_never : PS X st tNever := fun _ _ _ _ _ _ h => h.elim
end
abbrev TG := V → St → Hp → (St → Hp → Prop) → Prop
abbrev TGs := List V → St → Hp → (St → Hp → Prop) → Prop
def PG (X : Cx) (target : Expr) (t : TG) : Prop :=
  ∀ (pins : List (Addr × Obj)) (s : Shared) (σ : St) (H : Hp) (v : V) (u : Value) (Q : St → Hp → Prop), Inv X pins σ H s → RelV v u → t v σ H Q →
    wpAny (model X.prog X.w) X.A (assign target X.env u) (fun _ s' => ∃ σ' H', Inv X pins σ' H' s' ∧ Q σ' H') X.xe s
def PGs (X : Cx) (ts : List Expr) (t : TGs) : Prop :=
  ∀ (pins : List (Addr × Obj)) (s : Shared) (σ : St) (H : Hp) (vs : List V) (us : List Value) (Q : St → Hp → Prop), Inv X pins σ H s → Vals vs us → t vs σ H Q →
    wpAny (model X.prog X.w) X.A (assignInOrder ((assignEach ts X.env).map (·.2)) us) (fun _ s' => ∃ σ' H', Inv X pins σ' H' s' ∧ Q σ' H') X.xe s
abbrev TSet := V → V → V → Hp → (Hp → Prop) → Prop
def PSet (X : Cx) (t : TSet) : Prop :=
  ∀ (pins : List (Addr × Obj)) (s : Shared) (σ : St) (H : Hp) (o i v : V) (ov iv u : Value) (Q : Hp → Prop), Inv X pins σ H s → RelV o ov → RelV i iv → RelV v u → t o i v H Q →
    wpAny (model X.prog X.w) X.A (setItem ov iv u) (fun _ s' => ∃ H', Inv X pins σ H' s' ∧ Q H') X.xe s
section
variable {X : Cx} {pos : Pos}
def gName (i : Nat) : TG := fun v σ H Q => Q (σ.set i (some v)) H
theorem pg_name {i : Nat} {x : Str} (hN : X.N.Nodup) (hi : X.N[i]? = some x) (hx : Loc X.env.scope x) (hf : X.fn x = true ∨ X.env.scope.names.lookup x = some .local := by first | exact .inl rfl | exact .inr rfl | assumption) : PG X (.Name x pos) (gName i) := by
  intro pins s σ H v u Q I r h
  exact wpAny_assign_Name (store_ok I hN hi hx r (fun s' I' => ⟨_, H, I', h⟩) hf)
def gNil : TGs := fun vs σ H Q => vs = [] ∧ Q σ H
def gCons (t : TG) (u : TGs) : TGs := fun vs σ H Q => ∃ v r, vs = v :: r ∧ t v σ H fun σ' H' => u r σ' H' Q
theorem pgs_nil : PGs X [] gNil := by
  intro pins s σ H vs us Q I r h
  obtain ⟨e, h⟩ := h
  subst e
  cases r
  exact assignInOrder_nil ⟨σ, H, I, h⟩
theorem pgs_cons {e : Expr} {es : List Expr} {t : TG} {u : TGs} (h1 : PG X e t) (h2 : PGs X es u)
    (hs : (assignEach (e :: es) X.env).map (·.2) = assign e X.env :: (assignEach es X.env).map (·.2) := by rfl) : PGs X (e :: es) (gCons t u) := by
  intro pins s σ H vs us Q I r h
  obtain ⟨v, vr, e1, h⟩ := h
  subst e1
  cases r with
  | cons r rr =>
    rw [hs]
    refine assignInOrder_cons (thn (h1 pins s σ H _ _ _ I r h) fun _ s1 ⟨σ1, H1, I1, q1⟩ => ?_)
    exact h2 pins s1 σ1 H1 _ _ Q I1 rr q1
def gTup (K : PySem.W.Frag) (n : Nat) (t : TGs) : TG := fun v σ H Q => ∃ a xs, v = .ref a ∧ SqT K H a xs ∧ xs.length = n ∧ t xs σ H Q
theorem pg_tup {es : List Expr} {k : Nat} {t : TGs} {n : Nat} (hc : X.calm = true) (h : PGs X es t)
    (hn : (assignEach es X.env).length = n := by rfl) (hst : (assignEach es X.env).findIdx? (·.1) = none := by rfl) : PG X (.Tuple es k pos) (gTup X.K n t) := by
  intro pins s σ H v u Q I r hw
  obtain ⟨a, xs, e1, hq, hl, hw⟩ := hw
  subst e1
  cases r
  obtain ⟨its, rv, ht, hz⟩ := I.tuple hq
  refine assign_Tuple_tuple (I.ok.hd hc) ht (by simp [hn, ← hl, rv.length]) hst fun h' hx => ?_
  have I1 : Inv X pins σ H { s with heap := h' } := I.kept (t' := s.toks) fun b o e => hx b o (Nat.ne_of_lt (Heap.lt_size e)) e
  exact h pins _ σ H xs _ Q I1 (by simpa using rv) hw
def gSub (to ti : TE) (t : TSet) : TG := fun v σ H Q => to σ H fun o H1 => ti σ H1 fun i H2 => t o i v H2 fun H3 => Q σ H3
theorem pg_sub {o i : Expr} {to ti : TE} {t : TSet} (ho : PE X o to) (hi : PE X i ti) (hs : PSet X t)
    (ha : ∀ v, assign (.Subscript o i pos) X.env v = (do
      let ov ← holding [v] (eval o X.env)
      let iv ← holding [v, ov] (eval i X.env)
      standAt pos
      holding [v, ov, iv] (setItem ov iv v)
      release [v, ov, iv] []) := by intro _; rfl) : PG X (.Subscript o i pos) (gSub to ti t) := by
  intro pins s σ H v u Q I r h
  rw [ha]
  refine wpAny_bind (wpAny_holding (thn (ho pins s σ H _ I h) fun ov s1 ⟨x, H1, I1, r1, q1⟩ => ?_))
  refine wpAny_bind (wpAny_holding (thn (hi pins s1 σ H1 _ I1 q1) fun iv s2 ⟨y, H2, I2, r2, q2⟩ => ?_))
  refine wpAny_bind (wpAny_standAt (wpAny_bind (wpAny_holding (thn (hs pins s2 σ H2 x y v ov iv u _ I2 r1 r2 r q2) fun _ s3 ⟨H3, I3, q3⟩ => ?_))))
  exact wpAny_release ⟨σ, H3, I3, q3⟩
def tAsg (te : TE) (g : TG) : TS := fun D σ H => te σ H fun x H1 => g x σ H1 D.nx
theorem ps_asg {tg e : Expr} {te : TE} {g : TG} (he : PE X e te) (hg : PG X tg g) (hs : swapsWithSole [tg] e pos.line X.env = pure false := by rfl) (hw : swappedStores [tg] e X.env = pure none := by rfl)
    (h1 : (assignEach [tg] X.env).map (·.2) = [assign tg X.env] := by rfl) : PS X (.Assign [tg] e pos) (tAsg te g) := by
  intro pins s σ H D I h
  refine wpAny_Assign_stores (thn (he pins s σ H _ I h) fun v s1 ⟨x, H1, I1, r1, q1⟩ => ?_) hs hw
  rw [h1]
  exact thn (hg pins s1 σ H1 x v _ I1 r1 q1) fun _ s2 q => q
theorem ps_set {i : Nat} {x : Str} {e : Expr} {te : TE} {pos' : Pos} (hN : X.N.Nodup) (hi : X.N[i]? = some x) (hx : Loc X.env.scope x) (he : PE X e te) (hs : swapsWith e (some (.Name x pos')) pos.line X.env = pure false := by rfl) (hf : X.fn x = true ∨ X.env.scope.names.lookup x = some .local := by first | exact .inl rfl | exact .inr rfl | assumption) :
    PS X (.Assign [.Name x pos'] e pos) (tAsg te (gName i)) := by
  intro pins s σ H D I h
  refine wpAny_Assign_Name (thn (he pins s σ H _ I h) fun v s1 ⟨y, H1, I1, r1, q1⟩ => ?_) hs
  exact store_ok I1 hN hi hx r1 (fun s2 I2 => ⟨_, H1, I2, q1⟩) hf
def tPar (i j : Nat) (ta : TA) : TS := fun D σ H => ta σ H fun vs H1 => ∃ v w, vs = [v, w] ∧ D.nx ((σ.set i (some v)).set j (some w)) H1
theorem ps_par {i j : Nat} {x y : Str} {a b : Expr} {ta : TA} {px py pt : Pos} {kt k2 pt2} (hc : X.calm = true) (hN : X.N.Nodup) (hi : X.N[i]? = some x) (hj : X.N[j]? = some y) (hij : i ≠ j)
    (hx : X.env.scope.names.lookup x = some .local) (hy : X.env.scope.names.lookup y = some .local) (ha : PA X [a, b] ta)
    (hw : swappedStores [.Tuple [.Name x px, .Name y py] kt pt] (.Tuple [a, b] k2 pt2) X.env = pure (some [x, y]))
    (hs : swapsWithSole [.Tuple [.Name x px, .Name y py] kt pt] (.Tuple [a, b] k2 pt2) pos.line X.env = pure false := by rfl) :
    PS X (.Assign [.Tuple [.Name x px, .Name y py] kt pt] (.Tuple [a, b] k2 pt2) pos) (tPar i j ta) := by
  intro pins s σ H D I h
  rw [exec_Assign_arm]
  refine wpAny_bind (wpAny_standAt ?_)
  rw [hs]
  refine wpAny_bind (wpAny_pure ?_)
  rw [if_neg (by decide)]
  refine wpAny_bind (Tuple_ (thn (ha _ pins s σ H _ I h) fun us s1 ⟨vs, H1, I1, r1, q1⟩ => ?_))
  obtain ⟨v, w, e1, q1⟩ := q1
  subst e1
  obtain ⟨u1, u2, rfl, rv, rw'⟩ : ∃ u1 u2, us = [u1, u2] ∧ RelV v u1 ∧ RelV w u2 := by
    cases r1 with
    | cons p q =>
      cases q with
      | cons p' q' =>
        cases q'
        exact ⟨_, _, rfl, p, p'⟩
  refine wpAny_newObj_type ?_ (by show 2 ≤ sizeLine; decide)
  have I2 : Inv X pins σ H1 { s1 with heap := s1.heap.push { cls := .type "tuple", data := .seq [u1, u2].toArray } } := I1.kept (t' := s1.toks) fun b o e => Heap.get?_push_of_some _ e
  rw [hw]
  refine wpAny_bind (wpAny_pure ?_)
  show wpAny (model X.prog X.w) X.A (do rule "assign.swapped-stores"; let items ← unpackItems (.ref s1.heap.objs.size) 2 none; assignInOrder [fun v => bindName X.env y v, fun v => bindName X.env x v] items.reverse; pure Flow.next) _ _ _
  refine wpAny_bind (wpAny_rule (wpAny_bind (unpackItems_tuple (items := #[u1, u2]) (I.ok.hd hc) (IsTup.new s1.heap _) fun h' hx' => ?_)))
  have I3 := I2.kept (h' := h') (t' := s1.toks) fun b o e => hx' b o (Nat.ne_of_lt (Heap.lt_size e)) e
  show wpAny _ _ (assignInOrder [fun v => bindName X.env y v, fun v => bindName X.env x v] [u2, u1] >>= fun _ => pure Flow.next) _ _ _
  refine wpAny_bind (assignInOrder_cons (wpAny_bindName (store_ok I3 hN hj (.inl hy) rw' (fun s2 I4 => ?_) (.inr hy))))
  refine assignInOrder_cons (wpAny_bindName (store_ok I4 hN hi (.inl hx) rv (fun s3 I5 => assignInOrder_nil (wpAny_pure ?_)) (.inr hx)))
  rw [List.set_comm _ _ (Ne.symm hij)] at I5
  exact ⟨_, H1, I5, q1⟩
end
section
variable {X : Cx} {pos : Pos}
def tWhile (c : TT) (tb : TS) : TS := fun D σ H => ∃ W : Nat → St → Hp → Prop, (∃ m, W m σ H) ∧ ∀ m σ H, W m σ H →
  c σ H fun b H1 => if b = true then ∃ N : St → Hp → Prop, (∀ σ' H', N σ' H' → ∃ m', m' < m ∧ W m' σ' H') ∧ tb { D with nx := N, ct := N, bk := D.nx } σ H1 else D.nx σ H1
theorem ps_while {c : Expr} {body : List Stmt} {tc : TT} {tb : TS} (hp : PassesOwn (model X.prog X.w) X.A X.env X.xe) (hc : PT X c tc) (hb : PSs X body tb) : PS X (.While c body [] pos) (tWhile tc tb) := by
  intro pins s σ H D I h
  obtain ⟨W, ⟨m0, w0⟩, turn⟩ := h
  refine wpAny_While (codeAny_whileLoop (fun n s' => ∃ σ' H', Inv X pins σ' H' s' ∧ W n σ' H') ?_ m0 ⟨σ, H, I, w0⟩)
  rintro n s1 ⟨σ1, H1, I1, w1⟩
  refine wpAny_passesOwn hp (thn (hc pins s1 σ1 H1 _ I1 (turn n σ1 H1 w1)) fun b s2 ⟨H2, I2, q2⟩ => ?_)
  cases b with
  | true =>
    obtain ⟨N, hN, q2⟩ := q2
    rw [if_pos rfl]
    refine wpAny_passesOwn hp (thn (hb pins s2 σ1 H2 _ I2 q2) fun f s3 q3 => ?_)
    cases f with
    | next =>
      obtain ⟨σ3, H3, I3, n3⟩ := q3
      obtain ⟨m', hm, w3⟩ := hN σ3 H3 n3
      exact ⟨m', hm, σ3, H3, I3, w3⟩
    | cont =>
      obtain ⟨σ3, H3, I3, n3⟩ := q3
      obtain ⟨m', hm, w3⟩ := hN σ3 H3 n3
      exact ⟨m', hm, σ3, H3, I3, w3⟩
    | brk => exact q3
    | ret v => exact q3
  | false =>
    rw [if_neg Bool.false_ne_true]
    exact wpAny_execs_nil ⟨σ1, H2, I2, q2⟩
end
structure It where
  go : Nat → Hp → Prop
  yld : Nat → Hp → V → Hp → Prop
  stop : Nat → Hp → Prop
def FpOk (X : Cx) (pins : List (Addr × Obj)) (H : Hp) (b : Addr) : Prop :=
  H b = none ∧ b ≠ X.env.locals ∧ b ∉ X.fs ∧ (b ∈ X.ex ∨ X.s_0.heap.objs.size ≤ b) ∧ (∀ x c, X.env.cells.lookup x = some c → c ≠ b) ∧ ∀ p ∈ X.pn ++ pins, p.1 ≠ b
theorem Inv.fpOk {X : Cx} {pins : List (Addr × Obj)} {σ : St} {H H' : Hp} {s : Shared} {b : Addr} (I : Inv X pins σ H s) (hb : s.heap.objs.size ≤ b) (hn : H' b = none) : FpOk X pins H' b := by
  refine ⟨hn, Nat.ne_of_gt (Nat.lt_of_lt_of_le I.lt hb), I.nofs hb, .inr (Nat.le_trans I.sz hb), fun x c e z => ?_, fun p hp z => ?_⟩
  · obtain ⟨v, q⟩ := I.cell x c e
    exact absurd (Nat.lt_of_lt_of_le q.lt (by rw [z]; exact hb)) (Nat.lt_irrefl _)
  · exact absurd (Nat.lt_of_lt_of_le (Heap.lt_size (I.pin p hp).1) (by rw [z]; exact hb)) (Nat.lt_irrefl _)
structure Turn (P : Program) (w : World) (K : PySem.W.Frag) (tg : Expr) (J : It) (fp : List Addr) (it : Addr) (tn : Nat → Heap → Prop) : Prop where
  mem : it ∈ fp
  obj : ∀ i h, tn i h → ∀ b ∈ fp, ∃ o, h.get? b = some o ∧ ∀ v, o.data ≠ .cell v
  keep : ∀ i h h', tn i h → (∀ b ∈ fp, ∀ o, h.get? b = some o → h'.get? b = some o) → tn i h'
  item : ∀ (X : Cx), X.prog = P → X.w = w → X.K = K → X.calm = true → ∀ (i : Nat) (pins : List (Addr × Obj)) (s : Shared) (σ : St) (H : Hp) (E : Value → Shared → Prop), Inv X pins σ H s → (∀ b ∈ fp, FpOk X pins H b) → tn i s.heap → J.go i H →
    wpAny (model P w) X.A (pyNext (.ref it)) (fun r s1 => ∃ u, r = some u ∧
      wpAny (model P w) X.A (letOwnedTupleGo tg (.ref it) u) (fun _ s2 => ∃ x H', Inv X pins σ H' s2 ∧ RelV x u ∧ J.yld i H x H' ∧ tn (i + 1) s2.heap ∧ ∀ b ∈ fp, H' b = none) E s1) E s
  done : ∀ (X : Cx), X.prog = P → X.w = w → X.K = K → X.calm = true → ∀ (i : Nat) (pins : List (Addr × Obj)) (s : Shared) (σ : St) (H : Hp) (E : Value → Shared → Prop), Inv X pins σ H s → (∀ b ∈ fp, FpOk X pins H b) → tn i s.heap → J.stop i H →
    wpAny (model P w) X.A (pyNext (.ref it)) (fun r s1 => r = none ∧ Inv X pins σ H s1) E s
  self : ∀ (A : Around) (i : Nat) (s : Shared) (Q : Value → Shared → Prop) (E : Value → Shared → Prop), tn i s.heap → Q (.ref it) s → wpAny (model P w) A (pyIter (.ref it)) Q E s
abbrev TI := St → Hp → (It → Hp → Prop) → Prop
def PIE (X : Cx) (pins : List (Addr × Obj)) (σ : St) (tg : Expr) (R : It → Hp → Prop) (itv : Value) (s2 : Shared) : Prop :=
  ∃ (it : Addr) (fp : List Addr) (tn : Nat → Heap → Prop) (J : It) (H' : Hp), itv = .ref it ∧ Inv X pins σ H' s2 ∧ Turn X.prog X.w X.K tg J fp it tn ∧ tn 0 s2.heap ∧ (∀ b ∈ fp, FpOk X pins H' b) ∧ R J H'
def PI (X : Cx) (tg iter : Expr) (wi : TI) : Prop :=
  ∀ (pins : List (Addr × Obj)) (s : Shared) (σ : St) (H : Hp) (R : It → Hp → Prop), Inv X pins σ H s → wi σ H R →
    wpAny (model X.prog X.w) X.A (eval iter X.env) (fun v s1 => wpAny (model X.prog X.w) X.A (pyIter v) (PIE X pins σ tg R) X.xe s1) X.xe s
theorem go_of {M : Model} {A : Around} {E : Value → Shared → Prop} {s : Shared} {tg : Expr} {it : Addr} {u : Value} {o : Obj} {n : String} {vs : Array Value} {Q : Unit → Shared → Prop} (ho : s.heap.get? it = some o) (hc : o.cls = .type n) (hd : o.data = .fields vs)
    (hn : ["enumerate", "zip", "dict_itemiterator", "dict_reverseitemiterator", "odict_iterator", "itertools.zip_longest", "itertools.pairwise"].contains n = false) (hQ : Q () s) : wpAny M A (letOwnedTupleGo tg (.ref it) u) Q E s := by
  unfold letOwnedTupleGo
  cases tg <;> first
    | exact wpAny_pure hQ
    | (cases u <;> first
        | exact wpAny_pure hQ
        | (refine wpAny_bind (wpAny_load ho ?_)
           rw [hc, hd]
           show wpAny M A (if (["enumerate", "zip", "dict_itemiterator", "dict_reverseitemiterator", "odict_iterator", "itertools.zip_longest", "itertools.pairwise"].contains n && vs[0]? == some (rawInt _)) = true then _ else _) Q E s
           rw [if_neg (by intro h; rw [hn, Bool.false_and] at h; cases h)]
           exact wpAny_pure hQ))
def Itl (K : PySem.W.Frag) (a : Addr) : It :=
  ⟨fun i H => ∃ xs x, SqL K H a xs ∧ xs[i]? = some x, fun i H x H' => H' = H ∧ ∀ xs, SqL K H a xs → xs[i]? = some x, fun i H => ∃ xs, SqL K H a xs ∧ xs.length ≤ i⟩
def Itt (K : PySem.W.Frag) (a : Addr) : It :=
  ⟨fun i H => ∃ xs x, SqT K H a xs ∧ xs[i]? = some x, fun i H x H' => H' = H ∧ ∀ xs, SqT K H a xs → xs[i]? = some x, fun i H => ∃ xs, SqT K H a xs ∧ xs.length ≤ i⟩
def Itr (lo : Int) (n : Nat) : It := ⟨fun i _ => i < n, fun i H x H' => H' = H ∧ x = .int (lo + i), fun i _ => n ≤ i⟩
theorem turn_list {P : Program} {w : World} {K : PySem.W.Frag} {tg : Expr} (a it : Addr) : Turn P w K tg (Itl K a) [it] it (fun i h => h.IsListIter it a i) where
  mem := by simp
  obj := fun i h st b hb => by
    have e : b = it := by simpa using hb
    subst e
    obtain ⟨o, e, c, d⟩ := st
    exact ⟨o, e, fun v z => by rw [d] at z; cases z⟩
  keep := fun i h h' st k => st.at fun o e => k it (by simp) o e
  item := by
    intro X hP hw hK hc i pins s σ H E I hf st hg
    subst hP hw hK
    obtain ⟨xs, x, hq, hx⟩ := hg
    obtain ⟨its, rv, p, hz⟩ := I.list hq
    obtain ⟨u, hu, ru⟩ := rv.get hx
    obtain ⟨f0, f1, f2, f3, f4, f5⟩ := hf it (by simp)
    refine wpAny_pyNext_list_item st p.isList (x := u) (by simpa using hu) fun h' st' sb => ?_
    have I1 : Inv X pins σ H { s with heap := h' } := I.turned (t' := s.toks) (fun b o hb e => (sb.2 b hb).trans e) f0 f1 f3 f4 f5
    obtain ⟨o, e, c, d⟩ := id st'
    exact ⟨u, rfl, go_of (s := { s with heap := h' }) e c d (by decide) ⟨x, H, I1, ru, ⟨rfl, fun ys hy => by rw [I.list_inj hy hq]; exact hx⟩, st', fun b hb => (hf b hb).1⟩⟩
  done := by
    intro X hP hw hK hc i pins s σ H E I hf st hg
    subst hP hw hK
    obtain ⟨xs, hq, hx⟩ := hg
    obtain ⟨its, rv, p, hz⟩ := I.list hq
    obtain ⟨f0, f1, f2, f3, f4, f5⟩ := hf it (by simp)
    have hl := rv.length
    exact wpAny_pyNext_list_end (I.ok.hd hc) st p.isList (by simp; omega) fun h' eb => ⟨rfl, I.turned (t' := s.toks) (fun b o hb e => eb b o hb e) f0 f1 f3 f4 f5⟩
  self := fun _ _ _ _ _ st h => wpAny_pyIter_listiter st h
theorem turn_tuple {P : Program} {w : World} {K : PySem.W.Frag} {tg : Expr} (a it : Addr) : Turn P w K tg (Itt K a) [it] it (fun i h => h.IsTupleIter it a i) where
  mem := by simp
  obj := fun i h st b hb => by
    have e : b = it := by simpa using hb
    subst e
    obtain ⟨o, e, c, d⟩ := st
    exact ⟨o, e, fun v z => by rw [d] at z; cases z⟩
  keep := fun i h h' st k => st.at fun o e => k it (by simp) o e
  item := by
    intro X hP hw hK hc i pins s σ H E I hf st hg
    subst hP hw hK
    obtain ⟨xs, x, hq, hx⟩ := hg
    obtain ⟨its, rv, p, hz⟩ := I.tuple hq
    obtain ⟨u, hu, ru⟩ := rv.get hx
    obtain ⟨f0, f1, f2, f3, f4, f5⟩ := hf it (by simp)
    refine wpAny_pyNext_tuple_item st (show s.heap.IsTuple a its.toArray from p) (x := u) (by simpa using hu) fun h' st' sb => ?_
    have I1 : Inv X pins σ H { s with heap := h' } := I.turned (t' := s.toks) (fun b o hb e => (sb.2 b hb).trans e) f0 f1 f3 f4 f5
    obtain ⟨o, e, c, d⟩ := id st'
    exact ⟨u, rfl, go_of (s := { s with heap := h' }) e c d (by decide) ⟨x, H, I1, ru, ⟨rfl, fun ys hy => by rw [I.tuple_inj hy hq]; exact hx⟩, st', fun b hb => (hf b hb).1⟩⟩
  done := by
    intro X hP hw hK hc i pins s σ H E I hf st hg
    subst hP hw hK
    obtain ⟨xs, hq, hx⟩ := hg
    obtain ⟨its, rv, p, hz⟩ := I.tuple hq
    obtain ⟨f0, f1, f2, f3, f4, f5⟩ := hf it (by simp)
    have hl := rv.length
    exact wpAny_pyNext_tuple_end (I.ok.hd hc) st (show s.heap.IsTuple a its.toArray from p) (by simp; omega) fun h' eb => ⟨rfl, I.turned (t' := s.toks) (fun b o hb e => eb b o hb e) f0 f1 f3 f4 f5⟩
  self := fun _ _ _ _ _ st h => wpAny_pyIter_tupleiter st h
theorem turn_range {P : Program} {w : World} {K : PySem.W.Frag} {tg : Expr} (it : Addr) (lo : Int) (n : Nat) : Turn P w K tg (Itr lo n) [it] it (fun i h => IsRangeIter h it (lo + (i : Nat) * 1) ((n : Int) - (i : Nat)) 1) where
  mem := by simp
  obj := fun i h st b hb => by
    have e : b = it := by simpa using hb
    subst e
    exact ⟨_, st, fun v z => by
      have z' : Data.fields _ = Data.cell v := z
      cases z'⟩
  keep := fun i h h' st k => k it (by simp) _ st
  item := by
    intro X hP hw hK hc i pins s σ H E I hf st hg
    subst hP hw hK
    obtain ⟨f0, f1, f2, f3, f4, f5⟩ := hf it (by simp)
    have W := Walks.range (prog := X.prog) (w := X.w) (I.ok.hd hc) it lo 1 n
    refine W.item i s _ _ hg st fun v h' tk hv st' kk => ?_
    obtain ⟨t, rfl⟩ := hv
    have I1 : Inv X pins σ H { s with heap := h', toks := tk } := I.turned (fun b o hb e => kk b o (by simpa using hb) e) f0 f1 f3 f4 f5
    refine ⟨_, rfl, go_of (s := { s with heap := h', toks := tk }) (n := "range_iterator") st' rfl rfl (by decide) ⟨.int (lo + i), H, I1, ⟨t, ?_⟩, ⟨rfl, rfl⟩, st', fun b hb => (hf b hb).1⟩⟩
    rw [Int.mul_one]
  done := by
    intro X hP hw hK hc i pins s σ H E I hf st hg
    subst hP hw hK
    obtain ⟨f0, f1, f2, f3, f4, f5⟩ := hf it (by simp)
    exact wpAny_pyNext_range_end (I.ok.hd hc) st (by have : n ≤ i := hg; omega) fun h' eb => ⟨rfl, I.turned (t' := s.toks) (fun b o hb e => eb b o hb e) f0 f1 f3 f4 f5⟩
  self := fun _ _ _ _ _ st h => wpAny_pyIter_rangeiter st h
end L2
namespace L2
open PySem PySem.Spec PyProof.Rows
section
variable {X : Cx} {tg : Expr}
def iList (K : PySem.W.Frag) (tl : TE) : TI := fun σ H R => tl σ H fun x H1 => ∃ a, x = .ref a ∧ (∃ xs, SqL K H1 a xs) ∧ R (Itl K a) H1
def iTup (K : PySem.W.Frag) (tl : TE) : TI := fun σ H R => tl σ H fun x H1 => ∃ a, x = .ref a ∧ (∃ xs, SqT K H1 a xs) ∧ R (Itt K a) H1
theorem pi_list {l : Expr} {tl : TE} (hl : PE X l tl) : PI X tg l (iList X.K tl) := by
  intro pins s σ H R I h
  refine thn (hl pins s σ H _ I h) fun v s1 ⟨x, H1, I1, r1, q1⟩ => ?_
  obtain ⟨a, e, ⟨xs, hq⟩, q⟩ := q1
  subst e
  cases r1
  obtain ⟨its, rv, p, hz⟩ := I1.list hq
  refine wpAny_pyIter_list p.isList ?_
  refine ⟨s1.heap.objs.size, [s1.heap.objs.size], _, _, H1, rfl, I1.kept (t' := s1.toks) fun b o e => Heap.get?_push_of_some _ e, turn_list a _, ⟨_, Heap.get?_push_size _ rfl, rfl, rfl⟩, fun b hb => ?_, q⟩
  have e : b = s1.heap.objs.size := by simpa using hb
  subst e
  exact I1.fpOk (Nat.le_refl _) (I1.hok.fresh (Nat.le_refl _))
theorem pi_tup {l : Expr} {tl : TE} (hl : PE X l tl) : PI X tg l (iTup X.K tl) := by
  intro pins s σ H R I h
  refine thn (hl pins s σ H _ I h) fun v s1 ⟨x, H1, I1, r1, q1⟩ => ?_
  obtain ⟨a, e, ⟨xs, hq⟩, q⟩ := q1
  subst e
  cases r1
  obtain ⟨its, rv, p, hz⟩ := I1.tuple hq
  refine wpAny_pyIter_tuple (show s1.heap.IsTuple a its.toArray from p) ?_
  refine ⟨s1.heap.objs.size, [s1.heap.objs.size], _, _, H1, rfl, I1.kept (t' := s1.toks) fun b o e => Heap.get?_push_of_some _ e, turn_tuple a _, ⟨_, Heap.get?_push_size _ rfl, rfl, rfl⟩, fun b hb => ?_, q⟩
  have e : b = s1.heap.objs.size := by simpa using hb
  subst e
  exact I1.fpOk (Nat.le_refl _) (I1.hok.fresh (Nat.le_refl _))
theorem range_it {pins : List (Addr × Obj)} {σ : St} {H : Hp} {s : Shared} {R : It → Hp → Prop} {E : Value → Shared → Prop} {lo hi : Int} {t u v : Tok} {tk : Nat} (I : Inv X pins σ H s) (h1 : -(2 ^ 62) ≤ lo) (h2 : lo < 2 ^ 62) (h3 : -(2 ^ 62) ≤ hi) (h4 : hi < 2 ^ 62)
    (q : R (Itr lo (hi - lo).toNat) H) : wpAny (model X.prog X.w) X.A (pyIter (.ref s.heap.objs.size)) (PIE X pins σ tg R) E { s with heap := s.heap.push { cls := .type "range", data := .fields #[.int lo t, .int hi u, .int 1 v] }, toks := tk } := by
  refine wpAny_pyIter_range (IsRange.new ..) (small_one h1 h2 h3 h4) ?_
  have I1 : Inv X pins σ H { s with heap := s.heap.push { cls := .type "range", data := .fields #[.int lo t, .int hi u, .int 1 v] }, toks := tk } := I.kept fun b o e => Heap.get?_push_of_some _ e
  refine ⟨(s.heap.push { cls := .type "range", data := .fields #[.int lo t, .int hi u, .int 1 v] }).objs.size, [(s.heap.push { cls := .type "range", data := .fields #[.int lo t, .int hi u, .int 1 v] }).objs.size], _, _, H, rfl,
    I1.kept (t' := tk) fun b o e => Heap.get?_push_of_some _ e, turn_range _ lo (hi - lo).toNat, ?_, fun b hb => ?_, q⟩
  · have e1 : lo + ((0 : Nat) : Int) * 1 = lo := by simp
    have e2 : (((hi - lo).toNat : Nat) : Int) - ((0 : Nat) : Int) = Builtin.Range.rangeSize lo hi 1 := by rw [rangeSize_one]; split <;> omega
    show IsRangeIter _ _ (lo + ((0 : Nat) : Int) * 1) ((((hi - lo).toNat : Nat) : Int) - ((0 : Nat) : Int)) 1
    rw [e1, e2]
    exact Heap.get?_push_size _ rfl
  · have e : b = (s.heap.push { cls := .type "range", data := .fields #[.int lo t, .int hi u, .int 1 v] }).objs.size := by simpa using hb
    subst e
    exact I1.fpOk (Nat.le_refl _) (I1.hok.fresh (Nat.le_refl _))
def iRng1 (ta : TA) : TI := fun σ H R => ta σ H fun vs H1 => ∃ j : Int, vs = [.int j] ∧ -(2 ^ 62) ≤ j ∧ j < 2 ^ 62 ∧ R (Itr 0 j.toNat) H1
theorem pi_range1 {a : Expr} {ta : TA} {p pos : Pos} (hg : Gl X "range") (hm : X.mg "range" = none) (ha : PA X [a] ta) (hs : starEach [a] X.env = [(false, eval a X.env)] := by rfl) : PI X tg (.Call (.Name "range" p) [a] [] pos) (iRng1 ta) := by
  intro pins s σ H R I h
  refine Call_ (ld_blt I hg hm boot_range (PyProof.Rows.callWith_type1 (thn (ha pos pins s σ H _ I h) fun us s1 ⟨vs, H1, I1, r1, q1⟩ => ?_) hs rfl))
  obtain ⟨j, e, q1, q2, q⟩ := q1
  subst e
  cases r1 with
  | cons r rr =>
    cases rr
    obtain ⟨t, rfl⟩ := r
    exact call_range_1 (range_it I1 (by omega) (by omega) q1 q2 (by simpa using q))
def tFor (wi : TI) (g : TG) (tb : TS) : TS := fun D σ H => wi σ H fun J H1 => ∃ W : Nat → Nat → St → Hp → Prop, (∃ m, W 0 m σ H1) ∧ ∀ i m σ H, W i m σ H →
  (J.stop i H ∧ D.nx σ H) ∨ (J.go i H ∧ ∃ N : St → Hp → Prop, (∀ σ' H', N σ' H' → ∃ m', m' < m ∧ W (i + 1) m' σ' H') ∧ ∀ x H', J.yld i H x H' → g x σ H' fun σ2 H2 => tb { D with nx := N, ct := N, bk := D.nx } σ2 H2)
def pinsAt (fp : List Addr) (h : Heap) : List (Addr × Obj) := fp.filterMap fun b => (h.get? b).map fun o => (b, o)
theorem mem_pinsAt {fp : List Addr} {h : Heap} {b : Addr} {o : Obj} (hb : b ∈ fp) (e : h.get? b = some o) : (b, o) ∈ pinsAt fp h := List.mem_filterMap.mpr ⟨b, hb, by rw [e]; rfl⟩
theorem of_pinsAt {fp : List Addr} {h : Heap} {p : Addr × Obj} (hp : p ∈ pinsAt fp h) : p.1 ∈ fp ∧ h.get? p.1 = some p.2 := by
  obtain ⟨b, hb, e⟩ := List.mem_filterMap.mp hp
  cases q : h.get? b with
  | none => rw [q] at e; cases e
  | some o =>
    rw [q] at e
    have e' : (b, o) = p := Option.some.inj e
    subst e'
    exact ⟨hb, q⟩
theorem Inv.pinned {pins : List (Addr × Obj)} {σ : St} {H : Hp} {s : Shared} {fp : List Addr} (I : Inv X pins σ H s) (hf : ∀ b ∈ fp, FpOk X pins H b) (ho : ∀ b ∈ fp, ∃ o, s.heap.get? b = some o ∧ ∀ v, o.data ≠ .cell v) : Inv X (pins ++ pinsAt fp s.heap) σ H s :=
  I.pins_of fun p hp => (List.mem_append.mp hp).elim (fun z => I.pin p (List.mem_append_right _ z)) fun z => by
    obtain ⟨hb, e⟩ := of_pinsAt z
    obtain ⟨f0, f1, f2, _⟩ := hf p.1 hb
    obtain ⟨o, e', d⟩ := ho p.1 hb
    rw [e] at e'; cases e'
    exact ⟨e, f0, f1, f2, d⟩
theorem Inv.unpinned {pins pl : List (Addr × Obj)} {σ : St} {H : Hp} {s : Shared} (I : Inv X (pins ++ pl) σ H s) : Inv X pins σ H s := I.pins_of fun p hp => I.pin p (List.mem_append_right _ (List.mem_append_left _ hp))
theorem ps_for {iter : Expr} {body : List Stmt} {wi : TI} {g : TG} {tb : TS} {pos : Pos} (hp : PassesOwn (model X.prog X.w) X.A X.env X.xe) (hc : X.calm = true) (hi : PI X tg iter wi) (hg : PG X tg g) (hb : PSs X body tb)
    (hs : ∀ x, foldedSetIterable iter X.env x = pure x := by intro _; rfl) : PS X (.For tg iter body [] pos) (tFor wi g tb) := by
  intro pins s σ H D I h
  refine wpAny_For (thn (hi pins s σ H _ I h) fun v s1 h1 => thn h1 fun itv s2 h2 => ?_) hs
  obtain ⟨it, fp, tn, J, H2, e, I2, T, st2, f2, W, ⟨m0, w0⟩, turn⟩ := h2
  subst e
  have stat : ∀ {H' : Hp}, (∀ b ∈ fp, H' b = none) → ∀ b ∈ fp, FpOk X pins H' b := fun hn b hb => ⟨hn b hb, (f2 b hb).2⟩
  refine codeAny_forLoop_any (fun n s' => ∃ i σ' H', Inv X pins σ' H' s' ∧ tn i s'.heap ∧ (∀ b ∈ fp, H' b = none) ∧ W i n σ' H') ?_ m0 ⟨0, σ, H2, I2, st2, fun b hb => (f2 b hb).1, w0⟩
  rintro n s3 ⟨i, σ3, H3, I3, st3, fr3, w3⟩
  rcases turn i n σ3 H3 w3 with ⟨stop, qn⟩ | ⟨go, N, hN, step⟩
  · refine wpAny_passesOwn hp (thn (T.done X rfl rfl rfl hc i pins s3 σ3 H3 X.xe I3 (stat fr3) st3 stop) fun r s4 ⟨hr, I4⟩ => ?_)
    subst hr
    exact wpAny_execs_nil ⟨σ3, H3, I4, qn⟩
  · refine wpAny_passesOwn hp (thn (T.item X rfl rfl rfl hc i pins s3 σ3 H3 X.xe I3 (stat fr3) st3 go) fun r s4 ⟨u, hr, h4⟩ => ?_)
    subst hr
    refine wpAny_passesOwn hp (thn h4 fun _ s5 ⟨x, H5, I5, r5, y5, st5, fr5⟩ => ?_)
    have I5' := I5.pinned (stat fr5) (T.obj _ _ st5)
    refine wpAny_passesOwn hp (thn (hg _ s5 σ3 H5 x u _ I5' r5 (step x H5 y5)) fun _ s6 ⟨σ6, H6, I6, q6⟩ => ?_)
    refine wpAny_passesOwn hp (thn (hb _ s6 σ6 H6 _ I6 q6) fun f s7 q7 => ?_)
    have again : ∀ {σ7 : St} {H7 : Hp}, Inv X (pins ++ pinsAt fp s5.heap) σ7 H7 s7 → N σ7 H7 → ∃ m, m < n ∧ ∃ i σ' H', Inv X pins σ' H' s7 ∧ tn i s7.heap ∧ (∀ b ∈ fp, H' b = none) ∧ W i m σ' H' := fun {σ7 H7} I7 n7 => by
      obtain ⟨m', hm, w7⟩ := hN σ7 H7 n7
      refine ⟨m', hm, i + 1, σ7, H7, I7.unpinned, T.keep _ _ _ st5 fun b hb o e => (I7.pin (b, o) (List.mem_append_right _ (List.mem_append_right _ (mem_pinsAt hb e)))).1, fun b hb => ?_, w7⟩
      obtain ⟨o, e, d⟩ := T.obj _ _ st5 b hb
      exact (I7.pin (b, o) (List.mem_append_right _ (List.mem_append_right _ (mem_pinsAt hb e)))).2.1
    cases f with
    | next => obtain ⟨σ7, H7, I7, n7⟩ := q7; exact again I7 n7
    | cont => obtain ⟨σ7, H7, I7, n7⟩ := q7; exact again I7 n7
    | brk => obtain ⟨σ7, H7, I7, q7⟩ := q7; exact ⟨σ7, H7, I7.unpinned, q7⟩
    | ret v => obtain ⟨x7, σ7, H7, I7, r7, q7⟩ := q7; exact ⟨x7, σ7, H7, I7.unpinned, r7, q7⟩
end
end L2
namespace L2
open PySem PySem.Spec PyProof.Rows
abbrev R2 := V → V → Hp → VK → Prop
def OpR (X : Cx) (f : Value → Value → Sem Value) (r : R2) : Prop :=
  ∀ (pins : List (Addr × Obj)) (s : Shared) (σ : St) (H : Hp) (x y : V) (v u : Value) (Q : VK), Inv X pins σ H s → RelV x v → RelV y u → r x y H Q →
    wpAny (model X.prog X.w) X.A (f v u) (EP X pins σ Q) X.xe s
def UnR (X : Cx) (f : Value → Sem Value) (r : V → Hp → VK → Prop) : Prop :=
  ∀ (pins : List (Addr × Obj)) (s : Shared) (σ : St) (H : Hp) (x : V) (v : Value) (Q : VK), Inv X pins σ H s → RelV x v → r x H Q →
    wpAny (model X.prog X.w) X.A (f v) (EP X pins σ Q) X.xe s
def CallR (X : Cx) (f : Value) (r : List V → Hp → VK → Prop) : Prop :=
  ∀ (pins : List (Addr × Obj)) (s : Shared) (σ : St) (H : Hp) (xs : List V) (us : List Value) (Q : VK), Inv X pins σ H s → Vals xs us → r xs H Q →
    wpAny (model X.prog X.w) X.A (call f us) (EP X pins σ Q) X.xe s
def tOp (r : R2) (ta tb : TE) : TE := fun σ H Q => ta σ H fun x H1 => tb σ H1 fun y H2 => r x y H2 Q
def tUn (r : V → Hp → VK → Prop) (ta : TE) : TE := fun σ H Q => ta σ H fun x H1 => r x H1 Q
def rI (C : Int → Int → Prop) (g : Int → Int → V) : R2 := fun x y H Q => ∃ i j, x = .int i ∧ y = .int j ∧ C i j ∧ Q (g i j) H
def rI0 (g : Int → Int → V) : R2 := fun x y H Q => ∃ i j, x = .int i ∧ y = .int j ∧ Q (g i j) H
def rU (g : Int → V) : V → Hp → VK → Prop := fun x H Q => ∃ i, x = .int i ∧ Q (g i) H
section
variable {X : Cx} {a b c : Expr} {ta tb tc : TE} {pos : Pos}
theorem binT (ha : PE X a ta) (hb : PE X b tb) {pins : List (Addr × Obj)} {s : Shared} {σ : St} {H : Hp} {R : V → V → Hp → Prop} (I : Inv X pins σ H s)
    (h : ta σ H fun x H1 => tb σ H1 fun y H2 => R x y H2) {Q : Value → Shared → Prop} {f : Value → Value → Sem Value}
    (hf : ∀ v u s2 x y H2, Inv X pins σ H2 s2 → RelV x v → RelV y u → R x y H2 → wpAny (model X.prog X.w) X.A (f v u) Q X.xe s2) :
    wpAny (model X.prog X.w) X.A (eval a X.env) (fun v s₁ => wpAny (model X.prog X.w) X.A (eval b X.env) (fun u s₂ => wpAny (model X.prog X.w) X.A (f v u) Q X.xe s₂) X.xe s₁) X.xe s := by
  refine thn (ha pins s σ H _ I h) fun v s1 ⟨x, H1, I1, r1, q1⟩ => ?_
  refine thn (hb pins s1 σ H1 _ I1 q1) fun u s2 ⟨y, H2, I2, r2, q2⟩ => ?_
  exact hf v u s2 x y H2 I2 r1 r2 q2
theorem pe_op {op : Operator} {r : R2} (ho : OpR X (binaryOp op) r) (ha : PE X a ta) (hb : PE X b tb) : PE X (.BinOp a op b pos) (tOp r ta tb) := by
  intro pins s σ H Q I h
  exact wpAny_BinOp (binT ha hb I h fun v u s2 x y H2 I2 rx ry q => ho pins s2 σ H2 x y v u Q I2 rx ry q)
theorem pe_un {op : UnaryOp} {r : V → Hp → VK → Prop} (ho : UnR X (unaryOp op) r) (ha : PE X a ta) : PE X (.UnaryOp op a pos) (tUn r ta) := by
  intro pins s σ H Q I h
  exact UnaryOp_ (thn (ha pins s σ H _ I h) fun v s1 ⟨x, H1, I1, r1, q1⟩ => ho pins s1 σ H1 x v Q I1 r1 q1)
theorem opI {f : Value → Value → Sem Value} {C : Int → Int → Prop} {g : Int → Int → Int}
    (rule : ∀ (i j : Int) (t u : Tok) (s : Shared) (Q : Value → Shared → Prop) (E : Value → Shared → Prop), C i j → Q (.int (g i j) s.toks) { s with toks := s.toks + 1 } → wpAny (model X.prog X.w) X.A (f (.int i t) (.int j u)) Q E s) :
    OpR X f (rI C fun i j => .int (g i j)) := by
  intro pins s σ H x y v u Q I rx ry h
  obtain ⟨i, j, rfl, rfl, hc, q⟩ := h
  obtain ⟨t, rfl⟩ := rx
  obtain ⟨t', rfl⟩ := ry
  exact rule i j t t' s _ _ hc ⟨.int (g i j), H, I.tok _, ⟨_, rfl⟩, q⟩
theorem opI0 {f : Value → Value → Sem Value} {g : Int → Int → Int}
    (rule : ∀ (i j : Int) (t u : Tok) (s : Shared) (Q : Value → Shared → Prop) (E : Value → Shared → Prop), Q (.int (g i j) s.toks) { s with toks := s.toks + 1 } → wpAny (model X.prog X.w) X.A (f (.int i t) (.int j u)) Q E s) :
    OpR X f (rI0 fun i j => .int (g i j)) := by
  intro pins s σ H x y v u Q I rx ry h
  obtain ⟨i, j, rfl, rfl, q⟩ := h
  obtain ⟨t, rfl⟩ := rx
  obtain ⟨t', rfl⟩ := ry
  exact rule i j t t' s _ _ ⟨.int (g i j), H, I.tok _, ⟨_, rfl⟩, q⟩
theorem opB0 {f : Value → Value → Sem Value} {g : Int → Int → Bool}
    (rule : ∀ (i j : Int) (t u : Tok) (s : Shared) (Q : Value → Shared → Prop) (E : Value → Shared → Prop), Q (.bool (g i j)) s → wpAny (model X.prog X.w) X.A (f (.int i t) (.int j u)) Q E s) :
    OpR X f (rI0 fun i j => .bl (g i j)) := by
  intro pins s σ H x y v u Q I rx ry h
  obtain ⟨i, j, rfl, rfl, q⟩ := h
  obtain ⟨t, rfl⟩ := rx
  obtain ⟨t', rfl⟩ := ry
  exact rule i j t t' s _ _ ⟨.bl (g i j), H, I, rfl, q⟩
def CPow (i j : Int) : Prop := 0 ≤ j ∧ j ≤ 1000000 ∧ i.natAbs < 2 ^ 64
def CMul (i j : Int) : Prop := (-(2 ^ 64) < i ∧ i < 2 ^ 64) ∨ (-(2 ^ 64) < j ∧ j < 2 ^ 64)
theorem CMul.ok {i j : Int} (h : CMul i j) : IntMulOk i j := by
  rcases h with ⟨h1, h2⟩ | ⟨h1, h2⟩
  · exact .of_left (intBits_le_64 h1 h2)
  · exact .of_right (intBits_le_64 h1 h2)
theorem op_add : OpR X (binaryOp .Add) (rI0 fun i j => .int (i + j)) := opI0 fun _ _ _ _ _ _ _ q => add_int q
theorem op_sub : OpR X (binaryOp .Sub) (rI0 fun i j => .int (i - j)) := opI0 fun _ _ _ _ _ _ _ q => sub_int q
theorem op_mod : OpR X (binaryOp .Mod) (rI (fun _ j => 0 < j) fun i j => .int (i % j)) := opI fun i j _ _ _ _ _ hc q => by
  have h1 : (0 : Int) < j := hc
  exact mod_int' (by omega) (by rw [Int.fmod_eq_emod_of_nonneg i (by omega)]; exact q)
theorem op_pow : OpR X (binaryOp .Pow) (rI CPow fun i j => .int (i ^ j.toNat)) := opI fun _ _ _ _ _ _ _ hc q => pow_int_small hc.1 hc.2.1 hc.2.2 q
theorem unI {f : Value → Sem Value} {g : Int → Int}
    (rule : ∀ (i : Int) (t : Tok) (s : Shared) (Q : Value → Shared → Prop) (E : Value → Shared → Prop), Q (.int (g i) s.toks) { s with toks := s.toks + 1 } → wpAny (model X.prog X.w) X.A (f (.int i t)) Q E s) :
    UnR X f (rU fun i => .int (g i)) := by
  intro pins s σ H x v Q I rx h
  obtain ⟨i, rfl, q⟩ := h
  obtain ⟨t, rfl⟩ := rx
  exact rule i t s _ _ ⟨.int (g i), H, I.tok _, ⟨_, rfl⟩, q⟩
theorem un_neg : UnR X (unaryOp .USub) (rU fun i => .int (-i)) := unI fun _ _ _ _ _ q => neg_int q
end
def scal : V → V → Bool
  | .non, .non => true | .non, .int _ => true | .int _, .non => true | .non, .bl _ => true | .bl _, .non => true | .non, .str _ => true | .str _, .non => true
  | .int _, .int _ => true | .bl _, .bl _ => true | .str _, .str _ => true | .byt _, .byt _ => true
  | .int _, .str _ => true | .str _, .int _ => true | .bl _, .str _ => true | .str _, .bl _ => true
  | _, _ => false
def rEq : R2 := fun x y H Q => scal x y = true ∧ Q (.bl (decide (x = y))) H
def rNe : R2 := fun x y H Q => scal x y = true ∧ Q (.bl (!decide (x = y))) H
theorem dec_int {i j : Int} : decide (V.int i = V.int j) = (i == j) := by
  rw [Bool.eq_iff_iff]
  simp
theorem dec_bl {i j : Bool} : decide (V.bl i = V.bl j) = (i == j) := by
  rw [Bool.eq_iff_iff]
  simp
theorem dec_str {i j : Str} : decide (V.str i = V.str j) = (i == j) := by
  rw [Bool.eq_iff_iff]
  simp
theorem dec_byt {i j : Array UInt8} : decide (V.byt i = V.byt j) = (i.toList == j.toList) := by
  rw [Bool.eq_iff_iff]
  cases i
  cases j
  simp
section
variable {X : Cx} {a b c : Expr} {ta tb tc : TE} {pos : Pos}
theorem fin_bl {pins : List (Addr × Obj)} {σ : St} {H : Hp} {s : Shared} {Q : VK} {k k' : Bool} (I : Inv X pins σ H s) (q : Q (.bl k) H) (e : k = k') : EP X pins σ Q (.bool k') s := by
  subst e
  exact ⟨.bl k, H, I, rfl, q⟩
theorem op_eq : OpR X (compareOp .Eq) rEq := by
  intro pins s σ H x y v u Q I rx ry h
  obtain ⟨hs, q⟩ := h
  cases x with
  | non =>
    cases rx
    cases y with
    | non => cases ry; exact PySem.EqNone.eq_none_none (fin_bl I q (by simp))
    | bl j => cases ry; exact PySem.EqNone.eq_none_bool (fin_bl I q (by simp))
    | int j => obtain ⟨t', rfl⟩ := ry; exact PySem.EqNone.eq_none_int (fin_bl I q (by simp))
    | str j => obtain ⟨t', rfl⟩ := ry; exact PySem.EqNone.eq_none_str (fin_bl I q (by simp))
    | _ => exact absurd (show false = true from hs) Bool.false_ne_true
  | bl i =>
    cases rx
    cases y with
    | non => cases ry; exact PySem.EqNone.eq_bool_none (fin_bl I q (by simp))
    | bl j => cases ry; exact eq_bool (fin_bl I q dec_bl)
    | str j => obtain ⟨t', rfl⟩ := ry; exact PySem.EqMixed.eq_bool_str (fin_bl I q (by simp))
    | _ => exact absurd (show false = true from hs) Bool.false_ne_true
  | int i =>
    obtain ⟨t, rfl⟩ := rx
    cases y with
    | non => cases ry; exact PySem.EqNone.eq_int_none (fin_bl I q (by simp))
    | int j => obtain ⟨t', rfl⟩ := ry; exact eq_int (fin_bl I q dec_int)
    | str j => obtain ⟨t', rfl⟩ := ry; exact PySem.EqMixed.eq_int_str (fin_bl I q (by simp))
    | _ => exact absurd (show false = true from hs) Bool.false_ne_true
  | str i =>
    obtain ⟨t, rfl⟩ := rx
    cases y with
    | non => cases ry; exact PySem.EqNone.eq_str_none (fin_bl I q (by simp))
    | bl j => cases ry; exact PySem.EqMixed.eq_str_bool (fin_bl I q (by simp))
    | int j => obtain ⟨t', rfl⟩ := ry; exact PySem.EqMixed.eq_str_int (fin_bl I q (by simp))
    | str j => obtain ⟨t', rfl⟩ := ry; exact eq_str (fin_bl I q dec_str)
    | _ => exact absurd (show false = true from hs) Bool.false_ne_true
  | byt i =>
    obtain ⟨t, rfl⟩ := rx
    cases y with
    | byt j => obtain ⟨t', rfl⟩ := ry; exact PySem.W.eq_bytes (fin_bl I q dec_byt)
    | _ => exact absurd (show false = true from hs) Bool.false_ne_true
  | _ => cases y <;> exact absurd (show false = true from hs) Bool.false_ne_true
theorem op_ne : OpR X (compareOp .NotEq) rNe := by
  intro pins s σ H x y v u Q I rx ry h
  obtain ⟨hs, q⟩ := h
  cases x with
  | non =>
    cases rx
    cases y with
    | non => cases ry; exact PySem.EqNone.ne_none_none (fin_bl I q (by simp))
    | bl j => cases ry; exact PySem.EqNone.ne_none_bool (fin_bl I q (by simp))
    | int j => obtain ⟨t', rfl⟩ := ry; exact PySem.EqNone.ne_none_int (fin_bl I q (by simp))
    | str j => obtain ⟨t', rfl⟩ := ry; exact PySem.EqNone.ne_none_str (fin_bl I q (by simp))
    | _ => exact absurd (show false = true from hs) Bool.false_ne_true
  | bl i =>
    cases rx
    cases y with
    | non => cases ry; exact PySem.EqNone.ne_bool_none (fin_bl I q (by simp))
    | bl j => cases ry; exact ne_bool (fin_bl I q (congrArg not dec_bl))
    | str j => obtain ⟨t', rfl⟩ := ry; exact PySem.EqMixed.ne_bool_str (fin_bl I q (by simp))
    | _ => exact absurd (show false = true from hs) Bool.false_ne_true
  | int i =>
    obtain ⟨t, rfl⟩ := rx
    cases y with
    | non => cases ry; exact PySem.EqNone.ne_int_none (fin_bl I q (by simp))
    | int j => obtain ⟨t', rfl⟩ := ry; exact ne_int (fin_bl I q (congrArg not dec_int))
    | str j => obtain ⟨t', rfl⟩ := ry; exact PySem.EqMixed.ne_int_str (fin_bl I q (by simp))
    | _ => exact absurd (show false = true from hs) Bool.false_ne_true
  | str i =>
    obtain ⟨t, rfl⟩ := rx
    cases y with
    | non => cases ry; exact PySem.EqNone.ne_str_none (fin_bl I q (by simp))
    | bl j => cases ry; exact PySem.EqMixed.ne_str_bool (fin_bl I q (by simp))
    | int j => obtain ⟨t', rfl⟩ := ry; exact PySem.EqMixed.ne_str_int (fin_bl I q (by simp))
    | str j => obtain ⟨t', rfl⟩ := ry; exact ne_str (fin_bl I q (congrArg not dec_str))
    | _ => exact absurd (show false = true from hs) Bool.false_ne_true
  | byt i =>
    obtain ⟨t, rfl⟩ := rx
    cases y with
    | byt j => obtain ⟨t', rfl⟩ := ry; exact PySem.W.ne_bytes (fin_bl I q (congrArg not dec_byt))
    | _ => exact absurd (show false = true from hs) Bool.false_ne_true
  | _ => cases y <;> exact absurd (show false = true from hs) Bool.false_ne_true
theorem op_lt : OpR X (compareOp .Lt) (rI0 fun i j => .bl (decide (i < j))) := opB0 fun _ _ _ _ _ _ _ q => lt_int q
theorem op_le : OpR X (compareOp .LtE) (rI0 fun i j => .bl (decide (i ≤ j))) := opB0 fun _ _ _ _ _ _ _ q => le_int q
theorem op_gt : OpR X (compareOp .Gt) (rI0 fun i j => .bl (decide (j < i))) := opB0 fun _ _ _ _ _ _ _ q => gt_int q
theorem op_ge : OpR X (compareOp .GtE) (rI0 fun i j => .bl (decide (j ≤ i))) := opB0 fun _ _ _ _ _ _ _ q => ge_int q
theorem op_in_str : OpR X (compareOp .In) (fun x y H Q => ∃ i j, x = .str i ∧ y = .str j ∧ Q (.bl (!(Builtin.Str.occurrences j i 0 j.length 1).isEmpty)) H) := by
  intro pins s σ H x y v u Q I rx ry h
  obtain ⟨i, j, rfl, rfl, q⟩ := h
  obtain ⟨t, rfl⟩ := rx
  obtain ⟨t', rfl⟩ := ry
  exact in_str (fin_bl I q rfl)
def isObj : HO → Bool
  | .lst _ => true
  | .ins _ _ _ => true
  | _ => false
theorem obj_there {pins : List (Addr × Obj)} {s : Shared} {σ : St} {H : Hp} {a : Addr} {o : HO} (I : Inv X pins σ H s) (h : H a = some o) (p : isObj o = true) : ∃ ob, s.heap.get? a = some ob ∧ ob.cls ≠ .type "tuple" := by
  cases o with
  | lst xs =>
    obtain ⟨_, its, n, _, e⟩ : xs.length ≤ sizeLine ∧ ∃ (its : List Value) (n : Nat), Vals xs its ∧ s.heap.get? a = some { cls := .type "list", data := .seq its.toArray n } := I.hok a _ h
    exact ⟨_, e, (by show Value.type "list" ≠ .type "tuple"; decide +kernel)⟩
  | ins C dx fs =>
    have x := I.hok a _ h
    obtain ⟨_, _, _, e, _⟩ := x
    exact ⟨_, e, (by show Value.ref C ≠ .type "tuple"; exact fun z => by cases z)⟩
  | _ => exact absurd (show false = true from p) Bool.false_ne_true
theorem OpR.or {f : Value → Value → Sem Value} {r r' : R2} (h : OpR X f r) (h' : OpR X f r') : OpR X f (fun x y H Q => r x y H Q ∨ r' x y H Q) := by
  intro pins s σ H x y v u Q I rx ry q
  rcases q with q | q
  · exact h pins s σ H x y v u Q I rx ry q
  · exact h' pins s σ H x y v u Q I rx ry q
theorem nomark (b : Expr) {op : CmpOp} (h : op ≠ .In := by decide) (h2 : op ≠ .NotIn := by decide) : behindInMarks op b = false := by
  have e1 : (op == CmpOp.In) = false := by cases op <;> first | rfl | exact absurd rfl h
  have e2 : (op == CmpOp.NotIn) = false := by cases op <;> first | rfl | exact absurd rfl h2
  cases b <;> simp [behindInMarks, e1, e2]
theorem pe_cmpR {op : CmpOp} {r : R2} (ho : OpR X (compareOp op) r) (ha : PE X a ta) (hb : PE X b tb) (hm : behindInMarks op b = false) : PE X (.Compare a [op] [b] pos) (tOp r ta tb) := by
  intro pins s σ H Q I h
  exact wpAny_Compare1 (binT ha hb I h fun v u s2 x y H2 I2 rx ry q => ho pins s2 σ H2 x y v u Q I2 rx ry q) hm
def tTest (t : TE) : TT := fun σ H Q => t σ H fun x H' => ∃ k, x = .bl k ∧ Q k H'
theorem pt_cmpR {op : CmpOp} {r : R2} (ho : OpR X (compareOp op) r) (ha : PE X a ta) (hb : PE X b tb) (hm : behindInMarks op b = false) : PT X (.Compare a [op] [b] pos) (tTest (tOp r ta tb)) := by
  intro pins s σ H Q I h
  refine wpAny_isTrue_Compare1 (thn (ha pins s σ H _ I h) fun v s1 ⟨x, H1, I1, r1, q1⟩ => thn (hb pins s1 σ H1 _ I1 q1) fun u s2 ⟨y, H2, I2, r2, q2⟩ =>
    thn (ho pins s2 σ H2 x y v u _ I2 r1 r2 q2) fun c s3 ⟨z, H3, I3, r3, k, e, q3⟩ => ?_) hm
  subst e
  cases r3
  exact wpAny_truthy_bool ⟨H3, I3, q3⟩
def tChain (r r' : R2) (ta tb tc : TE) : TE := fun σ H Q => ta σ H fun x H1 => tb σ H1 fun y H2 => r x y H2 fun z H3 => ∃ k, z = .bl k ∧
  (if k = true then tc σ H3 fun w' H4 => r' y w' H4 Q else Q (.bl false) H3)
theorem pe_chain {op op' : CmpOp} {r r' : R2} (ho : OpR X (compareOp op) r) (ho' : OpR X (compareOp op') r') (ha : PE X a ta) (hb : PE X b tb) (hc : PE X c tc)
    (hm : lastMarks [op, op'] [b, c] = false := by with_unfolding_all rfl) : PE X (.Compare a [op, op'] [b, c] pos) (tChain r r' ta tb tc) := by
  intro pins s σ H Q I h
  refine Compare_chain (thn (ha pins s σ H _ I h) fun v s1 ⟨x, H1, I1, r1, q1⟩ => chain_link (thn (hb pins s1 σ H1 _ I1 q1) fun u s2 ⟨y, H2, I2, r2, q2⟩ =>
    thn (ho pins s2 σ H2 x y v u _ I2 r1 r2 q2) fun d s3 ⟨z, H3, I3, r3, k, e, q3⟩ => ?_)) hm
  subst e
  cases r3
  refine wpAny_truthy_bool ?_
  cases k with
  | false => exact ite_ff ⟨.bl false, H3, I3, rfl, q3⟩
  | true => exact ite_tt (chain_last (thn (hc pins s3 σ H3 _ I3 q3) fun w' s4 ⟨z', H4, I4, r4, q4⟩ => ho' pins s4 σ H4 y z' u w' Q I4 r2 r4 q4))
theorem pt_chain {op op' : CmpOp} {r r' : R2} (ho : OpR X (compareOp op) r) (ho' : OpR X (compareOp op') r') (ha : PE X a ta) (hb : PE X b tb) (hc : PE X c tc)
    (hm : lastMarks [op, op'] [b, c] = false := by with_unfolding_all rfl) : PT X (.Compare a [op, op'] [b, c] pos) (tTest (tChain r r' ta tb tc)) := by
  intro pins s σ H Q I h
  refine isTrue_chain (thn (ha pins s σ H _ I h) fun v s1 ⟨x, H1, I1, r1, q1⟩ => test_link (thn (hb pins s1 σ H1 _ I1 q1) fun u s2 ⟨y, H2, I2, r2, q2⟩ =>
    thn (ho pins s2 σ H2 x y v u _ I2 r1 r2 q2) fun d s3 ⟨z, H3, I3, r3, k, e, q3⟩ => ?_)) hm
  subst e
  cases r3
  refine wpAny_truthy_bool ?_
  cases k with
  | false =>
    obtain ⟨k', e', q'⟩ := q3
    cases e'
    exact ite_ff ⟨H3, I3, q'⟩
  | true =>
    refine ite_tt (test_last (thn (hc pins s3 σ H3 _ I3 q3) fun w' s4 ⟨z', H4, I4, r4, q4⟩ => thn (ho' pins s4 σ H4 y z' u w' _ I4 r2 r4 q4) fun d' s5 ⟨z2, H5, I5, r5, k2, e2, q5⟩ => ?_))
    subst e2
    cases r5
    exact wpAny_truthy_bool ⟨H5, I5, q5⟩
theorem line63 : (sizeLine : Nat) < 2 ^ 63 := by rw [sizeLine_eq]; decide
theorem op_add_str : OpR X (binaryOp .Add) (fun x y H Q => ∃ i j, x = .str i ∧ y = .str j ∧ i.length + j.length ≤ sizeLine ∧ Q (.str (i ++ j)) H) := by
  intro pins s σ H x y v u Q I rx ry h
  obtain ⟨i, j, rfl, rfl, hz, q⟩ := h
  obtain ⟨t, rfl⟩ := rx
  obtain ⟨t', rfl⟩ := ry
  exact add_str (fun t' tk => ⟨.str (i ++ j), H, I.tok _, ⟨_, rfl⟩, q⟩) hz
theorem vals1 {x : V} {us : List Value} (r : Vals [x] us) : ∃ u, us = [u] ∧ RelV x u := by
  cases r with
  | cons r1 r2 => cases r2; exact ⟨_, rfl, r1⟩
theorem vals2 {x y : V} {us : List Value} (r : Vals [x, y] us) : ∃ u w', us = [u, w'] ∧ RelV x u ∧ RelV y w' := by
  cases r with
  | cons r1 r2 =>
    cases r2 with
    | cons r3 r4 => cases r4; exact ⟨_, _, rfl, r1, r3⟩
theorem call_abs : CallR X (.builtin "abs") (fun xs H Q => ∃ i, xs = [.int i] ∧ Q (.int (if i < 0 then -i else i)) H) := by
  intro pins s σ H xs us Q I r h
  obtain ⟨i, rfl, q⟩ := h
  obtain ⟨u, rfl, t, rfl⟩ := vals1 r
  exact call_abs_int fun u tk => ⟨.int (if i < 0 then -i else i), H, I.tok _, ⟨_, rfl⟩, q⟩
theorem call_max2 (hc : X.calm = true) : CallR X (.builtin "max") (fun xs H Q => ∃ i j, xs = [.int i, .int j] ∧ Q (.int (if j > i then j else i)) H) := by
  intro pins s σ H xs us Q I r h
  obtain ⟨i, j, rfl, q⟩ := h
  obtain ⟨u, w', rfl, ⟨t, rfl⟩, ⟨t', rfl⟩⟩ := vals2 r
  refine max_two_ints (I.ok.hd hc) fun h' tk k => ⟨_, H, I.kept k, ?_, q⟩
  by_cases hj : j > i
  · rw [if_pos hj, if_pos hj]; exact ⟨_, rfl⟩
  · rw [if_neg hj, if_neg hj]; exact ⟨_, rfl⟩
theorem call_min2 (hc : X.calm = true) : CallR X (.builtin "min") (fun xs H Q => ∃ i j, xs = [.int i, .int j] ∧ Q (.int (if j < i then j else i)) H) := by
  intro pins s σ H xs us Q I r h
  obtain ⟨i, j, rfl, q⟩ := h
  obtain ⟨u, w', rfl, ⟨t, rfl⟩, ⟨t', rfl⟩⟩ := vals2 r
  refine min_two_ints (I.ok.hd hc) fun h' tk k => ⟨_, H, I.kept k, ?_, q⟩
  by_cases hj : j < i
  · rw [if_pos hj, if_pos hj]; exact ⟨_, rfl⟩
  · rw [if_neg hj, if_neg hj]; exact ⟨_, rfl⟩
theorem call_int1 : CallR X (.type "int") (fun xs H Q => (∃ i, xs = [.int i] ∧ Q (.int i) H) ∨ ∃ k, xs = [.bl k] ∧ Q (.int (if k then 1 else 0)) H) := by
  intro pins s σ H xs us Q I r h
  rcases h with ⟨i, rfl, q⟩ | ⟨k, rfl, q⟩
  · obtain ⟨u, rfl, t, rfl⟩ := vals1 r
    exact call_int_int ⟨.int i, H, I, ⟨_, rfl⟩, q⟩
  · obtain ⟨u, rfl, r1⟩ := vals1 r
    cases r1
    exact call_int_bool ⟨.int (if k then 1 else 0), H, I.tok _, ⟨_, rfl⟩, q⟩
end
end L2
namespace L2
open PySem PySem.Spec PyProof.Rows
structure ObjM (h : Heap) (x dx C : Addr) (mA : Str → Option Value) : Prop where
  obj : h.get? x = some (PySem.W.instObj C dx)
  ns : h.Ns1 dx mA
  ne : dx ≠ x
theorem lookIn_ns {h : Heap} {dx : Addr} {mA : Str → Option Value} (n : h.Ns1 dx mA) : ∃ od, h.get? dx = some od ∧ ∀ name, PySem.W.lookIn name od = some (mA name) := by
  obtain ⟨o, es, ep, ho, hd, hk, _, hm⟩ := n
  refine ⟨o, ho, fun name => ?_⟩
  have e := hm name
  unfold nsFind findBy at e
  rw [← Array.find?_toList] at e
  unfold PySem.W.lookIn
  rw [hd]
  dsimp only
  split
  · rename_i y q
    rw [q] at e
    exact congrArg some e
  · rename_i q
    rw [q] at e
    have a : es.toList.any (·.refKey) = false := by
      rw [List.any_eq_false]
      intro y hy
      obtain ⟨z, t, hkey⟩ := hk y (Array.mem_toList_iff.mp hy)
      simp [DictEntry.refKey, hkey]
    have a' : ¬ es.toList.any (·.refKey) = true := by rw [a]; exact Bool.false_ne_true
    rw [if_neg a']
    exact congrArg some e
theorem ObjM.look {h : Heap} {x dx C : Addr} {mA : Str → Option Value} (I : ObjM h x dx C mA) : ∃ od, PySem.W.InstAt h x (PySem.W.instObj C dx) C (some od) ∧ ∀ name, PySem.W.lookIn name od = some (mA name) :=
  let ⟨od, ho, hl⟩ := lookIn_ns I.ns
  ⟨od, ⟨I.obj, rfl, rfl, ho⟩, hl⟩
section
variable {prog : Program} {w : World} {A : Around} {E : Value → Shared → Prop} {s : Shared} {K : PySem.W.Frag} {x dx C f : Addr} {mA : Str → Option Value} {name : Str} {v : Value}
end
def putF (f : Str) (v : V) : List (Str × V) → List (Str × V)
  | [] => [(f, v)]
  | (g, x) :: r => if g = f then (g, v) :: r else (g, x) :: putF f v r
theorem lookup_putF (f g : Str) (v : V) : ∀ fs : List (Str × V), (putF f v fs).lookup g = if g = f then some v else fs.lookup g
  | [] => by
    show List.lookup g [(f, v)] = _
    by_cases h : g = f
    · have hb : (g == f) = true := beq_iff_eq.mpr h
      simp only [List.lookup, hb, if_pos h]
    · have hb : (g == f) = false := beq_eq_false_iff_ne.mpr h
      simp only [List.lookup, hb, if_neg h]
  | (k, x) :: r => by
    have ih := lookup_putF f g v r
    rw [show putF f v ((k, x) :: r) = (if k = f then (k, v) :: r else (k, x) :: putF f v r) from rfl]
    by_cases hk : k = f
    · rw [if_pos hk]
      by_cases h : g = k
      · have hb : (g == k) = true := beq_iff_eq.mpr h
        simp only [List.lookup, hb, if_pos (h.trans hk)]
      · have hb : (g == k) = false := beq_eq_false_iff_ne.mpr h
        simp only [List.lookup, hb, if_neg (fun e : g = f => h (e.trans hk.symm))]
    · rw [if_neg hk]
      by_cases h : g = k
      · have hb : (g == k) = true := beq_iff_eq.mpr h
        simp only [List.lookup, hb, if_neg (fun e : g = f => hk (h.symm.trans e))]
      · have hb : (g == k) = false := beq_eq_false_iff_ne.mpr h
        simp only [List.lookup, hb]
        exact ih
theorem RelO.none_of {o : Option Value} (r : RelO none o) : o = none := by
  cases o with
  | none => rfl
  | some u => exact (show False from r).elim
section
variable {P : Program} {w : World} {H H' : Hp} {h h' : Heap} {a C dx : Addr} {fs fs' : List (Str × V)}
end
structure Cls (K : PySem.W.Frag) (C : Addr) : Prop where
  pg : PySem.W.plainGet K C Str.empty = true
  hd : PySem.W.hasDictIn K C = true
  po : PySem.W.plainOver K C = true
  sa : PySem.W.findIn K (.ref C) "__setattr__" = some (some (.builtin "object.__setattr__"))
theorem Cls.get {K : PySem.W.Frag} {C : Addr} (c : Cls K C) (f : Str) : PySem.W.plainGet K C f = true := c.pg
def NoAttr (K : PySem.W.Frag) (C : Addr) (f : Str) : Prop := PySem.W.findIn K (.ref C) f = some none
theorem NoAttr.taker {K : PySem.W.Frag} {C : Addr} {f : Str} (n : NoAttr K C f) : PySem.W.takerIn K C f = some none := by
  unfold PySem.W.takerIn
  rw [show PySem.W.findIn K (.ref C) f = some none from n]
  rfl
structure Con (K : PySem.W.Frag) (C : Addr) (f : Str) (v : V) (u : Value) : Prop where
  at_ : PySem.W.findIn K (.ref C) f = some (some u)
  rel : RelV v u
  get : PySem.W.specialIn K u "__get__" = some none
  cp : PySem.W.copiedNames.contains f = false
structure Meth (K : PySem.W.Frag) (C : Addr) (m : Str) (f : Addr) : Prop where
  at_ : PySem.W.findIn K (.ref C) m = some (some (.ref f))
  fn : PySem.W.isFn K (.ref f) = true
  kp : PySem.W.keepIn K (.ref f) = true
section
variable {X : Cx} {pins : List (Addr × Obj)} {σ : St} {H : Hp} {s : Shared} {a C dx : Addr} {fs : List (Str × V)} {f : Str} {v : V} {A : Around} {E : Value → Shared → Prop}
theorem Inv.made (I : Inv X pins σ H s) : Inv X pins σ (upd (upd H s.heap.objs.size (.own (s.heap.objs.size + 1))) (s.heap.objs.size + 1) (.ins C s.heap.objs.size []))
    { s with heap := (s.heap.push PySem.W.emptyDict).push (PySem.W.instObj C s.heap.objs.size) } := by
  have e1 : (s.heap.push PySem.W.emptyDict).get? s.heap.objs.size = some PySem.W.emptyDict := Heap.get?_push_size s.heap rfl
  have e2 : ((s.heap.push PySem.W.emptyDict).push (PySem.W.instObj C s.heap.objs.size)).get? (s.heap.objs.size + 1) = some (PySem.W.instObj C s.heap.objs.size) := by
    have := Heap.get?_push_size (s.heap.push PySem.W.emptyDict) (o := PySem.W.instObj C s.heap.objs.size) rfl
    rwa [Heap.size_push] at this
  have e3 : (s.heap.push PySem.W.emptyDict).Ns s.heap.objs.size (fun _ => none) := ⟨PySem.W.emptyDict, #[], _, e1, rfl, (fun e he => absurd he (by simp)), fun _ => rfl⟩
  have I1 := I.laid (a := s.heap.objs.size) (o := .own (s.heap.objs.size + 1)) (h' := s.heap.push PySem.W.emptyDict) (t' := s.toks) (fun b u q => Heap.get?_push_of_some _ q) (Nat.le_refl _) ⟨_, e1⟩
  refine I1.laid (a := s.heap.objs.size + 1) (o := .ins C s.heap.objs.size []) (t' := s.toks) (fun b u q => Heap.get?_push_of_some _ q) (Nat.le_of_eq (Heap.size_push _ _)) ?_
  have ne : s.heap.objs.size ≠ s.heap.objs.size + 1 := Nat.ne_of_lt (Nat.lt_succ_self _)
  refine ⟨by rw [upd_ne ne, upd_same], Nat.zero_le _, ne, e2, fun _ => none, (Heap.Ns1.of_empty e3).at fun o q => Heap.get?_push_of_some _ q, fun _ => True.intro, fun y hy => absurd rfl hy⟩
end
section
variable {X : Cx} {o e value : Expr} {f : Str} {pos pos' tpos : Pos} {ta tv : TE}
end
section
variable {X : Cx} {pins : List (Addr × Obj)} {σ : St} {H : Hp} {s : Shared} {A : Around} {E : Value → Shared → Prop} {Q : Value → Shared → Prop} {c : Value} {b : Bool}
inductive TyOf (K : PySem.W.Frag) (H : Hp) : V → Value → Prop where
  | non : TyOf K H .non (.type "NoneType")
  | bl (x : Bool) : TyOf K H (.bl x) (.type "bool")
  | int (i : Int) : TyOf K H (.int i) (.type "int")
  | str (x : Str) : TyOf K H (.str x) (.type "str")
  | flt (x : UInt64) : TyOf K H (.flt x) (.type "float")
  | lst {a : Addr} {xs : List V} (e : H a = some (.lst xs)) : TyOf K H (.ref a) (.type "list")
  | frz {a : Addr} {o : Obj} {xs : List V} (e : H a = some (.frz o (.lst xs))) : TyOf K H (.ref a) (.type "list")
  | tup {a : Addr} {xs : List V} (e : H a = some (.tup xs)) : TyOf K H (.ref a) (.type "tuple")
  | dK {a : Addr} {kvs : List (Key × V)} (e : H a = some (.dK kvs)) : TyOf K H (.ref a) (.type "dict")
  | dT {a : Addr} {kvs : List (List Key × V)} (e : H a = some (.dT kvs)) : TyOf K H (.ref a) (.type "dict")
  | ins {a C dx : Addr} {fs : List (Str × V)} (e : H a = some (.ins C dx fs)) (cl : Cls K C) (ha : PySem.W.findIn K (.ref C) "__class__" = some (some (.builtin "object.__class__")))
      (hn : PySem.W.specialIn K (.builtin "object.__class__") "__get__" = some (some (.builtin "getset_descriptor.__get__"))) (htk : PySem.W.takesIn K (.builtin "object.__class__") = some true)
      (hm : PySem.W.mroIn K C (.type "object") = some true) : TyOf K H (.ref a) (.ref C)
end
end L2
namespace L2
open PySem PySem.Spec PyProof.Rows
structure Room (k : Nat) (A : Around) : Prop where
  hd : A.handled = none
  dp : A.depth + 3 * k + 5 < recursionLimit
  un : A.units + 16 * k + 200 < cLine
theorem Room.mono {j k : Nat} {A : Around} (r : Room k A) (h : j ≤ k) : Room j A := ⟨r.hd, by have := r.dp; omega, by have := r.un; omega⟩
theorem Room.deeper {k : Nat} {A : Around} (r : Room (k + 1) A) (env : Env) : Room k (A.deeper env) :=
  ⟨r.hd, by have := r.dp; show A.depth + 1 + 3 * k + 5 < _; omega, by have := r.un; show A.units + 3 + 16 * k + 200 < _; omega⟩
theorem Room.in1 {k : Nat} {A : Around} (r : Room (k + 1) A) : Room k A.in1 :=
  ⟨r.hd, by have := r.dp; show A.depth + 3 * k + 5 < _; omega, by have := r.un; show A.units + 1 + 16 * k + 200 < _; omega⟩
theorem make_depth {A : Around} {C : Addr} {us : List Value} {kw : List (Str × Value)} : (A.under (.builtin "type.__call__" ⟨.ref C :: us, kw⟩)).depth = A.depth + 1 := by
  first | rfl | simp [Around.under, Code.weight, Code.isCreation, Code.isGuard, Code.isCaller, Code.frames, Code.isFrame, guardIds]
theorem make_units {A : Around} {C : Addr} {us : List Value} {kw : List (Str × Value)} : (A.under (.builtin "type.__call__" ⟨.ref C :: us, kw⟩)).units = A.units + 1 := by
  first | rfl | simp [Around.under, Code.cUnits, Code.frames, Code.isFrame]
theorem Room.make {k : Nat} {A : Around} (r : Room (k + 1) A) (C : Addr) (us : List Value) (kw : List (Str × Value)) : Room k (A.under (.builtin "type.__call__" ⟨.ref C :: us, kw⟩)) :=
  ⟨r.hd, by have := r.dp; rw [make_depth]; omega, by have := r.un; rw [make_units]; omega⟩
theorem Room.depth {k : Nat} {A : Around} (r : Room k A) : A.depth < recursionLimit := by have := r.dp; omega
theorem Room.units {k : Nat} {A : Around} (r : Room k A) : A.units + 64 < cLine := by have := r.un; omega
def tNil : TA := fun _ H Q => Q [] H
def tCons (ta : TE) (tr : TA) : TA := fun σ H Q => ta σ H fun x H1 => tr σ H1 fun xs H2 => Q (x :: xs) H2
section
variable {X : Cx} {e : Expr} {es : List Expr} {te : TE} {t : TA} {pos : Pos}
theorem pa_nil : PA X [] tNil := fun _ _ _ _ H Q I h => Calls.spliced_nil ⟨[], H, I, .nil, h⟩
theorem pa_cons (ha : PE X e te) (hr : PA X es t) (hs : starEach (e :: es) X.env = (false, eval e X.env) :: starEach es X.env := by rfl) : PA X (e :: es) (tCons te t) := by
  intro pos pins s σ H Q I h
  rw [hs]
  show wpAny _ _ (spliced ((false, eval e X.env) :: backTo pos (starEach es X.env))) _ _ s
  refine Calls.spliced_cons (thn (ha pins s σ H _ I h) fun u s1 ⟨x, H1, I1, r1, q1⟩ => ?_)
  exact thn (hr pos pins s1 σ H1 _ I1 q1) fun us s2 ⟨xs, H2, I2, r2, q2⟩ => ⟨x :: xs, H2, I2, .cons r1 r2, q2⟩
def tTup (t : TA) : TE := fun σ H Q => t σ H fun xs H1 => xs.length ≤ sizeLine ∧ ∀ p, H1 p = none → Q (.ref p) (upd H1 p (.tup xs))
def tLst (t : TA) : TE := fun σ H Q => t σ H fun xs H1 => xs.length ≤ sizeLine ∧ ∀ p, H1 p = none → Q (.ref p) (upd H1 p (.lst xs))
theorem pe_tup {x1} (h : PA X es t) : PE X (.Tuple es x1 pos) (tTup t) := by
  intro pins s σ H Q I hq
  refine wpAny_Tuple_spliced (thn (h pos pins s σ H _ I hq) fun us s1 ⟨xs, H1, I1, r, z, q⟩ => ⟨by rw [← r.length]; exact z, ?_⟩)
  have hf : H1 s1.heap.objs.size = none := I1.hok.fresh (Nat.le_refl _)
  refine ⟨.ref s1.heap.objs.size, upd H1 s1.heap.objs.size (.tup xs), I1.laid (t' := s1.toks) (fun b u e => Heap.get?_push_of_some _ e) (Nat.le_refl _) ?_, rfl, q _ hf⟩
  exact ⟨z, us, r, ⟨_, Heap.get?_push_size _ rfl, rfl, _, rfl⟩⟩
theorem pe_lst (h : PA X es t) : PE X (.List es pos) (tLst t) := by
  intro pins s σ H Q I hq
  refine wpAny_List_spliced (thn (h pos pins s σ H _ I hq) fun us s1 ⟨xs, H1, I1, r, z, q⟩ => ⟨by rw [← r.length]; exact z, ?_⟩)
  have hf : H1 s1.heap.objs.size = none := I1.hok.fresh (Nat.le_refl _)
  refine ⟨.ref s1.heap.objs.size, upd H1 s1.heap.objs.size (.lst xs), I1.laid (t' := s1.toks) (fun b u e => Heap.get?_push_of_some _ e) (Nat.le_refl _) ?_, rfl, q _ hf⟩
  exact ⟨z, us, 0, r, Heap.get?_push_size _ rfl⟩
end
abbrev Sp := List V → Hp → VK → XK → Prop
abbrev CXT := List Env → Hp → Shared → XK → Value → Shared → Prop
structure Env0 (P : Program) (w : World) (K : PySem.W.Frag) (mg : Str → Option Value) (base : Heap) (A : Around) (outer : List Env) (s : Shared) (H : Hp) : Prop where
  frames : A.frames = some outer
  mod : Mod K mg base
  bs : ∀ b o, base.get? b = some o → s.heap.get? b = some o ∧ H b = none
  bsz : base.objs.size ≤ s.heap.objs.size
  funs : s.heap.FunFrames base outer
  frf : ∀ b ∈ frs outer, H b = none
  hok : HOk P w H s.heap
  bare : AllBare s.gens
def CE (outer : List Env) (P : Program) (w : World) (H : Hp) (s : Shared) (Q : VK) (u : Value) (s' : Shared) : Prop :=
  ∃ v H', s'.os = s.os ∧ AllBare s'.gens ∧ Un (frs outer) [] H H' s.heap s'.heap ∧ HOk P w H' s'.heap ∧ RelV v u ∧ Q v H'
def CR (CX : CXT) (outer : List Env) (P : Program) (w : World) (H : Hp) (s : Shared) (Q : VK) (E : XK) (r : Result) (s' : Shared) : Prop :=
  match r with
  | .ok (.ret u) => CE outer P w H s Q u s'
  | .ok _ => False
  | .error e => CX outer H s E e s'
structure FnOk (P : Program) (w : World) (K : PySem.W.Frag) (mg : Str → Option Value) (base : Heap) (CX : CXT) (k : Nat) (f : Addr) (fd : FuncData) (ps : List Str) (sp : Sp) : Prop where
  len : ∀ vs H Q E, sp vs H Q E → vs.length = ps.length
  run : ∀ (A : Around) (outer : List Env) (s : Shared) (H : Hp) (args : Args) (us : List Value) (vs : List V) (Q : VK) (E : XK), Room k A → Env0 P w K mg base A outer s H → BindsTo s fd args (ps.zip us) → Vals vs us → sp vs H Q E →
    codeAny (model P w) A (.call (.ref f) args) (CR CX outer P w H s Q E) s
theorem FnOk.mono {P : Program} {w : World} {K : PySem.W.Frag} {mg : Str → Option Value} {base : Heap} {CX : CXT} {j k : Nat} {f : Addr} {fd : FuncData} {ps : List Str} {sp : Sp} (F : FnOk P w K mg base CX j f fd ps sp) (h : j ≤ k) :
    FnOk P w K mg base CX k f fd ps sp := ⟨F.len, fun A outer s H args us vs Q E hr => F.run A outer s H args us vs Q E (hr.mono h)⟩
theorem FnOk.imp {P : Program} {w : World} {K : PySem.W.Frag} {mg : Str → Option Value} {base : Heap} {CX : CXT} {k : Nat} {f : Addr} {fd : FuncData} {ps : List Str} {sp sp' : Sp} (F : FnOk P w K mg base CX k f fd ps sp)
    (h : ∀ vs H Q E, sp' vs H Q E → sp vs H Q E) : FnOk P w K mg base CX k f fd ps sp' :=
  ⟨fun vs H Q E q => F.len vs H Q E (h _ _ _ _ q), fun A outer s H args us vs Q E hr he hb hv hs => F.run A outer s H args us vs Q E hr he hb hv (h _ _ _ _ hs)⟩
theorem Env0.make {P : Program} {w : World} {K : PySem.W.Frag} {mg : Str → Option Value} {base : Heap} {A : Around} {outer : List Env} {s : Shared} {H : Hp} (e : Env0 P w K mg base A outer s H) (C : Addr) (us : List Value) (kw : List (Str × Value)) :
    Env0 P w K mg base (A.under (.builtin "type.__call__" ⟨.ref C :: us, kw⟩)) outer s H := ⟨by first | exact e.frames | (simpa [Around.under, Code.envs, Code.isFrame, pushEnvs] using e.frames), e.mod, e.bs, e.bsz, e.funs, e.frf, e.hok, e.bare⟩
theorem Env0.in1 {P : Program} {w : World} {K : PySem.W.Frag} {mg : Str → Option Value} {base : Heap} {A : Around} {outer : List Env} {s : Shared} {H : Hp} (e : Env0 P w K mg base A outer s H) :
    Env0 P w K mg base A.in1 outer s H := ⟨e.frames, e.mod, e.bs, e.bsz, e.funs, e.frf, e.hok, e.bare⟩
section
variable {X : Cx} {pins : List (Addr × Obj)} {σ : St} {H : Hp} {s s' : Shared}
theorem Inv.env0 (I : Inv X pins σ H s) : Env0 X.prog X.w X.K X.mg X.base X.A X.stack s H :=
  ⟨I.ok.frames, I.ok.mod, I.bs, Nat.le_trans I.ok.bsz I.sz, I.stack, I.stkFree, I.hok, I.bare⟩
theorem Inv.after {Q : VK} {u : Value} (I : Inv X pins σ H s) (h : CE X.stack X.prog X.w H s Q u s') : EP X pins σ Q u s' := by
  obtain ⟨v, H', os, bare, un, hok, r, q⟩ := h
  obtain ⟨hh, g, d, t, os'⟩ := s'
  obtain rfl : os' = s.os := os
  exact ⟨v, H', I.call (h' := hh) (g' := g) (d' := d) (t' := t) (ch := []) un hok bare (fun b z => absurd z (by simp)), r, q⟩
end
def tCall (sp : Sp) (dvs : List V) (E : XK) (t : TA) : TE := fun σ H Q => t σ H fun vs H1 => sp (vs ++ dvs) H1 Q E
def Binds (K : PySem.W.Frag) (fd : FuncData) (ps : List Str) (ds : List Value) : Prop :=
  ∀ (s : Shared) (us : List Value), K.In s.heap → (us ++ ds).length = ps.length → BindsTo s fd ⟨us, []⟩ (ps.zip (us ++ ds))
theorem Binds.all {K : PySem.W.Frag} {fd : FuncData} {ps : List Str} (h : ∀ us : List Value, us.length = ps.length → bindArgs fd ⟨us, []⟩ = pure (ps.zip us)) : Binds K fd ps [] := fun s us _ hl => by
  rw [List.append_nil] at hl ⊢
  exact .of_eq (h us hl)
def Passes (CX : CXT) (X : Cx) (E : XK) : Prop := ∀ (pins : List (Addr × Obj)) (σ : St) (H : Hp) (s : Shared) (e : Value) (s' : Shared), Inv X pins σ H s → CX X.stack H s E e s' → X.xe e s'
section
variable {X : Cx} {CX : CXT} {k : Nat} {f C : Addr} {fd : FuncData} {ps : List Str} {sp : Sp} {dvs : List V} {ds : List Value} {E : XK} {x m : Str} {p pos apos : Pos} {e o : Expr} {es : List Expr} {ta : TE} {t : TA}
theorem run_fn {pins : List (Addr × Obj)} {σ : St} {H : Hp} {s : Shared} {Q : VK} {us : List Value} {vs : List V} (F : FnOk X.prog X.w X.K X.mg X.base CX k f fd ps sp) (hr : Room k X.A) (hb : Binds X.K fd ps ds) (hd : Vals dvs ds) (hx : Passes CX X E)
    (I : Inv X pins σ H s) (r : Vals vs us) (h : sp (vs ++ dvs) H Q E) : wpAny (model X.prog X.w) X.A (call (.ref f) us) (EP X pins σ Q) X.xe s := by
  have r2 : Vals (vs ++ dvs) (us ++ ds) := r.append hd
  have hl : (us ++ ds).length = ps.length := by rw [← r2.length]; exact F.len _ _ _ _ h
  refine wpAny_call (codeAny_mono (F.run X.A X.stack s H ⟨us, []⟩ (us ++ ds) (vs ++ dvs) Q E hr I.env0 (hb s us I.kIn hl) r2 h) fun r s' hq => ?_)
  cases r with
  | error e => exact hx pins σ H s e s' I hq
  | ok fl =>
    cases fl with
    | ret u => exact I.after hq
    | next => exact False.elim hq
    | brk => exact False.elim hq
    | cont => exact False.elim hq
theorem pe_call (F : FnOk X.prog X.w X.K X.mg X.base CX k f fd ps sp) (hr : Room k X.A) (hg : Gl X x) (hm : X.mg x = some (.ref f)) (hk : PySem.W.keepIn X.K (.ref f) = true) (hb : Binds X.K fd ps ds) (hd : Vals dvs ds) (hx : Passes CX X E)
    (ha : PA X (e :: es) t) (hdb : (x == ("__debug__" : Str)) = false := by decide) (he : starEach (e :: es) X.env = (false, eval e X.env) :: starEach es X.env := by rfl) (hpl : (backTo pos (starEach es X.env)).any (·.1) = false := by rfl) :
    PE X (.Call (.Name x p) (e :: es) [] pos) (tCall sp dvs E t) := by
  intro pins s σ H Q I h
  refine wpAny_Call_Name_kw (ld_glob I hg hm ?_ hdb)
  refine PySem.W.callWith_K (h₀ := X.base) I.ok.mod.kin hk (thn (ha pos pins s σ H _ I h) fun us s1 ⟨vs, H1, I1, r, q⟩ => ⟨I1.kIn, ?_⟩) he hpl
  exact run_fn F hr hb hd hx I1 r q
structure Mk (K : PySem.W.Frag) (C f : Addr) : Prop where
  makes : PySem.W.makesIn K C = true
  init : PySem.W.findIn K (.ref C) "__init__" = some (some (.ref f))
  fn : PySem.W.isFn K (.ref f) = true
  kp : PySem.W.keepIn K (.ref C) = true
end
section
variable {X : Cx} {CX : CXT} {k : Nat} {f C : Addr} {fd : FuncData} {ps ks : List Str} {sp : Sp} {E : XK} {x m : Str} {p pos apos kpos : Pos} {e o : Expr} {es : List Expr} {kws : List Keyword} {te ta : TE} {t tk : TA} {nm : Option Str}
structure KBinds (K : PySem.W.Frag) (fd : FuncData) (ps ks : List Str) (g : List Value → List Value → List Value) (gV : List V → List V → List V) : Prop where
  to : ∀ (s : Shared) (us ws : List Value), K.In s.heap → (g us ws).length = ps.length → BindsTo s fd ⟨us, ks.zip ws⟩ (ps.zip (g us ws))
  rel : ∀ {vs : List V} {us : List Value} {zs : List V} {ws : List Value}, Vals vs us → Vals zs ws → Vals (gV vs zs) (g us ws)
variable {g : List Value → List Value → List Value} {gV : List V → List V → List V}
end
structure FnScope (N P : List Str) (sc : Scope) : Prop where
  kind : sc.kind = .function
  co : sc.isCoroutine = false
  gen : sc.isGenerator = false
  nd : N.Nodup
  pre : N.take P.length = P
  par : ∀ x ∈ P, sc.names.lookup x = some .local ∨ sc.names.lookup x = some .cell
  nofree : ∀ y ∈ sc.names, y.2 ≠ .free
theorem bindL_out {kindOf : Str → Option NameKind} {x : Str} : ∀ {binds : List (Str × Value)} {m : Str → Option Value}, (∀ v, (x, v) ∉ binds) → bindL kindOf binds m x = m x
  | [], _, _ => rfl
  | (n, v) :: r, m, h => by
    unfold bindL
    rw [bindL_out fun w hw => h w (List.mem_cons_of_mem _ hw)]
    split
    · have : x ≠ n := by rintro rfl; exact h v List.mem_cons_self
      simp [this]
    · rfl
theorem bindC_out {kindOf : Str → Option NameKind} {x : Str} : ∀ {binds : List (Str × Value)} {m : Str → Option Value}, (∀ v, (x, v) ∉ binds) → bindC kindOf binds m x = m x
  | [], _, _ => rfl
  | (n, v) :: r, m, h => by
    unfold bindC
    rw [bindC_out fun w hw => h w (List.mem_cons_of_mem _ hw)]
    split
    · rfl
    · have : x ≠ n := by rintro rfl; exact h v List.mem_cons_self
      simp [this]
theorem bindL_get {kindOf : Str → Option NameKind} {x : Str} {v : Value} : ∀ {P : List Str} {vs : List Value} {i : Nat} {m : Str → Option Value}, P.Nodup → P[i]? = some x → vs[i]? = some v → kindOf x = some .local →
    bindL kindOf (P.zip vs) m x = some v
  | [], _, _, _, _, h, _, _ => by simp at h
  | _ :: _, [], _, _, _, _, h, _ => by simp at h
  | p :: P, w :: vs, 0, m, nd, h1, h2, hk => by
    simp at h1 h2; subst h1; subst h2
    show bindL kindOf ((p, w) :: P.zip vs) m p = _
    unfold bindL
    rw [bindL_out fun v hv => (List.nodup_cons.mp nd).1 (List.of_mem_zip hv).1, if_pos hk]
    simp
  | p :: P, w :: vs, i + 1, m, nd, h1, h2, hk => by
    show bindL kindOf ((p, w) :: P.zip vs) m x = _
    unfold bindL
    exact bindL_get (i := i) (List.nodup_cons.mp nd).2 (by simpa using h1) (by simpa using h2) hk
theorem bindC_get {kindOf : Str → Option NameKind} {x : Str} {v : Value} : ∀ {P : List Str} {vs : List Value} {i : Nat} {m : Str → Option Value}, P.Nodup → P[i]? = some x → vs[i]? = some v → kindOf x ≠ some .local →
    bindC kindOf (P.zip vs) m x = some v
  | [], _, _, _, _, h, _, _ => by simp at h
  | _ :: _, [], _, _, _, _, h, _ => by simp at h
  | p :: P, w :: vs, 0, m, nd, h1, h2, hk => by
    simp at h1 h2; subst h1; subst h2
    show bindC kindOf ((p, w) :: P.zip vs) m p = _
    unfold bindC
    rw [bindC_out fun v hv => (List.nodup_cons.mp nd).1 (List.of_mem_zip hv).1, if_neg hk]
    simp
  | p :: P, w :: vs, i + 1, m, nd, h1, h2, hk => by
    show bindC kindOf ((p, w) :: P.zip vs) m x = _
    unfold bindC
    exact bindC_get (i := i) (List.nodup_cons.mp nd).2 (by simpa using h1) (by simpa using h2) hk
def start (N : List Str) (vs : List V) : St := vs.map some ++ List.replicate (N.length - vs.length) none
def cxOf (CX : CXT) (P : Program) (w : World) (K : PySem.W.Frag) (mg : Str → Option Value) (base : Heap) (N : List Str) (qual : Str) (scope : Scope) (f : Addr) (cd : Value) (A : Around) (outer : List Env) (s : Shared) (H : Hp) (E : XK) : Cx where
  prog := P
  w := w
  K := K
  mg := mg
  base := base
  A := A.deeper (envOfC qual scope s.heap.objs.size f cd)
  N := N
  s_0 := s
  H_0 := H
  env := envOfC qual scope s.heap.objs.size f cd
  outer := outer
  stack := envOfC qual scope s.heap.objs.size f cd :: outer
  ex := []
  calm := true
  fn := fun _ => true
  pn := []
  xe := fun e s' => wpAny (model P w) (A.deeper (envOfC qual scope s.heap.objs.size f cd)) (leaving (envOfC qual scope s.heap.objs.size f cd) e) (fun _ s'' => CX outer H s E e s'') (fun e' s'' => CX outer H s E e' s'') s'
theorem cell_has {sc : Scope} {n : Nat} {x : Str} (h : sc.names.lookup x = some .cell) : ∃ c, (cellsFrom n sc.names []).lookup x = some c := by
  have q := PySem.W.cellsFrom_some sc.names n [] (.inl h)
  exact Option.isSome_iff_exists.mp q
theorem inv_start {CX : CXT} {P : Program} {w : World} {K : PySem.W.Frag} {mg : Str → Option Value} {base : Heap} {N ps : List Str} {qual : Str} {scope : Scope} {f : Addr} {cd : Value} {A : Around} {outer : List Env} {s s1 : Shared} {H : Hp} {E : XK} {us : List Value} {vs : List V}
    (S : FnScope N ps scope) (hd : A.handled = none) (e0 : Env0 P w K mg base A outer s H) (hl : vs.length = ps.length) (r : Vals vs us)
    (x : InCallC s s.heap.objs.size (bindL (envOfC qual scope s.heap.objs.size f cd).kindOf (ps.zip us) fun _ => none) (cellsFrom (s.heap.objs.size + 1) scope.names []) (bindC (envOfC qual scope s.heap.objs.size f cd).kindOf (ps.zip us) fun _ => none) s1) :
    Inv (cxOf CX P w K mg base N qual scope f cd A outer s H E) [] (start N vs) H s1 := by
  have hpl : ps.length ≤ N.length := by have := congrArg List.length S.pre; rw [List.length_take] at this; omega
  obtain ⟨h1, tk, rfl, hk⟩ := x.done
  have noA : ∀ b : Addr, b ∉ (cxOf CX P w K mg base N qual scope f cd A outer s H E).ex := fun b z => absurd (show b ∈ ([] : List Addr) from z) (by simp)
  refine ⟨⟨e0.mod, S.kind, rfl, rfl, Nat.le_refl _, fun y z c h1 h2 => ?_, fun y hy => ?_, fun y c _ h => ?_, fun _ => hd, Around.frames_deeper e0.frames, .inr ⟨rfl, rfl⟩, fun b z => absurd z (noA b), e0.bs, e0.bsz, fun b _ _ => noA b, fun b z => absurd z (noA b), e0.funs, e0.frf⟩,
    rfl, e0.bare, Un.kept hk, ⟨_, x.toInCall.ns, fun i y v h1 h2 h3 => ?_⟩, fun y c h => ⟨_, x.cell y c h⟩, e0.hok.fresh (Nat.le_refl _), fun y c h => ?_, fun p hp => absurd (show p ∈ ([] : List (Addr × Obj)) from hp) (by simp), e0.hok.kept hk, ?_⟩
  · exact name_of_addr x.apart (PySem.mem_of_lookup h1) (PySem.mem_of_lookup h2)
  · have hy : scope.names.lookup y = some .cell ∨ scope.names.lookup y = some .free := hy
    rcases hy with hy | hy
    · exact cell_has hy
    · exact absurd rfl (S.nofree _ (PySem.mem_of_lookup hy))
  · exact Nat.le_of_lt (x.above y c (PySem.mem_of_lookup h))
  · have hi : i < vs.length := by
      unfold start at h2
      by_cases hi : i < vs.length
      · exact hi
      · rw [List.getElem?_append_right (by simpa using hi)] at h2
        rw [List.getElem?_replicate] at h2
        split at h2 <;> cases h2
    have ha : vs[i]? = some v := by
      unfold start at h2
      rw [List.getElem?_append_left (by simpa using hi), List.getElem?_map] at h2
      cases e : vs[i]? with
      | none => rw [e] at h2; cases h2
      | some a => rw [e] at h2; cases h2; rfl
    obtain ⟨u, hu, rv⟩ := r.get ha
    have hp : ps[i]? = some y := by
      rw [← S.pre, List.getElem?_take_of_lt (by omega)]; exact h1
    have ndP : ps.Nodup := by rw [← S.pre]; exact S.nd.sublist (List.take_sublist _ _)
    refine ⟨u, rv, ?_⟩
    rcases S.par y (List.mem_of_getElem? hp) with k | k
    · exact .inl ⟨k, bindL_get ndP hp hu k⟩
    · obtain ⟨c, e⟩ := cell_has (n := s.heap.objs.size + 1) k
      refine .inr ⟨.inl k, c, e, ?_⟩
      have q := x.cell y c e
      rw [bindC_get ndP hp hu (by show scope.names.lookup y ≠ _; rw [k]; decide)] at q
      exact q
  · exact e0.hok.fresh (Nat.le_of_lt (x.above y c (PySem.mem_of_lookup h)))
  · unfold start
    show _ = N.length
    rw [List.length_append, List.length_map, List.length_replicate]
    omega
theorem fn_of {CX : CXT} {P : Program} {w : World} {K : PySem.W.Frag} {mg : Str → Option Value} {base : Heap} {k : Nat} {f : Addr} {name qual : Str} {params : Arguments} {body : List Stmt} {scope : Scope} {dV kV doc pm cdv ct oc : Value} {an od : Option Addr}
    {osl : Array (Option Value)} {N ps : List Str} {sp : Sp} (lk : K.lookup f = some ⟨oc, od, .func (PySem.W.fnOf name qual params body scope dV kV doc pm an cdv ct), osl⟩) (hcd : PySem.W.codeIn K cdv qual = true) (S : FnScope N ps scope)
    (len : ∀ vs H Q E, sp vs H Q E → vs.length = ps.length)
    (hbody : ∀ (A : Around) (outer : List Env) (s : Shared) (H : Hp) (vs : List V) (Q : VK) (E : XK), Room k (A.deeper (envOfC qual scope s.heap.objs.size f cdv)) → sp vs H Q E →
      ∃ t, PSs (cxOf CX P w K mg base N qual scope f cdv A outer s H E) body t ∧ t { nx := fun _ H' => Q .non H', rt := Q } (start N vs) H) :
    FnOk P w K mg base CX (k + 1) f (PySem.W.fnOf name qual params body scope dV kV doc pm an cdv ct) ps sp := by
  refine ⟨len, fun A outer s H args us vs Q E hr e0 hb r hsp => ?_⟩
  have hl := len _ _ _ _ hsp
  have KX : K.In s.heap := e0.mod.kin.keeps fun b o e => (e0.bs b o e).1
  have lim : s.heap.NoLimit := e0.mod.nolimit.keeps fun b o e => (e0.bs b o e).1
  have hkind : ∀ y ∈ ps.zip us, scope.names.lookup y.1 = some .local ∨ (scope.names.lookup y.1 = some .cell ∧ ((cellsFrom (s.heap.objs.size + 1) scope.names []).lookup y.1).isSome = true) := fun ⟨n, v⟩ hy => by
    rcases S.par n (List.of_mem_zip hy).1 with q | q
    · exact .inl q
    · exact .inr ⟨q, PySem.W.cellsFrom_some _ _ _ (.inl q)⟩
  refine codeAny_call_function hr.depth (KX _ _ lk) rfl S.co S.gen rfl (PySem.W.codeRec_of KX hcd) (hb _ _ _ _ ?_)
  refine wpAny_newFunctionEnv_cells S.kind hkind fun env he s1 x => ?_
  subst he
  refine ⟨lim.keeps x.toInCall.keep, codeAny_func ?_⟩
  obtain ⟨t, ht, hq⟩ := hbody A outer s H vs Q E (hr.deeper _) hsp
  have I : Inv (cxOf CX P w K mg base N qual scope f cdv A outer s H E) [] (start N vs) H s1 := inv_start S hr.hd e0 hl r x
  refine wpAny_mono (ht [] s1 (start N vs) H _ I hq) (fun fl s' hs => ?_) fun e s' hs => hs
  have fin : ∀ {σ' : St} {H' : Hp} {v : V} {u : Value}, Inv (cxOf CX P w K mg base N qual scope f cdv A outer s H E) [] σ' H' s' → RelV v u → Q v H' → CE outer P w H s Q u s' :=
    fun {σ' H' v u} J rv q => ⟨v, H', J.os, J.bare, J.base, J.hok, rv, q⟩
  cases fl with
  | ret u =>
    obtain ⟨v, σ', H', J, rv, q⟩ := hs
    exact fin J rv q
  | next =>
    obtain ⟨σ', H', J, q⟩ := hs
    exact fin (v := V.non) (u := Value.none) J rfl q
  | brk =>
    obtain ⟨_, _, _, q⟩ := hs
    exact False.elim q
  | cont =>
    obtain ⟨_, _, _, q⟩ := hs
    exact False.elim q
end L2
namespace L2
open PySem PySem.Spec PyProof.Rows
section
variable {X : Cx} {x : Str} {p pos : Pos} {e : Expr} {es : List Expr} {t : TA} {id T : String} {r : List V → Hp → VK → Prop}
def tCB (r : List V → Hp → VK → Prop) (t : TA) : TE := fun σ H Q => t σ H fun vs H1 => r vs H1 Q
theorem pe_callB (hc : CallR X (.builtin id) r) (hg : Gl X x) (hm : X.mg x = none) (hv : bootBuiltins x = some (.builtin id)) (ha : PA X (e :: es) t) (hn : x ≠ "__name__" := by decide) (hdb : (x == ("__debug__" : Str)) = false := by decide)
    (he : starEach (e :: es) X.env = (false, eval e X.env) :: starEach es X.env := by rfl) (hpl : (backTo pos (starEach es X.env)).any (·.1) = false := by rfl) : PE X (.Call (.Name x p) (e :: es) [] pos) (tCB r t) := by
  intro pins s σ H Q I h
  refine wpAny_Call_Name_kw (ld_blt I hg hm hv ?_ hn hdb)
  exact PyProof.Rows.callWith_builtin1 (thn (ha pos pins s σ H _ I h) fun us s1 ⟨vs, H1, I1, r1, q1⟩ => hc pins s1 σ H1 vs us Q I1 r1 q1) he hpl
theorem pe_callTy (hc : CallR X (.type T) r) (hg : Gl X x) (hm : X.mg x = none) (hv : bootBuiltins x = some (.type T)) (ha : PA X (e :: es) t) (hn : x ≠ "__name__" := by decide) (hdb : (x == ("__debug__" : Str)) = false := by decide)
    (he : starEach (e :: es) X.env = (false, eval e X.env) :: starEach es X.env := by rfl) (hpl : (backTo pos (starEach es X.env)).any (·.1) = false := by rfl) : PE X (.Call (.Name x p) (e :: es) [] pos) (tCB r t) := by
  intro pins s σ H Q I h
  refine wpAny_Call_Name_kw (ld_blt I hg hm hv ?_ hn hdb)
  exact PyProof.Rows.callWith_type1 (thn (ha pos pins s σ H _ I h) fun us s1 ⟨vs, H1, I1, r1, q1⟩ => hc pins s1 σ H1 vs us Q I1 r1 q1) he hpl
end
end L2
namespace HT
open PySem PyProof.Rows
section
open PySem.SeqAt
open PySem.AutoSeq1 (wpAny_loadPart')
open PySem.MeetsSeq PySem.MeetsSeq2 PySem.MeetsSeq3
end
section
variable {prog : Program} {w : World} {A : Around} {E : Value → Shared → Prop} {s : Shared}
def sIx (n d : Nat) : Option Int → Nat
  | none => d
  | some v => if v < 0 then (v + (n : Int)).toNat else min v.toNat n
theorem sIx_none (n d : Nat) : sIx n d none = d := rfl
theorem sIx_le (n d : Nat) (hd : d ≤ n) (o : Option Int) : sIx n d o ≤ n := by
  cases o with
  | none => exact hd
  | some v =>
    show (if v < 0 then (v + (n : Int)).toNat else min v.toNat n) ≤ n
    by_cases hv : v < 0
    · rw [if_pos hv]; omega
    · rw [if_neg hv]; exact Nat.min_le_right _ _
end
end HT
namespace L2
open PySem PySem.Spec PyProof.Rows
abbrev TO := St → Hp → (Option Int → Hp → Prop) → Prop
def PO (X : Cx) (e : Option Expr) (t : TO) : Prop :=
  ∀ (pins : List (Addr × Obj)) (s : Shared) (σ : St) (H : Hp) (Q : Option Int → Hp → Prop), Inv X pins σ H s → t σ H Q →
    wpAny (model X.prog X.w) X.A (evalPart e X.env) (fun u s' => ∃ o H', Inv X pins σ H' s' ∧ IsPart u o ∧ Q o H') X.xe s
def tNoPart : TO := fun _ H Q => Q none H
def tPart (t : TE) : TO := fun σ H Q => t σ H fun x H1 => ∃ i, x = .int i ∧ Q (some i) H1
section
variable {X : Cx} {e : Expr} {te : TE} {lo hi : Option Expr} {tl th : TO} {pos p2 : Pos}
theorem po_none : PO X none tNoPart := by
  intro pins s σ H Q I h
  rw [evalPart_none]
  exact wpAny_pure ⟨none, H, I, .none, h⟩
theorem po_some (h : PE X e te) : PO X (some e) (tPart te) := by
  intro pins s σ H Q I hw
  rw [evalPart_some]
  refine thn (h pins s σ H _ I hw) fun u s1 ⟨x, H1, I1, r1, q1⟩ => ?_
  obtain ⟨i, rfl, q⟩ := q1
  obtain ⟨t, rfl⟩ := r1
  exact ⟨some i, H1, I1, .int i t, q⟩
def SlR (X : Cx) (r : V → Option Int → Option Int → Hp → VK → Prop) : Prop :=
  ∀ (pins : List (Addr × Obj)) (s : Shared) (σ : St) (H : Hp) (x : V) (v vl vu : Value) (lo hi : Option Int) (sl : Addr) (Q : VK), Inv X pins σ H s → RelV x v → s.heap.IsSliceOf sl vl vu .none → IsPart vl lo → IsPart vu hi → r x lo hi H Q →
    ∃ T id, typeLookup (.type T) "__getitem__" = pure (some (.builtin id)) ∧ s.TypeIs v T ∧ wpAny (model X.prog X.w) X.A (getItem v (.ref sl)) (EP X pins σ Q) X.xe s
theorem SlR.or {r r' : V → Option Int → Option Int → Hp → VK → Prop} (h : SlR X r) (h' : SlR X r') : SlR X (fun x lo hi H Q => r x lo hi H Q ∨ r' x lo hi H Q) := by
  intro pins s σ H x v vl vu lo hi sl Q I rx hs pl pu q
  rcases q with q | q
  · exact h pins s σ H x v vl vu lo hi sl Q I rx hs pl pu q
  · exact h' pins s σ H x v vl vu lo hi sl Q I rx hs pl pu q
def tSl (r : V → Option Int → Option Int → Hp → VK → Prop) (te : TE) (tl th : TO) : TE := fun σ H Q => te σ H fun x H1 => tl σ H1 fun l H2 => th σ H2 fun u H3 => r x l u H3 Q
theorem pe_slice {r : V → Option Int → Option Int → Hp → VK → Prop} (hr : SlR X r) (he : PE X e te) (hl : PO X lo tl) (hu : PO X hi th) : PE X (.Subscript e (.Slice lo hi none p2) pos) (tSl r te tl th) := by
  intro pins s σ H Q I h
  refine Subscript_ (thn (he pins s σ H _ I h) fun v s1 ⟨x, H1, I1, r1, q1⟩ => ?_)
  refine wpAny_Slice (thn (hl pins s1 σ H1 _ I1 q1) fun vl s2 ⟨l, H2, I2, pl, q2⟩ => thn (hu pins s2 σ H2 _ I2 q2) fun vu s3 ⟨u, H3, I3, pu, q3⟩ => ?_)
  rw [evalPart_none]
  refine wpAny_pure ?_
  have I4 : Inv X pins σ H3 { s3 with heap := s3.heap.push { cls := .type "slice", data := .fields #[vl, vu, .none] } } := I3.kept (t' := s3.toks) fun b ob q => Heap.get?_push_of_some _ q
  obtain ⟨T, id, hT, ht, hg⟩ := hr pins { s3 with heap := s3.heap.push { cls := .type "slice", data := .fields #[vl, vu, .none] } } σ H3 x v vl vu l u s3.heap.objs.size Q I4 r1 (Heap.IsSliceOf.new ..) pl pu q3
  show wpAny (model X.prog X.w) X.A (subscriptTail e (.Slice lo hi none p2) v (.ref s3.heap.objs.size)) (EP X pins σ Q) X.xe { s3 with heap := s3.heap.push { cls := .type "slice", data := .fields #[vl, vu, .none] } }
  exact tail_any (ops := [.ref s3.heap.objs.size, v]) ht hT hg (by with_unfolding_all rfl)
end
end L2
namespace L2
open PySem PySem.Spec PyProof.Rows
def ixN (n : Nat) (i : Int) : Option Nat := if 0 ≤ i then (if i < n then some i.toNat else none) else if -(n : Int) ≤ i then some (i + n).toNat else none
def atI {α : Type} (xs : List α) (i : Int) : Option α := (ixN xs.length i).bind fun j => xs[j]?
theorem ixN_seq {n : Nat} {i : Int} {j : Nat} (h : ixN n i = some j) : seqIndex? i n = some j ∧ j < n ∧ -(n : Int) ≤ i ∧ i < n := by
  unfold ixN at h
  by_cases h0 : 0 ≤ i
  · rw [if_pos h0] at h
    by_cases h1 : i < n
    · rw [if_pos h1] at h
      have e : i.toNat = j := Option.some.inj h
      exact ⟨by rw [seqIndex_of h0 h1, e], by omega, by omega, h1⟩
    · rw [if_neg h1] at h; cases h
  · rw [if_neg h0] at h
    by_cases h1 : -(n : Int) ≤ i
    · rw [if_pos h1] at h
      have e : (i + n).toNat = j := Option.some.inj h
      exact ⟨by rw [seqIndex_neg (by omega) h1, e], by omega, h1, by omega⟩
    · rw [if_neg h1] at h; cases h
theorem atI_get {α : Type} {xs : List α} {i : Int} {v : α} (h : atI xs i = some v) : ∃ j, seqIndex? i xs.length = some j ∧ xs[j]? = some v ∧ j < xs.length ∧ -(xs.length : Int) ≤ i ∧ i < xs.length := by
  unfold atI at h
  cases e : ixN xs.length i with
  | none => rw [e] at h; cases h
  | some j =>
    rw [e] at h
    obtain ⟨h1, h2, h3, h4⟩ := ixN_seq e
    exact ⟨j, h1, h, h2, h3, h4⟩
theorem atI_nat {α : Type} {xs : List α} {j : Nat} {v : α} (h : xs[j]? = some v) : atI xs (j : Int) = some v := by
  have hj : j < xs.length := (List.getElem?_eq_some_iff.mp h).1
  have e : ixN xs.length (j : Int) = some j := by
    unfold ixN
    rw [if_pos (by omega), if_pos (by omega)]; simp
  unfold atI; rw [e]; exact h
def PlainIx (b : Expr) : Prop := ∀ o i, subscripted b false o i = operate [o, i] (getItem o i)
def IxR (X : Cx) (r : R2) : Prop :=
  ∀ (value slice : Expr) (pins : List (Addr × Obj)) (s : Shared) (σ : St) (H : Hp) (x y : V) (v u : Value) (Q : VK), Inv X pins σ H s → RelV x v → RelV y u → r x y H Q →
    subscripted slice false v u = operate [v, u] (getItem v u) → wpAny (model X.prog X.w) X.A (subscriptTail value slice v u) (EP X pins σ Q) X.xe s
def MtR (X : Cx) (id : String) (r : V → List V → Hp → VK → Prop) : Prop :=
  ∀ (pins : List (Addr × Obj)) (s : Shared) (σ : St) (H : Hp) (x : V) (xs : List V) (v : Value) (us : List Value) (Q : VK), Inv X pins σ H s → RelV x v → Vals xs us → r x xs H Q →
    wpAny (model X.prog X.w) X.A (call (.builtin id) (v :: us)) (EP X pins σ Q) X.xe s
section
variable {X : Cx} {a b : Expr} {ta tb : TE} {pos : Pos}
theorem IxR.or {r r' : R2} (h : IxR X r) (h' : IxR X r') : IxR X (fun x y H Q => r x y H Q ∨ r' x y H Q) := by
  intro value slice pins s σ H x y v u Q I rx ry q hs
  rcases q with q | q
  · exact h value slice pins s σ H x y v u Q I rx ry q hs
  · exact h' value slice pins s σ H x y v u Q I rx ry q hs
theorem MtR.or {id : String} {r r' : V → List V → Hp → VK → Prop} (h : MtR X id r) (h' : MtR X id r') : MtR X id (fun x xs H Q => r x xs H Q ∨ r' x xs H Q) := by
  intro pins s σ H x xs v us Q I rx rs q
  rcases q with q | q
  · exact h pins s σ H x xs v us Q I rx rs q
  · exact h' pins s σ H x xs v us Q I rx rs q
theorem pe_ix {r : R2} (hr : IxR X r) (ha : PE X a ta) (hb : PE X b tb) (hs : PlainIx b) : PE X (.Subscript a b pos) (tOp r ta tb) := by
  intro pins s σ H Q I h
  exact Subscript_ (binT ha hb I h fun v u s2 x y H2 I2 rx ry q => hr a b pins s2 σ H2 x y v u Q I2 rx ry q (hs _ _))
def rIxL (K : PySem.W.Frag) : R2 := fun x y H Q => ∃ p xs i v, x = .ref p ∧ y = .int i ∧ SqL K H p xs ∧ atI xs i = some v ∧ Q v H
def rIxT (K : PySem.W.Frag) : R2 := fun x y H Q => ∃ p xs i v, x = .ref p ∧ y = .int i ∧ SqT K H p xs ∧ atI xs i = some v ∧ Q v H
def rIxS : R2 := fun x y H Q => ∃ z i c, x = .str z ∧ y = .int i ∧ z.length ≤ sizeLine ∧ atI z.cps.toList i = some c ∧ Q (.str ⟨#[c]⟩) H
theorem ix_list : IxR X (rIxL X.K) := by
  intro value slice pins s σ H x y v u Q I rx ry h hs
  obtain ⟨p, xs, i, z, rfl, rfl, hq, he, q⟩ := h
  cases rx
  obtain ⟨t, rfl⟩ := ry
  obtain ⟨its, r, pl, hz⟩ := I.list hq
  obtain ⟨j, h1, h2, h3, h4, h5⟩ := atI_get he
  obtain ⟨w, ew, rw'⟩ := r.get h2
  have hl := r.length
  have hn := line63
  have fin : EP X pins σ Q w s := ⟨z, H, I, rw', q⟩
  by_cases h0 : 0 ≤ i
  · have hj : i.toNat = j := by
      rw [seqIndex_of h0 h5] at h1
      exact Option.some.inj h1
    exact item_listR pl.isList h0 (by omega) (by rw [hj]; simpa using ew) fin hs
  · have hj : (i + (its.toArray.size : Int)).toNat = j := by
      rw [seqIndex_neg (by omega) h4] at h1
      rw [List.size_toArray, ← hl]
      exact Option.some.inj h1
    exact subscriptTail_builtinR (x := w) pl.isList.typeIs slot_list_getitem.lookup
      (wpAny_getItem_list_neg (Q := fun r s' => r = w ∧ EP X pins σ Q r s') pl.isList (by omega) (by rw [List.size_toArray] <;> omega) (by omega) (by rw [hj]; simpa using ew) ⟨rfl, fin⟩) hs
theorem ix_tup : IxR X (rIxT X.K) := by
  intro value slice pins s σ H x y v u Q I rx ry h hs
  obtain ⟨p, xs, i, z, rfl, rfl, hq, he, q⟩ := h
  cases rx
  obtain ⟨t, rfl⟩ := ry
  obtain ⟨its, r, pl, hz⟩ := I.tuple hq
  obtain ⟨j, h1, h2, h3, h4, h5⟩ := atI_get he
  obtain ⟨w, ew, rw'⟩ := r.get h2
  have hl := r.length
  have hn := line63
  have fin : EP X pins σ Q w s := ⟨z, H, I, rw', q⟩
  exact subscriptTail_builtinR (x := w) pl.typeIs slot_tuple_getitem.lookup
    (getItem_tuple (j := j) (Q := fun r s' => r = w ∧ EP X pins σ Q r s') pl (by omega) (by omega) (by rw [List.size_toArray, ← hl]; exact h1) (by simpa using ew) ⟨rfl, fin⟩) hs
theorem ix_str : IxR X rIxS := by
  intro value slice pins s σ H x y v u Q I rx ry h hs
  obtain ⟨z, i, c, rfl, rfl, hz, he, q⟩ := h
  obtain ⟨t, rfl⟩ := rx
  obtain ⟨t', rfl⟩ := ry
  obtain ⟨j, h1, h2, h3, h4, h5⟩ := atI_get he
  have hl : z.cps.toList.length = z.length := by simp [Str.length]
  rw [hl] at h1 h4 h5
  have hn := line63
  exact tail_any (typeIs_str s z t) slot_str_getitem.lookup (getItem_str (c := c) (by
    have e1 : decide (i < -(2 ^ 63 : Int)) = false := decide_eq_false (by omega)
    have e2 : decide (i ≥ 2 ^ 63) = false := decide_eq_false (by omega)
    rw [e1, e2, Bool.or_false]) (by rw [h1]; simpa using h2) ⟨.str ⟨#[c]⟩, H, I.tok _, ⟨_, rfl⟩, q⟩) hs
def rIx (K : PySem.W.Frag) : R2 := fun x y H Q => rIxL K x y H Q ∨ rIxT K x y H Q ∨ rIxS x y H Q
theorem ix_seq : IxR X (rIx X.K) := ix_list.or (ix_tup.or ix_str)
theorem mapSeq_set (its : List Value) (n j : Nat) (u : Value) : Obj.mapSeq (·.setIfInBounds j u) { cls := .type "list", data := .seq its.toArray n } = { cls := .type "list", data := .seq (its.set j u).toArray n } := by
  simp [Obj.mapSeq]
theorem Inv.lst {pins : List (Addr × Obj)} {σ : St} {H : Hp} {s : Shared} {p : Addr} {xs : List V} (I : Inv X pins σ H s) (h : H p = some (.lst xs)) :
    ∃ (its : List Value) (n : Nat), Vals xs its ∧ s.heap.get? p = some { cls := .type "list", data := .seq its.toArray n } ∧ xs.length ≤ sizeLine := by
  obtain ⟨z, its, n, r, e⟩ := I.hok p _ h
  exact ⟨its, n, r, e, z⟩
theorem Inv.lstUpd {pins : List (Addr × Obj)} {σ : St} {H : Hp} {s : Shared} {p : Addr} {xs ys : List V} {its its' : List Value} {n n' : Nat} {f : Obj → Obj} (I : Inv X pins σ H s) (h : H p = some (.lst xs))
    (ho : s.heap.get? p = some { cls := .type "list", data := .seq its.toArray n }) (hf : f { cls := .type "list", data := .seq its.toArray n } = { cls := .type "list", data := .seq its'.toArray n' }) (r : Vals ys its') (hz : ys.length ≤ sizeLine) (t : Nat) :
    Inv X pins σ (upd H p (.lst ys)) { s with heap := s.heap.update p f, toks := t } := by
  have e : (s.heap.update p f).get? p = some { cls := .type "list", data := .seq its'.toArray n' } := by
    rw [Heap.get?_update_self f ho (by rw [hf] <;> rfl), hf]
  refine I.write (x := p) (e := p) (by rw [h]; trivial) (.inl rfl) (fun b u hb q => (Heap.get?_update_other _ _ (Ne.symm hb)).trans q) ⟨_, e⟩ ?_
  exact ⟨hz, its', n', r, e⟩
def rSetL : V → V → V → Hp → (Hp → Prop) → Prop := fun o i v H Q => ∃ p xs k j, o = .ref p ∧ i = .int k ∧ H p = some (.lst xs) ∧ ixN xs.length k = some j ∧ Q (upd H p (.lst (xs.set j v)))
theorem set_list : PSet X rSetL := by
  intro pins s σ H o i v ov iv u Q I ro ri rv h
  obtain ⟨p, xs, k, j, rfl, rfl, hp, hj, q⟩ := h
  cases ro
  obtain ⟨t, rfl⟩ := ri
  obtain ⟨its, n, r, ho, hz⟩ := I.lst hp
  obtain ⟨h1, h2, h3, h4⟩ := ixN_seq hj
  have hl := r.length
  have hn := line63
  have I' : Inv X pins σ (upd H p (.lst (xs.set j v))) { s with heap := s.heap.update p (Obj.mapSeq (·.setIfInBounds j u)) } :=
    I.lstUpd hp ho (mapSeq_set its n j u) (r.set rv j) (by rw [List.length_set]; exact hz) s.toks
  by_cases h0 : 0 ≤ k
  · have hk : k.toNat = j := by
      rw [seqIndex_of h0 h4] at h1
      exact Option.some.inj h1
    exact PySem.W.ki_setAt ho h0 (by omega) (by rw [List.size_toArray, ← hl]; exact h4) (by rw [hk]; exact ⟨_, I', q⟩)
  · have hk : (k + (its.toArray.size : Int)).toNat = j := by
      rw [seqIndex_neg (by omega) h3] at h1
      rw [List.size_toArray, ← hl]
      exact Option.some.inj h1
    exact PySem.W.ki_setBack ho (by omega) (by rw [List.size_toArray, ← hl]; exact h3) (by omega) (by rw [hk]; exact ⟨_, I', q⟩)
def flatV : V → Bool
  | .non => true
  | .bl _ => true
  | .int _ => true
  | .str _ => true
  | _ => false
def eqV : V → V → Bool
  | .non, .non => true
  | .bl a, .bl b => a == b
  | .bl a, .int b => (if a then 1 else 0) == b
  | .int a, .bl b => a == (if b then 1 else 0)
  | .int a, .int b => a == b
  | .str a, .str b => a == b
  | _, _ => false
theorem eqAt_V {A : Around} {s : Shared} {y x : V} {u v : Value} (ry : RelV y u) (rx : RelV x v) (fy : flatV y = true) (fx : flatV x = true) : SeqAt.EqAt A s u v (eqV y x) := by
  cases y with
  | non =>
    cases ry
    cases x with
    | non => cases rx; exact SeqAt.EqAt.same _
    | bl b => cases rx; exact SeqAt.EqAt.none_bool b
    | int b => obtain ⟨t, rfl⟩ := rx; exact SeqAt.EqAt.none_int b t
    | str b => obtain ⟨t, rfl⟩ := rx; exact SeqAt.EqAt.none_str b t
    | _ => exact absurd (show false = true from fx) Bool.false_ne_true
  | bl a =>
    cases ry
    cases x with
    | non => cases rx; exact SeqAt.EqAt.bool_none a
    | bl b => cases rx; exact SeqAt.EqAt.bool_bool a b
    | int b => obtain ⟨t, rfl⟩ := rx; exact SeqAt.EqAt.bool_int a b t
    | str b => obtain ⟨t, rfl⟩ := rx; exact SeqAt.EqAt.bool_str a b t
    | _ => exact absurd (show false = true from fx) Bool.false_ne_true
  | int a =>
    obtain ⟨t', rfl⟩ := ry
    cases x with
    | non => cases rx; exact SeqAt.EqAt.int_none a t'
    | bl b => cases rx; exact SeqAt.EqAt.int_bool a t' b
    | int b => obtain ⟨t, rfl⟩ := rx; exact SeqAt.EqAt.int_int a t' b t
    | str b => obtain ⟨t, rfl⟩ := rx; exact SeqAt.EqAt.int_str a t' b t
    | _ => exact absurd (show false = true from fx) Bool.false_ne_true
  | str a =>
    obtain ⟨t', rfl⟩ := ry
    cases x with
    | non => cases rx; exact SeqAt.EqAt.str_none a t'
    | bl b => cases rx; exact SeqAt.EqAt.str_bool a t' b
    | int b => obtain ⟨t, rfl⟩ := rx; exact SeqAt.EqAt.str_int a t' b t
    | str b => obtain ⟨t, rfl⟩ := rx; exact SeqAt.EqAt.str_str a t' b t
    | _ => exact absurd (show false = true from fx) Bool.false_ne_true
  | _ => exact absurd (show false = true from fy) Bool.false_ne_true
def eqU (x : V) (u : Value) : Bool := match u with
  | .none => eqV .non x
  | .bool b => eqV (.bl b) x
  | .int i _ => eqV (.int i) x
  | .str z _ => eqV (.str z) x
  | _ => false
theorem eqU_of {x y : V} {u : Value} (r : RelV y u) (f : flatV y = true) : eqU x u = eqV y x := by
  cases y with
  | non => cases r; rfl
  | bl b => cases r; rfl
  | int i => obtain ⟨t, rfl⟩ := r; rfl
  | str z => obtain ⟨t, rfl⟩ := r; rfl
  | _ => exact absurd (show false = true from f) Bool.false_ne_true
theorem any_eqU {x : V} : ∀ {xs : List V} {us : List Value}, Vals xs us → xs.all flatV = true → us.any (eqU x) = xs.any fun y => eqV y x
  | _, _, .nil, _ => rfl
  | y :: xs, u :: us, .cons r t, f => by
    rw [List.all_cons, Bool.and_eq_true] at f
    rw [List.any_cons, List.any_cons, eqU_of r f.1, any_eqU t f.2]
theorem mem_eqAt {A : Around} {s : Shared} {x : V} {v : Value} (rx : RelV x v) (fx : flatV x = true) : ∀ {xs : List V} {us : List Value}, Vals xs us → xs.all flatV = true → ∀ u ∈ us, SeqAt.EqAt A s u v (eqU x u)
  | _, _, .nil, _ => fun u hu => by cases hu
  | y :: xs, u :: us, .cons r t, f => fun u' hu => by
    rw [List.all_cons, Bool.and_eq_true] at f
    rcases List.mem_cons.mp hu with rfl | hu
    · rw [eqU_of r f.1]; exact eqAt_V r rx f.1 fx
    · exact mem_eqAt rx fx t f.2 u' hu
def inV (x : V) (xs : List V) : Bool := xs.any fun y => eqV y x
def rIn (K : PySem.W.Frag) (neg : Bool) : R2 := fun x y H Q => ∃ p xs, y = .ref p ∧ (SqL K H p xs ∨ SqT K H p xs) ∧ flatV x = true ∧ xs.all flatV = true ∧ Q (.bl (if neg then !inV x xs else inV x xs)) H
theorem op_in_seq : OpR X (compareOp .In) (rIn X.K false) := by
  intro pins s σ H x y v u Q I rx ry h
  obtain ⟨p, xs, rfl, hq, fx, fs, q⟩ := h
  cases ry
  rcases hq with hq | hq
  · obtain ⟨its, r, pl, hz⟩ := I.list hq
    refine SeqAt.in_listAt (eqU x) pl.isList (fun w hw => mem_eqAt rx fx r fs w (by simpa using hw)) ⟨.bl _, H, I, rfl, ?_⟩
    rw [show its.toArray.any (eqU x) = its.any (eqU x) by simp, any_eqU r fs]
    exact q
  · obtain ⟨its, r, pl, hz⟩ := I.tuple hq
    refine SeqAt.in_tupleAt (eqU x) pl (fun w hw => mem_eqAt rx fx r fs w (by simpa using hw)) ⟨.bl _, H, I, rfl, ?_⟩
    rw [show its.toArray.any (eqU x) = its.any (eqU x) by simp, any_eqU r fs]
    exact q
theorem call_len_seq : CallR X (.builtin "len") (fun xs H Q => ∃ p ys, xs = [.ref p] ∧ (SqL X.K H p ys ∨ SqT X.K H p ys) ∧ Q (.int ys.length) H) := by
  intro pins s σ H xs us Q I r h
  obtain ⟨p, ys, rfl, hq, q⟩ := h
  obtain ⟨u, rfl, rx⟩ := vals1 r
  cases rx
  have hn := line63
  rcases hq with hq | hq
  · obtain ⟨its, r', pl, hz⟩ := I.list hq
    have hlen := r'.length
    exact Calls.call_len_list pl.isList (by simp only [List.size_toArray] <;> omega) ⟨.int ys.length, H, I.tok _, ⟨s.toks + 1, by rw [List.size_toArray, hlen]⟩, q⟩
  · obtain ⟨its, r', pl, hz⟩ := I.tuple hq
    have hlen := r'.length
    exact len_tuple pl (by simp only [List.size_toArray] <;> omega) ⟨.int ys.length, H, I.tok _, ⟨s.toks + 1, by rw [List.size_toArray, hlen]⟩, q⟩
theorem call_len_str : CallR X (.builtin "len") (fun xs H Q => ∃ z, xs = [.str z] ∧ z.length ≤ sizeLine ∧ Q (.int z.length) H) := by
  intro pins s σ H xs us Q I r h
  obtain ⟨z, rfl, hz, q⟩ := h
  obtain ⟨u, rfl, t, rfl⟩ := vals1 r
  have hn := line63
  exact len_str (by omega) ⟨.int z.length, H, I.tok _, ⟨_, rfl⟩, q⟩
theorem CallR.or {f : Value} {r r' : List V → Hp → VK → Prop} (h : CallR X f r) (h' : CallR X f r') : CallR X f (fun xs H Q => r xs H Q ∨ r' xs H Q) := by
  intro pins s σ H xs us Q I rs q
  rcases q with q | q
  · exact h pins s σ H xs us Q I rs q
  · exact h' pins s σ H xs us Q I rs q
theorem call_list_of : CallR X (.type "list") (fun xs H Q => ∃ p ys, xs = [.ref p] ∧ (SqL X.K H p ys ∨ SqT X.K H p ys) ∧ ∀ l, H l = none → Q (.ref l) (upd H l (.lst ys))) := by
  intro pins s σ H xs us Q I r h
  obtain ⟨p, ys, rfl, hq, q⟩ := h
  obtain ⟨u, rfl, rx⟩ := vals1 r
  cases rx
  have fin : ∀ (its : List Value), Vals ys its → ys.length ≤ sizeLine → ∀ (h' : Heap) (c' : Nat), (∀ b o', s.heap.get? b = some o' → h'.get? b = some o') →
      h'.get? s.heap.objs.size = some { cls := .type "list", dict := none, data := .seq its.toArray c', slots := #[] } → EP X pins σ Q (.ref s.heap.objs.size) { s with heap := h' } := fun its r' hz h' c' kp e =>
    ⟨.ref s.heap.objs.size, _, I.laid (t' := s.toks) kp (Nat.le_refl _) (show ObjOk X.prog X.w _ h' _ (.lst ys) from ⟨hz, its, c', r', e⟩), rfl, q _ (I.hok.fresh (Nat.le_refl _))⟩
  rcases hq with hq | hq
  · obtain ⟨its, r', pl, hz⟩ := I.list hq
    have hlen := r'.length
    obtain ⟨o, ho, hc, n, hd⟩ := pl.isList
    exact call_list_seq p (.inl rfl) ho hc hd (fun h' c' kp e => fin its r' hz h' c' kp e) (by simp only [List.size_toArray] <;> omega)
  · obtain ⟨its, r', pl, hz⟩ := I.tuple hq
    have hlen := r'.length
    obtain ⟨o, ho, hc, n, hd⟩ := pl
    exact call_list_seq p (.inr rfl) ho hc hd (fun h' c' kp e => fin its r' hz h' c' kp e) (by simp only [List.size_toArray] <;> omega)
theorem call_tuple_of : CallR X (.type "tuple") (fun xs H Q => ∃ p ys, xs = [.ref p] ∧ ((SqL X.K H p ys ∧ ∀ l, H l = none → Q (.ref l) (upd H l (.tup ys))) ∨ (SqT X.K H p ys ∧ Q (.ref p) H))) := by
  intro pins s σ H xs us Q I r h
  obtain ⟨p, ys, rfl, h⟩ := h
  obtain ⟨u, rfl, rx⟩ := vals1 r
  cases rx
  rcases h with ⟨hq, q⟩ | ⟨hq, q⟩
  · obtain ⟨its, r', pl, hz⟩ := I.list hq
    have hlen := r'.length
    refine call_tuple_list pl.isList (fun h' kp => ?_) (by simp only [List.size_toArray] <;> omega)
    have I1 : Inv X pins σ H { s with heap := h' } := I.kept (t' := s.toks) kp
    have I2 : Inv X pins σ (upd H h'.objs.size (.tup ys)) { s with heap := h'.push { cls := .type "tuple", data := .seq its.toArray } } :=
      I1.laid (t' := s.toks) (fun b o e => Heap.get?_push_of_some _ e) (Nat.le_refl _) (show ObjOk X.prog X.w _ _ _ (.tup ys) from ⟨hz, its, r', IsTup.new _ _⟩)
    exact ⟨.ref h'.objs.size, _, I2, rfl, q _ (I1.hok.fresh (Nat.le_refl _))⟩
  · obtain ⟨its, r', pl, hz⟩ := I.tuple hq
    exact call_tuple_same pl ⟨.ref p, H, I, rfl, q⟩
def tyV (K : PySem.W.Frag) (T : String) (x : V) (H : Hp) : Prop := match x with
  | .str _ => T = "str"
  | .int _ => T = "int"
  | .ref p => (T = "list" ∧ ∃ xs, SqL K H p xs) ∨ (T = "tuple" ∧ ∃ o, K.lookup p = some o ∧ o.cls = .type "tuple" ∧ o.dict = none) ∨
      (T = "dict" ∧ ((∃ kvs, H p = some (.dK kvs)) ∨ ∃ kvs, H p = some (.dT kvs))) ∨ (T = "set" ∧ ∃ S n, H p = some (.set S n))
  | _ => False
theorem tyV_is {pins : List (Addr × Obj)} {σ : St} {H : Hp} {s : Shared} {T : String} {x : V} {v : Value} (I : Inv X pins σ H s) (r : RelV x v) (ty : tyV X.K T x H) :
    s.TypeIs v T ∧ ∀ a, v = .ref a → ∃ ob, s.heap.get? a = some ob ∧ ob.dict = none := by
  cases x with
  | str z =>
    obtain ⟨t, rfl⟩ := r
    cases (show T = "str" from ty)
    exact ⟨typeIs_str s z t, fun _ e => nomatch e⟩
  | int i =>
    obtain ⟨t, rfl⟩ := r
    cases (show T = "int" from ty)
    exact ⟨typeIs_int s i t, fun _ e => nomatch e⟩
  | ref p =>
    cases r
    rcases ty with ⟨rfl, xs, hq⟩ | ⟨rfl, o, hk, hc, hd⟩ | ⟨rfl, hk⟩ | ⟨rfl, S, n, hk⟩
    · obtain ⟨its, _, pl, _⟩ := I.list hq
      refine ⟨pl.isList.typeIs, fun a e => ?_⟩
      cases e
      obtain ⟨o, n, e, c, hd, _⟩ := pl
      exact ⟨o, e, hd⟩
    · refine ⟨⟨o, I.kIn p o hk, hc⟩, fun a e => ?_⟩
      cases e
      exact ⟨o, I.kIn _ o hk, hd⟩
    · have z : ∃ o, s.heap.get? p = some o ∧ o.ExactDict := by
        rcases hk with ⟨kvs, hk⟩ | ⟨kvs, hk⟩
        · obtain ⟨_, _, _, _, o, _, _, e, ex, _⟩ := I.hok p _ hk
          exact ⟨o, e, ex⟩
        · obtain ⟨_, _, _, _, o, _, _, e, ex, _⟩ := I.hok p _ hk
          exact ⟨o, e, ex⟩
      obtain ⟨o, e, ex⟩ := z
      refine ⟨⟨o, e, ex.1⟩, fun a e2 => ?_⟩
      cases e2
      exact ⟨o, e, ex.2.1⟩
    · obtain ⟨o, _, _, _, e, ex, _⟩ := I.hok p _ hk
      refine ⟨⟨o, e, ex.1⟩, fun a e2 => ?_⟩
      cases e2
      exact ⟨o, e, ex.2.1⟩
  | _ => exact False.elim ty
def tBM0 (K : PySem.W.Frag) (T : String) (r : V → List V → Hp → VK → Prop) (to : TE) : TE := fun σ H Q => to σ H fun x H1 => tyV K T x H1 ∧ r x [] H1 Q
def tBM (K : PySem.W.Frag) (T : String) (r : V → List V → Hp → VK → Prop) (to : TE) (t : TA) : TE := fun σ H Q => to σ H fun x H1 => tyV K T x H1 ∧ t σ H1 fun xs H2 => r x xs H2 Q
variable {o e : Expr} {es : List Expr} {to : TE} {t : TA} {name : Str} {apos cpos : Pos} {T id : String} {r : V → List V → Hp → VK → Prop}
theorem pe_bm0 (pa : PlainAttrs T) (slot : Slot T name id) (hty : typeOf (.builtin id) = pure (.type "method_descriptor")) (hm : MtR X id r) (ho : PE X o to)
    (hbase : attributeBase o name X.env (eval o X.env) = eval o X.env := by rfl) (hline : (apos.endLine == cpos.line) = true := by rfl) : PE X (.Call (.Attribute o name apos) [] [] cpos) (tBM0 X.K T r to) := by
  intro pins s σ H Q I h
  refine wpAny_Call_method0_late hbase hline (thn (ho pins s σ H _ I h) fun v s1 ⟨x, H1, I1, r1, ty, q1⟩ => ?_)
  obtain ⟨h1, h2⟩ := tyV_is I1 r1 ty
  exact ⟨T, id, pa, slot, hty, h1, h2, Calls.callWith_builtin rfl (PySem.evalArgs_none (hm pins s1 σ H1 x [] v [] Q I1 r1 .nil q1))⟩
theorem pe_bm (pa : PlainAttrs T) (slot : Slot T name id) (hty : typeOf (.builtin id) = pure (.type "method_descriptor")) (hm : MtR X id r) (ho : PE X o to) (ha : PA X (e :: es) t)
    (hbase : attributeBase o name X.env (eval o X.env) = eval o X.env := by rfl)
    (hfew : ((backTo cpos (starEach (e :: es) X.env)).all (fun x => !x.1) && (backToKw cpos (keywordEach [] X.env)).all (fun x => x.1.isSome)
      && decide ((e :: es).length + ([] : List Keyword).length + (if ([] : List Keyword).isEmpty then 0 else 1) < 30)) = true := by rfl)
    (hline : (apos.endLine == cpos.line) = true := by rfl) (hs : starEach (e :: es) X.env = (false, eval e X.env) :: starEach es X.env := by rfl) (hplain : (backTo cpos (starEach es X.env)).any (·.1) = false := by rfl) :
    PE X (.Call (.Attribute o name apos) (e :: es) [] cpos) (tBM X.K T r to t) := by
  intro pins s σ H Q I h
  refine wpAny_Call_method_late hbase hfew hline rfl (thn (ho pins s σ H _ I h) fun v s1 ⟨x, H1, I1, r1, ty, q1⟩ => ?_)
  obtain ⟨h1, h2⟩ := tyV_is I1 r1 ty
  refine ⟨T, id, pa, slot, hty, h1, h2, ?_⟩
  have hA := ha cpos pins s1 σ H1 _ I1 q1
  rw [hs] at hA ⊢
  refine Calls.callWith_builtin (by show (false || (backTo cpos (starEach es X.env)).any (·.1)) = false; rw [hplain] <;> rfl) (Calls.evalArgs_plain ?_)
  exact thn hA fun us s2 ⟨vs, H2, I2, r2, q2⟩ => hm pins s2 σ H2 x vs v us Q I2 r1 r2 q2
end
end L2
namespace L2
open PySem PySem.Spec PyProof.Rows
def MtM (X : Cx) (id : String) (r : V → List V → Hp → VK → Prop) : Prop :=
  ∀ (pins : List (Addr × Obj)) (s : Shared) (σ : St) (H : Hp) (x : V) (xs : List V) (v : Value) (us : List Value) (Q : VK), Inv X pins σ H s → RelV x v → Vals xs us → r x xs H Q →
    wpAny (model X.prog X.w) X.A (call (.builtin id) (v :: us)) (EP X pins σ Q) X.xe s
theorem Vals.one : ∀ {x : V} {us : List Value}, Vals [x] us → ∃ u, us = [u] ∧ RelV x u
  | _, _, .cons r .nil => ⟨_, rfl, r⟩
theorem Vals.two : ∀ {x y : V} {us : List Value}, Vals [x, y] us → ∃ u v, us = [u, v] ∧ RelV x u ∧ RelV y v
  | _, _, _, .cons r (.cons q .nil) => ⟨_, _, rfl, r, q⟩
theorem Vals.zero : ∀ {us : List Value}, Vals [] us → us = []
  | _, .nil => rfl
theorem Vals.dropLast {xs : List V} {us : List Value} (h : Vals xs us) : Vals xs.dropLast us.dropLast := by
  induction h with
  | nil => exact .nil
  | cons r t ih =>
    cases t with
    | nil => exact .nil
    | cons q t' => exact .cons r ih
theorem Vals.reverse {xs : List V} {us : List Value} (h : Vals xs us) : Vals xs.reverse us.reverse := by
  induction h with
  | nil => exact .nil
  | cons r t ih => rw [List.reverse_cons, List.reverse_cons]; exact Vals.append ih (.cons r .nil)
section
variable {X : Cx} {pins : List (Addr × Obj)} {σ : St} {H : Hp} {s : Shared} {l b : Addr} {xs ys zs : List V}
theorem Inv.lset {its its' : List Value} {n : Nat} {f : Array Value → Array Value} {t' : Nat} (I : Inv X pins σ H s) (hH : H l = some (.lst xs))
    (e : s.heap.get? l = some { cls := .type "list", data := .seq its.toArray n }) (hf : f its.toArray = its'.toArray) (hv : Vals ys its') (hz : ys.length ≤ sizeLine) :
    Inv X pins σ (upd H l (.lst ys)) { s with heap := s.heap.update l (Obj.mapSeq f), toks := t' } := by
  have q := PySem.IsL.update e f
  rw [hf] at q
  refine I.write (x := l) (e := l) (by rw [hH]; exact trivial) (.inl rfl) (fun b' u hb hu => (Heap.get?_update_other s.heap (Obj.mapSeq f) (Ne.symm hb)).trans hu) ⟨_, q⟩ ?_
  exact ⟨hz, its', _, hv, q⟩
theorem Inv.fresh (I : Inv X pins σ H s) : H s.heap.objs.size = none := I.hok.fresh (Nat.le_refl _)
theorem Inv.lstM (I : Inv X pins σ H s) (hH : H l = some (.lst xs)) : xs.length ≤ sizeLine ∧ ∃ (its : List Value) (n : Nat), Vals xs its ∧ xs.length = its.length ∧ s.heap.get? l = some { cls := .type "list", data := .seq its.toArray n } := by
  obtain ⟨z, its, n, r, e⟩ := I.hok l _ hH
  exact ⟨z, its, n, r, r.length, e⟩
end
section
variable {X : Cx}
def rAppend : V → List V → Hp → VK → Prop := fun x vs H Q => ∃ l xs y, x = .ref l ∧ vs = [y] ∧ H l = some (.lst xs) ∧ xs.length < sizeLine ∧ Q .non (upd H l (.lst (xs ++ [y])))
theorem mt_append : MtM X "list.append" rAppend := by
  intro pins s σ H x vs v us Q I rx rv h
  obtain ⟨l, xs, y, rfl, rfl, hH, hz, q⟩ := h
  cases rx
  obtain ⟨u, rfl, ru⟩ := rv.one
  obtain ⟨z, its, n, r, hl, e⟩ := I.lstM hH
  refine call_meets F.slot_list_append ⟨_, e, rfl⟩ F.entry_list_append (F.args_list_append_2 _ _) (PySem.list_append l its.toArray n u (by rw [List.size_toArray]; omega)) ⟨e, ?_⟩
  refine ⟨.non, _, I.lset (its' := its ++ [u]) hH e (by simp) (r.append (.cons ru .nil)) ?_, rfl, q⟩
  rw [List.length_append, List.length_singleton]
  omega
def rClear : V → List V → Hp → VK → Prop := fun x vs H Q => ∃ l xs, x = .ref l ∧ vs = [] ∧ H l = some (.lst xs) ∧ Q .non (upd H l (.lst []))
theorem mt_clear : MtM X "list.clear" rClear := by
  intro pins s σ H x vs v us Q I rx rv h
  obtain ⟨l, xs, rfl, rfl, hH, q⟩ := h
  cases rx
  have hus := rv.zero
  subst hus
  obtain ⟨z, its, n, r, hl, e⟩ := I.lstM hH
  refine call_meets F.slot_list_clear ⟨_, e, rfl⟩ F.entry_list_clear (F.args_list_clear_1 _) (AutoSeq1.list_clear_list_0 l its.toArray n (by rw [List.size_toArray]; omega)) ⟨e, ?_⟩
  exact ⟨.non, _, I.lset (its' := []) (ys := []) hH e rfl .nil (Nat.zero_le _), rfl, q⟩
end
section
variable {prog : Program} {w : World} {A : Around} {E : Value → Shared → Prop} {s : Shared}
end
section
variable {X : Cx}
end
end L2
namespace L2
open PySem PySem.Spec PyProof.Rows
theorem Vals.ints : ∀ {ns : List Int} {us : List Value}, Vals (ns.map V.int) us → IntsAre us ns
  | [], us, h => by
    rw [List.map_nil] at h
    cases h
    exact IntsAre.nil
  | n :: ns, us, h => by
    rw [List.map_cons] at h
    cases h with
    | cons r t =>
      obtain ⟨k, rfl⟩ := r
      exact IntsAre.cons n k (Vals.ints t)
theorem Vals.strs : ∀ {xs : List Str} {us : List Value}, Vals (xs.map V.str) us → StrsAre us xs
  | [], us, h => by
    rw [List.map_nil] at h
    cases h
    exact StrsAre.nil
  | x :: xs, us, h => by
    rw [List.map_cons] at h
    cases h with
    | cons r t =>
      obtain ⟨k, rfl⟩ := r
      exact StrsAre.cons x k (Vals.strs t)
theorem Vals.ref1 {a : Addr} {us : List Value} (r : Vals [V.ref a] us) : us = [Value.ref a] := by
  cases r with
  | cons r t =>
    cases t
    cases r
    rfl
section
variable {prog : Program} {w : World} {A : Around} {E : Value → Shared → Prop} {s : Shared} {l : Addr} {its : List Value} {ns : List Int} {Q : Value → Shared → Prop}
end
section
variable {X : Cx}
end
section
variable {X : Cx}
end
section
variable {X : Cx}
end
section
variable {X : Cx}
end
mutual
inductive Dp (K : PySem.W.Frag) (H : Hp) : V → PyData → Prop
  | non : Dp K H .non .none
  | bl (b : Bool) : Dp K H (.bl b) (.bool b)
  | int (i : Int) : Dp K H (.int i) (.int i)
  | str (x : Str) : Dp K H (.str x) (.str x)
  | lst {a : Addr} {xs : List V} {ds : List PyData} : SqL K H a xs → DpAll K H xs ds → Dp K H (.ref a) (.list ds)
  | tup {a : Addr} {xs : List V} {ds : List PyData} : SqT K H a xs → DpAll K H xs ds → Dp K H (.ref a) (.tuple ds)
inductive DpAll (K : PySem.W.Frag) (H : Hp) : List V → List PyData → Prop
  | nil : DpAll K H [] []
  | cons {v : V} {vs : List V} {d : PyData} {ds : List PyData} : Dp K H v d → DpAll K H vs ds → DpAll K H (v :: vs) (d :: ds)
end
section
variable {X : Cx} {pins : List (Addr × Obj)} {σ : St} {H : Hp} {s : Shared}
mutual
theorem Dp.reads (I : Inv X pins σ H s) : ∀ (d : PyData) (v : V) (u : Value), Dp X.K H v d → RelV v u → ∃ as, Reads s.heap u d as
  | .none, _, _, h, r => by
    cases h
    cases r
    exact ⟨_, Reads.none⟩
  | .bool b, _, _, h, r => by
    cases h
    cases r
    exact ⟨_, Reads.bool b⟩
  | .int i, _, _, h, r => by
    cases h
    obtain ⟨t, rfl⟩ := r
    exact ⟨_, Reads.int i t⟩
  | .str x, _, _, h, r => by
    cases h
    obtain ⟨t, rfl⟩ := r
    exact ⟨_, Reads.str x t⟩
  | .list ds, _, _, h, r => by
    cases h with
    | lst hs ha =>
      cases r
      obtain ⟨its, rv, ⟨o, n, ho, hc, _, hd⟩, _⟩ := I.list hs
      obtain ⟨as, hr⟩ := Dp.readsAll I ds _ its ha rv
      exact ⟨_, Reads.list ho hc hd hr⟩
  | .tuple ds, _, _, h, r => by
    cases h with
    | tup hs ha =>
      cases r
      obtain ⟨its, rv, ⟨o, ho, hc, n, hd⟩, _⟩ := I.tuple hs
      obtain ⟨as, hr⟩ := Dp.readsAll I ds _ its ha rv
      exact ⟨_, Reads.tuple ho hc hd hr⟩
  | .dict _, _, _, h, _ => by cases h
theorem Dp.readsAll (I : Inv X pins σ H s) : ∀ (ds : List PyData) (vs : List V) (us : List Value), DpAll X.K H vs ds → Vals vs us → ∃ as, ReadsAll s.heap us ds as
  | [], _, _, h, r => by
    cases h
    cases r
    exact ⟨_, ReadsAll.nil⟩
  | d :: ds, _, _, h, r => by
    cases h with
    | cons h1 h2 =>
      cases r with
      | cons r1 r2 =>
        obtain ⟨as, q1⟩ := Dp.reads I d _ _ h1 r1
        obtain ⟨bs, q2⟩ := Dp.readsAll I ds _ _ h2 r2
        exact ⟨_, ReadsAll.cons q1 q2⟩
end
end
section
variable {X : Cx}
def rEqD (K : PySem.W.Frag) : R2 := fun x y H Q => ∃ d e, Dp K H x d ∧ Dp K H y e ∧ SeqAt.shaped d = true ∧ SeqAt.shaped e = true ∧ Q (.bl (PyData.eqv d e)) H
def rNeD (K : PySem.W.Frag) : R2 := fun x y H Q => ∃ d e, Dp K H x d ∧ Dp K H y e ∧ SeqAt.shaped d = true ∧ SeqAt.shaped e = true ∧ Q (.bl (!PyData.eqv d e)) H
theorem op_eqD (hu : X.A.units + 64 < cLine) : OpR X (compareOp .Eq) (rEqD X.K) := by
  intro pins s σ H x y v u Q I rx ry h
  obtain ⟨d, e, hd, he, sd, se, q⟩ := h
  obtain ⟨as, r1⟩ := Dp.reads I d x v hd rx
  obtain ⟨bs, r2⟩ := Dp.reads I e y u he ry
  exact SeqAt.compareEq_shaped r1 r2 sd se hu ⟨.bl _, H, I, rfl, q⟩
theorem op_neD (hu : X.A.units + 64 < cLine) : OpR X (compareOp .NotEq) (rNeD X.K) := by
  intro pins s σ H x y v u Q I rx ry h
  obtain ⟨d, e, hd, he, sd, se, q⟩ := h
  obtain ⟨as, r1⟩ := Dp.reads I d x v hd rx
  obtain ⟨bs, r2⟩ := Dp.reads I e y u he ry
  exact SeqAt.compareNe_shaped r1 r2 sd se hu ⟨.bl _, H, I, rfl, q⟩
end
end L2
namespace L2
open PySem PySem.Spec PyProof.Rows
abbrev CellAt (h : Heap) (c : Addr) (v : Option Value) : Prop := h.IsCell c v
def relS (scope sc : Scope) : Scope :=
  { scope with names := scope.names.map fun (n, k) => if (k == .free && sc.kind == .function && sc.names.lookup n == some .cell) then (n, .cell) else (n, k) }
def cloFrom (cells : List (Str × Addr)) : List (Str × NameKind) → List (Str × Addr) → List (Str × Addr)
  | [], acc => acc
  | (n, k) :: r, acc => if k == .free then cloFrom cells r ((n, (cells.lookup n).getD 0) :: acc) else cloFrom cells r acc
theorem closure_loop (env : Env) (f : Str × NameKind → List (Str × Addr) → Sem (ForInStep (List (Str × Addr))))
    (hf : ∀ n k c, f (n, k) c = if k == .free then (do let a ← cellOf env n; pure (.yield ((n, a) :: c))) else pure (.yield c)) :
    ∀ (names : List (Str × NameKind)) (acc : List (Str × Addr)), (∀ y ∈ names, y.2 = .free → ∃ c, env.cells.lookup y.1 = some c) → forIn names acc f = pure (cloFrom env.cells names acc)
  | [], acc, _ => by rw [List.forIn_nil]; rfl
  | (n, k) :: r, acc, h => by
    rw [List.forIn_cons, hf]
    have ih := fun acc => closure_loop env f hf r acc fun y hy => h y (List.mem_cons_of_mem _ hy)
    unfold cloFrom
    by_cases hk : (k == NameKind.free) = true
    · rw [if_pos hk, if_pos hk]
      obtain ⟨c, hc⟩ := h (n, k) List.mem_cons_self (by simpa using hk)
      have e : cellOf env n = pure c := by unfold cellOf; rw [hc]
      rw [e]
      have e2 : (env.cells.lookup n).getD 0 = c := by rw [hc]; rfl
      rw [e2]
      exact ih _
    · rw [if_neg hk, if_neg hk]
      exact ih _
theorem closure_ok {scope : Scope} {env : Env} (h : ∀ y ∈ scope.names, y.2 = .free → ∃ c, env.cells.lookup y.1 = some c) : closureFor scope env = pure (cloFrom env.cells scope.names []) := by
  simp only [closureFor]
  rw [closure_loop env _ (fun n k c => rfl) scope.names [] h]
  rfl
theorem mem_lookup {α : Type} : ∀ {l : List (Str × α)} {n : Str} {c : α}, (n, c) ∈ l → ∃ c', l.lookup n = some c'
  | (k, v) :: r, n, c, h => by
    rw [List.lookup_cons]
    cases hb : n == k with
    | true => exact ⟨_, rfl⟩
    | false =>
      rcases List.mem_cons.mp h with e | h
      · cases e; simp at hb
      · exact mem_lookup h
theorem cloFrom_mem {cells : List (Str × Addr)} : ∀ {names : List (Str × NameKind)} {acc : List (Str × Addr)} {n : Str} {c : Addr}, (n, c) ∈ cloFrom cells names acc → (n, c) ∈ acc ∨ ((n, .free) ∈ names ∧ c = (cells.lookup n).getD 0)
  | [], _, _, _, h => .inl h
  | (m, k) :: r, acc, n, c, h => by
    unfold cloFrom at h
    split at h
    · rename_i hk
      have hk : k = .free := by simpa using hk
      rcases cloFrom_mem h with h | ⟨h1, h2⟩
      · rcases List.mem_cons.mp h with e | h
        · cases e; exact .inr ⟨hk ▸ List.mem_cons_self, rfl⟩
        · exact .inl h
      · exact .inr ⟨List.mem_cons_of_mem _ h1, h2⟩
    · rcases cloFrom_mem h with h | ⟨h1, h2⟩
      · exact .inl h
      · exact .inr ⟨List.mem_cons_of_mem _ h1, h2⟩
theorem cloFrom_acc {cells : List (Str × Addr)} : ∀ {names : List (Str × NameKind)} {acc : List (Str × Addr)} {p : Str × Addr}, p ∈ acc → p ∈ cloFrom cells names acc
  | [], _, _, h => h
  | (m, k) :: r, acc, p, h => by
    unfold cloFrom
    split
    · exact cloFrom_acc (List.mem_cons_of_mem _ h)
    · exact cloFrom_acc h
theorem cloFrom_has {cells : List (Str × Addr)} : ∀ {names : List (Str × NameKind)} {acc : List (Str × Addr)} {n : Str}, (n, .free) ∈ names → (n, (cells.lookup n).getD 0) ∈ cloFrom cells names acc
  | (m, k) :: r, acc, n, h => by
    unfold cloFrom
    rcases List.mem_cons.mp h with e | h
    · cases e
      exact cloFrom_acc List.mem_cons_self
    · split
      · exact cloFrom_has h
      · exact cloFrom_has h
theorem cells_mem : ∀ {names : List (Str × NameKind)} {h : Heap} {acc : List (Str × Addr)} {x : Str} {c : Addr}, (x, c) ∈ cellsFrom h.objs.size names acc →
    (x, c) ∈ acc ∨ ((x, .cell) ∈ names ∧ h.objs.size ≤ c ∧ CellAt (pushCells h names) c none)
  | [], _, _, _, _, h => .inl h
  | (n, k) :: r, h, acc, x, c, hm => by
    unfold cellsFrom at hm
    unfold pushCells
    split at hm
    · rename_i hk
      rw [if_pos hk]
      have hk : k = .cell := by simpa using hk
      rw [← Heap.size_push h { cls := .type "cell", data := .cell none }] at hm
      rcases cells_mem hm with hm | ⟨h1, h2, h3⟩
      · rcases List.mem_cons.mp hm with e | hm
        · cases e
          exact .inr ⟨hk ▸ List.mem_cons_self, Nat.le_refl _, _, pushCells_keeps r _ _ _ (Heap.get?_push_size _ rfl), rfl⟩
        · exact .inl hm
      · rw [Heap.size_push] at h2
        exact .inr ⟨List.mem_cons_of_mem _ h1, Nat.le_of_succ_le h2, h3⟩
    · rename_i hk
      rw [if_neg hk]
      rcases cells_mem hm with hm | ⟨h1, h2, h3⟩
      · exact .inl hm
      · exact .inr ⟨List.mem_cons_of_mem _ h1, h2, h3⟩
theorem cells_acc : ∀ {names : List (Str × NameKind)} {n : Nat} {acc : List (Str × Addr)} {p : Str × Addr}, p ∈ acc → p ∈ cellsFrom n names acc
  | [], _, _, _, h => h
  | (m, k) :: r, n, acc, p, h => by
    unfold cellsFrom
    split
    · exact cells_acc (List.mem_cons_of_mem _ h)
    · exact cells_acc h
theorem cells_has : ∀ {names : List (Str × NameKind)} {n : Nat} {acc : List (Str × Addr)} {x : Str}, (x, .cell) ∈ names → ∃ c, (x, c) ∈ cellsFrom n names acc
  | (m, k) :: r, n, acc, x, h => by
    unfold cellsFrom
    rcases List.mem_cons.mp h with e | h
    · cases e
      exact ⟨n, cells_acc List.mem_cons_self⟩
    · split
      · exact cells_has h
      · exact cells_has h
theorem cells_inj : ∀ {names : List (Str × NameKind)} {h : Heap} {acc : List (Str × Addr)} {x y : Str} {c : Addr}, (∀ p ∈ acc, p.2 < h.objs.size) → (∀ x y c, (x, c) ∈ acc → (y, c) ∈ acc → x = y) →
    (x, c) ∈ cellsFrom h.objs.size names acc → (y, c) ∈ cellsFrom h.objs.size names acc → x = y
  | [], _, _, _, _, _, _, hi, h1, h2 => hi _ _ _ h1 h2
  | (n, k) :: r, h, acc, x, y, c, hl, hi, h1, h2 => by
    unfold cellsFrom at h1 h2
    split at h1
    · rename_i hk
      rw [if_pos hk] at h2
      rw [← Heap.size_push h { cls := .type "cell", data := .cell none }] at h1 h2
      refine cells_inj (h := h.push _) (fun p hp => ?_) (fun x y c a b => ?_) h1 h2
      · rw [Heap.size_push]
        rcases List.mem_cons.mp hp with rfl | hp
        · exact Nat.lt_succ_self _
        · exact Nat.lt_succ_of_lt (hl p hp)
      · rcases List.mem_cons.mp a with e | a <;> rcases List.mem_cons.mp b with e' | b
        · cases e; cases e'; rfl
        · cases e; exact absurd (hl _ b) (Nat.lt_irrefl _)
        · cases e'; exact absurd (hl _ a) (Nat.lt_irrefl _)
        · exact hi _ _ _ a b
    · rename_i hk
      rw [if_neg hk] at h2
      exact cells_inj hl hi h1 h2
theorem newEnv_comp {M : Model} {A : Around} {E : Value → Shared → Prop} {s : Shared} {scope : Scope} {globals : Addr} {closure : List (Str × Addr)} {qual : Str} {func : Option Addr} {code : Value} {around : Env} {builtins : Addr} {Q : Env → Shared → Prop}
    (h : Q (newEnv scope s.heap.objs.size globals (cellsFrom (s.heap.objs.size + 1) scope.names closure) qual func code (some around) builtins)
      { s with heap := pushCells (s.heap.push { cls := .type "dict", data := .dict #[] }) scope.names }) :
    wpAny M A (newFunctionEnv scope globals closure [] qual func code (some around) builtins) Q E s := by
  simp only [newFunctionEnv, Option.isSome_some, if_true]
  refine wpAny_bind (wpAny_alloc ?_)
  refine wpAny_bind (wpAny_layCells _ (fun n k c => rfl) scope.names closure _ _ ?_)
  rw [show ({ s with heap := s.heap.push { cls := .type "dict", data := .dict #[] } } : Shared).heap.objs.size = s.heap.objs.size + 1 from Heap.size_push ..]
  rw [List.forIn_nil]
  exact wpAny_bind (wpAny_pure (wpAny_pure h))
theorem lookup_relS {sc : Scope} : ∀ {names : List (Str × NameKind)} {x : Str} {k : NameKind},
    (names.map fun (n, k) => if (k == NameKind.free && sc.kind == .function && sc.names.lookup n == some .cell) then (n, NameKind.cell) else (n, k)).lookup x = some k →
    ∃ k', names.lookup x = some k' ∧ (k = k' ∨ (k' = .free ∧ k = .cell))
  | [], _, _, h => by simp at h
  | (n, k₀) :: r, x, k, h => by
    have ih := @lookup_relS sc r x k
    have h' : List.lookup x ((if (k₀ == NameKind.free && sc.kind == .function && sc.names.lookup n == some .cell) = true then (n, NameKind.cell) else (n, k₀)) :: (r.map _)) = some k := h
    cases hx : x == n with
    | true =>
      simp only [List.lookup_cons, hx]
      by_cases hc : (k₀ == NameKind.free && sc.kind == .function && sc.names.lookup n == some .cell) = true
      · rw [if_pos hc] at h'
        simp only [List.lookup_cons, hx] at h'
        cases h'
        simp only [Bool.and_eq_true, beq_iff_eq] at hc
        exact ⟨k₀, rfl, .inr ⟨hc.1.1, rfl⟩⟩
      · rw [if_neg hc] at h'
        simp only [List.lookup_cons, hx] at h'
        cases h'
        exact ⟨_, rfl, .inl rfl⟩
    | false =>
      simp only [List.lookup_cons, hx]
      by_cases hc : (k₀ == NameKind.free && sc.kind == .function && sc.names.lookup n == some .cell) = true
      · rw [if_pos hc] at h'
        simp only [List.lookup_cons, hx] at h'
        exact ih h'
      · rw [if_neg hc] at h'
        simp only [List.lookup_cons, hx] at h'
        exact ih h'
structure BlkOk (N : List Str) (sc scope : Scope) (own : List (Str × Nat)) : Prop where
  kind : scope.kind = .function
  uniq : ∀ y ∈ scope.names, scope.names.lookup y.1 = some y.2
  ix : ∀ p ∈ own, N[p.2]? = some p.1
  free : ∀ y ∈ scope.names, y.2 = .free → sc.names.lookup y.1 = some .cell ∨ sc.names.lookup y.1 = some .free
  own : ∀ y ∈ scope.names, y.2 = .local ∨ y.2 = .cell → y.1 ∈ own.map (·.1) ∨ y.1 ∉ N
def wipe (σ : St) : List Nat → St
  | [] => σ
  | v :: vs => (wipe σ vs).set v none
theorem wipe_length (σ : St) : ∀ vs : List Nat, (wipe σ vs).length = σ.length
  | [] => rfl
  | v :: vs => by unfold wipe; rw [List.length_set, wipe_length σ vs]
theorem wipe_some {σ : St} {i : Nat} {x : V} : ∀ {vs : List Nat}, (wipe σ vs)[i]? = some (some x) → σ[i]? = some (some x) ∧ i ∉ vs
  | [], h => ⟨h, by simp⟩
  | v :: vs, h => by
    unfold wipe at h
    by_cases hi : v = i
    · subst hi
      by_cases hv : v < (wipe σ vs).length
      · rw [List.getElem?_set_self hv] at h; cases h
      · rw [List.getElem?_eq_none (by simpa using hv)] at h; cases h
    · rw [List.getElem?_set_ne hi] at h
      obtain ⟨h1, h2⟩ := wipe_some h
      exact ⟨h1, by simp only [List.mem_cons, not_or]; exact ⟨fun e => hi e.symm, h2⟩⟩
abbrev Cx.blk (X : Cx) (s : Shared) (H : Hp) (scope : Scope) (cenv : Env) (fp : List Addr) : Cx := { X with s_0 := s, H_0 := H, env := cenv, outer := X.stack, ex := fp, fn := fun x => scope.names.lookup x == some .cell, pn := [], xe := fun _ _ => False }
section
variable {X : Cx} {pins : List (Addr × Obj)} {σ : St} {H : Hp} {s : Shared}
theorem block_start {scope : Scope} {own : List (Str × Nat)} {fp : List Addr} (I : Inv X pins σ H s) (ok : BlkOk X.N X.env.scope scope own) (hN : X.N.Nodup) (hfp : ∀ b ∈ fp, FpOk X pins H b ∧ b < s.heap.objs.size) :
    Inv (X.blk s H scope (compEnvC scope (cellsFrom (s.heap.objs.size + 1) scope.names (cloFrom X.env.cells scope.names [])) s.heap.objs.size X.env) fp) [] (wipe σ (own.map (·.2))) H { s with heap := pushCells (s.heap.push { cls := .type "dict", data := .dict #[] }) scope.names } := by
  have hfree : ∀ y ∈ scope.names, y.2 = .free → ∃ c, X.env.cells.lookup y.1 = some c := fun y hy e => by
    rcases ok.free y hy e with k | k
    · exact I.ok.has _ (.inl k)
    · exact I.ok.has _ (.inr k)
  generalize hcenv : compEnvC scope (cellsFrom (s.heap.objs.size + 1) scope.names (cloFrom X.env.cells scope.names [])) s.heap.objs.size X.env = cenv
  have kp : ∀ b o, s.heap.get? b = some o → (pushCells (s.heap.push { cls := .type "dict", data := .dict #[] }) scope.names).get? b = some o := fun b o e => pushCells_keeps _ _ _ _ (Heap.get?_push_of_some _ e)
  have hL : cenv.locals = s.heap.objs.size := by rw [← hcenv]; rfl
  have hcl : cenv.cells = cellsFrom (s.heap.objs.size + 1) scope.names (cloFrom X.env.cells scope.names []) := by rw [← hcenv]; rfl
  have hsc : cenv.scope = relS scope X.env.scope := by rw [← hcenv]; rfl
  rw [← Heap.size_push s.heap { cls := .type "dict", data := .dict #[] }] at hcl
  have cm : ∀ {y c}, (y, c) ∈ cloFrom X.env.cells scope.names [] → X.env.cells.lookup y = some c ∧ c < s.heap.objs.size := fun {y c} hm => by
    rcases cloFrom_mem hm with hm | ⟨h1, rfl⟩
    · cases hm
    · obtain ⟨c, hc⟩ := hfree _ h1 rfl
      rw [hc]
      obtain ⟨w, z⟩ := I.cell _ _ hc
      exact ⟨rfl, z.lt⟩
  have mem : ∀ {y c}, cenv.cells.lookup y = some c → (X.env.cells.lookup y = some c ∧ c < s.heap.objs.size) ∨ (s.heap.objs.size + 1 ≤ c ∧ CellAt (pushCells (s.heap.push { cls := .type "dict", data := .dict #[] }) scope.names) c none) := fun {y c} e => by
    rw [hcl] at e
    rcases cells_mem (PySem.mem_of_lookup e) with hm | ⟨_, h2, h3⟩
    · exact .inl (cm hm)
    · rw [Heap.size_push] at h2; exact .inr ⟨h2, h3⟩
  have look : ∀ {y}, scope.names.lookup y = some .free → ∃ c, cenv.cells.lookup y = some c ∧ X.env.cells.lookup y = some c := fun {y} hl => by
    have hy : (y, NameKind.free) ∈ scope.names := PySem.mem_of_lookup hl
    obtain ⟨c', e'⟩ := mem_lookup (cells_acc (names := scope.names) (n := (s.heap.push { cls := .type "dict", data := .dict #[] }).objs.size) (cloFrom_has (cells := X.env.cells) (acc := []) hy))
    rw [← hcl] at e'
    refine ⟨c', e', ?_⟩
    rw [hcl] at e'
    rcases cells_mem (PySem.mem_of_lookup e') with hm | ⟨h1, _, _⟩
    · exact (cm hm).1
    · have := ok.uniq _ h1
      rw [hl] at this; cases this
  have okB : (X.blk s H scope cenv fp).Ok := by
    refine ⟨I.ok.mod, by show cenv.scope.kind = _; rw [hsc]; exact ok.kind, by show cenv.globals = _; rw [← hcenv]; exact I.ok.glob, by show cenv.builtins = _; rw [← hcenv]; exact I.ok.blt, by show s.heap.objs.size ≤ cenv.locals; rw [hL]; exact Nat.le_refl _,
      fun y z c e1 e2 => ?_, fun y hy => ?_, fun y c z e => ?_, I.ok.hd, I.ok.frames, .inl rfl, fun b hb => ⟨?_, fun y c e z => ?_⟩, I.bs, Nat.le_trans I.ok.bsz I.sz, fun b o e hb => ?_, fun b hb z => ?_, I.stack, I.stkFree⟩
    · have e1 : cenv.cells.lookup y = some c := e1
      have e2 : cenv.cells.lookup z = some c := e2
      rw [hcl] at e1 e2
      refine cells_inj (fun p hp => ?_) (fun y z c a b => I.ok.inj y z c (cm a).1 (cm b).1) (PySem.mem_of_lookup e1) (PySem.mem_of_lookup e2)
      rw [Heap.size_push]
      exact Nat.lt_succ_of_lt (cm (y := p.1) (c := p.2) hp).2
    · show ∃ c, cenv.cells.lookup y = some c
      have key : ∀ k, cenv.kindOf y = some k → (k = .cell ∨ k = .free) → ∃ c, cenv.cells.lookup y = some c := fun k hk hk' => by
        unfold Env.kindOf at hk
        rw [hsc] at hk
        obtain ⟨k', e, r⟩ := lookup_relS hk
        have : k' = .cell ∨ k' = .free := by
          rcases r with rfl | ⟨rfl, _⟩
          · exact hk'
          · exact .inr rfl
        rcases this with rfl | rfl
        · obtain ⟨c, hm⟩ := cells_has (n := (s.heap.push { cls := .type "dict", data := .dict #[] }).objs.size) (acc := cloFrom X.env.cells scope.names []) (PySem.mem_of_lookup e)
          obtain ⟨c', e'⟩ := mem_lookup hm
          exact ⟨c', by rw [hcl]; exact e'⟩
        · obtain ⟨c, h1, _⟩ := look e
          exact ⟨c, h1⟩
      rcases hy with hy | hy
      · exact key _ hy (.inl rfl)
      · exact key _ hy (.inr rfl)
    · have z : (scope.names.lookup y == some NameKind.cell) = true := z
      have z : scope.names.lookup y = some .cell := by simpa using z
      have e : cenv.cells.lookup y = some c := e
      rw [hcl] at e
      rcases cells_mem (PySem.mem_of_lookup e) with hm | ⟨_, h2, _⟩
      · rcases cloFrom_mem hm with hm | ⟨h1, _⟩
        · cases hm
        · have q := ok.uniq _ h1
          rw [z] at q; cases q
      · rw [Heap.size_push] at h2
        exact Nat.le_of_succ_le h2
    · show b ≠ cenv.locals
      rw [hL]; exact Nat.ne_of_lt (hfp b hb).2
    · have e : cenv.cells.lookup y = some c := e
      rcases mem e with ⟨h1, _⟩ | ⟨h1, _⟩
      · exact (hfp b hb).1.2.2.2.2.1 y c h1 z
      · have h2 : s.heap.objs.size + 1 ≤ b := by rw [← z]; exact h1
        exact absurd (Nat.lt_of_lt_of_le (hfp b hb).2 (Nat.le_of_succ_le h2)) (Nat.lt_irrefl _)
    · rcases (hfp b hb).1.2.2.2.1 with z | z
      · exact I.ok.noex b o e z
      · exact absurd (Nat.lt_of_lt_of_le (Heap.lt_size e) (Nat.le_trans I.ok.bsz z)) (Nat.lt_irrefl _)
    · rcases List.mem_cons.mp (I.stkSub b z) with z | z
      · exact (hfp b hb).1.2.1 z
      · exact (hfp b hb).1.2.2.1 z
  refine ⟨okB, rfl, I.bare, Un.kept kp, ⟨fun _ => none, ?_, fun i y av e1 e2 e3 => ?_⟩, fun y c e => ?_, ?_, fun y c e => ?_, fun p hp => ?_, I.hok.kept kp, by rw [wipe_length]; exact I.len⟩
  · show Heap.Ns _ cenv.locals _
    rw [hL]
    exact Heap.Ns.keeps (Heap.Ns.new ..) fun b o e => pushCells_keeps _ _ _ _ e
  · obtain ⟨e2, hne⟩ := wipe_some e2
    have hfr : scope.names.lookup y = some .free ∧ (cenv.kindOf y = some .cell ∨ cenv.kindOf y = some .free) := by
      have key : ∀ k, cenv.scope.names.lookup y = some k → k = .local ∨ k = .cell ∨ k = .free → scope.names.lookup y = some .free ∧ (cenv.kindOf y = some .cell ∨ cenv.kindOf y = some .free) := fun k hk hk' => by
        have hk0 := hk
        rw [hsc] at hk
        obtain ⟨k', e, r⟩ := lookup_relS hk
        have no : ¬ (k' = .local ∨ k' = .cell) := fun hh => by
          rcases ok.own _ (PySem.mem_of_lookup e) hh with e' | e'
          · obtain ⟨p, hp, hpy⟩ := List.mem_map.mp e'
            have e3 := ok.ix p hp
            have : p.1 = y := hpy
            rw [this] at e3
            exact hne (List.mem_map.mpr ⟨p, hp, nodup_ix hN e3 e1⟩)
          · exact e' (List.mem_of_getElem? e1)
        rcases r with rfl | ⟨rfl, rfl⟩
        · rcases hk' with rfl | rfl | rfl
          · exact absurd (.inl rfl) no
          · exact absurd (.inr rfl) no
          · exact ⟨e, .inr hk0⟩
        · exact ⟨e, .inl hk0⟩
      have e3 : Vis cenv.scope y := e3
      rcases e3 with e3 | e3 | e3
      · exact key _ e3 (.inl rfl)
      · exact key _ e3 (.inr (.inl rfl))
      · exact key _ e3 (.inr (.inr rfl))
    obtain ⟨m, hn, hl⟩ := I.loc
    have hvis : Vis X.env.scope y := (ok.free _ (PySem.mem_of_lookup hfr.1) rfl).elim (fun k => .inr (.inl k)) (fun k => .inr (.inr k))
    obtain ⟨w, r, q⟩ := hl i y av e1 e2 hvis
    refine ⟨w, r, .inr ⟨hfr.2, ?_⟩⟩
    obtain ⟨c, h1, h2⟩ := look hfr.1
    rcases q with ⟨k, _⟩ | ⟨_, c', e', z⟩
    · have k : X.env.scope.names.lookup y = some .local := k
      rcases ok.free _ (PySem.mem_of_lookup hfr.1) rfl with k' | k' <;> rw [show X.env.scope.names.lookup y = _ from k'] at k <;> cases k
    · rw [h2] at e'; cases e'
      exact ⟨c, h1, z.keeps kp⟩
  · have e : cenv.cells.lookup y = some c := e
    rcases mem e with ⟨h1, _⟩ | ⟨_, z⟩
    · obtain ⟨w, z⟩ := I.cell y c h1
      exact ⟨w, z.keeps kp⟩
    · exact ⟨_, z⟩
  · show H cenv.locals = none
    rw [hL]; exact I.hok.fresh (Nat.le_refl _)
  · have e : cenv.cells.lookup y = some c := e
    rcases mem e with ⟨h1, _⟩ | ⟨h1, _⟩
    · exact I.freeC y c h1
    · exact I.hok.fresh (Nat.le_of_succ_le h1)
  · exact absurd (show p ∈ ([] : List (Addr × Obj)) ++ [] from hp) (by simp)
theorem app_ok {E : Value → Shared → Prop} {D : Addr} {xs : List V} {y : V} {v : Value} {Q : Value → Shared → Prop} (I : Inv X pins σ H s) (hD : H D = some (.lst xs)) (hz : xs.length < sizeLine) (r : RelV y v)
    (h : ∀ s', Inv X pins σ (upd H D (.lst (xs ++ [y]))) s' → Q .none s') : wpAny (model X.prog X.w) X.A (call (.builtin "list.append") [.ref D, v]) Q E s := by
  obtain ⟨hz', its, n, ri, e⟩ := I.hok D _ hD
  have hl := ri.length
  refine append_at (hsz := by rw [List.size_toArray]; omega) e fun h' sb ho' => ?_
  refine h { s with heap := h' } (I.write (t' := s.toks) (by rw [hD]; trivial) (.inl rfl) (fun b u hb q => (sb.2 b hb).trans q) ⟨_, ho'⟩ ⟨by rw [List.length_append]; exact hz, its ++ [v], n + 1, ri.append (.cons r .nil), ?_⟩)
  rw [ho']
  simp
def PTs (X : Cx) (ifs : List Expr) (t : TT) : Prop :=
  ∀ (pins : List (Addr × Obj)) (s : Shared) (σ : St) (H : Hp) (Q : Bool → Hp → Prop), Inv X pins σ H s → t σ H Q →
    wpAny (model X.prog X.w) X.A (forIn ifs true fun c r => if r = true then do let ok ← isTrue c X.env (eval c X.env); pure (ForInStep.yield ok) else pure (ForInStep.yield r)) (TP X pins σ Q) X.xe s
def tYes : TT := fun _ H Q => Q true H
theorem pts_nil : PTs X [] tYes := fun _ _ _ H _ I h => wpAny_tests_nil ⟨H, I, h⟩
end
theorem thnF {α : Type} {t : Sem α} {Q Q' : α → Shared → Prop} {M : Model} {A : Around} {E : Value → Shared → Prop} {s : Shared} (h : wpAny M A t Q (fun _ _ => False) s) (hQ : ∀ a s, Q a s → Q' a s) : wpAny M A t Q' E s := wpAny_mono h hQ fun _ _ z => False.elim z
theorem compLoop_any {prog : Program} {w : World} {A : Around} {R : Result → Shared → Prop} {s : Shared} {elt target iter : Expr} {ifs : List Expr} {scope : Scope} {pos : Pos} {it acc : Value} {env : Env} (I : Nat → Shared → Prop)
    (turn : ∀ n s, I n s → wpAny (model prog w) A (pyNext it) (fun r s₁ => match r with
      | none => R (.ok .next) s₁
      | some v => wpAny (model prog w) A (letOwnedTupleGo target it v) (fun _ s₁' => wpAny (model prog w) A (assign target env v) (fun _ s₂ =>
          wpAny (model prog w) A (forIn ifs true fun c r => if r = true then do let ok ← isTrue c env (eval c env); pure (ForInStep.yield ok) else pure (ForInStep.yield r)) (fun ok s₃ =>
            if ok = true then wpAny (model prog w) A (eval elt env) (fun x s₄ =>
              wpAny (model prog w) A (call (.builtin "list.append") [acc, x]) (fun _ s₅ => ∃ m, m < n ∧ I m s₅) (notedBy (model prog w) A env fun e s' => R (.error e) s') s₄) (notedBy (model prog w) A env fun e s' => R (.error e) s') s₃
            else ∃ m, m < n ∧ I m s₃) (notedBy (model prog w) A env fun e s' => R (.error e) s') s₂) (notedBy (model prog w) A env fun e s' => R (.error e) s') s₁') (notedBy (model prog w) A env fun e s' => R (.error e) s') s₁) (notedBy (model prog w) A env fun e s' => R (.error e) s') s)
    (n : Nat) (h : I n s) :
    codeAny (model prog w) A (.compLoop (.ListComp elt [⟨target, iter, ifs, 0⟩] scope pos) 0 it acc env) R s := by
  refine codeAny_loop rfl I (fun n s hI => ?_) n h
  show wpAny _ A ((compTurn (.ListComp elt [⟨target, iter, ifs, 0⟩] scope pos) 0 it acc env).onRaise (fun x => do noteFrame x env; theTreesLotGoes x)) _ _ s
  refine wpAny_noted ?_
  rw [compTurn_list]
  refine wpAny_bind (wpAny_standAt (wpAny_bind (wpAny_mono (turn n s hI) (fun r s₁ h₁ => ?_) fun _ _ h' => h')))
  cases r with
  | none => exact wpAny_pure h₁
  | some v =>
    refine wpAny_bind (wpAny_mono h₁ (fun _ s₁' h₁' => ?_) fun _ _ h' => h')
    refine wpAny_bind (wpAny_mono h₁' (fun _ s₂ h₂ => wpAny_bind (wpAny_mono h₂ (fun ok s₃ h₃ => ?_) fun _ _ h' => h')) fun _ _ h' => h')
    cases ok with
    | false => exact wpAny_pure ⟨rfl, h₃⟩
    | true =>
      exact wpAny_bind (wpAny_bind (wpAny_mono h₃ (fun x s₄ h₄ => wpAny_bind (wpAny_mono h₄ (fun _ s₅ h₅ => wpAny_pure (wpAny_pure ⟨rfl, h₅⟩)) fun _ _ h' => h')) fun _ _ h' => h'))
section
variable {X : Cx}
def tLc (wi : TI) (g : TG) (tt : TT) (te : TE) (vs : List Nat) : TE := fun σ H Q => wi σ H fun J H1 => ∀ D, H1 D = none → ∃ W : Nat → Nat → Hp → Prop, (∃ m, W 0 m (upd H1 D (.lst []))) ∧ ∀ i m H, W i m H →
  (J.stop i H ∧ Q (.ref D) H) ∨ (J.go i H ∧ ∃ Nx : Hp → Prop, (∀ H', Nx H' → ∃ m', m' < m ∧ W (i + 1) m' H') ∧ ∀ x H', J.yld i H x H' → g x (wipe σ vs) H' fun σ2 H2 => wipe σ2 vs = wipe σ vs ∧ tt σ2 H2 fun b H3 =>
    if b = true then te σ2 H3 fun y H4 => ∃ acc, H4 D = some (.lst acc) ∧ acc.length < sizeLine ∧ Nx (upd H4 D (.lst (acc ++ [y]))) else Nx H3)
theorem lc_core {pins : List (Addr × Obj)} {s : Shared} {σ : St} {H : Hp} {Q : VK} {elt tg iter : Expr} {ifs : List Expr} {scope : Scope} {own : List (Str × Nat)} {pos pos' : Pos} {wi : TI} {g : TG} {tt : TT} {te : TE} {use : Option (Value → Sem Unit)} {Qf : Value → Shared → Prop}
    (hc : X.calm = true) (hN : X.N.Nodup) (I : Inv X pins σ H s) (hi : PI X tg iter wi) (ok : BlkOk X.N X.env.scope scope own)
    (hg : ∀ (s : Shared) (H : Hp) (C : Addr) (cl : List (Str × Addr)) (fp : List Addr), PG (X.blk s H scope (compEnvC scope cl C X.env) fp) tg g) (ht : ∀ (s : Shared) (H : Hp) (C : Addr) (cl : List (Str × Addr)) (fp : List Addr), PTs (X.blk s H scope (compEnvC scope cl C X.env) fp) ifs tt)
    (he : ∀ (s : Shared) (H : Hp) (C : Addr) (cl : List (Str × Addr)) (fp : List Addr), PE (X.blk s H scope (compEnvC scope cl C X.env) fp) elt te) (hs : ∀ x, foldedSetIterable iter X.env x = pure x)
    (h : tLc wi g tt te (own.map (·.2)) σ H Q)
    (hRR : ∀ D C s' m H', Inv X pins σ H' s' → Q (.ref D) H' → s'.heap.Ns C m → FpOk X pins H' C → compPost (model X.prog X.w) X.A X.xe use Qf (.ref D) C (.ok .next) s') :
    wpAny (model X.prog X.w) X.A (comprehension (.ListComp elt [⟨tg, iter, ifs, 0⟩] scope pos) scope X.env pos' (newList []) false (eval iter X.env) use) Qf X.xe s := by
  have hfree : ∀ y ∈ scope.names, y.2 = .free → ∃ c, X.env.cells.lookup y.1 = some c := fun y hy e => by
    rcases ok.free y hy e with k | k
    · exact I.ok.has _ (.inl k)
    · exact I.ok.has _ (.inr k)
  refine wpAny_comprehension_free (use := use) rfl hs (closure_ok hfree) ok.kind (fun y hy e => by rw [ok.uniq y hy, e])
    (thn (hi pins s σ H _ I h) fun xv s1 hx => thn hx fun itv s2 h2 => ?_)
  obtain ⟨it, fp, tn, J, H2, e, I2, T, st2, f2, q⟩ := h2
  subst e
  refine wpAny_newObj_type (newEnv_comp ?_) (by show 0 ≤ sizeLine; decide)
  generalize hD : s2.heap.objs.size = D
  have hDn : H2 D = none := I2.hok.fresh (Nat.le_of_eq hD)
  obtain ⟨W, ⟨m0, w0⟩, turn⟩ := q D hDn
  generalize hs3 : ({ s2 with heap := s2.heap.push { cls := .type "list", data := .seq ([] : List Value).toArray } } : Shared) = s3
  have I3 : Inv X pins σ (upd H2 D (.lst [])) s3 := by
    rw [← hs3]
    refine I2.laid (t' := s2.toks) (fun b o e => Heap.get?_push_of_some _ e) (Nat.le_of_eq hD) ⟨Nat.zero_le _, [], 0, .nil, ?_⟩
    rw [← hD]
    exact Heap.get?_push_size _ rfl
  have h3 : s3.heap = s2.heap.push { cls := .type "list", data := .seq ([] : List Value).toArray } := by rw [← hs3]
  have sz : ∀ b ∈ fp, b < s2.heap.objs.size := fun b hb => by
    obtain ⟨o, e, _⟩ := T.obj _ _ st2 b hb
    exact Heap.lt_size e
  have f3 : ∀ b ∈ fp, FpOk X pins (upd H2 D (.lst [])) b ∧ b < s3.heap.objs.size := fun b hb => by
    have hlt := sz b hb
    refine ⟨⟨?_, (f2 b hb).2⟩, by rw [h3, Heap.size_push]; exact Nat.lt_succ_of_lt hlt⟩
    rw [upd_ne (by rw [← hD]; exact Nat.ne_of_lt hlt)]
    exact (f2 b hb).1
  have st3 : tn 0 s3.heap := T.keep _ _ _ st2 fun b _ o e => by rw [h3]; exact Heap.get?_push_of_some _ e
  have I4 := block_start I3 ok hN f3
  have pg := hg s3 (upd H2 D (.lst [])) s3.heap.objs.size (cellsFrom (s3.heap.objs.size + 1) scope.names (cloFrom X.env.cells scope.names [])) fp
  have pt := ht s3 (upd H2 D (.lst [])) s3.heap.objs.size (cellsFrom (s3.heap.objs.size + 1) scope.names (cloFrom X.env.cells scope.names [])) fp
  have pe := he s3 (upd H2 D (.lst [])) s3.heap.objs.size (cellsFrom (s3.heap.objs.size + 1) scope.names (cloFrom X.env.cells scope.names [])) fp
  show codeAny _ _ (.compStart (.ListComp elt [⟨tg, iter, ifs, 0⟩] scope pos) 0 (.ref it) (.ref D) (compEnvC scope (cellsFrom (s3.heap.objs.size + 1) scope.names (cloFrom X.env.cells scope.names [])) s3.heap.objs.size X.env)) (compPost (model X.prog X.w) X.A X.xe use Qf (.ref D) s3.heap.objs.size) { s3 with heap := pushCells (s3.heap.push { cls := .type "dict", data := .dict #[] }) scope.names }
  have nfp : ∀ b ∈ fp, (upd H2 D (.lst [])) b = none := fun b hb => (f3 b hb).1.1
  generalize hce : compEnvC scope (cellsFrom (s3.heap.objs.size + 1) scope.names (cloFrom X.env.cells scope.names [])) s3.heap.objs.size X.env = ce at I4 pg pt pe ⊢
  have cL : ce.locals = s3.heap.objs.size := by subst hce; rfl
  generalize hH3 : upd H2 D (.lst []) = H3 at I3 I4 pg pt pe w0 nfp f3
  generalize hs4 : ({ s3 with heap := pushCells (s3.heap.push { cls := .type "dict", data := .dict #[] }) scope.names } : Shared) = s4 at I4 ⊢
  have st4 : tn 0 s4.heap := T.keep _ _ _ st3 fun b _ o e => by rw [← hs4]; exact pushCells_keeps _ _ _ _ (Heap.get?_push_of_some _ e)
  have stat : ∀ {σ' : St} {H' : Hp} {s' : Shared}, Inv (X.blk s3 H3 scope ce fp) [] σ' H' s' → (∀ b ∈ fp, H' b = none) → ∀ b ∈ fp, FpOk (X.blk s3 H3 scope ce fp) [] H' b := fun {σ' H' s'} I' hn b hb =>
    ⟨hn b hb, (I'.ok.exf b hb).1, I'.ok.exfs b hb, .inl hb, fun x c e => (I'.ok.exf b hb).2 x c e, fun p hp => absurd (show p ∈ ([] : List (Addr × Obj)) ++ [] from hp) (by simp)⟩
  have loop : codeAny (model X.prog X.w) X.A (.compLoop (.ListComp elt [⟨tg, iter, ifs, 0⟩] scope pos) 0 (.ref it) (.ref D) ce) (compPost (model X.prog X.w) X.A X.xe use Qf (.ref D) s3.heap.objs.size) s4 := by
    refine compLoop_any (fun n s' => ∃ i H', Inv (X.blk s3 H3 scope ce fp) [] (wipe σ (own.map (·.2))) H' s' ∧ tn i s'.heap ∧ (∀ b ∈ fp, H' b = none) ∧ W i n H') ?_ m0 ⟨0, H3, I4, st4, nfp, w0⟩
    rintro n s5 ⟨i, H5, I5, st5, n5, w5⟩
    rcases turn i n H5 w5 with ⟨stop, qq⟩ | ⟨go, Nx, hNx, step⟩
    · have td := T.done (X.blk s3 H3 scope ce fp) rfl rfl rfl hc i [] s5 _ H5 (fun _ _ => False) I5 (stat I5 n5) st5 stop
      refine thnF td fun r s6 ⟨hr, I6⟩ => ?_
      subst hr
      have I7 : Inv X pins σ H5 s6 := I3.call' (ch := fp) I6.os I6.base I6.hok I6.bare fun b hb => ⟨(f3 b hb).1.2.2.2.1, (f3 b hb).1.2.1, (f3 b hb).1.2.2.2.2.1, (f3 b hb).1.2.2.2.2.2⟩
      have nC : H5 s3.heap.objs.size = none := by
        have z : H5 ce.locals = none := I6.free
        rw [cL] at z
        exact z
      obtain ⟨m, hn, _⟩ := I6.loc
      have hn : s6.heap.Ns ce.locals m := hn
      rw [cL] at hn
      exact hRR D s3.heap.objs.size s6 m H5 I7 qq hn (I3.fpOk (Nat.le_refl _) nC)
    · have ti := T.item (X.blk s3 H3 scope ce fp) rfl rfl rfl hc i [] s5 _ H5 (fun _ _ => False) I5 (stat I5 n5) st5 go
      refine thnF ti fun r s6 ⟨u, hr, h6⟩ => ?_
      subst hr
      refine thnF h6 fun _ s7 ⟨x, H7, I7, r7, y7, st7, n7⟩ => ?_
      have I7' := I7.pinned (stat I7 n7) (T.obj _ _ st7)
      refine thnF (pg _ s7 _ H7 x u _ I7' r7 (step x H7 y7)) fun _ s8 ⟨σ8, H8, I8, hw8, q8⟩ => ?_
      refine thnF (pt _ s8 σ8 H8 _ I8 q8) fun b s9 ⟨H9, I9, q9⟩ => ?_
      have fin : ∀ {s' : Shared} {H' : Hp}, Inv (X.blk s3 H3 scope ce fp) ([] ++ pinsAt fp s7.heap) σ8 H' s' → Nx H' → ∃ m, m < n ∧ ∃ i H', Inv (X.blk s3 H3 scope ce fp) [] (wipe σ (own.map (·.2))) H' s' ∧ tn i s'.heap ∧ (∀ b ∈ fp, H' b = none) ∧ W i m H' := fun {s' H'} I' nx => by
        obtain ⟨m', hm, w'⟩ := hNx H' nx
        have pin' : ∀ b ∈ fp, ∀ o, s7.heap.get? b = some o → s'.heap.get? b = some o ∧ H' b = none := fun b hb o e =>
          let z := I'.pin (b, o) (List.mem_append_right _ (List.mem_append_right _ (mem_pinsAt hb e)))
          ⟨z.1, z.2.1⟩
        have hl : (wipe σ (own.map (·.2))).length = σ8.length := by rw [← hw8, wipe_length]
        refine ⟨m', hm, i + 1, H', (I'.unpinned (pins := [])).weak hl (fun j v e => ?_), T.keep _ _ _ st7 fun b hb o e => (pin' b hb o e).1, fun b hb => ?_, w'⟩
        · rw [← hw8] at e
          exact (wipe_some e).1
        · obtain ⟨o, e, _⟩ := T.obj _ _ st7 b hb
          exact (pin' b hb o e).2
      cases b with
      | false =>
        simp only [Bool.false_eq_true, if_false] at q9 ⊢
        exact fin I9 q9
      | true =>
        simp only [if_true] at q9 ⊢
        refine thnF (pe _ s9 σ8 H9 _ I9 q9) fun z s10 ⟨yv, H10, I10, r10, acc, hD10, hz10, nx⟩ => ?_
        exact app_ok (X := X.blk s3 H3 scope ce fp) I10 hD10 hz10 r10 fun s11 I11 => fin I11 nx
  exact codeAny_compStart_list loop (T.self X.A 0 _ _ _ st4 loop)
theorem pe_lc {elt tg iter : Expr} {ifs : List Expr} {scope : Scope} {own : List (Str × Nat)} {pos : Pos} {wi : TI} {g : TG} {tt : TT} {te : TE} (hc : X.calm = true) (hN : X.N.Nodup) (hi : PI X tg iter wi) (ok : BlkOk X.N X.env.scope scope own)
    (hg : ∀ (s : Shared) (H : Hp) (C : Addr) (cl : List (Str × Addr)) (fp : List Addr), PG (X.blk s H scope (compEnvC scope cl C X.env) fp) tg g) (ht : ∀ (s : Shared) (H : Hp) (C : Addr) (cl : List (Str × Addr)) (fp : List Addr), PTs (X.blk s H scope (compEnvC scope cl C X.env) fp) ifs tt)
    (he : ∀ (s : Shared) (H : Hp) (C : Addr) (cl : List (Str × Addr)) (fp : List Addr), PE (X.blk s H scope (compEnvC scope cl C X.env) fp) elt te) (hs : ∀ x, foldedSetIterable iter X.env x = pure x := by intro _; rfl) :
    PE X (.ListComp elt [⟨tg, iter, ifs, 0⟩] scope pos) (tLc wi g tt te (own.map (·.2))) := by
  intro pins s σ H Q I h
  rw [eval_ListComp]
  refine lc_core hc hN I hi ok hg ht he hs h fun D C s' m H' I' q hn f => ⟨m, hn, fun h'' sb => ?_⟩
  obtain ⟨f0, f1, f2, f3, f4, f5⟩ := f
  exact ⟨.ref D, H', I'.turned (t' := s'.toks) (fun b o hb e => (sb.2 b hb).trans e) f0 f1 f3 f4 f5, rfl, q⟩
theorem ps_setLc {i : Nat} {y : Str} {py : Pos} {elt tg iter : Expr} {ifs : List Expr} {scope : Scope} {own : List (Str × Nat)} {pos spos : Pos} {wi : TI} {g : TG} {tt : TT} {te : TE} (hc : X.calm = true) (hN : X.N.Nodup) (hy : X.N[i]? = some y) (hyl : X.env.scope.names.lookup y = some .local)
    (hsw : swapsWith (.ListComp elt [⟨tg, iter, ifs, 0⟩] scope pos) (some (.Name y py)) spos.line X.env = pure true) (hi : PI X tg iter wi) (ok : BlkOk X.N X.env.scope scope own)
    (hg : ∀ (s : Shared) (H : Hp) (C : Addr) (cl : List (Str × Addr)) (fp : List Addr), PG (X.blk s H scope (compEnvC scope cl C X.env) fp) tg g) (ht : ∀ (s : Shared) (H : Hp) (C : Addr) (cl : List (Str × Addr)) (fp : List Addr), PTs (X.blk s H scope (compEnvC scope cl C X.env) fp) ifs tt)
    (he : ∀ (s : Shared) (H : Hp) (C : Addr) (cl : List (Str × Addr)) (fp : List Addr), PE (X.blk s H scope (compEnvC scope cl C X.env) fp) elt te) (hs : ∀ x, foldedSetIterable iter X.env x = pure x := by intro _; rfl) :
    PS X (.Assign [.Name y py] (.ListComp elt [⟨tg, iter, ifs, 0⟩] scope pos) spos) (tAsg (tLc wi g tt te (own.map (·.2))) (gName i)) := by
  intro pins s σ H D I h
  rw [exec_Assign_Name_used _ _ _ _ hsw]
  refine wpAny_bind (wpAny_standAt (wpAny_bind ?_))
  show wpAny _ X.A (do let _ ← comprehension (.ListComp elt [⟨tg, iter, ifs, 0⟩] scope pos) scope X.env (firstIterPos [⟨tg, iter, ifs, 0⟩] pos) (newList []) false (eval iter X.env) (some (assign (.Name y py) X.env))) _ _ s
  have h : tLc wi g tt te (own.map (·.2)) σ H (fun x H1 => gName i x σ H1 D.nx) := h
  refine wpAny_bind (thn (lc_core (Qf := fun _ s' => SP X pins D .next s') hc hN I hi ok hg ht he hs h fun L C s' m H' I' q hn f => ?_) fun _ s' hq => wpAny_pure (wpAny_pure hq))
  show wpAny _ _ (assign (.Name y py) X.env (.ref L)) _ _ _
  refine wpAny_assign_Name (store_ok2 (v := V.ref L) I' hN hy (.inl hyl) rfl (fun s2 I2 ⟨a, sb, ha⟩ => ?_) (.inr hyl))
  obtain ⟨f0, f1, f2, f3, f4, f5⟩ := f
  have haC : C ≠ a := by
    rcases ha with z | z
    · rw [z]; exact f1
    · exact fun e => f4 y a z e.symm
  refine ⟨m, hn.sameBut sb haC, fun h3 sb3 => ?_⟩
  exact ⟨_, H', I2.turned (t' := s2.toks) (fun b o hb e => (sb3.2 b hb).trans e) f0 f1 f3 f4 f5, q⟩
theorem sw_true {elt : Expr} {gs : List Comprehension} {scope : Scope} {pos py : Pos} {y : Str} {l : Nat} {env : Env} (hk : env.scope.kind = .function) (hy : env.scope.names.lookup y = some .local) (hl : (py.line == pos.line) = true)
    (ha : (scope.names.any fun (n, k) => n == y && (k == .local || k == .cell)) = false) : swapsWith (.ListComp elt gs scope pos) (some (.Name y py)) l env = pure true := by
  have ky : env.kindOf y = some .local := hy
  have hb : env.blockKind = .function := by unfold Env.blockKind; rw [hk]; rfl
  unfold swapsWith
  simp only [hb, ky, ha, Expr.pos, hl]
  rfl
end
def blkC (N : List Str) (sc scope : Scope) (own : List (Str × Nat)) : Bool :=
  (match scope.kind with | .function => true | _ => false) && (scope.names.all fun y => decide (scope.names.lookup y.1 = some y.2)) && (own.all fun p => decide (N[p.2]? = some p.1)) &&
    (scope.names.all fun y => match y.2 with
      | .free => (match sc.names.lookup y.1 with | some .cell => true | some .free => true | _ => false)
      | .local => decide (y.1 ∈ own.map (·.1)) || decide (y.1 ∉ N)
      | .cell => decide (y.1 ∈ own.map (·.1)) || decide (y.1 ∉ N)
      | _ => true)
theorem blkOk_by {N : List Str} {sc scope : Scope} {own : List (Str × Nat)} (h : blkC N sc scope own = true) : BlkOk N sc scope own := by
  unfold blkC at h
  simp only [Bool.and_eq_true, List.all_eq_true, decide_eq_true_eq] at h
  obtain ⟨⟨⟨h1, h2⟩, h3⟩, h4⟩ := h
  refine ⟨?_, h2, h3, fun y hy e => ?_, fun y hy e => ?_⟩
  · split at h1
    · assumption
    · cases h1
  · have q := h4 y hy
    simp only [e] at q
    split at q <;> first | exact .inl (by assumption) | exact .inr (by assumption) | cases q
  · have q := h4 y hy
    rcases e with e | e <;> (simp only [e, Bool.or_eq_true, decide_eq_true_eq] at q; exact q)
end L2
namespace L2
open PySem PySem.Spec PyProof.Rows
section
variable {prog : Program} {w : World} {A : Around} {R : Result → Shared → Prop} {s : Shared} {elt t0 i0 t1 i1 : Expr} {ifs0 ifs1 : List Expr} {scope : Scope} {pos : Pos} {it acc : Value} {env : Env}
end
theorem wipe_out {σ : St} {i : Nat} : ∀ {vs : List Nat}, i ∉ vs → (wipe σ vs)[i]? = σ[i]?
  | [], _ => rfl
  | v :: vs, h => by
    have h1 : v ≠ i := fun e => h (by rw [e]; exact List.mem_cons_self)
    have h2 : i ∉ vs := fun m => h (List.mem_cons_of_mem _ m)
    unfold wipe
    rw [List.getElem?_set_ne h1]
    exact wipe_out h2
section
variable {X : Cx}
end
end L2
namespace L2
open PySem PySem.Spec PyProof.Rows
section
variable {κ : Type} [DecidableEq κ]
def valV (kvs : List (κ × V)) (k : κ) : Option V := (kvs.find? fun kv => decide (kv.1 = k)).map (·.2)
def putK (kvs : List (κ × V)) (k : κ) (v : V) : List (κ × V) :=
  if (kvs.any fun kv => decide (kv.1 = k)) = true then kvs.map (fun kv => if kv.1 = k then (kv.1, v) else kv) else kvs ++ [(k, v)]
def dropK (kvs : List (κ × V)) (k : κ) : List (κ × V) := kvs.filter fun kv => decide (kv.1 ≠ k)
theorem valV_pos {p : κ × V} {r : List (κ × V)} {k : κ} (e : p.1 = k) : valV (p :: r) k = some p.2 := by simp [valV, List.find?_cons, e]
theorem valV_neg {p : κ × V} {r : List (κ × V)} {k : κ} (e : ¬ p.1 = k) : valV (p :: r) k = valV r k := by simp [valV, List.find?_cons, e]
theorem valV_any (k : κ) : ∀ kvs : List (κ × V), (kvs.any fun kv => decide (kv.1 = k)) = (valV kvs k).isSome
  | [] => rfl
  | p :: r => by
    rw [List.any_cons]
    by_cases e : p.1 = k
    · simp only [valV_pos e, decide_eq_true e, Bool.true_or, Option.isSome_some]
    · rw [valV_neg e, decide_eq_false e, Bool.false_or]; exact valV_any k r
theorem RelO.isSome_eq {o : Option V} {u : Option Value} (r : RelO o u) : o.isSome = u.isSome := by
  cases o with
  | none => cases u with
    | none => rfl
    | some _ => exact (show False from r).elim
  | some _ => cases u with
    | none => exact (show False from r).elim
    | some _ => rfl
theorem RelO.getD {o : Option V} {u : Option Value} {d : V} {d' : Value} (r : RelO o u) (rd : RelV d d') : RelV (o.getD d) (u.getD d') := by
  cases o with
  | none => cases u with
    | none => exact rd
    | some _ => exact (show False from r).elim
  | some _ => cases u with
    | none => exact (show False from r).elim
    | some _ => exact r
theorem KV.val {kvs : List (κ × V)} {vs : List (κ × Value)} (r : KV kvs vs) (k : κ) : RelO (valV kvs k) (valueAt vs k) := by
  unfold KV at r
  induction r with
  | nil => exact True.intro
  | @cons p q ps qs h t ih =>
    obtain ⟨h1, h2⟩ := h
    by_cases e : p.1 = k
    · have e' : q.1 = k := h1.symm.trans e
      have b : valueAt (q :: qs) k = some q.2 := by simp [valueAt, List.find?_cons, e']
      rw [valV_pos e, b]; exact h2
    · have e' : ¬ q.1 = k := fun z => e (h1.trans z)
      have b : valueAt (q :: qs) k = valueAt qs k := by simp [valueAt, List.find?_cons, e']
      rw [valV_neg e, b]; exact ih
theorem KV.any {kvs : List (κ × V)} {vs : List (κ × Value)} (r : KV kvs vs) (k : κ) : (kvs.any fun kv => decide (kv.1 = k)) = vs.any fun kv => decide (kv.1 = k) := by
  unfold KV at r
  induction r with
  | nil => rfl
  | cons h t ih => rw [List.any_cons, List.any_cons, ih, h.1]
theorem KV.repl {kvs : List (κ × V)} {vs : List (κ × Value)} (r : KV kvs vs) (k : κ) {y : V} {u : Value} (ry : RelV y u) :
    KV (kvs.map fun kv => if kv.1 = k then (kv.1, y) else kv) (vs.map fun kv => if kv.1 = k then (kv.1, u) else kv) := by
  unfold KV at r ⊢
  induction r with
  | nil => exact .nil
  | @cons p q ps qs h t ih =>
    rw [List.map_cons, List.map_cons]
    refine .cons ?_ ih
    obtain ⟨h1, h2⟩ := h
    by_cases e : p.1 = k
    · rw [if_pos e, if_pos (h1.symm.trans e)]; exact ⟨h1, ry⟩
    · rw [if_neg e, if_neg (fun z => e (h1.trans z))]; exact ⟨h1, h2⟩
theorem KV.put {kvs : List (κ × V)} {vs : List (κ × Value)} (r : KV kvs vs) (k : κ) {y : V} {u : Value} (ry : RelV y u) : KV (putK kvs k y) (stored vs k u) := by
  unfold putK stored
  rw [r.any k]
  by_cases e : (vs.any fun kv => decide (kv.1 = k)) = true
  · rw [if_pos e, if_pos e]; exact r.repl k ry
  · rw [if_neg e, if_neg e]; exact Paired.snoc r ⟨rfl, ry⟩
theorem KV.drop {kvs : List (κ × V)} {vs : List (κ × Value)} (r : KV kvs vs) (k : κ) : KV (dropK kvs k) (without vs k) := by
  unfold KV at r ⊢
  unfold dropK without
  induction r with
  | nil => exact .nil
  | @cons p q ps qs h t ih =>
    obtain ⟨h1, h2⟩ := h
    rw [List.filter_cons, List.filter_cons]
    by_cases e : p.1 = k
    · have a : ¬ decide (p.1 ≠ k) = true := by simp [e]
      have b : ¬ decide (q.1 ≠ k) = true := by simp [h1.symm.trans e]
      rw [if_neg a, if_neg b]; exact ih
    · have e' : ¬ q.1 = k := fun z => e (h1.trans z)
      have a : decide (p.1 ≠ k) = true := by simp [e]
      have b : decide (q.1 ≠ k) = true := by simp [e']
      rw [if_pos a, if_pos b]; exact .cons ⟨h1, h2⟩ ih
theorem KV.length {kvs : List (κ × V)} {vs : List (κ × Value)} (r : KV kvs vs) : kvs.length = vs.length := Paired.length r
end
abbrev KT (H : Hp) : List (List Key × V) → List (List Key × Addr × Value) → Prop := Paired fun p q => p.1 = q.1 ∧ H q.2.1 = some (.tup (p.1.map kV)) ∧ RelV p.2 q.2.2
theorem KT.val {H : Hp} {kvs : List (List Key × V)} {xs : List (List Key × Addr × Value)} (r : KT H kvs xs) (k : List Key) : RelO (valV kvs k) ((atKey xs k).map (·.2)) := by
  induction r with
  | nil => exact True.intro
  | @cons p q ps qs h t ih =>
    obtain ⟨h1, _, h2⟩ := h
    by_cases e : p.1 = k
    · have e' : q.1 = k := h1.symm.trans e
      have b : atKey (q :: qs) k = some q.2 := by simp [atKey, List.find?_cons, e']
      rw [valV_pos e, b]; exact h2
    · have e' : ¬ q.1 = k := fun z => e (h1.trans z)
      have b : atKey (q :: qs) k = atKey qs k := by simp [atKey, List.find?_cons, e']
      rw [valV_neg e, b]; exact ih
theorem KT.repl {H : Hp} {kvs : List (List Key × V)} {xs : List (List Key × Addr × Value)} (r : KT H kvs xs) (k : List Key) {y : V} {u : Value} (ry : RelV y u) :
    KT H (kvs.map fun kv => if kv.1 = k then (kv.1, y) else kv) (xs.map (putAt k u)) := by
  induction r with
  | nil => exact .nil
  | @cons p q ps qs h t ih =>
    rw [List.map_cons, List.map_cons]
    refine .cons ?_ ih
    obtain ⟨h1, h2, h3⟩ := h
    unfold putAt
    by_cases e : p.1 = k
    · rw [if_pos e, if_pos (h1.symm.trans e)]; exact ⟨h1, h2, ry⟩
    · rw [if_neg e, if_neg (fun z => e (h1.trans z))]; exact ⟨h1, h2, h3⟩
theorem KT.put {H : Hp} {kvs : List (List Key × V)} {xs : List (List Key × Addr × Value)} (r : KT H kvs xs) (k : List Key) {b : Addr} {y : V} {u : Value} (hb : H b = some (.tup (k.map kV))) (ry : RelV y u) :
    KT H (putK kvs k y) (storedH xs k b u) := by
  have e : (kvs.any fun kv => decide (kv.1 = k)) = (atKey xs k).isSome := by
    rw [valV_any, (r.val k).isSome_eq, Option.isSome_map]
  unfold putK storedH
  rw [e]
  by_cases q : (atKey xs k).isSome = true
  · rw [if_pos q, if_pos q]; exact r.repl k ry
  · rw [if_neg q, if_neg q]; exact Paired.snoc r ⟨rfl, hb, ry⟩
theorem KT.keeps {H H' : Hp} {kvs : List (List Key × V)} {xs : List (List Key × Addr × Value)} (r : KT H kvs xs) (ht : ∀ b ys, H b = some (.tup ys) → H' b = some (.tup ys)) : KT H' kvs xs :=
  Paired.mapP r fun _ _ z => ⟨z.1, ht _ _ z.2.1, z.2.2⟩
section
variable {P : Program} {w : World} {H : Hp} {h : Heap} {a : Addr}
end
def DGet (H : Hp) (a : Addr) (y : V) (r : Option V) : Prop :=
  (∃ kvs k, Rd H a (.dK kvs) ∧ y = kV k ∧ r = valV kvs k) ∨ ∃ kvs k b, Rd H a (.dT kvs) ∧ y = .ref b ∧ H b = some (.tup (k.map kV)) ∧ r = valV kvs k
def DPut (H : Hp) (a : Addr) (y v : V) (H' : Hp) : Prop :=
  (∃ kvs k, H a = some (.dK kvs) ∧ y = kV k ∧ kvs.length < sizeLine ∧ H' = upd H a (.dK (putK kvs k v))) ∨
  ∃ kvs k b, H a = some (.dT kvs) ∧ y = .ref b ∧ H b = some (.tup (k.map kV)) ∧ kvs.length < sizeLine ∧ H' = upd H a (.dT (putK kvs k v))
theorem DGet.k {H : Hp} {a : Addr} {kvs : List (Key × V)} {k : Key} (e : H a = some (.dK kvs)) : DGet H a (kV k) (valV kvs k) := .inl ⟨kvs, k, .inl e, rfl, rfl⟩
theorem DGet.t {H : Hp} {a b : Addr} {kvs : List (List Key × V)} {k : List Key} (e : H a = some (.dT kvs)) (eb : H b = some (.tup (k.map kV))) : DGet H a (.ref b) (valV kvs k) := .inr ⟨kvs, k, b, .inl e, rfl, eb, rfl⟩
theorem DPut.k {H : Hp} {a : Addr} {kvs : List (Key × V)} {k : Key} {v : V} (e : H a = some (.dK kvs)) (hl : kvs.length < sizeLine) : DPut H a (kV k) v (upd H a (.dK (putK kvs k v))) := .inl ⟨kvs, k, e, rfl, hl, rfl⟩
theorem DPut.t {H : Hp} {a b : Addr} {kvs : List (List Key × V)} {k : List Key} {v : V} (e : H a = some (.dT kvs)) (eb : H b = some (.tup (k.map kV))) (hl : kvs.length < sizeLine) :
    DPut H a (.ref b) v (upd H a (.dT (putK kvs k v))) := .inr ⟨kvs, k, b, e, rfl, eb, hl, rfl⟩
section
variable {X : Cx} {pins : List (Addr × Obj)} {σ : St} {H : Hp} {s : Shared} {a : Addr} {y v : V} {u r : Value} {o : Option V} {A : Around} {E : Value → Shared → Prop}
theorem Inv.big (I : Inv X pins σ H s) : sysModules < s.heap.objs.size := by
  have h : mainGlobals < s.heap.objs.size := (I.mod.glob.keeps I.bk).lt
  exact Nat.lt_trans (by decide) h
end
section
variable {X : Cx} {pins : List (Addr × Obj)} {σ : St} {H : Hp} {s : Shared} {a : Addr} {kvs : List (Key × V)} {k : Key} {u : Value} {A : Around} {E : Value → Shared → Prop}
end
section
variable {X : Cx} {o i e value : Expr} {pos pos' tpos : Pos} {td ty tv : TE}
end
section
variable {X : Cx} {pos : Pos}
end
def tPairs : List (TE × TE) → St → Hp → (List (V × V) → Hp → Prop) → Prop
  | [], _, H, Q => Q [] H
  | (tk, tv) :: r, σ, H, Q => tk σ H fun x H1 => tv σ H1 fun y H2 => tPairs r σ H2 fun ps H3 => Q ((x, y) :: ps) H3
structure M1 (X : Cx) (o : Expr) (m : Str) (apos : Pos) (e : Expr) (cpos : Pos) : Prop where
  base : attributeBase o m X.env (eval o X.env) = eval o X.env
  few : ((backTo cpos (starEach [e] X.env)).all (fun x => !x.1) && (backToKw cpos (keywordEach [] X.env)).all (fun x => x.1.isSome)
    && decide (([e] : List Expr).length + ([] : List Keyword).length + (if ([] : List Keyword).isEmpty then 0 else 1) < 30)) = true
  line : (apos.endLine == cpos.line) = true
  trees : backTo cpos (starEach [e] X.env) = [(false, eval e X.env)]
structure M2 (X : Cx) (o : Expr) (m : Str) (apos : Pos) (e f : Expr) (cpos : Pos) : Prop where
  base : attributeBase o m X.env (eval o X.env) = eval o X.env
  few : ((backTo cpos (starEach [e, f] X.env)).all (fun x => !x.1) && (backToKw cpos (keywordEach [] X.env)).all (fun x => x.1.isSome)
    && decide (([e, f] : List Expr).length + ([] : List Keyword).length + (if ([] : List Keyword).isEmpty then 0 else 1) < 30)) = true
  line : (apos.endLine == cpos.line) = true
  trees : backTo cpos (starEach [e, f] X.env) = [(false, eval e X.env), (false, eval f X.env)]
section
variable {X : Cx} {pins : List (Addr × Obj)} {σ : St} {H : Hp} {s : Shared} {a : Addr} {y d : V} {u r : Value} {o : Option V} {A : Around} {E : Value → Shared → Prop}
end
section
variable {X : Cx} {o e f : Expr} {apos cpos : Pos} {td ty tx : TE}
end
section
variable {X : Cx} {pins : List (Addr × Obj)} {σ : St} {H : Hp} {s : Shared} {a : Addr} {kvs : List (Key × V)} {A : Around} {E : Value → Shared → Prop}
end
section
variable {X : Cx} {pins : List (Addr × Obj)} {σ : St} {H : Hp} {s : Shared} {a : Addr} {y : V} {u : Value} {A : Around} {E : Value → Shared → Prop}
end
end L2
namespace L2
open PySem PySem.Spec PyProof.Rows
section
variable {prog : Program} {w : World} {A : Around} {E : Value → Shared → Prop}
end
section
variable {X : Cx}
end
end L2
namespace L2
open PySem PySem.Spec PyProof.Rows
section
variable {X : Cx} {pins : List (Addr × Obj)} {σ : St} {H : Hp} {s : Shared} {h' : Heap}
theorem Inv.turnedNew {t' : Nat} {ch : List Addr} {T : Addr} {ob : HO} (I : Inv X pins σ H s) (k : ∀ b o, b ∉ ch → s.heap.get? b = some o → h'.get? b = some o) (hf : ∀ b ∈ ch, FpOk X pins H b) (hT : s.heap.objs.size ≤ T)
    (new : ObjOk X.prog X.w (upd H T ob) h' T ob) : Inv X pins σ (upd H T ob) { s with heap := h', toks := t' } := by
  have hn : H T = none := I.hok.fresh hT
  have nit : ∀ b u, H b = some u → b ∉ ch := fun b u e z => by
    have q := (hf b z).1
    rw [q] at e; cases e
  refine I.step (g' := s.gens) (d' := s.drawn) (ch := ch) (fun b hb => ⟨(hf b hb).2.2.2.1, (hf b hb).2.1, (hf b hb).2.2.2.2.1, (hf b hb).2.2.2.2.2⟩) (fun b o _ _ hc e _ => k b o hc e) (fun b o _ _ hc e _ => ⟨o.slots, k b o hc e⟩)
    (fun b o _ e n => ?_) (fun b o hc e => ⟨o, k b o hc e⟩) (fun b xs e => ?_) (fun b o u e => ?_) (fun b ps e => ⟨#[], ?_⟩) (fun m hm => ?_) (fun b u e => ?_) I.bare
  · rw [upd_ne (Nat.ne_of_lt (Nat.lt_of_lt_of_le (Heap.lt_size e) hT))]; exact n
  · rw [upd_ne (ne_of_none e hn)]; exact e
  · rw [upd_ne (ne_of_none e hn)]; exact e
  · rw [upd_ne (ne_of_none e hn), e]; simp
  · obtain ⟨o, es, ep, ho, r⟩ := hm
    exact ⟨o, es, ep, k _ o (fun z => (hf _ z).2.1 rfl) ho, r⟩
  · by_cases hb : b = T
    · subst hb
      rw [upd_same] at e
      cases e
      exact new
    · rw [upd_ne hb] at e
      refine (I.hok b u e).stay (fun c v hc q => k c v ?_ q) (fun c q => by rw [upd_ne (ne_of_none q hn)]; exact q) fun c xs q => by rw [upd_ne (ne_of_none q hn)]; exact q
      rcases hc with z | z
      · rw [z]; exact nit b u e
      · exact nit c _ z
end
section
variable {X : Cx}
theorem pi_one {tg : Expr} {pins : List (Addr × Obj)} {σ : St} {H : Hp} {s : Shared} {R : It → Hp → Prop} {J : It} {tn : Nat → Heap → Prop} {tk : Nat} (I : Inv X pins σ H s) (o : Obj)
    (T : Turn X.prog X.w X.K tg J [s.heap.objs.size] s.heap.objs.size tn) (st : tn 0 (s.heap.push o)) (q : R J H) : PIE X pins σ tg R (.ref s.heap.objs.size) { s with heap := s.heap.push o, toks := tk } := by
  refine ⟨s.heap.objs.size, [s.heap.objs.size], tn, J, H, rfl, I.kept fun b ob e => Heap.get?_push_of_some _ e, T, st, fun b hb => ?_, q⟩
  have e : b = s.heap.objs.size := by simpa using hb
  subst e
  exact I.fpOk (Nat.le_refl _) (I.hok.fresh (Nat.le_refl _))
end
def RgC (i j c : Int) (n : Nat) : Prop := c ≠ 0 ∧ c.natAbs < 1073741824 ∧ Builtin.Range.small i j c = true ∧ Builtin.Range.rangeSize i j c = n
theorem RgC.neg {i j : Int} (ha : -(2 ^ 62) ≤ i) (ha' : i < 2 ^ 62) (hb : -(2 ^ 62) ≤ j) (hb' : j < 2 ^ 62) : RgC i j (-1) (i - j).toNat :=
  ⟨by decide, by decide, PySem.W.small_down ha ha' hb hb', PySem.W.rangeSize_downNat i j⟩
section
variable {X : Cx} {tg : Expr}
end
section
variable {X : Cx} {tg : Expr}
end
def Its (x : Str) : It := ⟨fun i _ => i < x.cps.size, fun i H v H' => H' = H ∧ ∃ c, x.cps[i]? = some c ∧ v = .str ⟨#[c]⟩, fun i _ => x.cps.size ≤ i⟩
theorem turn_str {P : Program} {w : World} {K : PySem.W.Frag} {tg : Expr} (it : Addr) (x : Str) (t : Tok) (ty : String) (hty : ty = "str_ascii_iterator" ∨ ty = "str_iterator") :
    Turn P w K tg (Its x) [it] it (fun i h => h.IsStrIter it ty x t i) where
  mem := by simp
  obj := fun i h st b hb => by
    have e : b = it := by simpa using hb
    subst e
    obtain ⟨o, e, c, d⟩ := st
    exact ⟨o, e, fun v z => by rw [d] at z; cases z⟩
  keep := fun i h h' st k => let ⟨o, ho, r⟩ := st; ⟨o, k it (by simp) o ho, r⟩
  item := by
    intro X hP hw hK hc i pins s σ H E I hf st hg
    subst hP hw hK
    obtain ⟨f0, f1, f2, f3, f4, f5⟩ := hf it (by simp)
    have W : Walks X.prog X.w X.A it [it] [it] x.cps.size (SignAt x) (fun i h => h.IsStrIter it ty x t i) := by
      rcases hty with e | e
      · rw [e]; exact Walks.strAscii (I.ok.hd hc) it x t
      · rw [e]; exact Walks.strWide (I.ok.hd hc) it x t
    have hno : ["enumerate", "zip", "dict_itemiterator", "dict_reverseitemiterator", "odict_iterator", "itertools.zip_longest", "itertools.pairwise"].contains ty = false := by
      rcases hty with e | e
      · rw [e]; decide
      · rw [e]; decide
    refine W.item i s _ _ hg st fun v h' tk hv st' kk => ?_
    obtain ⟨c, u, hcx, rfl⟩ := hv
    have I1 : Inv X pins σ H { s with heap := h', toks := tk } := I.turned (fun b o hb e => kk b o (by simpa using hb) e) f0 f1 f3 f4 f5
    obtain ⟨oi, e, cc, dd⟩ := id st'
    exact ⟨_, rfl, go_of (s := { s with heap := h', toks := tk }) e cc dd hno ⟨.str ⟨#[c]⟩, H, I1, ⟨u, rfl⟩, ⟨rfl, c, hcx, rfl⟩, st', fun b hb => (hf b hb).1⟩⟩
  done := by
    intro X hP hw hK hc i pins s σ H E I hf st hg
    subst hP hw hK
    obtain ⟨f0, f1, f2, f3, f4, f5⟩ := hf it (by simp)
    have hx : x.cps[i]? = none := Array.getElem?_eq_none hg
    rcases hty with e | e
    · rw [e] at st
      exact wpAny_pyNext_ascii_end (I.ok.hd hc) st hx fun h' eb => ⟨rfl, I.turned (t' := s.toks) (fun b o hb e => eb b o hb e) f0 f1 f3 f4 f5⟩
    · rw [e] at st
      exact wpAny_pyNext_wide_end (I.ok.hd hc) st hx fun h' eb => ⟨rfl, I.turned (t' := s.toks) (fun b o hb e => eb b o hb e) f0 f1 f3 f4 f5⟩
  self := fun A i s Q E st h => by
    rcases hty with e | e
    · rw [e] at st; exact wpAny_pyIter_striter_ascii st h
    · rw [e] at st; exact wpAny_pyIter_striter_wide st h
def iStr (te : TE) : TI := fun σ H R => te σ H fun v H1 => ∃ x, v = .str x ∧ R (Its x) H1
theorem pi_str {X : Cx} {tg e : Expr} {te : TE} (he : PE X e te) : PI X tg e (iStr te) := by
  intro pins s σ H R I h
  refine thn (he pins s σ H _ I h) fun v s1 ⟨y, H1, I1, r1, x, ex, q⟩ => ?_
  subst ex
  obtain ⟨t, rfl⟩ := r1
  cases ha : x.cps.all (· < 128)
  · exact wpAny_pyIter_wide ha (pi_one (tk := s1.toks) I1 _ (turn_str _ x t "str_iterator" (.inr rfl)) ⟨_, Heap.get?_push_size _ rfl, rfl, rfl⟩ q)
  · exact wpAny_pyIter_ascii ha (pi_one (tk := s1.toks) I1 _ (turn_str _ x t "str_ascii_iterator" (.inl rfl)) ⟨_, Heap.get?_push_size _ rfl, rfl, rfl⟩ q)
section
variable {prog : Program} {w : World} {A : Around} {E : Value → Shared → Prop} {s : Shared}
end
section
variable {X : Cx} {pins : List (Addr × Obj)} {σ : St} {H : Hp} {s : Shared} {d : Addr} {o : Obj}
end
section
variable {P : Program} {w : World} {K : PySem.W.Frag} {tg : Expr} {d : Addr} {o : Obj} {es : Array DictEntry} {ep : Nat}
end
section
variable {X : Cx} {tg e : Expr} {td : TE} {apos cpos : Pos}
end
def Ite (K : PySem.W.Frag) (a : Addr) : It :=
  ⟨fun i H => ∃ (xs : List V) (x : V), SqL K H a xs ∧ xs[i]? = some x, fun i H v H' => ∃ T x, v = .ref T ∧ H T = none ∧ H' = upd H T (.tup [.int (i : Nat), x]) ∧ ∀ xs, SqL K H a xs → xs[i]? = some x, fun i H => ∃ xs : List V, SqL K H a xs ∧ xs.length ≤ i⟩
theorem turn_enum {P : Program} {w : World} {K : PySem.W.Frag} {elts : List Expr} {kk : Nat} {tpos : Pos} (a e it : Addr) :
    Turn P w K (.Tuple elts kk tpos) (Ite K a) [e, it] e (fun i h => (∃ old, IsEnum h e it ((i : Nat) : Int) old) ∧ h.IsListIter it a i ∧ e ≠ it) where
  mem := by simp
  obj := fun i h st b hb => by
    obtain ⟨⟨old, he⟩, ⟨o, ho, hc, hd⟩, _⟩ := st
    have e' : b = e ∨ b = it := by simpa using hb
    rcases e' with z | z
    · rw [z]; exact ⟨_, he, fun v q => nomatch q⟩
    · rw [z]; exact ⟨o, ho, fun v q => by rw [hd] at q; cases q⟩
  keep := fun i h h' st k => let ⟨⟨old, he⟩, hi, hne⟩ := st; ⟨⟨old, k e (by simp) _ he⟩, hi.at fun o q => k it (by simp) o q, hne⟩
  item := by
    intro X hP hw hK hc i pins s σ H E I hf st hg
    subst hP hw hK
    obtain ⟨⟨old, he⟩, hit, hne⟩ := st
    obtain ⟨xs, x, hq, hx⟩ := hg
    obtain ⟨its, rv, p, hz⟩ := I.list hq
    obtain ⟨u, hu, ru⟩ := rv.get hx
    have hel : e < s.heap.objs.size := Heap.lt_size he
    have hil : it < s.heap.objs.size := by obtain ⟨_, q, _⟩ := hit; exact Heap.lt_size q
    refine wpAny_pyNext_enum_item he hit p.isList (x := u) (by simpa using hu) hne fun h' ho hit' hT hsz hk => ?_
    refine ⟨_, rfl, wpAny_letOwnedTupleGo_enum (s := { s with heap := h', toks := s.toks + 1 }) ho fun h'' he' sb => ?_⟩
    have hT2 : h''.get? s.heap.objs.size = some { cls := .type "tuple", data := .seq #[.int i s.toks, u] } := (sb.2 _ (Nat.ne_of_gt hel)).trans hT
    have new : ObjOk X.prog X.w (upd H s.heap.objs.size (.tup [.int (i : Nat), x])) h'' s.heap.objs.size (.tup [.int (i : Nat), x]) :=
      ⟨by show 2 ≤ sizeLine; decide, [.int i s.toks, u], .cons ⟨_, rfl⟩ (.cons ru .nil), ⟨_, hT2, rfl, _, rfl⟩⟩
    have I1 : Inv X pins σ (upd H s.heap.objs.size (.tup [.int (i : Nat), x])) { s with heap := h'', toks := s.toks + 1 } :=
      I.turnedNew (ch := [e, it]) (fun b ob hb q => (sb.2 b (fun z => hb (by simp [z]))).trans (hk b ob (fun z => hb (by simp [z])) (fun z => hb (by simp [z])) q)) hf (Nat.le_refl _) new
    refine ⟨.ref s.heap.objs.size, _, I1, rfl, ⟨_, x, rfl, I.hok.fresh (Nat.le_refl _), rfl, fun ys hy => by rw [I.list_inj hy hq]; exact hx⟩, ⟨⟨u, ?_⟩, hit'.at fun o q => (sb.2 it (Ne.symm hne)).trans q, hne⟩, fun b hb => ?_⟩
    · have e1 : ((i + 1 : Nat) : Int) = (i : Int) + 1 := by omega
      rw [e1]; exact he'
    · have hb' : b < s.heap.objs.size := by
        have e' : b = e ∨ b = it := by simpa using hb
        rcases e' with z | z
        · rw [z]; exact hel
        · rw [z]; exact hil
      rw [upd_ne (Nat.ne_of_lt hb')]
      exact (hf b hb).1
  done := by
    intro X hP hw hK hc i pins s σ H E I hf st hg
    subst hP hw hK
    obtain ⟨⟨old, he⟩, hit, hne⟩ := st
    obtain ⟨xs, hq, hx⟩ := hg
    obtain ⟨its, rv, p, hz⟩ := I.list hq
    obtain ⟨f0, f1, f2, f3, f4, f5⟩ := hf it (by simp)
    have hl := rv.length
    exact wpAny_pyNext_enum_end (I.ok.hd hc) he hit p.isList (by simp; omega) fun h' eb => ⟨rfl, I.turned (t' := s.toks) (fun b o hb q => eb b o hb q) f0 f1 f3 f4 f5⟩
  self := fun A i s Q E st h => let ⟨⟨_, he⟩, _⟩ := st; wpAny_pyIter_enum he h
def iEnum (K : PySem.W.Frag) (ta : TA) : TI := fun σ H R => ta σ H fun vs H1 => ∃ a xs, vs = [.ref a] ∧ SqL K H1 a xs ∧ R (Ite K a) H1
theorem pi_enum {X : Cx} {e : Expr} {ta : TA} {p pos tpos : Pos} {elts : List Expr} {kk : Nat} (hg : Gl X "enumerate") (hm : X.mg "enumerate" = none) (ha : PA X [e] ta) (hs : starEach [e] X.env = [(false, eval e X.env)] := by rfl) :
    PI X (.Tuple elts kk tpos) (.Call (.Name "enumerate" p) [e] [] pos) (iEnum X.K ta) := by
  intro pins s σ H R I h
  refine Call_ (ld_blt I hg hm boot_enumerate (PyProof.Rows.callWith_type1 (thn (ha pos pins s σ H _ I h) fun us s1 ⟨vs, H1, I1, r1, q1⟩ => ?_) hs rfl))
  obtain ⟨a, xs, ex, hq, q⟩ := q1
  subst ex
  cases r1 with
  | cons r rr =>
    cases rr
    cases r
    obtain ⟨its, rv, p', hz⟩ := I1.list hq
    refine call_enumerate_list p'.isList fun h' he hit hsz hk => wpAny_pyIter_enum he ?_
    have I2 : Inv X pins σ H1 { s1 with heap := h' } := I1.kept (t' := s1.toks) hk
    refine ⟨s1.heap.objs.size + 1, [s1.heap.objs.size + 1, s1.heap.objs.size], _, _, H1, rfl, I2, turn_enum a (s1.heap.objs.size + 1) s1.heap.objs.size, ⟨⟨.none, he⟩, hit, Nat.succ_ne_self _⟩, fun b hb => ?_, q⟩
    have e' : b = s1.heap.objs.size + 1 ∨ b = s1.heap.objs.size := by simpa using hb
    have hle : s1.heap.objs.size ≤ b := by
      rcases e' with z | z
      · rw [z]; exact Nat.le_add_right _ _
      · rw [z]; exact Nat.le_refl _
    exact I1.fpOk hle (I1.hok.fresh hle)
end L2
section 
namespace Bits
open PySem PyProof.Rows
end Bits
end 
section 
namespace TL
open PySem PySem.Builtin PySem.Builtin.Str PySem.StrLaws
abbrev tl (x : Str) : List Nat := x.cps.toList
theorem tl_mk (l : List Nat) : tl ⟨l.toArray⟩ = l := rfl
def pre (S l : List Nat) : Bool := l.take S.length == S
def par (S : List Nat) : List Nat → List Nat → Option (List Nat × List Nat)
  | _, [] => none
  | acc, c :: r => if pre S (c :: r) = true then some (acc, (c :: r).drop S.length) else par S (acc ++ [c]) r
theorem join_eq (y : Str) (parts : List Str) : Txt.join y parts = Str.join y parts := glued_eq_join y parts
end TL
end 
namespace L2
open PySem PySem.Spec PyProof.Rows
theorem strs_of_vals : ∀ {ys : List Str} {us : List Value}, Vals (ys.map V.str) us → StrsAre us ys
  | [], _, .nil => .nil
  | y :: ys, _, .cons r t => by
    obtain ⟨k, rfl⟩ := r
    exact .cons y k (strs_of_vals t)
section
variable {X : Cx} {pins : List (Addr × Obj)} {σ : St} {H : Hp} {s : Shared} {Q : VK}
end
section
variable {X : Cx}
theorem mt_join : MtR X "str.join" (fun x xs H Q => ∃ a p, ∃ ys : List Str, x = .str a ∧ xs = [.ref p] ∧ (SqL X.K H p (ys.map V.str) ∨ SqT X.K H p (ys.map V.str)) ∧
    (ys.map (·.length)).sum + ys.length * a.length ≤ 16777216 ∧ Q (.str (Txt.join a ys)) H) := by
  intro pins s σ H x xs v us Q I rx rs h
  obtain ⟨a, p, ys, rfl, rfl, hp, hz, h⟩ := h
  obtain ⟨t, rfl⟩ := rx
  cases rs with
  | cons r1 rs =>
    cases rs
    cases r1
    rcases hp with hp | hp
    · obtain ⟨its, r, ⟨o, n, ho, hc, _, hd⟩, _⟩ := I.list hp
      exact PyProof.Rows.join_list (items := its.toArray) ⟨o, ho, hc, n, hd⟩ (by rw [List.toList_toArray]; exact strs_of_vals r) hz fun t' k => ⟨.str _, H, I.tok k, ⟨t', rfl⟩, h⟩
    · obtain ⟨its, r, ht, _⟩ := I.tuple hp
      exact PyProof.Rows.join_tuple (items := its.toArray) ht (by rw [List.toList_toArray]; exact strs_of_vals r) hz fun t' k => ⟨.str _, H, I.tok k, ⟨t', rfl⟩, h⟩
end
section
variable {X : Cx} {o e : Expr} {to te : TE}
def tM1 (r : V → List V → Hp → VK → Prop) (to te : TE) : TE := fun σ H Q => to σ H fun x H1 => (∃ a, x = .str a) ∧ te σ H1 fun y H2 => r x [y] H2 Q
theorem pe_m1 {id : String} {name : Str} {apos pos : Pos} {r : V → List V → Hp → VK → Prop} (slot : Slot "str" name id) (ty : typeOf (.builtin id) = pure (.type "method_descriptor")) (rule : MtR X id r) (ho : PE X o to) (he : PE X e te)
    (hs : starEach [e] X.env = [(false, eval e X.env)] := by rfl) (hbase : attributeBase o name X.env (eval o X.env) = eval o X.env := by rfl) (hline : (apos.endLine == pos.line) = true := by rfl) :
    PE X (.Call (.Attribute o name apos) [e] [] pos) (tM1 r to te) := by
  intro pins s σ H Q I h
  refine PySem.Call_method1 hbase hs hline (thn (ho pins s σ H _ I h) fun v s1 ⟨x, H1, I1, r1, q1⟩ => ?_)
  obtain ⟨⟨a, rfl⟩, q1⟩ := q1
  obtain ⟨t, rfl⟩ := _root_.id r1
  refine ⟨"str", _, F.plainAttrs_str, slot, ty, typeIs_str _ _ _, (fun _ e => nomatch e), Calls.callWith_builtin rfl (Calls.evalArgs_plain (Calls.spliced_cons ?_))⟩
  exact thn (he pins s1 σ H1 _ I1 q1) fun u s2 ⟨y, H2, I2, r2, q2⟩ => Calls.spliced_nil (rule pins s2 σ H2 _ [y] _ [u] Q I2 r1 (.cons r2 .nil) q2)
theorem pe_join {apos pos : Pos} (ho : PE X o to) (he : PE X e te) (hs : starEach [e] X.env = [(false, eval e X.env)] := by rfl) (hbase : attributeBase o "join" X.env (eval o X.env) = eval o X.env := by rfl) (hline : (apos.endLine == pos.line) = true := by rfl) :
    PE X (.Call (.Attribute o "join" apos) [e] [] pos) (tM1 (fun x xs H Q => ∃ a p, ∃ ys : List Str, x = .str a ∧ xs = [.ref p] ∧ (SqL X.K H p (ys.map V.str) ∨ SqT X.K H p (ys.map V.str)) ∧
      (ys.map (·.length)).sum + ys.length * a.length ≤ 16777216 ∧ Q (.str (Txt.join a ys)) H) to te) :=
  pe_m1 F.slot_str_join F.type_str_join mt_join ho he hs hbase hline
end
end L2
namespace L2
open PySem PySem.Spec PyProof.Rows
section
variable {X : Cx}
end
theorem IsPart.raw {v : Value} {o : Option Int} (p : IsPart v o) : ∃ l : Option (Int × Tok), v = partValue l ∧ l.map (·.1) = o := by
  cases p with
  | none => exact ⟨none, rfl, rfl⟩
  | int i t => exact ⟨some (i, t), rfl, rfl⟩
def clipS (n d : Nat) : Option Int → Int
  | none => (d : Int)
  | some i => max 0 (min (if i < 0 then i + (n : Int) else i) (n : Int))
theorem clipS_eq (n d : Nat) (o : Option Int) : clipS n d o = ((HT.sIx n d o : Nat) : Int) := by
  cases o with
  | none => rfl
  | some v =>
    show max (0 : Int) (min (if v < 0 then v + (n : Int) else v) (n : Int)) = (((if v < 0 then (v + (n : Int)).toNat else min v.toNat n) : Nat) : Int)
    by_cases hv : v < 0
    · simp only [if_pos hv]
      omega
    · simp only [if_neg hv]
      omega
theorem sidx_clip (a b : Option Int) (n : Nat) : Builtin.Str.strSliceIndices a b 1 n = sliceRange (clipS n 0 a) (clipS n n b) 1 := by
  have h1 : ((1 : Int) > 0) = True := by simp
  cases a <;> cases b <;> first
    | rfl
    | (simp only [Builtin.Str.strSliceIndices, clipS, h1, if_true]; rfl)
    | simp [Builtin.Str.strSliceIndices, clipS]
theorem sidx (a b : Option Int) (n : Nat) : Builtin.Str.strSliceIndices a b 1 n = (List.range (HT.sIx n n b - HT.sIx n 0 a)).map (fun k => HT.sIx n 0 a + k) := by
  rw [sidx_clip, clipS_eq, clipS_eq]
  generalize HT.sIx n 0 a = p
  generalize HT.sIx n n b = q
  simp only [sliceRange, show ((1 : Int) > 0) = True from by simp, if_true]
  by_cases hlt : (p : Int) < q
  · have e3 : (((q : Int) - p + 1 - 1) / 1).toNat = q - p := by first | omega | (simp; done) | (simp; omega)
    simp only [hlt, if_true, e3]
    refine List.map_congr_left fun k _ => ?_
    omega
  · have : q - p = 0 := by omega
    simp [hlt, this]
def cutS (z : Str) (lo hi : Option Int) : Str :=
  ⟨((z.cps.toList.drop (HT.sIx z.length 0 lo)).take (HT.sIx z.length z.length hi - HT.sIx z.length 0 lo)).toArray⟩
theorem sliceText_cut (z : Str) (lo hi : Option Int) : PySem.StrLaws.sliceText z lo hi = cutS z lo hi := by
  have h1 : HT.sIx z.length 0 lo ≤ z.length := HT.sIx_le _ _ (Nat.zero_le _) _
  have h2 : HT.sIx z.length z.length hi ≤ z.length := HT.sIx_le _ _ (Nat.le_refl _) _
  have hp : HT.sIx z.length 0 lo ≤ max (HT.sIx z.length 0 lo) (HT.sIx z.length z.length hi) := Nat.le_max_left _ _
  have hq : max (HT.sIx z.length 0 lo) (HT.sIx z.length z.length hi) ≤ z.length := Nat.max_le.mpr ⟨h1, h2⟩
  have hd : max (HT.sIx z.length 0 lo) (HT.sIx z.length z.length hi) - HT.sIx z.length 0 lo = HT.sIx z.length z.length hi - HT.sIx z.length 0 lo := by omega
  have e : Builtin.Str.strSliceIndices lo hi 1 z.length =
      Builtin.Str.strSliceIndices (some ((HT.sIx z.length 0 lo : Nat) : Int)) (some ((max (HT.sIx z.length 0 lo) (HT.sIx z.length z.length hi) : Nat) : Int)) 1 z.length := by
    rw [PySem.StrLaws.strSliceIndices_plain hp hq, hd, sidx]
  have e2 : PySem.StrLaws.sliceText z lo hi =
      PySem.StrLaws.sliceText z (some ((HT.sIx z.length 0 lo : Nat) : Int)) (some ((max (HT.sIx z.length 0 lo) (HT.sIx z.length z.length hi) : Nat) : Int)) := by
    unfold PySem.StrLaws.sliceText
    rw [e]
  rw [e2, PySem.StrLaws.sliceText_nat z hp hq, hd]
  rfl
theorem cutS_length (z : Str) (lo hi : Option Int) : (cutS z lo hi).length ≤ z.length := by
  show (((z.cps.toList.drop (HT.sIx z.length 0 lo)).take (HT.sIx z.length z.length hi - HT.sIx z.length 0 lo)).toArray).size ≤ z.cps.size
  rw [List.size_toArray, List.length_take, List.length_drop, Array.length_toList]
  omega
def rSlS : V → Option Int → Option Int → Hp → VK → Prop := fun x lo hi H Q => ∃ z, x = .str z ∧ z.length ≤ sizeLine ∧ Q (.str (cutS z lo hi)) H
theorem sl_str {X : Cx} : SlR X rSlS := by
  intro pins s σ H x v vl vu lo hi sl Q I rx hs pl pu h
  obtain ⟨z, rfl, hz, q⟩ := h
  obtain ⟨t, rfl⟩ := rx
  obtain ⟨os, hos, hcs, hds⟩ := hs
  obtain ⟨l, rfl, rfl⟩ := IsPart.raw pl
  obtain ⟨u, rfl, rfl⟩ := IsPart.raw pu
  refine ⟨"str", _, F.slot_str_getitem.lookup, typeIs_str _ _ _, ?_⟩
  refine wpAny_getItem_str_slice (l := l) (u := u) (st := none) ⟨os, hos, hcs, hds⟩ rfl ?_
  have hl : (PySem.StrLaws.sliceText z (l.map (·.1)) (u.map (·.1))).length ≤ sizeLine := by
    rw [sliceText_cut]
    exact Nat.le_trans (cutS_length z _ _) hz
  rw [← sliceText_cut] at q
  unfold PySem.StrLaws.sliceText at q hl
  show Made.post (if ((1 : Int) == 1 && (Builtin.Str.strSliceIndices (l.map (·.1)) (u.map (·.1)) 1 z.length).length == z.length) = true then Made.val (.str z t)
    else Made.str ⟨((Builtin.Str.strSliceIndices (l.map (·.1)) (u.map (·.1)) 1 z.length).filterMap (z.cps[·]?)).toArray⟩) (EP X pins σ Q) s
  by_cases c : ((1 : Int) == 1 && (Builtin.Str.strSliceIndices (l.map (·.1)) (u.map (·.1)) 1 z.length).length == z.length) = true
  · rw [if_pos c] at q ⊢
    exact ⟨.str z, H, I, ⟨t, rfl⟩, q⟩
  · rw [if_neg c] at q hl ⊢
    exact ⟨hl, .str _, H, I.tok _, ⟨_, rfl⟩, q⟩
end L2
namespace Att
open PySem PySem.W PySem.Calls PyProof.Rows
theorem ints_of_wellAll {P : Params} {h : Heap} : ∀ (ns : List Int) (vs : List Value), WellAll P h vs (ns.map WData.int) → IntsAre vs ns := by
  intro ns
  induction ns with
  | nil =>
    intro vs w
    rw [List.map_nil] at w
    cases w
    exact .nil
  | cons n ns ih =>
    intro vs w
    rw [List.map_cons] at w
    cases w with
    | cons a b =>
      cases a
      exact .cons _ _ (ih _ b)
theorem script_of {l : OpenLaw} {n : Nat} (hn : l.most = some n) {P : Params} {h : Heap} {args : List WData} {vals : List Value}
    (hpre : l.row.toRowW.claim.pre args = true) (hwl : WellAll P h vals args) :
    ∃ a vs ns, vals = [Value.ref a] ∧ args = [WData.list (ns.map WData.int)] ∧ h.get? a = some { cls := .type "list", data := .seq vs.toArray } ∧ IntsAre vs ns ∧ ns.length ≤ n := by
  have hsh : WShape.hasAll [] args [.list .int] = true := (pre_splitW hpre).1
  have hc : l.pre.holds [] { args := args } = true := (pre_splitW hpre).2
  obtain ⟨d, r, rfl, h1, h2⟩ := hasAllW_cons hsh
  obtain rfl := hasAllW_nil h2
  obtain ⟨xs, rfl, h3⟩ := hasW_list h1
  obtain ⟨ns, rfl⟩ := items_int h3
  have hlen : ns.length ≤ n := by
    unfold OpenLaw.pre at hc
    have h4 : (WTm.not (.lt (.lit (.int (n : Int))) (.len (.arg 0)))).holds [] { args := [.list (ns.map .int)] } = true := by
      have h4 := (holds_andW hc).1
      rw [hn] at h4
      exact h4
    have h5 := condW_of h4 (w_not (w_lt w_lit (w_len_list (w_arg rfl))))
    rw [List.length_map] at h5
    refine Nat.le_of_not_lt fun q => ?_
    have q' : (n : Int) < ((ns.length : Nat) : Int) := by omega
    first
      | (rw [decide_eq_true q'] at h5; exact absurd h5 (by decide))
      | (simp at h5; omega)
  cases hwl with
  | cons w1 w2 =>
    cases w2
    cases w1 with
    | list ho hall => exact ⟨_, _, ns, rfl, rfl, ho, ints_of_wellAll ns _ hall, hlen⟩
theorem post_true (l : OpenLaw) (args : List WData) : l.row.toRowW.claim.post args (.bool true) args = true :=
  postW_of (r := l.row.toRowW) (X := (true == true))
    (show WShape.has [] (.bool true) .bool = true by first | rfl | decide | simp [WShape.has, WShape.arms, WShape.armsAll])
    (show (WTm.eq .res (.lit (.bool true))).value [] { args := args, res := some (.bool true), after := args } = some (.bool (true == true)) from w_eq_bool (w_res rfl) w_lit) rfl
theorem attach_call {l : OpenLaw} {n : Nat} {q : Program} {loose : List Str} {XP : (Str → Option Value) → Heap → Prop} {YP : World → Heap → Prop} {d : DefRec}
    (hn : l.most = some n) (hdf : d.params.defaults = [])
    (call : ∀ (w : World) (s₀ s₁ : Shared) (mg mb : Str → Option Value) (fa : Addr) (o : Obj) (pm cd doc : Value) (a : Addr) (vs : List Value) (ns : List Int),
      Ground q loose [] XP w s₀ mg mb s₁.heap → YP w s₁.heap →
      s₁.heap.get? fa = some o → o.data = .func (docDef d.name d.params d.body d.scope pm cd doc) → s₁.heap.CodeRec cd d.name → mg d.name = some (.ref fa) →
      s₁.heap.get? a = some { cls := .type "list", data := .seq vs.toArray } → IntsAre vs ns → ns.length ≤ n → s₁.gens = #[] →
      codeAny (model l.prog w) callerA (.call (.ref fa) ⟨[.ref a], []⟩) (fun r s' => r = .ok (.ret (.bool true)) ∧ OldK s₁.heap s'.heap ∧ s'.os = s₁.os ∧ AllBare s'.gens) s₁) :
    WalkO q loose XP YP l.row.toRowW d [] (fun f vs => PySem.call f vs) := by
  intro w s₀ s₁ mg mb G Y fa o pm cd doc dV kV ho hd hcd hD hmg hg args vals as hpre hlay hrd hwl hlo
  obtain rfl : dV = .none := Dflts.none hD hdf
  obtain rfl : kV = .none := Dflts.noKw hD
  obtain ⟨a, vs, ns, rfl, rfl, hobj, hints, hlen⟩ := script_of hn hpre hwl
  refine enter_call (codeAny_mono (call w s₀ s₁ mg mb fa o pm cd doc a vs ns G Y ho (fd_plain hd) hcd hmg hobj hints hlen hg) fun r s' hq => ?_)
  obtain ⟨rfl, h2, h3, h4⟩ := hq
  exact ⟨.inl ⟨.bool true, .bool true, [], rfl, fun _ => rfl, .bool true, post_true l _, fun _ => ⟨List.Pairwise.nil, fun _ hm => (nomatch hm)⟩⟩, h2, h3, h4⟩
section
variable {prog : Program} {w : World} {A : Around} {E : Value → Shared → Prop} {s : Shared} {K : Frag}
end
end Att
namespace L2
open PySem PySem.Spec PyProof.Rows
theorem vals_ints : ∀ {vs : List Value} {ns : List Int}, IntsAre vs ns → Vals (ns.map V.int) vs
  | _, _, .nil => .nil
  | _, _, .cons n t h => .cons ⟨t, rfl⟩ (vals_ints h)
end L2
namespace L2
open PySem PySem.Spec PyProof.Rows
end L2
namespace L2
open PySem PySem.Spec PyProof.Rows
def defArgs (s : Stmt) : Arguments := match s with
  | .FunctionDef _ a _ _ _ _ _ _ _ _ => a
  | _ => { posonlyargs := [], args := [], vararg := none, kwonlyargs := [], kw_defaults := [], kwarg := none, defaults := [] }
def defBody (s : Stmt) : List Stmt := match s with
  | .FunctionDef _ _ b _ _ _ _ _ _ _ => b
  | _ => []
def defScope (s : Stmt) : Scope := match s with
  | .FunctionDef _ _ _ _ _ _ sc _ _ _ => sc
  | _ => { kind := .function, names := [], isGenerator := false, isCoroutine := false }
abbrev CX0 : CXT := fun _ _ _ _ _ _ => False
abbrev E0 : XK := fun _ _ _ => False
structure Fun (K : PySem.W.Frag) (x qual : Str) (st : Stmt) (f : Addr) (fd : FuncData) : Prop where
  ex : ∃ (oc : Value) (od : Option Addr) (kV doc pm : Value) (an : Option Addr) (cdv ct : Value) (osl : Array (Option Value)),
    fd = PySem.W.fnOf x qual (defArgs st) (defBody st) (defScope st) .none kV doc pm an cdv ct ∧ K.lookup f = some ⟨oc, od, .func fd, osl⟩ ∧ PySem.W.codeIn K cdv qual = true
  kp : PySem.W.keepIn K (.ref f) = true
section
variable {P : Program} {w : World} {K : PySem.W.Frag} {mg : Str → Option Value} {base : Heap}
theorem Fun.ok {x qual : Str} {st : Stmt} {f : Addr} {fd : FuncData} {N ps : List Str} {k : Nat} {sp : Sp} (F : Fun K x qual st f fd) (S : FnScope N ps (defScope st)) (len : ∀ vs H Q E, sp vs H Q E → vs.length = ps.length)
    (hbody : ∀ (cdv : Value) (A : Around) (outer : List Env) (s : Shared) (H : Hp) (vs : List V) (Q : VK) (E : XK), Room k (A.deeper (envOfC qual (defScope st) s.heap.objs.size f cdv)) → sp vs H Q E →
      ∃ t, PSs (cxOf CX0 P w K mg base N qual (defScope st) f cdv A outer s H E).nox (defBody st) t ∧ t { nx := fun _ H' => Q .non H', rt := Q } (start N vs) H) : FnOk P w K mg base CX0 (k + 1) f fd ps sp := by
  obtain ⟨oc, od, kV, doc, pm, an, cdv, ct, osl, rfl, lk, hcd⟩ := F.ex
  refine fn_of lk hcd S len fun A outer s H vs Q E hr hsp => ?_
  obtain ⟨t, h, q⟩ := hbody cdv A outer s H vs Q E hr hsp
  exact ⟨t, h.nox, q⟩
theorem Fun.binds {x qual : Str} {st : Stmt} {f : Addr} {fd : FuncData} {ps : List Str} (F : Fun K x qual st f fd)
    (h : ∀ (kV doc pm : Value) (an : Option Addr) (cdv ct : Value) (us : List Value), us.length = ps.length → bindArgs (PySem.W.fnOf x qual (defArgs st) (defBody st) (defScope st) .none kV doc pm an cdv ct) ⟨us, []⟩ = pure (ps.zip us)) : Binds K fd ps [] := by
  obtain ⟨oc, od, kV, doc, pm, an, cdv, ct, osl, rfl, lk, hcd⟩ := F.ex
  exact .all (h kV doc pm an cdv ct)
theorem fun_mk {x qual : Str} {st : Stmt} {f : Addr} {oc : Value} {od an : Option Addr} {osl : Array (Option Value)} {kV doc pm cdv ct : Value} (l : K.lookup f = some ⟨oc, od, .func (PySem.W.fnOf x qual (defArgs st) (defBody st) (defScope st) .none kV doc pm an cdv ct), osl⟩)
    (c : PySem.W.codeIn K cdv qual = true) (k : PySem.W.keepIn K (.ref f) = true) : Fun K x qual st f (PySem.W.fnOf x qual (defArgs st) (defBody st) (defScope st) .none kV doc pm an cdv ct) := ⟨⟨oc, od, kV, doc, pm, an, cdv, ct, osl, rfl, l, c⟩, k⟩
end
theorem small1000 {n : Nat} (h : n ≤ 1000) : n < sizeLine := Nat.lt_of_le_of_lt h (by decide)
section
variable {X : Cx}
theorem pv (i : Nat) {x : Str} {pos : Pos} (hN : X.N[i]? = some x := by rfl) (hv : Vis X.env.scope x := by first | exact Or.inl rfl | exact Or.inr (Or.inl rfl) | exact Or.inr (Or.inr rfl)) (hd : (x == ("__debug__" : Str)) = false := by decide)
    (hcd : (x == ("__classdict__" : Str)) = false := by decide) : PE X (.Name x pos) (tVar i) := pe_var hN hv hd hcd
end
def Same (H H' : Hp) : Prop := ∀ b o, H b = some o → H' b = some o
theorem Same.refl (H : Hp) : Same H H := fun _ _ h => h
theorem Same.trans {H H1 H2 : Hp} (a : Same H H1) (b : Same H1 H2) : Same H H2 := fun c o h => b c o (a c o h)
theorem Same.free {H H' : Hp} (e : Same H H') {l : Addr} (h : H' l = Option.none) : H l = Option.none := by
  cases q : H l with
  | none => rfl
  | some o =>
    rw [e l o q] at h
    cases h
theorem Same.seq {K : PySem.W.Frag} {H H' : Hp} {a : Addr} {xs : List V} (e : Same H H') (h : SqL K H a xs) : SqL K H' a xs := by
  rcases h with (h | ⟨o, h⟩) | h
  · exact .inl (.inl (e _ _ h))
  · exact .inl (.inr ⟨o, e _ _ h⟩)
  · exact .inr h
section
variable {κ : Type} [DecidableEq κ]
end
theorem Same.made {H H1 : Hp} {x dx C : Addr} (nx : H x = Option.none) (nd : H dx = Option.none) (k : ∀ b o, (upd (upd H dx (.own x)) x (.ins C dx [])) b = some o → b ≠ x → H1 b = some o) : Same H H1 := fun b o e =>
  k b o (by rw [upd_ne (ne_of_none e nx), upd_ne (ne_of_none e nd)]; exact e) (ne_of_none e nx)
end L2
set_option Elab.async false
set_option linter.all false
set_option maxRecDepth 100000
namespace Kx
open PySem L2 PyProof.Rows
def Bd (n : Nat) (i : Int) : Prop := i.natAbs < 2 ^ n
theorem Bd.mono {m n : Nat} {i : Int} (h : Bd m i) (hmn : m ≤ n := by decide) : Bd n i := Nat.lt_of_lt_of_le h (Nat.pow_le_pow_right (by decide) hmn)
theorem Bd.sub {n : Nat} {i j : Int} (h : Bd n i) (h' : Bd n j) : Bd (n + 1) (i - j) := by
  unfold Bd at *
  rw [Nat.pow_succ]
  omega
theorem Bd.neg {n : Nat} {i : Int} (h : Bd n i) : Bd n (-i) := by
  unfold Bd at *
  omega
theorem Bd.log {n : Nat} {i : Int} (h : Bd n i) (hn : n ≤ 9000) (h0 : i ≠ 0) : i.natAbs.log2 < 9000 := by
  have h1 : i.natAbs.log2 < n := (Nat.log2_lt (by omega)).mpr h
  omega
theorem Bd.bits {n : Nat} {i : Int} (h : Bd n i) (hn : n ≤ 9000) : Builtin.Int.intBits i ≤ 2 ^ 20 := by
  unfold Builtin.Int.intBits
  split
  · exact Nat.zero_le _
  · rename_i h0
    have h1 : i.natAbs.log2 < 9000 := Bd.log h hn (by simpa using h0)
    omega
section
variable {X : Cx} {e : Expr} {es : List Expr} {t : TA} {x : Str} {p pos : Pos}
def CMulB (i j : Int) : Prop := (Bd 4000 i ∧ Bd 4000 j) ∨ (-(2 ^ 64) < i ∧ i < 2 ^ 64) ∨ (-(2 ^ 64) < j ∧ j < 2 ^ 64)
theorem CMulB.ok {i j : Int} (h : CMulB i j) : IntMulOk i j := by
  rcases h with ⟨h1, h2⟩ | h
  · exact .of_bits (h1.bits (by decide)) (h2.bits (by decide))
  · exact CMul.ok h
def CDivB (i j : Int) : Prop := j ≠ 0 ∧ Bd 8000 j
theorem op_mulB : OpR X (binaryOp .Mult) (rI CMulB fun i j => .int (i * j)) := opI fun _ _ _ _ _ _ _ hc q => mul_int q hc.ok
theorem op_fdivB : OpR X (binaryOp .FloorDiv) (rI CDivB fun i j => .int (i.fdiv j)) := opI fun _ _ _ _ _ _ _ hc q => floordiv_int hc.1 q (.inl (PyProof.noPylong_of_log2 (hc.2.log (by decide) hc.1)))
def CDivP (i j : Int) : Prop := 0 < j ∧ Bd 8000 j
theorem op_fdivP : OpR X (binaryOp .FloorDiv) (rI CDivP fun i j => .int (i / j)) := opI fun i j _ _ _ _ _ hc q => by
  have h1 : (0 : Int) < j := hc.1
  exact floordiv_int (by omega) (by rw [Int.fdiv_eq_ediv_of_nonneg i (by omega)]; exact q) (.inl (PyProof.noPylong_of_log2 (hc.2.log (by decide) (by omega))))
def isiB : V → String → Option Bool
  | .int _, "int" => some true | .int _, "bool" => some false | .int _, "str" => some false | .int _, "tuple" => some false
  | .bl _, "int" => some true | .bl _, "bool" => some true | .bl _, "str" => some false | .bl _, "tuple" => some false
  | .str _, "str" => some true | .str _, "int" => some false | .str _, "bool" => some false | .str _, "tuple" => some false
  | _, _ => none
theorem call_isi : CallR X (.builtin "isinstance") (fun xs H Q => ∃ y T b, xs = [y, .ty T] ∧ isiB y T = some b ∧ Q (.bl b) H) := by
  intro pins s σ H xs us Q I r h
  obtain ⟨y, T, b, rfl, hb, q⟩ := h
  obtain ⟨u1, u2, rfl, r1, r2⟩ : ∃ u1 u2, us = [u1, u2] ∧ RelV y u1 ∧ RelV (.ty T) u2 := by
    cases r with | cons a r => cases r with | cons b r => cases r with | nil => exact ⟨_, _, rfl, a, b⟩
  cases r2
  have f0 : EP X pins σ Q (.bool b) s := ⟨.bl b, H, I, rfl, q⟩
  have f1 : EP X pins σ Q (.bool b) { s with toks := s.toks + 1 } := ⟨.bl b, H, I.tok _, rfl, q⟩
  unfold isiB at hb
  split at hb <;> first
    | (cases hb; cases r1; first | exact IsiPair.bool_bool f0 | exact IsiPair.bool_int f0 | exact IsiPair.bool_str f1 | exact IsiPair.bool_tuple f1)
    | (cases hb; obtain ⟨k, rfl⟩ := r1; first | exact IsiPair.int_int f0 | exact IsiPair.int_bool f1 | exact IsiPair.int_str f1 | exact IsiPair.int_tuple f1 | exact IsiPair.str_str f0 | exact IsiPair.str_int f1 | exact IsiPair.str_bool f1 | exact IsiPair.str_tuple f1)
    | (cases hb)
theorem call_isiTT : CallR X (.builtin "isinstance") (fun xs H Q => ∃ a ys, xs = [.ref a, .ty "tuple"] ∧ SqT X.K H a ys ∧ Q (.bl true) H) := by
  intro pins s σ H xs us Q I r h
  obtain ⟨a, ys, rfl, ha, q⟩ := h
  obtain ⟨u1, u2, rfl, r1, r2⟩ : ∃ u1 u2, us = [u1, u2] ∧ RelV (.ref a) u1 ∧ RelV (.ty "tuple") u2 := by
    cases r with | cons a r => cases r with | cons b r => cases r with | nil => exact ⟨_, _, rfl, a, b⟩
  cases r1
  cases r2
  have f0 : EP X pins σ Q (.bool true) s := ⟨.bl true, H, I, rfl, q⟩
  obtain ⟨its, _, ht, _⟩ := I.tuple ha
  exact PyProof.Rows.call_isinstance_yes (Tx := "tuple") ht.typeIs PySem.F.isi_meta_tuple PySem.F.isi_self_tuple f0
def isStar : Expr → Bool
  | .Starred _ _ => true
  | _ => false
theorem star_cons {e : Expr} {es : List Expr} {env : Env} (h : isStar e = false) : starEach (e :: es) env = (false, eval e env) :: starEach es env := by
  cases e <;> first | rfl | cases h
theorem star_any : ∀ {es : List Expr} {env : Env} {pos : Pos}, es.any isStar = false → (backTo pos (starEach es env)).any (·.1) = false
  | [], _, _, _ => rfl
  | e :: es, env, pos, h => by
    have h2 : isStar e = false ∧ es.any isStar = false := by simpa using h
    rw [star_cons h2.1]
    have q := star_any (env := env) (pos := pos) h2.2
    show (((false : Bool)) || (backTo pos (starEach es env)).any (·.1)) = false
    rw [q]
    rfl
theorem pa_c {te : TE} (ha : PE X e te) (hr : PA X es t) (hs : isStar e = false := by rfl) : PA X (e :: es) (tCons te t) := pa_cons ha hr (star_cons hs)
theorem pe_cB {id : String} {r : List V → Hp → VK → Prop} (hc : CallR X (.builtin id) r) (hg : Gl X x) (hm : X.mg x = none) (hv : bootBuiltins x = some (.builtin id)) (ha : PA X (e :: es) t) (hn : x ≠ "__name__" := by decide) (hdb : (x == ("__debug__" : Str)) = false := by decide)
    (hs : (e :: es).any isStar = false := by rfl) : PE X (.Call (.Name x p) (e :: es) [] pos) (tCB r t) :=
  have h2 : isStar e = false ∧ es.any isStar = false := by simpa using hs
  pe_callB hc hg hm hv ha hn hdb (star_cons h2.1) (star_any h2.2)
theorem pe_cT {T : String} {r : List V → Hp → VK → Prop} (hc : CallR X (.type T) r) (hg : Gl X x) (hm : X.mg x = none) (hv : bootBuiltins x = some (.type T)) (ha : PA X (e :: es) t) (hn : x ≠ "__name__" := by decide) (hdb : (x == ("__debug__" : Str)) = false := by decide)
    (hs : (e :: es).any isStar = false := by rfl) : PE X (.Call (.Name x p) (e :: es) [] pos) (tCB r t) :=
  have h2 : isStar e = false ∧ es.any isStar = false := by simpa using hs
  pe_callTy hc hg hm hv ha hn hdb (star_cons h2.1) (star_any h2.2)
def plainTest : Expr → Bool
  | .BoolOp _ _ _ => false
  | .UnaryOp _ _ _ => false
  | .Compare _ _ _ _ => false
  | .IfExp _ _ _ _ => false
  | _ => true
theorem plain_test {e : Expr} {env : Env} (h : plainTest e = true) : ∀ whole, isTrue e env whole = (do let v ← whole; standAt e.pos; holding [v] (truthy v)) := by
  intro whole
  cases e <;> first | rfl | cases h
theorem pt_v {t : TE} (h : PE X e t) (he : plainTest e = true := by rfl) : PT X e (tB t) := pt_val h (plain_test he)
structure Cal (P : Program) (w : World) (K : PySem.W.Frag) (mg : Str → Option Value) (base : Heap) (CX : CXT) (k : Nat) (x : Str) (ps : List Str) (sp : Sp) : Prop where
  ex : ∃ (f : Addr) (fd : FuncData), FnOk P w K mg base CX k f fd ps sp ∧ Binds K fd ps [] ∧ PySem.W.keepIn K (.ref f) = true ∧ mg x = some (.ref f)
theorem pe_callC {CX : CXT} {j k : Nat} {ps : List Str} {sp : Sp} {E : XK} (C : Cal X.prog X.w X.K X.mg X.base CX j x ps sp) (hr : Room k X.A) (hx : Passes CX X E) (ha : PA X (e :: es) t) (hg : Gl X x := by rfl) (hj : j ≤ k := by decide)
    (hdb : (x == ("__debug__" : Str)) = false := by decide) (hs : (e :: es).any isStar = false := by rfl) :
    PE X (.Call (.Name x p) (e :: es) [] pos) (tCall sp [] E t) := by
  obtain ⟨f, fd, F, b, kp, m⟩ := C.ex
  have h2 : isStar e = false ∧ es.any isStar = false := by simpa using hs
  exact pe_call F (hr.mono hj) hg m kp b .nil hx ha hdb (star_cons h2.1) (star_any h2.2)
theorem Fun.cal {P : Program} {w : World} {K : PySem.W.Frag} {mg : Str → Option Value} {base : Heap} {CX : CXT} {k : Nat} {y qual : Str} {st : Stmt} {f : Addr} {fd : FuncData} {ps : List Str} {sp : Sp} (F : Fun K y qual st f fd) (h : FnOk P w K mg base CX k f fd ps sp) (b : Binds K fd ps []) (m : mg x = some (.ref f)) :
    Cal P w K mg base CX k x ps sp := ⟨f, fd, h, b, F.kp, m⟩
end
theorem same_new {H : Hp} {p : Addr} (h : H p = none) (o : HO) : Same H (upd H p o) := fun b u q => by rw [upd_ne (ne_of_none q h)]; exact q
theorem Same.tup {K : PySem.W.Frag} {H H' : Hp} {a : Addr} {xs : List V} (e : Same H H') (h : SqT K H a xs) : SqT K H' a xs := by
  rcases h with (h | ⟨o, h⟩) | h
  · exact .inl (.inl (e _ _ h))
  · exact .inl (.inr ⟨o, e _ _ h⟩)
  · exact .inr h
def But (r : Addr) (H H' : Hp) : Prop := ∀ b o, b ≠ r → H b = some o → H' b = some o
theorem But.refl (r : Addr) (H : Hp) : But r H H := fun _ _ _ h => h
theorem But.trans {r : Addr} {H H1 H2 : Hp} (a : But r H H1) (b : But r H1 H2) : But r H H2 := fun c o n h => b c o n (a c o n h)
theorem But.same {r : Addr} {H H' : Hp} (h : Same H H') : But r H H' := fun b o _ q => h b o q
theorem But.upd (r : Addr) (H : Hp) (o : HO) : But r H (upd H r o) := fun b u n q => by rw [upd_ne n]; exact q
theorem But.new {r p : Addr} {H : Hp} (h : H p = none) (o : HO) : But r H (L2.upd H p o) := But.same (same_new h o)
theorem But.at {r b : Addr} {H H' : Hp} {o : HO} (g : But r H H') (h : H b = some o) (n : b ≠ r) : H' b = some o := g b o n h
def Row (H : Hp) (r : Addr) (N : Int) : Prop := ∃ a n : Int, H r = some (.lst [.int a, .int n]) ∧ 0 ≤ n ∧ n ≤ N
theorem Row.mono {H : Hp} {r : Addr} {M N : Int} (h : Row H r M) (l : M ≤ N) : Row H r N := let ⟨a, n, e, h0, h1⟩ := h; ⟨a, n, e, h0, by omega⟩
theorem Row.new {H : Hp} {r p : Addr} {N : Int} (h : Row H r N) (hp : H p = none) (o : HO) : Row (upd H p o) r N := let ⟨a, n, e, h0, h1⟩ := h; ⟨a, n, same_new hp o _ _ e, h0, h1⟩
theorem Row.same {H H' : Hp} {r : Addr} {N : Int} (h : Row H r N) (g : Same H H') : Row H' r N := let ⟨a, n, e, h0, h1⟩ := h; ⟨a, n, g _ _ e, h0, h1⟩
end Kx
set_option Elab.async false
set_option linter.all false
set_option maxRecDepth 100000
set_option maxHeartbeats 1000000
set_option autoImplicit false
namespace Xk
open PySem
variable {α β : Type}
def FOk (f : Obj → Obj) : Prop := ∀ o, o.isFreed = false → (f o).isFreed = false ∧ (f o).dict = o.dict
def DOk : Sem α → Prop
  | .pure _ => True
  | .raise _ => True
  | .unsupported _ => True
  | .finish _ => True
  | .rule _ k => ∀ x, DOk (k x)
  | .at _ k => ∀ x, DOk (k x)
  | .load _ _ k => ∀ x, DOk (k x)
  | .update _ _ f k => FOk f ∧ ∀ x, DOk (k x)
  | .alloc _ k => ∀ x, DOk (k x)
  | .loadIfAlive _ k => ∀ x, DOk (k x)
  | .point _ k => ∀ x, DOk (k x)
  | .register _ k => ∀ x, DOk (k x)
  | .fresh k => ∀ x, DOk (k x)
  | .ask k => ∀ x, DOk (k x)
  | .choose _ _ k => ∀ x, DOk (k x)
  | .os _ _ k => ∀ x, DOk (k x)
  | .call _ _ _ _ _ => False
  | .handled _ k => ∀ x, DOk (k x)
  | .newGen _ k => ∀ x, DOk (k x)
  | .genState _ k => ∀ x, DOk (k x)
  | .resume _ _ _ _ => False
  | .yield _ _ _ _ => True
  | .stack k => ∀ x, DOk (k x)
  | .fork _ _ => True
  | .thread k => ∀ x, DOk (k x)
  | .await _ _ _ _ _ => True
def KD (h h' : Heap) : Prop := ∀ b o, h.get? b = some o → ∃ o', h'.get? b = some o' ∧ o'.dict = o.dict
theorem KD.refl (h : Heap) : KD h h := fun _ o e => ⟨o, e, rfl⟩
theorem KD.trans {h1 h2 h3 : Heap} (x : KD h1 h2) (y : KD h2 h3) : KD h1 h3 := fun b o e =>
  let ⟨o1, e1, d1⟩ := x b o e
  let ⟨o2, e2, d2⟩ := y b o1 e1
  ⟨o2, e2, d2.trans d1⟩
theorem KD.push (h : Heap) (o : Obj) : KD h (h.push o) := fun _ u e => ⟨u, Heap.get?_push_of_some _ e, rfl⟩
theorem KD.update {h : Heap} {a : Addr} {f : Obj → Obj} (hf : FOk f) : KD h (h.update a f) := fun b o e => by
  by_cases hb : b = a
  · subst hb
    have nf := (Heap.get?_some_iff.mp e).2
    have := hf o (by simpa using nf)
    exact ⟨f o, Heap.get?_update_self f e this.1, this.2⟩
  · exact ⟨o, (Heap.get?_update_other _ _ (Ne.symm hb)).trans e, rfl⟩
theorem wp_keepD (M : Model) (Γ : Ctx) {Q : α → Pos → Shared → Prop} {E : Value → Pos → Shared → Prop} {h0 : Heap} : ∀ (t : Sem α) (p : Pos) (s : Shared), DOk t → KD h0 s.heap → Sem.wp M Γ t Q E p s → Sem.wp M Γ t (fun a p' s' => Q a p' s' ∧ KD h0 s'.heap) (fun e p' s' => E e p' s' ∧ KD h0 s'.heap) p s := by
  intro t
  induction t with
  | pure a => intro p s d k w; rw [Sem.wp] at w ⊢; exact ⟨w, k⟩
  | raise e => intro p s d k w; rw [Sem.wp] at w ⊢; exact ⟨w, k⟩
  | unsupported w => intro p s d k w; rw [Sem.wp] at w ⊢; exact w
  | finish e => intro p s d k w; rw [Sem.wp] at w ⊢; exact w
  | rule t k ih => intro p s d kd w; rw [Sem.wp] at w ⊢; exact ih _ p s (d _) kd w
  | «at» q k ih => intro p s d kd w; rw [Sem.wp] at w ⊢; exact ih _ _ s (d _) kd w
  | load a part k ih => intro p s d kd w; rw [Sem.wp] at w ⊢; obtain ⟨o, ho, w⟩ := w; exact ⟨o, ho, ih _ p s (d _) kd w⟩
  | update a part f k ih => intro p s d kd w; rw [Sem.wp] at w ⊢; exact ⟨w.1, ih _ p _ (d.2 _) (kd.trans (KD.update d.1)) w.2⟩
  | alloc o k ih => intro p s d kd w; rw [Sem.wp] at w ⊢; exact ih _ p _ (d _) (kd.trans (KD.push _ _)) w
  | loadIfAlive a k ih => intro p s d kd w; rw [Sem.wp] at w ⊢; exact ih _ p s (d _) kd w
  | point l k ih => intro p s d kd w; rw [Sem.wp] at w ⊢; exact ih _ p s (d _) kd w
  | register a k ih => intro p s d kd w; rw [Sem.wp] at w ⊢; exact w
  | fresh k ih => intro p s d kd w; rw [Sem.wp] at w ⊢; exact ih _ p _ (d _) kd w
  | ask k ih => intro p s d kd w; rw [Sem.wp] at w ⊢; exact ih _ p s (d _) kd w
  | choose src n k ih => intro p s d kd w; rw [Sem.wp] at w ⊢; exact ⟨w.1, ih _ p _ (d _) kd w.2⟩
  | os q l k ih => intro p s d kd w; rw [Sem.wp] at w ⊢; exact ih _ p _ (d _) kd w
  | call c h g l k ih => intro p s d kd w; exact d.elim
  | handled own k ih => intro p s d kd w; rw [Sem.wp] at w ⊢; exact ih _ p s (d _) kd w
  | newGen c k ih => intro p s d kd w; rw [Sem.wp] at w ⊢; exact ih _ p _ (d _) kd w
  | genState g k ih => intro p s d kd w; rw [Sem.wp] at w ⊢; obtain ⟨st, h, w⟩ := w; exact ⟨st, h, ih _ p s (d _) kd w⟩
  | resume g r l k ih => intro p s d kd w; exact d.elim
  | yield v g l k ih => intro p s d kd w; rw [Sem.wp] at w ⊢; exact w
  | stack k ih => intro p s d kd w; rw [Sem.wp] at w ⊢; exact ih _ p s (d _) kd w
  | fork c k ih => intro p s d kd w; rw [Sem.wp] at w ⊢; exact w
  | thread k ih => intro p s d kd w; rw [Sem.wp] at w ⊢; exact ih _ p s (d _) kd w
  | await a f dd l k ih => intro p s d kd w; rw [Sem.wp] at w ⊢; exact w
theorem DOk.bind {m : Sem α} {f : α → Sem β} (h : DOk m) (h' : ∀ a, DOk (f a)) : DOk (m >>= f) := by
  show DOk (Sem.bind m f)
  induction m with
  | pure a => exact h' a
  | raise e => trivial
  | unsupported w => trivial
  | finish e => trivial
  | update a part f k ih => exact ⟨h.1, fun x => ih x (h.2 x)⟩
  | call c h2 g l k ih => exact h.elim
  | resume g r l k ih => exact h.elim
  | yield v g l k ih => trivial
  | fork c k ih => trivial
  | await a f d l k ih => trivial
  | rule _ k ih | «at» _ k ih | load _ _ k ih | alloc _ k ih | loadIfAlive _ k ih | point _ k ih | register _ k ih | fresh k ih | ask k ih | choose _ _ k ih | os _ _ k ih | handled _ k ih | newGen _ k ih | genState _ k ih | stack k ih | thread k ih => exact fun x => ih x (h x)
theorem wpAny_keepD {M : Model} {A : Around} {t : Sem α} {Q : α → Shared → Prop} {E : Value → Shared → Prop} {s : Shared} (d : DOk t) (w : wpAny M A t Q E s) : wpAny M A t (fun a s' => Q a s' ∧ KD s.heap s'.heap) (fun e s' => E e s' ∧ KD s.heap s'.heap) s :=
  fun Γ p hΓ => wp_keepD M Γ t p s d (KD.refl _) (w Γ p hΓ)
end Xk
namespace Xk
open PySem
theorem fok_fields (g : Array Value → Array Value) : FOk (Obj.mapFields g) := fun o h => by
  obtain ⟨c, d, dt, sl⟩ := o
  cases dt <;> first | exact ⟨rfl, rfl⟩ | exact ⟨h, rfl⟩
theorem fok_slots (g : Obj → Array (Option Value)) : FOk (fun o => { o with slots := g o }) := fun o h => by
  obtain ⟨c, d, dt, sl⟩ := o
  cases dt <;> first | exact ⟨rfl, rfl⟩ | exact ⟨h, rfl⟩
local macro_rules | `(tactic| walk_at "dok") => `(tactic| repeat (first | exact trivial | exact ⟨fok_fields _, fun _ => trivial⟩ | exact ⟨fok_slots _, fun _ => trivial⟩ | assumption | refine DOk.bind ?_ fun _ => ?_ | dsimp only | split | intro _))
theorem dok_load (a : Addr) : DOk (load a) := fun _ => trivial
theorem dok_lookBehind (a : Addr) : DOk (lookBehind a) := by
  unfold lookBehind
  walk_at "dok"
  all_goals first | exact dok_load _ | skip
  done
theorem dok_fieldsOf (v : Value) : DOk (fieldsOf v) := by
  unfold fieldsOf
  walk_at "dok"
  all_goals first | exact dok_load _ | skip
  all_goals walk_at "dok"
theorem dok_field (v : Value) (i : Nat) : DOk (field v i) := by
  unfold field
  refine DOk.bind (dok_fieldsOf _) fun _ => ?_
  walk_at "dok"
theorem dok_updateFields (a : Addr) (f : Array Value → Array Value) : DOk (updateFields a f) := by
  unfold updateFields
  refine DOk.bind (dok_load _) fun _ => ?_
  split
  · exact DOk.bind ⟨fok_fields _, fun _ => trivial⟩ fun _ => dok_lookBehind _
  · trivial
theorem dok_setField (v : Value) (i : Nat) (x : Value) : DOk (setField v i x) := by
  unfold setField updateField
  split
  · first | exact dok_updateFields _ _ | (walk_at "dok"; all_goals first | exact dok_updateFields _ _ | exact dok_load _ | skip)
  · trivial
theorem dok_flight (v : Value) (f : Option Addr) : DOk (setFlight v f) := by
  unfold setFlight
  refine DOk.bind (dok_field _ _) fun _ => ?_
  split
  · exact dok_setField _ _ _
  · trivial
theorem dok_place (f : Addr) (b : Bool) : DOk (entryPlaceOf f b) := by
  unfold entryPlaceOf
  walk_at "dok"
theorem dok_newFields (ty : String) (l : List Value) : DOk (newFields ty l) := by
  unfold newFields newObj
  walk_at "dok"
  done
theorem dok_newEntry (a b c d e : Value) (l : List Value) : DOk (EntryCells.newEntry a b c d e l) := dok_newFields _ _
theorem dok_kept (env : Env) (b : Bool) (l : List Env) : DOk (keptBack env b l) := by
  cases l with
  | nil =>
    unfold keptBack
    walk_at "dok"
    done
  | cons c l =>
    unfold keptBack
    walk_at "dok"
theorem dok_import (env : Env) (l : List Env) : DOk (behindIsImport env l) := by
  unfold behindIsImport
  split
  · trivial
  · split
    · trivial
    · exact DOk.bind (dok_field _ _) fun _ => trivial
theorem dok_ready : ∀ l : List Env, DOk (readyFrames l)
  | [] => trivial
  | env :: outer => by
    unfold readyFrames
    split
    · refine DOk.bind (dok_load _) fun _ => ?_
      split
      · trivial
      · refine DOk.bind (dok_import _ _) fun _ => DOk.bind (dok_kept _ _ _) fun _ => DOk.bind ⟨fok_slots _, fun _ => trivial⟩ fun _ => dok_ready outer
    · trivial
theorem dok_frameOf (env : Env) : DOk (frameOf env) := by
  unfold frameOf frameEnvs
  refine DOk.bind ?_ fun _ => ?_
  · walk_at "dok"
  · refine DOk.bind ?_ fun _ => ?_
    · unfold frameObject
      split
      · trivial
      · exact DOk.bind (dok_ready _) fun _ => trivial
    · split <;> trivial
theorem dok_note (env : Env) (e : Value) : DOk (noteFrame e env) := by
  have tail : ∀ (x : Value) (d : Addr), DOk (do setField e 1 (← EntryCells.newEntry x (← frameOf env) .none (rawInt d) .none (← entryPlaceOf d (x != .none)))) := fun x d =>
    DOk.bind (dok_frameOf _) fun _ => DOk.bind (dok_place _ _) fun _ => DOk.bind (dok_newEntry _ _ _ _ _ _) fun _ => dok_setField _ _ _
  unfold noteFrame
  split
  · refine DOk.bind (dok_field _ _) fun x => ?_
    split
    · refine DOk.bind (dok_field _ _) fun _ => ?_
      split
      · trivial
      · exact DOk.bind (dok_setField _ _ _) fun _ => tail _ _
    · exact tail _ _
  · trivial
theorem dok_leaving (env : Env) (e : Value) : DOk (leaving env e) := by
  unfold leaving
  exact DOk.bind (dok_note _ _) fun _ => dok_flight _ _
end Xk
set_option Elab.async false
set_option linter.all false
set_option maxRecDepth 100000
namespace Kx
open PySem PySem.Spec L2 PyProof.Rows PySem.W
structure FlyOk (P : Program) (w : World) (outer : List Env) (H H' : Hp) (s : Shared) (s' : Shared) (a C : Addr) (t : Addr × Option Addr) (B : Heap) : Prop where
  os : s'.os = s.os
  bare : AllBare s'.gens
  hok : HOk P w H' B
  fly : Heap.FlyingW B outer a (.ref C) (.ref t.1) s'.heap
  dct : ∃ o, s'.heap.get? a = some o ∧ o.dict = t.2
  un : Un (frs outer) [] H H' s.heap s'.heap
  keep : ∀ b o, s.heap.get? b = some o → H b = none → b ∉ frs outer → B.get? b = some o
  there : ∀ b o, s.heap.get? b = some o → b ∉ frs outer → ∃ o', B.get? b = some o'
def CXE (P : Program) (w : World) : CXT := fun outer H s E e s' => ∃ (a C : Addr) (t : Addr × Option Addr) (B : Heap) (H' : Hp), e = .ref a ∧ E (.ref C) t.2 H' ∧ H' a = none ∧ FlyOk P w outer H H' s s' a C t B
theorem FlyOk.un_on {P : Program} {w : World} {outer : List Env} {H H' : Hp} {s s' : Shared} {a C : Addr} {t : Addr × Option Addr} {B h6 : Heap} (x : FlyOk P w outer H H' s s' a C t B) (k : B.StaysIn h6) (u : s'.heap.UpToSlots h6) : Un (frs outer) [] H H' s.heap h6 where
  keep := fun b o q n hb _ => k b o (x.keep b o q n hb)
  slot := fun b o q n hb hx => by
    obtain ⟨sl, e1⟩ := x.un.slot b o q n hb hx
    obtain ⟨_, o2, e2, d2⟩ := x.fly.2.2.1.mem (b := b) hb
    rw [e1] at e2
    obtain ⟨sl', e3⟩ := u b _ e1 (by cases e2; exact d2)
    exact ⟨sl', e3⟩
  free := x.un.free
  there := fun b o q hx => by
    by_cases hb : b ∈ frs outer
    · obtain ⟨_, o2, e2, d2⟩ := x.fly.2.2.1.mem (b := b) hb
      obtain ⟨sl', e3⟩ := u b _ e2 d2
      exact ⟨_, e3⟩
    · obtain ⟨o', e1⟩ := x.there b o q hb
      exact ⟨o', k b o' e1⟩
  tups := x.un.tups
  frzs := x.un.frzs
  tbls := x.un.tbls
theorem obj_there {P : Program} {w : World} {H : Hp} {h : Heap} {a : Addr} {o : HO} (x : ObjOk P w H h a o) : ∃ u, h.get? a = some u := by
  cases o with
  | lst xs => exact ⟨_, x.2.choose_spec.choose_spec.2⟩
  | tup xs =>
    obtain ⟨_, its, _, o, e, _⟩ := x
    exact ⟨o, e⟩
  | dK kvs =>
    obtain ⟨_, _, _, _, o, _, _, e, _⟩ := x
    exact ⟨o, e⟩
  | dT kvs =>
    obtain ⟨_, _, _, _, o, _, _, e, _⟩ := x
    exact ⟨o, e⟩
  | set S n =>
    obtain ⟨o, _, _, _, e, _⟩ := x
    exact ⟨o, e⟩
  | ins C dx fs => exact ⟨_, x.2.2.2.1⟩
  | own y => exact x
  | xd fs =>
    obtain ⟨_, ⟨o, _, _, e, _⟩, _⟩ := x
    exact ⟨o, e⟩
  | rng lo hi =>
    obtain ⟨_, _, _, e⟩ := x
    exact ⟨_, e⟩
  | frz ob u => exact ⟨_, x.1⟩
  | tbl ps => exact ⟨_, x⟩
  | met f y => exact ⟨_, x⟩
  | ext φ => exact x.2.1
section
variable {P : Program} {w : World} {K : PySem.W.Frag} {mg : Str → Option Value} {base : Heap} {N : List Str} {qual : Str} {scope : Scope} {f : Addr} {cdv : Value} {A : Around} {outer : List Env} {s : Shared} {H : Hp} {E : XK}
theorem pass_on : Passes (CXE P w) (cxOf (CXE P w) P w K mg base N qual scope f cdv A outer s H E) E := by
  intro pins σ H1 s1 e s' I hc
  obtain ⟨a, C, t, B, H', rfl, q, ha, F⟩ := hc
  let env := envOfC qual scope s.heap.objs.size f cdv
  have neL : ∀ b o, s.heap.get? b = some o → b ≠ s.heap.objs.size := fun b o q => Nat.ne_of_lt (Heap.lt_size q)
  have memE : ∀ b, b ∈ frs (env :: outer) → b = s.heap.objs.size ∨ b ∈ frs outer := fun b hb => by
    have z : b ∈ s.heap.objs.size :: outer.filterMap (·.frame) := hb
    exact List.mem_cons.mp z
  have u1 : Un (frs outer) [] H H1 s.heap s1.heap := I.base
  have out : ∀ b o, s.heap.get? b = some o → b ∉ frs outer → b ∉ frs (env :: outer) := fun b o q hb z => (memE b z).elim (neL b o q) hb
  show wpAny (model P w) (A.deeper env) (leaving env (.ref a)) _ _ _
  refine wpAny_mono (Xk.wpAny_keepD (Xk.dok_leaving env (.ref a)) (wpAny_leaves_onW (Q := fun _ s2 => ∃ h2, s2 = { s' with heap := h2 } ∧ Heap.FlyingW B outer a (.ref C) (.ref t.1) h2 ∧ s'.heap.UpToSlots h2) (E := fun _ _ => False) (base := B) (L := s.heap.objs.size) I.ok.frames rfl F.fly fun h2 x1 x2 => ⟨h2, rfl, x1, x2⟩)) (fun _ s2 hq => ?_) fun _ _ z => z.1.elim
  obtain ⟨⟨h2, rfl, x1, x2⟩, kd⟩ := hq
  have hdct : ∃ o, h2.get? a = some o ∧ o.dict = t.2 := by
    obtain ⟨o0, he0, hd0⟩ := F.dct
    obtain ⟨o', e1, e2⟩ := kd a _ he0
    exact ⟨o', e1, e2.trans hd0⟩
  have u2 := F.un_on x1.1 x2
  refine ⟨a, C, t, B, H', rfl, q, ha, ⟨F.os.trans I.os, F.bare, F.hok, x1, hdct, ?_, ?_, ?_⟩⟩
  · refine ⟨fun b o q n hb hx => ?_, fun b o q n hb hx => ?_, fun b o q n hx => ?_, fun b o q hx => ?_, fun b xs q => u2.tups b xs (u1.tups b xs q), fun b o xs q => u2.frzs b o xs (u1.frzs b o xs q), fun b ps q => ?_⟩
    · exact u2.keep b o (u1.keep b o q n hb hx) (u1.free b o q n hx) (out b o q hb) hx
    · obtain ⟨sl, e1⟩ := u1.slot b o q n hb hx
      obtain ⟨sl', e2⟩ := u2.slot b _ e1 (u1.free b o q n hx) (List.mem_cons_of_mem _ hb) hx
      exact ⟨sl', e2⟩
    · obtain ⟨o', e1⟩ := u1.there b o q hx
      exact u2.free b o' e1 (u1.free b o q n hx) hx
    · obtain ⟨o', e1⟩ := u1.there b o q hx
      exact u2.there b o' e1 hx
    · obtain ⟨m1, e1⟩ := u1.tbls b ps q
      obtain ⟨m2, e2⟩ := u2.tbls b _ e1
      exact ⟨m1 ++ m2, by rw [e2, Array.append_assoc]⟩
  · exact fun b o q n hb => F.keep b o (u1.keep b o q n hb (by simp)) (u1.free b o q n (by simp)) (out b o q hb)
  · exact fun b o q hb => by
      obtain ⟨o', e1⟩ := u1.there b o q (by simp)
      exact F.there b o' e1 (out b o q hb)
end
structure ExcK (K : PySem.W.Frag) (x : Str) (C : Addr) (newId : String) (bmB : List Value) : Prop where
  ns : nsIn K mainGlobals x = some (some (.ref C))
  exc : excIn K C bmB newId = true
theorem ExcK.own {K : PySem.W.Frag} {x : Str} {C : Addr} {newId : String} {bmB : List Value} {h : Heap} {mg : Str → Option Value} (T : ExcK K x C newId bmB) (X : K.In h) (G : h.Ns mainGlobals mg) : OwnCls x C bmB newId mg h := by
  have q := T.exc
  refine ⟨mg_of X G T.ns, ?_⟩
  unfold excIn at q
  split at q
  case h_2 => cases q
  rename_i dd cd sl ho
  split at q
  case h_2 => cases q
  rename_i C' bm k0 k1 k2 k3 n k5 hm hs
  rw [Bool.and_eq_true, Bool.and_eq_true, Bool.and_eq_true, Bool.and_eq_true, Bool.and_eq_true] at q
  obtain ⟨⟨⟨⟨⟨q1, q2⟩, q3⟩, q4⟩, q5⟩, q6⟩ := q
  have q1 := beq_iff_eq.mp q1
  have q2 := beq_iff_eq.mp q2
  have q6 := beq_iff_eq.mp q6
  subst q1 q2
  obtain ⟨nm, bs, mro, ns, qn, hd, sn, sub, ab, col, del⟩ := cd
  have q3 : del = false := by simpa using q3
  have hm : mro = Value.ref C' :: bm := hm
  subst q3 hm
  have es : sl = #[k0, k1, k2, k3, some (.builtin n), k5] := by
    cases sl
    exact congrArg Array.mk hs
  subst es
  exact ⟨bm, ns, nm, qn, bs, hd, sn, sub, ab, col, dd, k0, k1, k2, k3, k5, _, X _ _ ho, .of_isNs (isNs_of_in X q5), nsMap_none_of_in X q5 q6, tail_of_in X q4⟩
section
variable {P : Program} {w : World} {K : PySem.W.Frag} {mg : Str → Option Value} {base : Heap} {N : List Str} {qual : Str} {scope : Scope} {f : Addr} {cdv : Value} {A : Around} {outer : List Env} {s : Shared} {H : Hp} {E : XK}
end
def excH (a C : Addr) : HO := .ext fun h => ∃ o vs, h.get? a = some o ∧ o.cls = .ref C ∧ o.data = .fields vs
def PB (X : Cx) (body : List Stmt) (t : XK → TS) : Prop :=
  ∀ (pins : List (Addr × Obj)) (s : Shared) (σ : L2.St) (H : Hp) (D : Ends) (Eh : XK), Inv X pins σ H s → t Eh D σ H →
    wpAny (model X.prog X.w) X.A (execs body X.env) (SP X pins D) (fun e s' => ∃ H0 s0, Inv X pins σ H0 s0 ∧ CXE X.prog X.w X.stack H0 s0 Eh e s') s
section
variable {X : Cx}
variable {j k : Nat} {x : Str} {p pos pos' : Pos} {e : Expr} {es : List Expr} {t : TA} {ps : List Str} {sp : Sp}
end
theorem passE0 {X : Cx} {P : Program} {w : World} : Passes (CXE P w) X E0 := fun _ _ _ _ _ _ _ h => by
  obtain ⟨_, _, _, _, _, _, q, _⟩ := h
  exact q.elim
section
variable {P : Program} {w : World} {K : PySem.W.Frag} {mg : Str → Option Value} {base : Heap} {x qual : Str} {st : Stmt} {f : Addr} {fd : FuncData} {N ps : List Str} {k : Nat} {sp : Sp}
theorem Fun.okT (F : Fun K x qual st f fd) (S : FnScope N ps (defScope st)) (len : ∀ vs H Q E, sp vs H Q E → vs.length = ps.length)
    (hbody : ∀ (cdv : Value) (A : Around) (outer : List Env) (s : Shared) (H : Hp) (vs : List V) (Q : VK) (E : XK), Room k (A.deeper (envOfC qual (defScope st) s.heap.objs.size f cdv)) → sp vs H Q E →
      ∃ t, PSs (cxOf (CXE P w) P w K mg base N qual (defScope st) f cdv A outer s H E).nox (defBody st) t ∧ t { nx := fun _ H' => Q .non H', rt := Q } (start N vs) H) : FnOk P w K mg base (CXE P w) (k + 1) f fd ps sp := by
  obtain ⟨oc, od, kV, doc, pm, an, cdv, ct, osl, rfl, lk, hcd⟩ := F.ex
  refine fn_of lk hcd S len fun A outer s H vs Q E hr hsp => ?_
  obtain ⟨t, h, q⟩ := hbody cdv A outer s H vs Q E hr hsp
  exact ⟨t, h.nox, q⟩
theorem Fun.okE (F : Fun K x qual st f fd) (S : FnScope N ps (defScope st)) (len : ∀ vs H Q E, sp vs H Q E → vs.length = ps.length)
    (hbody : ∀ (cdv : Value) (A : Around) (outer : List Env) (s : Shared) (H : Hp) (vs : List V) (Q : VK) (E : XK), Room k (A.deeper (envOfC qual (defScope st) s.heap.objs.size f cdv)) → sp vs H Q E →
      ∃ t, PSs (cxOf (CXE P w) P w K mg base N qual (defScope st) f cdv A outer s H E) (defBody st) t ∧ t { nx := fun _ H' => Q .non H', rt := Q } (start N vs) H) : FnOk P w K mg base (CXE P w) (k + 1) f fd ps sp := by
  obtain ⟨oc, od, kV, doc, pm, an, cdv, ct, osl, rfl, lk, hcd⟩ := F.ex
  refine fn_of lk hcd S len fun A outer s H vs Q E hr hsp => ?_
  exact hbody cdv A outer s H vs Q E hr hsp
end
section
variable {X : Cx}
end
end Kx
set_option Elab.async false
set_option linter.all false
set_option maxRecDepth 100000
namespace Kx
open PySem PySem.Spec L2 PyProof.Rows PySem.W Builtin.ObjectAttr Builtin.Getset_descriptor
section
variable {prog : Program} {w : World} {A : Around} {E : Value → Shared → Prop} {h : Heap} {g : Array GenState} {d : Drawn} {t : Nat} {os : OsState} {a C : Addr} {o : Obj} {K : PySem.W.Frag}
structure ExcA (K : PySem.W.Frag) (C : Addr) : Prop where
  cls : (clsIn K C).isSome = true
  obj : mroIn K C (.type "object") = some true
  bas : mroIn K C (.type "BaseException") = some true
  atc : findIn K (.ref C) "__class__" = some (some (.builtin "object.__class__"))
  gat : findIn K (.ref C) "__getattribute__" = some (some (.builtin "BaseException.__getattribute__"))
  gtr : findIn K (.ref C) "__getattr__" = some none
end
section
variable {X : Cx}
end
end Kx
set_option Elab.async false
set_option linter.all false
set_option maxRecDepth 100000
namespace Kx
open PySem PySem.Spec L2 PyProof.Rows PySem.W
def Tab (H : Hp) (P : Addr) : Prop := ∃ ps, H P = some (.tbl ps) ∧ TriplesOk ps.toList
structure Blt (X : Cx) (bm : Addr) (ob : Obj) : Prop where
  name : X.mg "__builtins__" = some (.ref bm)
  ne : bm ≠ builtinsNs
  obj : X.base.get? bm = some ob
  cls : ob.cls = .type "module"
  dict : ob.dict = some builtinsNs
  data : ob.data = .plain
section
variable {X : Cx}
theorem Inv.tabbed {pins : List (Addr × Obj)} {σ : L2.St} {H : Hp} {s s' : Shared} {P : Addr} {ps more : Array Value} (I : L2.Inv X pins σ H s) (hP : H P = some (.tbl ps)) (k : ∀ b o, b ≠ P → s.heap.get? b = some o → s'.heap.get? b = some o)
    (hT : s'.heap.get? P = some { cls := .none, data := .fields (ps ++ more) }) (hg : AllBare s'.gens) (ho : s'.os = s.os) : L2.Inv X pins σ (L2.upd H P (.tbl (ps ++ more))) s' := by
  obtain ⟨h', g', d', t', o'⟩ := s'
  obtain rfl : o' = s.os := ho
  have ne : ∀ b, H b = none → b ≠ P := fun b q z => by rw [z, hP] at q; cases q
  refine I.step (ch := []) (fun _ z => nomatch z) (fun b o _ _ _ e n => k b o (ne b n) e) (fun b o _ _ _ e n => ⟨o.slots, k b o (ne b n) e⟩) (fun b o _ e n => by rw [upd_ne (ne b n)]; exact n) (fun b o _ e => ?_) (fun b xs e => ?_) (fun b o u e => ?_) (fun b qs e => ?_) (fun m hm => ?_) (fun b u e => ?_) hg
  · by_cases hb : b = P
    · subst hb; exact ⟨_, hT⟩
    · exact ⟨o, k b o hb e⟩
  · have hb : b ≠ P := fun z => by rw [z, hP] at e; cases e
    rw [upd_ne hb]; exact e
  · have hb : b ≠ P := fun z => by rw [z, hP] at e; cases e
    rw [upd_ne hb]; exact e
  · by_cases hb : b = P
    · subst hb
      rw [hP] at e
      cases e
      exact ⟨more, upd_same⟩
    · exact ⟨#[], by rw [upd_ne hb, e]; simp⟩
  · obtain ⟨o, es, ep, ho, r⟩ := hm
    exact ⟨o, es, ep, k _ o (ne _ I.free) ho, r⟩
  · by_cases hb : b = P
    · subst hb
      rw [upd_same] at e
      cases e
      exact hT
    · rw [upd_ne hb] at e
      refine (I.hok b u e).stay (fun c v hc q => k c v (fun z => ?_) q) (fun c q => ?_) fun c xs q => ?_
      · rcases hc with y | y
        · exact hb (y ▸ z)
        · rw [z, hP] at y; cases y
      · have hc : c ≠ P := fun z => by rw [z, hP] at q; cases q
        rw [upd_ne hc]; exact q
      · have hc : c ≠ P := fun z => by rw [z, hP] at q; cases q
        rw [upd_ne hc]; exact q
end
end Kx
set_option Elab.async false
set_option linter.all false
set_option maxRecDepth 100000
namespace Kx
open PySem PySem.Spec L2 PyProof.Rows PySem.W
def BltB (mg : Str → Option Value) (h : Heap) : Prop := ∃ bm ob, mg "__builtins__" = some (.ref bm) ∧ bm ≠ builtinsNs ∧ h.get? bm = some ob ∧ ob.cls = .type "module" ∧ ob.dict = some builtinsNs ∧ ob.data = .plain
end Kx
namespace L2
open PySem PySem.Spec PyProof.Rows
def CodeAt (H : Hp) (q : Str) (cv : Value) : Prop := ∃ (c : Addr) (oc : Obj) (vs : Array Value) (t : Tok), cv = .ref c ∧ H c = some (.frz oc (.own 0)) ∧ oc.data = .fields vs ∧ vs[1]? = some (.str q t)
def TabL (H : Hp) (P : Addr) (pos : Pos) (q : Str) : Prop := ∃ ps, H P = some (.tbl ps) ∧ TriplesOk ps.toList ∧ ∀ cv, codeAmong pos ps.toList = some cv → CodeAt H q cv
end L2
set_option Elab.async false
set_option linter.all false
set_option maxRecDepth 100000
namespace Kx
open PySem PySem.Spec L2 PyProof.Rows PySem.W
section
variable {X : Cx}
variable {o e e1 e2 : Expr} {to te te1 te2 : TE} {apos pos : Pos}
end
end Kx
namespace Kx
open PySem PySem.Spec L2 PyProof.Rows PySem.W
section
variable {X : Cx}
abbrev TJ := L2.St → Hp → Str → VK → Prop
def PJ (X : Cx) (ps : List Expr) (t : TJ) : Prop :=
  ∀ (pins : List (Addr × Obj)) (s : Shared) (σ : L2.St) (H : Hp) (out : Str) (Q : VK), L2.Inv X pins σ H s → t σ H out Q → wpAny (model X.prog X.w) X.A (joinParts out (evalEach ps X.env)) (EP X pins σ Q) X.xe s
theorem pj_nil : PJ X [] (fun _ H out Q => out.length ≤ sizeLine ∧ Q (.str out) H) := fun pins s σ H out Q I h =>
  joinParts_nil ⟨.str out, H, I.tok _, ⟨_, rfl⟩, h.2⟩ h.1
theorem pj_val {e : Expr} {es : List Expr} {pos : Pos} {te : TE} {t : TJ} (he : PE X e te) (hr : PJ X es t) : PJ X (.FormattedValue e (-1) none pos :: es) (fun σ H out Q => te σ H fun v H1 =>
    (∃ y, v = .str y ∧ y.length ≤ sizeLine ∧ (out ++ y).length ≤ sizeLine ∧ t σ H1 (out ++ y) Q) ∨ ∃ i : Int, v = .int i ∧ i.natAbs.log2 < 1920 ∧ (out ++ (toString i : Str)).length ≤ sizeLine ∧ t σ H1 (out ++ (toString i : Str)) Q) := by
  intro pins s σ H out Q I h
  show wpAny _ _ (joinParts out (eval (.FormattedValue e (-1) none pos) X.env :: evalEach es X.env)) _ _ s
  refine joinParts_cons (FormattedValue_plain (thn (he pins s σ H _ I h) fun v s1 hq => ?_))
  obtain ⟨y, H1, I1, r1, hq⟩ := hq
  rcases hq with ⟨z, rfl, hz, hl, q⟩ | ⟨i, rfl, hi, hl, q⟩
  · obtain ⟨t', rfl⟩ := r1
    exact formatField_str (fun t2 tk => ⟨hl, hr pins _ σ H1 _ Q (I1.tok tk) q⟩) hz
  · obtain ⟨t', rfl⟩ := r1
    exact formatField_int_small hi ⟨hl, hr pins _ σ H1 _ Q (I1.tok _) q⟩
theorem pe_fstr {e1 e2 : Expr} {es : List Expr} {pos : Pos} {t : TJ} (h : PJ X (e1 :: e2 :: es) t) : PE X (.JoinedStr (e1 :: e2 :: es) pos) (fun σ H Q => t σ H Str.empty Q) := by
  intro pins s σ H Q I hq
  exact JoinedStr_many (h pins s σ H Str.empty Q I hq)
end
end Kx
namespace Kx
open PySem PySem.Spec L2 PyProof.Rows PySem.W
section
variable {X : Cx}
end
end Kx
namespace Kx
open PySem PySem.Spec L2 PyProof.Rows PySem.W
section
variable {P : Program} {w : World} {K : PySem.W.Frag} {mg : Str → Option Value} {base : Heap} {x qual : Str} {st : Stmt} {f : Addr} {fd : FuncData} {N ps : List Str} {k : Nat} {sp : Sp}
end
end Kx
set_option Elab.async false
set_option linter.all false
set_option maxRecDepth 100000
namespace Kx
open PySem PySem.NumText
def mkS (l : List Nat) : Str := ⟨l.toArray⟩
theorem tl_mk (l : List Nat) : (mkS l).cps.toList = l := by unfold mkS; simp
theorem len_mk (l : List Nat) : (mkS l).length = l.length := by unfold mkS Str.length; simp
theorem ext_mk {x : Str} {l : List Nat} (h : x.cps.toList = l) : x = mkS l := by
  obtain ⟨a⟩ := x
  unfold mkS
  rw [← h]
theorem app_mk (a b : List Nat) : mkS a ++ mkS b = mkS (a ++ b) := ext_mk (by
  show ((mkS a).cps ++ (mkS b).cps).toList = _
  rw [Array.toList_append, tl_mk, tl_mk])
theorem one_cps (c : Nat) : (mkS [c]).cps = #[c] := rfl
theorem nought : (Str.ofString "0") = mkS [48] := by decide +kernel
theorem strip_take {p : Nat → Bool} (l : List Nat) : l.take (l.length - (l.reverse.takeWhile p).length) = (l.reverse.dropWhile p).reverse := by
  have e : l.reverse.takeWhile p ++ l.reverse.dropWhile p = l.reverse := List.takeWhile_append_dropWhile
  have e2 : l = (l.reverse.dropWhile p).reverse ++ (l.reverse.takeWhile p).reverse := by rw [← List.reverse_append, e, List.reverse_reverse]
  have e3 : (l.reverse.takeWhile p).length + (l.reverse.dropWhile p).length = l.length := by
    rw [← List.length_append, e, List.length_reverse]
  generalize l.reverse.takeWhile p = A at *
  generalize l.reverse.dropWhile p = B at *
  subst e2
  rw [List.take_append_of_le_length (by rw [List.length_reverse]; omega), List.take_of_length_le (by rw [List.length_reverse]; omega)]
theorem rs (l : List Nat) : Txt.rstripChars (mkS l) (Str.ofString "0") = mkS (l.reverse.dropWhile (· == 48)).reverse := by
  rw [nought]
  unfold Txt.rstripChars
  rw [PyProof.Rows.stripBy_eq]
  refine ext_mk ?_
  rw [StrLaws.strSub_toList, tl_mk]
  unfold stripLo stripHi
  rw [if_neg Bool.false_ne_true, if_pos rfl, List.drop_zero, tl_mk, List.drop_zero, Nat.sub_zero, len_mk]
  have e : (mkS [48]).cps.contains = fun c : Nat => c == 48 := by
    funext c
    rw [one_cps]
    simp [Array.contains, Bool.beq_comm]
  rw [e]
  exact strip_take l
theorem dv_cons (c : Nat) (B : List Nat) : digitsVal (c :: B) = (c - 48) * 10 ^ B.length + digitsVal B := by
  have key : ∀ (B : List Nat) (a : Nat), B.foldl (fun acc c => acc * 10 + (c - 48)) a = a * 10 ^ B.length + B.foldl (fun acc c => acc * 10 + (c - 48)) 0 := by
    intro B
    induction B with
    | nil => intro a; simp
    | cons d B ih =>
      intro a
      rw [List.foldl_cons, ih, List.foldl_cons, ih (0 * 10 + (d - 48)), List.length_cons, Nat.pow_succ, Nat.add_mul]
      have e : a * 10 * 10 ^ B.length = a * (10 ^ B.length * 10) := by rw [Nat.mul_assoc, Nat.mul_comm 10]
      rw [e, Nat.zero_mul, Nat.zero_add, Nat.add_assoc]
  unfold digitsVal
  rw [List.foldl_cons, key, Nat.zero_mul, Nat.zero_add]
theorem dv_app (A B : List Nat) : digitsVal (A ++ B) = digitsVal A * 10 ^ B.length + digitsVal B := by
  induction A with
  | nil => simp [digitsVal]
  | cons c A ih =>
    rw [List.cons_append, dv_cons, ih, dv_cons, List.length_append, Nat.pow_add, Nat.add_mul, Nat.mul_assoc, Nat.add_assoc]
theorem dv_lt {l : List Nat} (h : AllDigits l) : digitsVal l < 10 ^ l.length := by
  induction l with
  | nil => decide
  | cons c B ih =>
    have h1 := h.head
    have h2 := ih h.tail
    rw [dv_cons, List.length_cons, Nat.pow_succ]
    have : (c - 48) * 10 ^ B.length ≤ 9 * 10 ^ B.length := Nat.mul_le_mul_right _ (by omega)
    omega
theorem app_digits {A B : List Nat} (a : AllDigits A) (b : AllDigits B) : AllDigits (A ++ B) := fun c hc => (List.mem_append.mp hc).elim (a c) (b c)
end Kx
set_option Elab.async false
set_option linter.all false
set_option maxRecDepth 100000
namespace Kx
open PySem PySem.NumText L2
structure Num (neg : Bool) (A D : List Nat) : Prop where
  a : AllDigits A
  d : AllDigits D
  a0 : A ≠ []
  al : A.length ≤ 15
  dl : D.length ≤ 12
  az : A = [48] ∨ ∀ r, A ≠ 48 :: r
  dz : ∀ r, D ≠ r ++ [48]
  nz : neg = true → ¬ (A = [48] ∧ D = [])
def sgI (neg : Bool) : Int := if neg then -1 else 1
theorem dv_one (l : List Nat) (c : Nat) : digitsVal (l ++ [c]) = digitsVal l * 10 + (c - 48) := by
  rw [dv_app]
  simp [digitsVal]
end Kx
set_option Elab.async false
set_option linter.all false
set_option maxRecDepth 100000
namespace Kx
open PySem PySem.NumText L2
theorem join_mk (l : List Nat) : Txt.join (Str.ofString "") (l.map fun c => (⟨#[c]⟩ : Str)) = mkS l := by
  rw [show Str.ofString "" = mkS [] from by decide +kernel]
  rw [TL.join_eq]
  induction l with
  | nil => rfl
  | cons c r ih =>
    cases r with
    | nil => rfl
    | cons d q =>
      show mkS [c] ++ mkS [] ++ Str.join (mkS []) ((d :: q).map fun c => (⟨#[c]⟩ : Str)) = _
      rw [ih, app_mk, app_mk]
      rfl
end Kx
set_option Elab.async false
set_option linter.all false
set_option maxRecDepth 100000
namespace Kx
open PySem PySem.NumText L2
theorem tw {a b : List Nat} (h : 46 ∉ a) : (a ++ 46 :: b).takeWhile (· != 46) = a ∧ (a ++ 46 :: b).dropWhile (· != 46) = 46 :: b := by
  induction a with
  | nil => exact ⟨rfl, rfl⟩
  | cons c r ih =>
    have hc : (c != 46) = true := by
      have : c ≠ 46 := fun z => h (by rw [z]; simp)
      simp [this]
    have := ih (fun z => h (List.mem_cons_of_mem _ z))
    simp only [List.cons_append, List.takeWhile_cons, List.dropWhile_cons, hc, if_true]
    exact ⟨by rw [this.1], this.2⟩
end Kx
set_option Elab.async false
set_option linter.all false
set_option maxRecDepth 100000
namespace Kx
open PySem PySem.Spec L2 PyProof.Rows PySem.W
section
variable {X : Cx} {pos : Pos}
end
def lowG (t b : Int) : Int := if b < 0 then -((Int.gcd t b : Nat) : Int) else ((Int.gcd t b : Nat) : Int)
def lowT (t b : Int) : Int := t.fdiv (lowG t b)
def lowB (t b : Int) : Int := b.fdiv (lowG t b)
theorem lowG_pos {t b : Int} (hb : 0 < b) : lowG t b = ((Int.gcd t b : Nat) : Int) ∧ 0 < ((Int.gcd t b : Nat) : Int) := by
  have gp : 0 < Int.gcd t b := Int.gcd_pos_of_ne_zero_right t (by omega)
  exact ⟨by unfold lowG; rw [if_neg (by omega)], by omega⟩
theorem low_mul {t b : Int} (hb : 0 < b) : ∃ g : Int, 0 < g ∧ t = g * lowT t b ∧ b = g * lowB t b := by
  obtain ⟨hG, gp⟩ := lowG_pos (t := t) hb
  refine ⟨((Int.gcd t b : Nat) : Int), gp, ?_, ?_⟩
  · unfold lowT
    rw [hG, Int.fdiv_eq_ediv_of_nonneg _ (by omega)]
    exact (Int.mul_ediv_cancel' (Int.gcd_dvd_left t b)).symm
  · unfold lowB
    rw [hG, Int.fdiv_eq_ediv_of_nonneg _ (by omega)]
    exact (Int.mul_ediv_cancel' (Int.gcd_dvd_right t b)).symm
theorem low_scale {t b m : Int} (hb : 0 < b) (hm : 0 < m) : lowT (t * m) (b * m) = lowT t b ∧ lowB (t * m) (b * m) = lowB t b := by
  obtain ⟨hG, gp⟩ := lowG_pos (t := t) hb
  have hbm : 0 < b * m := Int.mul_pos hb hm
  have hG2 : lowG (t * m) (b * m) = ((Int.gcd t b : Nat) : Int) * m := by
    unfold lowG
    rw [if_neg (by omega), Int.gcd_mul_right, Int.natCast_mul, Int.natAbs_of_nonneg (by omega)]
  have hp2 : 0 ≤ ((Int.gcd t b : Nat) : Int) * m := Int.le_of_lt (Int.mul_pos (by omega) hm)
  unfold lowT lowB
  rw [hG, hG2, Int.fdiv_eq_ediv_of_nonneg _ hp2, Int.fdiv_eq_ediv_of_nonneg _ hp2, Int.fdiv_eq_ediv_of_nonneg _ (by omega), Int.fdiv_eq_ediv_of_nonneg _ (by omega)]
  exact ⟨Int.mul_ediv_mul_of_pos_left _ _ hm, Int.mul_ediv_mul_of_pos_left _ _ hm⟩
theorem low_pos {t b : Int} (hb : 0 < b) : 1 ≤ lowB t b ∧ lowB t b ≤ b ∧ (lowT t b).natAbs ≤ t.natAbs := by
  obtain ⟨g, g0, et, eb⟩ := low_mul (t := t) hb
  have b0 : 0 < lowB t b := by
    rcases Int.lt_or_le 0 (lowB t b) with h | h
    · exact h
    · have : g * lowB t b ≤ 0 := Int.mul_nonpos_of_nonneg_of_nonpos (by omega) h
      omega
  refine ⟨by omega, ?_, ?_⟩
  · have : 1 * lowB t b ≤ g * lowB t b := Int.mul_le_mul_of_nonneg_right (by omega) (by omega)
    omega
  · have e := congrArg Int.natAbs et
    rw [Int.natAbs_mul] at e
    rw [e]
    exact Nat.le_mul_of_pos_left _ (by omega)
def Lw (t b : Int) : Prop := 0 < b ∧ lowT t b = t ∧ lowB t b = b
theorem lw_low {t b : Int} (hb : 0 < b) : Lw (lowT t b) (lowB t b) := by
  obtain ⟨g, g0, et, eb⟩ := low_mul (t := t) hb
  have p := low_pos (t := t) hb
  have h := low_scale (t := lowT t b) (b := lowB t b) (m := g) (by omega) g0
  rw [Int.mul_comm _ g, Int.mul_comm _ g, ← et, ← eb] at h
  exact ⟨by omega, h.1.symm, h.2.symm⟩
def R (j : Nat) : Int := (if j % 3 = 0 then 1 else if j % 3 = 1 then 2 else 5) * 10 ^ (j / 3)
theorem R0 (q : Nat) : R (3 * q) = 1 * 10 ^ q := by
  unfold R
  rw [if_pos (by omega), show 3 * q / 3 = q by omega]
theorem R1 (q : Nat) : R (3 * q + 1) = 2 * 10 ^ q := by
  unfold R
  rw [if_neg (by omega), if_pos (by omega), show (3 * q + 1) / 3 = q by omega]
theorem R2 (q : Nat) : R (3 * q + 2) = 5 * 10 ^ q := by
  unfold R
  rw [if_neg (by omega), if_neg (by omega), show (3 * q + 2) / 3 = q by omega]
theorem R3 (q : Nat) : R (3 * q + 3) = 10 * 10 ^ q := by
  rw [show 3 * q + 3 = 3 * (q + 1) by omega, R0, Int.pow_succ]
  omega
theorem ten_pos (n : Nat) : (0 : Int) < 10 ^ n := Int.pow_pos (by decide)
theorem R_pos (j : Nat) : 0 < R j := by
  unfold R
  refine Int.mul_pos ?_ (ten_pos _)
  split
  · decide
  · split <;> decide
theorem R_dbl (j : Nat) : R j < 2 * R j ∧ 2 * R j ≤ R (j + 1) := by
  have p := R_pos j
  refine ⟨by omega, ?_⟩
  have t := ten_pos (j / 3)
  rcases (by omega : j = 3 * (j / 3) ∨ j = 3 * (j / 3) + 1 ∨ j = 3 * (j / 3) + 2) with h | h | h
  · rw [h, R0, R1]; omega
  · rw [h, R1, show 3 * (j / 3) + 1 + 1 = 3 * (j / 3) + 2 by omega, R2]; omega
  · rw [h, R2, show 3 * (j / 3) + 2 + 1 = 3 * (j / 3) + 3 by omega, R3]; omega
theorem R_lt {i j : Nat} (h : i < j) : R i < R j := by
  induction j with
  | zero => omega
  | succ j ih =>
    have := R_dbl j
    rcases Nat.lt_or_ge i j with c | c
    · have := ih c
      omega
    · rw [show i = j by omega]
      omega
theorem R_le {i j : Nat} (h : i ≤ j) : R i ≤ R j := by
  rcases Nat.lt_or_ge i j with c | c
  · exact Int.le_of_lt (R_lt c)
  · rw [show i = j by omega]
    exact Int.le_refl _
def Nx (L : Nat) (t b : Int) (j : Nat) : Prop := t * 10 ^ L ≤ R j * b ∧ ∀ i, i < j → R i * b < t * 10 ^ L
theorem Nx.uniq {L : Nat} {t b : Int} {i j : Nat} (h : Nx L t b i) (h' : Nx L t b j) : i = j := by
  rcases Nat.lt_trichotomy i j with c | c | c
  · have := h'.2 i c
    have := h.1
    omega
  · exact c
  · have := h.2 j c
    have := h'.1
    omega
theorem Nx.lt {L : Nat} {t b : Int} {j n : Nat} (h : Nx L t b j) (hn : t * 10 ^ L ≤ R n * b) : j ≤ n := by
  rcases Nat.lt_or_ge n j with c | c
  · have := h.2 n c
    omega
  · exact c
def ld (i : Nat) : Int := if i = 0 then 1 else if i = 1 then 2 else 5
theorem Bd.ten {n : Nat} {x : Int} (h : Bd n x) : Bd (n + 4) (10 * x) := by
  unfold Bd at *
  rw [Int.natAbs_mul, Nat.pow_add]
  show 10 * x.natAbs < _
  omega
end Kx
set_option Elab.async false
set_option linter.all false
set_option maxRecDepth 100000
namespace Kx
open PySem PySem.Spec L2 PyProof.Rows PySem.W
structure CalM (P : Program) (w : World) (K : PySem.W.Frag) (mg : Str → Option Value) (base : Heap) (CX : CXT) (k : Nat) (C : Addr) (m : Str) (ps : List Str) (sp : Sp) : Prop where
  ex : ∃ (f : Addr) (fd : FuncData), Meth K C m f ∧ FnOk P w K mg base CX k f fd ps sp ∧ Binds K fd ps []
structure CalK (P : Program) (w : World) (K : PySem.W.Frag) (mg : Str → Option Value) (base : Heap) (CX : CXT) (k : Nat) (C : Addr) (x : Str) (ps : List Str) (sp : Sp) : Prop where
  ex : ∃ (f : Addr) (fd : FuncData), Mk K C f ∧ FnOk P w K mg base CX k f fd ps sp ∧ Binds K fd ps [] ∧ mg x = some (.ref C)
section
variable {X : Cx} {CX : CXT} {j k : Nat} {ps : List Str} {sp : Sp} {E : XK} {C : Addr} {m x : Str} {o e : Expr} {es : List Expr} {apos p pos : Pos} {ta : TE} {t : TA}
end
def clsBody (s : Stmt) (i : Nat) : Stmt := match s with
  | .ClassDef _ _ _ body _ _ _ _ _ _ _ => body.getD i (.Pass ⟨0, 0, 0, 0⟩)
  | _ => .Pass ⟨0, 0, 0, 0⟩
end Kx
set_option Elab.async false
set_option linter.all false
set_option maxRecDepth 100000
namespace Kx
open PySem L2
end Kx
set_option Elab.async false
set_option linter.all false
set_option maxRecDepth 100000
namespace Kx
open PySem PySem.Spec L2 PyProof.Rows PySem.W
section
variable {X : Cx} {tg : Expr}
end
end Kx
set_option Elab.async false
set_option linter.all false
set_option maxRecDepth 100000
namespace Kx
open PySem PySem.Spec L2 PyProof.Rows PySem.W
section
variable {X : Cx}
theorem call_isiLL : CallR X (.builtin "isinstance") (fun xs H Q => ∃ a ys, xs = [.ref a, .ty "list"] ∧ SqL X.K H a ys ∧ Q (.bl true) H) := by
  intro pins s σ H xs us Q I r h
  obtain ⟨a, ys, rfl, ha, q⟩ := h
  obtain ⟨u1, u2, rfl, r1, r2⟩ : ∃ u1 u2, us = [u1, u2] ∧ RelV (.ref a) u1 ∧ RelV (.ty "list") u2 := by
    cases r with | cons a r => cases r with | cons b r => cases r with | nil => exact ⟨_, _, rfl, a, b⟩
  cases r1
  cases r2
  have f0 : EP X pins σ Q (.bool true) s := ⟨.bl true, H, I, rfl, q⟩
  obtain ⟨its, _, ht, _⟩ := I.list ha
  exact PyProof.Rows.call_isinstance_yes (Tx := "list") ht.isList.typeIs PySem.F.isi_meta_list PySem.F.isi_self_list f0
end
end Kx
set_option Elab.async false
set_option linter.all false
set_option maxRecDepth 100000
namespace Kx
open PySem L2
end Kx
set_option Elab.async false
set_option linter.all false
set_option maxRecDepth 100000
set_option autoImplicit false
namespace Dt
open PySem L2 Kx
inductive D where
  | non | bl (b : Bool) | int (i : Int) | str (x : Str) | ty (n : String) | scr (xs : List D) | lst (xs : List D) | tup (xs : List D) | obj (c : Str) (ns : List Str) (xs : List D) | dic (ks : List Key) (xs : List D) | exc (c : Str) (ns : List Str) (xs : List D)
def excD (a C dx : Addr) : HO := .ext fun h => ∃ o vs, h.get? a = some o ∧ o.cls = .ref C ∧ o.data = .fields vs ∧ o.dict = some dx
def ExcC (F : Hp) (a C : Addr) (ns : List Str) (vs : List V) : Prop := (ns = [] ∧ F a = some (excH a C)) ∨ ns ≠ [] ∧ ∃ dx, F a = some (excD a C dx) ∧ F dx = some (.xd (ns.zip vs))
theorem ExcC.same {F F' : Hp} {a C : Addr} {ns : List Str} {vs : List V} (h : ExcC F a C ns vs) (g : Same F F') : ExcC F' a C ns vs := h.elim (fun h => .inl ⟨h.1, g _ _ h.2⟩) fun ⟨h0, dx, h1, h2⟩ => .inr ⟨h0, dx, g _ _ h1, g _ _ h2⟩
mutual
inductive Rep (K : PySem.W.Frag) (F : Hp) : V → D → Prop
  | non : Rep K F .non .non
  | bl (b : Bool) : Rep K F (.bl b) (.bl b)
  | int (i : Int) : Rep K F (.int i) (.int i)
  | str (x : Str) : Rep K F (.str x) (.str x)
  | ty (n : String) : Rep K F (.ty n) (.ty n)
  | scr {a : Addr} {vs : List V} {ds : List D} : SqL K F a vs → RepA K F vs ds → Rep K F (.ref a) (.scr ds)
  | lst {a : Addr} {vs : List V} {ds : List D} : F a = some (.lst vs) → RepA K F vs ds → Rep K F (.ref a) (.lst ds)
  | tup {a : Addr} {vs : List V} {ds : List D} : SqT K F a vs → RepA K F vs ds → Rep K F (.ref a) (.tup ds)
  | obj {a dx C : Addr} {c : Str} {ns : List Str} {vs : List V} {ds : List D} : PySem.W.nsIn K mainGlobals c = some (some (.ref C)) → F a = some (.ins C dx (ns.zip vs)) → RepA K F vs ds → Rep K F (.ref a) (.obj c ns ds)
  | dic {a : Addr} {ks : List Key} {vs : List V} {ds : List D} : F a = some (.dK (ks.zip vs)) → ks.length = vs.length → RepA K F vs ds → Rep K F (.ref a) (.dic ks ds)
  | exc {a C : Addr} {c : Str} {ns : List Str} {vs : List V} {ds : List D} : PySem.W.nsIn K mainGlobals c = some (some (.ref C)) → ExcC F a C ns vs → RepA K F vs ds → Rep K F (.ref a) (.exc c ns ds)
inductive RepA (K : PySem.W.Frag) (F : Hp) : List V → List D → Prop
  | nil : RepA K F [] []
  | cons {v : V} {d : D} {vs : List V} {ds : List D} : Rep K F v d → RepA K F vs ds → RepA K F (v :: vs) (d :: ds)
end
section
variable {K : PySem.W.Frag} {F F' H H' : Hp}
theorem rd_same {a : Addr} {o : HO} (h : L2.Rd H a o) (g : Same H H') : L2.Rd H' a o := by
  rcases h with h | ⟨x, h⟩
  · exact .inl (g _ _ h)
  · exact .inr ⟨x, g _ _ h⟩
theorem sql_same {a : Addr} {xs : List V} (h : SqL K H a xs) (g : Same H H') : SqL K H' a xs := h.elim (fun h => .inl (rd_same h g)) .inr
theorem sqt_same {a : Addr} {xs : List V} (h : SqT K H a xs) (g : Same H H') : SqT K H' a xs := h.elim (fun h => .inl (rd_same h g)) .inr
mutual
theorem Rep.mono (g : Same F F') : ∀ {v : V} {d : D}, Rep K F v d → Rep K F' v d
  | _, _, .non => .non
  | _, _, .bl b => .bl b
  | _, _, .int i => .int i
  | _, _, .str x => .str x
  | _, _, .ty n => .ty n
  | _, _, .scr h r => .scr (sql_same h g) (RepA.mono g r)
  | _, _, .lst h r => .lst (g _ _ h) (RepA.mono g r)
  | _, _, .tup h r => .tup (sqt_same h g) (RepA.mono g r)
  | _, _, .obj c h r => .obj c (g _ _ h) (RepA.mono g r)
  | _, _, .dic h l r => .dic (g _ _ h) l (RepA.mono g r)
  | _, _, .exc c h r => .exc c (h.same g) (RepA.mono g r)
theorem RepA.mono (g : Same F F') : ∀ {vs : List V} {ds : List D}, RepA K F vs ds → RepA K F' vs ds
  | _, _, .nil => .nil
  | _, _, .cons h r => .cons (Rep.mono g h) (RepA.mono g r)
end
theorem RepA.length : ∀ {vs : List V} {ds : List D}, RepA K F vs ds → vs.length = ds.length
  | _, _, .nil => rfl
  | _, _, .cons _ r => congrArg (· + 1) (RepA.length r)
theorem RepA.get : ∀ {vs : List V} {ds : List D} {i : Nat} {d : D}, RepA K F vs ds → ds[i]? = some d → ∃ v, vs[i]? = some v ∧ Rep K F v d
  | _, _, _, _, .nil, e => by simp at e
  | _, _, 0, _, .cons h _, e => by simp at e; subst e; exact ⟨_, rfl, h⟩
  | _, _, i + 1, d, .cons _ r, e => by
    obtain ⟨u, h1, h2⟩ := RepA.get (i := i) (d := d) r (by simpa using e)
    exact ⟨u, by simpa using h1, h2⟩
theorem RepA.append : ∀ {vs ws : List V} {ds es : List D}, RepA K F vs ds → RepA K F ws es → RepA K F (vs ++ ws) (ds ++ es)
  | _, _, _, _, .nil, s => s
  | _, _, _, _, .cons h r, s => .cons h (RepA.append r s)
theorem RepA.set {v : V} {d : D} (h : Rep K F v d) : ∀ {vs : List V} {ds : List D} (i : Nat), RepA K F vs ds → RepA K F (vs.set i v) (ds.set i d)
  | _, _, _, .nil => .nil
  | _, _, 0, .cons _ r => .cons h r
  | _, _, i + 1, .cons q r => .cons q (RepA.set h i r)
theorem RepA.take : ∀ {vs : List V} {ds : List D} (n : Nat), RepA K F vs ds → RepA K F (vs.take n) (ds.take n)
  | _, _, 0, _ => .nil
  | _, _, _ + 1, .nil => .nil
  | _, _, n + 1, .cons h r => .cons h (RepA.take n r)
theorem RepA.drop : ∀ {vs : List V} {ds : List D} (n : Nat), RepA K F vs ds → RepA K F (vs.drop n) (ds.drop n)
  | _, _, 0, r => r
  | _, _, _ + 1, .nil => .nil
  | _, _, n + 1, .cons _ r => RepA.drop n r
theorem RepA.reverse : ∀ {vs : List V} {ds : List D}, RepA K F vs ds → RepA K F vs.reverse ds.reverse
  | _, _, .nil => .nil
  | _, _, .cons h r => by
    rw [List.reverse_cons, List.reverse_cons]
    exact RepA.append (RepA.reverse r) (.cons h .nil)
theorem RepA.ints : ∀ {vs : List V} {ns : List Int}, RepA K F vs (ns.map D.int) → vs = ns.map V.int
  | _, [], .nil => rfl
  | _, _ :: _, .cons h r => by cases h; rw [List.map_cons, RepA.ints r]
theorem RepA.ofInts : ∀ {ns : List Int}, RepA K F (ns.map V.int) (ns.map D.int)
  | [] => .nil
  | _ :: _ => .cons (.int _) RepA.ofInts
theorem RepA.strs : ∀ {vs : List V} {xs : List Str}, RepA K F vs (xs.map D.str) → vs = xs.map V.str
  | _, [], .nil => rfl
  | _, _ :: _, .cons h r => by cases h; rw [List.map_cons, RepA.strs r]
end
inductive En where
  | shr (d : D) | own (ds : List D)
def En.dat : En → D
  | .shr d => d
  | .own ds => .lst ds
abbrev Gm := List (Option En)
inductive R where
  | val (d : D) | new (ds : List D) | slot (i : Nat)
def R.at (Γ : Gm) : R → Option D
  | .val d => some d
  | .new ds => some (.lst ds)
  | .slot i => match Γ[i]? with
    | some (some e) => some e.dat
    | _ => none
structure Tb where
  K : PySem.W.Frag
  ts : List Addr
  ls : List (Addr × Pos × Str)
def RepE (K : PySem.W.Frag) (F H : Hp) (v : V) : En → Prop
  | .shr d => Rep K F v d
  | .own ds => ∃ a vs, v = .ref a ∧ H a = some (.lst vs) ∧ F a = none ∧ RepA K F vs ds
def Owns (σ : St) (Γ : Gm) (b : Addr) : Prop := ∃ (i : Nat) (ds : List D), Γ[i]? = some (some (En.own ds)) ∧ σ[i]? = some (some (V.ref b))
def NoT (o : HO) : Prop := ∀ ps, o ≠ .tbl ps
structure Ok (T : Tb) (F H : Hp) : Prop where
  sub : Same F H
  nt : ∀ b o, F b = some o → NoT o
  tabs : ∀ P ∈ T.ts, Tab H P
  labs : ∀ p ∈ T.ls, TabL H p.1 p.2.1 p.2.2
structure Rp (T : Tb) (F : Hp) (σ : St) (H : Hp) (Γ : Gm) : Prop extends Ok T F H where
  len : Γ.length = σ.length
  at_ : ∀ (i : Nat) (e : En), Γ[i]? = some (some e) → ∃ v, σ[i]? = some (some v) ∧ RepE T.K F H v e
  apart : ∀ (i j : Nat) (ds ds' : List D) (v : V), Γ[i]? = some (some (En.own ds)) → Γ[j]? = some (some (En.own ds')) → σ[i]? = some (some v) → σ[j]? = some (some v) → i = j
structure Nw (T : Tb) (F H F' H' : Hp) : Prop where
  ok : Ok T F' H'
  ff : Same F F'
  hh : ∀ b o, H b = some o → NoT o → H' b = some o
  gro : ∀ b o, H b = some o → ∃ o', H' b = some o'
  nf : ∀ b o, F' b = some o → F b = some o ∨ H b = none
section
variable {T : Tb} {F F1 F2 F' H H1 H2 H' : Hp} {σ : St} {Γ Γ1 Γ2 Γ' : Gm}
theorem Ok.refl (o : Ok T F H) : Nw T F H F H := ⟨o, fun _ _ h => h, fun _ _ h _ => h, fun _ o h => ⟨o, h⟩, fun _ _ h => .inl h⟩
theorem tab_new {P p : Addr} {o : HO} (h : H p = none) (t : Tab H P) : Tab (upd H p o) P := by
  obtain ⟨ps, e, q⟩ := t
  exact ⟨ps, same_new h o _ _ e, q⟩
theorem tab_lst {P p : Addr} {vs : List V} {o : HO} (h : H p = some (.lst vs)) (t : Tab H P) : Tab (upd H p o) P := by
  obtain ⟨ps, e, q⟩ := t
  refine ⟨ps, ?_, q⟩
  rw [upd_ne (ne_of e h (by intro z; cases z))]
  exact e
theorem codeAt_sub {q : Str} {cv : Value} (x : CodeAt H q cv) (h : ∀ b o, H b = some o → NoT o → H' b = some o ∨ ∃ vs, o = .lst vs) : CodeAt H' q cv := by
  obtain ⟨c, oc, vs, t, e, hc, r⟩ := x
  refine ⟨c, oc, vs, t, e, ?_, r⟩
  rcases h c _ hc (fun _ z => by cases z) with y | ⟨_, y⟩
  · exact y
  · cases y
theorem lab_new {P p : Addr} {pos : Pos} {q : Str} {o : HO} (h : H p = none) (t : TabL H P pos q) : TabL (upd H p o) P pos q := by
  obtain ⟨ps, e, r, c⟩ := t
  exact ⟨ps, same_new h o _ _ e, r, fun cv hcv => codeAt_sub (c cv hcv) fun b u e _ => .inl (same_new h o b u e)⟩
theorem lab_lst {P p : Addr} {pos : Pos} {q : Str} {vs : List V} {o : HO} (h : H p = some (.lst vs)) (t : TabL H P pos q) : TabL (upd H p o) P pos q := by
  obtain ⟨ps, e, r, c⟩ := t
  refine ⟨ps, ?_, r, fun cv hcv => codeAt_sub (c cv hcv) fun b u e _ => ?_⟩
  · rw [upd_ne (ne_of e h (by intro z; cases z))]
    exact e
  · by_cases hb : b = p
    · subst hb
      rw [h] at e
      cases e
      exact .inr ⟨_, rfl⟩
    · exact .inl (by rw [upd_ne hb]; exact e)
theorem Ok.lay (k : Ok T F H) {p : Addr} {o : HO} (hp : H p = none) (nt : NoT o) : Nw T F H (upd F p o) (upd H p o) := by
  have fp : F p = none := by
    cases e : F p with
    | none => rfl
    | some u => have := k.sub _ _ e; rw [hp] at this; cases this
  refine ⟨⟨fun b u e => ?_, fun b u e => ?_, fun P hP => tab_new hp (k.tabs P hP), fun p hP => lab_new hp (k.labs p hP)⟩, same_new fp o, fun b u e _ => same_new hp o b u e, fun b u e => ⟨u, same_new hp o b u e⟩, fun b u e => ?_⟩
  · by_cases hb : b = p
    · subst hb; rw [upd_same] at e ⊢; exact e
    · rw [upd_ne hb] at e ⊢; exact k.sub _ _ e
  · by_cases hb : b = p
    · subst hb; rw [upd_same] at e; cases e; exact nt
    · rw [upd_ne hb] at e; exact k.nt _ _ e
  · by_cases hb : b = p
    · subst hb; exact .inr hp
    · rw [upd_ne hb] at e; exact .inl e
theorem Ok.put (k : Ok T F H) {p : Addr} {o : HO} (hp : H p = none) : Nw T F H F (upd H p o) :=
  ⟨⟨fun b u e => same_new hp o _ _ (k.sub _ _ e), k.nt, fun P hP => tab_new hp (k.tabs P hP), fun p hP => lab_new hp (k.labs p hP)⟩, fun _ _ h => h, fun b u e _ => same_new hp o b u e, fun b u e => ⟨u, same_new hp o b u e⟩, fun _ _ h => .inl h⟩
theorem lst_nt {vs : List V} : NoT (.lst vs) := fun _ z => by cases z
theorem tup_nt {vs : List V} : NoT (.tup vs) := fun _ z => by cases z
theorem RepE.nw {v : V} {e : En} (n : Nw T F H F' H') (h : RepE T.K F H v e) : RepE T.K F' H' v e := by
  cases e with
  | shr d => exact Rep.mono n.ff h
  | own ds =>
    obtain ⟨a, vs, e, ha, fa, r⟩ := h
    refine ⟨a, vs, e, n.hh _ _ ha lst_nt, ?_, r.mono n.ff⟩
    cases q : F' a with
    | none => rfl
    | some o =>
      rcases n.nf a o q with z | z
      · rw [fa] at z; cases z
      · rw [ha] at z; cases z
theorem Rp.nw (r : Rp T F σ H Γ) (n : Nw T F H F' H') : Rp T F' σ H' Γ :=
  ⟨n.ok, r.len, fun i e h => let ⟨v, e1, h1⟩ := r.at_ i e h; ⟨v, e1, h1.nw n⟩, r.apart⟩
structure Po (T : Tb) (F : Hp) (σ : St) (H : Hp) (Γ : Gm) (F' H' : Hp) (Γ' : Gm) : Prop where
  rp : Rp T F' σ H' Γ'
  ff : Same F F'
  fr : ∀ b o, H b = some o → NoT o → ¬ Owns σ Γ b → H' b = some o
  ow : ∀ (i : Nat) (ds : List D), Γ'[i]? = some (some (En.own ds)) → ∃ ds', Γ[i]? = some (some (En.own ds'))
  gro : ∀ b o, H b = some o → ∃ o', H' b = some o'
  nf : ∀ b o, F' b = some o → F b = some o ∨ H b = none ∨ Owns σ Γ b
  sl : ∀ (i : Nat) (e : En), Γ[i]? = some (some e) → ∃ e', Γ'[i]? = some (some e')
theorem Po.ows {b : Addr} (p : Po T F σ H Γ F' H' Γ') (h : Owns σ Γ' b) : Owns σ Γ b := by
  obtain ⟨i, ds, h1, h2⟩ := h
  obtain ⟨ds', h3⟩ := p.ow i ds h1
  exact ⟨i, ds', h3, h2⟩
theorem Rp.po (r : Rp T F σ H Γ) (n : Nw T F H F' H') : Po T F σ H Γ F' H' Γ :=
  ⟨r.nw n, n.ff, fun b o h t _ => n.hh b o h t, fun _ ds h => ⟨ds, h⟩, n.gro, fun b o h => (n.nf b o h).elim .inl fun z => .inr (.inl z), fun _ e h => ⟨e, h⟩⟩
theorem Rp.refl (r : Rp T F σ H Γ) : Po T F σ H Γ F H Γ := r.po r.toOk.refl
theorem Po.trans (p : Po T F σ H Γ F1 H1 Γ1) (q : Po T F1 σ H1 Γ1 F2 H2 Γ2) : Po T F σ H Γ F2 H2 Γ2 where
  rp := q.rp
  ff := fun b o h => q.ff b o (p.ff b o h)
  fr := fun b o h t n => q.fr b o (p.fr b o h t n) t fun z => n (p.ows z)
  ow := fun i ds h => let ⟨ds1, h1⟩ := q.ow i ds h; p.ow i ds1 h1
  gro := fun b o h => let ⟨o1, h1⟩ := p.gro b o h; q.gro b o1 h1
  nf := fun b o h => by
    rcases q.nf b o h with z | z | z
    · exact p.nf b o z
    · cases e : H b with
      | none => exact .inr (.inl rfl)
      | some u => obtain ⟨u', z'⟩ := p.gro b u e; rw [z] at z'; cases z'
    · exact .inr (.inr (p.ows z))
  sl := fun i e h => let ⟨e1, h1⟩ := p.sl i e h; q.sl i e1 h1
theorem Po.nw (p : Po T F σ H Γ F1 H1 Γ1) (n : Nw T F1 H1 F2 H2) : Po T F σ H Γ F2 H2 Γ1 := p.trans (p.rp.po n)
theorem Po.none {b : Addr} (p : Po T F σ H Γ F' H' Γ') (h : H' b = none) : H b = none := by
  cases e : H b with
  | none => rfl
  | some u => obtain ⟨u', z⟩ := p.gro b u e; rw [h] at z; cases z
def RepR (T : Tb) (F : Hp) (σ : St) (H : Hp) (Γ : Gm) (Hs : Hp) (v : V) : R → Prop
  | .val d => Rep T.K F v d
  | .new ds => ∃ a vs, v = .ref a ∧ H a = some (.lst vs) ∧ F a = none ∧ Hs a = none ∧ RepA T.K F vs ds ∧ ¬ Owns σ Γ a
  | .slot i => σ[i]? = some (some v) ∧ ∃ e, Γ[i]? = some (some e)
def PRep (K : PySem.W.Frag) (F H : Hp) (v : V) (d : D) : Prop := Rep K F v d ∨ ∃ a vs ds, v = .ref a ∧ d = .lst ds ∧ H a = some (.lst vs) ∧ RepA K F vs ds
theorem RepR.peek {Hs : Hp} {v : V} {r : R} {d : D} (p : Rp T F σ H Γ) (h : RepR T F σ H Γ Hs v r) (e : r.at Γ = some d) : PRep T.K F H v d := by
  cases r with
  | val d' => cases e; exact .inl h
  | new ds =>
    cases e
    obtain ⟨a, vs, ev, ha, _, _, ra, _⟩ := h
    exact .inr ⟨a, vs, ds, ev, rfl, ha, ra⟩
  | slot i =>
    obtain ⟨e1, en, e2⟩ := h
    simp only [R.at, e2] at e
    cases e
    obtain ⟨v', e3, re⟩ := p.at_ i en e2
    rw [e1] at e3
    cases e3
    cases en with
    | shr d => exact .inl re
    | own ds =>
      obtain ⟨a, vs, ev, ha, _, ra⟩ := re
      exact .inr ⟨a, vs, ds, ev, rfl, ha, ra⟩
def R.hold : R → R
  | .new ds => .val (.lst ds)
  | r => r
theorem frz_new {Fs Hs : Hp} {Γs : Gm} {v : V} {ds : List D} (q : Po T Fs σ Hs Γs F H Γ) (h : RepR T F σ H Γ Hs v (.new ds)) : ∃ F', Po T Fs σ Hs Γs F' H Γ ∧ Same F F' ∧ Rep T.K F' v (.lst ds) := by
  obtain ⟨a, vs, rfl, ha, fa, hs, ra, no⟩ := h
  have p := q.rp
  have ff : Same F (upd F a (.lst vs)) := same_new fa _
  refine ⟨upd F a (.lst vs), ⟨⟨⟨fun b u e => ?_, fun b u e => ?_, p.tabs, p.labs⟩, p.len, fun i e h => ?_, p.apart⟩, fun b o h => ff _ _ (q.ff b o h), q.fr, q.ow, q.gro, fun b o h => ?_, q.sl⟩, ff, .lst upd_same (ra.mono ff)⟩
  · by_cases hb : b = a
    · subst hb; rw [upd_same] at e; cases e; exact ha
    · rw [upd_ne hb] at e; exact p.sub _ _ e
  · by_cases hb : b = a
    · subst hb; rw [upd_same] at e; cases e; exact lst_nt
    · rw [upd_ne hb] at e; exact p.nt _ _ e
  · obtain ⟨w, e1, re⟩ := p.at_ i e h
    refine ⟨w, e1, ?_⟩
    cases e with
    | shr d => exact Rep.mono ff re
    | own es =>
      obtain ⟨b, ws, rfl, hb, fb, rb⟩ := re
      refine ⟨b, ws, rfl, hb, ?_, rb.mono ff⟩
      rw [upd_ne (fun z : b = a => no ⟨i, es, h, by rw [← z]; exact e1⟩)]
      exact fb
  · by_cases hb : b = a
    · subst hb; exact .inr (.inl hs)
    · rw [upd_ne hb] at h; exact q.nf b o h
theorem RepR.held {Fs Hs : Hp} {Γs : Gm} {v : V} {r : R} (q : Po T Fs σ Hs Γs F H Γ) (h : RepR T F σ H Γ Hs v r) : ∃ F', Po T Fs σ Hs Γs F' H Γ ∧ Same F F' ∧ RepR T F' σ H Γ Hs v r.hold := by
  cases r with
  | val d => exact ⟨F, q, fun _ _ h => h, h⟩
  | new ds => exact frz_new q h
  | slot i => exact ⟨F, q, fun _ _ h => h, h⟩
theorem RepR.on {Hs : Hp} {v : V} {r : R} (h : RepR T F σ H Γ Hs v r.hold) (q : Po T F σ H Γ F' H' Γ') : RepR T F' σ H' Γ' Hs v r.hold := by
  cases r with
  | val d => exact Rep.mono q.ff h
  | new ds => exact Rep.mono q.ff h
  | slot i =>
    obtain ⟨e1, e, e2⟩ := h
    exact ⟨e1, q.sl i e e2⟩
def frz (Γ : Gm) : R → Option (D × Gm)
  | .val d => some (d, Γ)
  | .new ds => some (.lst ds, Γ)
  | .slot i => match Γ[i]? with
    | some (some (.shr d)) => some (d, Γ)
    | some (some (.own ds)) => some (.lst ds, Γ.set i (some (.shr (.lst ds))))
    | _ => none
theorem RepR.frz {Fs Hs : Hp} {Γs : Gm} {v : V} {r : R} {d : D} (q : Po T Fs σ Hs Γs F H Γ) (h : RepR T F σ H Γ Hs v r) (e : frz Γ r = some (d, Γ')) : ∃ F', Po T Fs σ Hs Γs F' H Γ' ∧ Same F F' ∧ Rep T.K F' v d := by
  cases r with
  | val d => cases e; exact ⟨F, q, fun _ _ h => h, h⟩
  | new ds => cases e; exact frz_new q h
  | slot i =>
    have p := q.rp
    obtain ⟨e1, en, e2⟩ := h
    simp only [Dt.frz, e2] at e
    obtain ⟨v', e3, re⟩ := p.at_ i en e2
    rw [e1] at e3
    cases e3
    cases en with
    | shr d' => cases e; exact ⟨F, q, fun _ _ h => h, re⟩
    | own ds =>
      cases e
      obtain ⟨a, vs, rfl, ha, fa, ra⟩ := re
      have ff : Same F (upd F a (.lst vs)) := same_new fa _
      have hil : i < Γ.length := (List.getElem?_eq_some_iff.mp e2).1
      have get : ∀ (j : Nat) (e : En), (Γ.set i (some (.shr (.lst ds))))[j]? = some (some e) → (j = i ∧ e = .shr (.lst ds)) ∨ (j ≠ i ∧ Γ[j]? = some (some e)) := fun j e hj => by
        by_cases hji : j = i
        · subst hji
          rw [List.getElem?_set_self hil] at hj
          cases hj
          exact .inl ⟨rfl, rfl⟩
        · rw [List.getElem?_set_ne (Ne.symm hji)] at hj
          exact .inr ⟨hji, hj⟩
      have ow : ∀ (j : Nat) (es : List D), (Γ.set i (some (.shr (.lst ds))))[j]? = some (some (En.own es)) → Γ[j]? = some (some (En.own es)) := fun j es h1 => by
        rcases get j _ h1 with ⟨_, z⟩ | ⟨_, z⟩
        · cases z
        · exact z
      have rr : Rep T.K (upd F a (.lst vs)) (.ref a) (.lst ds) := .lst upd_same (ra.mono ff)
      refine ⟨upd F a (.lst vs), ⟨⟨⟨fun b u e => ?_, fun b u e => ?_, p.tabs, p.labs⟩, by simpa using p.len, fun j e h => ?_, fun j k es es' w h1 h2 h3 h4 => ?_⟩, fun b o h => ff _ _ (q.ff b o h), q.fr, fun j es h => q.ow j es (ow j es h), q.gro, fun b o h => ?_, fun j e h => ?_⟩, ff, rr⟩
      · by_cases hb : b = a
        · subst hb; rw [upd_same] at e; cases e; exact ha
        · rw [upd_ne hb] at e; exact p.sub _ _ e
      · by_cases hb : b = a
        · subst hb; rw [upd_same] at e; cases e; exact lst_nt
        · rw [upd_ne hb] at e; exact p.nt _ _ e
      · rcases get j e h with ⟨rfl, rfl⟩ | ⟨hji, h⟩
        · exact ⟨_, e1, rr⟩
        · obtain ⟨w, e3, re⟩ := p.at_ j e h
          refine ⟨w, e3, ?_⟩
          cases e with
          | shr d => exact Rep.mono ff re
          | own es =>
            obtain ⟨b, ws, rfl, hb, fb, rb⟩ := re
            refine ⟨b, ws, rfl, hb, ?_, rb.mono ff⟩
            rw [upd_ne (fun z : b = a => hji (p.apart j i es ds _ h e2 e3 (by rw [z]; exact e1)))]
            exact fb
      · rcases get j _ h1 with ⟨_, z⟩ | ⟨_, h1⟩
        · cases z
        rcases get k _ h2 with ⟨_, z⟩ | ⟨_, h2⟩
        · cases z
        exact p.apart j k es es' w h1 h2 h3 h4
      · by_cases hb : b = a
        · subst hb; exact .inr (.inr (q.ows ⟨i, ds, e2, e1⟩))
        · rw [upd_ne hb] at h; exact q.nf b o h
      · obtain ⟨e', h'⟩ := q.sl j e h
        by_cases hji : j = i
        · subst hji
          exact ⟨_, List.getElem?_set_self hil⟩
        · exact ⟨e', by rw [List.getElem?_set_ne (Ne.symm hji)]; exact h'⟩
theorem PRep.of {K : PySem.W.Frag} {v : V} {d : D} (h : Rep K F v d) : PRep K F H v d := .inl h
theorem PRep.int {K : PySem.W.Frag} {v : V} {i : Int} (h : PRep K F H v (.int i)) : v = .int i := by
  rcases h with h | ⟨_, _, _, _, z, _⟩
  · cases h; rfl
  · cases z
theorem PRep.str {K : PySem.W.Frag} {v : V} {x : Str} (h : PRep K F H v (.str x)) : v = .str x := by
  rcases h with h | ⟨_, _, _, _, z, _⟩
  · cases h; rfl
  · cases z
theorem PRep.bl {K : PySem.W.Frag} {v : V} {b : Bool} (h : PRep K F H v (.bl b)) : v = .bl b := by
  rcases h with h | ⟨_, _, _, _, z, _⟩
  · cases h; rfl
  · cases z
theorem PRep.non {K : PySem.W.Frag} {v : V} (h : PRep K F H v .non) : v = .non := by
  rcases h with h | ⟨_, _, _, _, z, _⟩
  · cases h; rfl
  · cases z
theorem PRep.lst {K : PySem.W.Frag} {v : V} {ds : List D} (s : Same F H) (h : PRep K F H v (.lst ds)) : ∃ a vs, v = .ref a ∧ L2.Rd H a (.lst vs) ∧ RepA K F vs ds := by
  rcases h with h | ⟨a, vs, ds, e, z, ha, r⟩
  · cases h with | lst h r => exact ⟨_, _, rfl, .inl (s _ _ h), r⟩
  · cases z; exact ⟨a, vs, e, .inl ha, r⟩
theorem PRep.scr {K : PySem.W.Frag} {v : V} {ds : List D} (s : Same F H) (h : PRep K F H v (.scr ds)) : ∃ a vs, v = .ref a ∧ SqL K H a vs ∧ RepA K F vs ds := by
  rcases h with h | ⟨_, _, _, _, z, _⟩
  · cases h with | scr h r => exact ⟨_, _, rfl, sql_same h s, r⟩
  · cases z
theorem PRep.tup {K : PySem.W.Frag} {v : V} {ds : List D} (s : Same F H) (h : PRep K F H v (.tup ds)) : ∃ a vs, v = .ref a ∧ SqT K H a vs ∧ RepA K F vs ds := by
  rcases h with h | ⟨_, _, _, _, z, _⟩
  · cases h with | tup h r => exact ⟨_, _, rfl, sqt_same h s, r⟩
  · cases z
inductive PRepA (K : PySem.W.Frag) (F H : Hp) : List V → List D → Prop
  | nil : PRepA K F H [] []
  | cons {v : V} {d : D} {vs : List V} {ds : List D} : PRep K F H v d → PRepA K F H vs ds → PRepA K F H (v :: vs) (d :: ds)
theorem PRepA.one {K : PySem.W.Frag} {vs : List V} {d : D} (h : PRepA K F H vs [d]) : ∃ v, vs = [v] ∧ PRep K F H v d := by
  cases h with | cons h r => cases r; exact ⟨_, rfl, h⟩
theorem PRepA.two {K : PySem.W.Frag} {vs : List V} {d e : D} (h : PRepA K F H vs [d, e]) : ∃ v w, vs = [v, w] ∧ PRep K F H v d ∧ PRep K F H w e := by
  cases h with | cons h r => cases r with | cons h2 r => cases r; exact ⟨_, _, rfl, h, h2⟩
def RepN (T : Tb) (F' H H' : Hp) (v : V) : R → Prop
  | .val d => Rep T.K F' v d
  | .new ds => ∃ a vs, v = .ref a ∧ H' a = some (.lst vs) ∧ F' a = none ∧ H a = none ∧ RepA T.K F' vs ds
  | .slot _ => False
theorem Rp.owns {b : Addr} (p : Rp T F σ H Γ) (h : Owns σ Γ b) : ∃ vs, H b = some (.lst vs) ∧ F b = none := by
  obtain ⟨i, ds, e1, e2⟩ := h
  obtain ⟨v, e3, a, vs, rfl, ha, fa, _⟩ := p.at_ i _ e1
  rw [e2] at e3
  cases e3
  exact ⟨vs, ha, fa⟩
theorem RepN.toR {Fs Hs : Hp} {Γs : Gm} {v : V} {r : R} (q : Po T Fs σ Hs Γs F H Γ) (h : RepN T F' H H' v r) : RepR T F' σ H' Γ Hs v r := by
  cases r with
  | val d => exact h
  | new ds =>
    obtain ⟨a, vs, e, ha, fa, na, ra⟩ := h
    refine ⟨a, vs, e, ha, fa, q.none na, ra, fun z => ?_⟩
    obtain ⟨ws, hb, _⟩ := q.rp.owns z
    rw [na] at hb
    cases hb
  | slot i => exact h.elim
structure XD where
  c : Str
  ns : List Str
  ds : List D
def XE (T : Tb) (F' H' : Hp) (E : XK) (xd : XD) : Prop := ∀ C : Addr, PySem.W.nsIn T.K mainGlobals xd.c = some (some (.ref C)) → (xd.ns = [] → E (.ref C) none H') ∧ ∀ (dx : Addr) (vs : List V), xd.ns ≠ [] → F' dx = some (.xd (xd.ns.zip vs)) → RepA T.K F' vs xd.ds → E (.ref C) (some dx) H'
def XO (T : Tb) (σ : St) (E : XK) (Ξ : XD → Prop) (F H : Hp) (Γ : Gm) : Prop := ∀ F' H' Γ' xd, Ξ xd → Po T F σ H Γ F' H' Γ' → XE T F' H' E xd
theorem XO.on {E : XK} {Ξ : XD → Prop} (x : XO T σ E Ξ F H Γ) (q : Po T F σ H Γ F' H' Γ') : XO T σ E Ξ F' H' Γ' := fun F2 H2 Γ2 xd h p => x F2 H2 Γ2 xd h (q.trans p)
abbrev WE := Gm → (R → Gm → Prop) → (XD → Prop) → Prop
abbrev WT := Gm → (Bool → Gm → Prop) → (XD → Prop) → Prop
abbrev WA := Gm → (List R → Gm → Prop) → (XD → Prop) → Prop
def ED (T : Tb) (E : XK) (t : TE) (w : WE) : Prop := ∀ (F : Hp) (σ : St) (H : Hp) (Γ : Gm) (Q : VK) (Ψ : R → Gm → Prop) (Ξ : XD → Prop), Rp T F σ H Γ → w Γ Ψ Ξ → XO T σ E Ξ F H Γ →
  (∀ F' H' Γ' v r, Ψ r Γ' → Po T F σ H Γ F' H' Γ' → RepR T F' σ H' Γ' H v r → Q v H') → t σ H Q
def TD (T : Tb) (E : XK) (t : TT) (w : WT) : Prop := ∀ (F : Hp) (σ : St) (H : Hp) (Γ : Gm) (Q : Bool → Hp → Prop) (Ψ : Bool → Gm → Prop) (Ξ : XD → Prop), Rp T F σ H Γ → w Γ Ψ Ξ → XO T σ E Ξ F H Γ →
  (∀ F' H' Γ' b, Ψ b Γ' → Po T F σ H Γ F' H' Γ' → Q b H') → t σ H Q
inductive RepRs (T : Tb) (F : Hp) (σ : St) (H : Hp) (Γ : Gm) (Hs : Hp) : List V → List R → Prop
  | nil : RepRs T F σ H Γ Hs [] []
  | cons {v : V} {r : R} {vs : List V} {rs : List R} : RepR T F σ H Γ Hs v r.hold → RepRs T F σ H Γ Hs vs rs → RepRs T F σ H Γ Hs (v :: vs) (r.hold :: rs)
def AD (T : Tb) (E : XK) (t : TA) (w : WA) : Prop := ∀ (F : Hp) (σ : St) (H : Hp) (Γ : Gm) (Q : List V → Hp → Prop) (Ψ : List R → Gm → Prop) (Ξ : XD → Prop), Rp T F σ H Γ → w Γ Ψ Ξ → XO T σ E Ξ F H Γ →
  (∀ F' H' Γ' vs rs, Ψ rs Γ' → Po T F σ H Γ F' H' Γ' → RepRs T F' σ H' Γ' H vs rs → Q vs H') → t σ H Q
variable {E : XK} {t ta tb tc te : TE} {w wa wb wc we : WE}
def wVar (i : Nat) : WE := fun Γ Ψ _ => ∃ e, Γ[i]? = some (some e) ∧ Ψ (match e with | .shr d => .val d | .own _ => .slot i) Γ
theorem ed_var (i : Nat) : ED T E (tVar i) (wVar i) := fun F σ H Γ Q Ψ Ξ p h _ k => by
  obtain ⟨e, h1, h2⟩ := h
  obtain ⟨v, e1, r⟩ := p.at_ i e h1
  refine ⟨v, e1, k F H Γ v _ h2 p.refl ?_⟩
  cases e with
  | shr d => exact r
  | own ds => exact ⟨e1, _, h1⟩
def wC (d : D) : WE := fun Γ Ψ _ => Ψ (.val d) Γ
theorem ed_c {v : V} {d : D} (h : ∀ F, Rep T.K F v d) : ED T E (tC v) (wC d) := fun F σ H Γ Q Ψ Ξ p h1 _ k => k F H Γ v _ h1 p.refl (h F)
def OD (T : Tb) (r : L2.R2) (g : D → D → (R → Prop) → Prop) : Prop := ∀ (F H : Hp) (x y : V) (d e : D) (Q : VK) (Ψ : R → Prop), Ok T F H → PRep T.K F H x d → PRep T.K F H y e → g d e Ψ →
  (∀ F' H' v r, Ψ r → Nw T F H F' H' → RepN T F' H H' v r → Q v H') → r x y H Q
def wOp (g : D → D → (R → Prop) → Prop) (wa wb : WE) : WE := fun Γ Ψ Ξ => wa Γ (fun r1 Γ1 => wb Γ1 (fun r2 Γ2 => ∃ d1 d2, r1.at Γ2 = some d1 ∧ r2.at Γ2 = some d2 ∧ g d1 d2 fun r => Ψ r Γ2) Ξ) Ξ
theorem R.at_hold (Γ : Gm) (r : R) : r.hold.at Γ = r.at Γ := by cases r <;> rfl
theorem ed_op {r : L2.R2} {g : D → D → (R → Prop) → Prop} (o : OD T r g) (ha : ED T E ta wa) (hb : ED T E tb wb) : ED T E (tOp r ta tb) (wOp g wa wb) := by
  intro F σ H Γ Q Ψ Ξ p h x k
  refine ha F σ H Γ _ _ Ξ p h x fun F1 H1 Γ1 v1 r1 h1 q1 e1 => ?_
  obtain ⟨F2, q2, s2, e2⟩ := RepR.held q1 e1
  refine hb F2 σ H1 Γ1 _ _ Ξ q2.rp h1 (x.on q2) fun F3 H3 Γ3 v2 r2 h3 q3 e3 => ?_
  obtain ⟨d1, d2, a1, a2, hg⟩ := h3
  have e2' := e2.on q3
  rw [← R.at_hold] at a1
  refine o F3 H3 v1 v2 d1 d2 Q _ q3.rp.toOk (e2'.peek q3.rp a1) (e3.peek q3.rp a2) hg fun F4 H4 v r h4 n4 e4 => ?_
  have q := q2.trans q3
  exact k F4 H4 Γ3 v r h4 (q.nw n4) (e4.toR q)
def UD (T : Tb) (r : V → Hp → VK → Prop) (g : D → (R → Prop) → Prop) : Prop := ∀ (F H : Hp) (x : V) (d : D) (Q : VK) (Ψ : R → Prop), Ok T F H → PRep T.K F H x d → g d Ψ →
  (∀ F' H' v r, Ψ r → Nw T F H F' H' → RepN T F' H H' v r → Q v H') → r x H Q
def wUn (g : D → (R → Prop) → Prop) (wa : WE) : WE := fun Γ Ψ Ξ => wa Γ (fun r1 Γ1 => ∃ d1, r1.at Γ1 = some d1 ∧ g d1 fun r => Ψ r Γ1) Ξ
theorem ed_un {r : V → Hp → VK → Prop} {g : D → (R → Prop) → Prop} (o : UD T r g) (ha : ED T E ta wa) : ED T E (tUn r ta) (wUn g wa) := by
  intro F σ H Γ Q Ψ Ξ p h x k
  refine ha F σ H Γ _ _ Ξ p h x fun F1 H1 Γ1 v1 r1 h1 q1 e1 => ?_
  obtain ⟨d1, a1, hg⟩ := h1
  exact o F1 H1 v1 d1 Q _ q1.rp.toOk (e1.peek q1.rp a1) hg fun F4 H4 v r h4 n4 e4 => k F4 H4 Γ1 v r h4 (q1.nw n4) (e4.toR q1)
def wB (w : WE) : WT := fun Γ Ψ Ξ => w Γ (fun r Γ1 => ∃ b, r.at Γ1 = some (.bl b) ∧ Ψ b Γ1) Ξ
theorem td_test (h : ED T E t w) : TD T E (tTest t) (wB w) := fun F σ H Γ Q Ψ Ξ p h1 x k => h F σ H Γ _ _ Ξ p h1 x fun F' H' Γ' v r hr q e => by
  obtain ⟨b, a, hb⟩ := hr
  exact ⟨b, (e.peek q.rp a).bl, k F' H' Γ' b hb q⟩
theorem td_b (h : ED T E t w) : TD T E (tB t) (wB w) := fun F σ H Γ Q Ψ Ξ p h1 x k => h F σ H Γ _ _ Ξ p h1 x fun F' H' Γ' v r hr q e => by
  obtain ⟨b, a, hb⟩ := hr
  exact ⟨b, (e.peek q.rp a).bl, k F' H' Γ' b hb q⟩
variable {t1 t2 : TT} {w1 w2 : WT}
def wNot (w : WT) : WT := fun Γ Ψ Ξ => w Γ (fun b Γ1 => Ψ (!b) Γ1) Ξ
theorem td_not (h : TD T E t1 w1) : TD T E (tNot t1) (wNot w1) := fun F σ H Γ Q Ψ Ξ p h1 x k => h F σ H Γ _ _ Ξ p h1 x fun F' H' Γ' b hb q => k F' H' Γ' _ hb q
def wAnd (w1 w2 : WT) : WT := fun Γ Ψ Ξ => w1 Γ (fun b Γ1 => if b = true then w2 Γ1 Ψ Ξ else Ψ false Γ1) Ξ
def wOr (w1 w2 : WT) : WT := fun Γ Ψ Ξ => w1 Γ (fun b Γ1 => if b = true then Ψ true Γ1 else w2 Γ1 Ψ Ξ) Ξ
theorem td_or (h : TD T E t1 w1) (h' : TD T E t2 w2) : TD T E (tOr t1 t2) (wOr w1 w2) := fun F σ H Γ Q Ψ Ξ p h1 x k => h F σ H Γ _ _ Ξ p h1 x fun F' H' Γ' b hb q => by
  cases b with
  | false => exact h' F' σ H' Γ' _ _ Ξ q.rp hb (x.on q) fun F2 H2 Γ2 b2 hb2 q2 => k F2 H2 Γ2 b2 hb2 (q.trans q2)
  | true => exact k F' H' Γ' _ hb q
def wIf (w1 : WT) (wa wb : WE) : WE := fun Γ Ψ Ξ => w1 Γ (fun b Γ1 => if b = true then wa Γ1 Ψ Ξ else wb Γ1 Ψ Ξ) Ξ
theorem RepR.back {Hs : Hp} {v : V} {r : R} (q : Po T F1 σ Hs Γ1 F H Γ) (e : RepR T F' σ H' Γ' H v r) : RepR T F' σ H' Γ' Hs v r := by
  cases r with
  | val d => exact e
  | new ds => obtain ⟨a, vs, e1, e2, e3, e4, e5⟩ := e; exact ⟨a, vs, e1, e2, e3, q.none e4, e5⟩
  | slot i => exact e
def wAndV (wa wb : WE) : WE := fun Γ Ψ Ξ => wa Γ (fun r Γ1 => ∃ c, r.at Γ1 = some (.bl c) ∧ if c = true then wb Γ1 Ψ Ξ else Ψ (.val (.bl false)) Γ1) Ξ
theorem ed_and (ha : ED T E ta wa) (hb : ED T E tb wb) : ED T E (tAndV ta tb) (wAndV wa wb) := fun F σ H Γ Q Ψ Ξ p h1 x k => ha F σ H Γ _ _ Ξ p h1 x fun F' H' Γ' v r hr q e => by
  obtain ⟨c, a, hc⟩ := hr
  refine ⟨c, (e.peek q.rp a).bl, ?_⟩
  cases c with
  | true => exact hb F' σ H' Γ' _ _ Ξ q.rp hc (x.on q) fun F2 H2 Γ2 v r hr q2 e => k F2 H2 Γ2 v r hr (q.trans q2) (e.back q)
  | false => exact k F' H' Γ' _ _ hc q (Rep.bl _)
def wOrV (wa wb : WE) : WE := fun Γ Ψ Ξ => wa Γ (fun r Γ1 => ∃ c, r.at Γ1 = some (.bl c) ∧ if c = true then Ψ (.val (.bl true)) Γ1 else wb Γ1 Ψ Ξ) Ξ
def wNotV (wa : WE) : WE := fun Γ Ψ Ξ => wa Γ (fun r Γ1 => ∃ c, r.at Γ1 = some (.bl c) ∧ Ψ (.val (.bl (!c))) Γ1) Ξ
theorem ed_not (ha : ED T E ta wa) : ED T E (tNotV ta) (wNotV wa) := fun F σ H Γ Q Ψ Ξ p h1 x k => ha F σ H Γ _ _ Ξ p h1 x fun F' H' Γ' v r hr q e => by
  obtain ⟨c, a, hc⟩ := hr
  exact ⟨c, (e.peek q.rp a).bl, k F' H' Γ' _ _ hc q (Rep.bl _)⟩
def BD (T : Tb) (r : L2.R2) (g : D → D → (Bool → Prop) → Prop) : Prop := ∀ (F H : Hp) (x y : V) (d e : D) (Q : VK) (Ψ : Bool → Prop), Ok T F H → PRep T.K F H x d → PRep T.K F H y e → g d e Ψ → (∀ b, Ψ b → Q (.bl b) H) → r x y H Q
theorem BD.od {r : L2.R2} {g : D → D → (Bool → Prop) → Prop} (h : BD T r g) : OD T r (fun d e Ψ => g d e fun b => Ψ (.val (.bl b))) := fun F H x y d e Q Ψ o h1 h2 hg k =>
  h F H x y d e Q _ o h1 h2 hg fun b hb => k F H _ _ hb o.refl (Rep.bl _)
def wChain (g g' : D → D → (Bool → Prop) → Prop) (wa wb wc : WE) : WE := fun Γ Ψ Ξ => wa Γ (fun r1 Γ1 => wb Γ1 (fun r2 Γ2 => ∃ d1 d2, r1.at Γ2 = some d1 ∧ r2.at Γ2 = some d2 ∧ g d1 d2 fun b => if b = true then wc Γ2 (fun r3 Γ3 => ∃ d2 d3, r2.at Γ3 = some d2 ∧ r3.at Γ3 = some d3 ∧ g' d2 d3 fun b => Ψ (.val (.bl b)) Γ3) Ξ else Ψ (.val (.bl false)) Γ2) Ξ) Ξ
theorem ed_chain {r r' : L2.R2} {g g' : D → D → (Bool → Prop) → Prop} (o : BD T r g) (o' : BD T r' g') (ha : ED T E ta wa) (hb : ED T E tb wb) (hc : ED T E tc wc) : ED T E (tChain r r' ta tb tc) (wChain g g' wa wb wc) := by
  intro F σ H Γ Q Ψ Ξ p h x k
  refine ha F σ H Γ _ _ Ξ p h x fun F1 H1 Γ1 v1 r1 h1 q1 e1 => ?_
  obtain ⟨F2, q2, s2, e2⟩ := RepR.held q1 e1
  refine hb F2 σ H1 Γ1 _ _ Ξ q2.rp h1 (x.on q2) fun F3 H3 Γ3 v2 r2 h3 q3 e3 => ?_
  obtain ⟨d1, d2, a1, a2, hg⟩ := h3
  have e2' := e2.on q3
  rw [← R.at_hold] at a1
  obtain ⟨F4, q4, s4, e4⟩ := RepR.held (q2.trans q3) (e3.back q2)
  have a2' := a2
  rw [← R.at_hold] at a2'
  refine o F4 H3 v1 v2 d1 d2 _ _ q4.rp.toOk ?_ (e4.peek q4.rp a2') hg fun b hb1 => ?_
  · rcases e2'.peek q3.rp a1 with z | ⟨a, vs, ds, z1, z2, z3, z4⟩
    · exact .inl (z.mono s4)
    · exact .inr ⟨a, vs, ds, z1, z2, z3, z4.mono s4⟩
  refine ⟨b, rfl, ?_⟩
  cases b with
  | false => exact k F4 H3 Γ3 _ _ hb1 q4 (Rep.bl _)
  | true =>
    refine hc F4 σ H3 Γ3 _ _ Ξ q4.rp hb1 (x.on q4) fun F5 H5 Γ5 v3 r3 h5 q5 e5 => ?_
    obtain ⟨d2', d3, a3, a4, hg'⟩ := h5
    rw [← R.at_hold] at a3
    exact o' F5 H5 v2 v3 d2' d3 Q _ q5.rp.toOk ((e4.on q5).peek q5.rp a3) (e5.peek q5.rp a4) hg' fun b hb2 => k F5 H5 Γ5 _ _ hb2 (q4.trans q5) (Rep.bl _)
variable {tA : TA} {wA : WA}
def wANil : WA := fun Γ Ψ _ => Ψ [] Γ
theorem ad_nil : AD T E tNil wANil := fun F σ H Γ Q Ψ Ξ p h x k => k F H Γ _ _ h p.refl .nil
def wACons (w : WE) (u : WA) : WA := fun Γ Ψ Ξ => w Γ (fun r Γ1 => u Γ1 (fun rs Γ2 => Ψ (r.hold :: rs) Γ2) Ξ) Ξ
theorem RepRs.back {Hs : Hp} {vs : List V} {rs : List R} (q : Po T F1 σ Hs Γ1 F H Γ) : RepRs T F' σ H' Γ' H vs rs → RepRs T F' σ H' Γ' Hs vs rs
  | .nil => .nil
  | .cons h r => .cons (h.back q) (RepRs.back q r)
theorem ad_cons (h : ED T E t w) (h' : AD T E tA wA) : AD T E (tCons t tA) (wACons w wA) := by
  intro F σ H Γ Q Ψ Ξ p h1 x k
  refine h F σ H Γ _ _ Ξ p h1 x fun F1 H1 Γ1 v r hr q e => ?_
  obtain ⟨F2, q2, s2, e2⟩ := RepR.held q e
  exact h' F2 σ H1 Γ1 _ _ Ξ q2.rp hr (x.on q2) fun F3 H3 Γ3 vs rs hrs q3 e3 => k F3 H3 Γ3 _ _ hrs (q2.trans q3) (.cons (e2.on q3) (e3.back q2))
def ats (Γ : Gm) : List R → Option (List D)
  | [] => some []
  | r :: rs => match r.at Γ, ats Γ rs with
    | some d, some ds => some (d :: ds)
    | _, _ => none
theorem RepRs.peek {Hs : Hp} (p : Rp T F σ H Γ) : ∀ {vs : List V} {rs : List R} {ds : List D}, RepRs T F σ H Γ Hs vs rs → ats Γ rs = some ds → PRepA T.K F H vs ds
  | _, _, _, .nil, e => by cases e; exact .nil
  | _, _, _, .cons (r := r) (rs := rs) h rr, e => by
    unfold ats at e
    split at e
    · rename_i d ds' e1 e2
      cases e
      exact .cons (h.peek p e1) (RepRs.peek p rr e2)
    · cases e
def CD (T : Tb) (r : List V → Hp → VK → Prop) (g : List D → (R → Prop) → Prop) : Prop := ∀ (F H : Hp) (vs : List V) (ds : List D) (Q : VK) (Ψ : R → Prop), Ok T F H → PRepA T.K F H vs ds → g ds Ψ →
  (∀ F' H' v r, Ψ r → Nw T F H F' H' → RepN T F' H H' v r → Q v H') → r vs H Q
def wCB (g : List D → (R → Prop) → Prop) (wA : WA) : WE := fun Γ Ψ Ξ => wA Γ (fun rs Γ1 => ∃ ds, ats Γ1 rs = some ds ∧ g ds fun r => Ψ r Γ1) Ξ
theorem ed_cb {r : List V → Hp → VK → Prop} {g : List D → (R → Prop) → Prop} (c : CD T r g) (h : AD T E tA wA) : ED T E (tCB r tA) (wCB g wA) := fun F σ H Γ Q Ψ Ξ p h1 x k => h F σ H Γ _ _ Ξ p h1 x fun F1 H1 Γ1 vs rs hr q e => by
  obtain ⟨ds, a, hg⟩ := hr
  exact c F1 H1 vs ds Q _ q.rp.toOk (e.peek q.rp a) hg fun F4 H4 v r h4 n4 e4 => k F4 H4 Γ1 v r h4 (q.nw n4) (e4.toR q)
def frzL (Γ : Gm) : List R → Option (List D × Gm)
  | [] => some ([], Γ)
  | r :: rs => match frz Γ r with
    | some (d, Γ1) => match frzL Γ1 rs with
      | some (ds, Γ2) => some (d :: ds, Γ2)
      | none => none
    | none => none
theorem frz_sl {r : R} {d : D} (e : frz Γ r = some (d, Γ')) : ∀ (i : Nat) (en : En), Γ[i]? = some (some en) → ∃ e', Γ'[i]? = some (some e') := fun i en h => by
  cases r with
  | val d => cases e; exact ⟨_, h⟩
  | new ds => cases e; exact ⟨_, h⟩
  | slot j =>
    simp only [frz] at e
    split at e
    · cases e; exact ⟨_, h⟩
    · rename_i ds e1
      cases e
      have hil : j < Γ.length := (List.getElem?_eq_some_iff.mp e1).1
      by_cases hj : i = j
      · subst hj; exact ⟨_, List.getElem?_set_self hil⟩
      · exact ⟨en, by rw [List.getElem?_set_ne (Ne.symm hj)]; exact h⟩
    · cases e
theorem RepRs.sl {Hs : Hp} (ff : Same F F') (sl : ∀ (i : Nat) (en : En), Γ[i]? = some (some en) → ∃ e', Γ'[i]? = some (some e')) : ∀ {vs : List V} {rs : List R}, RepRs T F σ H Γ Hs vs rs → RepRs T F' σ H Γ' Hs vs rs
  | _, _, .nil => .nil
  | _, _, .cons (r := r) h rr => by
    refine .cons ?_ (RepRs.sl ff sl rr)
    cases r with
    | val d => exact Rep.mono ff h
    | new ds => exact Rep.mono ff h
    | slot i => obtain ⟨e1, e, e2⟩ := h; exact ⟨e1, sl i e e2⟩
theorem RepRs.frz {Fs Hs : Hp} {Γs : Gm} : ∀ {vs : List V} {rs : List R} {ds : List D} {F : Hp} {Γ Γ' : Gm}, Po T Fs σ Hs Γs F H Γ → RepRs T F σ H Γ Hs vs rs → frzL Γ rs = some (ds, Γ') → ∃ F', Po T Fs σ Hs Γs F' H Γ' ∧ Same F F' ∧ RepA T.K F' vs ds
  | _, _, _, F, _, _, q, .nil, e => by cases e; exact ⟨F, q, fun _ _ h => h, .nil⟩
  | _, _, _, F, Γ, Γ', q, .cons (r := r) (rs := rs) h rr, e => by
    unfold frzL at e
    split at e
    · rename_i d Γ1 e1
      split at e
      · rename_i ds' Γ2 e2
        cases e
        obtain ⟨F1, q1, s1, r1⟩ := h.frz q e1
        obtain ⟨F2, q2, s2, r2⟩ := RepRs.frz q1 (rr.sl s1 (frz_sl e1)) e2
        exact ⟨F2, q2, fun b o h => s2 b o (s1 b o h), .cons (r1.mono s2) r2⟩
      · cases e
    · cases e
def wTup (wA : WA) : WE := fun Γ Ψ Ξ => wA Γ (fun rs Γ1 => ∃ ds Γ2, frzL Γ1 rs = some (ds, Γ2) ∧ ds.length ≤ sizeLine ∧ Ψ (.val (.tup ds)) Γ2) Ξ
theorem ed_tup (h : AD T E tA wA) : ED T E (tTup tA) (wTup wA) := fun F σ H Γ Q Ψ Ξ p h1 x k => h F σ H Γ _ _ Ξ p h1 x fun F1 H1 Γ1 vs rs hr q e => by
  obtain ⟨ds, Γ2, a, hl, hp⟩ := hr
  obtain ⟨F2, q2, s2, r2⟩ := e.frz q a
  refine ⟨by rw [r2.length]; exact hl, fun p hp0 => ?_⟩
  have n := q2.rp.toOk.lay (o := .tup vs) hp0 tup_nt
  exact k _ _ Γ2 _ _ hp (q2.nw n) (Rep.tup (.inl (.inl upd_same)) (r2.mono n.ff))
def wLst (wA : WA) : WE := fun Γ Ψ Ξ => wA Γ (fun rs Γ1 => ∃ ds Γ2, frzL Γ1 rs = some (ds, Γ2) ∧ ds.length ≤ sizeLine ∧ Ψ (.new ds) Γ2) Ξ
theorem ed_lst (h : AD T E tA wA) : ED T E (tLst tA) (wLst wA) := fun F σ H Γ Q Ψ Ξ p h1 x k => h F σ H Γ _ _ Ξ p h1 x fun F1 H1 Γ1 vs rs hr q e => by
  obtain ⟨ds, Γ2, a, hl, hp⟩ := hr
  obtain ⟨F2, q2, s2, r2⟩ := e.frz q a
  refine ⟨by rw [r2.length]; exact hl, fun p hp0 => ?_⟩
  have n := q2.rp.toOk.put (o := .lst vs) hp0
  have fp : F2 p = none := by
    cases e : F2 p with
    | none => rfl
    | some u => have := q2.rp.sub _ _ e; rw [hp0] at this; cases this
  exact k _ _ Γ2 _ _ hp (q2.nw n) (RepN.toR (F' := F2) (H' := upd H1 p (.lst vs)) q2 (r := .new ds) ⟨p, vs, rfl, upd_same, fp, hp0, r2⟩)
end
end Dt
set_option Elab.async false
set_option linter.all false
set_option maxRecDepth 100000
set_option autoImplicit false
namespace Dt
open PySem L2 Kx
section
variable {T : Tb} {F F1 F2 F' H H1 H2 H' : Hp} {σ : St} {Γ Γ1 Γ2 Γ' : Gm} {E : XK} {t ta tb tc te : TE} {w wa wb wc we : WE} {tA : TA} {wA : WA}
abbrev WF := List D → List D → (R → List D → Prop) → (XD → Prop) → Prop
structure Fx (T : Tb) (io : Bool) (ra : Addr) (F H F' H' : Hp) : Prop where
  ok : Ok T F' H'
  ff : Same F F'
  hh : ∀ b o, H b = some o → NoT o → ¬ (io = true ∧ b = ra) → H' b = some o
  gro : ∀ b o, H b = some o → ∃ o', H' b = some o'
  nf : ∀ b o, F' b = some o → F b = some o ∨ H b = none ∨ (io = true ∧ b = ra)
theorem Fx.nw {ra : Addr} (x : Fx T false ra F H F' H') : Nw T F H F' H' :=
  ⟨x.ok, x.ff, fun b o h n => x.hh b o h n (fun z => by cases z.1), x.gro, fun b o h => (x.nf b o h).elim .inl fun z => z.elim .inr fun y => by cases y.1⟩
theorem Nw.fx {io : Bool} {ra : Addr} (x : Nw T F H F' H') : Fx T io ra F H F' H' := ⟨x.ok, x.ff, fun b o h n _ => x.hh b o h n, x.gro, fun b o h => (x.nf b o h).elim .inl fun z => .inr (.inl z)⟩
def spD (T : Tb) (io : Bool) (wf : WF) : Sp := fun vs H Q E => ∃ (F : Hp) (ra : Addr) (rv : List V) (row : List D) (vs' : List V) (ds : List D) (Ψ : R → List D → Prop) (Ξ : XD → Prop),
  Ok T F H ∧ vs = (if io then .ref ra :: vs' else vs') ∧ (io = true → H ra = some (.lst rv) ∧ F ra = none ∧ RepA T.K F rv row) ∧ RepA T.K F vs' ds ∧ wf ds row Ψ Ξ ∧
  (∀ F' H' v r row', Ψ r row' → Fx T io ra F H F' H' → (io = true → ∃ rv', H' ra = some (.lst rv') ∧ F' ra = none ∧ RepA T.K F' rv' row') → RepN T F' H H' v r → Q v H') ∧
  ∀ F' H' xd, Ξ xd → Fx T io ra F H F' H' → XE T F' H' E xd
theorem po_io {i : Nat} {row row' : List D} {ra : Addr} {rv' : List V} (p : Rp T F σ H Γ) (hi : Γ[i]? = some (some (.own row))) (hσ : σ[i]? = some (some (.ref ra))) (x : Fx T true ra F H F' H') (h' : H' ra = some (.lst rv')) (f' : F' ra = none) (r' : RepA T.K F' rv' row') :
    Po T F σ H Γ F' H' (Γ.set i (some (.own row'))) := by
  have hil : i < Γ.length := (List.getElem?_eq_some_iff.mp hi).1
  have get : ∀ (j : Nat) (e : En), (Γ.set i (some (.own row')))[j]? = some (some e) → (j = i ∧ e = .own row') ∨ (j ≠ i ∧ Γ[j]? = some (some e)) := fun j e hj => by
    by_cases hji : j = i
    · subst hji
      rw [List.getElem?_set_self hil] at hj
      cases hj
      exact .inl ⟨rfl, rfl⟩
    · rw [List.getElem?_set_ne (Ne.symm hji)] at hj
      exact .inr ⟨hji, hj⟩
  have own : Owns σ Γ ra := ⟨i, row, hi, hσ⟩
  refine ⟨⟨x.ok, by simpa using p.len, fun j e h => ?_, fun j k es es' v h1 h2 h3 h4 => ?_⟩, x.ff, fun b o h n no => x.hh b o h n fun z => no (z.2 ▸ own), fun j es h => ?_, x.gro, fun b o h => ?_, fun j e h => ?_⟩
  · rcases get j e h with ⟨rfl, rfl⟩ | ⟨hji, h⟩
    · exact ⟨_, hσ, ra, rv', rfl, h', f', r'⟩
    · obtain ⟨v, e1, re⟩ := p.at_ j e h
      refine ⟨v, e1, ?_⟩
      cases e with
      | shr d => exact Rep.mono x.ff re
      | own es =>
        obtain ⟨b, ws, rfl, hb, fb, rb⟩ := re
        have hne : b ≠ ra := fun z => hji (p.apart j i es row _ h hi e1 (by rw [z]; exact hσ))
        refine ⟨b, ws, rfl, x.hh b _ hb lst_nt fun z => hne z.2, ?_, rb.mono x.ff⟩
        cases q : F' b with
        | none => rfl
        | some o =>
          rcases x.nf b o q with z | z | z
          · rw [fb] at z; cases z
          · rw [hb] at z; cases z
          · exact absurd z.2 hne
  · have one : ∀ (j : Nat) (es : List D), (Γ.set i (some (.own row')))[j]? = some (some (.own es)) → ∃ es', Γ[j]? = some (some (.own es')) := fun j es h => by
      rcases get j _ h with ⟨rfl, _⟩ | ⟨_, h⟩
      · exact ⟨row, hi⟩
      · exact ⟨es, h⟩
    obtain ⟨_, h1⟩ := one j es h1
    obtain ⟨_, h2⟩ := one k es' h2
    exact p.apart j k _ _ v h1 h2 h3 h4
  · rcases get j _ h with ⟨rfl, _⟩ | ⟨_, h1⟩
    · exact ⟨row, hi⟩
    · exact ⟨es, h1⟩
  · rcases x.nf b o h with z | z | z
    · exact .inl z
    · exact .inr (.inl z)
    · exact .inr (.inr (z.2 ▸ own))
  · by_cases hji : j = i
    · subst hji; exact ⟨_, List.getElem?_set_self hil⟩
    · exact ⟨e, by rw [List.getElem?_set_ne (Ne.symm hji)]; exact h⟩
def callW (io : Bool) (wf : WF) (rs : List R) (Γ : Gm) (Ψ : R → Gm → Prop) (Ξ : XD → Prop) : Prop := match io with
  | false => ∃ ds Γ1, frzL Γ rs = some (ds, Γ1) ∧ wf ds [] (fun r _ => Ψ r Γ1) Ξ
  | true => ∃ i rest ds Γ1 row, rs = .slot i :: rest ∧ frzL Γ rest = some (ds, Γ1) ∧ Γ1[i]? = some (some (.own row)) ∧ wf ds row (fun r row' => Ψ r (Γ1.set i (some (.own row')))) fun _ => False
def wCall (io : Bool) (wf : WF) (wA : WA) : WE := fun Γ Ψ Ξ => wA Γ (fun rs Γ1 => callW io wf rs Γ1 Ψ Ξ) Ξ
theorem RepRs.cons_inv {Hs : Hp} {v : V} {vs : List V} {r : R} {rs : List R} (h : RepRs T F σ H Γ Hs (v :: vs) (r :: rs)) : RepR T F σ H Γ Hs v r ∧ RepRs T F σ H Γ Hs vs rs := by
  generalize e1 : v :: vs = vv at h
  generalize e2 : r :: rs = rr at h
  cases h with
  | nil => cases e1
  | cons h1 h2 => cases e1; cases e2; exact ⟨h1, h2⟩
theorem RepRs.len {Hs : Hp} : ∀ {vs : List V} {rs : List R}, RepRs T F σ H Γ Hs vs rs → vs.length = rs.length
  | _, _, .nil => rfl
  | _, _, .cons _ r => congrArg (· + 1) (RepRs.len r)
theorem call_d {io : Bool} {wf : WF} {Fs Hs : Hp} {Γs : Gm} {vs : List V} {rs : List R} {Ψ : R → Gm → Prop} {Ξ : XD → Prop} {Q : VK} (q : Po T Fs σ Hs Γs F H Γ) (e : RepRs T F σ H Γ Hs vs rs) (h : callW io wf rs Γ Ψ Ξ) (x : XO T σ E Ξ Fs Hs Γs)
    (k : ∀ F' H' Γ' v r, Ψ r Γ' → Po T Fs σ Hs Γs F' H' Γ' → RepR T F' σ H' Γ' Hs v r → Q v H') : spD T io wf vs H Q E := by
  cases io with
  | false =>
    obtain ⟨ds, Γ1, a, hw⟩ := h
    obtain ⟨F1, q1, s1, r1⟩ := e.frz q a
    refine ⟨F1, 0, [], [], vs, ds, _, Ξ, q1.rp.toOk, rfl, (fun z => by cases z), r1, hw, fun F' H' v r row' hr f _ e' => ?_, fun F' H' xd hx f => x F' H' Γ1 xd hx (q1.nw f.nw)⟩
    exact k F' H' Γ1 v r hr (q1.nw f.nw) (e'.toR q1)
  | true =>
    obtain ⟨i, rest, ds, Γ1, row, rfl, a, hi, hw⟩ := h
    cases vs with
    | nil => have := e.len; simp at this
    | cons v0 vs =>
    obtain ⟨⟨e1, en, e2⟩, er⟩ := e.cons_inv
    obtain ⟨F1, q1, s1, r1⟩ := er.frz q a
    obtain ⟨v', e3, ra, rv, rfl, hra, fra, rra⟩ := q1.rp.at_ i _ hi
    rw [e1] at e3
    cases e3
    refine ⟨F1, ra, rv, row, vs, ds, _, _, q1.rp.toOk, rfl, fun _ => ⟨hra, fra, rra⟩, r1, hw, fun F' H' v r row' hr f hrow e' => ?_, fun F' H' xd hx f => hx.elim⟩
    obtain ⟨rv', h1, h2, h3⟩ := hrow rfl
    have q2 := po_io q1.rp hi e1 f h1 h2 h3
    refine k F' H' _ v r hr (q1.trans q2) ?_
    cases r with
    | val d => exact e'
    | new es =>
      obtain ⟨b, ws, eb, hb, fb, nb, rb⟩ := e'
      refine ⟨b, ws, eb, hb, fb, q1.none nb, rb, fun z => ?_⟩
      obtain ⟨ws', hb', _⟩ := q1.rp.owns (q2.ows z)
      rw [nb] at hb'
      cases hb'
    | slot j => exact e'.elim
theorem ed_call {io : Bool} {wf : WF} (h : AD T E tA wA) : ED T E (tCall (spD T io wf) [] E tA) (wCall io wf wA) := fun F σ H Γ Q Ψ Ξ p h1 x k => h F σ H Γ _ _ Ξ p h1 x fun F1 H1 Γ1 vs rs hr q e => by
  rw [List.append_nil]
  exact call_d q e hr x k
structure WEnds where
  nx : Gm → Prop
  rt : R → Gm → Prop
  bk : Gm → Prop
  ct : Gm → Prop
  xe : XD → Prop
abbrev WS := WEnds → Gm → Prop
structure Rs (T : Tb) (io : Bool) (H0 F0 : Hp) (ra : Addr) (F : Hp) (σ : St) (H : Hp) (Γ : Gm) : Prop where
  rp : Rp T F σ H Γ
  ff : Same F0 F
  en : ∀ b o, H0 b = some o → NoT o → ¬ (io = true ∧ b = ra) → H b = some o
  fr : ∀ b, Owns σ Γ b → (io = true ∧ b = ra) ∨ H0 b = none
  gro : ∀ b o, H0 b = some o → ∃ o', H b = some o'
  nf : ∀ b o, F b = some o → F0 b = some o ∨ H0 b = none ∨ (io = true ∧ b = ra)
  par : io = true → σ[0]? = some (some (.ref ra))
theorem Rs.po {io : Bool} {H0 F0 : Hp} {ra : Addr} (s : Rs T io H0 F0 ra F σ H Γ) (q : Po T F σ H Γ F' H' Γ') : Rs T io H0 F0 ra F' σ H' Γ' where
  rp := q.rp
  ff := fun b o h => q.ff b o (s.ff b o h)
  en := fun b o h n z => q.fr b o (s.en b o h n z) n fun y => (s.fr b y).elim z fun u => by rw [h] at u; cases u
  fr := fun b h => s.fr b (q.ows h)
  gro := fun b o h => let ⟨o1, h1⟩ := s.gro b o h; q.gro b o1 h1
  nf := fun b o h => by
    rcases q.nf b o h with z | z | z
    · exact s.nf b o z
    · cases e : H0 b with
      | none => exact .inr (.inl rfl)
      | some u => obtain ⟨u', z'⟩ := s.gro b u e; rw [z] at z'; cases z'
    · rcases s.fr b z with y | y
      · exact .inr (.inr y)
      · exact .inr (.inl y)
  par := s.par
theorem Rs.none {io : Bool} {H0 F0 : Hp} {ra b : Addr} (s : Rs T io H0 F0 ra F σ H Γ) (h : H b = none) : H0 b = none := by
  cases e : H0 b with
  | none => rfl
  | some u => obtain ⟨u', z⟩ := s.gro b u e; rw [h] at z; cases z
structure EO (T : Tb) (io : Bool) (H0 F0 : Hp) (ra : Addr) (E : XK) (D : Ends) (Ψ : WEnds) : Prop where
  nx : ∀ F σ H Γ, Ψ.nx Γ → Rs T io H0 F0 ra F σ H Γ → D.nx σ H
  bk : ∀ F σ H Γ, Ψ.bk Γ → Rs T io H0 F0 ra F σ H Γ → D.bk σ H
  ct : ∀ F σ H Γ, Ψ.ct Γ → Rs T io H0 F0 ra F σ H Γ → D.ct σ H
  rt : ∀ F σ H Γ v r, Ψ.rt r Γ → Rs T io H0 F0 ra F σ H Γ → RepR T F σ H Γ H0 v r → D.rt v H
  xe : ∀ F σ H Γ xd, Ψ.xe xd → Rs T io H0 F0 ra F σ H Γ → XE T F H E xd
theorem EO.xo {io : Bool} {H0 F0 : Hp} {ra : Addr} {D : Ends} {Ψ : WEnds} (e : EO T io H0 F0 ra E D Ψ) (s : Rs T io H0 F0 ra F σ H Γ) : XO T σ E Ψ.xe F H Γ := fun F' H' Γ' xd h q => e.xe F' σ H' Γ' xd h (s.po q)
def SD (T : Tb) (io : Bool) (E : XK) (t : TS) (w : WS) : Prop := ∀ (H0 F0 : Hp) (ra : Addr) (F : Hp) (σ : St) (H : Hp) (Γ : Gm) (D : Ends) (Ψ : WEnds), Rs T io H0 F0 ra F σ H Γ → w Ψ Γ → EO T io H0 F0 ra E D Ψ → t D σ H
variable {io : Bool} {s1 s2 : TS} {u1 u2 : WS} {t1 : TT} {w1 : WT}
def wNext : WS := fun Ψ Γ => Ψ.nx Γ
theorem sd_next : SD T io E tNext wNext := fun H0 F0 ra F σ H Γ D Ψ s h e => e.nx F σ H Γ h s
def wSeq (u1 u2 : WS) : WS := fun Ψ Γ => u1 { Ψ with nx := u2 Ψ } Γ
theorem sd_seq (h : SD T io E s1 u1) (h' : SD T io E s2 u2) : SD T io E (tSeq s1 s2) (wSeq u1 u2) := fun H0 F0 ra F σ H Γ D Ψ s hw e =>
  h H0 F0 ra F σ H Γ _ _ s hw ⟨fun F1 σ1 H1 Γ1 h1 s1 => h' H0 F0 ra F1 σ1 H1 Γ1 D Ψ s1 h1 e, e.bk, e.ct, e.rt, e.xe⟩
def wBreak : WS := fun Ψ Γ => Ψ.bk Γ
def wCont : WS := fun Ψ Γ => Ψ.ct Γ
def wDrop (w : WE) : WS := fun Ψ Γ => w Γ (fun _ Γ1 => Ψ.nx Γ1) Ψ.xe
theorem sd_drop (h : ED T E t w) : SD T io E (tDrop t) (wDrop w) := fun H0 F0 ra F σ H Γ D Ψ s hw e => h F σ H Γ _ _ _ s.rp hw (e.xo s) fun F1 H1 Γ1 v r hr q _ => e.nx F1 σ H1 Γ1 hr (s.po q)
def wRet (w : WE) : WS := fun Ψ Γ => w Γ Ψ.rt Ψ.xe
theorem sd_ret (h : ED T E t w) : SD T io E (tRet t) (wRet w) := fun H0 F0 ra F σ H Γ D Ψ s hw e => h F σ H Γ _ _ _ s.rp hw (e.xo s) fun F1 H1 Γ1 v r hr q er => e.rt F1 σ H1 Γ1 v r hr (s.po q) (by
  cases r with
  | val d => exact er
  | new ds => obtain ⟨a, vs, e1, e2, e3, e4, e5⟩ := er; exact ⟨a, vs, e1, e2, e3, s.none e4, e5⟩
  | slot i => exact er)
def wRetN : WS := fun Ψ Γ => Ψ.rt (.val .non) Γ
def wIfS (w : WT) (u1 u2 : WS) : WS := fun Ψ Γ => w Γ (fun b Γ1 => if b = true then u1 Ψ Γ1 else u2 Ψ Γ1) Ψ.xe
theorem sd_if (h : TD T E t1 w1) (h1 : SD T io E s1 u1) (h2 : SD T io E s2 u2) : SD T io E (tIfS t1 s1 s2) (wIfS w1 u1 u2) := fun H0 F0 ra F σ H Γ D Ψ s hw e => h F σ H Γ _ _ _ s.rp hw (e.xo s) fun F1 H1 Γ1 b hb q => by
  cases b with
  | true => exact h1 H0 F0 ra F1 σ H1 Γ1 D Ψ (s.po q) hb e
  | false => exact h2 H0 F0 ra F1 σ H1 Γ1 D Ψ (s.po q) hb e
theorem sd_never : SD T io E tNever (fun _ _ => False) := fun H0 F0 ra F σ H Γ D Ψ s h e => h
theorem Rs.set {H0 F0 : Hp} {ra : Addr} {i : Nat} {v : V} {e : En} (s : Rs T io H0 F0 ra F σ H Γ) (h : RepE T.K F H v e) (hi : i ≠ 0 ∨ io = false) (hn : ∀ ds, e = .own ds → ∀ a, v = .ref a → ¬ Owns σ Γ a ∧ H0 a = Option.none) :
    Rs T io H0 F0 ra F (σ.set i (some v)) H (Γ.set i (some e)) := by
  have p := s.rp
  have get : ∀ (j : Nat) (e' : En), (Γ.set i (some e))[j]? = some (some e') → (j = i ∧ i < Γ.length ∧ e' = e) ∨ (j ≠ i ∧ Γ[j]? = some (some e')) := fun j e' hj => by
    by_cases hji : j = i
    · subst hji
      have hl : j < (Γ.set j (some e)).length := (List.getElem?_eq_some_iff.mp hj).1
      rw [List.length_set] at hl
      rw [List.getElem?_set_self hl] at hj
      cases hj
      exact .inl ⟨rfl, hl, rfl⟩
    · rw [List.getElem?_set_ne (Ne.symm hji)] at hj
      exact .inr ⟨hji, hj⟩
  have ne : ∀ {j : Nat}, j ≠ i → (σ.set i (some v))[j]? = σ[j]? := fun {j} h => List.getElem?_set_ne (Ne.symm h)
  have self : i < Γ.length → (σ.set i (some v))[i]? = some (some v) := fun h => List.getElem?_set_self (by rw [← p.len]; exact h)
  have ow : ∀ b, Owns (σ.set i (some v)) (Γ.set i (some e)) b → Owns σ Γ b ∨ (v = .ref b ∧ ∃ ds, e = .own ds) := fun b ⟨j, ds, h1, h2⟩ => by
    rcases get j _ h1 with ⟨rfl, hl, z⟩ | ⟨hj, z⟩
    · rw [self hl] at h2
      cases h2
      exact .inr ⟨rfl, ds, z.symm⟩
    · rw [ne hj] at h2
      exact .inl ⟨j, ds, z, h2⟩
  refine ⟨⟨p.toOk, by simpa using p.len, fun j e' hj => ?_, fun j k es es' x h1 h2 h3 h4 => ?_⟩, s.ff, s.en, fun b hb => ?_, s.gro, s.nf, fun z => ?_⟩
  · rcases get j e' hj with ⟨rfl, hl, rfl⟩ | ⟨hji, hj⟩
    · exact ⟨v, self hl, h⟩
    · rw [ne hji]
      exact p.at_ j e' hj
  · rcases get j _ h1 with ⟨rfl, hl, z⟩ | ⟨hj, h1'⟩
    · rcases get k _ h2 with ⟨rfl, _, _⟩ | ⟨hk, h2'⟩
      · rfl
      · rw [self hl] at h3
        cases h3
        rw [ne hk] at h4
        obtain ⟨a, vs, ev, _⟩ := z ▸ h
        subst ev
        exact absurd ⟨k, es', h2', h4⟩ (hn es z.symm a rfl).1
    · rcases get k _ h2 with ⟨rfl, hl, z⟩ | ⟨hk, h2'⟩
      · rw [self hl] at h4
        cases h4
        rw [ne hj] at h3
        obtain ⟨a, vs, ev, _⟩ := z ▸ h
        subst ev
        exact absurd ⟨j, es, h1', h3⟩ (hn es' z.symm a rfl).1
      · rw [ne hj] at h3
        rw [ne hk] at h4
        exact p.apart j k es es' x h1' h2' h3 h4
  · rcases ow b hb with z | ⟨rfl, ds, z⟩
    · exact s.fr b z
    · exact .inr (hn ds z b rfl).2
  · have h0 := s.par z
    have hi0 : i ≠ 0 := hi.elim id fun y => by rw [y] at z; cases z
    rw [ne (Ne.symm hi0)]
    exact h0
def putW (i : Nat) (r : R) (Γ : Gm) (k : Gm → Prop) : Prop := match r with
  | .val d => k (Γ.set i (some (.shr d)))
  | .new ds => k (Γ.set i (some (.own ds)))
  | .slot j => ∃ d Γ1, frz Γ (.slot j) = some (d, Γ1) ∧ k (Γ1.set i (some (.shr d)))
theorem put_d {H0 F0 : Hp} {ra : Addr} {i : Nat} {v : V} {r : R} {k : Gm → Prop} (s : Rs T io H0 F0 ra F σ H Γ) (q : Po T F σ H Γ F' H' Γ') (e : RepR T F' σ H' Γ' H v r) (hi : i ≠ 0 ∨ io = false) (h : putW i r Γ' k) :
    ∃ F2 Γ2, k Γ2 ∧ Rs T io H0 F0 ra F2 (σ.set i (some v)) H' Γ2 := by
  cases r with
  | val d => exact ⟨F', _, h, (s.po q).set (e := .shr d) e hi (fun _ z => by cases z)⟩
  | new ds =>
    obtain ⟨a, vs, rfl, ha, fa, na, ra', no⟩ := e
    exact ⟨F', _, h, (s.po q).set (e := .own ds) ⟨a, vs, rfl, ha, fa, ra'⟩ hi fun _ _ b z => by cases z; exact ⟨no, s.none na⟩⟩
  | slot j =>
    obtain ⟨d, Γ1, a, h⟩ := h
    obtain ⟨F2, q2, s2, r2⟩ := RepR.frz q e a
    exact ⟨F2, _, h, (s.po q2).set (e := .shr d) r2 hi (fun _ z => by cases z)⟩
def wSet (i : Nat) (w : WE) : WS := fun Ψ Γ => w Γ (fun r Γ1 => putW i r Γ1 Ψ.nx) Ψ.xe
theorem sd_set {i : Nat} (h : ED T E t w) (hi : i ≠ 0 ∨ io = false) : SD T io E (tAsg t (gName i)) (wSet i w) := fun H0 F0 ra F σ H Γ D Ψ s hw e => h F σ H Γ _ _ _ s.rp hw (e.xo s) fun F1 H1 Γ1 v r hr q er => by
  obtain ⟨F2, Γ2, k, s2⟩ := put_d s q er hi hr
  exact e.nx F2 _ H1 Γ2 k s2
abbrev WG := D → Gm → (Gm → Prop) → Prop
abbrev WGs := List D → Gm → (Gm → Prop) → Prop
def GD (T : Tb) (io : Bool) (g : TG) (w : WG) : Prop := ∀ (H0 F0 : Hp) (ra : Addr) (F : Hp) (σ : St) (H : Hp) (Γ : Gm) (v : V) (d : D) (Q : St → Hp → Prop) (k : Gm → Prop), Rs T io H0 F0 ra F σ H Γ → Rep T.K F v d → w d Γ k → (∀ F' σ' Γ', k Γ' → Same F F' → Rs T io H0 F0 ra F' σ' H Γ' → Q σ' H) → g v σ H Q
def GDs (T : Tb) (io : Bool) (g : TGs) (w : WGs) : Prop := ∀ (H0 F0 : Hp) (ra : Addr) (F : Hp) (σ : St) (H : Hp) (Γ : Gm) (vs : List V) (ds : List D) (Q : St → Hp → Prop) (k : Gm → Prop), Rs T io H0 F0 ra F σ H Γ → RepA T.K F vs ds → w ds Γ k → (∀ F' σ' Γ', k Γ' → Same F F' → Rs T io H0 F0 ra F' σ' H Γ' → Q σ' H) → g vs σ H Q
variable {g : TG} {gs : TGs} {wg : WG} {wgs : WGs}
def wgName (i : Nat) : WG := fun d Γ k => k (Γ.set i (some (.shr d)))
theorem gd_name {i : Nat} (hi : i ≠ 0 ∨ io = false) : GD T io (gName i) (wgName i) := fun H0 F0 ra F σ H Γ v d Q k s r h z => z F _ _ h (fun _ _ h => h) (s.set (e := .shr d) r hi (fun _ z => by cases z))
def wgNil : WGs := fun ds Γ k => ds = [] ∧ k Γ
theorem gd_nil : GDs T io gNil wgNil := fun H0 F0 ra F σ H Γ vs ds Q k s r h z => by
  obtain ⟨rfl, h⟩ := h
  cases r
  exact ⟨rfl, z F σ Γ h (fun _ _ h => h) s⟩
def wgCons (w : WG) (u : WGs) : WGs := fun ds Γ k => ∃ d es, ds = d :: es ∧ w d Γ fun Γ1 => u es Γ1 k
theorem gd_cons (h : GD T io g wg) (h' : GDs T io gs wgs) : GDs T io (gCons g gs) (wgCons wg wgs) := fun H0 F0 ra F σ H Γ vs ds Q k s r hw z => by
  obtain ⟨d, es, rfl, hw⟩ := hw
  cases r with
  | cons r1 r2 =>
    refine ⟨_, _, rfl, h H0 F0 ra F σ H Γ _ _ _ _ s r1 hw fun F1 σ1 Γ1 h1 f1 s1 => ?_⟩
    exact h' H0 F0 ra F1 σ1 H Γ1 _ _ _ _ s1 (r2.mono f1) h1 fun F2 σ2 Γ2 h2 f2 s2 => z F2 σ2 Γ2 h2 (fun b o h => f2 b o (f1 b o h)) s2
def wgTup (n : Nat) (u : WGs) : WG := fun d Γ k => ∃ ds, d = .tup ds ∧ ds.length = n ∧ u ds Γ k
theorem gd_tup {n : Nat} (h : GDs T io gs wgs) : GD T io (gTup T.K n gs) (wgTup n wgs) := fun H0 F0 ra F σ H Γ v d Q k s r hw z => by
  obtain ⟨ds, rfl, hn, hw⟩ := hw
  cases r with
  | tup hs ra' => exact ⟨_, _, rfl, sqt_same hs s.rp.sub, by rw [ra'.length]; exact hn, h H0 F0 ra F σ H Γ _ _ _ _ s ra' hw z⟩
def wAsg (w : WE) (wg : WG) : WS := fun Ψ Γ => w Γ (fun r Γ1 => ∃ d Γ2, frz Γ1 r = some (d, Γ2) ∧ wg d Γ2 Ψ.nx) Ψ.xe
theorem sd_asg (h : ED T E t w) (h' : GD T io g wg) : SD T io E (tAsg t g) (wAsg w wg) := fun H0 F0 ra F σ H Γ D Ψ s hw e => h F σ H Γ _ _ _ s.rp hw (e.xo s) fun F1 H1 Γ1 v r hr q er => by
  obtain ⟨d, Γ2, a, hg⟩ := hr
  obtain ⟨F2, q2, s2, r2⟩ := RepR.frz q er a
  exact h' H0 F0 ra F2 σ H1 Γ2 v d _ _ (s.po q2) r2 hg fun F3 σ3 Γ3 h3 _ s3 => e.nx F3 σ3 H1 Γ3 h3 s3
theorem po_own {i : Nat} {ds ds' : List D} {a : Addr} {vs vs' : List V} (p : Rp T F σ H Γ) (hi : Γ[i]? = some (some (.own ds))) (hσ : σ[i]? = some (some (.ref a))) (ha : H a = some (.lst vs)) (fa : F a = none) (r : RepA T.K F vs' ds') :
    Po T F σ H Γ F (upd H a (.lst vs')) (Γ.set i (some (.own ds'))) := by
  refine po_io p hi hσ (rv' := vs') ⟨⟨fun b o h => ?_, p.nt, fun P hP => tab_lst ha (p.tabs P hP), fun l hP => lab_lst ha (p.labs l hP)⟩, fun _ _ h => h, fun b o h _ n => ?_, fun b o h => ?_, fun b o h => .inl h⟩ upd_same fa r
  · rw [upd_ne fun z => by rw [z, fa] at h; cases h]
    exact p.sub _ _ h
  · rw [upd_ne fun z => n ⟨rfl, z⟩]
    exact h
  · by_cases hb : b = a
    · subst hb; exact ⟨_, upd_same⟩
    · exact ⟨o, by rw [upd_ne hb]; exact h⟩
def wPutAt (i : Nat) (w wk : WE) : WS := fun Ψ Γ => w Γ (fun r Γ1 => ∃ d Γ2 en, frz Γ1 r = some (d, Γ2) ∧ Γ2[i]? = some (some en) ∧ wk Γ2 (fun rk Γ3 => ∃ k ds j, rk.at Γ3 = some (.int k) ∧ Γ3[i]? = some (some (.own ds)) ∧ ixN ds.length k = some j ∧ Ψ.nx (Γ3.set i (some (.own (ds.set j d))))) Ψ.xe) Ψ.xe
theorem sd_putAt {i : Nat} {tk : TE} {wk : WE} (h : ED T E t w) (hk : ED T E tk wk) : SD T io E (tAsg t (gSub (tVar i) tk rSetL)) (wPutAt i w wk) := fun H0 F0 ra F σ H Γ D Ψ s hw e => h F σ H Γ _ _ _ s.rp hw (e.xo s) fun F1 H1 Γ1 v r hr q er => by
  obtain ⟨d, Γ2, en, a, hen, hg⟩ := hr
  obtain ⟨F2, q2, s2, r2⟩ := RepR.frz q er a
  have s2' := s.po q2
  obtain ⟨u, hu, _⟩ := q2.rp.at_ i en hen
  refine ⟨u, hu, ?_⟩
  refine hk F2 σ H1 Γ2 _ _ _ q2.rp hg (e.xo s2') fun F3 H3 Γ3 y rk hr3 q3 e3 => ?_
  obtain ⟨k, ds, j, a1, hi, hj, hn⟩ := hr3
  obtain ⟨u', e4, b, vs, rfl, hb, fb, rb⟩ := q3.rp.at_ i _ hi
  rw [hu] at e4
  cases e4
  refine ⟨b, vs, k, j, rfl, (e3.peek q3.rp a1).int, hb, by rw [rb.length]; exact hj, ?_⟩
  exact e.nx F3 σ _ _ hn (s2'.po (q3.trans (po_own q3.rp hi hu hb fb (RepA.set (r2.mono q3.ff) j rb))))
def wAugAt (i : Nat) (wk w : WE) (g : D → D → (R → Prop) → Prop) : WS := fun Ψ Γ => ∃ en, Γ[i]? = some (some en) ∧ wk Γ (fun rk Γ1 => ∃ k ds j d, rk.at Γ1 = some (.int k) ∧ Γ1[i]? = some (some (.own ds)) ∧ ixN ds.length k = some j ∧ ds[j]? = some d ∧
  w Γ1 (fun r Γ2 => ∃ e ds2, r.at Γ2 = some e ∧ Γ2[i]? = some (some (.own ds2)) ∧ ds2.length = ds.length ∧ g d e fun r => ∃ z, r = .val z ∧ Ψ.nx (Γ2.set i (some (.own (ds2.set j z))))) Ψ.xe) Ψ.xe
def wPar (i j : Nat) (wA : WA) : WS := fun Ψ Γ => wA Γ (fun rs Γ1 => ∃ d e Γ2, frzL Γ1 rs = some ([d, e], Γ2) ∧ Ψ.nx ((Γ2.set i (some (.shr d))).set j (some (.shr e)))) Ψ.xe
theorem sd_par {i j : Nat} (h : AD T E tA wA) (hi : (i ≠ 0 ∧ j ≠ 0) ∨ io = false) : SD T io E (tPar i j tA) (wPar i j wA) := fun H0 F0 ra F σ H Γ D Ψ s hw e => h F σ H Γ _ _ _ s.rp hw (e.xo s) fun F1 H1 Γ1 vs rs hr q er => by
  obtain ⟨d, e', Γ2, a, hn⟩ := hr
  obtain ⟨F2, q2, s2, r2⟩ := RepRs.frz q er a
  cases r2 with
  | cons r1 r2 =>
    cases r2 with
    | cons r2 r3 =>
      cases r3
      refine ⟨_, _, rfl, e.nx F2 _ H1 _ hn (((s.po q2).set (e := .shr d) r1 (hi.imp (·.1) id) (fun _ z => by cases z)).set (e := .shr e') r2 (hi.imp (·.2) id) (fun _ z => by cases z))⟩
def wAug (i : Nat) (w : WE) (g : D → D → (R → Prop) → Prop) : WS := fun Ψ Γ => ∃ d, Γ[i]? = some (some (.shr d)) ∧ w Γ (fun r Γ1 => ∃ e, r.at Γ1 = some e ∧ g d e fun r => putW i r Γ1 Ψ.nx) Ψ.xe
def Wk (T : Tb) (F : Hp) (J : It) (ds : List D) : Prop := ∀ (F' H' : Hp) (i : Nat), Same F F' → Ok T F' H' → (i = ds.length → J.stop i H') ∧ ∀ d, ds[i]? = some d → J.go i H' ∧ ∀ x H'', J.yld i H' x H'' → ∃ F'', Nw T F' H' F'' H'' ∧ Rep T.K F'' x d
abbrev WI := Gm → (List D → Gm → Prop) → (XD → Prop) → Prop
def ID (T : Tb) (E : XK) (wi : TI) (w : WI) : Prop := ∀ (F : Hp) (σ : St) (H : Hp) (Γ : Gm) (Q : It → Hp → Prop) (Ψ : List D → Gm → Prop) (Ξ : XD → Prop), Rp T F σ H Γ → w Γ Ψ Ξ → XO T σ E Ξ F H Γ →
  (∀ F' H' Γ' J ds, Ψ ds Γ' → Po T F σ H Γ F' H' Γ' → Wk T F' J ds → Q J H') → wi σ H Q
theorem Rs.same {H0 F0 : Hp} {ra : Addr} (s : Rs T io H0 F0 ra F σ H Γ) : Rs T io H0 F0 ra F σ H Γ := s
def wFor (wi : WI) (wg : WG) (u : WS) : WS := fun Ψ Γ => wi Γ (fun ds Γ1 => ∃ I : Nat → Gm → Prop, I 0 Γ1 ∧ (∀ i Γ d, I i Γ → ds[i]? = some d → wg d Γ fun Γ2 => u { Ψ with nx := I (i + 1), ct := I (i + 1), bk := Ψ.nx } Γ2) ∧ ∀ Γ, I ds.length Γ → Ψ.nx Γ) Ψ.xe
theorem sd_for {wi : TI} {wI : WI} {s1 : TS} {u1 : WS} (hi : ID T E wi wI) (hg : GD T io g wg) (hb : SD T io E s1 u1) : SD T io E (tFor wi g s1) (wFor wI wg u1) := fun H0 F0 ra F σ H Γ D Ψ s hw e => hi F σ H Γ _ _ _ s.rp hw (e.xo s) fun F1 H1 Γ1 J ds hr q wk => by
  obtain ⟨I, h0, hs, hd⟩ := hr
  refine ⟨fun i m σ H => m = ds.length - i ∧ i ≤ ds.length ∧ ∃ F Γ, I i Γ ∧ Same F1 F ∧ Rs T io H0 F0 ra F σ H Γ, ⟨ds.length, by simp, Nat.zero_le _, F1, Γ1, h0, fun _ _ h => h, s.po q⟩, ?_⟩
  rintro i m σ2 H2 ⟨rfl, hle, F2, Γ2, h2, f2, s2⟩
  by_cases hlt : i < ds.length
  · refine .inr ?_
    obtain ⟨go, yl⟩ := (wk F2 H2 i f2 s2.rp.toOk).2 _ (List.getElem?_eq_getElem hlt)
    refine ⟨go, fun σ H => ∃ F Γ, I (i + 1) Γ ∧ Same F1 F ∧ Rs T io H0 F0 ra F σ H Γ, fun σ' H' h => ⟨ds.length - (i + 1), by omega, rfl, hlt, h⟩, fun x H3 hy => ?_⟩
    obtain ⟨F3, n3, r3⟩ := yl x H3 hy
    have s3 := s2.po (s2.rp.po n3)
    refine hg H0 F0 ra F3 σ2 H3 Γ2 x _ _ _ s3 r3 (hs i Γ2 _ h2 (List.getElem?_eq_getElem hlt)) fun F4 σ4 Γ4 h4 f4 s4 => ?_
    have f14 : Same F1 F4 := fun b o h => f4 b o (n3.ff b o (f2 b o h))
    refine hb H0 F4 ra F4 σ4 H3 Γ4 _ { Ψ with nx := I (i + 1), ct := I (i + 1), bk := Ψ.nx } ⟨s4.rp, fun _ _ h => h, s4.en, s4.fr, s4.gro, fun _ _ h => .inl h, s4.par⟩ h4 ⟨fun F5 σ5 H5 Γ5 h5 s5 => ?_, fun F5 σ5 H5 Γ5 h5 s5 => ?_, fun F5 σ5 H5 Γ5 h5 s5 => ?_, fun F5 σ5 H5 Γ5 v r h5 s5 e5 => ?_, fun F5 σ5 H5 Γ5 xd h5 s5 => ?_⟩
    all_goals
      have s5' : Rs T io H0 F0 ra F5 σ5 H5 Γ5 := ⟨s5.rp, fun b o h => s5.ff b o (s4.ff b o h), s5.en, s5.fr, s5.gro, fun b o h => (s5.nf b o h).elim (s4.nf b o) .inr, s5.par⟩
    · exact ⟨F5, Γ5, h5, fun b o h => s5.ff b o (f14 b o h), s5'⟩
    · exact e.nx F5 σ5 H5 Γ5 h5 s5'
    · exact ⟨F5, Γ5, h5, fun b o h => s5.ff b o (f14 b o h), s5'⟩
    · exact e.rt F5 σ5 H5 Γ5 v r h5 s5' e5
    · exact e.xe F5 σ5 H5 Γ5 xd h5 s5'
  · have ei : i = ds.length := by omega
    subst ei
    exact .inl ⟨(wk F2 H2 _ f2 s2.rp.toOk).1 rfl, e.nx F2 σ2 H2 Γ2 (hd Γ2 h2) s2⟩
def wWhile (w : WT) (u : WS) : WS := fun Ψ Γ => ∃ I : Nat → Gm → Prop, (∃ m, I m Γ) ∧ ∀ m Γ, I m Γ → w Γ (fun b Γ1 => if b = true then u { Ψ with nx := fun Γ => ∃ m', m' < m ∧ I m' Γ, ct := fun Γ => ∃ m', m' < m ∧ I m' Γ, bk := Ψ.nx } Γ1 else Ψ.nx Γ1) Ψ.xe
end
end Dt
set_option Elab.async false
set_option linter.all false
set_option maxRecDepth 100000
set_option autoImplicit false
namespace Dt
open PySem L2 Kx
section
variable {T : Tb} {F F1 F2 F' H H1 H2 H' : Hp} {σ σ2 : St} {Γ Γ1 Γ2 Γ' Γw : Gm} {E : XK} {t ta tb tc te : TE} {w wa wb wc we : WE} {tA : TA} {wA : WA} {io : Bool} {s1 : TS} {u1 : WS} {t1 tt : TT} {w1 wt : WT}
theorem sd_while (h : TD T E t1 w1) (hb : SD T io E s1 u1) : SD T io E (tWhile t1 s1) (wWhile w1 u1) := fun H0 F0 ra F σ H Γ D Ψ s hw e => by
  obtain ⟨I, ⟨m0, h0⟩, hs⟩ := hw
  refine ⟨fun m σ H => ∃ F Γ, I m Γ ∧ Rs T io H0 F0 ra F σ H Γ, ⟨m0, F, Γ, h0, s⟩, fun m σ2 H2 h2 => ?_⟩
  obtain ⟨F2, Γ2, i2, s2⟩ := h2
  refine h F2 σ2 H2 Γ2 _ _ _ s2.rp (hs m Γ2 i2) (e.xo s2) fun F3 H3 Γ3 b hb3 q3 => ?_
  cases b with
  | false => exact e.nx F3 σ2 H3 Γ3 hb3 (s2.po q3)
  | true =>
    refine ⟨fun σ H => ∃ m', m' < m ∧ ∃ F Γ, I m' Γ ∧ Rs T io H0 F0 ra F σ H Γ, fun σ' H' h => h, ?_⟩
    exact hb H0 F0 ra F3 σ2 H3 Γ3 _ _ (s2.po q3) hb3 ⟨fun F4 σ4 H4 Γ4 ⟨m', hm, i4⟩ s4 => ⟨m', hm, F4, Γ4, i4, s4⟩, fun F4 σ4 H4 Γ4 h4 s4 => e.nx F4 σ4 H4 Γ4 h4 s4, fun F4 σ4 H4 Γ4 ⟨m', hm, i4⟩ s4 => ⟨m', hm, F4, Γ4, i4, s4⟩, e.rt, e.xe⟩
def wipeG (Γ : Gm) : List Nat → Gm
  | [] => Γ
  | v :: vs => (wipeG Γ vs).set v none
def rstG (Γ Γw : Gm) : List Nat → Gm
  | [] => Γw
  | v :: vs => (rstG Γ Γw vs).set v (match Γ[v]? with | some e => e | none => none)
theorem wipe_out {σ : St} {j : Nat} : ∀ {vs : List Nat}, j ∉ vs → (wipe σ vs)[j]? = σ[j]?
  | [], _ => rfl
  | v :: vs, h => by
    simp only [List.mem_cons, not_or] at h
    unfold wipe
    rw [List.getElem?_set_ne (Ne.symm h.1), wipe_out h.2]
theorem wipeG_length {Γ : Gm} : ∀ {vs : List Nat}, (wipeG Γ vs).length = Γ.length
  | [] => rfl
  | v :: vs => by unfold wipeG; rw [List.length_set, wipeG_length]
theorem wipeG_out {Γ : Gm} {j : Nat} : ∀ {vs : List Nat}, j ∉ vs → (wipeG Γ vs)[j]? = Γ[j]?
  | [], _ => rfl
  | v :: vs, h => by
    simp only [List.mem_cons, not_or] at h
    unfold wipeG
    rw [List.getElem?_set_ne (Ne.symm h.1), wipeG_out h.2]
theorem wipeG_in {Γ : Gm} {j : Nat} {e : En} : ∀ {vs : List Nat}, (wipeG Γ vs)[j]? = some (some e) → j ∉ vs ∧ Γ[j]? = some (some e)
  | [], h => ⟨by simp, h⟩
  | v :: vs, h => by
    unfold wipeG at h
    by_cases hv : v = j
    · subst hv
      by_cases hl : v < (wipeG Γ vs).length
      · rw [List.getElem?_set_self hl] at h; cases h
      · rw [List.getElem?_eq_none (by simpa using hl)] at h; cases h
    · rw [List.getElem?_set_ne hv] at h
      obtain ⟨h1, h2⟩ := wipeG_in h
      exact ⟨by simp only [List.mem_cons, not_or]; exact ⟨fun z => hv z.symm, h1⟩, h2⟩
theorem wipeG_at {Γ : Gm} {j : Nat} {vs : List Nat} (h : j ∈ vs) (hl : j < Γ.length) : (wipeG Γ vs)[j]? = some none := by
  have h1 : j < (wipeG Γ vs).length := by rw [wipeG_length]; exact hl
  cases e : (wipeG Γ vs)[j]? with
  | none => rw [List.getElem?_eq_none_iff] at e; omega
  | some o =>
    cases o with
    | none => rfl
    | some x => exact absurd h (wipeG_in e).1
theorem wipeG_ext {Γ Γ' : Gm} {vs : List Nat} (hl : Γ.length = Γ'.length) (h : ∀ j : Nat, j ∉ vs → Γ[j]? = Γ'[j]?) : wipeG Γ vs = wipeG Γ' vs := by
  refine List.ext_getElem? fun j => ?_
  by_cases hj : j ∈ vs
  · by_cases hlt : j < Γ.length
    · rw [wipeG_at hj hlt, wipeG_at hj (hl ▸ hlt)]
    · rw [List.getElem?_eq_none (by rw [wipeG_length]; omega), List.getElem?_eq_none (by rw [wipeG_length]; omega)]
  · rw [wipeG_out hj, wipeG_out hj, h j hj]
theorem wipeG_idem {Γ : Gm} {vs : List Nat} : wipeG (wipeG Γ vs) vs = wipeG Γ vs := wipeG_ext wipeG_length fun j hj => wipeG_out hj
theorem rstG_out {Γ Γw : Gm} {j : Nat} : ∀ {vs : List Nat}, j ∉ vs → (rstG Γ Γw vs)[j]? = Γw[j]?
  | [], _ => rfl
  | v :: vs, h => by
    simp only [List.mem_cons, not_or] at h
    unfold rstG
    rw [List.getElem?_set_ne (Ne.symm h.1), rstG_out h.2]
theorem rstG_length {Γ Γw : Gm} : ∀ {vs : List Nat}, (rstG Γ Γw vs).length = Γw.length
  | [] => rfl
  | v :: vs => by unfold rstG; rw [List.length_set, rstG_length]
theorem rstG_in {Γ Γw : Gm} {j : Nat} {e : En} : ∀ {vs : List Nat}, j ∈ vs → (rstG Γ Γw vs)[j]? = some (some e) → Γ[j]? = some (some e)
  | v :: vs, hj, h => by
    unfold rstG at h
    by_cases hv : v = j
    · subst hv
      by_cases hl : v < (rstG Γ Γw vs).length
      · rw [List.getElem?_set_self hl] at h
        cases q : Γ[v]? with
        | none => rw [q] at h; cases h
        | some o => rw [q] at h; exact h
      · rw [List.getElem?_eq_none (by simpa using hl)] at h; cases h
    · rw [List.getElem?_set_ne hv] at h
      exact rstG_in ((List.mem_cons.mp hj).elim (fun z => absurd z.symm hv) id) h
theorem rstG_keep {Γ Γw : Gm} {j : Nat} {e : En} : ∀ {vs : List Nat}, j ∈ vs → Γ[j]? = some (some e) → j < Γw.length → (rstG Γ Γw vs)[j]? = some (some e)
  | v :: vs, hj, h, hl => by
    unfold rstG
    by_cases hv : v = j
    · subst hv
      rw [List.getElem?_set_self (by rw [rstG_length]; exact hl), h]
    · rw [List.getElem?_set_ne hv]
      exact rstG_keep ((List.mem_cons.mp hj).elim (fun z => absurd z.symm hv) id) h hl
def NoOwn (vs : List Nat) (Γ : Gm) : Prop := ∀ i ∈ vs, ∀ ds, Γ[i]? ≠ some (some (En.own ds))
theorem Rp.wipe {vs : List Nat} (p : Rp T F σ H Γ) : Rp T F (wipe σ vs) H (wipeG Γ vs) :=
  ⟨p.toOk, by rw [wipeG_length, wipe_length, p.len], fun i e h => by
    obtain ⟨h1, h2⟩ := wipeG_in h
    rw [wipe_out h1]
    exact p.at_ i e h2, fun i j ds ds' v h1 h2 h3 h4 => p.apart i j ds ds' v (wipeG_in h1).2 (wipeG_in h2).2 (wipe_some h3).1 (wipe_some h4).1⟩
theorem owns_wipe {vs : List Nat} {b : Addr} (h : Owns (wipe σ vs) (wipeG Γ vs) b) : Owns σ Γ b := let ⟨i, ds, h1, h2⟩ := h; ⟨i, ds, (wipeG_in h1).2, (wipe_some h2).1⟩
theorem owns_wipe' {vs : List Nat} {b : Addr} (n : NoOwn vs Γ) (h : Owns σ Γ b) : Owns (wipe σ vs) (wipeG Γ vs) b := by
  obtain ⟨i, ds, h1, h2⟩ := h
  have hi : i ∉ vs := fun z => n i z ds h1
  exact ⟨i, ds, by rw [wipeG_out hi]; exact h1, by rw [wipe_out hi]; exact h2⟩
theorem Po.wipe {vs : List Nat} (n : NoOwn vs Γ) (q : Po T F σ H Γ F' H' Γ') : Po T F (L2.wipe σ vs) H (wipeG Γ vs) F' H' (wipeG Γ' vs) :=
  ⟨q.rp.wipe, q.ff, fun b o h t no => q.fr b o h t fun z => no (owns_wipe' n z), fun i ds h => by
    obtain ⟨h1, h2⟩ := wipeG_in h
    obtain ⟨ds', h3⟩ := q.ow i ds h2
    exact ⟨ds', by rw [wipeG_out h1]; exact h3⟩, q.gro, fun b o h => (q.nf b o h).imp id (Or.imp id (owns_wipe' n)), fun i e h => by
    obtain ⟨h1, h2⟩ := wipeG_in h
    obtain ⟨e', h3⟩ := q.sl i e h2
    exact ⟨e', by rw [wipeG_out h1]; exact h3⟩⟩
theorem Po.unwipe {vs : List Nat} (p : Rp T F σ H Γ) (q : Po T F (L2.wipe σ vs) H (wipeG Γ vs) F' H' Γw) : Po T F σ H Γ F' H' (rstG Γ Γw vs) := by
  have len : Γw.length = Γ.length := by
    have := q.rp.len
    rw [wipe_length] at this
    rw [this, p.len]
  have get : ∀ (j : Nat) (e : En), (rstG Γ Γw vs)[j]? = some (some e) → (j ∈ vs ∧ Γ[j]? = some (some e)) ∨ (j ∉ vs ∧ Γw[j]? = some (some e)) := fun j e h => by
    by_cases hj : j ∈ vs
    · exact .inl ⟨hj, rstG_in hj h⟩
    · rw [rstG_out hj] at h
      exact .inr ⟨hj, h⟩
  have hid : ∀ (j : Nat) (ds : List D) (a : Addr), j ∈ vs → Γ[j]? = some (some (.own ds)) → σ[j]? = some (some (.ref a)) → ¬ Owns (L2.wipe σ vs) (wipeG Γ vs) a := fun j ds a hj h1 h2 ⟨k, es, h3, h4⟩ => by
    obtain ⟨hk, h3⟩ := wipeG_in h3
    exact hk (p.apart j k ds es _ h1 h3 h2 (wipe_some h4).1 ▸ hj)
  have ow : ∀ (j : Nat) (ds : List D), (rstG Γ Γw vs)[j]? = some (some (En.own ds)) → ∃ ds', Γ[j]? = some (some (En.own ds')) := fun j ds h1 => by
    rcases get j _ h1 with ⟨_, h1⟩ | ⟨hj, h1⟩
    · exact ⟨ds, h1⟩
    · obtain ⟨ds', h2⟩ := q.ow j ds h1
      exact ⟨ds', (wipeG_in h2).2⟩
  refine ⟨⟨q.rp.toOk, by rw [rstG_length, len, p.len], fun j e h => ?_, fun i j ds ds' v h1 h2 h3 h4 => ?_⟩, q.ff, fun b o h t no => q.fr b o h t fun z => no (owns_wipe z), ow, q.gro, fun b o h => (q.nf b o h).imp id (Or.imp id owns_wipe), fun j e h => ?_⟩
  · rcases get j e h with ⟨hj, h⟩ | ⟨hj, h⟩
    · obtain ⟨v, e1, re⟩ := p.at_ j e h
      refine ⟨v, e1, ?_⟩
      cases e with
      | shr d => exact Rep.mono q.ff re
      | own ds =>
        obtain ⟨a, ws, rfl, ha, fa, rw'⟩ := re
        have no := hid j ds a hj h e1
        refine ⟨a, ws, rfl, q.fr a _ ha lst_nt no, ?_, rw'.mono q.ff⟩
        cases z : F' a with
        | none => rfl
        | some o =>
          rcases q.nf a o z with y | y | y
          · rw [fa] at y; cases y
          · rw [ha] at y; cases y
          · exact absurd y no
    · obtain ⟨v, e1, re⟩ := q.rp.at_ j e h
      rw [wipe_out hj] at e1
      exact ⟨v, e1, re⟩
  · rcases get i _ h1 with ⟨hi, g1⟩ | ⟨hi, g1⟩
    · rcases get j _ h2 with ⟨hj, g2⟩ | ⟨hj, g2⟩
      · exact p.apart i j ds ds' v g1 g2 h3 h4
      · obtain ⟨v', e1, a, ws, rfl, _⟩ := q.rp.at_ j _ g2
        rw [wipe_out hj, h4] at e1
        cases e1
        exact absurd (q.ows ⟨j, ds', g2, by rw [wipe_out hj]; exact h4⟩) (hid i ds a hi g1 h3)
    · rcases get j _ h2 with ⟨hj, g2⟩ | ⟨hj, g2⟩
      · obtain ⟨v', e1, a, ws, rfl, _⟩ := q.rp.at_ i _ g1
        rw [wipe_out hi, h3] at e1
        cases e1
        exact absurd (q.ows ⟨i, ds, g1, by rw [wipe_out hi]; exact h3⟩) (hid j ds' a hj g2 h4)
      · exact q.rp.apart i j ds ds' v g1 g2 (by rw [wipe_out hi]; exact h3) (by rw [wipe_out hj]; exact h4)
  · by_cases hj : j ∈ vs
    · exact ⟨e, rstG_keep hj h (by rw [len]; exact (List.getElem?_eq_some_iff.mp h).1)⟩
    · obtain ⟨e', h'⟩ := q.sl j e (by rw [wipeG_out hj]; exact h)
      exact ⟨e', by rw [rstG_out hj]; exact h'⟩
def CG (T : Tb) (vs : List Nat) (g : TG) (w : WG) : Prop := ∀ (F : Hp) (σ : St) (H : Hp) (Γ : Gm) (v : V) (d : D) (Q : St → Hp → Prop) (k : Gm → Prop), Rp T F σ H Γ → NoOwn vs Γ → Rep T.K F v d → w d Γ k →
  (∀ σ' Γ', k Γ' → Rp T F σ' H Γ' → NoOwn vs Γ' → σ'.length = σ.length → (∀ j, j ∉ vs → σ'[j]? = σ[j]? ∧ Γ'[j]? = Γ[j]?) → Q σ' H) → g v σ H Q
def CGs (T : Tb) (vs : List Nat) (g : TGs) (w : WGs) : Prop := ∀ (F : Hp) (σ : St) (H : Hp) (Γ : Gm) (xs : List V) (ds : List D) (Q : St → Hp → Prop) (k : Gm → Prop), Rp T F σ H Γ → NoOwn vs Γ → RepA T.K F xs ds → w ds Γ k →
  (∀ σ' Γ', k Γ' → Rp T F σ' H Γ' → NoOwn vs Γ' → σ'.length = σ.length → (∀ j, j ∉ vs → σ'[j]? = σ[j]? ∧ Γ'[j]? = Γ[j]?) → Q σ' H) → g xs σ H Q
theorem Rp.set {i : Nat} {v : V} {d : D} (p : Rp T F σ H Γ) (h : Rep T.K F v d) : Rp T F (σ.set i (some v)) H (Γ.set i (some (.shr d))) := by
  have get : ∀ (j : Nat) (e' : En), (Γ.set i (some (.shr d)))[j]? = some (some e') → (j = i ∧ i < Γ.length ∧ e' = .shr d) ∨ (j ≠ i ∧ Γ[j]? = some (some e')) := fun j e' hj => by
    by_cases hji : j = i
    · subst hji
      have hl : j < (Γ.set j (some (.shr d))).length := (List.getElem?_eq_some_iff.mp hj).1
      rw [List.length_set] at hl
      rw [List.getElem?_set_self hl] at hj
      cases hj
      exact .inl ⟨rfl, hl, rfl⟩
    · rw [List.getElem?_set_ne (Ne.symm hji)] at hj
      exact .inr ⟨hji, hj⟩
  refine ⟨p.toOk, by simpa using p.len, fun j e' hj => ?_, fun j k es es' x h1 h2 h3 h4 => ?_⟩
  · rcases get j e' hj with ⟨rfl, hl, rfl⟩ | ⟨hji, hj⟩
    · exact ⟨v, List.getElem?_set_self (by rw [← p.len]; exact hl), h⟩
    · rw [List.getElem?_set_ne (Ne.symm hji)]
      exact p.at_ j e' hj
  · rcases get j _ h1 with ⟨_, _, z⟩ | ⟨hj, h1'⟩
    · cases z
    rcases get k _ h2 with ⟨_, _, z⟩ | ⟨hk, h2'⟩
    · cases z
    rw [List.getElem?_set_ne (Ne.symm hj)] at h3
    rw [List.getElem?_set_ne (Ne.symm hk)] at h4
    exact p.apart j k es es' x h1' h2' h3 h4
variable {g : TG} {gs : TGs} {wg : WG} {wgs : WGs}
theorem cg_name {i : Nat} {vs : List Nat} (hi : i ∈ vs) : CG T vs (gName i) (wgName i) := fun F σ H Γ v d Q k p n r h z => by
  refine z _ _ h (p.set r) (fun j hj ds q => ?_) (by simp) fun j hj => ?_
  · by_cases hji : j = i
    · subst hji
      have hl : j < (Γ.set j (some (.shr d))).length := (List.getElem?_eq_some_iff.mp q).1
      rw [List.length_set] at hl
      rw [List.getElem?_set_self hl] at q
      cases q
    · rw [List.getElem?_set_ne (Ne.symm hji)] at q
      exact n j hj ds q
  · have hji : i ≠ j := fun z => hj (z ▸ hi)
    exact ⟨List.getElem?_set_ne hji, List.getElem?_set_ne hji⟩
theorem cg_nil {vs : List Nat} : CGs T vs gNil wgNil := fun F σ H Γ xs ds Q k p n r h z => by
  obtain ⟨rfl, h⟩ := h
  cases r
  exact ⟨rfl, z σ Γ h p n rfl fun _ _ => ⟨rfl, rfl⟩⟩
theorem cg_cons {vs : List Nat} (h : CG T vs g wg) (h' : CGs T vs gs wgs) : CGs T vs (gCons g gs) (wgCons wg wgs) := fun F σ H Γ xs ds Q k p n r hw z => by
  obtain ⟨d, es, rfl, hw⟩ := hw
  cases r with
  | cons r1 r2 =>
    refine ⟨_, _, rfl, h F σ H Γ _ _ _ _ p n r1 hw fun σ1 Γ1 h1 p1 n1 l1 j1 => ?_⟩
    exact h' F σ1 H Γ1 _ _ _ _ p1 n1 r2 h1 fun σ2 Γ2 h2 p2 n2 l2 j2 => z σ2 Γ2 h2 p2 n2 (l2.trans l1) fun j hj => ⟨(j2 j hj).1.trans (j1 j hj).1, (j2 j hj).2.trans (j1 j hj).2⟩
theorem cg_tup {n : Nat} {vs : List Nat} (h : CGs T vs gs wgs) : CG T vs (gTup T.K n gs) (wgTup n wgs) := fun F σ H Γ v d Q k p no r hw z => by
  obtain ⟨ds, rfl, hn, hw⟩ := hw
  cases r with
  | tup hs ra' => exact ⟨_, _, rfl, sqt_same hs p.sub, by rw [ra'.length]; exact hn, h F σ H Γ _ _ _ _ p no ra' hw z⟩
def wLc (wi : WI) (wg : WG) (wt : WT) (we : WE) (vs : List Nat) : WE := fun Γ Ψ Ξ => wi Γ (fun ds Γ1 => ds.length ≤ sizeLine ∧ ∃ I : Nat → List D → Gm → Prop, I 0 [] (wipeG Γ1 vs) ∧
  (∀ i acc Γ d, I i acc Γ → ds[i]? = some d → wg d Γ fun Γ2 => wt Γ2 (fun b Γ3 => if b = true then we Γ3 (fun r Γ4 => ∃ y Γ5, frz Γ4 r = some (y, Γ5) ∧ I (i + 1) (acc ++ [y]) (wipeG Γ5 vs)) (fun _ => False) else I (i + 1) acc (wipeG Γ3 vs)) fun _ => False) ∧
  ∀ acc Γ, I ds.length acc Γ → Ψ (.new acc) (rstG Γ1 Γ vs)) Ξ
theorem wipe_ext {σ σ' : St} {vs : List Nat} (hl : σ.length = σ'.length) (h : ∀ j : Nat, j ∉ vs → σ[j]? = σ'[j]?) : wipe σ vs = wipe σ' vs := by
  refine List.ext_getElem? fun j => ?_
  by_cases hj : j ∈ vs
  · have one : ∀ {ρ : St}, j < ρ.length → (wipe ρ vs)[j]? = some none := fun {ρ} hlt => by
      have h1 : j < (wipe ρ vs).length := by rw [wipe_length]; exact hlt
      cases e : (wipe ρ vs)[j]? with
      | none => rw [List.getElem?_eq_none_iff] at e; omega
      | some o =>
        cases o with
        | none => rfl
        | some x => exact absurd hj (wipe_some e).2
    by_cases hlt : j < σ.length
    · rw [one hlt, one (hl ▸ hlt)]
    · rw [List.getElem?_eq_none (by rw [wipe_length]; omega), List.getElem?_eq_none (by rw [wipe_length]; omega)]
  · rw [wipe_out hj, wipe_out hj, h j hj]
theorem noOwn_wipe {vs : List Nat} : NoOwn vs (wipeG Γ vs) := fun i hi ds h => (wipeG_in h).1 hi
theorem Po.grow {Fs Hs : Hp} {Γs : Gm} {Dn : Addr} {ws ws' : List V} (p0 : Rp T Fs σ Hs Γs) (q : Po T Fs σ Hs Γs F H Γ) (hn : Hs Dn = Option.none) (fd : F Dn = Option.none) (hd : H Dn = some (.lst ws)) : Po T Fs σ Hs Γs F (upd H Dn (.lst ws')) Γ := by
  have p := q.rp
  refine ⟨⟨⟨fun b o h => ?_, p.nt, fun P hP => tab_lst hd (p.tabs P hP), fun l hP => lab_lst hd (p.labs l hP)⟩, p.len, fun i e h => ?_, p.apart⟩, q.ff, fun b o h t no => ?_, q.ow, fun b o h => ?_, q.nf, q.sl⟩
  · rw [upd_ne fun z => by rw [z, fd] at h; cases h]
    exact p.sub _ _ h
  · obtain ⟨v, e1, re⟩ := p.at_ i e h
    refine ⟨v, e1, ?_⟩
    cases e with
    | shr d => exact re
    | own ds =>
      obtain ⟨a, us, rfl, ha, fa, ra⟩ := re
      refine ⟨a, us, rfl, ?_, fa, ra⟩
      rw [upd_ne fun z => ?_]
      · exact ha
      · subst z
        obtain ⟨us', h1, _⟩ := p0.owns (q.ows ⟨i, ds, h, e1⟩)
        rw [hn] at h1
        cases h1
  · rw [upd_ne fun z => by rw [z, hn] at h; cases h]
    exact q.fr b o h t no
  · rw [upd_ne fun z => by rw [z, hn] at h; cases h]
    exact q.gro b o h
theorem Po.known {b : Addr} {o : HO} (q : Po T F σ H Γ F' H' Γ') (hb : H b = some o) (fb : F b = Option.none) (no : ¬ Owns σ Γ b) : F' b = Option.none := by
  cases z : F' b with
  | none => rfl
  | some u =>
    rcases q.nf b u z with y | y | y
    · rw [fb] at y; cases y
    · rw [hb] at y; cases y
    · exact absurd y no
theorem lc_d {vs : List Nat} {J : It} {ds : List D} {F1 H1 : Hp} {Γ1 : Gm} {σ : St} {Qd : Addr → Hp → Prop} (hlen : ds.length ≤ sizeLine) (p1 : Rp T F1 σ H1 Γ1) (hg : CG T vs g wg) (ht : TD T E0 tt wt) (he : ED T E0 te we) (I : Nat → List D → Gm → Prop) (h0 : I 0 [] (wipeG Γ1 vs))
    (hs : ∀ i acc Γ d, I i acc Γ → ds[i]? = some d → wg d Γ fun Γ2 => wt Γ2 (fun b Γ3 => if b = true then we Γ3 (fun r Γ4 => ∃ y Γ5, frz Γ4 r = some (y, Γ5) ∧ I (i + 1) (acc ++ [y]) (wipeG Γ5 vs)) (fun _ => False) else I (i + 1) acc (wipeG Γ3 vs)) fun _ => False)
    (wk : ∀ i acc F2 H2 Γ2, I i acc Γ2 → Same F1 F2 → Rp T F2 (wipe σ vs) H2 Γ2 → (i = ds.length → J.stop i H2) ∧ ∀ d, ds[i]? = some d → J.go i H2 ∧ ∀ x H3, J.yld i H2 x H3 → ∃ F3, Nw T F2 H2 F3 H3 ∧ Rep T.K F3 x d)
    (k : ∀ F2 H2 Γ2 acc Dn, I ds.length acc Γ2 → Po T F1 σ H1 Γ1 F2 H2 (rstG Γ1 Γ2 vs) → RepR T F2 σ H2 (rstG Γ1 Γ2 vs) H1 (.ref Dn) (.new acc) → Qd Dn H2) :
    ∀ Dn, H1 Dn = none → ∃ W : Nat → Nat → Hp → Prop, (∃ m, W 0 m (upd H1 Dn (.lst []))) ∧ ∀ i m H, W i m H →
      (J.stop i H ∧ Qd Dn H) ∨ (J.go i H ∧ ∃ Nx : Hp → Prop, (∀ H', Nx H' → ∃ m', m' < m ∧ W (i + 1) m' H') ∧ ∀ x H', J.yld i H x H' → g x (wipe σ vs) H' fun σ2 H2 => wipe σ2 vs = wipe σ vs ∧ tt σ2 H2 fun b H3 =>
        if b = true then te σ2 H3 fun y H4 => ∃ acc, H4 Dn = some (.lst acc) ∧ acc.length < sizeLine ∧ Nx (upd H4 Dn (.lst (acc ++ [y]))) else Nx H3) := by
  intro Dn hDn
  have pw := p1.wipe (vs := vs)
  have xo0 : ∀ {ρ : St} {F H : Hp} {Γ : Gm}, XO T ρ E0 (fun _ => False) F H Γ := fun {ρ F H Γ} _ _ _ _ h => h.elim
  have noW : ¬ Owns (wipe σ vs) (wipeG Γ1 vs) Dn := fun z => by
    obtain ⟨us, h1, _⟩ := pw.owns z
    rw [hDn] at h1
    cases h1
  have f1D : F1 Dn = none := by
    cases e : F1 Dn with
    | none => rfl
    | some u => have := p1.sub _ _ e; rw [hDn] at this; cases this
  refine ⟨fun i m H => m = ds.length - i ∧ i ≤ ds.length ∧ ∃ F Γw acc ws, I i acc Γw ∧ acc.length ≤ i ∧ Γw = wipeG Γw vs ∧ Po T F1 (wipe σ vs) H1 (wipeG Γ1 vs) F H Γw ∧ Same F1 F ∧ H Dn = some (.lst ws) ∧ F Dn = none ∧ RepA T.K F ws acc,
    ⟨ds.length, by simp, Nat.zero_le _, F1, _, [], [], h0, Nat.le_refl _, wipeG_idem.symm, pw.po (pw.toOk.put hDn), fun _ _ h => h, upd_same, f1D, .nil⟩, ?_⟩
  rintro i m H2 ⟨rfl, hle, F2, Γ2, acc, ws, i2, hacc, hw2, q2, f2, hD2, fD2, r2⟩
  by_cases hlt : ¬ i < ds.length
  · have ei : i = ds.length := by omega
    subst ei
    refine .inl ⟨(wk _ acc F2 H2 Γ2 i2 f2 q2.rp).1 rfl, ?_⟩
    have q3 := Po.unwipe p1 q2
    refine k F2 H2 Γ2 acc Dn i2 q3 ⟨Dn, ws, rfl, hD2, fD2, hDn, r2, fun z => ?_⟩
    obtain ⟨us, h1, _⟩ := p1.owns (q3.ows z)
    rw [hDn] at h1
    cases h1
  · have hlt : i < ds.length := by omega
    refine .inr ?_
    obtain ⟨go, yl⟩ := (wk i acc F2 H2 Γ2 i2 f2 q2.rp).2 _ (List.getElem?_eq_getElem hlt)
    refine ⟨go, fun H => ∃ F Γw acc ws, I (i + 1) acc Γw ∧ acc.length ≤ i + 1 ∧ Γw = wipeG Γw vs ∧ Po T F1 (wipe σ vs) H1 (wipeG Γ1 vs) F H Γw ∧ Same F1 F ∧ H Dn = some (.lst ws) ∧ F Dn = none ∧ RepA T.K F ws acc, fun H' h => ⟨ds.length - (i + 1), by omega, rfl, hlt, h⟩, fun xv H3 hy => ?_⟩
    obtain ⟨F3, n3, r3⟩ := yl xv H3 hy
    have q3 := q2.nw n3
    have nown2 : NoOwn vs Γ2 := hw2 ▸ noOwn_wipe
    have hD3 : H3 Dn = some (.lst ws) := n3.hh _ _ hD2 lst_nt
    have fD3 : F3 Dn = none := by
      cases z : F3 Dn with
      | none => rfl
      | some u =>
        rcases n3.nf _ _ z with y | y
        · rw [fD2] at y; cases y
        · rw [hD2] at y; cases y
    refine hg F3 (wipe σ vs) H3 Γ2 xv _ _ _ q3.rp nown2 r3 (hs i acc Γ2 _ i2 (List.getElem?_eq_getElem hlt)) fun σ4 Γ4 h4 p4 n4 l4 j4 => ?_
    have eσ : wipe σ4 vs = wipe σ vs := by
      refine (wipe_ext l4 fun j hj => (j4 j hj).1).trans (wipe_ext (by rw [wipe_length]) fun j hj => wipe_out hj)
    have eΓ : wipeG Γ4 vs = Γ2 := (wipeG_ext (by rw [p4.len, l4, ← q3.rp.len]) fun j hj => (j4 j hj).2).trans hw2.symm
    have noD4 : ¬ Owns σ4 Γ4 Dn := fun z => by
      have z1 := owns_wipe' n4 z
      rw [eσ, eΓ] at z1
      exact noW (q3.ows z1)
    refine ⟨eσ, ht F3 σ4 H3 Γ4 _ _ _ p4 h4 xo0 fun F5 H5 Γ5 b hb5 q5 => ?_⟩
    have q5w : Po T F3 (wipe σ vs) H3 Γ2 F5 H5 (wipeG Γ5 vs) := by
      have := q5.wipe n4
      rw [eσ, eΓ] at this
      exact this
    have hD5 := q5.fr _ _ hD3 lst_nt noD4
    have fD5 := q5.known hD3 fD3 noD4
    have f15 : Same F1 F5 := fun b o h => q5.ff b o (n3.ff b o (f2 b o h))
    cases b with
    | false =>
      exact ⟨F5, _, acc, ws, hb5, by omega, wipeG_idem.symm, q3.trans q5w, f15, hD5, fD5, r2.mono fun b o h => q5.ff b o (n3.ff b o h)⟩
    | true =>
      have noD5 : ¬ Owns σ4 Γ5 Dn := fun z => noD4 (q5.ows z)
      refine he F5 σ4 H5 Γ5 _ _ _ q5.rp hb5 xo0 fun F6 H6 Γ6 y r h6 q6 e6 => ?_
      obtain ⟨yd, Γ7, a7, h7⟩ := h6
      obtain ⟨F7, q7, s7, r7⟩ := RepR.frz q6 e6 a7
      have n5 : NoOwn vs Γ5 := fun j hj es h => by
        obtain ⟨es', h'⟩ := q5.ow j es h
        exact n4 j hj es' h'
      have q7w : Po T F5 (wipe σ vs) H5 (wipeG Γ5 vs) F7 H6 (wipeG Γ7 vs) := by
        have := q7.wipe n5
        rw [eσ] at this
        exact this
      have hD7 := q7.fr _ _ hD5 lst_nt noD5
      have fD7 := q7.known hD5 fD5 noD5
      refine ⟨ws, hD7, ?_, F7, _, acc ++ [yd], ws ++ [y], h7, by simp; omega, wipeG_idem.symm, Po.grow pw (q3.trans (q5w.trans q7w)) hDn fD7 hD7, fun b o h => q7.ff b o (f15 b o h), upd_same, fD7, ?_⟩
      · rw [r2.length]
        omega
      · exact (r2.mono fun b o h => q7.ff b o (q5.ff b o (n3.ff b o h))).append (.cons r7 .nil)
theorem ed_lc {wi : TI} {wI : WI} {vs : List Nat} (hi : ID T E wi wI) (hg : CG T vs g wg) (ht : TD T E0 tt wt) (he : ED T E0 te we) : ED T E (tLc wi g tt te vs) (wLc wI wg wt we vs) := by
  intro F σ H Γ Q Ψ Ξ p hw x k
  refine hi F σ H Γ _ _ Ξ p hw x fun F1 H1 Γ1 J ds hr q1 wk => ?_
  obtain ⟨hlen, I, h0, hs, hd⟩ := hr
  refine lc_d (Qd := fun Dn H => Q (.ref Dn) H) hlen q1.rp hg ht he I h0 hs (fun i acc F2 H2 Γ2 _ f2 p2 => wk F2 H2 i f2 p2.toOk) fun F2 H2 Γ2 acc Dn i2 q3 e3 => ?_
  exact k F2 H2 _ _ _ (hd acc Γ2 i2) (q1.trans q3) (e3.back q1)
def wLcO (s : Nat) (wg : WG) (wt : WT) (we : WE) (vs : List Nat) : WE := fun Γ Ψ Ξ => ∃ ds, Γ[s]? = some (some (.own ds)) ∧ ds.length ≤ sizeLine ∧ ∃ I : Nat → List D → Gm → Prop, I 0 [] (wipeG Γ vs) ∧ (∀ i acc Γ, I i acc Γ → Γ[s]? = some (some (.own ds))) ∧
  (∀ i acc Γ d, I i acc Γ → ds[i]? = some d → wg d Γ fun Γ2 => wt Γ2 (fun b Γ3 => if b = true then we Γ3 (fun r Γ4 => ∃ y Γ5, frz Γ4 r = some (y, Γ5) ∧ I (i + 1) (acc ++ [y]) (wipeG Γ5 vs)) (fun _ => False) else I (i + 1) acc (wipeG Γ3 vs)) fun _ => False) ∧
  ∀ acc Γ', I ds.length acc Γ' → Ψ (.new acc) (rstG Γ Γ' vs)
end
end Dt
set_option Elab.async false
set_option linter.all false
set_option maxRecDepth 100000
set_option autoImplicit false
namespace Dt
open PySem L2 Kx
section
variable {T : Tb} {F F1 F2 F' H H1 H2 H' : Hp} {σ σ2 : St} {Γ Γ1 Γ2 Γ' Γw : Gm} {E : XK} {t ta tb tc te : TE} {w wa wb wc we : WE} {tA : TA} {wA : WA} {io : Bool}
def wIList (w : WE) : WI := fun Γ Ψ Ξ => w Γ (fun r Γ1 => ∃ ds Γ2, frz Γ1 r = some (.lst ds, Γ2) ∧ Ψ ds Γ2) Ξ
theorem wk_list {a : Addr} {vs : List V} {ds : List D} (h : SqL T.K F a vs) (r : RepA T.K F vs ds) : Wk T F (Itl T.K a) ds := fun F' H' i ff o => by
  have hs := sql_same (sql_same h ff) o.sub
  refine ⟨fun e => ⟨vs, hs, by rw [e, r.length]; exact Nat.le_refl _⟩, fun d hd => ?_⟩
  obtain ⟨v, hv, rv⟩ := r.get hd
  refine ⟨⟨vs, v, hs, hv⟩, fun x H'' hy => ?_⟩
  obtain ⟨rfl, hx⟩ := hy
  have := hx vs hs
  rw [hv] at this
  cases this
  exact ⟨F', o.refl, rv.mono ff⟩
theorem id_list (h : ED T E t w) : ID T E (iList T.K t) (wIList w) := fun F σ H Γ Q Ψ Ξ p hw x k => h F σ H Γ _ _ Ξ p hw x fun F1 H1 Γ1 v r hr q e => by
  obtain ⟨ds, Γ2, a, hk⟩ := hr
  obtain ⟨F2, q2, s2, r2⟩ := RepR.frz q e a
  cases r2 with
  | lst hs hr => exact ⟨_, rfl, ⟨_, .inl (rd_same (.inl hs) q2.rp.sub)⟩, k F2 H1 Γ2 _ ds hk q2 (wk_list (.inl (.inl hs)) hr)⟩
def wITup (w : WE) : WI := fun Γ Ψ Ξ => w Γ (fun r Γ1 => ∃ ds Γ2, frz Γ1 r = some (.tup ds, Γ2) ∧ Ψ ds Γ2) Ξ
theorem wk_tup {a : Addr} {vs : List V} {ds : List D} (h : SqT T.K F a vs) (r : RepA T.K F vs ds) : Wk T F (Itt T.K a) ds := fun F' H' i ff o => by
  have hs := sqt_same (sqt_same h ff) o.sub
  refine ⟨fun e => ⟨vs, hs, by rw [e, r.length]; exact Nat.le_refl _⟩, fun d hd => ?_⟩
  obtain ⟨v, hv, rv⟩ := r.get hd
  refine ⟨⟨vs, v, hs, hv⟩, fun x H'' hy => ?_⟩
  obtain ⟨rfl, hx⟩ := hy
  have := hx vs hs
  rw [hv] at this
  cases this
  exact ⟨F', o.refl, rv.mono ff⟩
theorem id_tup (h : ED T E t w) : ID T E (iTup T.K t) (wITup w) := fun F σ H Γ Q Ψ Ξ p hw x k => h F σ H Γ _ _ Ξ p hw x fun F1 H1 Γ1 v r hr q e => by
  obtain ⟨ds, Γ2, a, hk⟩ := hr
  obtain ⟨F2, q2, s2, r2⟩ := RepR.frz q e a
  cases r2 with
  | tup hs hr => exact ⟨_, rfl, ⟨_, sqt_same hs q2.rp.sub⟩, k F2 H1 Γ2 _ ds hk q2 (wk_tup hs hr)⟩
def rng (lo : Int) (n : Nat) : List D := (List.range n).map fun i : Nat => D.int (lo + (i : Int))
theorem rng_length (lo : Int) (n : Nat) : (rng lo n).length = n := by simp [rng]
theorem rng_get {lo : Int} {n i : Nat} {d : D} (h : (rng lo n)[i]? = some d) : i < n ∧ d = .int (lo + (i : Int)) := by
  have hi : i < n := by have := (List.getElem?_eq_some_iff.mp h).1; rwa [rng_length] at this
  refine ⟨hi, ?_⟩
  unfold rng at h
  rw [List.getElem?_map, List.getElem?_range hi] at h
  cases h
  rfl
theorem wk_rng {lo : Int} {n : Nat} : Wk T F (Itr lo n) (rng lo n) := fun F' H' i ff o => by
  refine ⟨fun e => by rw [rng_length] at e; exact Nat.le_of_eq e.symm, fun d hd => ?_⟩
  obtain ⟨hi, rfl⟩ := rng_get hd
  refine ⟨hi, fun x H'' hy => ?_⟩
  obtain ⟨rfl, rfl⟩ := hy
  exact ⟨F', o.refl, .int _⟩
def wIRng1 (wA : WA) : WI := fun Γ Ψ Ξ => wA Γ (fun rs Γ1 => ∃ j, ats Γ1 rs = some [.int j] ∧ (-(2 ^ 62) ≤ j ∧ j < 2 ^ 62) ∧ Ψ (rng 0 j.toNat) Γ1) Ξ
theorem id_rng1 (h : AD T E tA wA) : ID T E (iRng1 tA) (wIRng1 wA) := fun F σ H Γ Q Ψ Ξ p hw x k => h F σ H Γ _ _ Ξ p hw x fun F1 H1 Γ1 vs rs hr q e => by
  obtain ⟨j, a, ⟨b1, b2⟩, hk⟩ := hr
  obtain ⟨v, rfl, hv⟩ := (e.peek q.rp a).one
  exact ⟨j, by rw [hv.int], b1, b2, k F1 H1 Γ1 _ _ hk q wk_rng⟩
def wIRng2 (wA : WA) : WI := fun Γ Ψ Ξ => wA Γ (fun rs Γ1 => ∃ i j, ats Γ1 rs = some [.int i, .int j] ∧ Ψ (rng i (j - i).toNat) Γ1) Ξ
def chs (x : Str) : List D := x.cps.toList.map fun c => D.str ⟨#[c]⟩
def wIStr (w : WE) : WI := fun Γ Ψ Ξ => w Γ (fun r Γ1 => ∃ x, r.at Γ1 = some (.str x) ∧ Ψ (chs x) Γ1) Ξ
theorem wk_str {x : Str} : Wk T F (Its x) (chs x) := fun F' H' i ff o => by
  have hl : (chs x).length = x.cps.size := by simp [chs]
  refine ⟨fun e => by rw [hl] at e; exact Nat.le_of_eq e.symm, fun d hd => ?_⟩
  have hi : i < x.cps.size := by have := (List.getElem?_eq_some_iff.mp hd).1; rwa [hl] at this
  refine ⟨hi, fun v H'' hy => ?_⟩
  obtain ⟨rfl, c, hc, rfl⟩ := hy
  unfold chs at hd
  rw [List.getElem?_map, Array.getElem?_toList, hc] at hd
  cases hd
  exact ⟨F', o.refl, .str _⟩
theorem id_str (h : ED T E t w) : ID T E (iStr t) (wIStr w) := fun F σ H Γ Q Ψ Ξ p hw x k => h F σ H Γ _ _ Ξ p hw x fun F1 H1 Γ1 v r hr q e => by
  obtain ⟨z, a, hk⟩ := hr
  exact ⟨z, (e.peek q.rp a).str, k F1 H1 Γ1 _ _ hk q wk_str⟩
def enu (ds : List D) : List D := ds.mapIdx fun i d => D.tup [.int (i : Nat), d]
theorem wk_enum {a : Addr} {vs : List V} {ds : List D} (h : SqL T.K F a vs) (r : RepA T.K F vs ds) : Wk T F (Ite T.K a) (enu ds) := fun F' H' i ff o => by
  have hs := sql_same (sql_same h ff) o.sub
  have hl : (enu ds).length = ds.length := by simp [enu]
  refine ⟨fun e => ⟨vs, hs, by rw [e, hl, r.length]; exact Nat.le_refl _⟩, fun d hd => ?_⟩
  unfold enu at hd
  rw [List.getElem?_mapIdx] at hd
  cases q : ds[i]? with
  | none => rw [q] at hd; cases hd
  | some d0 =>
    rw [q] at hd
    cases hd
    obtain ⟨v, hv, rv⟩ := r.get q
    refine ⟨⟨vs, v, hs, hv⟩, fun x H'' hy => ?_⟩
    obtain ⟨Tn, x0, rfl, hT, rfl, hx⟩ := hy
    have := hx vs hs
    rw [hv] at this
    cases this
    have n := o.lay (o := .tup [.int (i : Nat), v]) hT tup_nt
    exact ⟨_, n, .tup (.inl (.inl upd_same)) (.cons (.int _) (.cons ((rv.mono ff).mono n.ff) .nil))⟩
def wIEnum (wA : WA) : WI := fun Γ Ψ Ξ => wA Γ (fun rs Γ1 => ∃ ds Γ2, frzL Γ1 rs = some ([.lst ds], Γ2) ∧ Ψ (enu ds) Γ2) Ξ
theorem id_enum (h : AD T E tA wA) : ID T E (iEnum T.K tA) (wIEnum wA) := fun F σ H Γ Q Ψ Ξ p hw x k => h F σ H Γ _ _ Ξ p hw x fun F1 H1 Γ1 vs rs hr q e => by
  obtain ⟨ds, Γ2, a, hk⟩ := hr
  obtain ⟨F2, q2, s2, r2⟩ := RepRs.frz q e a
  cases r2 with
  | cons r1 r2 =>
    cases r2
    cases r1 with
    | lst hs hr => exact ⟨_, _, rfl, .inl (rd_same (.inl hs) q2.rp.sub), k F2 H1 Γ2 _ _ hk q2 (wk_enum (.inl (.inl hs)) hr)⟩
def zp (ds es : List D) : List D := List.zipWith (fun d e => D.tup [d, e]) ds es
def wIZip (wA : WA) : WI := fun Γ Ψ Ξ => wA Γ (fun rs Γ1 => ∃ ds es Γ2, frzL Γ1 rs = some ([.lst ds, .lst es], Γ2) ∧ Ψ (zp ds es) Γ2) Ξ
def dI (C : Int → Int → Prop) (f : Int → Int → Int) : D → D → (R → Prop) → Prop := fun d e Ψ => ∃ i j, d = .int i ∧ e = .int j ∧ C i j ∧ Ψ (.val (.int (f i j)))
theorem od_I {C : Int → Int → Prop} {f : Int → Int → Int} : OD T (rI C fun i j => .int (f i j)) (dI C f) := fun F H x y d e Q Ψ o hx hy hg k => by
  obtain ⟨i, j, rfl, rfl, c, h⟩ := hg
  exact ⟨i, j, hx.int, hy.int, c, k F H _ _ h o.refl (Rep.int _)⟩
def dI0 (f : Int → Int → Int) : D → D → (R → Prop) → Prop := fun d e Ψ => ∃ i j, d = .int i ∧ e = .int j ∧ Ψ (.val (.int (f i j)))
theorem od_I0 {f : Int → Int → Int} : OD T (rI0 fun i j => .int (f i j)) (dI0 f) := fun F H x y d e Q Ψ o hx hy hg k => by
  obtain ⟨i, j, rfl, rfl, h⟩ := hg
  exact ⟨i, j, hx.int, hy.int, k F H _ _ h o.refl (Rep.int _)⟩
def bI (f : Int → Int → Bool) : D → D → (Bool → Prop) → Prop := fun d e Ψ => ∃ i j, d = .int i ∧ e = .int j ∧ Ψ (f i j)
theorem bd_I {f : Int → Int → Bool} : BD T (rI0 fun i j => .bl (f i j)) (bI f) := fun F H x y d e Q Ψ o hx hy hg k => by
  obtain ⟨i, j, rfl, rfl, h⟩ := hg
  exact ⟨i, j, hx.int, hy.int, k _ h⟩
def scq : D → D → Option Bool
  | .int i, .int j => some (decide (i = j))
  | .str x, .str y => some (decide (x = y))
  | .bl x, .bl y => some (decide (x = y))
  | .non, .non => some true
  | _, _ => none
def bSc (f : Bool → Bool) : D → D → (Bool → Prop) → Prop := fun d e Ψ => ∃ b, scq d e = some b ∧ Ψ (f b)
theorem scq_of {d e : D} {b : Bool} (h : scq d e = some b) : ∃ x y : V, (∀ (v : V), PRep T.K F H v d → v = x) ∧ (∀ v, PRep T.K F H v e → v = y) ∧ scal x y = true ∧ decide (x = y) = b := by
  unfold scq at h
  split at h
  · cases h; exact ⟨.int _, .int _, fun v z => z.int, fun v z => z.int, rfl, by simp⟩
  · cases h; exact ⟨.str _, .str _, fun v z => z.str, fun v z => z.str, rfl, by simp⟩
  · cases h; exact ⟨.bl _, .bl _, fun v z => z.bl, fun v z => z.bl, rfl, by simp⟩
  · cases h; exact ⟨.non, .non, fun v z => z.non, fun v z => z.non, rfl, by simp⟩
  · cases h
theorem bd_eq : BD T rEq (bSc id) := fun F H x y d e Q Ψ o hx hy hg k => by
  obtain ⟨b, hb, h⟩ := hg
  obtain ⟨v, u, h1, h2, h3, h4⟩ := scq_of (T := T) (F := F) (H := H) hb
  rw [h1 x hx, h2 y hy]
  refine ⟨h3, ?_⟩
  rw [h4]
  exact k b h
theorem bd_ne : BD T rNe (bSc not) := fun F H x y d e Q Ψ o hx hy hg k => by
  obtain ⟨b, hb, h⟩ := hg
  obtain ⟨v, u, h1, h2, h3, h4⟩ := scq_of (T := T) (F := F) (H := H) hb
  rw [h1 x hx, h2 y hy]
  refine ⟨h3, ?_⟩
  rw [h4]
  exact k _ h
mutual
def D.py : D → PyData
  | .non => .none | .bl b => .bool b | .int i => .int i | .str x => .str x | .ty _ => .none | .scr _ => .none
  | .lst xs => .list (D.pyA xs) | .tup xs => .tuple (D.pyA xs) | .obj _ _ _ => .none | .dic _ _ => .none | .exc _ _ _ => .none
def D.pyA : List D → List PyData
  | [] => []
  | x :: xs => D.py x :: D.pyA xs
end
inductive Dep : Nat → D → Prop
  | non {n : Nat} : Dep n .non
  | bl {n : Nat} (b : Bool) : Dep n (.bl b)
  | int {n : Nat} (i : Int) : Dep n (.int i)
  | str {n : Nat} {x : Str} : PyData.strOk x = true → Dep n (.str x)
  | lst {n : Nat} {xs : List D} : (∀ x ∈ xs, Dep n x) → Dep (n + 1) (.lst xs)
  | tup {n : Nat} {xs : List D} : (∀ x ∈ xs, Dep n x) → Dep (n + 1) (.tup xs)
theorem Dep.lst_inv {n : Nat} {xs : List D} (h : Dep n (.lst xs)) : ∃ m, ∀ x ∈ xs, Dep m x := by
  cases h with | lst h => exact ⟨_, h⟩
theorem Dep.tup_inv {n : Nat} {xs : List D} (h : Dep n (.tup xs)) : ∃ m, ∀ x ∈ xs, Dep m x := by
  cases h with | tup h => exact ⟨_, h⟩
theorem Dep.no_ty {n : Nat} {m : String} (h : Dep n (.ty m)) : False := by cases h
theorem Dep.no_scr {n : Nat} {m : List D} (h : Dep n (.scr m)) : False := by cases h
theorem Dep.no_dic {n : Nat} {ks : List Key} {xs : List D} (h : Dep n (.dic ks xs)) : False := by cases h
theorem Dep.no_exc {n : Nat} {c : Str} {m : List Str} {xs : List D} (h : Dep n (.exc c m xs)) : False := by cases h
theorem Dep.no_obj {n : Nat} {c : Str} {m : List Str} {xs : List D} (h : Dep n (.obj c m xs)) : False := by cases h
mutual
theorem Rep.dp (s : Same F H) : ∀ {v : V} {d : D}, Rep T.K F v d → (∃ n, Dep n d) → Dp T.K H v d.py
  | _, _, .non, _ => .non
  | _, _, .bl b, _ => .bl b
  | _, _, .int i, _ => .int i
  | _, _, .str x, _ => .str x
  | _, _, .ty n, h => (h.elim fun _ h => h.no_ty).elim
  | _, _, .scr _ _, h => (h.elim fun _ h => h.no_scr).elim
  | _, _, .obj _ _ _, h => (h.elim fun _ h => h.no_obj).elim
  | _, _, .dic _ _ _, h => (h.elim fun _ h => h.no_dic).elim
  | _, _, .exc _ _ _, h => (h.elim fun _ h => h.no_exc).elim
  | _, _, .lst h r, hd => .lst (.inl (.inl (s _ _ h))) (RepA.dp s r (hd.elim fun _ h => h.lst_inv))
  | _, _, .tup h r, hd => .tup (sqt_same h s) (RepA.dp s r (hd.elim fun _ h => h.tup_inv))
theorem RepA.dp (s : Same F H) : ∀ {vs : List V} {ds : List D}, RepA T.K F vs ds → (∃ n, ∀ x ∈ ds, Dep n x) → DpAll T.K H vs (D.pyA ds)
  | _, _, .nil, _ => .nil
  | _, _, .cons h r, hd => .cons (Rep.dp s h (hd.elim fun n hd => ⟨n, hd _ (List.mem_cons_self ..)⟩)) (RepA.dp s r (hd.elim fun n hd => ⟨n, fun x hx => hd x (List.mem_cons_of_mem _ hx)⟩))
end
theorem PRep.dp {n : Nat} {v : V} {d : D} (s : Same F H) (h : PRep T.K F H v d) (hd : Dep n d) : Dp T.K H v d.py := by
  rcases h with h | ⟨a, vs, ds, rfl, rfl, ha, r⟩
  · exact h.dp s ⟨n, hd⟩
  · exact .lst (.inl (.inl ha)) (r.dp s hd.lst_inv)
theorem Dep.lay : ∀ {n : Nat} {d : D}, Dep n d → PyData.canLay0 d.py = true ∧ d.py.depth ≤ n
  | _, _, .non => ⟨rfl, Nat.zero_le _⟩
  | _, _, .bl b => ⟨rfl, Nat.zero_le _⟩
  | _, _, .int i => ⟨rfl, Nat.zero_le _⟩
  | _, _, .str h => ⟨h, Nat.zero_le _⟩
  | n + 1, .lst xs, .lst h => by
    have all : ∀ xs : List D, (∀ x ∈ xs, Dep n x) → PyData.canLayAll0 (D.pyA xs) = true ∧ PyData.depthAll (D.pyA xs) ≤ n := fun xs => by
      induction xs with
      | nil => intro _; exact ⟨rfl, Nat.zero_le _⟩
      | cons x xs ih =>
        intro h
        have h1 := Dep.lay (h x (List.mem_cons_self ..))
        have h2 := ih fun y hy => h y (List.mem_cons_of_mem _ hy)
        refine ⟨?_, ?_⟩
        · rw [D.pyA, PyData.canLayAll0, h1.1, h2.1]; rfl
        · rw [D.pyA, PyData.depthAll]
          exact Nat.max_le.mpr ⟨h1.2, h2.2⟩
    have := all xs h
    exact ⟨this.1, Nat.succ_le_succ this.2⟩
  | n + 1, .tup xs, .tup h => by
    have all : ∀ xs : List D, (∀ x ∈ xs, Dep n x) → PyData.canLayAll0 (D.pyA xs) = true ∧ PyData.depthAll (D.pyA xs) ≤ n := fun xs => by
      induction xs with
      | nil => intro _; exact ⟨rfl, Nat.zero_le _⟩
      | cons x xs ih =>
        intro h
        have h1 := Dep.lay (h x (List.mem_cons_self ..))
        have h2 := ih fun y hy => h y (List.mem_cons_of_mem _ hy)
        refine ⟨?_, ?_⟩
        · rw [D.pyA, PyData.canLayAll0, h1.1, h2.1]; rfl
        · rw [D.pyA, PyData.depthAll]
          exact Nat.max_le.mpr ⟨h1.2, h2.2⟩
    have := all xs h
    exact ⟨this.1, Nat.succ_le_succ this.2⟩
theorem Dep.shaped {n : Nat} {d : D} (h : Dep n d) (hn : n ≤ 60) : SeqAt.shaped d.py = true := by
  obtain ⟨h1, h2⟩ := h.lay
  unfold SeqAt.shaped
  rw [h1, Bool.true_and]
  exact decide_eq_true (by omega)
def deq (d e : D) : Bool := PyData.eqv d.py e.py
theorem deq_refl {n : Nat} {d : D} (h : Dep n d) : deq d d = true := SeqAt.eqv_refl _ h.lay.1
def bEq (f : Bool → Bool) : D → D → (Bool → Prop) → Prop := fun d e Ψ => (∃ n, n ≤ 60 ∧ Dep n d) ∧ (∃ n, n ≤ 60 ∧ Dep n e) ∧ Ψ (f (deq d e))
theorem bd_eqD : BD T (rEqD T.K) (bEq id) := fun F H x y d e Q Ψ o hx hy hg k => by
  obtain ⟨⟨n, hn, dn⟩, ⟨m, hm, dm⟩, h⟩ := hg
  exact ⟨_, _, hx.dp o.sub dn, hy.dp o.sub dm, dn.shaped hn, dm.shaped hm, k _ h⟩
theorem bd_neD : BD T (rNeD T.K) (bEq not) := fun F H x y d e Q Ψ o hx hy hg k => by
  obtain ⟨⟨n, hn, dn⟩, ⟨m, hm, dm⟩, h⟩ := hg
  exact ⟨_, _, hx.dp o.sub dn, hy.dp o.sub dm, dn.shaped hn, dm.shaped hm, k _ h⟩
end
end Dt
set_option Elab.async false
set_option linter.all false
set_option maxRecDepth 100000
set_option autoImplicit false
namespace Dt
open PySem PySem.Spec L2 Kx PyProof.Rows
section
variable {X : Cx}
theorem call_isiAll : CallR X (.builtin "isinstance") (fun xs H Q => (∃ y T b, xs = [y, .ty T] ∧ isiB y T = some b ∧ Q (.bl b) H) ∨ (∃ a ys, xs = [.ref a, .ty "tuple"] ∧ SqT X.K H a ys ∧ Q (.bl true) H) ∨ ∃ a ys, xs = [.ref a, .ty "list"] ∧ SqL X.K H a ys ∧ Q (.bl true) H) := by
  intro pins s σ H xs us Q I r h
  rcases h with h | h | h
  · exact call_isi pins s σ H xs us Q I r h
  · exact call_isiTT pins s σ H xs us Q I r h
  · exact call_isiLL pins s σ H xs us Q I r h
end
section
variable {T : Tb} {F F1 F2 F' H H1 H2 H' : Hp} {σ σ2 : L2.St} {Γ Γ1 Γ2 Γ' Γw : Gm} {E : XK} {t ta tb tc te to : TE} {w wa wb wc we wo : WE} {tA : TA} {wA : WA} {io : Bool}
theorem od_pure {r : L2.R2} {g : D → D → (R → Prop) → Prop} (h : ∀ (F H : Hp) (x y : V) (d e : D) (Q : VK) (Ψ : R → Prop), Ok T F H → PRep T.K F H x d → PRep T.K F H y e → g d e Ψ → (∀ v z, Ψ (.val z) → Rep T.K F v z → Q v H) → r x y H Q) : OD T r g :=
  fun F H x y d e Q Ψ o hx hy hg k => h F H x y d e Q Ψ o hx hy hg fun v z hz hv => k F H v _ hz o.refl hv
theorem atI_rep {vs : List V} {ds : List D} {i : Int} {z : D} (r : RepA T.K F vs ds) (h : atI ds i = some z) : ∃ v, atI vs i = some v ∧ Rep T.K F v z := by
  unfold atI at h ⊢
  rw [r.length]
  cases e : ixN ds.length i with
  | none => rw [e] at h; cases h
  | some j =>
    rw [e] at h
    obtain ⟨v, hv, rv⟩ := r.get (show ds[j]? = some z from h)
    exact ⟨v, hv, rv⟩
def dIxL : D → D → (R → Prop) → Prop := fun d e Ψ => ∃ ds i z, (d = .lst ds ∨ d = .scr ds) ∧ e = .int i ∧ atI ds i = some z ∧ Ψ (.val z)
theorem od_ixL : OD T (rIxL T.K) dIxL := od_pure fun F H x y d e Q Ψ o hx hy hg k => by
  obtain ⟨ds, i, z, hd, rfl, ha, h⟩ := hg
  obtain ⟨a, vs, rfl, hs, r⟩ : ∃ a vs, x = .ref a ∧ SqL T.K H a vs ∧ RepA T.K F vs ds := by
    rcases hd with rfl | rfl
    · obtain ⟨a, vs, e, h, r⟩ := hx.lst o.sub; exact ⟨a, vs, e, .inl h, r⟩
    · exact hx.scr o.sub
  obtain ⟨v, hv, rv⟩ := atI_rep r ha
  exact ⟨a, vs, i, v, rfl, hy.int, hs, hv, k v z h rv⟩
def dIxT : D → D → (R → Prop) → Prop := fun d e Ψ => ∃ ds i z, d = .tup ds ∧ e = .int i ∧ atI ds i = some z ∧ Ψ (.val z)
theorem od_ixT : OD T (rIxT T.K) dIxT := od_pure fun F H x y d e Q Ψ o hx hy hg k => by
  obtain ⟨ds, i, z, rfl, rfl, ha, h⟩ := hg
  obtain ⟨a, vs, rfl, hs, r⟩ := hx.tup o.sub
  obtain ⟨v, hv, rv⟩ := atI_rep r ha
  exact ⟨a, vs, i, v, rfl, hy.int, hs, hv, k v z h rv⟩
def dIxS : D → D → (R → Prop) → Prop := fun d e Ψ => ∃ z i c, d = .str z ∧ e = .int i ∧ z.length ≤ sizeLine ∧ atI z.cps.toList i = some c ∧ Ψ (.val (.str ⟨#[c]⟩))
theorem od_ixS : OD T rIxS dIxS := od_pure fun F H x y d e Q Ψ o hx hy hg k => by
  obtain ⟨z, i, c, rfl, rfl, hl, ha, h⟩ := hg
  exact ⟨z, i, c, hx.str, hy.int, hl, ha, k _ _ h (.str _)⟩
def dIx : D → D → (R → Prop) → Prop := fun d e Ψ => match d with
  | .lst _ => dIxL d e Ψ
  | .scr _ => dIxL d e Ψ
  | .tup _ => dIxT d e Ψ
  | .str _ => dIxS d e Ψ
  | _ => False
theorem od_ix : OD T (rIx T.K) dIx := fun F H x y d e Q Ψ o hx hy hg k => by
  unfold dIx at hg
  split at hg
  · exact .inl (od_ixL F H x y _ e Q Ψ o hx hy hg k)
  · exact .inl (od_ixL F H x y _ e Q Ψ o hx hy hg k)
  · exact .inr (.inl (od_ixT F H x y _ e Q Ψ o hx hy hg k))
  · exact .inr (.inr (od_ixS F H x y _ e Q Ψ o hx hy hg k))
  · exact hg.elim
def D.v : D → V
  | .non => .non | .bl b => .bl b | .int i => .int i | .str x => .str x | _ => .ty ""
def D.flat : D → Bool
  | .non => true | .bl _ => true | .int _ => true | .str _ => true | _ => false
theorem PRep.flat {K : PySem.W.Frag} {v : V} {d : D} (h : PRep K F H v d) (f : d.flat = true) : v = d.v ∧ flatV v = true := by
  cases d <;> first
    | (cases f; done)
    | (rw [h.non]; exact ⟨rfl, rfl⟩)
    | (rw [h.bl]; exact ⟨rfl, rfl⟩)
    | (rw [h.int]; exact ⟨rfl, rfl⟩)
    | (rw [h.str]; exact ⟨rfl, rfl⟩)
theorem RepA.flat {K : PySem.W.Frag} : ∀ {vs : List V} {ds : List D}, RepA K F vs ds → ds.all D.flat = true → vs = ds.map D.v ∧ vs.all flatV = true
  | _, _, .nil, _ => ⟨rfl, rfl⟩
  | _, _, .cons h r, f => by
    simp only [List.all_cons, Bool.and_eq_true] at f
    obtain ⟨e1, f1⟩ := PRep.flat (H := F) (.inl h) f.1
    obtain ⟨e2, f2⟩ := RepA.flat r f.2
    exact ⟨by rw [List.map_cons, ← e1, ← e2], by rw [List.all_cons, f1, f2]; rfl⟩
def bIn (neg : Bool) : D → D → (Bool → Prop) → Prop := fun d e Ψ => ∃ ds, (e = .lst ds ∨ e = .tup ds) ∧ d.flat = true ∧ ds.all D.flat = true ∧ Ψ (if neg then !inV d.v (ds.map D.v) else inV d.v (ds.map D.v))
theorem bd_in {neg : Bool} : BD T (rIn T.K neg) (bIn neg) := fun F H x y d e Q Ψ o hx hy hg k => by
  obtain ⟨ds, he, fd, fds, h⟩ := hg
  obtain ⟨ex, fx⟩ := hx.flat fd
  have q : ∃ a vs, y = .ref a ∧ (SqL T.K H a vs ∨ SqT T.K H a vs) ∧ RepA T.K F vs ds := by
    rcases he with rfl | rfl
    · obtain ⟨a, vs, e, h, r⟩ := hy.lst o.sub; exact ⟨a, vs, e, .inl (.inl h), r⟩
    · obtain ⟨a, vs, e, h, r⟩ := hy.tup o.sub; exact ⟨a, vs, e, .inr h, r⟩
  obtain ⟨a, vs, rfl, hs, r⟩ := q
  obtain ⟨ev, fv⟩ := r.flat fds
  refine ⟨a, vs, rfl, hs, fx, fv, ?_⟩
  rw [ex, ev]
  exact k _ h
def dAddS : D → D → (R → Prop) → Prop := fun d e Ψ => ∃ x y, d = .str x ∧ e = .str y ∧ x.length + y.length ≤ sizeLine ∧ Ψ (.val (.str (x ++ y)))
theorem od_addS : OD T (fun x y H Q => ∃ i j, x = .str i ∧ y = .str j ∧ i.length + j.length ≤ sizeLine ∧ Q (.str (i ++ j)) H) dAddS := od_pure fun F H x y d e Q Ψ o hx hy hg k => by
  obtain ⟨x', y', rfl, rfl, hl, h⟩ := hg
  exact ⟨x', y', hx.str, hy.str, hl, k _ _ h (.str _)⟩
def dCat : D → D → (R → Prop) → Prop := fun d e Ψ => ∃ xs ys, d = .lst xs ∧ e = .lst ys ∧ xs.length + ys.length ≤ sizeLine ∧ Ψ (.new (xs ++ ys))
theorem new_ok {p : Addr} {vs : List V} {ds : List D} {Q : VK} {Ψ : R → Prop} (o : Ok T F H) (hp : H p = none) (r : RepA T.K F vs ds) (h : Ψ (.new ds)) (k : ∀ F' H' v r, Ψ r → Nw T F H F' H' → RepN T F' H H' v r → Q v H') : Q (.ref p) (upd H p (.lst vs)) := by
  have fp : F p = none := by
    cases e : F p with
    | none => rfl
    | some u => have := o.sub _ _ e; rw [hp] at this; cases this
  exact k F _ _ _ h (o.put hp) ⟨p, vs, rfl, upd_same, fp, hp, r⟩
theorem tup_ok {p : Addr} {vs : List V} {ds : List D} {Q : VK} {Ψ : R → Prop} (o : Ok T F H) (hp : H p = none) (r : RepA T.K F vs ds) (h : Ψ (.val (.tup ds))) (k : ∀ F' H' v r, Ψ r → Nw T F H F' H' → RepN T F' H H' v r → Q v H') : Q (.ref p) (upd H p (.tup vs)) := by
  have n := o.lay (o := .tup vs) hp tup_nt
  exact k _ _ _ _ h n (Rep.tup (.inl (.inl upd_same)) (r.mono n.ff))
theorem ud_neg : UD T (rU fun i => .int (-i)) (fun d Ψ => ∃ i, d = .int i ∧ Ψ (.val (.int (-i)))) := fun F H x d Q Ψ o hx hg k => by
  obtain ⟨i, rfl, h⟩ := hg
  exact ⟨i, hx.int, k F H _ _ h o.refl (Rep.int _)⟩
theorem cd_pure {r : List V → Hp → VK → Prop} {g : List D → (R → Prop) → Prop} (h : ∀ (F H : Hp) (vs : List V) (ds : List D) (Q : VK) (Ψ : R → Prop), Ok T F H → PRepA T.K F H vs ds → g ds Ψ → (∀ v z, Ψ (.val z) → Rep T.K F v z → Q v H) → r vs H Q) : CD T r g :=
  fun F H vs ds Q Ψ o hx hg k => h F H vs ds Q Ψ o hx hg fun v z hz hv => k F H v _ hz o.refl hv
def dLen : List D → (R → Prop) → Prop := fun ds Ψ => ∃ zs, (ds = [.lst zs] ∨ ds = [.tup zs] ∨ ds = [.scr zs]) ∧ Ψ (.val (.int (zs.length : Nat)))
theorem seq_of {v : V} {d : D} {zs : List D} (o : Ok T F H) (h : PRep T.K F H v d) (e : d = .lst zs ∨ d = .tup zs ∨ d = .scr zs) : ∃ a vs, v = .ref a ∧ (SqL T.K H a vs ∨ SqT T.K H a vs) ∧ RepA T.K F vs zs := by
  rcases e with rfl | rfl | rfl
  · obtain ⟨a, vs, e, h, r⟩ := h.lst o.sub; exact ⟨a, vs, e, .inl (.inl h), r⟩
  · obtain ⟨a, vs, e, h, r⟩ := h.tup o.sub; exact ⟨a, vs, e, .inr h, r⟩
  · obtain ⟨a, vs, e, h, r⟩ := h.scr o.sub; exact ⟨a, vs, e, .inl h, r⟩
theorem cd_len : CD T (fun xs H Q => ∃ p ys, xs = [.ref p] ∧ (SqL T.K H p ys ∨ SqT T.K H p ys) ∧ Q (.int ys.length) H) dLen := cd_pure fun F H vs ds Q Ψ o hx hg k => by
  obtain ⟨zs, e, h⟩ := hg
  obtain ⟨d, rfl⟩ : ∃ d, ds = [d] := by rcases e with e | e | e <;> exact ⟨_, e⟩
  obtain ⟨v, rfl, hv⟩ := hx.one
  obtain ⟨a, ws, rfl, hs, r⟩ := seq_of (zs := zs) o hv (by rcases e with e | e | e <;> (cases e; simp))
  exact ⟨a, ws, rfl, hs, by rw [r.length]; exact k _ _ h (.int _)⟩
def dLenS : List D → (R → Prop) → Prop := fun ds Ψ => ∃ z, ds = [.str z] ∧ z.length ≤ sizeLine ∧ Ψ (.val (.int (z.length : Nat)))
theorem cd_lenS : CD T (fun xs H Q => ∃ z, xs = [.str z] ∧ z.length ≤ sizeLine ∧ Q (.int z.length) H) dLenS := cd_pure fun F H vs ds Q Ψ o hx hg k => by
  obtain ⟨z, rfl, hl, h⟩ := hg
  obtain ⟨v, rfl, hv⟩ := hx.one
  exact ⟨z, by rw [hv.str], hl, k _ _ h (.int _)⟩
def d1I (f : Int → Int) : List D → (R → Prop) → Prop := fun ds Ψ => ∃ i, ds = [.int i] ∧ Ψ (.val (.int (f i)))
def d2I (f : Int → Int → Int) : List D → (R → Prop) → Prop := fun ds Ψ => ∃ i j, ds = [.int i, .int j] ∧ Ψ (.val (.int (f i j)))
theorem cd_1I {f : Int → Int} : CD T (fun xs H Q => ∃ i, xs = [.int i] ∧ Q (.int (f i)) H) (d1I f) := cd_pure fun F H vs ds Q Ψ o hx hg k => by
  obtain ⟨i, rfl, h⟩ := hg
  obtain ⟨v, rfl, hv⟩ := hx.one
  exact ⟨i, by rw [hv.int], k _ _ h (.int _)⟩
theorem cd_2I {f : Int → Int → Int} : CD T (fun xs H Q => ∃ i j, xs = [.int i, .int j] ∧ Q (.int (f i j)) H) (d2I f) := cd_pure fun F H vs ds Q Ψ o hx hg k => by
  obtain ⟨i, j, rfl, h⟩ := hg
  obtain ⟨v, u, rfl, hv, hu⟩ := hx.two
  exact ⟨i, j, by rw [hv.int, hu.int], k _ _ h (.int _)⟩
def dDivmod : List D → (R → Prop) → Prop := fun ds Ψ => ∃ i j, ds = [.int i, .int j] ∧ CDivP i j ∧ Ψ (.val (.tup [.int (i / j), .int (i % j)]))
def D.isi : D → String → Option Bool
  | .lst _, "list" => some true
  | .tup _, "tuple" => some true
  | d, T => isiB d.v T
def dIsi : List D → (R → Prop) → Prop := fun ds Ψ => ∃ d T b, ds = [d, .ty T] ∧ d.isi T = some b ∧ Ψ (.val (.bl b))
theorem PRep.ty {K : PySem.W.Frag} {v : V} {n : String} (h : PRep K F H v (.ty n)) : v = .ty n := by
  rcases h with h | ⟨_, _, _, _, z, _⟩
  · cases h; rfl
  · cases z
theorem cd_isi : CD T (fun xs H Q => (∃ y T b, xs = [y, .ty T] ∧ isiB y T = some b ∧ Q (.bl b) H) ∨ (∃ a ys, xs = [.ref a, .ty "tuple"] ∧ SqT T.K H a ys ∧ Q (.bl true) H) ∨ ∃ a ys, xs = [.ref a, .ty "list"] ∧ SqL T.K H a ys ∧ Q (.bl true) H) dIsi := cd_pure fun F H vs ds Q Ψ o hx hg k => by
  obtain ⟨d, Tn, b, rfl, hb, h⟩ := hg
  obtain ⟨v, u, rfl, hv, hu⟩ := hx.two
  obtain rfl := hu.ty
  unfold D.isi at hb
  split at hb
  · cases hb
    obtain ⟨a, ws, rfl, hs, r⟩ := hv.lst o.sub
    exact .inr (.inr ⟨a, ws, rfl, .inl hs, k _ _ h (.bl _)⟩)
  · cases hb
    obtain ⟨a, ws, rfl, hs, r⟩ := hv.tup o.sub
    exact .inr (.inl ⟨a, ws, rfl, hs, k _ _ h (.bl _)⟩)
  · refine .inl ⟨v, Tn, b, rfl, ?_, k _ _ h (.bl _)⟩
    have : v = d.v := by
      cases d <;> first
        | exact hv.non | exact hv.bl | exact hv.int | exact hv.str
        | (exfalso; unfold isiB D.v at hb; simp at hb)
    rw [this]
    exact hb
def dList : List D → (R → Prop) → Prop := fun ds Ψ => ∃ d zs, ds = [d] ∧ (d = .lst zs ∨ d = .tup zs ∨ d = .scr zs) ∧ Ψ (.new zs)
theorem cd_list : CD T (fun xs H Q => ∃ p ys, xs = [.ref p] ∧ (SqL T.K H p ys ∨ SqT T.K H p ys) ∧ ∀ l, H l = none → Q (.ref l) (upd H l (.lst ys))) dList := fun F H vs ds Q Ψ o hx hg k => by
  obtain ⟨d, zs, rfl, e, h⟩ := hg
  obtain ⟨v, rfl, hv⟩ := hx.one
  obtain ⟨a, ws, rfl, hs, r⟩ := seq_of o hv e
  exact ⟨a, ws, rfl, hs, fun l hl => new_ok o hl r h k⟩
def dTuple : List D → (R → Prop) → Prop := fun ds Ψ => ∃ d zs, ds = [d] ∧ (d = .lst zs ∨ d = .tup zs) ∧ Ψ (.val (.tup zs))
theorem cd_tuple : CD T (fun xs H Q => ∃ p ys, xs = [.ref p] ∧ ((SqL T.K H p ys ∧ ∀ l, H l = none → Q (.ref l) (upd H l (.tup ys))) ∨ (SqT T.K H p ys ∧ Q (.ref p) H))) dTuple := fun F H vs ds Q Ψ o hx hg k => by
  obtain ⟨d, zs, rfl, e, h⟩ := hg
  obtain ⟨v, rfl, hv⟩ := hx.one
  rcases e with rfl | rfl
  · obtain ⟨a, ws, rfl, hs, r⟩ := hv.lst o.sub
    exact ⟨a, ws, rfl, .inl ⟨.inl hs, fun l hl => tup_ok o hl r h k⟩⟩
  · rcases hv with hv | ⟨_, _, _, _, z, _⟩
    · have hv' := hv
      cases hv with
      | tup hs r => exact ⟨_, _, rfl, .inr ⟨sqt_same hs o.sub, k F H _ _ h o.refl hv'⟩⟩
    · cases z
def dStrI : List D → (R → Prop) → Prop := fun ds Ψ => ∃ i : Int, ds = [.int i] ∧ i.natAbs.log2 < 1920 ∧ Ψ (.val (.str (toString i)))
def dInt1 : List D → (R → Prop) → Prop := fun ds Ψ => (∃ i, ds = [.int i] ∧ Ψ (.val (.int i))) ∨ ∃ b, ds = [.bl b] ∧ Ψ (.val (.int (if b then 1 else 0)))
theorem cd_int1 : CD T (fun xs H Q => (∃ i, xs = [.int i] ∧ Q (.int i) H) ∨ ∃ k, xs = [.bl k] ∧ Q (.int (if k then 1 else 0)) H) dInt1 := cd_pure fun F H vs ds Q Ψ o hx hg k => by
  rcases hg with ⟨i, rfl, h⟩ | ⟨b, rfl, h⟩
  · obtain ⟨v, rfl, hv⟩ := hx.one
    exact .inl ⟨i, by rw [hv.int], k _ _ h (.int _)⟩
  · obtain ⟨v, rfl, hv⟩ := hx.one
    exact .inr ⟨b, by rw [hv.bl], k _ _ h (.int _)⟩
def MD (T : Tb) (r : V → List V → Hp → VK → Prop) (g : Str → D → (R → Prop) → Prop) : Prop := ∀ (F H : Hp) (a : Str) (y : V) (e : D) (Q : VK) (Ψ : R → Prop), Ok T F H → PRep T.K F H y e → g a e Ψ →
  (∀ F' H' v r, Ψ r → Nw T F H F' H' → RepN T F' H H' v r → Q v H') → r (.str a) [y] H Q
def wM1 (g : Str → D → (R → Prop) → Prop) (wo we : WE) : WE := fun Γ Ψ Ξ => wo Γ (fun r1 Γ1 => ∃ a, r1.at Γ1 = some (.str a) ∧ we Γ1 (fun r2 Γ2 => ∃ d2, r2.at Γ2 = some d2 ∧ g a d2 fun r => Ψ r Γ2) Ξ) Ξ
theorem ed_m1 {r : V → List V → Hp → VK → Prop} {g : Str → D → (R → Prop) → Prop} (m : MD T r g) (ho : ED T E to wo) (he : ED T E te we) : ED T E (tM1 r to te) (wM1 g wo we) := fun F σ H Γ Q Ψ Ξ p h x k => ho F σ H Γ _ _ Ξ p h x fun F1 H1 Γ1 v1 r1 h1 q1 e1 => by
  obtain ⟨a, a1, h1⟩ := h1
  have ev := (e1.peek q1.rp a1).str
  refine ⟨⟨a, ev⟩, he F1 σ H1 Γ1 _ _ Ξ q1.rp h1 (x.on q1) fun F2 H2 Γ2 v2 r2 h2 q2 e2 => ?_⟩
  obtain ⟨d2, a2, hg⟩ := h2
  subst ev
  have q := q1.trans q2
  exact m F2 H2 a v2 d2 Q _ q2.rp.toOk (e2.peek q2.rp a2) hg fun F4 H4 v r h4 n4 e4 => k F4 H4 Γ2 v r h4 (q.nw n4) (e4.toR q)
def dJoin : Str → D → (R → Prop) → Prop := fun a e Ψ => ∃ ys : List Str, (e = .lst (ys.map D.str) ∨ e = .tup (ys.map D.str)) ∧ (ys.map (·.length)).sum + ys.length * a.length ≤ 16777216 ∧ Ψ (.val (.str (Txt.join a ys)))
theorem md_join : MD T (fun x xs H Q => ∃ a p, ∃ ys : List Str, x = .str a ∧ xs = [.ref p] ∧ (SqL T.K H p (ys.map V.str) ∨ SqT T.K H p (ys.map V.str)) ∧ (ys.map (·.length)).sum + ys.length * a.length ≤ 16777216 ∧ Q (.str (Txt.join a ys)) H) dJoin := fun F H a y e Q Ψ o hy hg k => by
  obtain ⟨ys, he, hl, h⟩ := hg
  obtain ⟨p, vs, rfl, hs, r⟩ := seq_of (zs := ys.map D.str) o hy (by rcases he with h | h <;> simp [h])
  have := r.strs
  subst this
  exact ⟨a, p, ys, rfl, rfl, hs, hl, k F H _ _ h o.refl (Rep.str _)⟩
def wApp (i : Nat) (we : WE) : WE := fun Γ Ψ Ξ => ∃ ds0, Γ[i]? = some (some (.own ds0)) ∧ we Γ (fun r Γ1 => ∃ d Γ2 ds, frz Γ1 r = some (d, Γ2) ∧ Γ2[i]? = some (some (.own ds)) ∧ ds.length < sizeLine ∧ Ψ (.val .non) (Γ2.set i (some (.own (ds ++ [d]))))) Ξ
theorem ed_app {i : Nat} (h : ED T E te we) : ED T E (tBM T.K "list" rAppend (tVar i) (tCons te tNil)) (wApp i we) := fun F σ H Γ Q Ψ Ξ p hw x k => by
  obtain ⟨ds0, h0, hw⟩ := hw
  obtain ⟨v, e0, a, vs, rfl, ha, fa, ra⟩ := p.at_ i _ h0
  refine ⟨_, e0, .inl ⟨rfl, vs, .inl (.inl ha)⟩, h F σ H Γ _ _ Ξ p hw x fun F1 H1 Γ1 u r hr q e => ?_⟩
  obtain ⟨d, Γ2, ds, a2, hi, hl, hn⟩ := hr
  obtain ⟨F2, q2, s2, r2⟩ := RepR.frz q e a2
  obtain ⟨v', e1, b, us, rfl, hb, fb, rb⟩ := q2.rp.at_ i _ hi
  rw [e0] at e1
  cases e1
  exact ⟨a, us, u, rfl, rfl, hb, by rw [rb.length]; exact hl, k F2 _ _ _ _ hn (q2.trans (po_own q2.rp hi e0 hb fb (rb.append (.cons r2 .nil)))) Rep.non⟩
def wRev (i : Nat) : WE := fun Γ Ψ Ξ => ∃ ds, Γ[i]? = some (some (.own ds)) ∧ Ψ (.val .non) (Γ.set i (some (.own ds.reverse)))
def wClr (i : Nat) : WE := fun Γ Ψ Ξ => ∃ ds, Γ[i]? = some (some (.own ds)) ∧ Ψ (.val .non) (Γ.set i (some (.own [])))
theorem ed_clr {i : Nat} : ED T E (tBM0 T.K "list" rClear (tVar i)) (wClr i) := fun F σ H Γ Q Ψ Ξ p hw x k => by
  obtain ⟨ds, h0, hn⟩ := hw
  obtain ⟨v, e0, a, vs, rfl, ha, fa, ra⟩ := p.at_ i _ h0
  exact ⟨_, e0, .inl ⟨rfl, vs, .inl (.inl ha)⟩, a, vs, rfl, rfl, ha, k F _ _ _ _ hn (po_own p h0 e0 ha fa .nil) Rep.non⟩
abbrev WO := Gm → (Option Int → Gm → Prop) → (XD → Prop) → Prop
def OO (T : Tb) (E : XK) (t : TO) (w : WO) : Prop := ∀ (F : Hp) (σ : L2.St) (H : Hp) (Γ : Gm) (Q : Option Int → Hp → Prop) (Ψ : Option Int → Gm → Prop) (Ξ : XD → Prop), Rp T F σ H Γ → w Γ Ψ Ξ → XO T σ E Ξ F H Γ → (∀ F' H' Γ' o, Ψ o Γ' → Po T F σ H Γ F' H' Γ' → Q o H') → t σ H Q
def wNoP : WO := fun Γ Ψ _ => Ψ none Γ
theorem oo_none : OO T E tNoPart wNoP := fun F σ H Γ Q Ψ Ξ p h x k => k F H Γ _ h p.refl
def wPrt (w : WE) : WO := fun Γ Ψ Ξ => w Γ (fun r Γ1 => ∃ i, r.at Γ1 = some (.int i) ∧ Ψ (some i) Γ1) Ξ
theorem oo_some (h : ED T E t w) : OO T E (tPart t) (wPrt w) := fun F σ H Γ Q Ψ Ξ p hw x k => h F σ H Γ _ _ Ξ p hw x fun F1 H1 Γ1 v r hr q e => by
  obtain ⟨i, a, hn⟩ := hr
  exact ⟨i, (e.peek q.rp a).int, k F1 H1 Γ1 _ hn q⟩
def LD (T : Tb) (r : V → Option Int → Option Int → Hp → VK → Prop) (g : D → Option Int → Option Int → (R → Prop) → Prop) : Prop := ∀ (F H : Hp) (x : V) (d : D) (lo hi : Option Int) (Q : VK) (Ψ : R → Prop), Ok T F H → PRep T.K F H x d → g d lo hi Ψ →
  (∀ F' H' v r, Ψ r → Nw T F H F' H' → RepN T F' H H' v r → Q v H') → r x lo hi H Q
def wSl (g : D → Option Int → Option Int → (R → Prop) → Prop) (w : WE) (wl wh : WO) : WE := fun Γ Ψ Ξ => w Γ (fun r1 Γ1 => wl Γ1 (fun lo Γ2 => wh Γ2 (fun hi Γ3 => ∃ d, r1.at Γ3 = some d ∧ g d lo hi fun r => Ψ r Γ3) Ξ) Ξ) Ξ
theorem ed_sl {r : V → Option Int → Option Int → Hp → VK → Prop} {g : D → Option Int → Option Int → (R → Prop) → Prop} {tl th : TO} {wl wh : WO} (l : LD T r g) (h : ED T E t w) (hl : OO T E tl wl) (hh : OO T E th wh) : ED T E (tSl r t tl th) (wSl g w wl wh) := fun F σ H Γ Q Ψ Ξ p hw x k => h F σ H Γ _ _ Ξ p hw x fun F1 H1 Γ1 v r hr q e => by
  obtain ⟨F2, q2, s2, e2⟩ := RepR.held q e
  refine hl F2 σ H1 Γ1 _ _ Ξ q2.rp hr (x.on q2) fun F3 H3 Γ3 lo h3 q3 => ?_
  have q23 := q2.trans q3
  refine hh F3 σ H3 Γ3 _ _ Ξ q3.rp h3 (x.on q23) fun F4 H4 Γ4 hi h4 q4 => ?_
  obtain ⟨d, a, hg⟩ := h4
  rw [← R.at_hold] at a
  have qq := q23.trans q4
  exact l F4 H4 v d lo hi Q _ q4.rp.toOk (((e2.on q3).on q4).peek q4.rp a) hg fun F5 H5 v5 r5 h5 n5 e5 => k F5 H5 Γ4 v5 r5 h5 (qq.nw n5) (e5.toR qq)
def cutD (xs : List D) (lo hi : Option Int) : List D := (xs.drop (HT.sIx xs.length 0 lo)).take (HT.sIx xs.length xs.length hi - HT.sIx xs.length 0 lo)
def dSlL : D → Option Int → Option Int → (R → Prop) → Prop := fun d lo hi Ψ => ∃ ds, d = .lst ds ∧ Ψ (.new (cutD ds lo hi))
def dSlS : D → Option Int → Option Int → (R → Prop) → Prop := fun d lo hi Ψ => ∃ z, d = .str z ∧ z.length ≤ sizeLine ∧ Ψ (.val (.str (cutS z lo hi)))
theorem ld_str : LD T rSlS dSlS := fun F H x d lo hi Q Ψ o hx hg k => by
  obtain ⟨z, rfl, hl, h⟩ := hg
  exact ⟨z, hx.str, hl, k F H _ _ h o.refl (Rep.str _)⟩
end
end Dt
set_option Elab.async false
set_option linter.all false
set_option maxRecDepth 100000
set_option autoImplicit false
namespace Dt
open PySem PySem.Spec L2 Kx PyProof.Rows
section
variable {X : Cx} {K : PySem.W.Frag}
theorem ix_seqK (h : X.K = K) : IxR X (rIx K) := h ▸ ix_seq
theorem op_inK (h : X.K = K) : OpR X (compareOp .In) (rIn K false) := h ▸ op_in_seq
theorem op_eqDK (h : X.K = K) (hu : X.A.units + 64 < cLine) : OpR X (compareOp .Eq) (rEqD K) := h ▸ op_eqD hu
theorem op_neDK (h : X.K = K) (hu : X.A.units + 64 < cLine) : OpR X (compareOp .NotEq) (rNeD K) := h ▸ op_neD hu
theorem call_lenK (h : X.K = K) : CallR X (.builtin "len") (fun xs H Q => ∃ p ys, xs = [.ref p] ∧ (SqL K H p ys ∨ SqT K H p ys) ∧ Q (.int ys.length) H) := h ▸ call_len_seq
theorem call_isiK (h : X.K = K) : CallR X (.builtin "isinstance") (fun xs H Q => (∃ y T b, xs = [y, .ty T] ∧ isiB y T = some b ∧ Q (.bl b) H) ∨ (∃ a ys, xs = [.ref a, .ty "tuple"] ∧ SqT K H a ys ∧ Q (.bl true) H) ∨ ∃ a ys, xs = [.ref a, .ty "list"] ∧ SqL K H a ys ∧ Q (.bl true) H) := h ▸ call_isiAll
theorem list_ofK (h : X.K = K) : CallR X (.type "list") (fun xs H Q => ∃ p ys, xs = [.ref p] ∧ (SqL K H p ys ∨ SqT K H p ys) ∧ ∀ l, H l = none → Q (.ref l) (upd H l (.lst ys))) := h ▸ call_list_of
theorem tuple_ofK (h : X.K = K) : CallR X (.type "tuple") (fun xs H Q => ∃ p ys, xs = [.ref p] ∧ ((SqL K H p ys ∧ ∀ l, H l = none → Q (.ref l) (upd H l (.tup ys))) ∨ (SqT K H p ys ∧ Q (.ref p) H))) := h ▸ call_tuple_of
end
structure QE (X : Cx) (T : Tb) (E : XK) (e : Expr) (t : TE) (w : WE) : Prop where
  pe : PE X e t
  ed : ED T E t w
structure QT (X : Cx) (T : Tb) (E : XK) (e : Expr) (t : TT) (w : WT) : Prop where
  pe : PT X e t
  ed : TD T E t w
structure QW (X : Cx) (T : Tb) (E : XK) (e : Expr) (t : TT) (w : WT) : Prop where
  pe : PW X e t
  ed : TD T E t w
structure QA (X : Cx) (T : Tb) (E : XK) (es : List Expr) (t : TA) (w : WA) : Prop where
  pe : PA X es t
  ed : AD T E t w
structure QO (X : Cx) (T : Tb) (E : XK) (e : Option Expr) (t : TO) (w : WO) : Prop where
  pe : PO X e t
  ed : OO T E t w
structure QS (X : Cx) (T : Tb) (io : Bool) (E : XK) (st : Stmt) (t : TS) (w : WS) : Prop where
  pe : PS X st t
  ed : SD T io E t w
structure QSs (X : Cx) (T : Tb) (io : Bool) (E : XK) (st : List Stmt) (t : TS) (w : WS) : Prop where
  pe : PSs X st t
  ed : SD T io E t w
structure QI (X : Cx) (T : Tb) (E : XK) (tg e : Expr) (t : TI) (w : WI) : Prop where
  pe : PI X tg e t
  ed : ID T E t w
structure QG (X : Cx) (T : Tb) (io : Bool) (e : Expr) (t : TG) (w : WG) : Prop where
  pe : PG X e t
  ed : GD T io t w
structure QGs (X : Cx) (T : Tb) (io : Bool) (es : List Expr) (t : TGs) (w : WGs) : Prop where
  pe : PGs X es t
  ed : GDs T io t w
structure QC (X : Cx) (T : Tb) (vs : List Nat) (e : Expr) (t : TG) (w : WG) : Prop where
  pe : PG X e t
  ed : CG T vs t w
structure QCs (X : Cx) (T : Tb) (vs : List Nat) (es : List Expr) (t : TGs) (w : WGs) : Prop where
  pe : PGs X es t
  ed : CGs T vs t w
structure QTs (X : Cx) (T : Tb) (E : XK) (e : List Expr) (t : TT) (w : WT) : Prop where
  pe : PTs X e t
  ed : TD T E t w
section
variable {X : Cx} {T : Tb} {E : XK} {io : Bool} {a b c e : Expr} {es : List Expr} {ta tb tc te t to : TE} {wa wb wc we w wo : WE} {tA : TA} {wA : WA} {pos : Pos} {t1 t2 : TT} {w1 w2 : WT} {s1 s2 : TS} {u1 u2 : WS} {x : Str}
theorem q_v (i : Nat) (h : PE X (.Name x pos) (tVar i)) : QE X T E (.Name x pos) (tVar i) (wVar i) := ⟨h, ed_var i⟩
theorem q_int {i : Int} {j} : QE X T E (.Constant (.int i) j pos) (tC (.int i)) (wC (.int i)) := ⟨pe_int, ed_c fun _ => .int i⟩
theorem q_bl {i : Bool} {j} : QE X T E (.Constant (.bool i) j pos) (tC (.bl i)) (wC (.bl i)) := ⟨pe_bl, ed_c fun _ => .bl i⟩
theorem q_str {i : Str} {j} : QE X T E (.Constant (.str i) j pos) (tC (.str i)) (wC (.str i)) := ⟨pe_str, ed_c fun _ => .str i⟩
theorem q_glob {v : V} {d : D} (h : PE X (.Name x pos) (tC v)) (r : ∀ F, Rep T.K F v d) : QE X T E (.Name x pos) (tC v) (wC d) := ⟨h, ed_c r⟩
theorem q_op {op : Operator} {r : L2.R2} {g : D → D → (R → Prop) → Prop} (o : OpR X (binaryOp op) r) (d : OD T r g) (ha : QE X T E a ta wa) (hb : QE X T E b tb wb) : QE X T E (.BinOp a op b pos) (tOp r ta tb) (wOp g wa wb) := ⟨pe_op o ha.pe hb.pe, ed_op d ha.ed hb.ed⟩
theorem q_un {op : UnaryOp} {r : V → Hp → VK → Prop} {g : D → (R → Prop) → Prop} (o : UnR X (unaryOp op) r) (d : UD T r g) (ha : QE X T E a ta wa) : QE X T E (.UnaryOp op a pos) (tUn r ta) (wUn g wa) := ⟨pe_un o ha.pe, ed_un d ha.ed⟩
theorem q_ix {r : L2.R2} {g : D → D → (R → Prop) → Prop} (o : IxR X r) (d : OD T r g) (ha : QE X T E a ta wa) (hb : QE X T E b tb wb) (hs : PlainIx b) : QE X T E (.Subscript a b pos) (tOp r ta tb) (wOp g wa wb) := ⟨pe_ix o ha.pe hb.pe hs, ed_op d ha.ed hb.ed⟩
def wCmp (g : D → D → (Bool → Prop) → Prop) (wa wb : WE) : WT := fun Γ Ψ Ξ => wa Γ (fun r1 Γ1 => wb Γ1 (fun r2 Γ2 => ∃ d1 d2, r1.at Γ2 = some d1 ∧ r2.at Γ2 = some d2 ∧ g d1 d2 fun b => Ψ b Γ2) Ξ) Ξ
theorem td_cmp {r : L2.R2} {g : D → D → (Bool → Prop) → Prop} (o : BD T r g) (ha : ED T E ta wa) (hb : ED T E tb wb) : TD T E (tTest (tOp r ta tb)) (wCmp g wa wb) := by
  intro F σ H Γ Q Ψ Ξ p h x k
  refine ha F σ H Γ _ _ Ξ p h x fun F1 H1 Γ1 v1 r1 h1 q1 e1 => ?_
  obtain ⟨F2, q2, s2, e2⟩ := RepR.held q1 e1
  refine hb F2 σ H1 Γ1 _ _ Ξ q2.rp h1 (x.on q2) fun F3 H3 Γ3 v2 r2 h3 q3 e3 => ?_
  obtain ⟨d1, d2, a1, a2, hg⟩ := h3
  rw [← R.at_hold] at a1
  exact o F3 H3 v1 v2 d1 d2 _ _ q3.rp.toOk ((e2.on q3).peek q3.rp a1) (e3.peek q3.rp a2) hg fun b hb => ⟨b, rfl, k F3 H3 Γ3 b hb (q2.trans q3)⟩
theorem q_cmpT {op : CmpOp} {r : L2.R2} {g : D → D → (Bool → Prop) → Prop} (o : OpR X (compareOp op) r) (d : BD T r g) (ha : QE X T E a ta wa) (hb : QE X T E b tb wb) (m : behindInMarks op b = false) : QT X T E (.Compare a [op] [b] pos) (tTest (tOp r ta tb)) (wCmp g wa wb) := ⟨pt_cmpR o ha.pe hb.pe m, td_cmp d ha.ed hb.ed⟩
def bod (g : D → D → (Bool → Prop) → Prop) : D → D → (R → Prop) → Prop := fun d e Ψ => g d e fun b => Ψ (.val (.bl b))
theorem q_cmp {op : CmpOp} {r : L2.R2} {g : D → D → (Bool → Prop) → Prop} (o : OpR X (compareOp op) r) (d : BD T r g) (ha : QE X T E a ta wa) (hb : QE X T E b tb wb) (m : behindInMarks op b = false) : QE X T E (.Compare a [op] [b] pos) (tOp r ta tb) (wOp (bod g) wa wb) := ⟨pe_cmpR o ha.pe hb.pe m, ed_op d.od ha.ed hb.ed⟩
theorem q_chain {op op' : CmpOp} {r r' : L2.R2} {g g' : D → D → (Bool → Prop) → Prop} (o : OpR X (compareOp op) r) (d : BD T r g) (o' : OpR X (compareOp op') r') (d' : BD T r' g') (ha : QE X T E a ta wa) (hb : QE X T E b tb wb) (hc : QE X T E c tc wc) (m : lastMarks [op, op'] [b, c] = false) :
    QE X T E (.Compare a [op, op'] [b, c] pos) (tChain r r' ta tb tc) (wChain g g' wa wb wc) := ⟨pe_chain o o' ha.pe hb.pe hc.pe m, ed_chain d d' ha.ed hb.ed hc.ed⟩
theorem q_chainT {op op' : CmpOp} {r r' : L2.R2} {g g' : D → D → (Bool → Prop) → Prop} (o : OpR X (compareOp op) r) (d : BD T r g) (o' : OpR X (compareOp op') r') (d' : BD T r' g') (ha : QE X T E a ta wa) (hb : QE X T E b tb wb) (hc : QE X T E c tc wc) (m : lastMarks [op, op'] [b, c] = false) :
    QT X T E (.Compare a [op, op'] [b, c] pos) (tTest (tChain r r' ta tb tc)) (wB (wChain g g' wa wb wc)) := ⟨pt_chain o o' ha.pe hb.pe hc.pe m, td_test (ed_chain d d' ha.ed hb.ed hc.ed)⟩
theorem q_tv (h : QE X T E e t w) (he : plainTest e = true) : QT X T E e (tB t) (wB w) := ⟨pt_v h.pe he, td_b h.ed⟩
theorem q_tnot (h : QT X T E e t1 w1) : QT X T E (.UnaryOp .Not e pos) (tNot t1) (wNot w1) := ⟨pt_not h.pe, td_not h.ed⟩
theorem q_or1 (h : QT X T E e t1 w1) : QW X T E (.BoolOp .Or [e] pos) t1 w1 := ⟨pw_or1 h.pe, h.ed⟩
theorem q_or (h : QT X T E a t1 w1) (h' : QW X T E (.BoolOp .Or (b :: es) pos) t2 w2) : QW X T E (.BoolOp .Or (a :: b :: es) pos) (tOr t1 t2) (wOr w1 w2) := ⟨pw_or h.pe h'.pe, td_or h.ed h'.ed⟩
theorem QW.tst (h : QW X T E e t1 w1) : QT X T E e t1 w1 := ⟨h.pe.pt, h.ed⟩
theorem q_one {op : BoolOp} (h : QE X T E a t w) : QE X T E (.BoolOp op [a] pos) t w := ⟨pe_one h.pe, h.ed⟩
theorem q_andV (h : QE X T E a ta wa) (h' : QE X T E (.BoolOp .And (b :: es) pos) tb wb) : QE X T E (.BoolOp .And (a :: b :: es) pos) (tAndV ta tb) (wAndV wa wb) := ⟨pe_and h.pe h'.pe, ed_and h.ed h'.ed⟩
theorem q_notV (h : QE X T E a ta wa) : QE X T E (.UnaryOp .Not a pos) (tNotV ta) (wNotV wa) := ⟨pe_not h.pe, ed_not h.ed⟩
theorem q_nil : QA X T E [] tNil wANil := ⟨pa_nil, ad_nil⟩
theorem q_cons (h : QE X T E e t w) (h' : QA X T E es tA wA) (hs : isStar e = false) : QA X T E (e :: es) (tCons t tA) (wACons w wA) := ⟨pa_c h.pe h'.pe hs, ad_cons h.ed h'.ed⟩
theorem q_tup {k} (h : QA X T E es tA wA) : QE X T E (.Tuple es k pos) (tTup tA) (wTup wA) := ⟨pe_tup h.pe, ed_tup h.ed⟩
theorem q_lst (h : QA X T E es tA wA) : QE X T E (.List es pos) (tLst tA) (wLst wA) := ⟨pe_lst h.pe, ed_lst h.ed⟩
theorem q_o0 : QO X T E none tNoPart wNoP := ⟨po_none, oo_none⟩
theorem q_o1 (h : QE X T E e t w) : QO X T E (some e) (tPart t) (wPrt w) := ⟨po_some h.pe, oo_some h.ed⟩
theorem q_sl {lo hi : Option Expr} {tl th : TO} {wl wh : WO} {p2 : Pos} {r : V → Option Int → Option Int → Hp → VK → Prop} {g : D → Option Int → Option Int → (R → Prop) → Prop} (o : SlR X r) (d : LD T r g) (h : QE X T E e t w) (hl : QO X T E lo tl wl) (hh : QO X T E hi th wh) :
    QE X T E (.Subscript e (.Slice lo hi none p2) pos) (tSl r t tl th) (wSl g w wl wh) := ⟨pe_slice o h.pe hl.pe hh.pe, ed_sl d h.ed hl.ed hh.ed⟩
theorem q_cB {id : String} {r : List V → Hp → VK → Prop} {g : List D → (R → Prop) → Prop} {p : Pos} (hc : CallR X (.builtin id) r) (d : CD T r g) (hg : Gl X x) (hm : X.mg x = none) (hv : bootBuiltins x = some (.builtin id)) (ha : QA X T E (e :: es) tA wA) (hn : x ≠ "__name__") (hdb : (x == ("__debug__" : Str)) = false)
    (hs : (e :: es).any isStar = false) : QE X T E (.Call (.Name x p) (e :: es) [] pos) (tCB r tA) (wCB g wA) := ⟨pe_cB hc hg hm hv ha.pe hn hdb hs, ed_cb d ha.ed⟩
theorem q_cT {id : String} {r : List V → Hp → VK → Prop} {g : List D → (R → Prop) → Prop} {p : Pos} (hc : CallR X (.type id) r) (d : CD T r g) (hg : Gl X x) (hm : X.mg x = none) (hv : bootBuiltins x = some (.type id)) (ha : QA X T E (e :: es) tA wA) (hn : x ≠ "__name__") (hdb : (x == ("__debug__" : Str)) = false)
    (hs : (e :: es).any isStar = false) : QE X T E (.Call (.Name x p) (e :: es) [] pos) (tCB r tA) (wCB g wA) := ⟨pe_cT hc hg hm hv ha.pe hn hdb hs, ed_cb d ha.ed⟩
theorem q_call {j k : Nat} {ps : List Str} {io' : Bool} {wf : WF} {p : Pos} {CX : CXT} (C : Cal X.prog X.w X.K X.mg X.base CX j x ps (spD T io' wf)) (hr : Room k X.A) (hx : Passes CX X E) (ha : QA X T E (e :: es) tA wA) (hg : Gl X x) (hj : j ≤ k) (hdb : (x == ("__debug__" : Str)) = false) (hs : (e :: es).any isStar = false) :
    QE X T E (.Call (.Name x p) (e :: es) [] pos) (tCall (spD T io' wf) [] E tA) (wCall io' wf wA) := ⟨pe_callC C hr hx ha.pe hg hj hdb hs, ed_call ha.ed⟩
theorem q_app {i : Nat} {o : Expr} {apos : Pos} (ho : PE X o (tVar i)) (h : QE X T E e te we) (hb : attributeBase o "append" X.env (eval o X.env) = eval o X.env) (hl : (apos.endLine == pos.line) = true) (hs : isStar e = false) (hK : X.K = T.K) :
    QE X T E (.Call (.Attribute o "append" apos) [e] [] pos) (tBM T.K "list" rAppend (tVar i) (tCons te tNil)) (wApp i we) :=
  ⟨hK ▸ pe_bm PySem.F.plainAttrs_list PySem.F.slot_list_append PySem.F.type_list_append mt_append ho (pa_c h.pe pa_nil hs) hb (by
    rw [star_cons hs]
    rfl) hl (star_cons hs) rfl, ed_app h.ed⟩
theorem q_clr {i : Nat} {o : Expr} {apos : Pos} (ho : PE X o (tVar i)) (hb : attributeBase o "clear" X.env (eval o X.env) = eval o X.env) (hl : (apos.endLine == pos.line) = true) (hK : X.K = T.K) : QE X T E (.Call (.Attribute o "clear" apos) [] [] pos) (tBM0 T.K "list" rClear (tVar i)) (wClr i) :=
  ⟨hK ▸ pe_bm0 PySem.F.plainAttrs_list PySem.F.slot_list_clear PySem.F.type_list_clear mt_clear ho hb hl, ed_clr⟩
theorem q_join {o : Expr} {apos : Pos} (ho : QE X T E o to wo) (h : QE X T E e te we) (hs : isStar e = false) (hb : attributeBase o "join" X.env (eval o X.env) = eval o X.env) (hl : (apos.endLine == pos.line) = true) (hK : X.K = T.K) : QE X T E (.Call (.Attribute o "join" apos) [e] [] pos) (tM1 (fun x xs H Q => ∃ a p, ∃ ys : List Str, x = .str a ∧ xs = [.ref p] ∧ (SqL T.K H p (ys.map V.str) ∨ SqT T.K H p (ys.map V.str)) ∧ (ys.map (·.length)).sum + ys.length * a.length ≤ 16777216 ∧ Q (.str (Txt.join a ys)) H) to te) (wM1 dJoin wo we) :=
  ⟨hK ▸ pe_join ho.pe h.pe (star_cons hs) hb hl, ed_m1 md_join ho.ed h.ed⟩
theorem q_t0 : QTs X T E [] tYes (fun Γ Ψ _ => Ψ true Γ) := ⟨pts_nil, fun F σ H Γ Q Ψ Ξ p h x k => k F H Γ _ h p.refl⟩
variable {tg iter elt : Expr} {ifs : List Expr} {scope : Scope} {own : List (Str × Nat)} {wi : TI} {wI : WI} {g : TG} {wg : WG} {gs : TGs} {wgs : WGs} {tt : TT} {wt : WT} {vs : List Nat}
theorem q_lc (hc : X.calm = true) (hN : X.N.Nodup) (hi : QI X T E tg iter wi wI) (ok : BlkOk X.N X.env.scope scope own)
    (hg : ∀ (s : Shared) (H : Hp) (C : Addr) (cl : List (Str × Addr)) (fp : List Addr), QC (X.blk s H scope (compEnvC scope cl C X.env) fp) T (own.map (·.2)) tg g wg)
    (ht : ∀ (s : Shared) (H : Hp) (C : Addr) (cl : List (Str × Addr)) (fp : List Addr), QTs (X.blk s H scope (compEnvC scope cl C X.env) fp) T E0 ifs tt wt)
    (he : ∀ (s : Shared) (H : Hp) (C : Addr) (cl : List (Str × Addr)) (fp : List Addr), QE (X.blk s H scope (compEnvC scope cl C X.env) fp) T E0 elt te we) (hs : ∀ x, foldedSetIterable iter X.env x = pure x) :
    QE X T E (.ListComp elt [⟨tg, iter, ifs, 0⟩] scope pos) (tLc wi g tt te (own.map (·.2))) (wLc wI wg wt we (own.map (·.2))) :=
  ⟨pe_lc hc hN hi.pe ok (fun s H C cl fp => (hg s H C cl fp).pe) (fun s H C cl fp => (ht s H C cl fp).pe) (fun s H C cl fp => (he s H C cl fp).pe) hs,
    ed_lc hi.ed (hg X.s_0 (fun _ => none) 0 [] []).ed (ht X.s_0 (fun _ => none) 0 [] []).ed (he X.s_0 (fun _ => none) 0 [] []).ed⟩
theorem q_cn {i : Nat} (h : PG X (.Name x pos) (gName i)) (hi : i ∈ vs) : QC X T vs (.Name x pos) (gName i) (wgName i) := ⟨h, cg_name hi⟩
theorem q_c0 : QCs X T vs [] gNil wgNil := ⟨pgs_nil, cg_nil⟩
theorem q_c1 (h : QC X T vs e g wg) (h' : QCs X T vs es gs wgs) (hs : (assignEach (e :: es) X.env).map (·.2) = assign e X.env :: (assignEach es X.env).map (·.2)) : QCs X T vs (e :: es) (gCons g gs) (wgCons wg wgs) := ⟨pgs_cons h.pe h'.pe hs, cg_cons h.ed h'.ed⟩
theorem q_ct {n k : Nat} (hK : X.K = T.K) (hc : X.calm = true) (h : QCs X T vs es gs wgs) (hn : (assignEach es X.env).length = n) (hst : (assignEach es X.env).findIdx? (·.1) = none) : QC X T vs (.Tuple es k pos) (gTup T.K n gs) (wgTup n wgs) := ⟨hK ▸ pg_tup hc h.pe hn hst, cg_tup h.ed⟩
theorem q_il (hK : X.K = T.K) (h : QE X T E e t w) : QI X T E tg e (iList T.K t) (wIList w) := ⟨hK ▸ pi_list h.pe, id_list h.ed⟩
theorem q_it (hK : X.K = T.K) (h : QE X T E e t w) : QI X T E tg e (iTup T.K t) (wITup w) := ⟨hK ▸ pi_tup h.pe, id_tup h.ed⟩
theorem q_is (h : QE X T E e t w) : QI X T E tg e (iStr t) (wIStr w) := ⟨pi_str h.pe, id_str h.ed⟩
theorem q_ir1 {p : Pos} (hg : Gl X "range") (hm : X.mg "range" = none) (ha : QA X T E [a] tA wA) (hs : isStar a = false) : QI X T E tg (.Call (.Name "range" p) [a] [] pos) (iRng1 tA) (wIRng1 wA) := ⟨pi_range1 hg hm ha.pe (star_cons hs), id_rng1 ha.ed⟩
theorem q_ie {p tpos : Pos} {elts : List Expr} {kk : Nat} (hK : X.K = T.K) (hg : Gl X "enumerate") (hm : X.mg "enumerate" = none) (ha : QA X T E [a] tA wA) (hs : isStar a = false) : QI X T E (.Tuple elts kk tpos) (.Call (.Name "enumerate" p) [a] [] pos) (iEnum T.K tA) (wIEnum wA) := ⟨hK ▸ pi_enum hg hm ha.pe (star_cons hs), id_enum ha.ed⟩
theorem q_gn {i : Nat} (h : PG X (.Name x pos) (gName i)) (hi : i ≠ 0 ∨ io = false) : QG X T io (.Name x pos) (gName i) (wgName i) := ⟨h, gd_name hi⟩
theorem q_g0 : QGs X T io [] gNil wgNil := ⟨pgs_nil, gd_nil⟩
theorem q_g1 (h : QG X T io e g wg) (h' : QGs X T io es gs wgs) (hs : (assignEach (e :: es) X.env).map (·.2) = assign e X.env :: (assignEach es X.env).map (·.2)) : QGs X T io (e :: es) (gCons g gs) (wgCons wg wgs) := ⟨pgs_cons h.pe h'.pe hs, gd_cons h.ed h'.ed⟩
theorem q_gt {n k : Nat} (hK : X.K = T.K) (hc : X.calm = true) (h : QGs X T io es gs wgs) (hn : (assignEach es X.env).length = n) (hst : (assignEach es X.env).findIdx? (·.1) = none) : QG X T io (.Tuple es k pos) (gTup T.K n gs) (wgTup n wgs) := ⟨hK ▸ pg_tup hc h.pe hn hst, gd_tup h.ed⟩
variable {st : Stmt} {sts as bs : List Stmt}
theorem q_s0 : QSs X T io E [] tNext wNext := ⟨pss_nil, sd_next⟩
theorem q_s1 (h : QS X T io E st s1 u1) : QSs X T io E [st] s1 u1 := ⟨pss_one h.pe, h.ed⟩
theorem q_sc (h : QS X T io E st s1 u1) (h' : QSs X T io E sts s2 u2) : QSs X T io E (st :: sts) (tSeq s1 s2) (wSeq u1 u2) := ⟨pss_cons h.pe h'.pe, sd_seq h.ed h'.ed⟩
theorem q_ret (h : QE X T E e t w) : QS X T io E (.Return (some e) pos) (tRet t) (wRet w) := ⟨ps_ret h.pe, sd_ret h.ed⟩
theorem q_drop (h : QE X T E e t w) (hs : swapsWith e none pos.line X.env = pure false) : QS X T io E (.Expr e pos) (tDrop t) (wDrop w) := ⟨ps_expr h.pe hs, sd_drop h.ed⟩
theorem q_ifS (h : QT X T E c t1 w1) (h1 : QSs X T io E as s1 u1) (h2 : QSs X T io E bs s2 u2) : QS X T io E (.If c as bs pos) (tIfS t1 s1 s2) (wIfS w1 u1 u2) := ⟨ps_if h.pe h1.pe h2.pe, sd_if h.ed h1.ed h2.ed⟩
theorem q_set {i : Nat} {pos' : Pos} (hN : X.N.Nodup) (hi : X.N[i]? = some x) (hx : L2.Loc X.env.scope x) (h : QE X T E e t w) (h0 : i ≠ 0 ∨ io = false) (hs : swapsWith e (some (.Name x pos')) pos.line X.env = pure false) (hf : X.fn x = true ∨ X.env.scope.names.lookup x = some .local) :
    QS X T io E (.Assign [.Name x pos'] e pos) (tAsg t (gName i)) (wSet i w) := ⟨ps_set hN hi hx h.pe hs hf, sd_set h.ed h0⟩
theorem q_setLc {i : Nat} {y : Str} {py spos : Pos} (hc : X.calm = true) (hN : X.N.Nodup) (hy : X.N[i]? = some y) (hyl : X.env.scope.names.lookup y = some .local) (h0 : i ≠ 0 ∨ io = false) (hsw : swapsWith (.ListComp elt [⟨tg, iter, ifs, 0⟩] scope pos) (some (.Name y py)) spos.line X.env = pure true)
    (hi : QI X T E tg iter wi wI) (ok : BlkOk X.N X.env.scope scope own)
    (hg : ∀ (s : Shared) (H : Hp) (C : Addr) (cl : List (Str × Addr)) (fp : List Addr), QC (X.blk s H scope (compEnvC scope cl C X.env) fp) T (own.map (·.2)) tg g wg)
    (ht : ∀ (s : Shared) (H : Hp) (C : Addr) (cl : List (Str × Addr)) (fp : List Addr), QTs (X.blk s H scope (compEnvC scope cl C X.env) fp) T E0 ifs tt wt)
    (he : ∀ (s : Shared) (H : Hp) (C : Addr) (cl : List (Str × Addr)) (fp : List Addr), QE (X.blk s H scope (compEnvC scope cl C X.env) fp) T E0 elt te we) (hs : ∀ x, foldedSetIterable iter X.env x = pure x) :
    QS X T io E (.Assign [.Name y py] (.ListComp elt [⟨tg, iter, ifs, 0⟩] scope pos) spos) (tAsg (tLc wi g tt te (own.map (·.2))) (gName i)) (wSet i (wLc wI wg wt we (own.map (·.2)))) :=
  ⟨ps_setLc hc hN hy hyl hsw hi.pe ok (fun s H C cl fp => (hg s H C cl fp).pe) (fun s H C cl fp => (ht s H C cl fp).pe) (fun s H C cl fp => (he s H C cl fp).pe) hs,
    sd_set (ed_lc hi.ed (hg X.s_0 (fun _ => none) 0 [] []).ed (ht X.s_0 (fun _ => none) 0 [] []).ed (he X.s_0 (fun _ => none) 0 [] []).ed) h0⟩
theorem q_asg (h : QE X T E e t w) (h' : QG X T io tg g wg) (hs : swapsWithSole [tg] e pos.line X.env = pure false) (hw : swappedStores [tg] e X.env = pure none) (h1 : (assignEach [tg] X.env).map (·.2) = [assign tg X.env]) :
    QS X T io E (.Assign [tg] e pos) (tAsg t g) (wAsg w wg) := ⟨ps_asg h.pe h'.pe hs hw h1, sd_asg h.ed h'.ed⟩
theorem q_putAt {i : Nat} {o k : Expr} {tk : TE} {wk : WE} {pos' : Pos} (ho : PE X o (tVar i)) (h : QE X T E e t w) (hk : QE X T E k tk wk) (hs : swapsWithSole [.Subscript o k pos'] e pos.line X.env = pure false) (hw : swappedStores [.Subscript o k pos'] e X.env = pure none) (h1 : (assignEach [.Subscript o k pos'] X.env).map (·.2) = [assign (.Subscript o k pos') X.env])
    (ha : ∀ v, assign (.Subscript o k pos') X.env v = (do
      let ov ← holding [v] (eval o X.env)
      let iv ← holding [v, ov] (eval k X.env)
      standAt pos'
      holding [v, ov, iv] (setItem ov iv v)
      release [v, ov, iv] [])) :
    QS X T io E (.Assign [.Subscript o k pos'] e pos) (tAsg t (gSub (tVar i) tk rSetL)) (wPutAt i w wk) := ⟨ps_asg h.pe (pg_sub ho hk.pe set_list ha) hs hw h1, sd_putAt h.ed hk.ed⟩
theorem q_par {i j : Nat} {x y : Str} {px py pt pt2 : Pos} {kt k2 : Nat} (hc : X.calm = true) (hN : X.N.Nodup) (hi : X.N[i]? = some x) (hj : X.N[j]? = some y) (hij : i ≠ j) (hx : X.env.scope.names.lookup x = some .local) (hy : X.env.scope.names.lookup y = some .local) (ha : QA X T E [a, b] tA wA) (h0 : (i ≠ 0 ∧ j ≠ 0) ∨ io = false)
    (hw : swappedStores [.Tuple [.Name x px, .Name y py] kt pt] (.Tuple [a, b] k2 pt2) X.env = pure (some [x, y])) (hs : swapsWithSole [.Tuple [.Name x px, .Name y py] kt pt] (.Tuple [a, b] k2 pt2) pos.line X.env = pure false) :
    QS X T io E (.Assign [.Tuple [.Name x px, .Name y py] kt pt] (.Tuple [a, b] k2 pt2) pos) (tPar i j tA) (wPar i j wA) := ⟨ps_par hc hN hi hj hij hx hy ha.pe hw hs, sd_par ha.ed h0⟩
theorem q_for (hp : PassesOwn (model X.prog X.w) X.A X.env X.xe) (hc : X.calm = true) (hi : QI X T E tg iter wi wI) (hg : QG X T io tg g wg) (hb : QSs X T io E bs s1 u1) (hf : ∀ x, foldedSetIterable iter X.env x = pure x) : QS X T io E (.For tg iter bs [] pos) (tFor wi g s1) (wFor wI wg u1) := ⟨ps_for hp hc hi.pe hg.pe hb.pe hf, sd_for hi.ed hg.ed hb.ed⟩
theorem q_while (hp : PassesOwn (model X.prog X.w) X.A X.env X.xe) (h : QT X T E c t1 w1) (hb : QSs X T io E bs s1 u1) : QS X T io E (.While c bs [] pos) (tWhile t1 s1) (wWhile w1 u1) := ⟨ps_while hp h.pe hb.pe, sd_while h.ed hb.ed⟩
end
def toN (io : Bool) (Γ : Gm) : R → Option R
  | .val d => some (.val d)
  | .new ds => some (.new ds)
  | .slot i => if io = true ∧ i = 0 then none else match Γ[i]? with
    | some (some (.own ds)) => some (.new ds)
    | some (some (.shr d)) => some (.val d)
    | _ => none
def retW (io : Bool) (Ψ : R → List D → Prop) (r : R) (Γ : Gm) : Prop := ∃ r', toN io Γ r = some r' ∧ match io with
  | true => ∃ row, Γ[0]? = some (some (.own row)) ∧ Ψ r' row
  | false => Ψ r' []
def endsW (io : Bool) (Ψ : R → List D → Prop) (Ξ : XD → Prop) : WEnds := { nx := fun Γ => retW io Ψ (.val .non) Γ, rt := fun r Γ => retW io Ψ r Γ, bk := fun _ => False, ct := fun _ => False, xe := Ξ }
def startW (io : Bool) (n : Nat) (ds row : List D) : Gm := match io with
  | true => some (.own row) :: (ds.map fun d => some (.shr d)) ++ List.replicate (n - (ds.length + 1)) none
  | false => (ds.map fun d => some (.shr d)) ++ List.replicate (n - ds.length) none
section
variable {K : PySem.W.Frag} {ts : List Addr} {ls : List (Addr × Pos × Str)} {io : Bool} {H F : Hp} {N : List Str} {vs : List V} {ds row : List D} {ra : Addr}
theorem shr_at : ∀ {ds : List D} {vs : List V} {n m : Nat} {i : Nat} {e : En}, RepA K F vs ds → ((ds.map fun d => some (En.shr d)) ++ List.replicate n none)[i]? = some (some e) → ∃ v d, (vs.map some ++ List.replicate m none)[i]? = some (some v) ∧ e = .shr d ∧ Rep K F v d
  | [], _, n, m, i, e, .nil, h => by
    simp only [List.map_nil, List.nil_append, List.getElem?_replicate] at h
    split at h <;> cases h
  | d :: ds, _, n, m, 0, e, .cons (v := v) r _, h => by
    simp at h
    exact ⟨v, d, by simp, h.symm, r⟩
  | d :: ds, _, n, m, i + 1, e, .cons r rr, h => by
    obtain ⟨v, d', h1, h2, h3⟩ := shr_at (m := m) (i := i) (e := e) rr (by simpa using h)
    exact ⟨v, d', by simpa using h1, h2, h3⟩
theorem start_ok {rv : List V} (o : Ok ⟨K, ts, ls⟩ F H) (hN : (if io then 1 else 0) + ds.length ≤ N.length) (r : RepA K F vs ds) (hr : io = true → H ra = some (.lst rv) ∧ F ra = none ∧ RepA K F rv row) :
    Rs ⟨K, ts, ls⟩ io H F ra F (start N (if io then .ref ra :: vs else vs)) H (startW io N.length ds row) := by
  have hl := r.length
  cases io with
  | false =>
    have at0 : ∀ (i : Nat) (e : En), (startW false N.length ds row)[i]? = some (some e) → ∃ v d, (start N vs)[i]? = some (some v) ∧ e = .shr d ∧ Rep K F v d := fun i e h => shr_at r h
    refine ⟨⟨o, ?_, fun i e h => ?_, fun i j es es' v h1 _ _ _ => ?_⟩, fun _ _ h => h, fun b u h _ _ => h, fun b ⟨i, es, h1, _⟩ => ?_, fun b u h => ⟨u, h⟩, fun b u h => .inl h, fun z => by cases z⟩
    · show ((ds.map fun d => some (En.shr d)) ++ List.replicate (N.length - ds.length) none).length = (vs.map some ++ List.replicate (N.length - vs.length) none).length
      simp [hl]
    · obtain ⟨v, d, h1, rfl, h3⟩ := at0 i e h
      exact ⟨v, h1, h3⟩
    · obtain ⟨_, _, _, z, _⟩ := at0 i _ h1
      cases z
    · obtain ⟨_, _, _, z, _⟩ := at0 i _ h1
      cases z
  | true =>
    obtain ⟨h1, h2, h3⟩ := hr rfl
    have at0 : ∀ (i : Nat) (e : En), (startW true N.length ds row)[i]? = some (some e) → (i = 0 ∧ e = .own row) ∨ ∃ v d, (start N (.ref ra :: vs))[i]? = some (some v) ∧ e = .shr d ∧ Rep K F v d := fun i e h => by
      cases i with
      | zero => exact .inl ⟨rfl, by simpa [startW] using h.symm⟩
      | succ i =>
        obtain ⟨v, d, g1, g2, g3⟩ := shr_at (m := N.length - (vs.length + 1)) (i := i) (e := e) r (by simpa [startW] using h)
        exact .inr ⟨v, d, by simpa [L2.start] using g1, g2, g3⟩
    have z0 : (start N (.ref ra :: vs))[0]? = some (some (.ref ra)) := by simp [L2.start]
    refine ⟨⟨o, ?_, fun i e h => ?_, fun i j es es' v g1 g2 _ _ => ?_⟩, fun _ _ h => h, fun b u h _ _ => h, fun b ⟨i, es, g1, g2⟩ => ?_, fun b u h => ⟨u, h⟩, fun b u h => .inl h, fun _ => z0⟩
    · show (some (En.own row) :: (ds.map fun d => some (En.shr d)) ++ List.replicate (N.length - (ds.length + 1)) none).length = ((V.ref ra :: vs).map some ++ List.replicate (N.length - (V.ref ra :: vs).length) none).length
      simp [hl]
    · rcases at0 i e h with ⟨rfl, rfl⟩ | ⟨v, d, g1, rfl, g3⟩
      · exact ⟨_, z0, ra, rv, rfl, h1, h2, h3⟩
      · exact ⟨v, g1, g3⟩
    · rcases at0 i _ g1 with ⟨rfl, _⟩ | ⟨_, _, _, z, _⟩
      · rcases at0 j _ g2 with ⟨rfl, _⟩ | ⟨_, _, _, z, _⟩
        · rfl
        · cases z
      · cases z
    · rcases at0 i _ g1 with ⟨rfl, _⟩ | ⟨_, _, _, z, _⟩
      · have g2' : (start N (.ref ra :: vs))[0]? = some (some (.ref b)) := g2
        rw [z0] at g2'
        cases g2'
        exact .inl ⟨rfl, rfl⟩
      · cases z
theorem ends_ok {Q : VK} {E E' : XK} {Ψ : R → List D → Prop} {Ξ : XD → Prop} (k : ∀ F' H' v r row', Ψ r row' → Fx ⟨K, ts, ls⟩ io ra F H F' H' → (io = true → ∃ rv', H' ra = some (.lst rv') ∧ F' ra = none ∧ RepA K F' rv' row') → RepN ⟨K, ts, ls⟩ F' H H' v r → Q v H')
    (x : ∀ F' H' xd, Ξ xd → Fx ⟨K, ts, ls⟩ io ra F H F' H' → XE ⟨K, ts, ls⟩ F' H' E xd) : EO ⟨K, ts, ls⟩ io H F ra E { nx := fun _ H' => Q .non H', rt := Q } (endsW io Ψ Ξ) := by
  have fx : ∀ {F' H' : Hp} {σ : L2.St} {Γ : Gm}, Rs ⟨K, ts, ls⟩ io H F ra F' σ H' Γ → Fx ⟨K, ts, ls⟩ io ra F H F' H' := fun {F' H' σ Γ} s => ⟨s.rp.toOk, s.ff, s.en, s.gro, s.nf⟩
  have ret : ∀ {F' H' : Hp} {σ : L2.St} {Γ : Gm} {v : V} {r : R}, retW io Ψ r Γ → Rs ⟨K, ts, ls⟩ io H F ra F' σ H' Γ → RepR ⟨K, ts, ls⟩ F' σ H' Γ H v r → Q v H' := fun {F' H' σ Γ v r} h s e => by
    obtain ⟨r', hr, hp⟩ := h
    have row' : ∃ row', Ψ r' row' ∧ (io = true → Γ[0]? = some (some (.own row'))) := by
      cases io with
      | true => obtain ⟨row, h1, h2⟩ := hp; exact ⟨row, h2, fun _ => h1⟩
      | false => exact ⟨[], hp, fun z => by cases z⟩
    obtain ⟨row', hΨ, h0⟩ := row'
    have at0 : io = true → ∃ rv', H' ra = some (.lst rv') ∧ F' ra = none ∧ RepA K F' rv' row' := fun z => by
      obtain ⟨u, e1, a, us, e2, ha, fa, rr⟩ := s.rp.at_ 0 _ (h0 z)
      rw [s.par z] at e1
      cases e1
      cases e2
      exact ⟨us, ha, fa, rr⟩
    refine k F' H' v r' row' hΨ (fx s) at0 ?_
    cases r with
    | val d => cases hr; exact e
    | new es => cases hr; obtain ⟨a, us, e1, e2, e3, e4, e5, _⟩ := e; exact ⟨a, us, e1, e2, e3, e4, e5⟩
    | slot i =>
      simp only [toN] at hr
      split at hr
      · cases hr
      rename_i hio
      obtain ⟨e1, en, e2⟩ := e
      rw [e2] at hr
      obtain ⟨u, e3, re⟩ := s.rp.at_ i en e2
      rw [e1] at e3
      cases e3
      cases en with
      | shr d => cases hr; exact re
      | own es =>
        cases hr
        obtain ⟨a, us, rfl, ha, fa, rr⟩ := re
        refine ⟨a, us, rfl, ha, fa, ?_, rr⟩
        rcases s.fr a ⟨i, es, e2, e1⟩ with ⟨z, rfl⟩ | z
        · exact absurd ⟨z, s.rp.apart i 0 es row' _ e2 (h0 z) e1 (s.par z)⟩ hio
        · exact z
  exact ⟨fun F' σ H' Γ h s => ret h s Rep.non, fun F' σ H' Γ h s => h.elim, fun F' σ H' Γ h s => h.elim, fun F' σ H' Γ v r h s e => ret h s e, fun F' σ H' Γ xd h s => x F' H' xd h (fx s)⟩
end
section
variable {P : Program} {wd : World} {K : PySem.W.Frag} {mg : Str → Option Value} {base : Heap} {x qual : Str} {st : Stmt} {f : Addr} {fd : FuncData} {N ps : List Str} {k : Nat} {ts : List Addr} {ls : List (Addr × Pos × Str)} {io : Bool} {wf : WF} {w : WS}
theorem spD_len {vs : List V} {H : Hp} {Q : VK} {E : XK} (hl : ∀ ds row Ψ Ξ, wf ds row Ψ Ξ → (if io then 1 else 0) + ds.length = ps.length) (h : spD ⟨K, ts, ls⟩ io wf vs H Q E) : vs.length = ps.length := by
  obtain ⟨F, ra, rv, row, vs', ds, Ψ, Ξ, o, rfl, hr, r, hw, _⟩ := h
  rw [← hl ds row Ψ Ξ hw, ← r.length]
  cases io <;> simp <;> omega
theorem fn_d (F : Fun K x qual st f fd) (S : FnScope N ps (defScope st)) (hn : ps.length ≤ N.length) (hl : ∀ ds row Ψ Ξ, wf ds row Ψ Ξ → (if io then 1 else 0) + ds.length = ps.length)
    (hw : ∀ ds row Ψ Ξ, wf ds row Ψ Ξ → w (endsW io Ψ fun _ => False) (startW io N.length ds row))
    (hb : ∀ (cdv : Value) (A : Around) (outer : List Env) (s : Shared) (H : Hp) (E : XK), Room k (A.deeper (envOfC qual (defScope st) s.heap.objs.size f cdv)) → ∃ t, QSs (cxOf (CXE P wd) P wd K mg base N qual (defScope st) f cdv A outer s H E).nox ⟨K, ts, ls⟩ io E0 (defBody st) t w) :
    FnOk P wd K mg base (CXE P wd) (k + 1) f fd ps (spD ⟨K, ts, ls⟩ io wf) := by
  refine Fun.okT F S (fun vs H Q E h => spD_len hl h) fun cdv A outer s H vs Q E hr h => ?_
  obtain ⟨t, q⟩ := hb cdv A outer s H E hr
  obtain ⟨F0, ra, rv, row, vs', ds, Ψ, Ξ, o, rfl, hrow, r, hwf, kk, kx⟩ := h
  refine ⟨t, q.pe, ?_⟩
  exact q.ed H F0 ra F0 _ H _ _ _ (start_ok o (by rw [hl ds row Ψ Ξ hwf]; exact hn) r hrow) (hw ds row Ψ Ξ hwf) (ends_ok (E' := E0) kk fun _ _ _ z => z.elim)
end
end Dt
set_option Elab.async false
set_option linter.all false
set_option maxRecDepth 100000
set_option autoImplicit false
namespace Dt
open PySem PySem.Spec L2 Kx PyProof.Rows
abbrev dAdd := dI0 fun i j => i + j
abbrev dSub := dI0 fun i j => i - j
abbrev dMul := dI CMulB fun i j => i * j
abbrev dDiv := dI CDivP fun i j => i / j
abbrev dDivB := dI CDivB fun i j => i.fdiv j
abbrev dMod := dI (fun _ j => 0 < j) fun i j => i % j
abbrev dPow := dI CPow fun i j => i ^ j.toNat
abbrev bLt := bI fun i j => decide (i < j)
abbrev bLe := bI fun i j => decide (i ≤ j)
abbrev bGt := bI fun i j => decide (j < i)
abbrev bGe := bI fun i j => decide (j ≤ i)
abbrev dAbs := d1I fun i => if i < 0 then -i else i
abbrev dMax2 := d2I fun i j => if j > i then j else i
abbrev dMin2 := d2I fun i j => if j < i then j else i
abbrev dNeg : D → (R → Prop) → Prop := fun d Ψ => ∃ i, d = .int i ∧ Ψ (.val (.int (-i)))
section
variable {T : Tb}
theorem od_add : OD T (rI0 fun i j => .int (i + j)) dAdd := od_I0
theorem od_sub : OD T (rI0 fun i j => .int (i - j)) dSub := od_I0
theorem od_mul : OD T (rI CMulB fun i j => .int (i * j)) dMul := od_I
theorem od_div : OD T (rI CDivP fun i j => .int (i / j)) dDiv := od_I
theorem od_divB : OD T (rI CDivB fun i j => .int (i.fdiv j)) dDivB := od_I
theorem od_mod : OD T (rI (fun _ j => 0 < j) fun i j => .int (i % j)) dMod := od_I
theorem od_pow : OD T (rI CPow fun i j => .int (i ^ j.toNat)) dPow := od_I
theorem bd_lt : BD T (rI0 fun i j => .bl (decide (i < j))) bLt := bd_I
theorem bd_le : BD T (rI0 fun i j => .bl (decide (i ≤ j))) bLe := bd_I
theorem bd_gt : BD T (rI0 fun i j => .bl (decide (j < i))) bGt := bd_I
theorem bd_ge : BD T (rI0 fun i j => .bl (decide (j ≤ i))) bGe := bd_I
theorem cd_abs : CD T (fun xs H Q => ∃ i, xs = [.int i] ∧ Q (.int (if i < 0 then -i else i)) H) dAbs := cd_1I
theorem cd_max2 : CD T (fun xs H Q => ∃ i j, xs = [.int i, .int j] ∧ Q (.int (if j > i then j else i)) H) dMax2 := cd_2I
theorem cd_min2 : CD T (fun xs H Q => ∃ i j, xs = [.int i, .int j] ∧ Q (.int (if j < i then j else i)) H) dMin2 := cd_2I
def D.isN : D → Bool
  | .non => true
  | _ => false
def bIsN (f : Bool → Bool) : D → D → (Bool → Prop) → Prop := fun d e Ψ => e = .non ∧ Ψ (f d.isN)
theorem PRep.isN {K : PySem.W.Frag} {F H : Hp} {v : V} {d : D} (h : PRep K F H v d) : decide (v = .non) = d.isN := by
  rcases h with h | ⟨a, vs, ds, rfl, rfl, _, _⟩
  · cases h <;> first | rfl | exact decide_eq_false (by intro z; cases z)
  · exact decide_eq_false (by intro z; cases z)
theorem law_sp {K : PySem.W.Frag} {ts : List Addr} {ls : List (Addr × Pos × Str)} {wf : WF} {H : Hp} {a : Addr} {ns : List Int} (hw : ns.length ≤ 63 → wf [.scr (ns.map .int)] [] (fun r _ => r = .val (.bl true)) fun _ => False) (hl : ns.length ≤ 63) (hT : ∀ P ∈ ts, Tab H P) (hL : ∀ p ∈ ls, TabL H p.1 p.2.1 p.2.2) (hS : SqL K H a (ns.map V.int)) (hN : ∀ b ps, H b = some (.tbl ps) → b ≠ a) :
    spD ⟨K, ts, ls⟩ false wf [.ref a] H (fun v _ => v = .bl true) fun _ _ _ => False := by
  refine ⟨fun b => match H b with | some (.tbl _) => none | o => o, 0, [], [], [.ref a], [.scr (ns.map .int)], _, _, ⟨fun b o h => ?_, fun b o h => ?_, hT, hL⟩, rfl, (fun z => by cases z), .cons (.scr ?_ RepA.ofInts) .nil, hw hl, fun F' H' v r row' hr _ _ e => ?_, fun _ _ _ z => z.elim⟩
  · skip
    split at h
    · cases h
    · exact h
  · skip
    split at h
    · cases h
    · rename_i hne
      intro ps z
      subst z
      exact hne ps h
  · have key : ∀ o, H a = some o → (∀ ps, o ≠ .tbl ps) → (match H a with | some (.tbl _) => (none : Option HO) | o => o) = some o := fun o h n => by
      rw [h]
      cases o <;> first | rfl | exact absurd rfl (n _)
    rcases hS with (h | ⟨o, h⟩) | h
    · exact .inl (.inl (key _ h (fun _ z => by cases z)))
    · exact .inl (.inr ⟨o, key _ h (fun _ z => by cases z)⟩)
    · exact .inr h
  · subst hr
    cases e
    rfl
end
end Dt
set_option Elab.async false
set_option linter.all false
set_option maxRecDepth 100000
set_option autoImplicit false
namespace Dt
open PySem L2 Kx
theorem ix0 {x : D} {xs : List D} : atI (x :: xs) 0 = some x := by
  unfold atI ixN
  simp
theorem ix1 {x y : D} {xs : List D} : atI (x :: y :: xs) 1 = some y := by
  unfold atI ixN
  simp only [List.length_cons]
  rw [if_pos (by decide), if_pos (by omega)]
  rfl
theorem at_in {ds : List D} {v : Int} (h0 : 0 ≤ v) (h1 : v < ds.length) : ∃ z, z ∈ ds ∧ atI ds v = some z := by
  have hk : v.toNat < ds.length := by omega
  refine ⟨ds[v.toNat], List.getElem_mem hk, ?_⟩
  exact (congrArg (atI ds) (show v = ((v.toNat : Nat) : Int) by omega)).trans (atI_nat (List.getElem?_eq_getElem hk))
def RowD (N : Int) (row : List D) : Prop := ∃ a n : Int, row = [.int a, .int n] ∧ 0 ≤ n ∧ n ≤ N
theorem RowD.mono {M N : Int} {row : List D} (h : RowD M row) (l : M ≤ N) : RowD N row := let ⟨a, n, e, h0, h1⟩ := h; ⟨a, n, e, h0, by omega⟩
def wf__law_cell_at : WF := fun ds row Ψ Ξ => ∃ (ns : List Int) (k : Int), ds = [.scr (ns.map .int), .int k] ∧ 0 ≤ k ∧ ∀ v : Int, Ψ (.val (.int v)) []
def wf__law_take : WF := fun ds row Ψ Ξ => ∃ (b N : Int), ds = [.int b] ∧ RowD N row ∧ N < 2 ^ 60 ∧ 0 < b ∧ b < 2 ^ 60 ∧ ∀ v row', 0 ≤ v → v < b → RowD (N + 1) row' → Ψ (.val (.int v)) row'
end Dt
namespace Dt
open PySem L2 Kx
section
variable {Γ : Gm} {d e : D} {ds : List D} {i j : Int} {n : Nat} {Ψ : R → Prop} {Ψb : Bool → Prop} {f : Int → Int → Int} {fb : Int → Int → Bool} {C : Int → Int → Prop} {k : Gm → Prop} {xs ys : List D} {x y : Str}
theorem hold_val : R.hold (.val d) = .val d := rfl
theorem hold_new : R.hold (.new ds) = .val (.lst ds) := rfl
theorem hold_slot : R.hold (.slot n) = .slot n := rfl
theorem I0_int : dI0 f (.int i) (.int j) Ψ = Ψ (.val (.int (f i j))) := propext ⟨fun ⟨_, _, e1, e2, h⟩ => by cases e1; cases e2; exact h, fun h => ⟨_, _, rfl, rfl, h⟩⟩
theorem I_int : dI C f (.int i) (.int j) Ψ = (C i j ∧ Ψ (.val (.int (f i j)))) := propext ⟨fun ⟨_, _, e1, e2, h⟩ => by cases e1; cases e2; exact h, fun h => ⟨_, _, rfl, rfl, h⟩⟩
theorem B_int : bI fb (.int i) (.int j) Ψb = Ψb (fb i j) := propext ⟨fun ⟨_, _, e1, e2, h⟩ => by cases e1; cases e2; exact h, fun h => ⟨_, _, rfl, rfl, h⟩⟩
theorem bod_eq {g : D → D → (Bool → Prop) → Prop} : bod g d e Ψ = g d e fun b => Ψ (.val (.bl b)) := rfl
theorem sc_int {f : Bool → Bool} : bSc f (.int i) (.int j) Ψb = Ψb (f (decide (i = j))) := propext ⟨fun ⟨_, e1, h⟩ => by cases e1; exact h, fun h => ⟨_, rfl, h⟩⟩
theorem sc_str {f : Bool → Bool} : bSc f (.str x) (.str y) Ψb = Ψb (f (decide (x = y))) := propext ⟨fun ⟨_, e1, h⟩ => by cases e1; exact h, fun h => ⟨_, rfl, h⟩⟩
theorem sc_bl {f : Bool → Bool} {a b : Bool} : bSc f (.bl a) (.bl b) Ψb = Ψb (f (decide (a = b))) := propext ⟨fun ⟨_, e1, h⟩ => by cases e1; exact h, fun h => ⟨_, rfl, h⟩⟩
theorem ix_lst : dIx (.lst ds) (.int i) Ψ = ∃ z, atI ds i = some z ∧ Ψ (.val z) := propext ⟨fun ⟨_, _, z, e1, e2, h⟩ => by rcases e1 with e1 | e1 <;> cases e1; cases e2; exact ⟨z, h⟩, fun ⟨z, h⟩ => ⟨_, _, z, .inl rfl, rfl, h⟩⟩
theorem ix_scr : dIx (.scr ds) (.int i) Ψ = ∃ z, atI ds i = some z ∧ Ψ (.val z) := propext ⟨fun ⟨_, _, z, e1, e2, h⟩ => by rcases e1 with e1 | e1 <;> cases e1; cases e2; exact ⟨z, h⟩, fun ⟨z, h⟩ => ⟨_, _, z, .inr rfl, rfl, h⟩⟩
theorem ix_tup : dIx (.tup ds) (.int i) Ψ = ∃ z, atI ds i = some z ∧ Ψ (.val z) := propext ⟨fun ⟨_, _, z, e1, e2, h⟩ => by cases e1; cases e2; exact ⟨z, h⟩, fun ⟨z, h⟩ => ⟨_, _, z, rfl, rfl, h⟩⟩
theorem ix_str : dIx (.str x) (.int i) Ψ = (x.length ≤ sizeLine ∧ ∃ c, atI x.cps.toList i = some c ∧ Ψ (.val (.str ⟨#[c]⟩))) := propext ⟨fun ⟨_, _, c, e1, e2, h1, h⟩ => by cases e1; cases e2; exact ⟨h1, c, h⟩, fun ⟨h1, c, h⟩ => ⟨_, _, c, rfl, rfl, h1, h⟩⟩
theorem len_lst : dLen [.lst ds] Ψ = Ψ (.val (.int (ds.length : Nat))) := propext ⟨fun ⟨_, e, h⟩ => by rcases e with e | e | e <;> cases e; exact h, fun h => ⟨_, .inl rfl, h⟩⟩
theorem len_tup : dLen [.tup ds] Ψ = Ψ (.val (.int (ds.length : Nat))) := propext ⟨fun ⟨_, e, h⟩ => by rcases e with e | e | e <;> cases e; exact h, fun h => ⟨_, .inr (.inl rfl), h⟩⟩
theorem len_scr : dLen [.scr ds] Ψ = Ψ (.val (.int (ds.length : Nat))) := propext ⟨fun ⟨_, e, h⟩ => by rcases e with e | e | e <;> cases e; exact h, fun h => ⟨_, .inr (.inr rfl), h⟩⟩
theorem len_str : dLenS [.str x] Ψ = (x.length ≤ sizeLine ∧ Ψ (.val (.int (x.length : Nat)))) := propext ⟨fun ⟨_, e, h⟩ => by cases e; exact h, fun h => ⟨_, rfl, h⟩⟩
theorem one_int {f : Int → Int} : d1I f [.int i] Ψ = Ψ (.val (.int (f i))) := propext ⟨fun ⟨_, e, h⟩ => by cases e; exact h, fun h => ⟨_, rfl, h⟩⟩
theorem two_int : d2I f [.int i, .int j] Ψ = Ψ (.val (.int (f i j))) := propext ⟨fun ⟨_, _, e, h⟩ => by cases e; exact h, fun h => ⟨_, _, rfl, h⟩⟩
theorem isi_eq {T : String} : dIsi [d, .ty T] Ψ = ∃ b, d.isi T = some b ∧ Ψ (.val (.bl b)) := propext ⟨fun ⟨_, _, b, e, h⟩ => by cases e; exact ⟨b, h⟩, fun ⟨b, h⟩ => ⟨_, _, b, rfl, h⟩⟩
theorem in_tup {neg : Bool} : bIn neg d (.tup ds) Ψb = (d.flat = true ∧ ds.all D.flat = true ∧ Ψb (if neg then !inV d.v (ds.map D.v) else inV d.v (ds.map D.v))) := propext ⟨fun ⟨_, e, h⟩ => by rcases e with e | e <;> cases e; exact h, fun h => ⟨_, .inr rfl, h⟩⟩
theorem in_lst {neg : Bool} : bIn neg d (.lst ds) Ψb = (d.flat = true ∧ ds.all D.flat = true ∧ Ψb (if neg then !inV d.v (ds.map D.v) else inV d.v (ds.map D.v))) := propext ⟨fun ⟨_, e, h⟩ => by rcases e with e | e <;> cases e; exact h, fun h => ⟨_, .inl rfl, h⟩⟩
theorem addS_str : dAddS (.str x) (.str y) Ψ = (x.length + y.length ≤ sizeLine ∧ Ψ (.val (.str (x ++ y)))) := propext ⟨fun ⟨_, _, e1, e2, h⟩ => by cases e1; cases e2; exact h, fun h => ⟨_, _, rfl, rfl, h⟩⟩
theorem cat_lst : dCat (.lst xs) (.lst ys) Ψ = (xs.length + ys.length ≤ sizeLine ∧ Ψ (.new (xs ++ ys))) := propext ⟨fun ⟨_, _, e1, e2, h⟩ => by cases e1; cases e2; exact h, fun h => ⟨_, _, rfl, rfl, h⟩⟩
theorem neg_int : (∃ i', D.int i = D.int i' ∧ Ψ (.val (.int (-i')))) = Ψ (.val (.int (-i))) := propext ⟨fun ⟨_, e, h⟩ => by cases e; exact h, fun h => ⟨_, rfl, h⟩⟩
theorem ix2 {x y z : D} : atI (x :: y :: z :: xs) 2 = some z := by
  unfold atI ixN
  simp only [List.length_cons]
  rw [if_pos (by decide), if_pos (by omega)]
  rfl
theorem list_lst : dList [.lst ds] Ψ = Ψ (.new ds) := propext ⟨fun ⟨_, _, e, e1, h⟩ => by cases e; rcases e1 with e1 | e1 | e1 <;> cases e1; exact h, fun h => ⟨_, _, rfl, .inl rfl, h⟩⟩
theorem list_tup : dList [.tup ds] Ψ = Ψ (.new ds) := propext ⟨fun ⟨_, _, e, e1, h⟩ => by cases e; rcases e1 with e1 | e1 | e1 <;> cases e1; exact h, fun h => ⟨_, _, rfl, .inr (.inl rfl), h⟩⟩
theorem sl_lst {lo hi : Option Int} : dSlL (.lst ds) lo hi Ψ = Ψ (.new (cutD ds lo hi)) := propext ⟨fun ⟨_, e, h⟩ => by cases e; exact h, fun h => ⟨_, rfl, h⟩⟩
theorem sl_str' {lo hi : Option Int} : dSlS (.str x) lo hi Ψ = (x.length ≤ sizeLine ∧ Ψ (.val (.str (cutS x lo hi)))) := propext ⟨fun ⟨_, e, h⟩ => by cases e; exact h, fun h => ⟨_, rfl, h⟩⟩
theorem isN_non {f : Bool → Bool} : bIsN f d .non Ψb = Ψb (f d.isN) := propext ⟨fun ⟨_, h⟩ => h, fun h => ⟨rfl, h⟩⟩
end
end Dt
set_option Elab.async false
set_option linter.all false
set_option maxRecDepth 100000
set_option autoImplicit false
namespace Dt
open PySem L2 Kx
structure Tg {α : Sort _} (a : α) : Type where
def getR (Γ : Gm) (r : R) (k : D → Prop) : Prop := ∃ d, r.at Γ = some d ∧ k d
def blR (Γ : Gm) (r : R) (k : Bool → Prop) : Prop := ∃ d, r.at Γ = some (.bl d) ∧ k d
def intR (Γ : Gm) (r : R) (k : Int → Prop) : Prop := ∃ d, r.at Γ = some (.int d) ∧ k d
def strR (Γ : Gm) (r : R) (k : Str → Prop) : Prop := ∃ d, r.at Γ = some (.str d) ∧ k d
def frzR (Γ : Gm) (r : R) (k : D → Gm → Prop) : Prop := ∃ d Γ', frz Γ r = some (d, Γ') ∧ k d Γ'
def atsR (Γ : Gm) (rs : List R) (k : List D → Prop) : Prop := ∃ ds, ats Γ rs = some ds ∧ k ds
def frzLR (Γ : Gm) (rs : List R) (k : List D → Gm → Prop) : Prop := ∃ ds Γ', frzL Γ rs = some (ds, Γ') ∧ k ds Γ'
def ownR (Γ : Gm) (i : Nat) (k : List D → Prop) : Prop := ∃ ds, Γ[i]? = some (some (En.own ds)) ∧ k ds
def shrR (Γ : Gm) (i : Nat) (k : D → Prop) : Prop := ∃ d, Γ[i]? = some (some (En.shr d)) ∧ k d
def anyR (Γ : Gm) (i : Nat) (P : Prop) : Prop := (∃ e, Γ[i]? = some (some (e : En))) ∧ P
def ixR (n : Nat) (i : Int) (k : Nat → Prop) : Prop := ∃ j, ixN n i = some j ∧ k j
def atR (ds : List D) (i : Int) (k : D → Prop) : Prop := ∃ z, atI ds i = some z ∧ k z
def iteR (b : Bool) (P Q : Prop) (_ : Tg P := ⟨⟩) (_ : Tg Q := ⟨⟩) : Prop := if b = true then P else Q
theorem iteR_true {P Q : Prop} : iteR true P Q = P := rfl
theorem iteR_false {P Q : Prop} : iteR false P Q = Q := rfl
theorem iteR_by {b : Bool} {P Q : Prop} (h : b = true → P) (h' : b = false → Q) : iteR b P Q := by
  cases b with
  | true => exact h rfl
  | false => exact h' rfl
def callR (wf : WF) (ds row : List D) (k : R → List D → Prop) (Ξ : XD → Prop) (_ : Tg k := ⟨⟩) : Prop := wf ds row k Ξ
def sideR (P Q : Prop) (_ : Tg Q := ⟨⟩) : Prop := P ∧ Q
theorem sideR_by {P Q : Prop} (h : P) (h' : P → Q) : sideR P Q := ⟨h, h' h⟩
theorem sideR_true {Q : Prop} : sideR True Q = Q := by unfold sideR; simp
def forB (ds : List D) (wg : WG) (u : WS) (Ψ : WEnds) (Γ : Gm) (_ : Tg (wg, u, Ψ) := ⟨⟩) : Prop := ∃ I : Nat → Gm → Prop, I 0 Γ ∧ (∀ i Γ d, I i Γ → ds[i]? = some d → wg d Γ fun Γ2 => u { Ψ with nx := I (i + 1), ct := I (i + 1), bk := Ψ.nx } Γ2) ∧ ∀ Γ, I ds.length Γ → Ψ.nx Γ
theorem forB_by {ds : List D} {wg : WG} {u : WS} {Ψ : WEnds} {Γ : Gm} (I : Nat → Gm → Prop) (h0 : I 0 Γ) (hs : ∀ i Γ d, ds[i]? = some d → I i Γ → wg d Γ fun Γ2 => u { Ψ with nx := I (i + 1), ct := I (i + 1), bk := Ψ.nx } Γ2) (hd : ∀ Γ, I ds.length Γ → Ψ.nx Γ) : forB ds wg u Ψ Γ := ⟨I, h0, fun i Γ d h1 h2 => hs i Γ d h2 h1, hd⟩
def lcB (ds : List D) (wg : WG) (wt : WT) (we : WE) (vs : List Nat) (Φ : R → Gm → Prop) (Γ1 : Gm) (_ : Tg (wg, wt, we, Φ) := ⟨⟩) : Prop := ds.length ≤ sizeLine ∧ ∃ I : Nat → List D → Gm → Prop, I 0 [] (wipeG Γ1 vs) ∧
  (∀ i acc Γ d, I i acc Γ → ds[i]? = some d → wg d Γ fun Γ2 => wt Γ2 (fun b Γ3 => iteR b (we Γ3 (fun r Γ4 => frzR Γ4 r fun y Γ5 => I (i + 1) (acc ++ [y]) (wipeG Γ5 vs)) (fun _ => False)) (I (i + 1) acc (wipeG Γ3 vs))) fun _ => False) ∧
  ∀ acc Γ, I ds.length acc Γ → Φ (.new acc) (rstG Γ1 Γ vs)
theorem lcB_by {ds : List D} {wg : WG} {wt : WT} {we : WE} {vs : List Nat} {Φ : R → Gm → Prop} {Γ : Gm} (I : Nat → List D → Gm → Prop) (hl : ds.length ≤ sizeLine) (h0 : I 0 [] (wipeG Γ vs))
    (hs : ∀ i acc Γ d, ds[i]? = some d → I i acc Γ → wg d Γ fun Γ2 => wt Γ2 (fun b Γ3 => iteR b (we Γ3 (fun r Γ4 => frzR Γ4 r fun y Γ5 => I (i + 1) (acc ++ [y]) (wipeG Γ5 vs)) (fun _ => False)) (I (i + 1) acc (wipeG Γ3 vs))) fun _ => False)
    (hd : ∀ acc Γ', I ds.length acc Γ' → Φ (.new acc) (rstG Γ Γ' vs)) : lcB ds wg wt we vs Φ Γ := ⟨hl, I, h0, fun i acc Γ d h1 h2 => hs i acc Γ d h2 h1, hd⟩
def goR (k : Gm → Prop) (Γ : Gm) (_ : Tg k := ⟨⟩) : Prop := k Γ
theorem goR_ap {k : Gm → Prop} {Γ : Gm} : goR k Γ = k Γ := rfl
def varM (o : Option (Option En)) (n : Nat) (k : R → Prop) (_ : Tg k := ⟨⟩) : Prop := match o with
  | some (some (.shr d)) => k (.val d)
  | some (some (.own _)) => k (.slot n)
  | _ => False
theorem varM_shr {d : D} {n : Nat} {k : R → Prop} : varM (some (some (.shr d))) n k = k (.val d) := rfl
theorem varM_own {ds : List D} {n : Nat} {k : R → Prop} : varM (some (some (.own ds))) n k = k (.slot n) := rfl
def getM (o : Option (Option En)) (k : D → Prop) (_ : Tg k := ⟨⟩) : Prop := match o with
  | some (some e) => k e.dat
  | _ => False
theorem getM_shr {d : D} {k : D → Prop} : getM (some (some (.shr d))) k = k d := rfl
theorem getM_own {ds : List D} {k : D → Prop} : getM (some (some (.own ds))) k = k (.lst ds) := rfl
def frzM (o : Option (Option En)) (n : Nat) (Γ : Gm) (k : D → Gm → Prop) (_ : Tg k := ⟨⟩) : Prop := match o with
  | some (some (.shr d)) => k d Γ
  | some (some (.own ds)) => goR (k (.lst ds)) (Γ.set n (some (.shr (.lst ds))))
  | _ => False
theorem frzM_shr {d : D} {n : Nat} {Γ : Gm} {k : D → Gm → Prop} : frzM (some (some (.shr d))) n Γ k = k d Γ := rfl
theorem frzM_own {ds : List D} {n : Nat} {Γ : Gm} {k : D → Gm → Prop} : frzM (some (some (.own ds))) n Γ k = goR (k (.lst ds)) (Γ.set n (some (.shr (.lst ds)))) := rfl
def ownM (o : Option (Option En)) (k : List D → Prop) (_ : Tg k := ⟨⟩) : Prop := match o with
  | some (some (.own ds)) => k ds
  | _ => False
theorem ownM_own {ds : List D} {k : List D → Prop} : ownM (some (some (.own ds))) k = k ds := rfl
def shrM (o : Option (Option En)) (k : D → Prop) (_ : Tg k := ⟨⟩) : Prop := match o with
  | some (some (.shr d)) => k d
  | _ => False
theorem shrM_shr {d : D} {k : D → Prop} : shrM (some (some (.shr d))) k = k d := rfl
def anyM (o : Option (Option En)) (P : Prop) (_ : Tg P := ⟨⟩) : Prop := match o with
  | some (some _) => P
  | _ => False
theorem anyM_some {e : En} {P : Prop} : anyM (some (some e)) P = P := rfl
def ixM (o : Option Nat) (k : Nat → Prop) (_ : Tg k := ⟨⟩) : Prop := ∃ j, o = some j ∧ k j
theorem ixM_some {j : Nat} {k : Nat → Prop} : ixM (some j) k = k j := propext ⟨fun ⟨_, e, h⟩ => by cases e; exact h, fun h => ⟨_, rfl, h⟩⟩
def atM (o : Option D) (k : D → Prop) (_ : Tg k := ⟨⟩) : Prop := ∃ j, o = some j ∧ k j
theorem atM_some {j : D} {k : D → Prop} : atM (some j) k = k j := propext ⟨fun ⟨_, e, h⟩ => by cases e; exact h, fun h => ⟨_, rfl, h⟩⟩
def boM (o : Option Bool) (k : Bool → Prop) (_ : Tg k := ⟨⟩) : Prop := ∃ j, o = some j ∧ k j
theorem boM_some {j : Bool} {k : Bool → Prop} : boM (some j) k = k j := propext ⟨fun ⟨_, e, h⟩ => by cases e; exact h, fun h => ⟨_, rfl, h⟩⟩
def chM (o : Option Nat) (k : Nat → Prop) (_ : Tg k := ⟨⟩) : Prop := ∃ j, o = some j ∧ k j
section
variable {Γ : Gm} {Φ : R → Gm → Prop} {Φb : Bool → Gm → Prop} {Φs : List R → Gm → Prop} {Φd : List D → Gm → Prop} {Φo : Option Int → Gm → Prop} {Ξ : XD → Prop} {Ψ : WEnds} {wa wb wc we wo w : WE} {w1 w2 wt : WT} {wA : WA} {u1 u2 : WS} {wg : WG} {wgs : WGs} {g : D → D → (R → Prop) → Prop} {gb gb' : D → D → (Bool → Prop) → Prop} {g1 : D → (R → Prop) → Prop} {gl : List D → (R → Prop) → Prop} {i j n : Nat} {d : D} {k : Gm → Prop} {wl wh : WO} {wI : WI} {io : Bool} {wf : WF} {gs : D → Option Int → Option Int → (R → Prop) → Prop} {gm : Str → D → (R → Prop) → Prop} {ds : List D} {r : R} {rs : List R} {vs : List Nat}
section
variable {kd : D → Prop} {kb : Bool → Prop} {ki : Int → Prop} {ks : Str → Prop} {kg : D → Gm → Prop} {kl : List D → Prop} {klg : List D → Gm → Prop} {kn : Nat → Prop} {z : Int} {b : Bool} {x : Str} {P : Prop}
theorem getR_val : getR Γ (.val d) kd = kd d := propext ⟨fun ⟨_, e, h⟩ => by cases e; exact h, fun h => ⟨_, rfl, h⟩⟩
theorem getR_new : getR Γ (.new ds) kd = kd (.lst ds) := propext ⟨fun ⟨_, e, h⟩ => by cases e; exact h, fun h => ⟨_, rfl, h⟩⟩
theorem getR_slot : getR Γ (.slot n) kd = getM Γ[n]? kd := by
  unfold getR getM
  rcases q : Γ[n]? with _ | _ | e
  · exact propext ⟨fun ⟨d, e, h⟩ => (by simp only [R.at, q] at e; cases e), fun h => h.elim⟩
  · exact propext ⟨fun ⟨d, e, h⟩ => (by simp only [R.at, q] at e; cases e), fun h => h.elim⟩
  · exact propext ⟨fun ⟨d, e', h⟩ => (by simp only [R.at, q] at e'; cases e'; exact h), fun h => ⟨_, by simp only [R.at, q], h⟩⟩
theorem blR_val : blR Γ (.val (.bl b)) kb = kb b := propext ⟨fun ⟨_, e, h⟩ => by cases e; exact h, fun h => ⟨_, rfl, h⟩⟩
theorem intR_val : intR Γ (.val (.int z)) ki = ki z := propext ⟨fun ⟨_, e, h⟩ => by cases e; exact h, fun h => ⟨_, rfl, h⟩⟩
theorem strR_val : strR Γ (.val (.str x)) ks = ks x := propext ⟨fun ⟨_, e, h⟩ => by cases e; exact h, fun h => ⟨_, rfl, h⟩⟩
theorem frzR_val : frzR Γ (.val d) kg = kg d Γ := propext ⟨fun ⟨_, _, e, h⟩ => by cases e; exact h, fun h => ⟨_, _, rfl, h⟩⟩
theorem frzR_new : frzR Γ (.new ds) kg = kg (.lst ds) Γ := propext ⟨fun ⟨_, _, e, h⟩ => by cases e; exact h, fun h => ⟨_, _, rfl, h⟩⟩
theorem frzR_slot : frzR Γ (.slot n) kg = frzM Γ[n]? n Γ kg := by
  unfold frzR frzM goR
  rcases q : Γ[n]? with _ | _ | (d | ds)
  · exact propext ⟨fun ⟨d, _, e, h⟩ => (by simp only [frz, q] at e; cases e), fun h => h.elim⟩
  · exact propext ⟨fun ⟨d, _, e, h⟩ => (by simp only [frz, q] at e; cases e), fun h => h.elim⟩
  · exact propext ⟨fun ⟨d, _, e', h⟩ => (by simp only [frz, q] at e'; cases e'; exact h), fun h => ⟨_, _, by simp only [frz, q], h⟩⟩
  · exact propext ⟨fun ⟨d, _, e', h⟩ => (by simp only [frz, q] at e'; cases e'; exact h), fun h => ⟨_, _, by simp only [frz, q], h⟩⟩
theorem atsR_nil : atsR Γ [] kl = kl [] := propext ⟨fun ⟨_, e, h⟩ => by cases e; exact h, fun h => ⟨_, rfl, h⟩⟩
theorem atsR_cons : atsR Γ (r :: rs) kl = getR Γ r fun d => atsR Γ rs fun ds => kl (d :: ds) := by
  refine propext ⟨fun ⟨ds, e, h⟩ => ?_, fun ⟨d, e1, ds, e2, h⟩ => ⟨d :: ds, by simp only [ats, e1, e2], h⟩⟩
  unfold ats at e
  split at e
  · rename_i d ds' e1 e2
    cases e
    exact ⟨d, e1, ds', e2, h⟩
  · cases e
theorem frzLR_nil : frzLR Γ [] klg = klg [] Γ := propext ⟨fun ⟨_, _, e, h⟩ => by cases e; exact h, fun h => ⟨_, _, rfl, h⟩⟩
theorem frzLR_cons : frzLR Γ (r :: rs) klg = frzR Γ r fun d Γ1 => frzLR Γ1 rs fun ds Γ2 => klg (d :: ds) Γ2 := by
  refine propext ⟨fun ⟨ds, Γ', e, h⟩ => ?_, fun ⟨d, Γ1, e1, ds, Γ2, e2, h⟩ => ⟨d :: ds, Γ2, by simp only [frzL, e1, e2], h⟩⟩
  unfold frzL at e
  split at e
  · rename_i d Γ1 e1
    split at e
    · rename_i ds' Γ2 e2
      cases e
      exact ⟨d, Γ1, e1, _, _, e2, h⟩
    · cases e
  · cases e
theorem ownR_ap : ownR Γ n kl = ownM Γ[n]? kl := by
  unfold ownR ownM
  refine propext ⟨fun ⟨d, e, h⟩ => by rw [e]; exact h, fun h => ?_⟩
  split at h
  · exact ⟨_, by assumption, h⟩
  · exact h.elim
theorem shrR_ap : shrR Γ n kd = shrM Γ[n]? kd := by
  unfold shrR shrM
  refine propext ⟨fun ⟨d, e, h⟩ => by rw [e]; exact h, fun h => ?_⟩
  split at h
  · exact ⟨_, by assumption, h⟩
  · exact h.elim
theorem anyR_ap : anyR Γ n P = anyM Γ[n]? P := by
  unfold anyR anyM
  refine propext ⟨fun ⟨⟨d, e⟩, h⟩ => by rw [e]; exact h, fun h => ?_⟩
  split at h
  · exact ⟨⟨_, by assumption⟩, h⟩
  · exact h.elim
theorem ixR_ap {m : Nat} : ixR m z kn = ixM (ixN m z) kn := rfl
theorem atR_ap : atR ds z kd = atM (atI ds z) kd := rfl
theorem var_ap : wVar n Γ Φ Ξ = varM Γ[n]? n fun r => Φ r Γ := by
  unfold wVar varM
  refine propext ⟨fun ⟨e, he, h⟩ => ?_, fun h => ?_⟩
  · rw [he]
    cases e <;> exact h
  · split at h
    · exact ⟨.shr _, by assumption, h⟩
    · exact ⟨.own _, by assumption, h⟩
    · exact h.elim
end
theorem C_ap : wC d Γ Φ Ξ = Φ (.val d) Γ := rfl
theorem op_ap : wOp g wa wb Γ Φ Ξ = wa Γ (fun r1 Γ1 => wb Γ1 (fun r2 Γ2 => getR Γ2 r1 fun d1 => getR Γ2 r2 fun d2 => g d1 d2 fun r => Φ r Γ2) Ξ) Ξ := by
  unfold wOp getR
  simp only [exists_and_left]
theorem un_ap : wUn g1 wa Γ Φ Ξ = wa Γ (fun r1 Γ1 => getR Γ1 r1 fun d1 => g1 d1 fun r => Φ r Γ1) Ξ := rfl
theorem B_ap : wB w Γ Φb Ξ = w Γ (fun r Γ1 => blR Γ1 r fun b => Φb b Γ1) Ξ := rfl
theorem cmp_ap : wCmp gb wa wb Γ Φb Ξ = wa Γ (fun r1 Γ1 => wb Γ1 (fun r2 Γ2 => getR Γ2 r1 fun d1 => getR Γ2 r2 fun d2 => gb d1 d2 fun b => Φb b Γ2) Ξ) Ξ := by
  unfold wCmp getR
  simp only [exists_and_left]
theorem not_ap : wNot w1 Γ Φb Ξ = w1 Γ (fun b Γ1 => Φb (!b) Γ1) Ξ := rfl
theorem and_ap : wAnd w1 w2 Γ Φb Ξ = w1 Γ (fun b Γ1 => iteR b (w2 Γ1 Φb Ξ) (Φb false Γ1)) Ξ := rfl
theorem or_ap : wOr w1 w2 Γ Φb Ξ = w1 Γ (fun b Γ1 => iteR b (Φb true Γ1) (w2 Γ1 Φb Ξ)) Ξ := rfl
theorem if_ap : wIf w1 wa wb Γ Φ Ξ = w1 Γ (fun b Γ1 => iteR b (wa Γ1 Φ Ξ) (wb Γ1 Φ Ξ)) Ξ := rfl
theorem andV_ap : wAndV wa wb Γ Φ Ξ = wa Γ (fun r Γ1 => blR Γ1 r fun c => iteR c (wb Γ1 Φ Ξ) (Φ (.val (.bl false)) Γ1)) Ξ := rfl
theorem orV_ap : wOrV wa wb Γ Φ Ξ = wa Γ (fun r Γ1 => blR Γ1 r fun c => iteR c (Φ (.val (.bl true)) Γ1) (wb Γ1 Φ Ξ)) Ξ := rfl
theorem notV_ap : wNotV wa Γ Φ Ξ = wa Γ (fun r Γ1 => blR Γ1 r fun c => Φ (.val (.bl (!c))) Γ1) Ξ := rfl
theorem chain_ap : wChain gb gb' wa wb wc Γ Φ Ξ = wa Γ (fun r1 Γ1 => wb Γ1 (fun r2 Γ2 => getR Γ2 r1 fun d1 => getR Γ2 r2 fun d2 => gb d1 d2 fun b => iteR b (wc Γ2 (fun r3 Γ3 => getR Γ3 r2 fun d2 => getR Γ3 r3 fun d3 => gb' d2 d3 fun b => Φ (.val (.bl b)) Γ3) Ξ) (Φ (.val (.bl false)) Γ2)) Ξ) Ξ := by
  unfold wChain getR iteR
  simp only [exists_and_left]
theorem nil_ap : wANil Γ Φs Ξ = Φs [] Γ := rfl
theorem cons_ap : wACons w wA Γ Φs Ξ = w Γ (fun r Γ1 => wA Γ1 (fun rs Γ2 => Φs (r.hold :: rs) Γ2) Ξ) Ξ := rfl
theorem cb_ap : wCB gl wA Γ Φ Ξ = wA Γ (fun rs Γ1 => atsR Γ1 rs fun ds => gl ds fun r => Φ r Γ1) Ξ := rfl
theorem tup_ap : wTup wA Γ Φ Ξ = wA Γ (fun rs Γ1 => frzLR Γ1 rs fun ds Γ2 => sideR (ds.length ≤ sizeLine) (Φ (.val (.tup ds)) Γ2)) Ξ := rfl
theorem lst_ap : wLst wA Γ Φ Ξ = wA Γ (fun rs Γ1 => frzLR Γ1 rs fun ds Γ2 => sideR (ds.length ≤ sizeLine) (Φ (.new ds) Γ2)) Ξ := rfl
theorem call_ap : wCall io wf wA Γ Φ Ξ = wA Γ (fun rs Γ1 => callW io wf rs Γ1 Φ Ξ) Ξ := rfl
theorem callF : callW false wf rs Γ Φ Ξ = frzLR Γ rs fun ds Γ1 => callR wf ds [] (fun r _ => Φ r Γ1) Ξ := rfl
theorem callT : callW true wf (.slot i :: rs) Γ Φ Ξ = frzLR Γ rs fun ds Γ1 => ownR Γ1 i fun row => callR wf ds row (fun r row' => goR (Φ r) (Γ1.set i (some (.own row')))) fun _ => False :=
  propext ⟨fun ⟨_, _, ds, Γ1, row, e, h, h1, h2⟩ => by cases e; exact ⟨ds, Γ1, h, row, h1, h2⟩, fun ⟨ds, Γ1, h, row, h1, h2⟩ => ⟨_, _, ds, Γ1, row, rfl, h, h1, h2⟩⟩
theorem sl_ap : wSl gs w wl wh Γ Φ Ξ = w Γ (fun r1 Γ1 => wl Γ1 (fun lo Γ2 => wh Γ2 (fun hi Γ3 => getR Γ3 r1 fun d => gs d lo hi fun r => Φ r Γ3) Ξ) Ξ) Ξ := rfl
theorem noP_ap : wNoP Γ Φo Ξ = Φo none Γ := rfl
theorem prt_ap : wPrt w Γ Φo Ξ = w Γ (fun r Γ1 => intR Γ1 r fun i => Φo (some i) Γ1) Ξ := rfl
theorem m1_ap : wM1 gm wo we Γ Φ Ξ = wo Γ (fun r1 Γ1 => strR Γ1 r1 fun a => we Γ1 (fun r2 Γ2 => getR Γ2 r2 fun d2 => gm a d2 fun r => Φ r Γ2) Ξ) Ξ := rfl
theorem rev_ap : wRev i Γ Φ Ξ = ownR Γ i fun ds => goR (Φ (.val .non)) (Γ.set i (some (.own ds.reverse))) := rfl
theorem clr_ap : wClr i Γ Φ Ξ = ownR Γ i fun ds => goR (Φ (.val .non)) (Γ.set i (some (.own []))) := rfl
theorem app_ap : wApp i we Γ Φ Ξ = ownR Γ i fun _ => we Γ (fun r Γ1 => frzR Γ1 r fun d Γ2 => ownR Γ2 i fun ds => sideR (ds.length < sizeLine) (goR (Φ (.val .non)) (Γ2.set i (some (.own (ds ++ [d])))))) Ξ := by
  unfold wApp ownR frzR sideR goR
  simp only [exists_and_left]
theorem seq_ap : wSeq u1 u2 Ψ Γ = u1 { Ψ with nx := u2 Ψ } Γ := rfl
theorem next_ap : wNext Ψ Γ = Ψ.nx Γ := rfl
theorem brk_ap : wBreak Ψ Γ = Ψ.bk Γ := rfl
theorem cnt_ap : wCont Ψ Γ = Ψ.ct Γ := rfl
theorem drop_ap : wDrop w Ψ Γ = w Γ (fun _ Γ1 => Ψ.nx Γ1) Ψ.xe := rfl
theorem ret_ap : wRet w Ψ Γ = w Γ Ψ.rt Ψ.xe := rfl
theorem retN_ap : wRetN Ψ Γ = Ψ.rt (.val .non) Γ := rfl
theorem ifS_ap : wIfS w1 u1 u2 Ψ Γ = w1 Γ (fun b Γ1 => iteR b (u1 Ψ Γ1) (u2 Ψ Γ1)) Ψ.xe := rfl
theorem set_ap : wSet i w Ψ Γ = w Γ (fun r Γ1 => putW i r Γ1 Ψ.nx) Ψ.xe := rfl
theorem asg_ap : wAsg w wg Ψ Γ = w Γ (fun r Γ1 => frzR Γ1 r fun d Γ2 => wg d Γ2 Ψ.nx) Ψ.xe := rfl
theorem gN_ap : wgName i d Γ k = goR k (Γ.set i (some (.shr d))) := rfl
theorem gT_ap : wgTup n wgs (.tup ds) Γ k = sideR (ds.length = n) (wgs ds Γ k) := propext ⟨fun ⟨_, e, h⟩ => by cases e; exact h, fun h => ⟨_, rfl, h⟩⟩
theorem g0_ap : wgNil [] Γ k = k Γ := propext ⟨fun h => h.2, fun h => ⟨rfl, h⟩⟩
theorem g1_ap : wgCons wg wgs (d :: ds) Γ k = wg d Γ (fun Γ1 => wgs ds Γ1 k) := propext ⟨fun ⟨_, _, e, h⟩ => by cases e; exact h, fun h => ⟨_, _, rfl, h⟩⟩
theorem putAt_ap {wk : WE} : wPutAt i w wk Ψ Γ = w Γ (fun r Γ1 => frzR Γ1 r fun d Γ2 => anyR Γ2 i (wk Γ2 (fun rk Γ3 => intR Γ3 rk fun k => ownR Γ3 i fun ds => ixR ds.length k fun j => goR Ψ.nx (Γ3.set i (some (.own (ds.set j d))))) Ψ.xe)) Ψ.xe := by
  unfold wPutAt goR frzR anyR intR ownR ixR
  simp only [exists_and_left, exists_and_right]
theorem par_ap : wPar i j wA Ψ Γ = wA Γ (fun rs Γ1 => frzLR Γ1 rs fun ds Γ2 => match ds with | [d, e] => goR Ψ.nx ((Γ2.set i (some (.shr d))).set j (some (.shr e))) | _ => False) Ψ.xe := by
  unfold wPar frzLR
  congr 1
  funext rs Γ1
  refine propext ⟨fun ⟨d, e, Γ2, h, q⟩ => ⟨_, _, h, q⟩, fun ⟨ds, Γ2, h, q⟩ => ?_⟩
  dsimp only at q
  split at q
  · exact ⟨_, _, _, h, q⟩
  · exact q.elim
theorem aug_ap : wAug i w g Ψ Γ = shrR Γ i fun d => w Γ (fun r Γ1 => getR Γ1 r fun e => g d e fun r => putW i r Γ1 Ψ.nx) Ψ.xe := rfl
theorem augAt_ap {wk : WE} : wAugAt i wk w g Ψ Γ = anyR Γ i (wk Γ (fun rk Γ1 => intR Γ1 rk fun k => ownR Γ1 i fun ds => ixR ds.length k fun j => ∃ d, ds[j]? = some d ∧ w Γ1 (fun r Γ2 => getR Γ2 r fun e => ownR Γ2 i fun ds2 => sideR (ds2.length = ds.length) (g d e fun r => ∃ z, r = .val z ∧ goR Ψ.nx (Γ2.set i (some (.own (ds2.set j z)))))) Ψ.xe) Ψ.xe) := by
  unfold wAugAt goR anyR intR ownR ixR getR sideR
  simp only [exists_and_left, exists_and_right]
theorem il_ap : wIList w Γ Φd Ξ = w Γ (fun r Γ1 => frzR Γ1 r fun d Γ2 => match d with | .lst ds => Φd ds Γ2 | _ => False) Ξ := by
  unfold wIList frzR
  congr 1
  funext r Γ1
  refine propext ⟨fun ⟨ds, Γ2, h, q⟩ => ⟨_, _, h, q⟩, fun ⟨d, Γ2, h, q⟩ => ?_⟩
  dsimp only at q
  split at q
  · exact ⟨_, _, h, q⟩
  · exact q.elim
theorem it_ap : wITup w Γ Φd Ξ = w Γ (fun r Γ1 => frzR Γ1 r fun d Γ2 => match d with | .tup ds => Φd ds Γ2 | _ => False) Ξ := by
  unfold wITup frzR
  congr 1
  funext r Γ1
  refine propext ⟨fun ⟨ds, Γ2, h, q⟩ => ⟨_, _, h, q⟩, fun ⟨d, Γ2, h, q⟩ => ?_⟩
  dsimp only at q
  split at q
  · exact ⟨_, _, h, q⟩
  · exact q.elim
theorem ir1_ap : wIRng1 wA Γ Φd Ξ = wA Γ (fun rs Γ1 => atsR Γ1 rs fun ds => match ds with | [.int j] => sideR (-(2 ^ 62) ≤ j ∧ j < 2 ^ 62) (Φd (rng 0 j.toNat) Γ1) | _ => False) Ξ := by
  unfold wIRng1 atsR
  congr 1
  funext rs Γ1
  refine propext ⟨fun ⟨j, h, q⟩ => ⟨_, h, q⟩, fun ⟨ds, h, q⟩ => ?_⟩
  dsimp only at q
  split at q
  · exact ⟨_, h, q⟩
  · exact q.elim
theorem ir2_ap : wIRng2 wA Γ Φd Ξ = wA Γ (fun rs Γ1 => atsR Γ1 rs fun ds => match ds with | [.int i, .int j] => Φd (rng i (j - i).toNat) Γ1 | _ => False) Ξ := by
  unfold wIRng2 atsR
  congr 1
  funext rs Γ1
  refine propext ⟨fun ⟨i, j, h, q⟩ => ⟨_, h, q⟩, fun ⟨ds, h, q⟩ => ?_⟩
  dsimp only at q
  split at q
  · exact ⟨_, _, h, q⟩
  · exact q.elim
theorem is_ap : wIStr w Γ Φd Ξ = w Γ (fun r Γ1 => strR Γ1 r fun x => Φd (chs x) Γ1) Ξ := rfl
theorem ie_ap : wIEnum wA Γ Φd Ξ = wA Γ (fun rs Γ1 => frzLR Γ1 rs fun ds Γ2 => match ds with | [.lst es] => Φd (enu es) Γ2 | _ => False) Ξ := by
  unfold wIEnum frzLR
  congr 1
  funext rs Γ1
  refine propext ⟨fun ⟨ds, Γ2, h, q⟩ => ⟨_, _, h, q⟩, fun ⟨ds, Γ2, h, q⟩ => ?_⟩
  dsimp only at q
  split at q
  · exact ⟨_, _, h, q⟩
  · exact q.elim
theorem iz_ap : wIZip wA Γ Φd Ξ = wA Γ (fun rs Γ1 => frzLR Γ1 rs fun ds Γ2 => match ds with | [.lst es, .lst fs] => Φd (zp es fs) Γ2 | _ => False) Ξ := by
  unfold wIZip frzLR
  congr 1
  funext rs Γ1
  refine propext ⟨fun ⟨ds, es, Γ2, h, q⟩ => ⟨_, _, h, q⟩, fun ⟨ds, Γ2, h, q⟩ => ?_⟩
  dsimp only at q
  split at q
  · exact ⟨_, _, _, h, q⟩
  · exact q.elim
theorem for_ap : wFor wI wg u1 Ψ Γ = wI Γ (fun ds Γ1 => forB ds wg u1 Ψ Γ1) Ψ.xe := rfl
theorem lc_ap : wLc wI wg wt we vs Γ Φ Ξ = wI Γ (fun ds Γ1 => lcB ds wg wt we vs Φ Γ1) Ξ := rfl
def lcO (s : Nat) (ds : List D) (wg : WG) (wt : WT) (we : WE) (vs : List Nat) (Φ : R → Gm → Prop) (Γ1 : Gm) (_ : Tg (wg, wt, we, Φ) := ⟨⟩) : Prop := ds.length ≤ sizeLine ∧ ∃ I : Nat → List D → Gm → Prop, I 0 [] (wipeG Γ1 vs) ∧ (∀ i acc Γ, I i acc Γ → Γ[s]? = some (some (En.own ds))) ∧
  (∀ i acc Γ d, I i acc Γ → ds[i]? = some d → wg d Γ fun Γ2 => wt Γ2 (fun b Γ3 => iteR b (we Γ3 (fun r Γ4 => frzR Γ4 r fun y Γ5 => I (i + 1) (acc ++ [y]) (wipeG Γ5 vs)) (fun _ => False)) (I (i + 1) acc (wipeG Γ3 vs))) fun _ => False) ∧
  ∀ acc Γ, I ds.length acc Γ → Φ (.new acc) (rstG Γ1 Γ vs)
theorem lcO_ap {s : Nat} : wLcO s wg wt we vs Γ Φ Ξ = ownR Γ s fun ds => lcO s ds wg wt we vs Φ Γ := rfl
theorem startT {row : List D} : startW true n ds row = some (.own row) :: (ds.map fun d => some (.shr d)) ++ List.replicate (n - (ds.length + 1)) none := rfl
theorem startF {row : List D} : startW false n ds row = (ds.map fun d => some (.shr d)) ++ List.replicate (n - ds.length) none := rfl
variable {F : R → List D → Prop}
theorem end_rt : (endsW io F Ξ).rt r Γ = retW io F r Γ := rfl
theorem end_nx : (endsW io F Ξ).nx Γ = retW io F (.val .non) Γ := rfl
theorem end_xe : (endsW io F Ξ).xe = Ξ := rfl
theorem retT_val : retW true F (.val d) Γ = ownR Γ 0 fun row => F (.val d) row := propext ⟨fun ⟨r', h, row, h1, h2⟩ => by cases h; exact ⟨row, h1, h2⟩, fun ⟨row, h1, h2⟩ => ⟨_, rfl, row, h1, h2⟩⟩
theorem retT_new : retW true F (.new ds) Γ = ownR Γ 0 fun row => F (.new ds) row := propext ⟨fun ⟨r', h, row, h1, h2⟩ => by cases h; exact ⟨row, h1, h2⟩, fun ⟨row, h1, h2⟩ => ⟨_, rfl, row, h1, h2⟩⟩
theorem retF_val : retW false F (.val d) Γ = F (.val d) [] := propext ⟨fun ⟨r', h, h1⟩ => by cases h; exact h1, fun h1 => ⟨_, rfl, h1⟩⟩
theorem retF_new : retW false F (.new ds) Γ = F (.new ds) [] := propext ⟨fun ⟨r', h, h1⟩ => by cases h; exact h1, fun h1 => ⟨_, rfl, h1⟩⟩
theorem toN_own (h0 : ¬ (io = true ∧ i = 0)) (h : Γ[i]? = some (some (.own ds))) : toN io Γ (.slot i) = some (.new ds) := by simp only [toN, h0, if_false, h]
theorem toN_shr (h0 : ¬ (io = true ∧ i = 0)) (h : Γ[i]? = some (some (.shr d))) : toN io Γ (.slot i) = some (.val d) := by simp only [toN, h0, if_false, h]
def retM (o : Option (Option En)) (k : R → Prop) (_ : Tg k := ⟨⟩) : Prop := match o with
  | some (some (.shr d)) => k (.val d)
  | some (some (.own ds)) => k (.new ds)
  | _ => False
theorem retM_shr {kr : R → Prop} : retM (some (some (.shr d))) kr = kr (.val d) := rfl
theorem retM_own {kr : R → Prop} : retM (some (some (.own ds))) kr = kr (.new ds) := rfl
theorem retF_slot : retW false F (.slot i) Γ = retM Γ[i]? fun r => F r [] := by
  unfold retW retM
  have h0 : ¬ (false = true ∧ i = 0) := fun z => by cases z.1
  rcases q : Γ[i]? with _ | _ | (d | ds)
  · exact propext ⟨fun ⟨d, e, h⟩ => (by simp only [toN, q, h0, if_false] at e; cases e), fun h => h.elim⟩
  · exact propext ⟨fun ⟨d, e, h⟩ => (by simp only [toN, q, h0, if_false] at e; cases e), fun h => h.elim⟩
  · exact propext ⟨fun ⟨d, e, h⟩ => (by simp only [toN, q, h0, if_false] at e; cases e; exact h), fun h => ⟨_, by simp only [toN, q, h0, if_false], h⟩⟩
  · exact propext ⟨fun ⟨d, e, h⟩ => (by simp only [toN, q, h0, if_false] at e; cases e; exact h), fun h => ⟨_, by simp only [toN, q, h0, if_false], h⟩⟩
theorem retT_slot : retW true F (.slot (i + 1)) Γ = retM Γ[i + 1]? fun r => ownR Γ 0 fun row => F r row := by
  unfold retW retM ownR
  have h0 : ¬ (true = true ∧ i + 1 = 0) := fun z => by cases z.2
  rcases q : Γ[i + 1]? with _ | _ | (d | ds)
  · exact propext ⟨fun ⟨d, e, h⟩ => (by simp only [toN, q, h0, if_false] at e; cases e), fun h => h.elim⟩
  · exact propext ⟨fun ⟨d, e, h⟩ => (by simp only [toN, q, h0, if_false] at e; cases e), fun h => h.elim⟩
  · exact propext ⟨fun ⟨d, e, h⟩ => (by rw [toN_shr h0 q] at e; cases e; exact h), fun h => ⟨_, toN_shr h0 q, h⟩⟩
  · exact propext ⟨fun ⟨d, e, h⟩ => (by rw [toN_own h0 q] at e; cases e; exact h), fun h => ⟨_, toN_own h0 q, h⟩⟩
theorem put_val' : putW n (.val d) Γ k = goR k (Γ.set n (some (.shr d))) := rfl
theorem put_new' : putW n (.new ds) Γ k = goR k (Γ.set n (some (.own ds))) := rfl
theorem put_slot : putW i (.slot j) Γ k = frzM Γ[j]? j Γ fun d Γ1 => goR k (Γ1.set i (some (.shr d))) := frzR_slot (Γ := Γ) (n := j) (kg := fun d Γ1 => k (Γ1.set i (some (.shr d))))
end
section
variable {Γ : Gm} {d e : D} {ds xs ys : List D} {i j : Int} {n : Nat} {Ψ : R → Prop} {Ψb : Bool → Prop} {f : Int → Int → Int} {C : Int → Int → Prop} {x y : Str} {neg : Bool}
theorem I_ap : dI C f (.int i) (.int j) Ψ = sideR (C i j) (Ψ (.val (.int (f i j)))) := I_int
theorem dx_lst : dIx (.lst ds) (.int i) Ψ = atR ds i fun z => Ψ (.val z) := ix_lst
theorem dx_scr : dIx (.scr ds) (.int i) Ψ = atR ds i fun z => Ψ (.val z) := ix_scr
theorem dx_tup : dIx (.tup ds) (.int i) Ψ = atR ds i fun z => Ψ (.val z) := ix_tup
theorem dx_str : dIx (.str x) (.int i) Ψ = sideR (x.length ≤ sizeLine) (chM (atI x.cps.toList i) fun c => Ψ (.val (.str ⟨#[c]⟩))) := ix_str
theorem dlen_str : dLenS [.str x] Ψ = sideR (x.length ≤ sizeLine) (Ψ (.val (.int (x.length : Nat)))) := len_str
theorem din_tup : bIn neg d (.tup ds) Ψb = sideR (d.flat = true ∧ ds.all D.flat = true) (Ψb (if neg then !inV d.v (ds.map D.v) else inV d.v (ds.map D.v))) := by rw [in_tup]; unfold sideR; rw [and_assoc]
theorem din_lst : bIn neg d (.lst ds) Ψb = sideR (d.flat = true ∧ ds.all D.flat = true) (Ψb (if neg then !inV d.v (ds.map D.v) else inV d.v (ds.map D.v))) := by rw [in_lst]; unfold sideR; rw [and_assoc]
theorem daddS : dAddS (.str x) (.str y) Ψ = sideR (x.length + y.length ≤ sizeLine) (Ψ (.val (.str (x ++ y)))) := addS_str
theorem dcat : dCat (.lst xs) (.lst ys) Ψ = sideR (xs.length + ys.length ≤ sizeLine) (Ψ (.new (xs ++ ys))) := cat_lst
theorem dsl_str {lo hi : Option Int} : dSlS (.str x) lo hi Ψ = sideR (x.length ≤ sizeLine) (Ψ (.val (.str (cutS x lo hi)))) := sl_str'
theorem isi_ap {T : String} : dIsi [d, .ty T] Ψ = boM (d.isi T) fun b => Ψ (.val (.bl b)) := isi_eq
theorem deq_ap {f : Bool → Bool} : bEq f d e Ψb = sideR ((∃ n, n ≤ 60 ∧ Dep n d) ∧ ∃ n, n ≤ 60 ∧ Dep n e) (Ψb (f (deq d e))) := by
  unfold bEq sideR
  rw [and_assoc]
theorem dneg_int : dNeg (.int i) Ψ = Ψ (.val (.int (-i))) := neg_int
theorem dStrI_ap : dStrI [.int i] Ψ = sideR (i.natAbs.log2 < 1920) (Ψ (.val (.str (toString i)))) := propext ⟨fun ⟨_, e, h⟩ => by cases e; exact h, fun h => ⟨_, rfl, h⟩⟩
theorem dInt1_bl {b : Bool} : dInt1 [.bl b] Ψ = Ψ (.val (.int (if b then 1 else 0))) := propext ⟨fun h => by rcases h with ⟨_, e, _⟩ | ⟨_, e, h⟩ <;> cases e; exact h, fun h => .inr ⟨_, rfl, h⟩⟩
theorem dInt1_int : dInt1 [.int i] Ψ = Ψ (.val (.int i)) := propext ⟨fun h => by rcases h with ⟨_, e, h⟩ | ⟨_, e, _⟩ <;> cases e; exact h, fun h => .inl ⟨_, rfl, h⟩⟩
theorem dtuple_lst : dTuple [.lst ds] Ψ = Ψ (.val (.tup ds)) := propext ⟨fun ⟨_, _, e, e1, h⟩ => by cases e; rcases e1 with e1 | e1 <;> cases e1; exact h, fun h => ⟨_, _, rfl, .inl rfl, h⟩⟩
theorem dtuple_tup : dTuple [.tup ds] Ψ = Ψ (.val (.tup ds)) := propext ⟨fun ⟨_, _, e, e1, h⟩ => by cases e; rcases e1 with e1 | e1 <;> cases e1; exact h, fun h => ⟨_, _, rfl, .inr rfl, h⟩⟩
end
theorem isi_int_int (i : Int) : D.isi (.int i) "int" = some true := rfl
theorem isi_int_bool (i : Int) : D.isi (.int i) "bool" = some false := rfl
theorem isi_int_str (i : Int) : D.isi (.int i) "str" = some false := rfl
theorem isi_int_tuple (i : Int) : D.isi (.int i) "tuple" = some false := rfl
theorem isi_bl_int (i : Bool) : D.isi (.bl i) "int" = some true := rfl
theorem isi_bl_bool (i : Bool) : D.isi (.bl i) "bool" = some true := rfl
theorem isi_bl_str (i : Bool) : D.isi (.bl i) "str" = some false := rfl
theorem isi_bl_tuple (i : Bool) : D.isi (.bl i) "tuple" = some false := rfl
theorem isi_str_int (i : Str) : D.isi (.str i) "int" = some false := rfl
theorem isi_str_bool (i : Str) : D.isi (.str i) "bool" = some false := rfl
theorem isi_str_str (i : Str) : D.isi (.str i) "str" = some true := rfl
theorem isi_str_tuple (i : Str) : D.isi (.str i) "tuple" = some false := rfl
theorem isi_lst (i : List D) : D.isi (.lst i) "list" = some true := rfl
theorem isi_tup (i : List D) : D.isi (.tup i) "tuple" = some true := rfl
theorem v_int (i : Int) : D.v (.int i) = .int i := rfl
theorem v_str (i : Str) : D.v (.str i) = .str i := rfl
theorem v_bl (i : Bool) : D.v (.bl i) = .bl i := rfl
theorem v_non : D.v .non = .non := rfl
theorem fl_int (i : Int) : D.flat (.int i) = true := rfl
theorem fl_str (i : Str) : D.flat (.str i) = true := rfl
theorem fl_bl (i : Bool) : D.flat (.bl i) = true := rfl
theorem fl_non : D.flat .non = true := rfl
theorem ixN_0 {n : Nat} : ixN (n + 1) 0 = some 0 := by unfold ixN; rw [if_pos (by decide), if_pos (by omega)]; rfl
theorem ixN_1 {n : Nat} : ixN (n + 2) 1 = some 1 := by unfold ixN; rw [if_pos (by decide), if_pos (by omega)]; rfl
theorem ixN_2 {n : Nat} : ixN (n + 3) 2 = some 2 := by unfold ixN; rw [if_pos (by decide), if_pos (by omega)]; rfl
end Dt
set_option Elab.async false
set_option linter.all false
set_option maxRecDepth 100000
set_option autoImplicit false
namespace Dt
open PySem PySem.Spec L2 Kx PyProof.Rows
section
variable {X : Cx}
theorem q_never {T : Tb} {io : Bool} {E : XK} {st : Stmt} : QS X T io E st tNever (fun _ _ => False) := ⟨ps_never, sd_never⟩
end
section
variable {T : Tb} {F H : Hp}
def dRep : D → D → (R → Prop) → Prop := fun d e Ψ => ∃ xs k, d = .lst xs ∧ e = .int k ∧ (-(2 ^ 63) ≤ k ∧ k < 2 ^ 63 ∧ xs.length * k.toNat ≤ sizeLine) ∧ Ψ (.new (List.replicate k.toNat xs).flatten)
theorem drep_ap {xs : List D} {k : Int} {Ψ : R → Prop} : dRep (.lst xs) (.int k) Ψ = sideR (-(2 ^ 63) ≤ k ∧ k < 2 ^ 63 ∧ xs.length * k.toNat ≤ sizeLine) (Ψ (.new (List.replicate k.toNat xs).flatten)) := propext ⟨fun ⟨_, _, e1, e2, h⟩ => by cases e1; cases e2; exact h, fun h => ⟨_, _, rfl, rfl, h⟩⟩
theorem djoin_ap {a : Str} {ys : List Str} {Ψ : R → Prop} : dJoin a (.lst (ys.map D.str)) Ψ = sideR ((ys.map (·.length)).sum + ys.length * a.length ≤ 16777216) (Ψ (.val (.str (Txt.join a ys)))) := by
  refine propext ⟨fun ⟨zs, e, h1, h⟩ => ?_, fun h => ⟨ys, .inl rfl, h⟩⟩
  rcases e with e | e
  · have e' : ys.map D.str = zs.map D.str := D.lst.inj e
    have : ys = zs := (List.map_inj_right (f := D.str) (fun _ _ z => D.str.inj z)).mp e'
    subst this
    exact ⟨h1, h⟩
  · cases e
end
def TxOk (n : Nat) (x : Str) : Prop := x.length ≤ n ∧ PyData.strOk x = true
theorem strOk_iff {x : Str} : PyData.strOk x = true ↔ ∀ c ∈ x.cps.toList, c < 0x110000 := by
  unfold PyData.strOk
  rw [← Array.all_toList, List.all_eq_true]
  simp
theorem TxOk.mono {n m : Nat} {x : Str} (h : TxOk n x) (l : n ≤ m) : TxOk m x := ⟨Nat.le_trans h.1 l, h.2⟩
theorem len_app (x y : Str) : (x ++ y).length = x.length + y.length := by
  rw [ext_mk (x := x) rfl, ext_mk (x := y) rfl, app_mk]
  simp only [len_mk, List.length_append]
theorem TxOk.app {n m : Nat} {x y : Str} (h : TxOk n x) (h' : TxOk m y) : TxOk (n + m) (x ++ y) := by
  refine ⟨by rw [len_app]; exact Nat.add_le_add h.1 h'.1, strOk_iff.mpr fun c hc => ?_⟩
  rw [ext_mk (x := x) rfl, ext_mk (x := y) rfl, app_mk, tl_mk] at hc
  rcases List.mem_append.mp hc with z | z
  · exact strOk_iff.mp h.2 c z
  · exact strOk_iff.mp h'.2 c z
theorem TxOk.mk {n : Nat} {l : List Nat} (h : l.length ≤ n) (h' : ∀ c ∈ l, c < 0x110000) : TxOk n (mkS l) := ⟨by rw [len_mk]; exact h, strOk_iff.mpr (by rw [tl_mk]; exact h')⟩
theorem TxOk.size {n : Nat} {x : Str} (h : TxOk n x) (hn : n ≤ 1000) : x.length ≤ sizeLine := Nat.le_trans h.1 (Nat.le_trans hn (by decide))
end Dt
set_option Elab.async false
set_option linter.all false
set_option maxRecDepth 100000
set_option autoImplicit false
namespace L2
open PySem PySem.Spec PyProof.Rows
structure LamOk (X : Cx) (x : Str) (fv : List Str) (js : List Nat) (scope : Scope) (clos : List (Str × Addr)) : Prop where
  kind : scope.kind = .function
  co : scope.isCoroutine = false
  gen : scope.isGenerator = false
  par : scope.names.lookup x = some .local
  nocell : ∀ y ∈ scope.names, y.2 ≠ .cell
  frees : ∀ y, scope.names.lookup y = some .free → ∃ c, clos.lookup y = some c
  cells : ∀ y c, clos.lookup y = some c → X.env.cells.lookup y = some c
  nodup : x ∉ fv
  vis : ∀ y ∈ fv, X.env.kindOf y = some .cell ∧ scope.names.lookup y = some .free ∧ Vis X.env.scope y
  at_ : ∀ (k : Nat) (y : Str), fv[k]? = some y → ∃ j, js[k]? = some j ∧ X.N[j]? = some y
section
variable {X : Cx} {pins : List (Addr × Obj)} {σ : St} {H : Hp} {s : Shared} {x : Str} {fv : List Str} {js : List Nat} {scope : Scope} {clos : List (Str × Addr)} {A : Around} {f : Addr} {cv : Value}
abbrev lamObj (X : Cx) (params : Arguments) (body : Expr) (scope : Scope) (clos : List (Str × Addr)) (pm cv ctv : Value) : Obj :=
  { cls := .type "function", data := .func (PySem.W.kla_fn "<lambda>" (X.env.qual ++ "<lambda>") params body scope clos pm cv ctv) }
end
section
variable {X : Cx}
end
end L2
set_option Elab.async false
set_option linter.all false
set_option maxRecDepth 100000
set_option autoImplicit false
namespace PySem
open Sem (wp)
section
variable {prog : Program} {w : World} {A : Around} {E : Value → Shared → Prop} {s : Shared}
end
end PySem
namespace L2
open PySem PySem.Spec PyProof.Rows
structure Tmp (X : Cx) (pins : List (Addr × Obj)) (a : Addr) : Prop where
  sz : X.s_0.heap.objs.size ≤ a
  loc : a ≠ X.env.locals
  cel : ∀ x c, X.env.cells.lookup x = some c → c ≠ a
  pin : ∀ p ∈ X.pn ++ pins, p.1 ≠ a
  fs : a ∉ X.fs
section
variable {X : Cx} {pins : List (Addr × Obj)} {σ : St} {H : Hp} {s : Shared} {a : Addr} {h' : Heap}
end
structure SortK (g : Nat → Int) (n : Nat) (ns : List Nat) : Prop where
  perm : ns.Perm (List.range n)
  rise : ns.Pairwise fun i j => g i ≤ g j
  stay : ∀ c, ns.filter (fun i => g i == c) = (List.range n).filter fun i => g i == c
end L2
set_option Elab.async false
set_option linter.all false
set_option maxRecDepth 100000
set_option autoImplicit false
namespace L2
open PySem PySem.Spec PyProof.Rows
section
variable {X : Cx} {pins : List (Addr × Obj)} {σ : St} {H : Hp} {s : Shared} {x : Str} {fv : List Str} {js : List Nat} {scope : Scope} {clos : List (Str × Addr)} {f : Addr} {cv : Value} {params : Arguments} {body : Expr} {tl : TE} {k : Nat}
structure Kys (X : Cx) (pins : List (Addr × Obj)) (σ : St) (J : Hp → Prop) (params : Arguments) (body : Expr) (scope : Scope) (clos : List (Str × Addr)) (f : Addr) (cv pm ctv : Value) (g : Nat → Int) (kS a : Addr) (e1 : Nat) (i : Nat) (s' : Shared) (H' : Hp) (kA : Array Value) (e : Nat) : Prop where
  inv : Inv X pins σ H' s'
  j : J H'
  ks : s'.heap.get? kS = some (seqObj "list" kA e)
  as : s'.heap.get? a = some (seqObj "list" #[] e1)
  fo : s'.heap.get? f = some (lamObj X params body scope clos pm cv ctv)
  cd : CodeAt H' (X.env.qual ++ "<lambda>") cv
  nk : H' kS = none
  na : H' a = none
  nf : H' f = none
  it : IntsAre kA.toList ((List.range i).map g)
end
end L2
set_option Elab.async false
set_option linter.all false
set_option maxRecDepth 100000
set_option autoImplicit false
namespace L2
open PySem PySem.Spec PyProof.Rows
section
variable {X : Cx} {x : Str} {fv : List Str} {js : List Nat} {scope : Scope} {clos : List (Str × Addr)} {params : Arguments} {body : Expr} {tl : TE} {ta : TA} {k : Nat}
end
end L2
set_option Elab.async false
set_option linter.all false
set_option maxRecDepth 100000
set_option autoImplicit false
namespace Dt
open PySem PySem.Spec L2 Kx PyProof.Rows
section
variable {T : Tb} {F F1 F' H H1 H2 H' : Hp} {σ : L2.St} {Γ Γ1 Γ2 Γ' : Gm} {E E' : XK} {tl : TE} {wl : WE} {tA : TA} {wA : WA} {P : Addr} {lpos : Pos} {q : Str} {js : List Nat}
end
end Dt
set_option Elab.async false
set_option linter.all false
set_option maxRecDepth 100000
set_option autoImplicit false
namespace Dt
open PySem PySem.Spec L2 Kx PyProof.Rows
section
variable {X : Cx} {T : Tb} {E : XK} {x : Str} {fv : List Str} {js : List Nat} {scope sc : Scope} {clos : List (Str × Addr)} {params : Arguments} {body a : Expr} {tl : TE} {wl : WE} {tA : TA} {wA : WA} {k : Nat}
end
section
variable {P : Program} {wd : World} {K : PySem.W.Frag} {mg : Str → Option Value} {base : Heap} {x qual : Str} {st : Stmt} {f : Addr} {N ps : List Str} {k : Nat} {ts : List Addr} {ls : List (Addr × Pos × Str)} {io : Bool} {wf : WF} {w : WS} {oc kV doc pm cdv ct : Value} {od an : Option Addr} {osl : Array (Option Value)}
theorem fn_dC (lk : K.lookup f = some ⟨oc, od, .func (PySem.W.fnOf x qual (defArgs st) (defBody st) (defScope st) .none kV doc pm an cdv ct), osl⟩) (hcd : PySem.W.codeIn K cdv qual = true) (S : FnScope N ps (defScope st)) (hn : ps.length ≤ N.length) (hl : ∀ ds row Ψ Ξ, wf ds row Ψ Ξ → (if io then 1 else 0) + ds.length = ps.length)
    (hw : ∀ ds row Ψ Ξ, wf ds row Ψ Ξ → w (endsW io Ψ fun _ => False) (startW io N.length ds row))
    (hb : ∀ (A : Around) (outer : List Env) (s : Shared) (H : Hp) (E : XK), Room k (A.deeper (envOfC qual (defScope st) s.heap.objs.size f cdv)) → ∃ t, QSs (cxOf (CXE P wd) P wd K mg base N qual (defScope st) f cdv A outer s H E).nox ⟨K, ts, ls⟩ io E0 (defBody st) t w) :
    FnOk P wd K mg base (CXE P wd) (k + 1) f (PySem.W.fnOf x qual (defArgs st) (defBody st) (defScope st) .none kV doc pm an cdv ct) ps (spD ⟨K, ts, ls⟩ io wf) := by
  refine fn_of lk hcd S (fun vs H Q E h => spD_len hl h) fun A outer s H vs Q E hr h => ?_
  obtain ⟨t, q⟩ := hb A outer s H E hr
  obtain ⟨F0, ra, rv, row, vs', ds, Ψ, Ξ, o, rfl, hrow, r, hwf, kk, kx⟩ := h
  refine ⟨t, q.pe.nox, ?_⟩
  exact q.ed H F0 ra F0 _ H _ _ _ (start_ok o (by rw [hl ds row Ψ Ξ hwf]; exact hn) r hrow) (hw ds row Ψ Ξ hwf) (ends_ok (E' := E0) kk fun _ _ _ z => z.elim)
end
end Dt
set_option Elab.async false
set_option linter.all false
set_option maxRecDepth 100000
set_option autoImplicit false
namespace Dt
open PySem PySem.Spec L2 Kx
end Dt
set_option Elab.async false
set_option linter.all false
set_option maxRecDepth 100000
set_option autoImplicit false
namespace Dt
open PySem PySem.Spec L2 Kx
section
variable {X : Cx} {T : Tb} {E : XK} {io : Bool} {o k e : Expr} {tk t : TE} {wk w : WE} {pos : Pos}
end
end Dt
set_option Elab.async false
set_option linter.all false
set_option maxRecDepth 100000
set_option maxHeartbeats 2000000
set_option autoImplicit false
namespace L2
open PySem PySem.Spec PyProof.Rows
section
variable {X : Cx}
end
end L2
namespace Dt
open PySem L2 Kx
def frD (p : Int × Int) : D := .tup [.int p.1, .int p.2]
end Dt
set_option Elab.async false
set_option linter.all false
set_option maxRecDepth 100000
set_option autoImplicit false
namespace Dea
open PySem Kx Dt L2
def rests (ts : List Int) (w : Int) : List Int := ts.map fun t => w * t % ts.sum
def quots (ts : List Int) (w : Int) : List Int := ts.map fun t => w * t / ts.sum
def bef (rs : List Int) (i j : Nat) : Bool := decide (rs.getD i 0 < rs.getD j 0 ∨ (rs.getD j 0 = rs.getD i 0 ∧ j < i))
def rank (rs : List Int) (i : Nat) : Nat := ((List.range rs.length).filter (bef rs i)).length
def left (ts : List Int) (w : Int) : Nat := (w - (quots ts w).sum).toNat
structure Ord (rs : List Int) (ns : List Nat) : Prop where
  perm : ns.Perm (List.range rs.length)
  bef : ns.Pairwise fun a b => bef rs b a = true
def dl (ts : List Int) (w : Int) (i : Nat) : Int := if ts.sum = 0 then 0 else w * ts.getD i 0 / ts.sum + (if rank (rests ts w) i < left ts w then 1 else 0)
end Dea
set_option Elab.async false
set_option linter.all false
set_option maxRecDepth 100000
set_option autoImplicit false
namespace Dt
open PySem L2 Kx
def wf__law_wide : WF := fun ds row Ψ Ξ => ∃ (b N : Int), ds = [.int b] ∧ RowD N row ∧ 0 ≤ N ∧ N < 2 ^ 50 ∧ 0 < b ∧ ∀ v row', 0 ≤ v → v < b → RowD (N + 12) row' → Ψ (.val (.int v)) row'
def wf__law_low : WF := fun ds row Ψ Ξ => ∃ t b : Int, ds = [.int t, .int b] ∧ b ≠ 0 ∧ Bd 3100 t ∧ Bd 3100 b ∧ Ψ (.val (frD (lowT t b, lowB t b))) []
theorem gcd_step {x y g : Nat} (h : Nat.gcd x y = g) (hy : y ≠ 0) : Nat.gcd y (x % y) = g := by
  rw [← h, Nat.gcd_comm x y, Nat.gcd_rec y x, Nat.gcd_comm]
theorem gcd_abs {t b : Int} : Int.gcd (if t < 0 then -t else t) (if b < 0 then -b else b) = Int.gcd t b := by
  unfold Int.gcd
  congr 1 <;> split <;> omega
def prodB (fs : List (Int × Int)) : Int := fs.foldl (fun c p => c * p.2) 1
def tops (fs : List (Int × Int)) : List Int := fs.map fun p => p.1 * (prodB fs / p.2)
section
variable {p : Int × Int} {Ψ : R → Prop} {Γ : Gm} {k : Gm → Prop} {wgs : WGs}
theorem fr_ix0 : dIx (frD p) (.int 0) Ψ = Ψ (.val (.int p.1)) := by unfold frD; simp only [dx_tup, atR_ap, ix0, atM_some]
theorem fr_ix1 : dIx (frD p) (.int 1) Ψ = Ψ (.val (.int p.2)) := by unfold frD; simp only [dx_tup, atR_ap, ix1, atM_some]
end
theorem fr_dep {p : Int × Int} {n : Nat} : Dep (n + 1) (frD p) := .tup fun d hd => by
  simp only [List.mem_cons, List.not_mem_nil, or_false] at hd
  rcases hd with rfl | rfl <;> exact .int _
theorem low_eq {t b : Int} (hb : 0 < b) : lowT t b * b = t * lowB t b := by
  obtain ⟨g, _, h1, h2⟩ := low_mul (t := t) hb
  generalize lowT t b = A at *
  generalize lowB t b = B at *
  rw [h1, h2]
  simp only [Int.mul_comm, Int.mul_left_comm]
end Dt
set_option Elab.async false
set_option linter.all false
set_option maxRecDepth 100000
set_option maxHeartbeats 4000000
set_option autoImplicit false
namespace L2
open PySem PySem.Spec PyProof.Rows
section
variable {κ : Type} [DecidableEq κ]
def metS (σ : List κ) (k : κ) : List κ := if k ∈ σ then σ else σ ++ [k]
def met (ks : List κ) : List κ := ks.foldl metS []
theorem met_succ {ks : List κ} {i : Nat} {k : κ} (h : ks[i]? = some k) : met (ks.take (i + 1)) = metS (met (ks.take i)) k := by
  unfold met
  rw [List.take_add_one, h, List.foldl_append]
  rfl
theorem metS_len (σ : List κ) (k : κ) : (metS σ k).length = if decide (k ∈ σ) = true then σ.length else σ.length + 1 := by
  unfold metS
  by_cases h : k ∈ σ <;> simp [h]
theorem metS_mem (σ : List κ) (k j : κ) : decide (j ∈ metS σ k) = (decide (j ∈ σ) || decide (j = k)) := by
  unfold metS
  by_cases h : k ∈ σ
  · by_cases e : j = k
    · subst e; simp [h]
    · simp [h, e]
  · by_cases e : j = k
    · subst e; simp [h]
    · simp [h, e]
theorem met_le (ks : List κ) : ∀ i, (met (ks.take i)).length ≤ i
  | 0 => by simp [met]
  | i + 1 => by
    have ih := met_le ks i
    cases h : ks[i]? with
    | none =>
      rw [List.take_of_length_le (by have := List.getElem?_eq_none_iff.mp h; omega), ← List.take_of_length_le (l := ks) (i := i) (by have := List.getElem?_eq_none_iff.mp h; omega)]
      omega
    | some k =>
      rw [met_succ h, metS_len]
      split <;> omega
theorem met_fold : ∀ (ks σ : List κ), σ.Nodup → ((ks.foldl metS σ).length = σ.length + ks.length ↔ (σ ++ ks).Nodup) ∧ (ks.foldl metS σ).length ≤ σ.length + ks.length
  | [], σ, h => by simpa using h
  | k :: ks, σ, h => by
    rw [List.foldl_cons]
    by_cases hk : k ∈ σ
    · have e : metS σ k = σ := by unfold metS; rw [if_pos hk]
      rw [e]
      have ih := (met_fold ks σ h).2
      refine ⟨⟨fun z => by simp only [List.length_cons] at z; omega, fun z => ?_⟩, by simp only [List.length_cons]; omega⟩
      rw [List.nodup_append] at z
      exact absurd rfl (z.2.2 k hk k (.head _))
    · have e : metS σ k = σ ++ [k] := by unfold metS; rw [if_neg hk]
      have hn : (σ ++ [k]).Nodup := by
        rw [List.nodup_append]
        exact ⟨h, by simp, fun a ha b hb z => by rw [List.mem_singleton] at hb; subst hb; subst z; exact hk ha⟩
      have ih := met_fold ks (σ ++ [k]) hn
      rw [e]
      rw [List.append_assoc, List.length_append] at ih
      simp only [List.length_cons, List.length_nil, List.cons_append, List.nil_append] at ih ⊢
      rw [show σ.length + (ks.length + 1) = σ.length + (0 + 1) + ks.length by omega]
      exact ih
theorem met_nodup {ks : List κ} : (met ks).length = ks.length ↔ ks.Nodup := by
  have := (met_fold ks [] List.nodup_nil).1
  simpa [met] using this
theorem met_length (ks : List κ) : (met ks).length ≤ ks.length := by
  have := (met_fold ks [] List.nodup_nil).2
  simpa [met] using this
end
section
variable {prog : Program} {w : World} {A : Around} {κ : Type} [DecidableEq κ] {knd : KeyKind prog w κ}
theorem setOf_as {h : Heap} {a : Addr} {S S' : κ → Bool} {n n' : Nat} (x : h.SetOf knd a S n) (e : ∀ k, S k = S' k) (en : n = n') : h.SetOf knd a S' n' := by
  cases funext e
  cases en
  exact x
theorem setOf_keep {h h' : Heap} {a : Addr} {S : κ → Bool} {n : Nat} (x : h.SetOf knd a S n) (k : ∀ o, h.get? a = some o → h'.get? a = some o) : h'.SetOf knd a S n := by
  obtain ⟨o, es, ep, tb, ho, r⟩ := x
  exact ⟨o, es, ep, tb, k o ho, r⟩
theorem set_loop {R : Result → Shared → Prop} {I : Addr} {fp wr : List Addr} {G : Array GenState → Array GenState → Prop} {P : Nat → Value → Prop} {St : Nat → Shared → Prop} {ks : List κ} {d : Addr}
    (W : WalksS prog w A.in1 I fp wr G ks.length P St) (hd : d ∉ fp) (hP : ∀ i v, P i v → ∃ k, ks[i]? = some k ∧ knd.is k v = true ∧ v.scannable = true) (hb : ks.length + 1 < scanBound) :
    ∀ (j i : Nat) (s : Shared), i + j = ks.length → St i s → s.heap.SetOf knd d (fun k => decide (k ∈ met (ks.take i))) (met (ks.take i)).length →
      (∀ s', Moved (d :: wr) G s s' → s'.heap.SetOf knd d (fun k => decide (k ∈ met ks)) (met ks).length → R (.ok (.ret .none)) s') →
      codeAny (model prog w) A (.builtin "set.update.loop" ⟨[.ref d, .ref I], []⟩) R s := by
  have hdw : d ∉ wr := fun z => hd (W.sub _ z)
  have up : ∀ b ∈ wr, b ∈ d :: wr := fun b z => .tail _ z
  intro j
  induction j with
  | zero =>
    intro i s hij st hS K
    have hi : i = ks.length := by omega
    subst hi
    rw [List.take_length] at hS
    apply codeAny_builtin F.entry_set_update_loop
    rw [Around.under_plainId F.plain_set_update_loop]
    show wpAny _ _ (Bind.bind (pyNext _) _) _ _ _
    apply wpAny_bind
    refine W.done s _ _ st fun s' mv => ?_
    exact wpAny_pure (K s' (mv.mono up) (setOf_keep hS fun o z => mv.heap _ _ hdw z))
  | succ j ih =>
    intro i s hij st hS K
    have hi : i < ks.length := by omega
    apply codeAny_builtin F.entry_set_update_loop
    rw [Around.under_plainId F.plain_set_update_loop]
    show wpAny _ _ (Bind.bind (pyNext _) _) _ _ _
    apply wpAny_bind
    refine W.item i s _ _ hi st fun v s' hv st' mv => ?_
    obtain ⟨k, hk, his, hsc⟩ := hP i v hv
    have hS1 := setOf_keep hS fun o z => mv.heap _ _ hdw z
    show wpAny _ _ (Bind.bind (holding [v] (setAdd d v)) _) _ _ _
    apply wpAny_bind
    apply wpAny_holding
    unfold setAdd
    apply wpAny_holding
    apply wpAny_bind
    refine knd.pyHash his ?_
    have hroom : (met (ks.take i)).length + 1 < scanBound := by have := met_le ks i; omega
    refine wpAny_setAddHashed_of his hsc (s := ⟨s'.heap, s'.gens, s'.drawn, s'.toks + 1, s'.os⟩) hS1 hroom fun h2 sb hS2 => ?_
    have hS3 : h2.SetOf knd d (fun k => decide (k ∈ met (ks.take (i + 1)))) (met (ks.take (i + 1))).length :=
      setOf_as hS2 (fun z => by rw [met_succ hk, metS_mem]) (by rw [met_succ hk, metS_len])
    have nd : ∀ b, b ≠ d → h2.get? b = s'.heap.get? b := fun b z => sb.2 b z
    refine wpAny_pure ⟨plainId_quiet F.plain_set_update_loop _, ?_⟩
    refine ih (i + 1) _ (by omega) ?_ hS3 fun s2 mv2 z => K s2 ?_ z
    · exact W.frame _ s' h2 _ st' (Nat.le_succ _) fun b hb o e => (nd b fun z => hd (z ▸ hb)).trans e
    · exact Moved.trans W.gtrans ((mv.mono up).then_heap (Nat.le_succ _) fun b o hb e => (nd b fun z => hb (z ▸ .head _)).trans e) mv2
end
local macro_rules | `(tactic| walk_at "wps") => `(tactic| (repeat (any_goals (first | assumption | wp_step))))
section
variable {prog : Program} {w : World} {A : Around} {κ : Type} [DecidableEq κ] {knd : KeyKind prog w κ} {E : Value → Shared → Prop} {s : Shared}
abbrev emptySet (led : Bool) : Obj := { cls := .type "set", dict := none, data := .set #[] 0 (.fresh 0 0 led) }
theorem set_of_list {l : Addr} {items : Array Value} {ks : List κ} {Q : Value → Shared → Prop} (hh : A.handled = none) (hl : s.heap.IsList l items) (hlen : items.size = ks.length)
    (hk : ∀ (i : Nat) (v : Value), items[i]? = some v → ∃ k, ks[i]? = some k ∧ knd.is k v = true ∧ v.scannable = true) (hb : ks.length + 1 < scanBound)
    (fin : ∀ (h' : Heap) (tk : Nat), h'.SetOf knd s.heap.objs.size (fun k => decide (k ∈ met ks)) (met ks).length → (∀ b o, s.heap.get? b = some o → h'.get? b = some o) → Q (.ref s.heap.objs.size) { s with heap := h', toks := tk }) :
    wpAny (model prog w) A (call (.type "set") [.ref l]) Q E s := by
  have cs := F.called_set
  obtain ⟨_, _, hmro⟩ := cs.mro
  have q1 := cs.made
  have q2 := cs.sub
  have q3 := cs.notType
  have q4 := cs.canCreate
  have q5 := F.typeCall_set_1 (.ref l)
  apply wpAny_call
  apply codeAny_of_tree
  show wpAny _ _ (callAny (.type "set") ⟨[.ref l], []⟩) _ _ s
  apply wpAny_pure
  refine And.intro (Code.quiet_builtin _ (by decide +kernel)) ?_
  apply codeAny_builtin F.entry_type_call
  rw [Around.under_plain (weight_type_call_type _ [.ref l] []) rfl]
  walk_at "wps"
  refine codeAny_mono (code_set_new_1 (.ref l) (E := E) (Q₁ := fun v z => ∃ led, v = .ref s.heap.objs.size ∧ z = { s with heap := s.heap.push (emptySet led) }) fun led => ⟨led, rfl, rfl⟩) ?_
  intro r s1 hr
  match r, hr with
  | .error _, hr => exact hr
  | .ok (.ret v), hr =>
    obtain ⟨led, rfl, rfl⟩ := hr
    have g0 : (s.heap.push (emptySet led)).get? s.heap.objs.size = some (emptySet led) := Heap.get?_push_size _ rfl
    have ty : Shared.TypeIs { s with heap := s.heap.push (emptySet led) } (.ref s.heap.objs.size) "set" := ⟨_, g0, rfl⟩
    have q6 := cs.init.lookup
    have q7 := cs.init.bind (.ref s.heap.objs.size)
    walk_at "wps"
    refine codeAny_mono (codeAny_call_builtin (R := wants (fun r z => r = .none ∧ ∃ h' tk, z = { s with heap := h', toks := tk } ∧ h'.SetOf knd s.heap.objs.size (fun k => decide (k ∈ met ks)) (met ks).length ∧ ∀ b o, s.heap.get? b = some o → h'.get? b = some o) E) cs.init.plain F.entry_set_init (check_set_init_1 ty ?_)) fun r2 s2 hr2 => ?_
    · obtain ⟨⟨_, od, _, os⟩, ho, hc, n, hdt⟩ := hl
      cases hc
      cases hdt
      have hol : (s.heap.push (emptySet led)).get? l = some { cls := .type "list", dict := od, data := .seq items n, slots := os } := Heap.get?_push_of_some _ ho
      have isl : (s.heap.push (emptySet led)).IsList l items := ⟨_, hol, rfl, n, rfl⟩
      have q8 := F.sub_list_set
      have q9 := F.sub_list_frozenset
      have q10 : (Value.type "list" == Value.type "dict") = false := rfl
      have hlt := Heap.lt_size ho
      unfold Builtin.«set.__init__» noKeywords Builtin.Frozenset.updateFrom
      generalize hP : pyIter = pI
      wp_walk
      subst hP
      apply wpAny_pyIter_list isl
      apply wpAny_bind
      apply wpAny_runValue
      have sz : (s.heap.push (emptySet led)).objs.size = s.heap.objs.size + 1 := Heap.size_push ..
      have W := (Walks.list (prog := prog) (w := w) (A := A.in1.in1.in1) (by simp [hh]) (s.heap.push (emptySet led)).objs.size l (by rw [sz]; exact Nat.ne_of_lt (Nat.lt_succ_of_lt hlt)) items).toS
      rw [hlen] at W
      refine set_loop (knd := knd) (ks := ks) (d := s.heap.objs.size) W (fun z => by
        rw [sz] at z
        rcases List.mem_cons.mp z with y | y
        · exact Nat.ne_of_lt (Nat.lt_succ_self _) y
        · exact Nat.ne_of_gt hlt (List.mem_singleton.mp y)) hk hb ks.length 0 _ (Nat.zero_add _) ?_ ?_ ?_
      · exact ⟨⟨_, Heap.get?_push_size _ rfl, rfl, rfl⟩, isl.push _⟩
      · refine setOf_as ((setObjOf_fresh (knd := knd) led).setOf (Heap.get?_push_of_some _ g0) (by decide)) (fun _ => rfl) rfl
      · rintro ⟨h3, g3, d3, t3, o3⟩ mv S3
        cases (show g3 = s.gens from mv.gens)
        cases (show d3 = s.drawn from mv.drawn)
        cases (show o3 = s.os from mv.os)
        show wpAny _ _ _ _ _ _
        apply wpAny_pure
        show wpAny _ _ (ret Value.none) _ _ _
        refine wpAny_pure ⟨rfl, h3, t3, rfl, S3, fun b o e => ?_⟩
        have hlt := Heap.lt_size e
        exact mv.heap b o (fun z => by
          rw [sz] at z
          rcases List.mem_cons.mp z with y | y
          · exact Nat.ne_of_lt hlt y
          · exact Nat.ne_of_lt (Nat.lt_succ_of_lt hlt) (List.mem_singleton.mp y)) (Heap.get?_push_of_some _ (Heap.get?_push_of_some _ e))
    · match r2, hr2 with
      | .error _, hr2 => exact hr2
      | .ok (.ret v2), hr2 =>
        obtain ⟨rfl, h3, t3, rfl, S3, k3⟩ := hr2
        walk_at "wps"
        exact fin _ _ S3 k3
end
end L2
set_option Elab.async false
set_option linter.all false
set_option maxRecDepth 100000
set_option maxHeartbeats 4000000
set_option autoImplicit false
namespace L2
open PySem PySem.Spec PyProof.Rows
def SetN (p : Addr) (n : Nat) (h : Heap) : Prop := ∃ o es ep t, h.get? p = some o ∧ o.ExactSet ∧ o.data = .set es ep t ∧ t.fits es.size = true ∧ es.size = n
theorem SetN.keep {p : Addr} {n : Nat} {h1 h2 : Heap} (x : SetN p n h1) (k : ∀ o, h1.get? p = some o → h2.get? p = some o) : SetN p n h2 := by
  obtain ⟨o, es, ep, t, ho, r⟩ := x
  exact ⟨o, es, ep, t, k o ho, r⟩
theorem setN_of {prog : Program} {w : World} {κ : Type} [DecidableEq κ] {knd : KeyKind prog w κ} {h : Heap} {a : Addr} {S : κ → Bool} {n : Nat} (x : h.SetOf knd a S n) : SetN a n h := by
  obtain ⟨o, es, ep, t, ho, hex, hd, hel, hmem, hb, hf, hn⟩ := x
  exact ⟨o, es, ep, t, ho, hex, hd, hf, hn⟩
def rSet (K : PySem.W.Frag) : List V → Hp → VK → Prop := fun vs H Q => ∃ a n, vs = [V.ref a] ∧ ((∃ ns : List Int, SqL K H a (ns.map V.int) ∧ ns.length < 4000 ∧ n = (met ns).length) ∨ ∃ xs : List Str, SqL K H a (xs.map V.str) ∧ xs.length < 4000 ∧ n = (met xs).length) ∧
  ∀ p, H p = none → Q (.ref p) (upd H p (.ext (SetN p n)))
def rLenSet : List V → Hp → VK → Prop := fun vs H Q => ∃ p n, vs = [V.ref p] ∧ H p = some (.ext (SetN p n)) ∧ n < 4000 ∧ Q (.int (n : Nat)) H
section
variable {X : Cx}
theorem cr_lenSet : CallR X (.builtin "len") rLenSet := by
  intro pins s σ H vs us Q I r h
  obtain ⟨p, n, rfl, hp, hn, q⟩ := h
  rw [Vals.ref1 r]
  obtain ⟨⟨o, es, ep, t, ho, hex, hd, hf, hsz⟩, _⟩ := I.hok p _ hp
  subst hsz
  refine call_len_set ho hex hd hf (by omega) ?_
  exact ⟨.int (es.size : Nat), H, I.kept fun _ _ e => e, ⟨_, rfl⟩, q⟩
theorem cr_set (hh : X.A.handled = none) : CallR X (.type "set") (rSet X.K) := by
  intro pins s σ H vs us Q I r h
  obtain ⟨a, n, rfl, hc, q⟩ := h
  rw [Vals.ref1 r]
  have lay : ∀ (h' : Heap) (tk : Nat), SetN s.heap.objs.size n h' → (∀ b o, s.heap.get? b = some o → h'.get? b = some o) → EP X pins σ Q (.ref s.heap.objs.size) { s with heap := h', toks := tk } := fun h' tk hs k => by
    refine ⟨.ref _, upd H s.heap.objs.size (.ext (SetN s.heap.objs.size n)), I.laid (t' := tk) k (Nat.le_refl _) ⟨hs, ?_, fun h1 h2 x k => x.keep k⟩, rfl, q _ (I.hok.fresh (Nat.le_refl _))⟩
    obtain ⟨o, _, _, _, ho, _⟩ := hs
    exact ⟨o, ho⟩
  rcases hc with ⟨ns, hs, hl, rfl⟩ | ⟨xs, hs, hl, rfl⟩
  · obtain ⟨its, rv, pl, _⟩ := I.list hs
    have hlen := rv.length
    rw [List.length_map] at hlen
    refine set_of_list (knd := intKind X.prog X.w) (ks := ns) hh pl.isList (by rw [List.size_toArray]; omega) (fun i v hv => ?_) (by unfold scanBound; omega) fun h' tk S k => lay h' tk (setN_of S) k
    have hi : i < its.length := by simpa using (Array.getElem?_eq_some_iff.mp hv).1
    obtain ⟨u, hu, ru⟩ := rv.get (i := i) (x := .int ns[i]) (by rw [List.getElem?_map, List.getElem?_eq_getElem (by omega)]; rfl)
    have : u = v := by
      rw [List.getElem?_toArray, hu] at hv
      exact Option.some.inj hv
    subst this
    obtain ⟨t, rfl⟩ := ru
    exact ⟨ns[i], List.getElem?_eq_getElem (by omega), intKind_is _ _ _ _, rfl⟩
  · obtain ⟨its, rv, pl, _⟩ := I.list hs
    have hlen := rv.length
    rw [List.length_map] at hlen
    refine set_of_list (knd := strKind X.prog X.w) (ks := xs) hh pl.isList (by rw [List.size_toArray]; omega) (fun i v hv => ?_) (by unfold scanBound; omega) fun h' tk S k => lay h' tk (setN_of S) k
    have hi : i < its.length := by simpa using (Array.getElem?_eq_some_iff.mp hv).1
    obtain ⟨u, hu, ru⟩ := rv.get (i := i) (x := .str xs[i]) (by rw [List.getElem?_map, List.getElem?_eq_getElem (by omega)]; rfl)
    have : u = v := by
      rw [List.getElem?_toArray, hu] at hv
      exact Option.some.inj hv
    subst this
    obtain ⟨t, rfl⟩ := ru
    exact ⟨xs[i], List.getElem?_eq_getElem (by omega), strKind_is _ _ _ _, rfl⟩
end
end L2
namespace Dt
open PySem L2 Kx
section
variable {T : Tb} {E : XK} {tA : TA} {wA : WA} {X : Cx}
def SetLen (ds : List D) (n : Nat) : Prop := ds.length < 4000 ∧ ((∃ ns : List Int, ds = ns.map D.int ∧ n = (met ns).length) ∨ ∃ xs : List Str, ds = xs.map D.str ∧ n = (met xs).length)
def wLenSet (wA : WA) : WE := fun Γ Ψ Ξ => wA Γ (fun rs Γ1 => ∃ ds n, ats Γ1 rs = some [.lst ds] ∧ SetLen ds n ∧ Ψ (.val (.int (n : Nat))) Γ1) Ξ
theorem ed_lenSet (h : AD T E tA wA) : ED T E (tCB rLenSet (tCons (tCB (rSet T.K) tA) tNil)) (wLenSet wA) := fun F σ H Γ Q Ψ Ξ p h1 x k => h F σ H Γ _ _ Ξ p h1 x fun F1 H1 Γ1 vs rs hr q e => by
  obtain ⟨ds, n, a, ⟨hl, hs⟩, hq⟩ := hr
  obtain ⟨v, rfl, hv⟩ := (e.peek q.rp a).one
  obtain ⟨b, us, rfl, hb, ra⟩ := hv.lst q.rp.sub
  refine ⟨b, n, rfl, ?_, fun c hc => ⟨c, n, rfl, upd_same, ?_, ?_⟩⟩
  · rcases hs with ⟨ns, rfl, rfl⟩ | ⟨xs, rfl, rfl⟩
    · rw [ra.ints] at hb
      exact .inl ⟨ns, .inl hb, by rw [List.length_map] at hl; exact hl, rfl⟩
    · rw [ra.strs] at hb
      exact .inr ⟨xs, .inl hb, by rw [List.length_map] at hl; exact hl, rfl⟩
  · rcases hs with ⟨ns, rfl, rfl⟩ | ⟨xs, rfl, rfl⟩
    · have := met_length ns
      rw [List.length_map] at hl
      omega
    · have := met_length xs
      rw [List.length_map] at hl
      omega
  · exact k F1 _ Γ1 _ _ hq (q.nw (q.rp.toOk.put hc)) (Rep.int _)
theorem cr_setK {K : PySem.W.Frag} (h : X.K = K) (hh : X.A.handled = none) : CallR X (.type "set") (rSet K) := h ▸ cr_set hh
theorem q_lenSet {e : Expr} {es : List Expr} {p p2 pos pos2 : Pos} (hK : X.K = T.K) (hh : X.A.handled = none) (ha : QA X T E (e :: es) tA wA) (g1 : Gl X "len") (m1 : X.mg "len" = none) (g2 : Gl X "set") (m2 : X.mg "set" = none)
    (hs : (e :: es).any isStar = false) : QE X T E (.Call (.Name "len" p) [.Call (.Name "set" p2) (e :: es) [] pos2] [] pos) (tCB rLenSet (tCons (tCB (rSet T.K) tA) tNil)) (wLenSet wA) :=
  ⟨pe_cB cr_lenSet g1 m1 (by decide +kernel) (pa_c (pe_cT (cr_setK hK hh) g2 m2 (by decide +kernel) ha.pe (by decide) (by decide) hs) pa_nil (by rfl)) (by decide) (by decide) (by rfl), ed_lenSet ha.ed⟩
theorem lenSet_ap {Γ : Gm} {Φ : R → Gm → Prop} {Ξ : XD → Prop} : wLenSet wA Γ Φ Ξ = wA Γ (fun rs Γ1 => atsR Γ1 rs fun ds => match ds with | [.lst es] => ∃ n, SetLen es n ∧ Φ (.val (.int (n : Nat))) Γ1 | _ => False) Ξ := by
  unfold wLenSet atsR
  congr 1
  funext rs Γ1
  refine propext ⟨fun ⟨ds, n, h, q⟩ => ⟨_, h, n, q⟩, fun ⟨ds, h, q⟩ => ?_⟩
  dsimp only at q
  split at q
  · obtain ⟨n, q⟩ := q
    exact ⟨_, n, h, q⟩
  · exact q.elim
end
end Dt
set_option Elab.async false
set_option linter.all false
set_option maxRecDepth 100000
set_option maxHeartbeats 2000000
set_option autoImplicit false
namespace L2
open PySem PySem.Spec PyProof.Rows
section
variable {X : Cx} {e k : Expr} {te tk : TE} {p2 pos : Pos}
end
end L2
namespace Dt
open PySem L2 Kx
section
variable {T : Tb} {E : XK} {X : Cx} {e k : Expr} {t tk : TE} {w wk : WE} {p2 pos : Pos}
def dRevS : D → D → (R → Prop) → Prop := fun d e Ψ => ∃ ds j, d = .lst ds ∧ e = .int j ∧ (j = 1 ∨ j = -1) ∧ Ψ (.new (if j = 1 then ds else ds.reverse))
theorem revS_ap {ds : List D} {j : Int} {Ψ : R → Prop} : dRevS (.lst ds) (.int j) Ψ = sideR (j = 1 ∨ j = -1) (Ψ (.new (if j = 1 then ds else ds.reverse))) := propext ⟨fun ⟨_, _, e1, e2, h⟩ => by cases e1; cases e2; exact h, fun h => ⟨_, _, rfl, rfl, h⟩⟩
end
end Dt
set_option Elab.async false
set_option linter.all false
set_option maxRecDepth 100000
set_option maxHeartbeats 1000000
set_option autoImplicit false
namespace Dt
open PySem L2 Kx
section
variable {T : Tb} {io : Bool} {E : XK} {X : Cx} {e : Expr} {t : TE} {w : WE} {x y : Str} {px py pos : Pos}
def wTwo (i j : Nat) (w : WE) : WS := fun Ψ Γ => w Γ (fun r Γ1 => frzR Γ1 r fun d Γ2 => goR Ψ.nx ((Γ2.set i (some (.shr d))).set j (some (.shr d)))) Ψ.xe
theorem two_ap {i j : Nat} {Ψ : WEnds} {Γ : Gm} : wTwo i j w Ψ Γ = w Γ (fun r Γ1 => frzR Γ1 r fun d Γ2 => goR Ψ.nx ((Γ2.set i (some (.shr d))).set j (some (.shr d)))) Ψ.xe := rfl
end
def wf_is_whole : WF := fun ds row Ψ Ξ => ∃ t : Int, ds = [.int t] ∧ Ψ (.val (.bl true)) []
def wf_common_divisor : WF := fun ds row Ψ Ξ => ∃ x y : Int, ds = [.int x, .int y] ∧ 0 ≤ x ∧ 0 ≤ y ∧ Ψ (.val (.int ((Int.gcd x y : Nat) : Int))) []
def wf_fraction : WF := fun ds row Ψ Ξ => ∃ t b : Int, ds = [.int t, .int b] ∧ Bd 3100 t ∧ Bd 3100 b ∧ b ≠ 0 ∧ Ψ (.val (frD (lowT t b, lowB t b))) []
structure SpB (L : Nat) (t b t2 b2 : Int) (top : Nat) : Prop where
  bt : Bd 200 t
  bb : Bd 200 b
  bt2 : Bd 200 t2
  bb2 : Bd 200 b2
  b0 : 0 < b
  b20 : 0 < b2
  lt : 0 < t2 * b - t * b2
  near : 39 * (b2 * b) ≤ (t2 * b - t * b2) * 10 ^ L
  lo : -(b * lowT (Kx.R top) (10 ^ L)) ≤ t * lowB (Kx.R top) (10 ^ L)
  hi : t2 * lowB (Kx.R top) (10 ^ L) ≤ b2 * lowT (Kx.R top) (10 ^ L)
  tops : top ≤ 300
  ls : L ≤ 80
end Dt
set_option Elab.async false
set_option linter.all false
set_option maxRecDepth 100000
set_option maxHeartbeats 1000000
set_option autoImplicit false
namespace Dt
open PySem PySem.Spec L2 Kx PyProof.Rows
def ClsF (K : PySem.W.Frag) (C : Addr) (fs : List Str) : Prop := Cls K C ∧ ∀ f ∈ fs, NoAttr K C f
theorem RepA.look {K : PySem.W.Frag} {F : Hp} {f : Str} {z : D} : ∀ {ns : List Str} {vs : List V} {ds : List D}, RepA K F vs ds → (ns.zip ds).lookup f = some z → ∃ v, (ns.zip vs).lookup f = some v ∧ Rep K F v z
  | [], _, _, _, h => by simp at h
  | _ :: _, _, _, .nil, h => by simp at h
  | n :: ns, _, _, .cons (v := v) (d := d) h r, e => by
    rw [List.zip_cons_cons, List.lookup_cons] at e
    rw [List.zip_cons_cons, List.lookup_cons]
    split at e
    · cases e
      exact ⟨v, rfl, h⟩
    · exact RepA.look r e
section
variable {T : Tb} {E : XK} {X : Cx} {e o : Expr} {es : List Expr} {t : TE} {w : WE} {pos apos p : Pos} {f m x : Str} {tA : TA} {wA : WA}
variable {CX : CXT} {k : Nat} {tab : List (Str × WF)}
def wMeth (m : Str) (tab : List (Str × WF)) (wo : WE) (wA : WA) : WE := fun Γ Ψ Ξ => wo Γ (fun r Γ1 => ∃ c ns ds wf, r = .val (.obj c ns ds) ∧ tab.lookup c = some wf ∧ ns.contains m = false ∧ wA Γ1 (fun rs Γ2 => callW false wf (.val (.obj c ns ds) :: rs) Γ2 Ψ Ξ) Ξ) Ξ
abbrev WM := List D → (List D → Prop) → (XD → Prop) → Prop
theorem ins_nt {C dx : Addr} {fs : List (Str × V)} : NoT (.ins C dx fs) := fun _ z => by cases z
def CA (K : PySem.W.Frag) (x : Str) : Addr := match PySem.W.nsIn K mainGlobals x with
  | some (some (.ref C)) => C
  | _ => 0
theorem CA_of {K : PySem.W.Frag} {x : Str} {C : Addr} (h : PySem.W.nsIn K mainGlobals x = some (some (.ref C))) : CA K x = C := by
  unfold CA
  rw [h]
structure CalN (P : Program) (w : World) (K : PySem.W.Frag) (mg : Str → Option Value) (base : Heap) (CX : CXT) (k : Nat) (x : Str) (ns ps : List Str) (sp : Sp) : Prop where
  at_ : PySem.W.nsIn K mainGlobals x = some (some (.ref (CA K x)))
  cl : ClsF K (CA K x) ns
  cal : CalK P w K mg base CX k (CA K x) x ps sp
end
structure IvS (T : Tb) (H1 F0 : Hp) (x C dx : Addr) (fs : List Str) (ds : List D) (F : Hp) (σ : L2.St) (H : Hp) (Γ : Gm) : Prop where
  rp : Rp T F σ H Γ
  nw : Nw T F0 H1 F H
  self : σ[0]? = some (some (.ref x))
  fresh : H1 x = none
  fx : F x = none
  at_ : ∃ us, H x = some (.ins C dx (fs.zip us)) ∧ us.length = fs.length ∧ RepA T.K F us ds
  no : ∀ (i : Nat) (es : List D), Γ[i]? ≠ some (some (En.own es))
section
variable {T : Tb} {H1 F0 F H F' H' : Hp} {x C dx : Addr} {fs : List Str} {ds : List D} {σ : L2.St} {Γ Γ' : Gm}
theorem IvS.noOwns {b : Addr} (s : IvS T H1 F0 x C dx fs ds F σ H Γ) : ¬ Owns σ Γ b := fun ⟨i, es, h, _⟩ => s.no i es h
theorem Nw.trans {F1 H2 F2 H3 : Hp} (a : Nw T F0 H1 F1 H2) (b : Nw T F1 H2 F2 H3) : Nw T F0 H1 F2 H3 where
  ok := b.ok
  ff := fun c o h => b.ff c o (a.ff c o h)
  hh := fun c o h t => b.hh c o (a.hh c o h t) t
  gro := fun c o h => let ⟨o1, h1⟩ := a.gro c o h; b.gro c o1 h1
  nf := fun c o h => by
    rcases b.nf c o h with z | z
    · exact a.nf c o z
    · cases e : H1 c with
      | none => exact .inr rfl
      | some u => obtain ⟨u', z'⟩ := a.gro c u e; rw [z] at z'; cases z'
theorem IvS.po (s : IvS T H1 F0 x C dx fs ds F σ H Γ) (q : Po T F σ H Γ F' H' Γ') : IvS T H1 F0 x C dx fs ds F' σ H' Γ' := by
  have n : Nw T F H F' H' := ⟨q.rp.toOk, q.ff, fun b o h t => q.fr b o h t s.noOwns, q.gro, fun b o h => (q.nf b o h).elim .inl fun z => z.elim .inr fun y => absurd y s.noOwns⟩
  obtain ⟨us, h1, h2, h3⟩ := s.at_
  refine ⟨q.rp, s.nw.trans n, s.self, s.fresh, q.known h1 s.fx s.noOwns, ⟨us, q.fr _ _ h1 ins_nt s.noOwns, h2, h3.mono q.ff⟩, ?_⟩
  · intro i es h
    obtain ⟨es', h'⟩ := q.ow i es h
    exact s.no i es' h'
abbrev WIk := Gm → List Str → List D → Prop
abbrev WIn := WIk → WIk
def SI (T : Tb) (ns : List Str) (t : TS) (w : WIn) : Prop := ∀ (H1 F0 : Hp) (x C dx : Addr) (fs : List Str) (ds : List D) (F : Hp) (σ : L2.St) (H : Hp) (Γ : Gm) (D : Ends) (Ψ : WIk), ClsF T.K C ns → IvS T H1 F0 x C dx fs ds F σ H Γ → w Ψ Γ fs ds →
  (∀ F' σ' H' Γ' fs' ds', Ψ Γ' fs' ds' → IvS T H1 F0 x C dx fs' ds' F' σ' H' Γ' → D.nx σ' H') → t D σ H
variable {ns : List Str} {s1 s2 : TS} {u1 u2 : WIn} {t1 : TT} {w1 : WT} {t : TE} {w : WE} {f : Str}
end
structure QIn (X : Cx) (T : Tb) (ns : List Str) (st : Stmt) (t : TS) (w : WIn) : Prop where
  pe : PS X st t
  ed : SI T ns t w
structure QIns (X : Cx) (T : Tb) (ns : List Str) (st : List Stmt) (t : TS) (w : WIn) : Prop where
  pe : PSs X st t
  ed : SI T ns t w
section
variable {X : Cx} {T : Tb} {ns : List Str} {c e o : Expr} {t1 : TT} {w1 : WT} {t : TE} {w : WE} {pos pos' : Pos} {f : Str} {b1 : List Stmt} {st : Stmt} {ss : List Stmt} {s1 s2 : TS} {u1 u2 : WIn} {ex : Stmt}
end
section
variable {P : Program} {wd : World} {K : PySem.W.Frag} {mg : Str → Option Value} {base : Heap} {x qual : Str} {st : Stmt} {f : Addr} {fd : FuncData} {N ps ns : List Str} {k : Nat} {ts : List Addr} {ls : List (Addr × Pos × Str)} {wm : WM} {w : WIn}
def startI (n : Nat) (ds : List D) : Gm := none :: (ds.map fun d => some (.shr d)) ++ List.replicate (n - (ds.length + 1)) none
end
structure CalC (P : Program) (w : World) (K : PySem.W.Frag) (mg : Str → Option Value) (base : Heap) (CX : CXT) (k : Nat) (c m : Str) (ps : List Str) (sp : Sp) : Prop where
  at_ : PySem.W.nsIn K mainGlobals c = some (some (.ref (CA K c)))
  cl : Cls K (CA K c)
  cal : CalM P w K mg base CX k (CA K c) m ps sp
section
variable {X : Cx} {T : Tb} {CX : CXT} {j k : Nat} {m c : Str} {ps : List Str} {wf : WF} {tab : List (Str × WF)}
end
section
variable {Γ : Gm} {Φ : R → Gm → Prop} {Ξ : XD → Prop} {m f c : Str} {ns : List Str} {ds : List D} {tab : List (Str × WF)} {wo : WE} {wA : WA} {wm : WM} {Ψ : R → Prop}
def objR (r : R) (m : Str) (tab : List (Str × WF)) (k : D → WF → Prop) (_ : Tg k := ⟨⟩) : Prop := ∃ c ns ds wf, r = .val (.obj c ns ds) ∧ tab.lookup c = some wf ∧ ns.contains m = false ∧ k (.obj c ns ds) wf
theorem meth_ap : wMeth m tab wo wA Γ Φ Ξ = wo Γ (fun r Γ1 => objR r m tab fun d wf => wA Γ1 (fun rs Γ2 => callW false wf (.val d :: rs) Γ2 Φ Ξ) Ξ) Ξ := rfl
variable {Ψi : WIk} {u1 u2 : WIn} {w1 : WT} {w : WE} {fs : List Str}
theorem startI_ap {n : Nat} : startI n ds = none :: (ds.map fun d => some (.shr d)) ++ List.replicate (n - (ds.length + 1)) none := rfl
end
section
variable {x y z : D} {Ψ : R → Prop}
end
end Dt
set_option Elab.async false
set_option linter.all false
set_option maxRecDepth 100000
set_option maxHeartbeats 1000000
set_option autoImplicit false
namespace Dt
open PySem L2 Kx
structure ScB (t b t2 b2 n : Int) : Prop where
  bt : Bd 100 t
  bb : Bd 100 b
  bt2 : Bd 100 t2
  bb2 : Bd 100 b2
  b0 : 0 < b
  b20 : 0 < b2
  lt : 0 < t2 * b - t * b2
  n0 : 2 ≤ n
  n1 : n ≤ 40
def nearZ (x y : Int) : Int := (2 * x + y) / (2 * y)
theorem near_scale {x y g : Int} (hy : 0 < y) (hg : 0 < g) : nearZ (x * g) (y * g) = nearZ x y := by
  unfold nearZ
  rw [show 2 * (x * g) + y * g = (2 * x + y) * g by rw [Int.add_mul, Int.mul_assoc], show 2 * (y * g) = 2 * y * g by rw [Int.mul_assoc]]
  exact Int.mul_ediv_mul_of_pos_left _ _ hg
def lvX (t b b2 n u v : Int) : Int := (u * b - t * v) * n * (b2 * b)
def lvY (t b t2 b2 v : Int) : Int := v * b * 1 * (t2 * b - t * b2)
theorem nb {n : Int} (h0 : 2 ≤ n) (h1 : n ≤ 40) : Bd 6 n := by unfold Bd; omega
end Dt
set_option Elab.async false
set_option linter.all false
set_option maxRecDepth 100000
set_option maxHeartbeats 1000000
set_option autoImplicit false
namespace Dt
open PySem PySem.Spec L2 Kx
section
variable {T : Tb} {E : XK} {X : Cx} {t : TE} {w : WE}
def fltF : D → List D
  | .tup [_, .tup es] => es
  | _ => []
def okF (d : D) : Prop := ∃ n es, d = .tup [n, .tup es]
def wFlat (a b c : Nat) (w : WE) : WE := fun Γ Ψ Ξ => (a < Γ.length ∧ b < Γ.length ∧ c < Γ.length) ∧ w Γ (fun r Γ1 => ∃ ds Γ2, frz Γ1 r = some (.tup ds, Γ2) ∧ (∀ d ∈ ds, okF d) ∧ (ds.flatMap fltF).length ≤ sizeLine ∧ Ψ (.new (ds.flatMap fltF)) Γ2) Ξ
variable {e : Expr} {pos pt p1 p2 p3 p4 p5 : Pos} {scope : Scope} {own : List (Str × Nat)} {x y z : Str} {k : Nat}
theorem flat_ap {a b c : Nat} {Γ : Gm} {Φ : R → Gm → Prop} {Ξ : XD → Prop} : wFlat a b c w Γ Φ Ξ = sideR (a < Γ.length ∧ b < Γ.length ∧ c < Γ.length) (w Γ (fun r Γ1 => frzR Γ1 r fun d Γ2 => match d with | .tup ds => sideR ((∀ d ∈ ds, okF d) ∧ (ds.flatMap fltF).length ≤ sizeLine) (Φ (.new (ds.flatMap fltF)) Γ2) | _ => False) Ξ) := by
  unfold wFlat sideR frzR
  congr 2
  funext r Γ1
  refine propext ⟨fun ⟨ds, Γ2, h, h1, h2, q⟩ => ⟨_, Γ2, h, ⟨h1, h2⟩, q⟩, fun ⟨d, Γ2, h, q⟩ => ?_⟩
  dsimp only at q
  split at q
  · exact ⟨_, Γ2, h, q.1.1, q.1.2, q.2⟩
  · exact q.elim
def wExt (i : Nat) (we : WE) : WE := fun Γ Ψ Ξ => ∃ ds0, Γ[i]? = some (some (.own ds0)) ∧ we Γ (fun r Γ1 => ∃ es ds, r = .new es ∧ Γ1[i]? = some (some (.own ds)) ∧ ds.length + es.length ≤ sizeLine ∧ Ψ (.val .non) (Γ1.set i (some (.own (ds ++ es))))) Ξ
def newR (r : R) (k : List D → Prop) (_ : Tg k := ⟨⟩) : Prop := ∃ es, r = .new es ∧ k es
theorem newR_new {es : List D} {k : List D → Prop} : newR (.new es) k = k es := propext ⟨fun ⟨_, e, h⟩ => by cases e; exact h, fun h => ⟨_, rfl, h⟩⟩
theorem ext_ap {i : Nat} {we : WE} {Γ : Gm} {Φ : R → Gm → Prop} {Ξ : XD → Prop} : wExt i we Γ Φ Ξ = ownR Γ i fun _ => we Γ (fun r Γ1 => newR r fun es => ownR Γ1 i fun ds => sideR (ds.length + es.length ≤ sizeLine) (goR (Φ (.val .non)) (Γ1.set i (some (.own (ds ++ es)))))) Ξ := by
  unfold wExt ownR newR sideR goR
  simp only [exists_and_left]
end
section
structure IsC (K : PySem.W.Frag) (c d : Str) (b : Bool) : Prop where
  at_ : PySem.W.nsIn K mainGlobals c = some (some (.ref (CA K c)))
  hg : PySem.W.plainGet K (CA K c) "__class__" = true
  hd : PySem.W.hasDictIn K (CA K c) = true
  ha : PySem.W.findIn K (.ref (CA K c)) "__class__" = some (some (.builtin "object.__class__"))
  hn : PySem.W.specialIn K (.builtin "object.__class__") "__get__" = some (some (.builtin "getset_descriptor.__get__"))
  tk : PySem.W.takesIn K (.builtin "object.__class__") = some true
  mr : PySem.W.mroIn K (CA K c) (.type "object") = some true
  ki : PySem.W.kitOne K (.ref (CA K c)) (.ref (CA K d)) = some b
variable {X : Cx} {T : Tb} {E : XK} {c d : Str} {b : Bool} {e : Expr} {t : TE} {w : WE} {pos p1 p2 : Pos}
end
section
variable {x y z : D} {Ψ : R → Prop}
end
end Dt
set_option Elab.async false
set_option linter.all false
set_option maxRecDepth 100000
set_option maxHeartbeats 1000000
set_option autoImplicit false
namespace Dt
open PySem L2 Kx
abbrev Rw := Str × List (Int × Int)
def rwD (r : Rw) : D := .tup [.str r.1, .tup (r.2.map frD)]
def tblD (ss : List Str) (rs : List Rw) : D := .tup [.tup (ss.map D.str), .tup (rs.map rwD)]
def NumOk (p : Int × Int) : Prop := Lw p.1 p.2 ∧ p.2 ∣ 10 ^ 6 ∧ -(4 * 10 ^ 12 * p.2) < p.1 ∧ p.1 < 4 * 10 ^ 12 * p.2
def un (p : Int × Int) : Int := p.1 * 10 ^ 12 / p.2
theorem NumOk.pos {p : Int × Int} (h : NumOk p) : 1 ≤ p.2 ∧ p.2 ≤ 10 ^ 6 := by
  have := h.1.1
  have := Int.le_of_dvd (by decide) h.2.1
  omega
theorem NumOk.bd {p : Int × Int} (h : NumOk p) : Bd 100 p.1 ∧ Bd 100 p.2 := by
  have := h.pos
  obtain ⟨_, _, h1, h2⟩ := h
  exact ⟨Bd.mono (m := 80) (by unfold Bd; omega) (by decide), Bd.mono (m := 80) (by unfold Bd; omega) (by decide)⟩
theorem un_eq {p : Int × Int} (h : NumOk p) : un p * p.2 = p.1 * 10 ^ 12 := by
  unfold un
  have hd : p.2 ∣ p.1 * 10 ^ 12 := Int.dvd_trans h.2.1 (Int.dvd_trans (show (10 : Int) ^ 6 ∣ 10 ^ 12 by decide) (Int.dvd_mul_left ..))
  exact Int.ediv_mul_cancel hd
theorem un_bd {p : Int × Int} (h : NumOk p) : -(4 * 10 ^ 24) < un p ∧ un p < 4 * 10 ^ 24 := by
  have e := un_eq h
  have hp := h.pos
  obtain ⟨_, _, h1, h2⟩ := h
  constructor
  · refine Int.lt_of_mul_lt_mul_right (a := p.2) ?_ (by omega)
    rw [e]
    omega
  · refine Int.lt_of_mul_lt_mul_right (a := p.2) ?_ (by omega)
    rw [e]
    omega
theorem un_dvd {p : Int × Int} (h : NumOk p) : (10 : Int) ^ 6 ∣ un p := by
  obtain ⟨k, hk⟩ := h.2.1
  have hp := h.pos
  have e := un_eq h
  refine ⟨p.1 * k, ?_⟩
  have : un p * p.2 = (10 ^ 6 * (p.1 * k)) * p.2 := by
    rw [e, show (10 : Int) ^ 12 = 10 ^ 6 * 10 ^ 6 by decide]
    conv => lhs; rw [show (10 : Int) ^ 6 * 10 ^ 6 = (p.2 * k) * 10 ^ 6 by rw [← hk]]
    simp only [Int.mul_comm, Int.mul_left_comm, Int.mul_assoc]
  exact Int.eq_of_mul_eq_mul_right (by omega) this
def CU (u v s : Int) : Int := -(-v / s) - u / s + 1
def tkU (u v : Int) : Int := if u = v then (if v = 0 then 10 ^ 12 else v + (if v < 0 then -v else v)) else v
def StpU (u v m : Int) (j : Nat) : Prop := CU u v (Kx.R j) ≤ m ∧ ∀ i, i < j → m < CU u v (Kx.R i)
def mkP (x : Int) : Int × Int := (lowT x (10 ^ 12), lowB x (10 ^ 12))
theorem StpU.uniq {u v m : Int} {i j : Nat} (h : StpU u v m i) (h' : StpU u v m j) : i = j := by
  rcases Nat.lt_trichotomy i j with z | z | z
  · have := h'.2 i z
    have := h.1
    omega
  · exact z
  · have := h.2 j z
    have := h'.1
    omega
structure Un (t b u : Int) : Prop where
  b0 : 0 < b
  eq : u * b = t * 10 ^ 12
end Dt
set_option Elab.async false
set_option linter.all false
set_option maxRecDepth 100000
set_option maxHeartbeats 1000000
set_option autoImplicit false
namespace Dt
open PySem L2 Kx
end Dt
set_option Elab.async false
set_option linter.all false
set_option maxRecDepth 100000
set_option maxHeartbeats 1000000
set_option autoImplicit false
namespace Dt
open PySem L2 Kx
structure TblOk (ss : List Str) (rs : List Rw) : Prop where
  s0 : 1 ≤ ss.length
  s1 : ss.length ≤ 4
  sok : ∀ s ∈ ss, TxOk 30 s
  r0 : 1 ≤ rs.length
  r1 : rs.length ≤ 12
  rok : ∀ r ∈ rs, TxOk 30 r.1 ∧ r.2.length = ss.length ∧ ∀ p ∈ r.2, NumOk p
  rb : ∀ r ∈ rs, ∀ p ∈ r.2, -(10 ^ 12 * p.2) < p.1 ∧ p.1 < 10 ^ 12 * p.2
def nums (rs : List Rw) : List (Int × Int) := rs.flatMap (·.2)
def IsMin (m : Int) (us : List Int) : Prop := m ∈ us ∧ ∀ y ∈ us, m ≤ y
def IsMax (m : Int) (us : List Int) : Prop := m ∈ us ∧ ∀ y ∈ us, y ≤ m
theorem IsMin.uniq {m n : Int} {us : List Int} (h : IsMin m us) (h' : IsMin n us) : m = n := by
  have := h.2 n h'.1
  have := h'.2 m h.1
  omega
theorem IsMax.uniq {m n : Int} {us : List Int} (h : IsMax m us) (h' : IsMax n us) : m = n := by
  have := h.2 n h'.1
  have := h'.2 m h.1
  omega
theorem nums_ok {ss : List Str} {rs : List Rw} (h : TblOk ss rs) : ∀ p ∈ nums rs, NumOk p := fun p hp => by
  obtain ⟨r, hr, hp⟩ := List.mem_flatMap.mp hp
  exact (h.rok r hr).2.2 p hp
theorem ones_sum : ∀ l : List Nat, ((l.map fun c => (⟨#[c]⟩ : Str)).map (·.length)).sum = l.length
  | [] => rfl
  | c :: l => by
    rw [List.map_cons, List.map_cons, List.sum_cons, ones_sum l, List.length_cons, Nat.add_comm]
    rfl
theorem at_some {α : Type} {f : α → D} {P : α → Prop} {v : Int} (zs : List α) (h0 : 0 ≤ v) (h1 : v < zs.length) (hp : ∀ z ∈ zs, P z) : ∃ m, P m ∧ atI (zs.map f) v = some (f m) := by
  obtain ⟨z, hz, ha⟩ := at_in (ds := zs.map f) h0 (by simpa using h1)
  obtain ⟨m, hm, rfl⟩ := List.mem_map.mp hz
  exact ⟨m, hp m hm, ha⟩
def wf__law_names : WF := fun ds row Ψ Ξ => ∃ (m N : Int), ds = [.int m] ∧ RowD N row ∧ 0 ≤ N ∧ N < 2 ^ 40 ∧ 1 ≤ m ∧ m ≤ 12 ∧ ∀ (ss : List Str) row', (ss.length : Int) = m → (∀ s ∈ ss, TxOk 30 s) → RowD (N + 100) row' → Ψ (.new (ss.map .str)) row'
def wf__law_number : WF := fun ds row Ψ Ξ => ∃ (k N : Int) (b : Bool), ds = [.int k, .bl b] ∧ RowD N row ∧ 0 ≤ N ∧ N < 2 ^ 40 ∧ 0 ≤ k ∧ k < 6 ∧ ∀ p row', (NumOk p ∧ -(10 ^ 12 * p.2) < p.1 ∧ p.1 < 10 ^ 12 * p.2) → (b = false → 0 ≤ p.1) → RowD (N + 10) row' → Ψ (.val (frD p)) row'
def wf__law_table : WF := fun ds row Ψ Ξ => ∃ (N : Int) (b : Bool), ds = [.bl b] ∧ RowD N row ∧ 0 ≤ N ∧ N < 2 ^ 39 ∧ ∀ (ss : List Str) (rs : List Rw) row', TblOk ss rs → (b = false → ∀ p ∈ nums rs, 0 ≤ p.1) → RowD (N + 1000) row' → Ψ (.val (tblD ss rs)) row'
theorem R75 : Kx.R 75 = 10 ^ 25 := by decide +kernel
theorem tkU_bd {u v : Int} (h0 : -(4 * 10 ^ 24) < u) (h1 : u ≤ v) (h2 : v < 4 * 10 ^ 24) : -(10 ^ 25) < tkU u v ∧ tkU u v < 10 ^ 25 := by
  unfold tkU
  split
  · split
    · decide
    · split <;> omega
  · omega
theorem CU_top {u V : Int} (h0 : -(10 ^ 25) < u) (h2 : V < 10 ^ 25) : CU u V (Kx.R 75) ≤ 3 := by
  unfold CU
  rw [R75]
  omega
theorem units_ok {ss : List Str} {rs : List Rw} {z : List Int} {x : Int} (h : TblOk ss rs) (hz : z = [0] ∨ z = []) (hx : x ∈ z ++ (nums rs).map un) : -(4 * 10 ^ 24) < x ∧ x < 4 * 10 ^ 24 ∧ (10 ^ 6 : Int) ∣ x := by
  have key : ∀ y ∈ (nums rs).map un, -(4 * 10 ^ 24) < y ∧ y < 4 * 10 ^ 24 ∧ (10 ^ 6 : Int) ∣ y := fun y hy => by
    obtain ⟨p, hp, rfl⟩ := List.mem_map.mp hy
    have := nums_ok h p hp
    exact ⟨(un_bd this).1, (un_bd this).2, un_dvd this⟩
  rcases List.mem_append.mp hx with q | q
  · rcases hz with rfl | rfl
    · cases List.mem_singleton.mp q
      decide
    · cases q
  · exact key x q
end Dt
set_option Elab.async false
set_option linter.all false
set_option maxRecDepth 100000
set_option maxHeartbeats 1000000
set_option autoImplicit false
namespace L2
open PySem PySem.Spec PyProof.Rows
structure FnScopeS (N P : List Str) (sc : Scope) : Prop where
  kind : sc.kind = .function
  co : sc.isCoroutine = false
  gen : sc.isGenerator = false
  nd : N.Nodup
  pre : N.take P.length = P
  par : ∀ x ∈ P, sc.names.lookup x = some .local
  nocell : ∀ y ∈ sc.names, y.2 ≠ .cell
  free : ∀ y ∈ sc.names, y.2 = .free → y.1 = "__class__"
def cxS (CX : CXT) (P : Program) (w : World) (K : PySem.W.Frag) (mg : Str → Option Value) (base : Heap) (N : List Str) (qual : Str) (scope : Scope) (f : Addr) (cd : Value) (cc : Addr) (A : Around) (outer : List Env) (s : Shared) (H : Hp) (E : XK) : Cx where
  prog := P
  w := w
  K := K
  mg := mg
  base := base
  A := A.deeper (PySem.W.ksEnv qual scope s.heap.objs.size f cd cc)
  N := N
  s_0 := s
  H_0 := H
  env := PySem.W.ksEnv qual scope s.heap.objs.size f cd cc
  outer := outer
  stack := PySem.W.ksEnv qual scope s.heap.objs.size f cd cc :: outer
  ex := []
  calm := true
  fn := fun _ => false
  pn := []
  xe := fun e s' => wpAny (model P w) (A.deeper (PySem.W.ksEnv qual scope s.heap.objs.size f cd cc)) (leaving (PySem.W.ksEnv qual scope s.heap.objs.size f cd cc) e) (fun _ s'' => CX outer H s E e s'') (fun e' s'' => CX outer H s E e' s'') s'
theorem look_of {y : Str} {u : Value} : ∀ {l : List (Str × Value)}, (y, u) ∈ l → (∀ v, (y, v) ∈ l → v = u) → l.lookup y = some u
  | [], h, _ => by cases h
  | (z, v) :: l, h, hu => by
    rw [List.lookup_cons]
    cases e : y == z with
    | true =>
      have := beq_iff_eq.mp e
      subst this
      rw [hu v (.head _)]
    | false =>
      dsimp only
      rcases List.mem_cons.mp h with q | q
      · cases q
        rw [beq_self_eq_true] at e
        cases e
      · exact look_of q fun v' hv => hu v' (.tail _ hv)
theorem zip_rev {ps : List Str} {us : List Value} {i : Nat} {y : Str} {u : Value} (nd : ps.Nodup) (h1 : ps[i]? = some y) (h2 : us[i]? = some u) : (ps.zip us).reverse.lookup y = some u := by
  have key : ∀ v, (y, v) ∈ ps.zip us → v = u := fun v hv => by
    obtain ⟨j, hj⟩ := List.getElem?_of_mem hv
    rw [List.getElem?_zip_eq_some] at hj
    have : i = j := by
      obtain ⟨a1, a2⟩ := List.getElem?_eq_some_iff.mp h1
      obtain ⟨b1, b2⟩ := List.getElem?_eq_some_iff.mp hj.1
      have pw := List.pairwise_iff_getElem.mp nd
      rcases Nat.lt_trichotomy i j with z | z | z
      · exact absurd (a2.trans b2.symm) (pw i j a1 b1 z)
      · exact z
      · exact absurd (b2.trans a2.symm) (pw j i b1 a1 z)
    subst this
    rw [h2] at hj
    exact (Option.some.inj hj.2).symm
  exact look_of (List.mem_reverse.mpr (List.mem_of_getElem? (List.getElem?_zip_eq_some.mpr ⟨h1, h2⟩))) fun v hv => key v (List.mem_reverse.mp hv)
theorem start_at {N : List Str} {vs : List V} {i : Nat} {v : V} (h : (start N vs)[i]? = some (some v)) : vs[i]? = some v := by
  unfold start at h
  rcases Nat.lt_or_ge i vs.length with z | z
  · rw [List.getElem?_append_left (by rw [List.length_map]; exact z), List.getElem?_map] at h
    obtain ⟨a, h1, h2⟩ := Option.map_eq_some_iff.mp h
    rw [h1, Option.some.inj h2]
  · rw [List.getElem?_append_right (by rw [List.length_map]; exact z)] at h
    exact absurd (List.mem_of_getElem? h) fun y => by cases (List.mem_replicate.mp y).2
section
variable {CX : CXT} {P : Program} {w : World} {K : PySem.W.Frag} {mg : Str → Option Value} {base : Heap} {N ps : List Str} {qual : Str} {scope : Scope} {f cc : Addr} {cd : Value} {A : Around} {outer : List Env} {s : Shared} {H : Hp} {E : XK} {us : List Value} {vs : List V}
theorem inv_startS {h1 : Heap} {tk : Nat} {ocell : Obj} {vc : Option Value} (S : FnScopeS N ps scope) (hd : A.handled = none) (e0 : Env0 P w K mg base A outer s H) (hl : vs.length = ps.length) (r : Vals vs us) (hcc : K.lookup cc = some ocell) (hcv : ocell.data = .cell vc)
    (hns : h1.Ns s.heap.objs.size (fun x => (ps.zip us).reverse.lookup x)) (hk : ∀ b o, s.heap.get? b = some o → h1.get? b = some o) :
    Inv (cxS CX P w K mg base N qual scope f cd cc A outer s H E) [] (start N vs) H { s with heap := h1, toks := tk } := by
  have hpl : ps.length ≤ N.length := by have := congrArg List.length S.pre; rw [List.length_take] at this; omega
  have noA : ∀ b : Addr, b ∉ (cxS CX P w K mg base N qual scope f cd cc A outer s H E).ex := fun b z => absurd (show b ∈ ([] : List Addr) from z) (by simp)
  have one : ∀ (y : Str) (c : Addr), (cxS CX P w K mg base N qual scope f cd cc A outer s H E).env.cells.lookup y = some c → y = "__class__" ∧ c = cc := fun y c h => by
    have h : ([("__class__", cc)] : List (Str × Addr)).lookup y = some c := h
    rw [List.lookup_cons] at h
    split at h
    · rename_i e
      exact ⟨beq_iff_eq.mp e, (Option.some.inj h).symm⟩
    · cases h
  have bcc := e0.bs cc ocell (e0.mod.kin _ _ hcc)
  refine ⟨⟨e0.mod, S.kind, rfl, rfl, Nat.le_refl _, fun y z c h1 h2 => (one y c h1).1.trans (one z c h2).1.symm, fun y hy => ?_, fun y c h _ => (by cases h), fun _ => hd, Around.frames_deeper e0.frames, .inr ⟨rfl, rfl⟩, fun b z => absurd z (noA b), e0.bs, e0.bsz, fun b _ _ => noA b, fun b z => absurd z (noA b), e0.funs, e0.frf⟩,
    rfl, e0.bare, Un.kept hk, ⟨_, hns, fun i y v h1 h2 h3 => ?_⟩, fun y c h => ?_, e0.hok.fresh (Nat.le_refl _), fun y c h => ?_, fun p hp => absurd (show p ∈ ([] : List (Addr × Obj)) from hp) (by simp), e0.hok.kept hk, ?_⟩
  · have hy : scope.names.lookup y = some .cell ∨ scope.names.lookup y = some .free := hy
    rcases hy with hy | hy
    · exact absurd rfl (S.nocell _ (PySem.mem_of_lookup hy))
    · have e : y = "__class__" := S.free _ (PySem.mem_of_lookup hy) rfl
      subst e
      exact ⟨cc, rfl⟩
  · have ha := start_at h2
    obtain ⟨u, hu, rv⟩ := r.get ha
    have hp : ps[i]? = some y := by
      have hi : i < vs.length := (List.getElem?_eq_some_iff.mp ha).1
      rw [← S.pre, List.getElem?_take_of_lt (by omega)]; exact h1
    have ndP : ps.Nodup := by rw [← S.pre]; exact S.nd.sublist (List.take_sublist _ _)
    exact ⟨u, rv, .inl ⟨S.par y (List.mem_of_getElem? hp), zip_rev ndP hp hu⟩⟩
  · obtain ⟨_, rfl⟩ := one y c h
    exact ⟨vc, ocell, hk _ _ bcc.1, hcv⟩
  · obtain ⟨_, rfl⟩ := one y c h
    exact bcc.2
  · show (start N vs).length = N.length
    unfold start
    rw [List.length_append, List.length_map, List.length_replicate]
    omega
end
def PSsAt (X : Cx) (body st : List Stmt) (t : TS) : Prop :=
  ∀ (pins : List (Addr × Obj)) (s : Shared) (σ : St) (H : Hp) (D : Ends), Inv X pins σ H s → t D σ H → PySem.wpAt (model X.prog X.w) X.A (.func body X.env) (execs st X.env) (SP X pins D) X.xe s
theorem fn_ofS {CX : CXT} {P : Program} {w : World} {K : PySem.W.Frag} {mg : Str → Option Value} {base : Heap} {k : Nat} {f cc : Addr} {name qual : Str} {params : Arguments} {body : List Stmt} {scope : Scope} {dV kV doc pm cdv ct oc : Value} {an od : Option Addr}
    {osl : Array (Option Value)} {N ps : List Str} {sp : Sp} {ocell : Obj} {vc : Option Value} (lk : K.lookup f = some ⟨oc, od, .func (PySem.W.ksFn name qual params body scope dV kV doc pm an cdv ct cc), osl⟩) (hcd : PySem.W.codeIn K cdv qual = true) (S : FnScopeS N ps scope)
    (hcc : K.lookup cc = some ocell) (hcv : ocell.data = .cell vc)
    (len : ∀ vs H Q E, sp vs H Q E → vs.length = ps.length)
    (hbody : ∀ (A : Around) (outer : List Env) (s : Shared) (H : Hp) (vs : List V) (Q : VK) (E : XK), Room k (A.deeper (PySem.W.ksEnv qual scope s.heap.objs.size f cdv cc)) → sp vs H Q E →
      ∃ t, PSsAt (cxS CX P w K mg base N qual scope f cdv cc A outer s H E) body body t ∧ t { nx := fun _ H' => Q .non H', rt := Q } (start N vs) H) :
    FnOk P w K mg base CX (k + 1) f (PySem.W.ksFn name qual params body scope dV kV doc pm an cdv ct cc) ps sp := by
  refine ⟨len, fun A outer s H args us vs Q E hr e0 hb r hsp => ?_⟩
  have hl := len _ _ _ _ hsp
  have KX : K.In s.heap := e0.mod.kin.keeps fun b o e => (e0.bs b o e).1
  have lim : s.heap.NoLimit := e0.mod.nolimit.keeps fun b o e => (e0.bs b o e).1
  have hloc : ∀ y ∈ ps.zip us, scope.names.lookup y.1 = some .local := fun ⟨n, v⟩ hy => S.par n (List.of_mem_zip hy).1
  refine ks_codeAny_call_defAt (fd := PySem.W.ksFn name qual params body scope dV kV doc pm an cdv ct cc) (body := body) hr.depth (KX _ _ lk) rfl lim (PySem.W.codeRec_of KX hcd) rfl hb S.nocell hloc (fun h₀ hns hk => ?_) S.co S.gen S.kind
  obtain ⟨t, ht, hq⟩ := hbody A outer s H vs Q E (hr.deeper _) hsp
  have I : Inv (cxS CX P w K mg base N qual scope f cdv cc A outer s H E) [] (start N vs) H { s with heap := h₀, toks := s.toks + (ps.zip us).length } := inv_startS S hr.hd e0 hl r hcc hcv hns hk
  refine ks_wpAt_mono (ht [] _ (start N vs) H _ I hq) (fun fl s' hs => ?_) fun e s' hs => hs
  have fin : ∀ {σ' : St} {H' : Hp} {v : V} {u : Value}, Inv (cxS CX P w K mg base N qual scope f cdv cc A outer s H E) [] σ' H' s' → RelV v u → Q v H' → CE outer P w H s Q u s' :=
    fun {σ' H' v u} J rv q => ⟨v, H', J.os, J.bare, J.base, J.hok, rv, q⟩
  cases fl with
  | ret u =>
    obtain ⟨v, σ', H', J, rv, q⟩ := hs
    exact fin J rv q
  | next =>
    obtain ⟨σ', H', J, q⟩ := hs
    exact fin (v := V.non) (u := Value.none) J rfl q
  | brk =>
    obtain ⟨_, _, _, q⟩ := hs
    exact False.elim q
  | cont =>
    obtain ⟨_, _, _, q⟩ := hs
    exact False.elim q
structure SupK (X : Cx) (C : Addr) (m : Str) (f2 : Addr) : Prop where
  fn : ∃ f fd oc od osl ar, X.env.func = some f ∧ X.K.lookup f = some ⟨oc, od, .func fd, osl⟩ ∧ (fd.params.posonlyargs ++ fd.params.args).head? = some ar ∧ X.N[0]? = some ar.arg ∧ X.env.scope.names.lookup ar.arg = some .local
  code : ∃ cda ccl cdd vs ccs file tf, X.env.code = .ref cda ∧ X.K.lookup cda = some ⟨ccl, cdd, .fields vs, ccs⟩ ∧ vs[2]? = some (.str file tf) ∧ ((X.prog.main.file : Str) == file) = true
  cell : ∃ cc cl cld csl, X.env.cells.lookup ("__class__" : Str) = some cc ∧ X.K.lookup cc = some ⟨cl, cld, .cell (some (.ref C)), csl⟩
  cls : ∃ cd, PySem.W.clsIn X.K C = some cd
  sub : PySem.W.mroIn X.K C (.ref C) = some true
  glob : X.mg "super" = none
  ks : X.env.scope.names.lookup ("super" : Str) = some .globalImplicit
  kc : X.env.scope.names.lookup ("__class__" : Str) = some .free
  top : (X.prog.main.scope.names.lookup ("super" : Str)).isSome = false
  nm : (m == ("__class__" : Str)) = false
  opq : PySem.W.nsIn X.K cStatics "thirdparty.any" = some none
  find : PySem.W.ks_superIn X.K C C m = some (some (.ref f2))
  ty : PySem.W.typeIn X.K (.ref f2) = some (.type "function")
  isf : PySem.W.fnIn X.K f2 = true
theorem boot_super : bootBuiltins "super" = some (.type "super") := by decide +kernel
section
variable {X : Cx} {C f2 a dx : Addr} {m : Str} {pins : List (Addr × Obj)} {σ : St} {H : Hp} {s : Shared} {fs : List (Str × V)} {body : List Stmt} {p0 p1 : Pos} {whole : Sem Value} {Q : Value → Shared → Prop} {E : Value → Shared → Prop}
end
def PEAt (X : Cx) (body : List Stmt) (e : Expr) (t : TE) : Prop := ∀ (pins : List (Addr × Obj)) (s : Shared) (σ : St) (H : Hp) (Q : VK), Inv X pins σ H s → t σ H Q → PySem.wpAt (model X.prog X.w) X.A (.func body X.env) (eval e X.env) (EP X pins σ Q) X.xe s
section
variable {X : Cx} {CX : CXT} {C f2 : Addr} {fd : FuncData} {k : Nat} {m : Str} {ps : List Str} {sp : Sp} {E : XK} {body : List Stmt} {e : Expr} {es : List Expr} {p0 p1 apos pos : Pos} {ta : TA} {te : TE} {t : TS} {rest : List Stmt}
theorem pa_expr (h : PEAt X body e te) (h' : PSs X rest t) (hi : interactive X.env = false) (hs : swapsWith e none pos.line X.env = pure false) : PSsAt X body (.Expr e pos :: rest) (tSeq (tDrop te) t) := by
  intro pins s σ H D I hw
  refine ks_wpAt_execs_cons (ks_wpAt_Expr_any (ks_wpAt_mono (h pins s σ H _ I hw) (fun v s' hv => ?_) fun _ _ z => z) hi hs)
  obtain ⟨v', H', I', r, q⟩ := hv
  exact wpAt_of_wpAny (h' pins s' σ H' D I' q)
end
end L2
namespace Dt
open PySem L2 Kx
section
variable {T : Tb} {E : XK} {m c : Str} {wf : WF} {C : Addr} {tA : TA} {wA : WA}
end
structure QEAt (X : Cx) (T : Tb) (E : XK) (body : List Stmt) (e : Expr) (t : TE) (w : WE) : Prop where
  pe : PEAt X body e t
  ed : ED T E t w
section
variable {X : Cx} {T : Tb} {CX : CXT} {E : XK} {C f2 : Addr} {fd : FuncData} {k j : Nat} {m c : Str} {ps ns : List Str} {wf : WF} {wm : WM} {body : List Stmt} {e : Expr} {es : List Expr} {p0 p1 apos pos : Pos} {tA : TA} {wA : WA}
end
section
variable {P : Program} {wd : World} {K : PySem.W.Frag} {mg : Str → Option Value} {base : Heap} {x qual m : Str} {st : Stmt} {f cc cda C f2 : Addr} {N ps ns : List Str} {k : Nat} {ts : List Addr} {ls : List (Addr × Pos × Str)} {wf : WF} {kV doc pm ct oc : Value} {an od : Option Addr} {osl : Array (Option Value)} {cl : Value} {cld : Option Addr} {csl : Array (Option Value)}
theorem PSsAt_nox {X : Cx} {body st : List Stmt} {t : TS} (h : PSsAt X.nox body st t) : PSsAt X body st t := fun pins s σ H D I hw =>
  ks_wpAt_mono (h pins s σ H D (I.wish _) hw) (fun _ _ q => q.unwish) fun _ _ z => False.elim z
structure SupD (P : Program) (K : PySem.W.Frag) (mg : Str → Option Value) (N : List Str) (st : Stmt) (x qual : Str) (f cc cda C : Addr) (m : Str) (f2 : Addr) (fd : FuncData) : Prop where
  lk : ∃ oc od kV doc pm an ct osl, fd = PySem.W.ksFn x qual (defArgs st) (defBody st) (defScope st) .none kV doc pm an (.ref cda) ct cc ∧ K.lookup f = some ⟨oc, od, .func fd, osl⟩
  cdo : PySem.W.codeIn K (.ref cda) qual = true
  par : ∃ ar, ((defArgs st).posonlyargs ++ (defArgs st).args).head? = some ar ∧ N[0]? = some ar.arg ∧ (defScope st).names.lookup ar.arg = some .local
  code : ∃ ccl cdd vs ccs file tf, K.lookup cda = some ⟨ccl, cdd, .fields vs, ccs⟩ ∧ vs[2]? = some (.str file tf) ∧ ((P.main.file : Str) == file) = true
  cell : ∃ cl cld csl, K.lookup cc = some ⟨cl, cld, .cell (some (.ref C)), csl⟩
  cls : ∃ cd, PySem.W.clsIn K C = some cd
  sub : PySem.W.mroIn K C (.ref C) = some true
  glob : mg "super" = none
  ks : (defScope st).names.lookup ("super" : Str) = some .globalImplicit
  kc : (defScope st).names.lookup ("__class__" : Str) = some .free
  top : (P.main.scope.names.lookup ("super" : Str)).isSome = false
  nm : (m == ("__class__" : Str)) = false
  opq : PySem.W.nsIn K cStatics "thirdparty.any" = some none
  find : PySem.W.ks_superIn K C C m = some (some (.ref f2))
  ty : PySem.W.typeIn K (.ref f2) = some (.type "function")
  isf : PySem.W.fnIn K f2 = true
theorem startI_rp {T : Tb} {F H : Hp} {y : Addr} {vs : List V} {ds : List D} (ok : Ok T F H) (hn : ds.length + 1 ≤ N.length) (r : RepA T.K F vs ds) : Rp T F (start N (.ref y :: vs)) H (startI N.length ds) ∧ ∀ (i : Nat) (es : List D), (startI N.length ds)[i]? ≠ some (some (En.own es)) := by
  have hl := r.length
  have at0 : ∀ (i : Nat) (e : En), (startI N.length ds)[i]? = some (some e) → ∃ v d, (start N (.ref y :: vs))[i]? = some (some v) ∧ e = .shr d ∧ Rep T.K F v d := fun i e h => by
    cases i with
    | zero => simp [startI] at h
    | succ i =>
      obtain ⟨v, d, g1, g2, g3⟩ := shr_at (m := N.length - (vs.length + 1)) (i := i) (e := e) r (by simpa [startI] using h)
      exact ⟨v, d, by simpa [L2.start] using g1, g2, g3⟩
  refine ⟨⟨ok, ?_, fun i e h => ?_, fun i j es es' v h1 _ _ _ => ?_⟩, fun i es h => ?_⟩
  · show (none :: (ds.map fun d => some (En.shr d)) ++ List.replicate (N.length - (ds.length + 1)) none).length = ((V.ref y :: vs).map some ++ List.replicate (N.length - (V.ref y :: vs).length) none).length
    simp [hl]
  · obtain ⟨v, d, g1, rfl, g3⟩ := at0 i e h
    exact ⟨v, g1, g3⟩
  · obtain ⟨_, _, _, z, _⟩ := at0 i _ h1
    cases z
  · obtain ⟨_, _, _, z, _⟩ := at0 i _ h
    cases z
end
section
variable {X : Cx} {T : Tb} {CX : CXT} {E : XK} {k : Nat} {e : Expr} {es : List Expr} {p pos : Pos} {tA : TA} {wA : WA} {x : Str}
end
end Dt
set_option Elab.async false
set_option linter.all false
set_option maxRecDepth 100000
set_option maxHeartbeats 1000000
set_option autoImplicit false
namespace Dt
open PySem L2 Kx
def NonNeg (rs : List Rw) : Prop := ∀ p ∈ nums rs, 0 ≤ p.1
def rowU (r : Rw) : Int := (r.2.map un).sum
def pre (fs : List (Int × Int)) (k : Nat) : Int := ((fs.take k).map un).sum
theorem pre_succ {fs : List (Int × Int)} {k : Nat} {p : Int × Int} (h : fs[k]? = some p) : pre fs (k + 1) = pre fs k + un p := by
  unfold pre
  rw [List.take_add_one, h, List.map_append, List.sum_append]
  simp
def Sml (p : Int × Int) : Prop := NumOk p ∧ 0 ≤ p.1 ∧ p.1 < 10 ^ 12 * p.2
theorem sml_un {p : Int × Int} (h : Sml p) : 0 ≤ un p ∧ un p ≤ 10 ^ 24 - 1 := by
  have e := un_eq h.1
  have hp := h.1.pos
  obtain ⟨_, h1, h2⟩ := h
  constructor
  · refine Int.le_of_mul_le_mul_right (a := p.2) ?_ (by omega)
    rw [e]
    omega
  · refine Int.le_of_lt_add_one (Int.lt_of_mul_lt_mul_right (a := p.2) ?_ (by omega))
    rw [e]
    omega
theorem pre_bd {fs : List (Int × Int)} (h : ∀ p ∈ fs, Sml p) : ∀ k, k ≤ fs.length → 0 ≤ pre fs k ∧ pre fs k ≤ k * (10 ^ 24 - 1) ∧ (10 ^ 6 : Int) ∣ pre fs k
  | 0, _ => by simp [pre]
  | k + 1, hk => by
    have ih := pre_bd h k (by omega)
    have hp : fs[k]? = some fs[k] := List.getElem?_eq_getElem hk
    have hm := h _ (List.mem_of_getElem? hp)
    have u1 := sml_un hm
    have u2 := un_dvd hm.1
    rw [pre_succ hp]
    refine ⟨by omega, ?_, Int.dvd_add ih.2.2 u2⟩
    have e : ((k + 1 : Nat) : Int) * (10 ^ 24 - 1) = (k : Int) * (10 ^ 24 - 1) + (10 ^ 24 - 1) := by
      rw [show ((k + 1 : Nat) : Int) = (k : Int) + 1 by omega, Int.add_mul, Int.one_mul]
    rw [e]
    omega
theorem tbl_sml {ss : List Str} {rs : List Rw} (h : TblOk ss rs) (hn : NonNeg rs) {r : Rw} (hr : r ∈ rs) : (∀ p ∈ r.2, Sml p) ∧ 1 ≤ r.2.length ∧ r.2.length ≤ 4 := by
  have a := h.rok r hr
  have b := h.s0
  have c := h.s1
  exact ⟨fun p hp => ⟨a.2.2 p hp, hn p (List.mem_flatMap.mpr ⟨r, hr, hp⟩), (h.rb r hr p hp).2⟩, by omega, by omega⟩
theorem row_pre (r : Rw) : rowU r = pre r.2 r.2.length := by
  unfold rowU pre
  rw [List.take_length]
theorem row_ok {ss : List Str} {rs : List Rw} (h : TblOk ss rs) (hn : NonNeg rs) {r : Rw} (hr : r ∈ rs) : 0 ≤ rowU r ∧ rowU r < 4 * 10 ^ 24 ∧ (10 ^ 6 : Int) ∣ rowU r := by
  obtain ⟨a, b, c⟩ := tbl_sml h hn hr
  have d := pre_bd a r.2.length (Nat.le_refl _)
  rw [row_pre]
  refine ⟨d.1, ?_, d.2.2⟩
  have : (r.2.length : Int) * (10 ^ 24 - 1) ≤ 4 * (10 ^ 24 - 1) := Int.mul_le_mul_of_nonneg_right (by omega) (by decide)
  omega
end Dt
set_option Elab.async false
set_option linter.all false
set_option maxRecDepth 100000
set_option maxHeartbeats 1000000
set_option autoImplicit false
namespace Zt
open PySem PySem.Builtin PyProof.Rows
section
variable {prog : Program} {w : World} {A : Around} {E : Value → Shared → Prop} {s : Shared}
end
structure Apart (z TI TO i1 i2 : Addr) (f1 f2 : List Addr) : Prop where
  dist : TI ≠ z ∧ TO ≠ z ∧ i1 ≠ z ∧ i2 ≠ z ∧ TI ≠ TO ∧ TI ≠ i1 ∧ TI ≠ i2 ∧ TO ≠ i1 ∧ TO ≠ i2 ∧ i1 ≠ i2
  one : z ∉ f1 ∧ TO ∉ f1 ∧ i2 ∉ f1
  two : z ∉ f2 ∧ TO ∉ f2 ∧ i1 ∉ f2
section
variable {prog : Program} {w : World} {A : Around} {E : Value → Shared → Prop} {s : Shared} {z TI TO i1 i2 : Addr} {f1 f2 : List Addr} {n1 n2 k : Nat} {P1 P2 : Nat → Value → Prop} {S1 S2 : Nat → Heap → Prop} {a b : Value}
end
end Zt
namespace L2
open PySem PySem.Spec PyProof.Rows
end L2
namespace Dt
open PySem L2 Kx
section
variable {T : Tb} {E : XK} {F H : Hp} {tA : TA} {wA : WA}
variable {X : Cx} {a b : Expr} {pos : Pos}
end
end Dt
set_option Elab.async false
set_option linter.all false
set_option maxRecDepth 100000
set_option maxHeartbeats 1000000
set_option autoImplicit false
namespace Zt
open PySem PySem.Builtin PyProof.Rows
theorem mul_one (l : Addr) (items : Array Value) (n : Nat) (u : Tok) (od : Option Addr) (sl : Array (Option Value)) :
    Meets (Builtin.«tuple.__mul__» ⟨[.ref l, .int 1 u], []⟩) (fun _ R s => s.heap.get? l = some ⟨.type "tuple", od, .seq items n, sl⟩ ∧ R (.ok (.ret (Value.ref l))) s) :=
  .of_wp fun prog w A R s h => by
    obtain ⟨hp, g, d, tk, os⟩ := s
    obtain ⟨hl, h⟩ := h
    have e1 : (items.isEmpty || (1 : Int) == 1) = true := by simp
    wp_walk
    exact ⟨_, rfl, h⟩
end Zt
namespace Dt
open PySem PySem.Spec L2 Kx PyProof.Rows
section
variable {X : Cx} {T : Tb} {F H : Hp}
end
end Dt
set_option Elab.async false
set_option linter.all false
set_option maxRecDepth 100000
set_option maxHeartbeats 1000000
set_option autoImplicit false
namespace Dt
open PySem L2 Kx
def LoHi (c : Str) (rs : List Rw) (lo hi : Int) : Prop :=
  c = "Bars" ∧ IsMin lo ([0] ++ (nums rs).map un) ∧ IsMax hi ([0] ++ (nums rs).map un) ∨ c = "Lines" ∧ IsMin lo ([] ++ (nums rs).map un) ∧ IsMax hi ([] ++ (nums rs).map un) ∨
  c = "Stacks" ∧ NonNeg rs ∧ lo = 0 ∧ IsMax hi (rs.map rowU) ∨ c = "Shares" ∧ NonNeg rs ∧ lo = 0 ∧ hi = 100 * 10 ^ 12
theorem lohi_le {c : Str} {ss : List Str} {rs : List Rw} {lo hi : Int} (h : TblOk ss rs) (hl : LoHi c rs lo hi) : lo ≤ hi := by
  rcases hl with ⟨_, a, b⟩ | ⟨_, a, b⟩ | ⟨_, nn, rfl, b⟩ | ⟨_, _, rfl, rfl⟩
  · exact a.2 _ b.1
  · exact a.2 _ b.1
  · obtain ⟨r, hr, e⟩ := List.mem_map.mp b.1
    rw [← e]
    exact (row_ok h nn hr).1
  · decide
theorem mkP_key (u : Int) : 0 < (mkP u).2 ∧ (mkP u).1 * 10 ^ 12 = u * (mkP u).2 ∧ (mkP u).2 ≤ 10 ^ 12 := by
  have lp := low_pos (t := u) (b := 10 ^ 12) (by decide)
  exact ⟨by show 0 < lowB u (10 ^ 12); omega, low_eq (by decide), lp.2.1⟩
theorem mkP_bd {u : Int} (h : u.natAbs < 2 ^ 95) : Bd 100 (mkP u).1 ∧ Bd 100 (mkP u).2 := by
  obtain ⟨g, g0, e1, e2⟩ := low_mul (t := u) (b := 10 ^ 12) (by decide)
  have k := mkP_key u
  have ht : (mkP u).1.natAbs ≤ u.natAbs := by
    show (lowT u (10 ^ 12)).natAbs ≤ u.natAbs
    conv => rhs; rw [e1, Int.natAbs_mul]
    exact Nat.le_mul_of_pos_left _ (by omega)
  exact ⟨Bd.mono (m := 95) (by unfold Bd; omega) (by decide), Bd.mono (m := 95) (by unfold Bd; omega) (by decide)⟩
theorem sc_ok {u v n : Int} (h0 : u.natAbs < 2 ^ 95) (h1 : v.natAbs < 2 ^ 95) (h : u < v) (n0 : 2 ≤ n) (n1 : n ≤ 40) : ScB (mkP u).1 (mkP u).2 (mkP v).1 (mkP v).2 n := by
  have a := mkP_bd h0
  have b := mkP_bd h1
  have ka := mkP_key u
  have kb := mkP_key v
  refine ⟨a.1, a.2, b.1, b.2, ka.1, kb.1, ?_, n0, n1⟩
  refine Int.lt_of_mul_lt_mul_right (a := 10 ^ 12) ?_ (by decide)
  rw [Int.zero_mul]
  have e1 : (mkP v).1 * (mkP u).2 * 10 ^ 12 = v * ((mkP u).2 * (mkP v).2) := by rw [Int.mul_right_comm, kb.2.1, Int.mul_assoc, Int.mul_comm (mkP v).2]
  have e2 : (mkP u).1 * (mkP v).2 * 10 ^ 12 = u * ((mkP u).2 * (mkP v).2) := by rw [Int.mul_right_comm, ka.2.1, Int.mul_assoc]
  rw [Int.sub_mul, e1, e2, ← Int.sub_mul]
  exact Int.mul_pos (by omega) (Int.mul_pos ka.1 kb.1)
theorem lohi_bd {c : Str} {ss : List Str} {rs : List Rw} {lo hi : Int} (h : TblOk ss rs) (hl : LoHi c rs lo hi) : -(10 ^ 25) < lo ∧ tkU lo hi < 10 ^ 25 := by
  have le := lohi_le h hl
  have b : -(4 * 10 ^ 24) < lo ∧ hi < 4 * 10 ^ 24 := by
    rcases hl with ⟨_, a, b⟩ | ⟨_, a, b⟩ | ⟨_, nn, rfl, b⟩ | ⟨_, _, rfl, rfl⟩
    · exact ⟨(units_ok h (.inl rfl) a.1).1, (units_ok h (.inl rfl) b.1).2.1⟩
    · exact ⟨(units_ok h (.inr rfl) a.1).1, (units_ok h (.inr rfl) b.1).2.1⟩
    · obtain ⟨r, hr, e⟩ := List.mem_map.mp b.1
      rw [← e]
      exact ⟨by decide, (row_ok h nn hr).2.1⟩
    · decide
  have := tkU_bd b.1 le b.2
  omega
theorem tbl_dep {ss : List Str} {rs : List Rw} (h : TblOk ss rs) : Dep 5 (tblD ss rs) := .tup fun d hd => by
  simp only [List.mem_cons, List.not_mem_nil, or_false] at hd
  rcases hd with rfl | rfl
  · exact .tup fun d hd => by
      obtain ⟨s, hs, rfl⟩ := List.mem_map.mp hd
      exact .str (h.sok s hs).2
  · exact .tup fun d hd => by
      obtain ⟨r, hr, rfl⟩ := List.mem_map.mp hd
      exact .tup fun d hd => by
        simp only [List.mem_cons, List.not_mem_nil, or_false] at hd
        rcases hd with rfl | rfl
        · exact .str (h.rok r hr).1.2
        · exact .tup fun d hd => by
            obtain ⟨p, hp, rfl⟩ := List.mem_map.mp hd
            exact fr_dep
section
variable {X : Cx} {T : Tb}
end
end Dt
set_option Elab.async false
set_option linter.all false
set_option maxRecDepth 100000
set_option autoImplicit false
namespace Dt
open PySem L2 Kx
mutual
inductive Nol : D → Prop
  | non : Nol .non
  | bl (b : Bool) : Nol (.bl b)
  | int (i : Int) : Nol (.int i)
  | str (x : Str) : Nol (.str x)
  | tup {ds : List D} : NolA ds → Nol (.tup ds)
  | obj {c : Str} {ns : List Str} {ds : List D} : NolA ds → Nol (.obj c ns ds)
inductive NolA : List D → Prop
  | nil : NolA []
  | cons {d : D} {ds : List D} : Nol d → NolA ds → NolA (d :: ds)
end
theorem NolA.of : ∀ {ds : List D}, (∀ d ∈ ds, Nol d) → NolA ds
  | [], _ => .nil
  | d :: ds, h => .cons (h d (List.mem_cons_self ..)) (NolA.of fun e he => h e (List.mem_cons_of_mem _ he))
theorem Nol.tup_inv {ds : List D} (h : Nol (.tup ds)) : NolA ds := by cases h with | tup h => exact h
theorem Nol.obj_inv {c : Str} {ns : List Str} {ds : List D} (h : Nol (.obj c ns ds)) : NolA ds := by cases h with | obj h => exact h
theorem NolA.inv {d : D} {ds : List D} (h : NolA (d :: ds)) : Nol d ∧ NolA ds := by cases h with | cons h r => exact ⟨h, r⟩
def nlF (F : Hp) : Hp := fun b => match F b with
  | some (.lst _) => none
  | o => o
section
variable {T : Tb} {F F1 F2 F' H H1 H2 H' H0 F0 Fs Hs : Hp} {σ : St} {Γ Γ1 Γ2 Γ' Γn Γs : Gm} {E : XK} {t ta tb tc te : TE} {w wa wb wc we : WE} {ra : Addr} {K : PySem.W.Frag}
theorem nl_of {b : Addr} {o : HO} (h : nlF F b = some o) : F b = some o ∧ ∀ vs, o ≠ .lst vs := by
  unfold nlF at h
  split at h
  · cases h
  · rename_i hn
    exact ⟨h, fun vs z => hn vs (by rw [h, z])⟩
theorem nl_to {b : Addr} {o : HO} (h : F b = some o) (n : ∀ vs, o ≠ .lst vs) : nlF F b = some o := by
  unfold nlF
  split
  · rename_i vs e
    rw [h] at e
    cases e
    exact absurd rfl (n vs)
  · exact h
theorem nl_tup {a : Addr} {vs : List V} (h : SqT K F a vs) : SqT K (nlF F) a vs := by
  rcases h with (h | ⟨o, h⟩) | h
  · exact .inl (.inl (nl_to h fun _ z => by cases z))
  · exact .inl (.inr ⟨o, nl_to h fun _ z => by cases z⟩)
  · exact .inr h
mutual
theorem Rep.nol : ∀ {v : V} {d : D}, Rep K F v d → Nol d → Rep K (nlF F) v d
  | _, _, .non, _ => .non
  | _, _, .bl b, _ => .bl b
  | _, _, .int i, _ => .int i
  | _, _, .str x, _ => .str x
  | _, _, .ty n, _ => .ty n
  | _, _, .scr h r, n => by cases n
  | _, _, .lst h r, n => by cases n
  | _, _, .tup h r, n => .tup (nl_tup h) (RepA.nol r n.tup_inv)
  | _, _, .obj c h r, n => .obj c (nl_to h fun _ z => by cases z) (RepA.nol r n.obj_inv)
theorem RepA.nol : ∀ {vs : List V} {ds : List D}, RepA K F vs ds → NolA ds → RepA K (nlF F) vs ds
  | _, _, .nil, _ => .nil
  | _, _, .cons h r, n => .cons (Rep.nol h n.inv.1) (RepA.nol r n.inv.2)
end
def shrE : Option En → Option En
  | some (.own ds) => some (.shr (.lst ds))
  | e => e
def allShr (Γ : Gm) : Gm := Γ.map shrE
inductive NolG : Gm → Gm → Prop
  | nil : NolG [] []
  | skip {e : Option En} {Γ Γn : Gm} : NolG Γ Γn → NolG (e :: Γ) (none :: Γn)
  | keep {d : D} {Γ Γn : Gm} : Nol d → NolG Γ Γn → NolG (some (.shr d) :: Γ) (some (.shr d) :: Γn)
theorem NolG.len : ∀ {Γ Γn : Gm}, NolG Γ Γn → Γn.length = Γ.length
  | _, _, .nil => rfl
  | _, _, .skip h => congrArg (· + 1) h.len
  | _, _, .keep _ h => congrArg (· + 1) h.len
theorem NolG.get : ∀ {Γ Γn : Gm}, NolG Γ Γn → ∀ (i : Nat) (e : En), Γn[i]? = some (some e) → ∃ d, e = .shr d ∧ Nol d ∧ Γ[i]? = some (some (.shr d))
  | _, _, .nil, i, e, h => by simp at h
  | _, _, .skip g, 0, e, h => by simp at h
  | _, _, .skip g, i + 1, e, h => by
    obtain ⟨d, h1, h2, h3⟩ := g.get i e (by simpa using h)
    exact ⟨d, h1, h2, by simpa using h3⟩
  | _, _, .keep n g, 0, e, h => by simp at h; exact ⟨_, h.symm, n, by simp⟩
  | _, _, .keep n g, i + 1, e, h => by
    obtain ⟨d, h1, h2, h3⟩ := g.get i e (by simpa using h)
    exact ⟨d, h1, h2, by simpa using h3⟩
def NoOw (Γ : Gm) : Prop := ∀ (i : Nat) (ds : List D), Γ[i]? ≠ some (some (.own ds))
theorem NoOw.owns {b : Addr} (h : NoOw Γ) : ¬ Owns σ Γ b := fun ⟨i, ds, e, _⟩ => h i ds e
theorem noOw_all : NoOw (allShr Γ) := fun i ds h => by
  unfold allShr at h
  rw [List.getElem?_map] at h
  cases e : Γ[i]? with
  | none => rw [e] at h; cases h
  | some u =>
    rw [e] at h
    cases u with
    | none => cases h
    | some u => cases u <;> cases h
theorem all_get {i : Nat} {e : En} (h : (allShr Γ)[i]? = some (some e)) : ∃ e', Γ[i]? = some (some e') ∧ e = .shr e'.dat := by
  unfold allShr at h
  rw [List.getElem?_map] at h
  cases q : Γ[i]? with
  | none => rw [q] at h; cases h
  | some u =>
    rw [q] at h
    cases u with
    | none => cases h
    | some u =>
      refine ⟨u, rfl, ?_⟩
      cases u <;> (cases h; rfl)
theorem NoOw.set {x : Nat} {d : D} (h : NoOw Γ) : NoOw (Γ.set x (some (.shr d))) := fun i ds e => by
  by_cases hi : i = x
  · subst hi
    by_cases hl : i < Γ.length
    · rw [List.getElem?_set_self hl] at e; cases e
    · rw [List.getElem?_eq_none (by simpa using hl)] at e; cases e
  · rw [List.getElem?_set_ne (Ne.symm hi)] at e; exact h i ds e
theorem NoOw.drop {x : Nat} (h : NoOw Γ) : NoOw (Γ.set x none) := fun i ds e => by
  by_cases hi : i = x
  · subst hi
    by_cases hl : i < Γ.length
    · rw [List.getElem?_set_self hl] at e; cases e
    · rw [List.getElem?_eq_none (by simpa using hl)] at e; cases e
  · rw [List.getElem?_set_ne (Ne.symm hi)] at e; exact h i ds e
open Classical in
theorem Rs.shr (s : Rs T false H0 F0 ra F σ H Γ) : ∃ F', Same F F' ∧ Rs T false H0 F0 ra F' σ H (allShr Γ) := by
  have p := s.rp
  have ff : Same F (fun b => if Owns σ Γ b then H b else F b) := fun b o h => by
    have no : ¬ Owns σ Γ b := fun z => by
      obtain ⟨_, _, z⟩ := p.owns z
      rw [h] at z
      cases z
    show (if Owns σ Γ b then H b else F b) = some o
    rw [if_neg no]
    exact h
  have get : ∀ b o, (if Owns σ Γ b then H b else F b) = some o → (Owns σ Γ b ∧ H b = some o) ∨ F b = some o := fun b o h => by
    by_cases z : Owns σ Γ b
    · rw [if_pos z] at h; exact .inl ⟨z, h⟩
    · rw [if_neg z] at h; exact .inr h
  refine ⟨fun b => if Owns σ Γ b then H b else F b, ff, ⟨⟨⟨fun b o h => ?_, fun b o h => ?_, p.tabs, p.labs⟩, by unfold allShr; rw [List.length_map]; exact p.len, fun i e h => ?_, fun i j ds ds' v h => absurd h (noOw_all i ds)⟩, fun b o h => ff b o (s.ff b o h), s.en, fun b h => absurd h noOw_all.owns, s.gro, fun b o h => ?_, fun z => by cases z⟩⟩
  · rcases get b o h with ⟨_, z⟩ | z
    · exact z
    · exact p.sub b o z
  · rcases get b o h with ⟨z, y⟩ | z
    · obtain ⟨vs, e, _⟩ := p.owns z
      rw [y] at e
      cases e
      exact lst_nt
    · exact p.nt b o z
  · obtain ⟨e', h1, rfl⟩ := all_get h
    obtain ⟨v, h2, h3⟩ := p.at_ i e' h1
    refine ⟨v, h2, ?_⟩
    cases e' with
    | shr d => exact Rep.mono ff h3
    | own ds =>
      obtain ⟨a, vs, rfl, ha, fa, r⟩ := h3
      refine Rep.lst (vs := vs) ?_ (r.mono ff)
      show (if Owns σ Γ a then H a else F a) = some (.lst vs)
      rw [if_pos ⟨i, ds, h1, h2⟩]
      exact ha
  · rcases get b o h with ⟨z, _⟩ | z
    · rcases s.fr b z with y | y
      · cases y.1
      · exact .inr (.inl y)
    · exact s.nf b o z
theorem Rs.drop {x : Nat} {v : V} (s : Rs T false H0 F0 ra F σ H Γ) : Rs T false H0 F0 ra F (σ.set x (some v)) H (Γ.set x Option.none) := by
  have p := s.rp
  have get : ∀ (i : Nat) (e : En), (Γ.set x Option.none)[i]? = some (some e) → i ≠ x ∧ Γ[i]? = some (some e) := fun i e h => by
    by_cases hi : i = x
    · subst hi
      by_cases hl : i < Γ.length
      · rw [List.getElem?_set_self hl] at h; cases h
      · rw [List.getElem?_eq_none (by simpa using hl)] at h; cases h
    · rw [List.getElem?_set_ne (Ne.symm hi)] at h; exact ⟨hi, h⟩
  have sg : ∀ {i : Nat}, i ≠ x → (σ.set x (some v))[i]? = σ[i]? := fun {i} h => List.getElem?_set_ne (Ne.symm h)
  refine ⟨⟨p.toOk, by simpa using p.len, fun i e h => ?_, fun i j ds ds' u h1 h2 h3 h4 => ?_⟩, s.ff, s.en, fun b ⟨i, ds, h1, h2⟩ => ?_, s.gro, s.nf, fun z => by cases z⟩
  · obtain ⟨h1, h2⟩ := get i e h
    rw [sg h1]
    exact p.at_ i e h2
  · obtain ⟨n1, h1⟩ := get i _ h1
    obtain ⟨n2, h2⟩ := get j _ h2
    rw [sg n1] at h3
    rw [sg n2] at h4
    exact p.apart i j ds ds' u h1 h2 h3 h4
  · obtain ⟨n1, h1⟩ := get i _ h1
    rw [sg n1] at h2
    exact s.fr b ⟨i, ds, h1, h2⟩
structure FrS (T : Tb) (H0 F0 : Hp) (ra : Addr) (x : Nat) (Fs Hs : Hp) (Γs : Gm) (F : Hp) (σ : St) (H : Hp) (Γ : Gm) : Prop where
  base : Rs T false H0 F0 ra Fs σ Hs Γs
  no : NoOw Γs
  cur : Rs T false H0 F0 ra F σ H Γ
  noc : NoOw Γ
  hh : ∀ b o, Hs b = some o → NoT o → H b = some o
  gro : ∀ b o, Hs b = some o → ∃ o', H b = some o'
  xs : ∃ a vs, σ[x]? = some (some (.ref a)) ∧ Hs a = none ∧ F a = some (.lst vs) ∧ 0 < vs.length ∧ vs.length ≤ 1000 ∧ ∀ u ∈ vs, ∃ b ws, u = .ref b ∧ b ≠ a ∧ Hs b = none ∧ F b = some (.lst ws) ∧ ws.length ≤ 1000
theorem FrS.po {x : Nat} (S : FrS T H0 F0 ra x Fs Hs Γs F σ H Γ) (q : Po T F σ H Γ F' H' Γ') : FrS T H0 F0 ra x Fs Hs Γs F' σ H' Γ' where
  base := S.base
  no := S.no
  cur := S.cur.po q
  noc := fun i ds h => let ⟨ds', h'⟩ := q.ow i ds h; S.noc i ds' h'
  hh := fun b o h n => q.fr b o (S.hh b o h n) n S.noc.owns
  gro := fun b o h => let ⟨o', h'⟩ := S.gro b o h; q.gro b o' h'
  xs := by
    obtain ⟨a, vs, h1, h2, h3, h4, h5, h6⟩ := S.xs
    refine ⟨a, vs, h1, h2, q.ff _ _ h3, h4, h5, fun u hu => ?_⟩
    obtain ⟨b, ws, k1, k2, k3, k4, k5⟩ := h6 u hu
    exact ⟨b, ws, k1, k2, k3, q.ff _ _ k4, k5⟩
structure Mst (T : Tb) (H0 F0 : Hp) (ra : Addr) (x m : Nat) (Fs Hs : Hp) (Γs : Gm) (σ : St) (H : Hp) : Prop where
  base : Rs T false H0 F0 ra Fs σ Hs Γs
  no : NoOw Γs
  tabs : ∀ P ∈ T.ts, Tab H P
  labs : ∀ p ∈ T.ls, TabL H p.1 p.2.1 p.2.2
  hh : ∀ b o, Hs b = some o → NoT o → H b = some o
  gro : ∀ b o, Hs b = some o → ∃ o', H b = some o'
  xs : ∃ a vs, σ[x]? = some (some (.ref a)) ∧ Hs a = none ∧ H a = some (.lst vs) ∧ vs.length ≤ m
abbrev WS2 := Gm → WEnds → Gm → Prop
abbrev WS3 := Gm → WEnds → Prop
def FD (T : Tb) (E : XK) (x : Nat) (t : TS) (w : WS2) : Prop := ∀ (H0 F0 : Hp) (ra : Addr) (Fs Hs : Hp) (Γs : Gm) (F : Hp) (σ : St) (H : Hp) (Γ : Gm) (D : Ends) (Ψ : WEnds), FrS T H0 F0 ra x Fs Hs Γs F σ H Γ → w Γs Ψ Γ → EO T false H0 F0 ra E D Ψ → t D σ H
def MuD (T : Tb) (E : XK) (x m : Nat) (t : TS) (w : WS3) : Prop := ∀ (H0 F0 : Hp) (ra : Addr) (Fs Hs : Hp) (Γs : Gm) (σ : St) (H : Hp) (D : Ends) (Ψ : WEnds), Mst T H0 F0 ra x m Fs Hs Γs σ H → w Γs Ψ → EO T false H0 F0 ra E D Ψ → t D σ H
variable {x m : Nat} {s1 s2 : TS} {u1 : WS} {w2 : WS2} {w3 : WS3} {t1 : TT} {w1 : WT}
variable {Ψ : WEnds} {u : WS}
end
structure QFs (X : Cx) (T : Tb) (E : XK) (i : Nat) (st : List Stmt) (t : TS) (w : WS2) : Prop where
  pe : PSs X st t
  ed : FD T E i t w
structure QMs (X : Cx) (T : Tb) (E : XK) (i m : Nat) (st : List Stmt) (t : TS) (w : WS3) : Prop where
  pe : PSs X st t
  ed : MuD T E i m t w
section
variable {X : Cx} {T : Tb} {E : XK} {e c o k v : Expr} {sts as : List Stmt} {t tk tv : TE} {w wk : WE} {pos spos apos p2 : Pos} {t1 : TT} {w1 : WT} {s1 s2 : TS} {u1 : WS} {w2 : WS2} {w3 : WS3} {x : Str} {i m : Nat} {j : Int} {y : V}
end
end Dt
set_option Elab.async false
set_option linter.all false
set_option maxRecDepth 100000
set_option maxHeartbeats 1000000
set_option autoImplicit false
namespace Dt
open PySem L2 Kx
def lvZ (A Z n x : Int) : Int := (2 * (x - A) * n + (Z - A)) / (2 * (Z - A))
theorem near_lv {u v n x : Int} {p : Int × Int} (h : u < v) (hp : Un p.1 p.2 x) : nearZ (lvX (mkP u).1 (mkP u).2 (mkP v).2 n p.1 p.2) (lvY (mkP u).1 (mkP u).2 (mkP v).1 (mkP v).2 p.2) = lvZ u v n x := by
  have ka := mkP_key u
  have kb := mkP_key v
  generalize mkP u = a at *
  generalize mkP v = b at *
  have hx := hp.eq
  have h0 := hp.b0
  have hk : 0 < p.2 * a.2 * b.2 * a.2 := Int.mul_pos (Int.mul_pos (Int.mul_pos h0 ka.1) kb.1) ka.1
  have ex : lvX a.1 a.2 b.2 n p.1 p.2 * 10 ^ 12 = ((x - u) * n) * (p.2 * a.2 * b.2 * a.2) := by
    unfold lvX
    have e1 : (p.1 * a.2 - a.1 * p.2) * 10 ^ 12 = (x - u) * (p.2 * a.2) := by
      rw [Int.sub_mul, Int.sub_mul, Int.mul_right_comm, ← hx, Int.mul_right_comm a.1, ka.2.1]
      simp only [Int.mul_comm, Int.mul_left_comm, Int.mul_assoc]
    have e2 : (p.1 * a.2 - a.1 * p.2) * n * (b.2 * a.2) * 10 ^ 12 = (p.1 * a.2 - a.1 * p.2) * 10 ^ 12 * n * (b.2 * a.2) := by
      generalize p.1 * a.2 - a.1 * p.2 = y
      simp only [Int.mul_comm, Int.mul_left_comm, Int.mul_assoc]
    rw [e2, e1]
    generalize x - u = y
    simp only [Int.mul_comm, Int.mul_left_comm, Int.mul_assoc]
  have ey : lvY a.1 a.2 b.1 b.2 p.2 * 10 ^ 12 = (v - u) * (p.2 * a.2 * b.2 * a.2) := by
    unfold lvY
    have e1 : (b.1 * a.2 - a.1 * b.2) * 10 ^ 12 = (v - u) * (b.2 * a.2) := by
      rw [Int.sub_mul, Int.sub_mul, Int.mul_right_comm, kb.2.1, Int.mul_right_comm a.1, ka.2.1]
      simp only [Int.mul_comm, Int.mul_left_comm, Int.mul_assoc]
    rw [Int.mul_one, Int.mul_assoc, e1]
    generalize v - u = y
    simp only [Int.mul_comm, Int.mul_left_comm, Int.mul_assoc]
  have yp : 0 < lvY a.1 a.2 b.1 b.2 p.2 := by
    refine Int.lt_of_mul_lt_mul_right (a := 10 ^ 12) ?_ (by decide)
    rw [Int.zero_mul, ey]
    exact Int.mul_pos (by omega) hk
  rw [← near_scale (g := 10 ^ 12) yp (by decide), ex, ey, near_scale (by omega) hk]
  unfold nearZ lvZ
  rw [Int.mul_assoc]
end Dt
set_option Elab.async false
set_option linter.all false
set_option maxRecDepth 100000
set_option autoImplicit false
namespace Dt
open PySem L2 Kx
section
variable {X : Cx} {T : Tb} {K : PySem.W.Frag}
end
theorem lcB_fg {α : Type} {l : List α} {f : α → D} {wg : WG} {we : WE} {vs : List Nat} {Φ : R → Gm → Prop} {Γ : Gm} (g : α → D) (hl : l.length ≤ sizeLine)
    (hs : ∀ a, a ∈ l → ∀ k : D → Gm → Prop, k (g a) (wipeG Γ vs) → wg (f a) (wipeG Γ vs) fun Γ2 => we Γ2 (fun r Γ4 => frzR Γ4 r fun y Γ5 => k y (wipeG Γ5 vs)) fun _ => False)
    (hd : Φ (.new (l.map g)) (rstG Γ (wipeG Γ vs) vs)) : lcB (l.map f) wg (fun Γ Ψ _ => Ψ true Γ) we vs Φ Γ := by
  refine lcB_by (fun i acc Γ' => Γ' = wipeG Γ vs ∧ acc = (l.take i).map g) (by rw [List.length_map]; exact hl) ⟨rfl, rfl⟩ (fun i acc Γ' d hd' ⟨e1, e2⟩ => ?_) fun acc Γ' ⟨e1, e2⟩ => ?_
  · subst e1 e2
    rw [List.getElem?_map] at hd'
    obtain ⟨a, ha, rfl⟩ := Option.map_eq_some_iff.mp hd'
    refine hs a (List.mem_of_getElem? ha) (fun y Γ5 => Γ5 = wipeG Γ vs ∧ (l.take i).map g ++ [y] = (l.take (i + 1)).map g) ⟨rfl, ?_⟩
    rw [List.take_add_one, ha, List.map_append]
    rfl
  · subst e1 e2
    rw [List.length_map, List.take_length]
    exact hd
end Dt
set_option Elab.async false
set_option linter.all false
set_option maxRecDepth 100000
set_option maxHeartbeats 1000000
set_option autoImplicit false
namespace Dt
open PySem L2 Kx
def ends (l : List Int) : List Int := (List.range l.length).map fun k => (l.take (k + 1)).sum
theorem enu_get {ds : List D} {i : Nat} {d : D} (h : (enu ds)[i]? = some d) : ∃ e, ds[i]? = some e ∧ d = .tup [.int (i : Nat), e] := by
  unfold enu at h
  rw [List.getElem?_mapIdx] at h
  obtain ⟨e, he, rfl⟩ := Option.map_eq_some_iff.mp h
  exact ⟨e, he, rfl⟩
theorem enu_len (ds : List D) : (enu ds).length = ds.length := by simp [enu]
end Dt
set_option Elab.async false
set_option linter.all false
set_option maxRecDepth 100000
set_option autoImplicit false
namespace Dt
open PySem L2 Kx
section
variable {T : Tb} {F F1 F2 F' H H1 H2 H' H0 F0 Fs Hs : Hp} {σ : St} {Γ Γ1 Γ2 Γ' Γn Γs : Gm} {E : XK} {t ta tb tc te : TE} {w wa wb wc we : WE} {ra : Addr} {K : PySem.W.Frag}
inductive HndG : Gm → Gm → Gm → Prop
  | nil : HndG [] [] []
  | skip {e : Option En} {Γ Γn Γs : Gm} : HndG Γ Γn Γs → HndG (e :: Γ) (none :: Γn) (e :: Γs)
  | keep {d : D} {Γ Γn Γs : Gm} : Nol d → HndG Γ Γn Γs → HndG (some (.shr d) :: Γ) (some (.shr d) :: Γn) (some (.shr d) :: Γs)
  | hand {ds : List D} {Γ Γn Γs : Gm} : NolA ds → HndG Γ Γn Γs → HndG (some (.own ds) :: Γ) (some (.shr (.lst ds)) :: Γn) (none :: Γs)
theorem HndG.len : ∀ {Γ Γn Γs : Gm}, HndG Γ Γn Γs → Γn.length = Γ.length ∧ Γs.length = Γ.length
  | _, _, _, .nil => ⟨rfl, rfl⟩
  | _, _, _, .skip h => ⟨congrArg (· + 1) h.len.1, congrArg (· + 1) h.len.2⟩
  | _, _, _, .keep _ h => ⟨congrArg (· + 1) h.len.1, congrArg (· + 1) h.len.2⟩
  | _, _, _, .hand _ h => ⟨congrArg (· + 1) h.len.1, congrArg (· + 1) h.len.2⟩
theorem HndG.old : ∀ {Γ Γn Γs : Gm}, HndG Γ Γn Γs → ∀ (i : Nat) (e : En), Γs[i]? = some (some e) → Γ[i]? = some (some e)
  | _, _, _, .nil, i, e, h => by simp at h
  | _, _, _, .skip g, 0, e, h => by simpa using h
  | _, _, _, .skip g, i + 1, e, h => by simpa using g.old i e (by simpa using h)
  | _, _, _, .keep _ g, 0, e, h => by simpa using h
  | _, _, _, .keep _ g, i + 1, e, h => by simpa using g.old i e (by simpa using h)
  | _, _, _, .hand _ g, 0, e, h => by simp at h
  | _, _, _, .hand _ g, i + 1, e, h => by simpa using g.old i e (by simpa using h)
theorem HndG.get : ∀ {Γ Γn Γs : Gm}, HndG Γ Γn Γs → ∀ (i : Nat) (e : En), Γn[i]? = some (some e) → (∃ d, e = .shr d ∧ Nol d ∧ Γ[i]? = some (some (.shr d))) ∨ ∃ ds, e = .shr (.lst ds) ∧ NolA ds ∧ Γ[i]? = some (some (.own ds)) ∧ Γs[i]? = some none
  | _, _, _, .nil, i, e, h => by simp at h
  | _, _, _, .skip g, 0, e, h => by simp at h
  | _, _, _, .skip g, i + 1, e, h => by simpa using g.get i e (by simpa using h)
  | _, _, _, .keep n g, 0, e, h => by simp at h; exact .inl ⟨_, h.symm, n, by simp⟩
  | _, _, _, .keep n g, i + 1, e, h => by simpa using g.get i e (by simpa using h)
  | _, _, _, .hand n g, 0, e, h => by simp at h; exact .inr ⟨_, h.symm, n, by simp, by simp⟩
  | _, _, _, .hand n g, i + 1, e, h => by simpa using g.get i e (by simpa using h)
theorem Rs.part (s : Rs T false H0 F0 ra F σ H Γ) (hl : Γs.length = Γ.length) (h : ∀ (i : Nat) (e : En), Γs[i]? = some (some e) → Γ[i]? = some (some e)) : Rs T false H0 F0 ra F σ H Γs :=
  ⟨⟨s.rp.toOk, by rw [hl]; exact s.rp.len, fun i e z => s.rp.at_ i e (h i e z), fun i j ds ds' v h1 h2 h3 h4 => s.rp.apart i j ds ds' v (h i _ h1) (h j _ h2) h3 h4⟩, s.ff, s.en, fun b ⟨i, ds, h1, h2⟩ => s.fr b ⟨i, ds, h i _ h1, h2⟩, s.gro, s.nf, fun z => by cases z⟩
structure FrT (T : Tb) (H0 F0 : Hp) (ra : Addr) (x : Nat) (W : Addr → Prop) (Fs Hs : Hp) (Γs : Gm) (F : Hp) (σ : St) (H : Hp) (Γ : Gm) : Prop where
  base : Rs T false H0 F0 ra Fs σ Hs Γs
  no : NoOw Γs
  wf : ∀ b, W b → Fs b = none ∧ H0 b = none
  cur : Rs T false H0 F0 ra F σ H Γ
  noc : NoOw Γ
  hh : ∀ b o, Hs b = some o → NoT o → H b = some o
  gro : ∀ b o, Hs b = some o → ∃ o', H b = some o'
  xs : ∃ a u b vs, σ[x]? = some (some (.ref a)) ∧ SqT T.K F a [u, .ref b] ∧ (Hs b = none ∨ W b) ∧ F b = some (.lst vs) ∧ vs.length ≤ 1000
theorem FrT.po {x : Nat} {W : Addr → Prop} (S : FrT T H0 F0 ra x W Fs Hs Γs F σ H Γ) (q : Po T F σ H Γ F' H' Γ') : FrT T H0 F0 ra x W Fs Hs Γs F' σ H' Γ' where
  base := S.base
  no := S.no
  wf := S.wf
  cur := S.cur.po q
  noc := fun i ds h => let ⟨ds', h'⟩ := q.ow i ds h; S.noc i ds' h'
  hh := fun b o h n => q.fr b o (S.hh b o h n) n S.noc.owns
  gro := fun b o h => let ⟨o', h'⟩ := S.gro b o h; q.gro b o' h'
  xs := by
    obtain ⟨a, u, b, vs, h1, h2, h3, h4, h5⟩ := S.xs
    exact ⟨a, u, b, vs, h1, sqt_same h2 q.ff, h3, q.ff _ _ h4, h5⟩
theorem FrT.set {x y : Nat} {W : Addr → Prop} {v : V} {d : D} (hxy : y ≠ x) (S : FrT T H0 F0 ra x W Fs Hs Γs F σ H Γ) (r : Rep T.K F v d) : FrT T H0 F0 ra x W Fs Hs (Γs.set y none) F (σ.set y (some v)) H (Γ.set y (some (.shr d))) where
  base := S.base.drop
  no := S.no.drop
  wf := S.wf
  cur := S.cur.set (e := .shr d) r (.inr rfl) (fun _ z => by cases z)
  noc := S.noc.set
  hh := S.hh
  gro := S.gro
  xs := by
    obtain ⟨a, u, b, vs, h1, h⟩ := S.xs
    exact ⟨a, u, b, vs, by rw [List.getElem?_set_ne hxy]; exact h1, h⟩
def FDT (T : Tb) (E : XK) (x : Nat) (t : TS) (w : WS2) : Prop := ∀ (H0 F0 : Hp) (ra : Addr) (W : Addr → Prop) (Fs Hs : Hp) (Γs : Gm) (F : Hp) (σ : St) (H : Hp) (Γ : Gm) (D : Ends) (Ψ : WEnds), FrT T H0 F0 ra x W Fs Hs Γs F σ H Γ → w Γs Ψ Γ → EO T false H0 F0 ra E D Ψ → t D σ H
variable {x y m : Nat} {s1 s2 : TS} {u1 u2 : WS} {w2 : WS2} {w3 : WS3} {t1 : TT} {w1 : WT}
variable {Ψ : WEnds} {u : WS} {Γh : Gm} {wI : WI}
end
structure QFt (X : Cx) (T : Tb) (E : XK) (i : Nat) (st : List Stmt) (t : TS) (w : WS2) : Prop where
  pe : PSs X st t
  ed : FDT T E i t w
section
variable {X : Cx} {T : Tb} {E : XK} {e c o k v iter tg : Expr} {sts as : List Stmt} {t tk tv : TE} {w wk : WE} {pos spos apos p2 p3 : Pos} {t1 : TT} {w1 : WT} {s1 s2 : TS} {u1 : WS} {w2 : WS2} {x : Str} {i y : Nat} {z : V} {wi : TI} {wI : WI}
end
end Dt
set_option Elab.async false
set_option linter.all false
set_option maxRecDepth 100000
set_option maxHeartbeats 1000000
set_option autoImplicit false
namespace Zt
open PySem PySem.Builtin PyProof.Rows
section
variable {prog : Program} {w : World} {A : Around} {E : Value → Shared → Prop} {s : Shared} {z TI TO i1 i2 : Addr} {f1 f2 : List Addr} {n1 n2 k : Nat} {P1 P2 : Nat → Value → Prop} {S1 S2 : Nat → Heap → Prop} {a b : Value}
end
open AutoSeq1 (wpAny_loadPart')
end Zt
namespace L2
open PySem PySem.Spec PyProof.Rows
end L2
namespace Dt
open PySem L2 Kx
section
variable {T : Tb} {E : XK} {F H : Hp} {tA : TA} {wA : WA}
variable {X : Cx} {a b : Expr} {pos pos2 : Pos}
end
end Dt
set_option Elab.async false
set_option linter.all false
set_option maxRecDepth 100000
set_option maxHeartbeats 1000000
set_option autoImplicit false
namespace Mn
open PySem PyProof.Rows
section
variable {prog : Program} {w : World} {A : Around} {R : Result → Shared → Prop} {I : Addr} {fp wr : List Addr} {n : Nat} {P : Nat → Value → Prop} {St : Nat → Heap → Prop}
end
section
variable {prog : Program} {w : World} {A : Around} {E : Value → Shared → Prop} {s : Shared} {l : Addr}
end
end Mn
namespace L2
open PySem PySem.Spec PyProof.Rows
section
variable {X : Cx}
end
end L2
namespace Dt
open PySem L2 Kx
end Dt
set_option Elab.async false
set_option linter.all false
set_option maxRecDepth 100000
set_option autoImplicit false
namespace Kx
open PySem PySem.Spec L2 PyProof.Rows PySem.W
theorem law_callTs {Pr : Program} {w : World} {K : PySem.W.Frag} {mg mb : Str → Option Value} {CX : CXT} {k : Nat} {fa a : Addr} {Ps : List Addr} {fd : FuncData} {x : Str} {sp : Sp} {s₁ : Shared} {vs : List Value} {ns : List Int}
    (KX : K.In s₁.heap) (hns : s₁.heap.Ns mainGlobals mg) (hb : s₁.heap.Ns builtinsNs mb) (hbb : ∀ x : Str, x ≠ "__name__" → mb x = bootBuiltins x) (hlim : s₁.heap.NoLimit) (hg : s₁.gens = #[])
    (ha : s₁.heap.get? a = some { cls := .type "list", data := .seq vs.toArray }) (hi : IntsAre vs ns) (hl : ns.length ≤ sizeLine) (hr : Room k callerA) (hC : ∀ P ∈ Ps, ∃ c, CodeHd s₁.heap c P) (hP : ∀ P ∈ Ps, s₁.heap.get? P = some (tabObj #[])) (hKP : ∀ P ∈ Ps, K.lookup P = none)
    (hbm : BltB mg s₁.heap) (F : ∀ base : Heap, K.In base → base.Ns mainGlobals mg → BltB mg base → FnOk Pr w K mg base CX k fa fd [x] sp) (hbind : ∀ (s : Shared) (u : Value), BindsTo s fd ⟨[u], []⟩ [(x, u)])
    (hsp : ∀ H : Hp, (∀ P ∈ Ps, H P = some (.tbl #[])) → (∀ b u, H b = some u → b ∈ Ps ∨ (b = a ∧ K.lookup a = none ∧ ∃ o xs, u = .frz o (.lst xs))) → SqL K H a (ns.map V.int) → sp [.ref a] H (fun v _ => v = .bl true) fun _ _ _ => False)
    (hCX : ∀ H e s', CX [] H s₁ (fun _ _ _ => False) e s' → False) :
    codeAny (model Pr w) callerA (.call (.ref fa) ⟨[.ref a], []⟩) (fun r s' => r = .ok (.ret (.bool true)) ∧ OldK s₁.heap s'.heap ∧ s'.os = s₁.os ∧ AllBare s'.gens) s₁ := by
  have rv := vals_ints hi
  have lenV := hi.length
  have haP : a ∉ Ps := fun z => by
    rw [hP a z] at ha
    cases ha
  have core : ∀ H : Hp, (∀ P ∈ Ps, H P = some (.tbl #[])) → SqL K H a (ns.map V.int) → HOk Pr w H s₁.heap → (∀ b u, H b = some u → b ∈ Ps ∨ (b = a ∧ K.lookup a = none ∧ ∃ o xs, u = .frz o (.lst xs))) →
      codeAny (model Pr w) callerA (.call (.ref fa) ⟨[.ref a], []⟩) (fun r s' => r = .ok (.ret (.bool true)) ∧ OldK s₁.heap s'.heap ∧ s'.os = s₁.os ∧ AllBare s'.gens) s₁ := by
    intro H hHP hS hok hA
    have noA : ∀ {b : Addr} {o : Obj} {es : Array DictEntry} {ep : Nat}, s₁.heap.get? b = some o → o.data = .dict es ep → H b = none := fun {b o es ep} e d => by
      cases q : H b with
      | none => rfl
      | some u =>
        rcases hA b u q with z | ⟨z, _⟩
        · rw [hP b z] at e
          cases e
          cases d
        · rw [z, ha] at e
          cases e
          cases d
    have hbmB : BltB mg (hidT s₁.heap H) := by
      obtain ⟨bm, ob, b1, b2, b3, b4, b5, b6⟩ := hbm
      refine ⟨bm, ob, b1, b2, hidT_get b3 ?_, b4, b5, b6⟩
      cases q : H bm with
      | none => rfl
      | some u =>
        rcases hA bm u q with z | ⟨z, _⟩
        · rw [hP bm z] at b3
          cases b3
          cases b6
        · rw [z, ha] at b3
          cases b3
          cases b6
    have nsK : ∀ {b : Addr} {m : Str → Option Value}, s₁.heap.Ns b m → (hidT s₁.heap H).Ns b m := fun {b m} ⟨o, es, ep, e, d, r⟩ => ⟨o, es, ep, hidT_get e (noA e d), d, r⟩
    have hKb : K.In (hidT s₁.heap H) := fun b o e => hidT_get (KX b o e) (by
      cases q : H b with
      | none => rfl
      | some u =>
        rcases hA b u q with z | ⟨z, y, _⟩
        · rw [hKP b z] at e
          cases e
        · rw [z, y] at e
          cases e)
    have hM : Mod K mg (hidT s₁.heap H) := ⟨hKb, nsK hns, ⟨mb, nsK hb, hbb⟩, let ⟨mc, h1, h2⟩ := hlim; ⟨mc, nsK h1, h2⟩⟩
    have e0 : Env0 Pr w K mg (hidT s₁.heap H) callerA [] s₁ H := ⟨rfl, hM, fun b o e => of_hidT e, Nat.le_of_eq (hidT_size _ _), trivial, fun b hb => absurd (show b ∈ ([] : List Addr) from hb) (by simp), hok, .of_eq hg⟩
    refine codeAny_mono ((F _ hKb (nsK hns) hbmB).run callerA [] s₁ H ⟨[.ref a], []⟩ [.ref a] [.ref a] _ _ hr e0 (hbind s₁ (.ref a)) (.cons rfl .nil) (hsp H hHP hA hS)) fun r s' h => ?_
    cases r with
    | error e => exact (hCX H e s' h).elim
    | ok fl =>
      cases fl with
      | next => exact False.elim h
      | brk => exact False.elim h
      | cont => exact False.elim h
      | ret u =>
        obtain ⟨v, H', os, bare, un, hok', r', q⟩ := h
        have q' : v = .bl true := q
        subst q'
        obtain rfl : u = Value.bool true := r'
        have hT' : ∀ P ∈ Ps, ∃ more, s'.heap.get? P = some { cls := .none, data := .fields (#[] ++ more) } := fun P hm0 => by
          obtain ⟨more, hm⟩ := un.tbls P _ (hHP P hm0)
          exact ⟨more, hok' P _ hm⟩
        have kept : ∀ b o, b ∉ Ps → s₁.heap.get? b = some o → s'.heap.get? b = some o := fun b o hbP e => by
          cases q : H b with
          | none => exact un.keep b o e q (by intro z; exact absurd (show b ∈ ([] : List Addr) from z) (by simp)) (by simp)
          | some u =>
            rcases hA b u q with z | ⟨z, _, ob, xs, rfl⟩
            · exact absurd z hbP
            · have z2 := un.frzs b ob _ q
              obtain ⟨e1, _⟩ := hok b _ q
              obtain ⟨e2, _⟩ := hok' b _ z2
              rw [e] at e1
              cases e1
              exact e2
        refine ⟨rfl, ⟨fun b o e => ?_, fun b o e => ?_⟩, os, bare⟩
        · by_cases hbP : b ∈ Ps
          · obtain ⟨more, hT'⟩ := hT' b hbP
            obtain ⟨c, hC⟩ := hC b hbP
            have hPb := hP b hbP
            rw [hPb] at e
            cases e
            exact .inr (.inl ⟨(hC.tab hPb).isCodeTable, rfl, #[], more, rfl, hT'⟩)
          · exact .inl (kept b o hbP e)
        · by_cases hbP : b ∈ Ps
          · obtain ⟨more, hT'⟩ := hT' b hbP
            exact ⟨_, hT'⟩
          · exact ⟨o, kept b o hbP e⟩
  cases hk : K.lookup a with
  | some o =>
    have e := KX a o hk
    rw [ha] at e
    cases e
    refine core (fun b => if b ∈ Ps then some (.tbl #[]) else none) (fun P hm => if_pos hm) (.inr ⟨_, vs.toArray, _, hk, rfl, rfl, rfl, by rw [List.size_toArray, lenV]; exact hl, by simpa using rv⟩) (fun b u z => ?_) fun b u z => ?_
    · by_cases hb : b ∈ Ps
      · have z' := (if_pos hb).symm.trans z
        cases z'
        exact hP b hb
      · have z' := (if_neg hb).symm.trans z
        cases z'
    · by_cases hb : b ∈ Ps
      · exact .inl hb
      · have z' := (if_neg hb).symm.trans z
        cases z'
  | none =>
    refine core (fun b => if b ∈ Ps then some (.tbl #[]) else if b = a then some (.frz { cls := .type "list", data := .seq vs.toArray } (.lst (ns.map V.int))) else none) (fun P hm => if_pos hm)
      (.inl (.inr ⟨{ cls := .type "list", data := .seq vs.toArray }, by show (if a ∈ Ps then _ else _) = _; rw [if_neg haP, if_pos rfl]⟩)) (fun b u z => ?_) fun b u z => ?_
    · by_cases hb : b ∈ Ps
      · have z' := (if_pos hb).symm.trans z
        cases z'
        exact hP b hb
      · have z' := (if_neg hb).symm.trans z
        by_cases hb2 : b = a
        · have z'' := (if_pos hb2).symm.trans z'
          cases z''
          subst hb2
          exact ⟨ha, by rw [List.length_map]; exact hl, vs, _, rv, ha⟩
        · have z'' := (if_neg hb2).symm.trans z'
          cases z''
    · by_cases hb : b ∈ Ps
      · exact .inl hb
      · have z' := (if_neg hb).symm.trans z
        by_cases hb2 : b = a
        · have z'' := (if_pos hb2).symm.trans z'
          cases z''
          exact .inr ⟨hb2, hk, _, _, rfl⟩
        · have z'' := (if_neg hb2).symm.trans z'
          cases z''
theorem walk_ofTs {l : PySem.W.OpenLaw} {n k : Nat} {q : Program} {loose : List Str} {XP : (Str → Option Value) → Heap → Prop} {YP : World → Heap → Prop} {d : DefRec} {K : Params → PySem.W.Frag} {CX : World → CXT} {sp : Params → Sp} {x : Str} {Ps : Params → List Addr}
    (hn : l.most = some n) (hn2 : n ≤ sizeLine) (hdf : d.params.defaults = []) (hr : Room k callerA)
    (hY : ∀ (w : World) (h : Heap), YP w h → (K w.params).In h)
    (hgd : ∀ p, ∀ P ∈ Ps p, ∃ (gn : Str) (gd : DefRec) (c : Addr), (recsOf q).find? (fun e => e.name == gn) = some gd ∧ tabIn (K p) gn = some (c, P) ∧ (K p).lookup P = none)
    (F : ∀ (w : World) (mg : Str → Option Value) (fa : Addr) (h : Heap), (K w.params).In h → h.Ns mainGlobals mg → mg d.name = some (.ref fa) →
      ∃ fd : FuncData, (∀ (s : Shared) (u : Value), BindsTo s fd ⟨[u], []⟩ [(x, u)]) ∧
        ∀ base : Heap, (K w.params).In base → base.Ns mainGlobals mg → BltB mg base → FnOk l.prog w (K w.params) mg base (CX w) k fa fd [x] (sp w.params))
    (hsp : ∀ (w : World) (H : Hp) (a : Addr) (ns : List Int), ns.length ≤ n → (∀ P ∈ Ps w.params, H P = some (.tbl #[])) → (∀ b u, H b = some u → b ∈ Ps w.params ∨ (b = a ∧ (K w.params).lookup a = none ∧ ∃ o xs, u = .frz o (.lst xs))) → SqL (K w.params) H a (ns.map V.int) → sp w.params [.ref a] H (fun v _ => v = .bl true) fun _ _ _ => False)
    (hCX : ∀ (w : World) (H : Hp) (s : Shared) (e : Value) (s' : Shared), CX w [] H s (fun _ _ _ => False) e s' → False) :
    PySem.W.WalkO q loose XP YP l.row.toRowW d [] (fun f vs => PySem.call f vs) := by
  refine Att.attach_call hn hdf fun w s₀ s₁ mg mb fa o pm cd doc a vs ns G Y ho hd hcd hmg hobj hints hlen hg => ?_
  have KX := hY w _ Y
  obtain ⟨fd, hb, hF⟩ := F w mg fa _ KX G.T.g hmg
  refine law_callTs (Ps := Ps w.params) KX G.T.g G.T.b G.T.builtins G.T.nolimit hg hobj hints (Nat.le_trans hlen hn2) hr (fun P hm => ?_) (fun P hm => ?_) (fun P hm => ?_) G.T.bmain hF hb (fun H hO hA hS => hsp w H a ns hlen hO hA hS) fun H e s' => hCX w H s₁ e s'
  · obtain ⟨gn, gd, c, h1, h2, h3⟩ := hgd w.params P hm
    exact ⟨c, (tab_of G.T KX h1 h2).1⟩
  · obtain ⟨gn, gd, c, h1, h2, h3⟩ := hgd w.params P hm
    exact (tab_of G.T KX h1 h2).2
  · obtain ⟨gn, gd, c, h1, h2, h3⟩ := hgd w.params P hm
    exact h3
end Kx
set_option Elab.async false
set_option linter.all false
set_option maxRecDepth 100000
set_option maxHeartbeats 1000000
set_option autoImplicit false
namespace Dt
open PySem L2 Kx
def nxt (xs : List Str) (is : List Int) (i : Nat) : Int := is.getD i 0 + ((xs.getD i ⟨#[]⟩).length : Nat) + 1
def plStep (xs : List Str) (is : List Int) (p : List (Option Nat) × Int) (i : Nat) : List (Option Nat) × Int := if p.2 ≤ is.getD i 0 then (p.1.set i (some i), nxt xs is i) else p
def plFold (xs : List Str) (is : List Int) (ns : List Nat) : List (Option Nat) × Int := ns.foldl (plStep xs is) (List.replicate xs.length none, 0)
theorem plFold_succ (xs : List Str) (is : List Int) {ns : List Nat} {j i : Nat} (h : ns[j]? = some i) : plFold xs is (ns.take (j + 1)) = plStep xs is (plFold xs is (ns.take j)) i := by
  unfold plFold
  rw [List.take_add_one, h, List.foldl_append]
  rfl
def stAt (is : List Int) (i : Nat) : Int := is.getD i 0
inductive Gr (xs : List Str) (is : List Int) : Int → List (Option Nat) → List (Option Nat) → Prop
  | stop {f : Int} {M : List (Option Nat)} : (∀ i, i < xs.length → stAt is i < f) → Gr xs is f M M
  | step {f : Int} {M res : List (Option Nat)} {k : Nat} : k < xs.length → f ≤ stAt is k → (∀ i, i < xs.length → f ≤ stAt is i → nxt xs is k < nxt xs is i ∨ (nxt xs is k = nxt xs is i ∧ k ≤ i)) → Gr xs is (nxt xs is k) (M.set k (some k)) res → Gr xs is f M res
theorem skip {xs : List Str} {is : List Int} {ns : List Nat} {j : Nat} : ∀ m, (∀ p i, j ≤ p → p < j + m → ns[p]? = some i → stAt is i < (plFold xs is (ns.take j)).2) → plFold xs is (ns.take (j + m)) = plFold xs is (ns.take j)
  | 0, _ => rfl
  | m + 1, h => by
    have ih := skip m fun p i h1 h2 h3 => h p i h1 (by omega) h3
    rw [← Nat.add_assoc]
    cases e : ns[j + m]? with
    | none =>
      rw [List.getElem?_eq_none_iff] at e
      rw [List.take_of_length_le (by omega), ← ih, List.take_of_length_le (by omega)]
    | some i =>
      rw [plFold_succ xs is e, ih]
      have := h (j + m) i (by omega) (by omega) e
      unfold plStep
      rw [if_neg (by unfold stAt at this; omega)]
def Kd (c k : Str) : Prop := c = "Bars" ∧ k = "bars" ∨ c = "Lines" ∧ k = "lines" ∨ c = "Stacks" ∧ k = "stacks" ∨ c = "Shares" ∧ k = "shares"
def IsKd (k : Str) : Prop := k = "bars" ∨ k = "lines" ∨ k = "stacks" ∨ k = "shares"
theorem Kd.is {c k : Str} (h : Kd c k) : IsKd k := by
  rcases h with ⟨_, h⟩ | ⟨_, h⟩ | ⟨_, h⟩ | ⟨_, h⟩
  · exact .inl h
  · exact .inr (.inl h)
  · exact .inr (.inr (.inl h))
  · exact .inr (.inr (.inr h))
def lanes (k : Str) (s : Int) : Int := if k = "bars" ∨ k = "lines" then s else 1
def stL (k : Str) (w s : Int) (b : Nat) : List Int := (List.range b).map fun i : Nat => (i : Int) * (lanes k s * w + 1)
def nms (rs : List Rw) : List Str := rs.map (·.1)
end Dt
set_option Elab.async false
set_option linter.all false
set_option maxRecDepth 100000
set_option autoImplicit false
namespace Dt
open PySem L2 Kx
section
variable {T : Tb} {F F1 F2 F' H H1 H2 H' H0 F0 Fs Hs : Hp} {σ : St} {Γ Γ1 Γ2 Γ' Γn Γs : Gm} {E : XK} {t ta tb tc te : TE} {w wa wb wc we : WE} {ra : Addr} {K : PySem.W.Frag}
def PlV (Hs F : Hp) (vs : List V) : Prop := (4 < vs.length ∧ vs.length ≤ 100) ∧ (∀ u ∈ vs.drop 3, ∃ b ws, u = .ref b ∧ Hs b = none ∧ F b = some (.lst ws) ∧ ws.length ≤ 1000) ∧ ∃ b ws c us, vs[4]? = some (.ref b) ∧ F b = some (.lst ws) ∧ ws[0]? = some (.ref c) ∧ Hs c = none ∧ F c = some (.lst us) ∧ us.length ≤ 1000
theorem PlV.mono {vs : List V} (h : PlV Hs F vs) (g : Same F F') : PlV Hs F' vs := by
  obtain ⟨h0, h1, b, ws, c, us, k1, k2, k3, k4, k5, k6⟩ := h
  refine ⟨h0, fun u hu => ?_, b, ws, c, us, k1, g _ _ k2, k3, k4, g _ _ k5, k6⟩
  obtain ⟨b, ws, e1, e2, e3, e4⟩ := h1 u hu
  exact ⟨b, ws, e1, e2, g _ _ e3, e4⟩
structure FrP (T : Tb) (H0 F0 : Hp) (ra : Addr) (x : Nat) (Fs Hs : Hp) (Γs : Gm) (F : Hp) (σ : St) (H : Hp) (Γ : Gm) : Prop where
  base : Rs T false H0 F0 ra Fs σ Hs Γs
  no : NoOw Γs
  cur : Rs T false H0 F0 ra F σ H Γ
  noc : NoOw Γ
  hh : ∀ b o, Hs b = some o → NoT o → H b = some o
  gro : ∀ b o, Hs b = some o → ∃ o', H b = some o'
  xs : ∃ a vs, σ[x]? = some (some (.ref a)) ∧ SqT T.K F a vs ∧ PlV Hs F vs
theorem FrP.po {x : Nat} (S : FrP T H0 F0 ra x Fs Hs Γs F σ H Γ) (q : Po T F σ H Γ F' H' Γ') : FrP T H0 F0 ra x Fs Hs Γs F' σ H' Γ' where
  base := S.base
  no := S.no
  cur := S.cur.po q
  noc := fun i ds h => let ⟨ds', h'⟩ := q.ow i ds h; S.noc i ds' h'
  hh := fun b o h n => q.fr b o (S.hh b o h n) n S.noc.owns
  gro := fun b o h => let ⟨o', h'⟩ := S.gro b o h; q.gro b o' h'
  xs := by
    obtain ⟨a, vs, h1, h2, h3⟩ := S.xs
    exact ⟨a, vs, h1, sqt_same h2 q.ff, h3.mono q.ff⟩
structure MsC (T : Tb) (H0 F0 : Hp) (ra : Addr) (Fs Hs : Hp) (Γs : Gm) (σ : St) (H : Hp) : Prop where
  base : Rs T false H0 F0 ra Fs σ Hs Γs
  no : NoOw Γs
  tabs : ∀ P ∈ T.ts, Tab H P
  labs : ∀ p ∈ T.ls, TabL H p.1 p.2.1 p.2.2
  hh : ∀ b o, Hs b = some o → NoT o → H b = some o
  gro : ∀ b o, Hs b = some o → ∃ o', H b = some o'
theorem MsC.put {a : Addr} {vs vs' : List V} (S : MsC T H0 F0 ra Fs Hs Γs σ H) (na : Hs a = none) (ha : H a = some (.lst vs)) : MsC T H0 F0 ra Fs Hs Γs σ (upd H a (.lst vs')) := by
  have ne : ∀ b o, Hs b = some o → b ≠ a := fun b o h z => by subst z; rw [na] at h; cases h
  refine ⟨S.base, S.no, fun P hP => tab_lst ha (S.tabs P hP), fun p hP => lab_lst ha (S.labs p hP), fun b o h n => ?_, fun b o h => ?_⟩
  · rw [upd_ne (ne b o h)]; exact S.hh b o h n
  · rw [upd_ne (ne b o h)]; exact S.gro b o h
theorem MsC.new {a : Addr} {o' : HO} (S : MsC T H0 F0 ra Fs Hs Γs σ H) (ha : H a = none) : MsC T H0 F0 ra Fs Hs Γs σ (upd H a o') := by
  have ne : ∀ b o, H b = some o → b ≠ a := fun b o h z => by subst z; rw [ha] at h; cases h
  refine ⟨S.base, S.no, fun P hP => tab_new ha (S.tabs P hP), fun p hP => lab_new ha (S.labs p hP), fun b o h n => ?_, fun b o h => ?_⟩
  · rw [upd_ne (ne b o (S.hh b o h n))]; exact S.hh b o h n
  · obtain ⟨o2, h'⟩ := S.gro b o h
    exact ⟨o2, by rw [upd_ne (ne b o2 h')]; exact h'⟩
theorem MsC.set {y : Nat} {v : V} (S : MsC T H0 F0 ra Fs Hs Γs σ H) : MsC T H0 F0 ra Fs Hs (Γs.set y none) (σ.set y (some v)) H := ⟨S.base.drop, S.no.drop, S.tabs, S.labs, S.hh, S.gro⟩
theorem MsC.weak {y : Nat} (S : MsC T H0 F0 ra Fs Hs Γs σ H) : MsC T H0 F0 ra Fs Hs (Γs.set y none) σ H := ⟨S.base.part (by simp) fun i e z => by
      by_cases hi : i = y
      · subst hi
        by_cases hl : i < Γs.length
        · rw [List.getElem?_set_self hl] at z; cases z
        · rw [List.getElem?_eq_none (by simpa using hl)] at z; cases z
      · rw [List.getElem?_set_ne (Ne.symm hi)] at z; exact z, S.no.drop, S.tabs, S.labs, S.hh, S.gro⟩
variable {x y m : Nat} {s1 s2 : TS} {u1 u2 : WS} {w2 : WS2} {w3 : WS3} {t1 : TT} {w1 : WT}
theorem MsC.go {s : TS} {u : WS} (h : SD T false E s u) {D : Ends} {Ψ : WEnds} (S : MsC T H0 F0 ra Fs Hs Γs σ H) (hw : u Ψ Γs) (e : EO T false H0 F0 ra E D Ψ) : s D σ H := by
  have p := S.base.rp
  refine h H0 F0 ra Fs σ H Γs D Ψ ⟨⟨⟨fun b o z => S.hh b o (p.sub b o z) (p.nt b o z), p.nt, S.tabs, S.labs⟩, p.len, fun i en z => ?_, fun i j ds _ _ z => absurd z (S.no i ds)⟩, S.base.ff, fun b o z n y => S.hh b o (S.base.en b o z n y) n, fun b z => absurd z S.no.owns, fun b o z => let ⟨o1, z1⟩ := S.base.gro b o z; S.gro b o1 z1, S.base.nf, fun z => by cases z⟩ hw e
  obtain ⟨v, h1, h2⟩ := p.at_ i en z
  refine ⟨v, h1, ?_⟩
  cases en with
  | shr d => exact h2
  | own ds => exact absurd z (S.no i ds)
def NwL (Hs H : Hp) (n : Nat) (vs : List V) : Prop := ∀ u ∈ vs, ∃ b ws, u = .ref b ∧ Hs b = none ∧ H b = some (.lst ws) ∧ ws.length ≤ n
theorem NwL.put {n : Nat} {vs ws ws' : List V} {c : Addr} (h : NwL Hs H n vs) (hc : H c = some (.lst ws)) (hl : ws'.length ≤ n + 1) : NwL Hs (upd H c (.lst ws')) (n + 1) vs := fun u hu => by
  obtain ⟨b, us, e1, e2, e3, e4⟩ := h u hu
  by_cases z : b = c
  · subst z
    exact ⟨b, ws', e1, e2, upd_same, hl⟩
  · exact ⟨b, us, e1, e2, by rw [upd_ne z]; exact e3, by omega⟩
theorem NwL.new {n : Nat} {vs : List V} {c : Addr} {o : HO} (h : NwL Hs H n vs) (hc : H c = none) : NwL Hs (upd H c o) n vs := fun u hu => by
  obtain ⟨b, us, e1, e2, e3, e4⟩ := h u hu
  exact ⟨b, us, e1, e2, by rw [upd_ne (fun z => by rw [z, hc] at e3; cases e3)]; exact e3, e4⟩
structure MsP (T : Tb) (H0 F0 : Hp) (ra : Addr) (x : Nat) (Fs Hs : Hp) (Γs : Gm) (σ : St) (H : Hp) : Prop where
  co : MsC T H0 F0 ra Fs Hs Γs σ H
  xs : ∃ a vs, σ[x]? = some (some (.ref a)) ∧ SqT T.K H a vs ∧ (4 < vs.length ∧ vs.length ≤ 100) ∧ NwL Hs H 1001 (vs.drop 3)
def FDP (T : Tb) (E : XK) (x : Nat) (t : TS) (w : WS2) : Prop := ∀ (H0 F0 : Hp) (ra : Addr) (Fs Hs : Hp) (Γs : Gm) (F : Hp) (σ : St) (H : Hp) (Γ : Gm) (D : Ends) (Ψ : WEnds), FrP T H0 F0 ra x Fs Hs Γs F σ H Γ → w Γs Ψ Γ → EO T false H0 F0 ra E D Ψ → t D σ H
def MPD (T : Tb) (E : XK) (x : Nat) (t : TS) (w : WS3) : Prop := ∀ (H0 F0 : Hp) (ra : Addr) (Fs Hs : Hp) (Γs : Gm) (σ : St) (H : Hp) (D : Ends) (Ψ : WEnds), MsP T H0 F0 ra x Fs Hs Γs σ H → w Γs Ψ → EO T false H0 F0 ra E D Ψ → t D σ H
variable {Ψ : WEnds} {u : WS}
end
structure QFp (X : Cx) (T : Tb) (E : XK) (i : Nat) (st : List Stmt) (t : TS) (w : WS2) : Prop where
  pe : PSs X st t
  ed : FDP T E i t w
structure QMp (X : Cx) (T : Tb) (E : XK) (i : Nat) (st : List Stmt) (t : TS) (w : WS3) : Prop where
  pe : PSs X st t
  ed : MPD T E i t w
section
variable {X : Cx} {T : Tb} {E : XK} {e c o k j v tg lo : Expr} {sts as : List Stmt} {t tk tj tv : TE} {w wk : WE} {pos spos apos p2 p3 p4 p5 : Pos} {t1 : TT} {w1 : WT} {s1 s2 : TS} {u1 : WS} {w2 : WS2} {w3 : WS3} {x yn : Str} {i y : Nat} {z : V}
end
end Dt
set_option Elab.async false
set_option linter.all false
set_option maxRecDepth 100000
set_option maxHeartbeats 1000000
set_option autoImplicit false
namespace Dt
open PySem L2 Kx
end Dt
set_option Elab.async false
set_option linter.all false
set_option maxRecDepth 100000
set_option maxHeartbeats 1000000
set_option autoImplicit false
namespace Dt
open PySem PySem.Spec L2 Kx PyProof.Rows
end Dt
set_option Elab.async false
set_option linter.all false
set_option maxRecDepth 100000
set_option maxHeartbeats 1000000
set_option autoImplicit false
namespace Dt
open PySem PySem.Spec L2 Kx PyProof.Rows
theorem app_cps (x y : Str) : (x ++ y).cps.toList = x.cps.toList ++ y.cps.toList := by
  show (x.cps ++ y.cps).toList = _
  simp
theorem cut_head {x : Str} {a : Int} (h0 : 0 ≤ a) (h1 : a ≤ x.length) : (cutS x none (some a)).cps.toList = x.cps.toList.take a.toNat := by
  unfold cutS
  have e : HT.sIx x.length x.length (some a) = a.toNat := by
    show (if a < 0 then _ else min a.toNat x.length) = _
    rw [if_neg (by omega)]
    omega
  rw [HT.sIx_none, e]
  simp
theorem cps_len (x : Str) : x.cps.toList.length = x.length := rfl
def kp (xs : List Str) (res : List (Option Nat)) : List Str := (res.filter Option.isSome).map fun o => xs.getD (o.getD 0) ⟨#[]⟩
def Al (M : List (Option Nat)) : Prop := ∀ (i : Nat) (o : Option Nat), M[i]? = some o → o = none ∨ o = some i
end Dt
set_option Elab.async false
set_option linter.all false
set_option maxRecDepth 100000
set_option maxHeartbeats 1000000
set_option autoImplicit false
namespace Kx
open PySem PySem.Spec L2 PyProof.Rows PySem.W
section
variable {X : Cx} {o e : Expr} {to te : TE} {apos pos : Pos}
theorem pj_txt {x : Str} {j : Nat} {es : List Expr} {pos : Pos} {t : TJ} (hr : PJ X es t) : PJ X (.Constant (.str x) j pos :: es) (fun σ H out Q => (out ++ x).length ≤ sizeLine ∧ t σ H (out ++ x) Q) := by
  intro pins s σ H out Q I h
  show wpAny _ _ (joinParts out (eval (.Constant (.str x) j pos) X.env :: evalEach es X.env)) _ _ s
  exact joinParts_cons (Calls.Constant_str ⟨h.1, hr pins _ σ H _ Q (I.tok _) h.2⟩)
end
end Kx
namespace Dt
open PySem PySem.Spec L2 Kx PyProof.Rows
section
variable {T : Tb} {E : XK}
def dPad (f : Str → Int → Str) : Str → D → (R → Prop) → Prop := fun a e Ψ => ∃ i, e = .int i ∧ PadOk i = true ∧ Ψ (.val (.str (f a i)))
theorem dpad_int {f : Str → Int → Str} {a : Str} {i : Int} {Ψ : R → Prop} : dPad f a (.int i) Ψ = sideR (PadOk i = true) (Ψ (.val (.str (f a i)))) := propext ⟨fun ⟨_, e, h⟩ => by cases e; exact h, fun h => ⟨_, rfl, h⟩⟩
def dRstr : Str → D → (R → Prop) → Prop := fun a e Ψ => ∃ b, e = .str b ∧ a.length ≤ sizeLine ∧ Ψ (.val (.str (Txt.rstripChars a b)))
theorem drstr_str {a b : Str} {Ψ : R → Prop} : dRstr a (.str b) Ψ = sideR (a.length ≤ sizeLine) (Ψ (.val (.str (Txt.rstripChars a b)))) := propext ⟨fun ⟨_, e, h⟩ => by cases e; exact h, fun h => ⟨_, rfl, h⟩⟩
def hasS (j i : Str) : Bool := !(Builtin.Str.occurrences j i 0 j.length 1).isEmpty
def bInS (f : Bool → Bool) : D → D → (Bool → Prop) → Prop := fun d e Ψ => ∃ i j, d = .str i ∧ e = .str j ∧ Ψ (f (hasS j i))
theorem bd_inS : BD T (fun x y H Q => ∃ i j, x = .str i ∧ y = .str j ∧ Q (.bl (!(Builtin.Str.occurrences j i 0 j.length 1).isEmpty)) H) (bInS id) := fun F H x y d e Q Ψ o hx hy hg k => by
  obtain ⟨i, j, rfl, rfl, h⟩ := hg
  exact ⟨i, j, hx.str, hy.str, k _ h⟩
theorem inS_str {f : Bool → Bool} {i j : Str} {Ψ : Bool → Prop} : bInS f (.str i) (.str j) Ψ = Ψ (f (hasS j i)) := propext ⟨fun ⟨_, _, e1, e2, h⟩ => by cases e1; cases e2; exact h, fun h => ⟨_, _, rfl, rfl, h⟩⟩
abbrev WJ := Str → Gm → (Str → Gm → Prop) → (XD → Prop) → Prop
def JD (T : Tb) (E : XK) (t : TJ) (w : WJ) : Prop := ∀ (F : Hp) (σ : L2.St) (H : Hp) (Γ : Gm) (out : Str) (Q : VK) (Ψ : Str → Gm → Prop) (Ξ : XD → Prop), Rp T F σ H Γ → w out Γ Ψ Ξ → XO T σ E Ξ F H Γ →
  (∀ F' H' Γ' x, Ψ x Γ' → Po T F σ H Γ F' H' Γ' → Q (.str x) H') → t σ H out Q
variable {t : TJ} {w : WJ} {te : TE} {we : WE}
def wJ0 : WJ := fun out Γ Ψ _ => out.length ≤ sizeLine ∧ Ψ out Γ
theorem jd_nil : JD T E (fun _ H out Q => out.length ≤ sizeLine ∧ Q (.str out) H) wJ0 := fun F σ H Γ out Q Ψ Ξ p h _ k => ⟨h.1, k F H Γ _ h.2 p.refl⟩
def wJT (x : Str) (w : WJ) : WJ := fun out Γ Ψ Ξ => (out ++ x).length ≤ sizeLine ∧ w (out ++ x) Γ Ψ Ξ
theorem jd_txt {x : Str} (h : JD T E t w) : JD T E (fun σ H out Q => (out ++ x).length ≤ sizeLine ∧ t σ H (out ++ x) Q) (wJT x w) := fun F σ H Γ out Q Ψ Ξ p hw z k => ⟨hw.1, h F σ H Γ _ Q Ψ Ξ p hw.2 z k⟩
def fmtR (d : D) (out : Str) (k : Str → Prop) : Prop := (∃ y, d = .str y ∧ y.length ≤ sizeLine ∧ (out ++ y).length ≤ sizeLine ∧ k (out ++ y)) ∨ ∃ i : Int, d = .int i ∧ i.natAbs.log2 < 1920 ∧ (out ++ (toString i : Str)).length ≤ sizeLine ∧ k (out ++ (toString i : Str))
def wJV (we : WE) (w : WJ) : WJ := fun out Γ Ψ Ξ => we Γ (fun r Γ1 => ∃ d, r.at Γ1 = some d ∧ fmtR d out fun x => w x Γ1 Ψ Ξ) Ξ
theorem jd_val (he : ED T E te we) (h : JD T E t w) : JD T E (fun σ H out Q => te σ H fun v H1 =>
    (∃ y, v = .str y ∧ y.length ≤ sizeLine ∧ (out ++ y).length ≤ sizeLine ∧ t σ H1 (out ++ y) Q) ∨ ∃ i : Int, v = .int i ∧ i.natAbs.log2 < 1920 ∧ (out ++ (toString i : Str)).length ≤ sizeLine ∧ t σ H1 (out ++ (toString i : Str)) Q) (wJV we w) := fun F σ H Γ out Q Ψ Ξ p hw z k =>
  he F σ H Γ _ _ Ξ p hw z fun F1 H1 Γ1 v r hr q e => by
    obtain ⟨d, a, hf⟩ := hr
    have pv := e.peek q.rp a
    rcases hf with ⟨y, rfl, l1, l2, hk⟩ | ⟨i, rfl, l1, l2, hk⟩
    · exact .inl ⟨y, pv.str, l1, l2, h F1 σ H1 Γ1 _ Q Ψ Ξ q.rp hk (z.on q) fun F2 H2 Γ2 x hx q2 => k F2 H2 Γ2 x hx (q.trans q2)⟩
    · exact .inr ⟨i, pv.int, l1, l2, h F1 σ H1 Γ1 _ Q Ψ Ξ q.rp hk (z.on q) fun F2 H2 Γ2 x hx q2 => k F2 H2 Γ2 x hx (q.trans q2)⟩
def wFStr (w : WJ) : WE := fun Γ Ψ Ξ => w Str.empty Γ (fun x Γ1 => Ψ (.val (.str x)) Γ1) Ξ
theorem ed_fstr (h : JD T E t w) : ED T E (fun σ H Q => t σ H Str.empty Q) (wFStr w) := fun F σ H Γ Q Ψ Ξ p hw z k =>
  h F σ H Γ _ Q _ Ξ p hw z fun F1 H1 Γ1 x hx q => k F1 H1 Γ1 _ _ hx q (Rep.str _)
variable {Γ : Gm} {Ψj : Str → Gm → Prop} {Ψ : R → Gm → Prop} {Ξ : XD → Prop} {out : Str}
theorem fstr_ap : wFStr w Γ Ψ Ξ = w Str.empty Γ (fun x Γ1 => Ψ (.val (.str x)) Γ1) Ξ := rfl
theorem j0_ap : wJ0 out Γ Ψj Ξ = sideR (out.length ≤ sizeLine) (Ψj out Γ) := rfl
theorem jT_ap {x : Str} : wJT x w out Γ Ψj Ξ = sideR ((out ++ x).length ≤ sizeLine) (w (out ++ x) Γ Ψj Ξ) := rfl
theorem jV_ap : wJV we w out Γ Ψj Ξ = we Γ (fun r Γ1 => getR Γ1 r fun d => fmtR d out fun x => w x Γ1 Ψj Ξ) Ξ := rfl
theorem fmt_str {y : Str} {k : Str → Prop} : fmtR (.str y) out k = sideR (y.length ≤ sizeLine ∧ (out ++ y).length ≤ sizeLine) (k (out ++ y)) := propext (Iff.intro (fun h => by
  rcases h with ⟨_, e, h1, h2, h3⟩ | ⟨_, e, _⟩
  · cases e; exact ⟨⟨h1, h2⟩, h3⟩
  · cases e) fun h => Or.inl ⟨y, rfl, h.1.1, h.1.2, h.2⟩)
theorem fmt_int {i : Int} {k : Str → Prop} : fmtR (.int i) out k = sideR (i.natAbs.log2 < 1920 ∧ (out ++ (toString i : Str)).length ≤ sizeLine) (k (out ++ (toString i : Str))) := propext (Iff.intro (fun h => by
  rcases h with ⟨_, e, _⟩ | ⟨_, e, h1, h2, h3⟩
  · cases e
  · cases e; exact ⟨⟨h1, h2⟩, h3⟩) fun h => Or.inr ⟨i, rfl, h.1.1, h.1.2, h.2⟩)
end
structure QJ (X : Cx) (T : Tb) (E : XK) (es : List Expr) (t : TJ) (w : WJ) : Prop where
  pe : PJ X es t
  ed : JD T E t w
section
variable {X : Cx} {T : Tb} {E : XK} {o e e1 e2 : Expr} {es : List Expr} {to te : TE} {wo we : WE} {t : TJ} {w : WJ} {apos pos : Pos}
theorem q_j0 : QJ X T E [] (fun _ H out Q => out.length ≤ sizeLine ∧ Q (.str out) H) wJ0 := ⟨pj_nil, jd_nil⟩
theorem q_jT {x : Str} {j : Nat} (h : QJ X T E es t w) : QJ X T E (.Constant (.str x) j pos :: es) (fun σ H out Q => (out ++ x).length ≤ sizeLine ∧ t σ H (out ++ x) Q) (wJT x w) := ⟨pj_txt h.pe, jd_txt h.ed⟩
theorem q_jV (he : QE X T E e te we) (h : QJ X T E es t w) : QJ X T E (.FormattedValue e (-1) none pos :: es) (fun σ H out Q => te σ H fun v H1 =>
    (∃ y, v = .str y ∧ y.length ≤ sizeLine ∧ (out ++ y).length ≤ sizeLine ∧ t σ H1 (out ++ y) Q) ∨ ∃ i : Int, v = .int i ∧ i.natAbs.log2 < 1920 ∧ (out ++ (toString i : Str)).length ≤ sizeLine ∧ t σ H1 (out ++ (toString i : Str)) Q) (wJV we w) := ⟨pj_val he.pe h.pe, jd_val he.ed h.ed⟩
theorem q_fstr (h : QJ X T E (e1 :: e2 :: es) t w) : QE X T E (.JoinedStr (e1 :: e2 :: es) pos) (fun σ H Q => t σ H Str.empty Q) (wFStr w) := ⟨pe_fstr h.pe, ed_fstr h.ed⟩
end
end Dt
set_option Elab.async false
set_option linter.all false
set_option maxRecDepth 100000
set_option maxHeartbeats 2000000
set_option autoImplicit false
namespace L2
open PySem PySem.Spec PyProof.Rows
inductive Src where
  | t (a : Addr)
  | l (a : Addr)
  | s (x : Str)
def Src.v : Src → V
  | .t a => .ref a
  | .l a => .ref a
  | .s x => .str x
section
variable {X : Cx} {pins : List (Addr × Obj)} {σ : L2.St} {H : Hp} {s : Shared}
end
def SrcAt (h : Heap) : Src → Prop
  | .t a => ∃ xs, h.IsTuple a xs
  | .l a => ∃ xs, h.IsList a xs
  | .s _ => True
theorem SrcAt.push {h : Heap} {S : Src} (g : SrcAt h S) (o : Obj) : SrcAt (h.push o) S := by
  cases S with
  | t a => obtain ⟨xs, g⟩ := g; exact ⟨xs, Heap.IsTuple.push g _⟩
  | l a => obtain ⟨xs, g⟩ := g; exact ⟨xs, Heap.IsList.push g _⟩
  | s x => trivial
end L2
namespace Dt
open PySem L2 Kx
section
variable {T : Tb} {F : Hp} {E : XK} {tA : TA} {wA : WA}
def chD (x : Str) : List D := x.cps.toList.map fun c => .str ⟨#[c]⟩
def D.src : D → Option (List D)
  | .lst ds => some ds
  | .tup ds => some ds
  | .str x => some (chD x)
  | _ => none
def wIZipG (wA : WA) : WI := fun Γ Ψ Ξ => wA Γ (fun rs Γ1 => ∃ d e ds es Γ2, frzL Γ1 rs = some ([d, e], Γ2) ∧ d.src = some ds ∧ e.src = some es ∧ Ψ (zp ds es) Γ2) Ξ
def srcR (d : D) (k : List D → Prop) : Prop := ∃ ds, d.src = some ds ∧ k ds
theorem src_lst {ds : List D} {k : List D → Prop} : srcR (.lst ds) k = k ds := propext ⟨fun ⟨_, e, h⟩ => by cases e; exact h, fun h => ⟨_, rfl, h⟩⟩
theorem src_tup {ds : List D} {k : List D → Prop} : srcR (.tup ds) k = k ds := propext ⟨fun ⟨_, e, h⟩ => by cases e; exact h, fun h => ⟨_, rfl, h⟩⟩
theorem izG_ap {Γ : Gm} {Φd : List D → Gm → Prop} {Ξ : XD → Prop} : wIZipG wA Γ Φd Ξ = wA Γ (fun rs Γ1 => frzLR Γ1 rs fun ds Γ2 => match ds with | [d, e] => srcR d fun es => srcR e fun fs => Φd (zp es fs) Γ2 | _ => False) Ξ := by
  unfold wIZipG frzLR
  congr 1
  funext rs Γ1
  refine propext ⟨fun ⟨d, e, ds, es, Γ2, h, s1, s2, q⟩ => ⟨_, Γ2, h, ds, s1, es, s2, q⟩, fun ⟨ds, Γ2, h, q⟩ => ?_⟩
  dsimp only at q
  split at q
  · obtain ⟨es, s1, fs, s2, q⟩ := q
    exact ⟨_, _, _, _, Γ2, h, s1, s2, q⟩
  · exact q.elim
variable {X : Cx} {a b : Expr} {pos : Pos}
end
end Dt
set_option Elab.async false
set_option linter.all false
set_option maxRecDepth 100000
set_option maxHeartbeats 2000000
set_option autoImplicit false
namespace Zt
open PySem PySem.Builtin PyProof.Rows
structure Apart3 (z TI TO i1 i2 i3 : Addr) (f1 f2 f3 : List Addr) : Prop where
  TIz : TI ≠ z
  TOz : TO ≠ z
  z1 : i1 ≠ z
  z2 : i2 ≠ z
  z3 : i3 ≠ z
  TIO : TI ≠ TO
  I1 : TI ≠ i1
  I2 : TI ≠ i2
  I3 : TI ≠ i3
  O1 : TO ≠ i1
  O2 : TO ≠ i2
  O3 : TO ≠ i3
  one : z ∉ f1 ∧ TO ∉ f1 ∧ i2 ∉ f1 ∧ i3 ∉ f1
  two : z ∉ f2 ∧ TO ∉ f2 ∧ i1 ∉ f2 ∧ i3 ∉ f2
  thr : z ∉ f3 ∧ TO ∉ f3 ∧ i1 ∉ f3 ∧ i2 ∉ f3
section
variable {prog : Program} {w : World} {A : Around} {E : Value → Shared → Prop} {s : Shared} {z TI TO i1 i2 i3 : Addr} {f1 f2 f3 : List Addr} {n1 n2 n3 k : Nat} {P1 P2 P3 : Nat → Value → Prop} {S1 S2 S3 : Nat → Heap → Prop} {a b c : Value}
end
end Zt
namespace L2
open PySem PySem.Spec PyProof.Rows
end L2
namespace L2
open PySem PySem.Spec PyProof.Rows
end L2
namespace Dt
open PySem L2 Kx
section
variable {T : Tb} {F : Hp} {E : XK} {tA : TA} {wA : WA}
variable {X : Cx} {a b c : Expr} {pos : Pos}
end
end Dt
set_option Elab.async false
set_option linter.all false
set_option maxRecDepth 100000
set_option maxHeartbeats 2000000
set_option autoImplicit false
namespace Zt
open PySem PySem.Builtin PyProof.Rows
section
variable {prog : Program} {w : World} {A : Around} {E : Value → Shared → Prop} {s : Shared}
end
end Zt
namespace L2
open PySem PySem.Spec PyProof.Rows
end L2
namespace Dt
open PySem L2 Kx
section
variable {T : Tb} {F : Hp} {E : XK} {tA : TA} {wA : WA}
variable {X : Cx} {tg a : Expr} {pos : Pos}
end
end Dt
set_option Elab.async false
set_option linter.all false
set_option maxRecDepth 100000
set_option maxHeartbeats 1000000
set_option autoImplicit false
namespace Kx
open PySem PySem.Spec L2 PyProof.Rows PySem.W
def repS (x : Str) (n : Int) : Str := ⟨(List.replicate n.toNat x.cps).foldl (· ++ ·) #[]⟩
theorem rep_fold (c : Array Nat) : ∀ (m : Nat) (a : Array Nat), ((List.replicate m c).foldl (· ++ ·) a).size = a.size + m * c.size
  | 0, a => by simp
  | m + 1, a => by
    rw [List.replicate_succ, List.foldl_cons, rep_fold c m, Array.size_append, Nat.succ_mul]
    omega
theorem repS_len (x : Str) (n : Int) : (repS x n).length = n.toNat * x.length := by
  show ((List.replicate n.toNat x.cps).foldl (· ++ ·) #[]).size = _
  rw [rep_fold]
  simp
  rfl
theorem repS_one (x : Str) : repS x 1 = x := by
  show (⟨(List.replicate 1 x.cps).foldl (· ++ ·) #[]⟩ : Str) = x
  simp
theorem repS_nil {x : Str} (n : Int) (h : x.length = 0) : repS x n = x := by
  have h1 : (repS x n).cps.size = 0 := by
    have := repS_len x n
    rw [h] at this
    exact this.trans (Nat.mul_zero _)
  have h2 : x.cps.size = 0 := h
  have e : (repS x n).cps = x.cps := by rw [Array.eq_empty_of_size_eq_zero h1, Array.eq_empty_of_size_eq_zero h2]
  cases x
  generalize hz : repS _ n = y at *
  cases y
  simp only [Str.mk.injEq]
  exact e
section
variable {X : Cx}
theorem op_repS : OpR X (binaryOp .Mult) (fun x y H Q => ∃ a n, x = .str a ∧ y = .int n ∧ (0 ≤ n ∧ n ≤ 100000 ∧ a.length ≤ 100000 ∧ a.length * n.toNat ≤ 1000000) ∧ Q (.str (repS a n)) H) := by
  intro pins s σ H x y v u Q I rx ry h
  obtain ⟨a, n, rfl, rfl, ⟨h0, h1, h2, h3⟩, q⟩ := h
  obtain ⟨t, rfl⟩ := rx
  obtain ⟨t', rfl⟩ := ry
  refine PySem.P.mul_str (by rw [decide_eq_false (by omega), decide_eq_false (by omega)]; rfl) (fun g _ => ?_) (fun g _ => ?_) ?_
  · have : (100000 : Int) ≤ (2 ^ 63 - 1) / n := (Int.le_ediv_iff_mul_le (by omega)).mpr (by
      have := Int.mul_le_mul_of_nonneg_left h1 (show (0 : Int) ≤ 100000 by decide)
      omega)
    omega
  · exact decide_eq_false (fun z : sizeLine < a.length * n.toNat => by
      have : 1000000 ≤ sizeLine := by decide
      omega)
  · by_cases g : n < 1
    · rw [if_pos g]
      have e : n = 0 := by omega
      subst e
      exact ⟨by decide, .str (repS a 0), H, I.tok _, ⟨_, rfl⟩, q⟩
    · rw [if_neg g]
      by_cases g2 : (n == 1 || a.length == 0) = true
      · rw [if_pos g2]
        have e : repS a n = a := by
          rw [Bool.or_eq_true, beq_iff_eq, beq_iff_eq] at g2
          rcases g2 with rfl | g2
          · exact repS_one a
          · exact repS_nil n g2
        rw [e] at q
        exact ⟨.str a, H, I, ⟨_, rfl⟩, q⟩
      · rw [if_neg g2]
        refine ⟨?_, .str (repS a n), H, I.tok _, ⟨_, rfl⟩, q⟩
        have e := repS_len a n
        show (repS a n).length ≤ sizeLine
        rw [e, Nat.mul_comm]
        exact Nat.le_trans h3 (by decide)
end
end Kx
namespace Dt
open PySem L2 Kx
section
variable {T : Tb}
def dRepS : D → D → (R → Prop) → Prop := fun d e Ψ => ∃ a n, d = .str a ∧ e = .int n ∧ (0 ≤ n ∧ n ≤ 100000 ∧ a.length ≤ 100000 ∧ a.length * n.toNat ≤ 1000000) ∧ Ψ (.val (.str (repS a n)))
theorem od_repS : OD T (fun x y H Q => ∃ a n, x = .str a ∧ y = .int n ∧ (0 ≤ n ∧ n ≤ 100000 ∧ a.length ≤ 100000 ∧ a.length * n.toNat ≤ 1000000) ∧ Q (.str (repS a n)) H) dRepS := fun F H x y d e Q Ψ o hx hy hg k => by
  obtain ⟨a, n, rfl, rfl, hb, h⟩ := hg
  exact ⟨a, n, hx.str, hy.int, hb, k F H _ _ h o.refl (Rep.str _)⟩
theorem drepS_ap {a : Str} {n : Int} {Ψ : R → Prop} : dRepS (.str a) (.int n) Ψ = sideR (0 ≤ n ∧ n ≤ 100000 ∧ a.length ≤ 100000 ∧ a.length * n.toNat ≤ 1000000) (Ψ (.val (.str (repS a n)))) := propext ⟨fun ⟨_, _, e1, e2, h⟩ => by cases e1; cases e2; exact h, fun h => ⟨_, _, rfl, rfl, h⟩⟩
end
end Dt
set_option Elab.async false
set_option linter.all false
set_option maxRecDepth 100000
set_option maxHeartbeats 1000000
set_option autoImplicit false
namespace Dt
open PySem PySem.Spec L2 Kx PyProof.Rows
def oD : Option Str → D
  | some x => .str x
  | none => .non
end Dt
set_option Elab.async false
set_option linter.all false
set_option maxRecDepth 100000
set_option maxHeartbeats 1000000
set_option autoImplicit false
namespace Dt
open PySem PySem.Spec L2 Kx PyProof.Rows
theorem glj (a : Str) (ys : List Str) : Builtin.Str.glued a ys = Str.join a ys := by first | exact StrLaws.glued_eq_join a ys | exact PySem.glued_eq_join a ys | exact glued_eq_join a ys
end Dt
namespace Dt
open PySem PySem.Spec L2 Kx PyProof.Rows
def unitsOf (p : Int × Int) : Int := (if p.1 < 0 then -p.1 else p.1) * 10 ^ 12 / p.2
def MkOk (p : Int × Int) : Prop := 0 < p.2 ∧ p.2 ≤ 10 ^ 12 ∧ (if p.1 < 0 then -p.1 else p.1) * 10 ^ 12 % p.2 = 0 ∧ unitsOf p < 10 ^ 27 ∧ -(10 ^ 30) < p.1 ∧ p.1 < 10 ^ 30
end Dt
set_option Elab.async false
set_option linter.all false
set_option maxRecDepth 100000
set_option maxHeartbeats 1000000
set_option autoImplicit false
namespace Dt
open PySem L2 Kx
section
variable {T : Tb} {E : XK} {t : TE} {w : WE}
def wBS (w : WE) : WT := fun Γ Ψ Ξ => w Γ (fun r Γ1 => ∃ y : Str, r.at Γ1 = some (.str y) ∧ y.length ≤ sizeLine ∧ Ψ ((y.length : Int) != 0) Γ1) Ξ
def txtR (Γ : Gm) (r : R) (k : Str → Prop) : Prop := ∃ y : Str, r.at Γ = some (.str y) ∧ k y
theorem txR_val {Γ : Gm} {y : Str} {k : Str → Prop} : txtR Γ (.val (.str y)) k = k y := propext ⟨fun ⟨_, e, h⟩ => by cases e; exact h, fun h => ⟨_, rfl, h⟩⟩
theorem BS_ap {Γ : Gm} {Φb : Bool → Gm → Prop} {Ξ : XD → Prop} : wBS w Γ Φb Ξ = w Γ (fun r Γ1 => txtR Γ1 r fun y => sideR (y.length ≤ sizeLine) (Φb ((y.length : Int) != 0) Γ1)) Ξ := rfl
theorem ddm_ap {i j : Int} {Ψ : R → Prop} : dDivmod [.int i, .int j] Ψ = sideR (CDivP i j) (Ψ (.val (.tup [.int (i / j), .int (i % j)]))) := propext ⟨fun ⟨_, _, e, h⟩ => by cases e; exact h, fun h => ⟨_, _, rfl, h⟩⟩
variable {X : Cx} {e : Expr}
end
end Dt
set_option Elab.async false
set_option linter.all false
set_option maxRecDepth 100000
set_option maxHeartbeats 1000000
set_option autoImplicit false
namespace Dt
open PySem PySem.Spec L2 Kx PyProof.Rows
def lvlS (a z : Int × Int) (n : Int) (m : Int × Int) : Int := nearZ (lvX a.1 a.2 z.2 n m.1 m.2) (lvY a.1 a.2 z.1 z.2 m.2)
structure MsOk (ms : List (Int × Int)) (n : Int) (a z : Int × Int) : Prop where
  hd : ms.head? = some a
  la : ms.getLast? = some z
  sc : ScB a.1 a.2 z.1 z.2 n
  ok : ∀ m ∈ ms, MkOk m ∧ Bd 600 m.1 ∧ Bd 600 m.2 ∧ 0 ≤ lvlS a z n m ∧ lvlS a z n m ≤ n
  ln : ms.length ≤ 100
  n0 : 2 ≤ n
  n1 : n ≤ 40
end Dt
set_option Elab.async false
set_option linter.all false
set_option maxRecDepth 100000
set_option maxHeartbeats 1000000
set_option autoImplicit false
namespace Dt
open PySem PySem.Spec L2 Kx PyProof.Rows
structure PlOk (k : Str) (w n : Int) (ms : List (Int × Int)) (lss : List (List Int)) (xs : List (Option Str)) (ss : List Str) (a z : Int × Int) : Prop where
  kd : IsKd k
  w0 : 1 ≤ w
  w1 : w ≤ 6
  mo : MsOk ms n a z
  l0 : 1 ≤ lss.length
  l1 : lss.length ≤ 12
  ll : ∀ l ∈ lss, l.length ≤ 4
  xl : xs.length ≤ 40
  xo : ∀ x, some x ∈ xs → x.length ≤ 30
  s0 : 1 ≤ ss.length
  s1 : ss.length ≤ 4
  so : ∀ s ∈ ss, s.length ≤ 30
end Dt
namespace Dt
open PySem PySem.Spec L2 Kx PyProof.Rows
end Dt
namespace Dt
open PySem PySem.Spec L2 Kx PyProof.Rows
end Dt
namespace Dt
open PySem PySem.Spec L2 Kx PyProof.Rows
end Dt
namespace Dt
open PySem PySem.Spec L2 Kx PyProof.Rows
end Dt
set_option Elab.async false
set_option linter.all false
set_option maxRecDepth 100000
set_option maxHeartbeats 1000000
set_option autoImplicit false
namespace Dt
open PySem PySem.Spec L2 Kx PyProof.Rows
def AllC (P : Nat → Prop) (x : Str) : Prop := ∀ c ∈ x.cps.toList, P c
section
variable {P : Nat → Prop} {x y : Str}
theorem AllC.app (h : AllC P x) (h' : AllC P y) : AllC P (x ++ y) := fun c hc => by
  rw [app_cps] at hc
  exact (List.mem_append.mp hc).elim (h c) (h' c)
theorem AllC.one {c : Nat} (h : P c) : AllC P ⟨#[c]⟩ := fun d hd => by
  cases List.mem_singleton.mp hd
  exact h
theorem allC_join {sep : Str} (hs : AllC P sep) : ∀ ys : List Str, (∀ y ∈ ys, AllC P y) → AllC P (Str.join sep ys)
  | [], _ => fun c hc => by cases hc
  | [y], h => h y (List.mem_singleton.mpr rfl)
  | y :: z :: ys, h => by
    show AllC P (y ++ sep ++ Str.join sep (z :: ys))
    exact ((h y (List.mem_cons_self ..)).app hs).app (allC_join hs (z :: ys) fun v hv => h v (List.mem_cons_of_mem _ hv))
theorem AllC.join {sep : Str} (hs : AllC P sep) {ys : List Str} (h : ∀ y ∈ ys, AllC P y) : AllC P (Txt.join sep ys) := by
  unfold Txt.join
  rw [glj]
  exact allC_join hs ys h
theorem AllC.sub (h : AllC P x) (a b : Nat) : AllC P (Builtin.Str.strSub x a b) := fun d hd => by
  rw [StrLaws.strSub_toList] at hd
  first | exact h d (List.mem_of_mem_drop (List.mem_of_mem_take hd)) | exact h d (List.mem_of_mem_take (List.mem_of_mem_drop hd))
theorem AllC.mono {P' : Nat → Prop} (h : AllC P x) (i : ∀ c, P c → P' c) : AllC P' x := fun c hc => i c (h c hc)
end
def Cl (c : Nat) : Prop := c ≠ 10 ∧ c < 0x110000
theorem cl_ok {x : Str} (h : AllC Cl x) : PyData.strOk x = true := strOk_iff.mpr fun c hc => (h c hc).2
def Ltr (x : Str) : Prop := 1 ≤ x.length ∧ x.length ≤ 30 ∧ AllC (fun c => 97 ≤ c ∧ c ≤ 122) x
theorem Ltr.cl {x : Str} (h : Ltr x) : AllC Cl x := h.2.2.mono fun c hc => ⟨by omega, by omega⟩
theorem Ltr.ne {x : Str} (h : Ltr x) : x.cps.toList ≠ [] := fun e => by
  have : x.cps.toList.length = x.length := rfl
  rw [e] at this
  have := h.1
  simp at *
  omega
theorem Ltr.tx {x : Str} (h : Ltr x) : TxOk 30 x := ⟨h.2.1, cl_ok h.cl⟩
def plMs (S f : Int) (m : Nat) : List (Int × Int) := (List.range m).map fun i : Nat => mkP (S * (f + i))
structure PMk (k : Str) (n S f : Int) (m : Nat) : Prop where
  S0 : 0 < S
  S1 : S ≤ 5 * 10 ^ 24
  m0 : 2 ≤ m
  m1 : (m : Int) ≤ n / 2 + 2
  n0 : 2 ≤ n
  n1 : n ≤ 40
  f0 : -22 ≤ f
  f1 : f ≤ 20
  br : k = "bars" → f ≤ 0 ∧ 0 < f + m
  st : k = "stacks" → f = 0
  sh : k = "shares" → f = 0 ∧ S * (m - 1) = 100 * 10 ^ 12
theorem abs_nn {i : Int} : (if i < 0 then -i else i) = (i.natAbs : Int) := by split <;> omega
theorem units_mkP (u : Int) : unitsOf (mkP u) = (u.natAbs : Int) ∧ (if (mkP u).1 < 0 then -(mkP u).1 else (mkP u).1) * 10 ^ 12 % (mkP u).2 = 0 := by
  obtain ⟨k1, k2, k3⟩ := mkP_key u
  unfold unitsOf
  generalize mkP u = p at *
  have e : (if p.1 < 0 then -p.1 else p.1) * 10 ^ 12 = (u.natAbs : Int) * p.2 := by
    rw [abs_nn]
    have a : ((p.1 * 10 ^ 12).natAbs : Int) = ((u * p.2).natAbs : Int) := by rw [k2]
    rw [Int.natAbs_mul, Int.natAbs_mul] at a
    have b : ((10 ^ 12 : Int).natAbs : Int) = 10 ^ 12 := by decide
    have c : (p.2.natAbs : Int) = p.2 := by omega
    rw [Int.natCast_mul, Int.natCast_mul, b, c] at a
    exact a
  rw [e]
  exact ⟨Int.mul_ediv_cancel _ (by omega), Int.mul_emod_left _ _⟩
theorem mk_ok {u : Int} (h : u.natAbs < 10 ^ 27) : MkOk (mkP u) := by
  obtain ⟨k1, k2, k3⟩ := mkP_key u
  obtain ⟨u1, u2⟩ := units_mkP u
  have hp := (low_pos (t := u) (b := 10 ^ 12) (by decide)).2.2
  have hp : (mkP u).1.natAbs ≤ u.natAbs := hp
  refine ⟨k1, k3, u2, by rw [u1]; omega, by omega, by omega⟩
theorem lvZ_in {u v n x : Int} (h : u < v) (h0 : u ≤ x) (h1 : x ≤ v) (n0 : 0 ≤ n) : 0 ≤ lvZ u v n x ∧ lvZ u v n x ≤ n := by
  unfold lvZ
  have a : 0 ≤ (x - u) * n := Int.mul_nonneg (by omega) n0
  have b : (x - u) * n ≤ (v - u) * n := Int.mul_le_mul_of_nonneg_right (by omega) n0
  constructor
  · refine Int.ediv_nonneg ?_ (by omega)
    rw [Int.mul_assoc]
    omega
  · refine Int.le_of_lt_add_one (Int.ediv_lt_of_lt_mul (by omega) ?_)
    have : (n + 1) * (2 * (v - u)) = 2 * ((v - u) * n) + 2 * (v - u) := by
      rw [Int.add_mul, Int.one_mul, Int.mul_comm n, Int.mul_assoc]
    rw [this, Int.mul_assoc]
    omega
theorem un_mkP (u : Int) : Un (mkP u).1 (mkP u).2 u := by
  obtain ⟨k1, k2, k3⟩ := mkP_key u
  exact ⟨k1, k2.symm⟩
theorem sf_bd {S f : Int} {i : Nat} {m : Nat} {k : Str} {n : Int} (h : PMk k n S f m) (hi : i < m) : (S * (f + i)).natAbs < 10 ^ 27 := by
  have := h.S0; have := h.S1; have := h.m1; have := h.n1; have := h.f0; have := h.f1
  rw [Int.natAbs_mul]
  have a : S.natAbs ≤ 5 * 10 ^ 24 := by omega
  have b : (f + i).natAbs ≤ 45 := by omega
  exact Nat.lt_of_le_of_lt (Nat.mul_le_mul a b) (by decide)
theorem plMs_head {S f : Int} {m : Nat} (h : 2 ≤ m) : (plMs S f m).head? = some (mkP (S * f)) := by
  obtain ⟨q, rfl⟩ : ∃ q, m = q + 1 := ⟨m - 1, by omega⟩
  unfold plMs
  rw [List.range_succ_eq_map, List.map_cons, List.head?_cons]
  simp
theorem plMs_last {S f : Int} {m : Nat} (h : 2 ≤ m) : (plMs S f m).getLast? = some (mkP (S * (f + (m - 1)))) := by
  obtain ⟨q, rfl⟩ : ∃ q, m = q + 1 := ⟨m - 1, by omega⟩
  unfold plMs
  rw [List.range_succ, List.map_append, List.getLast?_append]
  simp only [List.map_cons, List.map_nil, List.getLast?_singleton, Option.some_or]
  rw [show f + (q : Int) = f + (((q + 1 : Nat) : Int) - 1) by omega]
theorem plMs_lv {S f : Int} {m i : Nat} {k : Str} {n : Int} (h : PMk k n S f m) : lvlS (mkP (S * f)) (mkP (S * (f + (m - 1)))) n (mkP (S * (f + i))) = lvZ (S * f) (S * (f + (m - 1))) n (S * (f + i)) := by
  have := h.m0
  exact near_lv (Int.mul_lt_mul_of_pos_left (by omega) h.S0) (un_mkP _)
theorem plMs_ok {k : Str} {n S f : Int} {m : Nat} (h : PMk k n S f m) : MsOk (plMs S f m) n (mkP (S * f)) (mkP (S * (f + (m - 1)))) := by
  have := h.m0; have := h.m1; have := h.n1; have := h.n0
  have b0 := sf_bd h (i := 0) (by omega)
  have b1 := sf_bd h (i := m - 1) (by omega)
  rw [show f + ((0 : Nat) : Int) = f by omega] at b0
  rw [show f + ((m - 1 : Nat) : Int) = f + ((m : Int) - 1) by omega] at b1
  have p : (10 : Nat) ^ 27 ≤ 2 ^ 95 := by decide
  have lt : S * f < S * (f + (m - 1)) := Int.mul_lt_mul_of_pos_left (by omega) h.S0
  refine ⟨plMs_head h.m0, plMs_last h.m0, sc_ok (by omega) (by omega) lt h.n0 h.n1, fun x hx => ?_, by unfold plMs; rw [List.length_map, List.length_range]; omega, h.n0, h.n1⟩
  obtain ⟨i, hi, rfl⟩ := List.mem_map.mp hx
  have hi := List.mem_range.mp hi
  have bi := sf_bd h hi
  have bd := mkP_bd (u := S * (f + i)) (by omega)
  have lv := lvZ_in lt (n := n) (x := S * (f + i)) (Int.mul_le_mul_of_nonneg_left (by omega) (by have := h.S0; omega)) (Int.mul_le_mul_of_nonneg_left (by omega) (by have := h.S0; omega)) (by omega)
  rw [← plMs_lv h] at lv
  exact ⟨mk_ok bi, bd.1.mono, bd.2.mono, lv.1, lv.2⟩
end Dt
set_option Elab.async false
set_option linter.all false
set_option maxRecDepth 100000
set_option maxHeartbeats 1000000
set_option autoImplicit false
namespace Dt
open PySem PySem.Spec L2 Kx PyProof.Rows
theorem rep_tl (c : Nat) : ∀ (m : Nat) (a : Array Nat), ((List.replicate m #[c]).foldl (· ++ ·) a).toList = a.toList ++ List.replicate m c
  | 0, a => by simp
  | m + 1, a => by
    rw [List.replicate_succ, List.foldl_cons, rep_tl c m, Array.toList_append, List.replicate_succ, List.append_assoc]
    rfl
theorem repS_tl (c : Nat) (n : Int) : (repS ⟨#[c]⟩ n).cps.toList = List.replicate n.toNat c := by
  show ((List.replicate n.toNat #[c]).foldl (· ++ ·) #[]).toList = _
  rw [rep_tl]
  rfl
structure BandOk (k : Str) (n : Int) (l : List Int) : Prop where
  io : ∀ x ∈ l, 0 ≤ x ∧ x ≤ n
  up : k = "stacks" ∨ k = "shares" → l.Pairwise (· ≤ ·)
  sh : k = "shares" → l.getLast? = some n ∨ ∀ x ∈ l, x = 0
structure LPl (k : Str) (w n S f : Int) (m : Nat) (lss : List (List Int)) (xs : List (Option Str)) (ss : List Str) : Prop where
  kd : IsKd k
  w0 : 1 ≤ w
  w1 : w ≤ 6
  pm : PMk k n S f m
  l0 : 1 ≤ lss.length
  l1 : lss.length ≤ 12
  ll : ∀ l ∈ lss, l.length = ss.length ∧ BandOk k n l
  xl : xs.length = lss.length
  xo : ∀ x, some x ∈ xs → Ltr x
  s0 : 1 ≤ ss.length
  s1 : ss.length ≤ 4
  so : ∀ s ∈ ss, Ltr s
theorem LPl.ok {k : Str} {w n S f : Int} {m : Nat} {lss : List (List Int)} {xs : List (Option Str)} {ss : List Str} (h : LPl k w n S f m lss xs ss) : PlOk k w n (plMs S f m) lss xs ss (mkP (S * f)) (mkP (S * (f + (m - 1)))) where
  kd := h.kd
  w0 := h.w0
  w1 := h.w1
  mo := plMs_ok h.pm
  l0 := h.l0
  l1 := h.l1
  ll := fun l hl => by have := h.s1; rw [(h.ll l hl).1]; omega
  xl := by have := h.l1; rw [h.xl]; omega
  xo := fun x hx => (h.xo x hx).2.1
  s0 := h.s0
  s1 := h.s1
  so := fun s hs => (h.so s hs).2.1
end Dt
namespace Dt
open PySem PySem.Spec L2 Kx PyProof.Rows
end Dt
set_option Elab.async false
set_option linter.all false
set_option maxRecDepth 100000
set_option maxHeartbeats 1000000
set_option autoImplicit false
namespace Kx
open PySem PySem.Spec L2 PyProof.Rows
section
variable {X : Cx}
end
end Kx
namespace Dt
open PySem PySem.Spec L2 Kx PyProof.Rows
section
variable {T : Tb}
end
theorem num_len {m k : Nat} (h : m < 10 ^ k) (hk : 0 < k) : (Str.ofString (toString ((m : Nat) : Int))).length ≤ k := by
  rw [← cps_len, W.KIN.signs_num, List.length_map]
  exact (Nat.length_toDigits_le_iff (by decide) hk).mpr h
end Dt
set_option Elab.async false
set_option linter.all false
set_option maxRecDepth 100000
set_option maxHeartbeats 1000000
set_option autoImplicit false
namespace Dt
open PySem PySem.Spec L2 Kx PyProof.Rows
section
variable {α β : Type}
def jnG (w : Nat) (s : α) : List (List α) → List α
  | [] => []
  | b :: bs => b.flatMap (List.replicate w) ++ (bs.map fun b => s :: b.flatMap (List.replicate w)).flatten
end
end Dt
set_option Elab.async false
set_option linter.all false
set_option maxRecDepth 100000
set_option maxHeartbeats 1000000
set_option autoImplicit false
namespace Dt
open PySem PySem.Spec L2 Kx PyProof.Rows
theorem cut_fr (x : Str) {a : Int} (h0 : 0 ≤ a) (h2 : a ≤ x.length) : (cutS x (some a) none).cps.toList = x.cps.toList.drop a.toNat := by
  unfold cutS
  have e1 : HT.sIx x.length 0 (some a) = a.toNat := by
    show (if a < 0 then _ else min a.toNat x.length) = _
    rw [if_neg (by omega)]
    omega
  rw [e1, HT.sIx_none]
  show (x.cps.toList.drop a.toNat).take _ = _
  rw [List.take_of_length_le (by rw [List.length_drop, cps_len]; exact Nat.le_refl _)]
end Dt
set_option Elab.async false
set_option linter.all false
set_option maxRecDepth 100000
set_option maxHeartbeats 1000000
set_option autoImplicit false
namespace Dt
open PySem PySem.Spec L2 Kx PyProof.Rows
def rowsC (w n : Int) (sep : Nat → Nat) (cols : List (List (Nat → Nat))) : List Str := (List.range (n + 1).toNat).map fun lv : Nat => mkS ((jnG w.toNat sep cols).map fun f => f lv)
theorem jnG_mem {α : Type} {w : Nat} {s x : α} {bs : List (List α)} (h : x ∈ jnG w s bs) : x = s ∨ ∃ b ∈ bs, x ∈ b := by
  have fl : ∀ b : List α, x ∈ b.flatMap (List.replicate w) → x ∈ b := fun b hx => by
    obtain ⟨y, hy, hx⟩ := List.mem_flatMap.mp hx
    rw [(List.mem_replicate.mp hx).2]
    exact hy
  cases bs with
  | nil => cases h
  | cons b bs =>
    rcases List.mem_append.mp h with hx | hx
    · exact .inr ⟨b, List.mem_cons_self .., fl b hx⟩
    · obtain ⟨l, hl, hx⟩ := List.mem_flatten.mp hx
      obtain ⟨c, hc, rfl⟩ := List.mem_map.mp hl
      rcases List.mem_cons.mp hx with rfl | hx
      · exact .inl rfl
      · exact .inr ⟨c, List.mem_cons_of_mem _ hc, fl c hx⟩
theorem rows_dep {w n : Int} {sep : Nat → Nat} {cols : List (List (Nat → Nat))} (hs : ∀ i, Cl (sep i)) (h : ∀ b ∈ cols, ∀ f ∈ b, ∀ i, Cl (f i)) : Dep 1 (.lst ((rowsC w n sep cols).map D.str)) := .lst fun d hd => by
  obtain ⟨y, hy, rfl⟩ := List.mem_map.mp hd
  obtain ⟨i, _, rfl⟩ := List.mem_map.mp hy
  refine .str (cl_ok fun c hc => ?_)
  rw [tl_mk] at hc
  obtain ⟨f, hf, rfl⟩ := List.mem_map.mp hc
  rcases jnG_mem hf with rfl | ⟨b, hb, hf⟩
  · exact hs i
  · exact h b hb f hf i
end Dt
set_option Elab.async false
set_option linter.all false
set_option maxRecDepth 100000
set_option maxHeartbeats 1000000
set_option autoImplicit false
namespace Dt
open PySem PySem.Spec L2 Kx PyProof.Rows
end Dt
set_option Elab.async false
set_option linter.all false
set_option maxRecDepth 100000
set_option maxHeartbeats 1000000
set_option autoImplicit false
namespace Dt
open PySem PySem.Spec L2 Kx PyProof.Rows
section
variable {T : Tb} {E : XK} {ta tb : TE} {wa wb : WE}
end
section
variable {X : Cx} {T : Tb} {E : XK} {o e : Expr} {to te : TE} {wo we : WE} {apos pos : Pos}
end
end Dt
set_option Elab.async false
set_option linter.all false
set_option maxRecDepth 100000
set_option maxHeartbeats 1000000
set_option autoImplicit false
namespace Dt
open PySem PySem.Spec L2 Kx PyProof.Rows
def gB (n S f : Int) (m : Nat) : Int := lvZ (S * f) (S * (f + (m - 1))) n 0
end Dt
set_option Elab.async false
set_option linter.all false
set_option maxRecDepth 100000
set_option maxHeartbeats 1000000
set_option autoImplicit false
namespace Dt
open PySem PySem.Spec L2 Kx PyProof.Rows
end Dt
set_option Elab.async false
set_option linter.all false
set_option maxRecDepth 100000
set_option maxHeartbeats 1000000
set_option autoImplicit false
namespace Dt
open PySem PySem.Spec L2 Kx PyProof.Rows
theorem LPl.with {k : Str} {w n S f : Int} {m : Nat} {lss ls : List (List Int)} {xs : List (Option Str)} {ss : List Str} (h : LPl k w n S f m lss xs ss) (h0 : 1 ≤ ls.length) (h1 : ls.length ≤ 12) (hl : ∀ l ∈ ls, l ∈ lss) : LPl k w n S f m ls (List.replicate ls.length none) ss :=
  { h with l0 := h0, l1 := h1, ll := fun l x => h.ll l (hl l x), xl := List.length_replicate .., xo := fun x hx => by have := (List.mem_replicate.mp hx).2; cases this }
end Dt
set_option Elab.async false
set_option linter.all false
set_option maxRecDepth 100000
set_option maxHeartbeats 1000000
set_option autoImplicit false
namespace Dt
open PySem PySem.Spec L2 Kx PyProof.Rows
end Dt
set_option Elab.async false
set_option linter.all false
set_option maxRecDepth 100000
set_option maxHeartbeats 1000000
set_option autoImplicit false
namespace Kx
open PySem PySem.Spec L2 PyProof.Rows PySem.W
section
variable {X : Cx} {o e : Expr} {to te : TE} {apos pos : Pos}
end
end Kx
namespace Dt
open PySem PySem.Spec L2 Kx PyProof.Rows
section
variable {T : Tb} {E : XK}
def partD (a b : Str) : D := .tup [.str (Txt.partition a b).1, .str (Txt.partition a b).2.1, .str (Txt.partition a b).2.2]
def dPart : Str → D → (R → Prop) → Prop := fun a e Ψ => ∃ b : Str, e = .str b ∧ ((b.length == 0) = false ∧ a.length ≤ sizeLine) ∧ Ψ (.val (partD a b))
theorem dpart_str {a b : Str} {Ψ : R → Prop} : dPart a (.str b) Ψ = sideR ((b.length == 0) = false ∧ a.length ≤ sizeLine) (Ψ (.val (partD a b))) := propext ⟨fun ⟨_, e, h⟩ => by cases e; exact h, fun h => ⟨_, rfl, h⟩⟩
end
section
variable {X : Cx} {T : Tb} {E : XK} {o e : Expr} {to te : TE} {wo we : WE} {apos pos : Pos}
end
end Dt
namespace Dt
open PySem PySem.Spec L2 Kx PyProof.Rows
end Dt
set_option Elab.async false
set_option linter.all false
set_option maxRecDepth 100000
set_option maxHeartbeats 1000000
set_option autoImplicit false
namespace Dt
open PySem PySem.Spec L2 Kx PyProof.Rows
def ten (p : Int × Int) : Int × Int := (lowT (10 * p.1) p.2, lowB (10 * p.1) p.2)
def Les (p : Int × Int) : Prop := -(10 ^ 11 * p.2) < p.1 ∧ p.1 < 10 ^ 11 * p.2
def rs10 (rs : List Rw) : List Rw := rs.map fun r => (r.1, r.2.map ten)
theorem ten_key {p : Int × Int} (h : 1 ≤ p.2) : 1 ≤ (ten p).2 ∧ (ten p).1 * p.2 = 10 * p.1 * (ten p).2 ∧ (ten p).2 ∣ p.2 := by
  obtain ⟨g, g0, e1, e2⟩ := low_mul (t := 10 * p.1) (b := p.2) (by omega)
  have lp := low_pos (t := 10 * p.1) (b := p.2) (by omega)
  refine ⟨lp.1, low_eq (by omega), ⟨g, ?_⟩⟩
  show p.2 = lowB (10 * p.1) p.2 * g
  rw [Int.mul_comm]
  exact e2
theorem ten_ok {p : Int × Int} (h : NumOk p) (hl : Les p) : NumOk (ten p) ∧ -(10 ^ 12 * (ten p).2) < (ten p).1 ∧ (ten p).1 < 10 ^ 12 * (ten p).2 := by
  have hp := h.pos
  obtain ⟨k1, k2, k3⟩ := ten_key hp.1
  have b1 : -(10 ^ 12 * (ten p).2) < (ten p).1 := by
    refine Int.lt_of_mul_lt_mul_right (a := p.2) ?_ (by omega)
    rw [k2]
    have := Int.mul_lt_mul_of_pos_right hl.1 (show 0 < 10 * (ten p).2 by omega)
    have e1 : -(10 ^ 11 * p.2) * (10 * (ten p).2) = -(10 ^ 12 * (ten p).2) * p.2 := by
      rw [Int.neg_mul, Int.neg_mul, show (10 : Int) ^ 12 = 10 ^ 11 * 10 by decide]
      simp only [Int.mul_comm, Int.mul_left_comm, Int.mul_assoc]
    have e2 : p.1 * (10 * (ten p).2) = 10 * p.1 * (ten p).2 := by simp only [Int.mul_comm, Int.mul_left_comm, Int.mul_assoc]
    omega
  have b2 : (ten p).1 < 10 ^ 12 * (ten p).2 := by
    refine Int.lt_of_mul_lt_mul_right (a := p.2) ?_ (by omega)
    rw [k2]
    have := Int.mul_lt_mul_of_pos_right hl.2 (show 0 < 10 * (ten p).2 by omega)
    have e1 : (10 ^ 11 * p.2) * (10 * (ten p).2) = 10 ^ 12 * (ten p).2 * p.2 := by
      rw [show (10 : Int) ^ 12 = 10 ^ 11 * 10 by decide]
      simp only [Int.mul_comm, Int.mul_left_comm, Int.mul_assoc]
    have e2 : p.1 * (10 * (ten p).2) = 10 * p.1 * (ten p).2 := by simp only [Int.mul_comm, Int.mul_left_comm, Int.mul_assoc]
    omega
  refine ⟨⟨?_, Int.dvd_trans k3 h.2.1, by omega, by omega⟩, b1, b2⟩
  exact lw_low (by omega)
structure T10 (ss : List Str) (rs : List Rw) : Prop where
  ok : TblOk ss rs
  les : ∀ r ∈ rs, ∀ p ∈ r.2, Les p
theorem T10.num {ss : List Str} {rs : List Rw} (h : T10 ss rs) {r : Rw} (hr : r ∈ rs) {p : Int × Int} (hp : p ∈ r.2) : NumOk p ∧ Les p := ⟨(h.ok.rok r hr).2.2 p hp, h.les r hr p hp⟩
theorem T10.tbl {ss : List Str} {rs : List Rw} (h : T10 ss rs) : TblOk ss (rs10 rs) where
  s0 := h.ok.s0
  s1 := h.ok.s1
  sok := h.ok.sok
  r0 := by unfold rs10; rw [List.length_map]; exact h.ok.r0
  r1 := by unfold rs10; rw [List.length_map]; exact h.ok.r1
  rok := fun r hr => by
    obtain ⟨q, hq, rfl⟩ := List.mem_map.mp hr
    refine ⟨(h.ok.rok q hq).1, by show (q.2.map ten).length = _; rw [List.length_map]; exact (h.ok.rok q hq).2.1, fun p hp => ?_⟩
    obtain ⟨x, hx, rfl⟩ := List.mem_map.mp hp
    exact (ten_ok (h.num hq hx).1 (h.num hq hx).2).1
  rb := fun r hr p hp => by
    obtain ⟨q, hq, rfl⟩ := List.mem_map.mp hr
    obtain ⟨x, hx, rfl⟩ := List.mem_map.mp hp
    exact (ten_ok (h.num hq hx).1 (h.num hq hx).2).2
theorem SortK.le {g : Nat → Int} {n : Nat} {ns : List Nat} (so : SortK g n ns) : ns.Pairwise fun i j => g i < g j ∨ (g i = g j ∧ i ≤ j) := List.pairwise_iff_forall_sublist.mpr fun {a b} h => by
  have r := List.pairwise_iff_forall_sublist.mp so.rise h
  by_cases z : g a = g b
  · refine .inr ⟨z, ?_⟩
    have f := h.filter (fun i => g i == g b)
    rw [so.stay] at f
    have f2 := f.trans List.filter_sublist
    have e : [a, b].filter (fun i => g i == g b) = [a, b] := by simp [z]
    rw [e] at f2
    have := List.pairwise_iff_forall_sublist.mp List.pairwise_lt_range f2
    omega
  · exact .inl (by omega)
theorem SortK.uniq {g : Nat → Int} {n : Nat} {ns ms : List Nat} (so : SortK g n ns) (so' : SortK g n ms) : ns = ms := by
  have p := so.perm.trans so'.perm.symm
  refine p.eq_of_pairwise (le := fun i j => g i < g j ∨ (g i = g j ∧ i ≤ j)) (fun a b _ _ h1 h2 => ?_) (SortK.le so) (SortK.le so')
  omega
end Dt
set_option Elab.async false
set_option linter.all false
set_option maxRecDepth 100000
set_option maxHeartbeats 1000000
set_option autoImplicit false
namespace Dt
open PySem PySem.Spec L2 Kx PyProof.Rows
def xsO (xs : List Str) (res : List (Option Nat)) : List (Option Str) := res.map fun o => o.map fun i => xs.getD i ⟨#[]⟩
section
variable {k : Str} {w n : Int} {ms : List (Int × Int)} {lss : List (List Int)} {xs : List (Option Str)} {ss : List Str} {a z : Int × Int}
end
end Dt
set_option Elab.async false
set_option linter.all false
set_option maxRecDepth 100000
set_option maxHeartbeats 1000000
set_option autoImplicit false
namespace Dt
open PySem PySem.Spec L2 Kx PyProof.Rows
section
variable {k : Str} {w n : Int} {ms : List (Int × Int)} {lss : List (List Int)} {xs : List (Option Str)} {ss : List Str} {a z : Int × Int}
end
section
variable {k : Str} {w n : Int} {ms : List (Int × Int)} {lss : List (List Int)} {xs : List (Option Str)} {ss : List Str} {a z : Int × Int}
end
end Dt
set_option Elab.async false
set_option linter.all false
set_option maxRecDepth 100000
set_option maxHeartbeats 1000000
set_option autoImplicit false
namespace Kx
open PySem PySem.Spec L2 PyProof.Rows PySem.W
section
variable {X : Cx}
end
end Kx
namespace Dt
open PySem PySem.Spec L2 Kx PyProof.Rows
section
variable {T : Tb} {E : XK}
def kD : Key → D
  | .inl i => .int i
  | .inr x => .str x
theorem PRep.dic {F H : Hp} {v : V} {ks : List Key} {ds : List D} (s : Same F H) (h : PRep T.K F H v (.dic ks ds)) : ∃ a vs, v = .ref a ∧ H a = some (.dK (ks.zip vs)) ∧ ks.length = vs.length ∧ RepA T.K F vs ds := by
  rcases h with h | ⟨_, _, _, _, e, _⟩
  · cases h with
    | dic h l r => exact ⟨_, _, rfl, s _ _ h, l, r⟩
  · cases e
theorem PRep.key {F H : Hp} {v : V} {k : Key} (h : PRep T.K F H v (kD k)) : v = kV k := by
  cases k with
  | inl i => exact h.int
  | inr x => exact h.str
theorem Rep.key {F : Hp} {v : V} {k : Key} (h : Rep T.K F v (kD k)) : v = kV k := by
  cases k with
  | inl i => cases h; rfl
  | inr x => cases h; rfl
end
end Dt
set_option Elab.async false
set_option linter.all false
set_option maxRecDepth 100000
set_option autoImplicit false
namespace L2
open PySem PySem.Spec PyProof.Rows
theorem setGen_size (s : Shared) (g : Nat) (x : GenState) : (s.setGen g x).gens.size = s.gens.size := by
  show (s.gens.setIfInBounds g x).size = _
  exact Array.size_setIfInBounds
theorem runs_gens {M : Model} {Γ : PySem.Ctx} {p : Pos} {t : Sem PySem.Fin} {fs : List PySem.Frame} {s s' : Shared} {e : End} (h : Runs M Γ p t fs s e s') : s.gens.size ≤ s'.gens.size := by
  induction h with
  | newGen _ ih => simp only [Array.size_push] at ih; omega
  | _ => first | omega | (simp only [setGen_size] at *; omega)
theorem wakes_gens {M : Model} {Γ : PySem.Ctx} {p : Pos} {g : Nat} {r : Resume} {s s' : Shared} {res : GenResult} (h : Wakes M Γ p g r s res s') : s.gens.size ≤ s'.gens.size := by
  unfold Wakes at h
  split at h
  · exact h.elim
  · split at h
    · obtain ⟨e, s1, h1, _, _, rfl⟩ := h
      have := runs_gens h1
      simp only [setGen_size] at *; omega
    · obtain ⟨_, rfl⟩ := h; exact Nat.le_refl _
    · obtain ⟨_, rfl⟩ := h; rw [setGen_size]; exact Nat.le_refl _
  · obtain ⟨e, s1, h1, _, _, rfl⟩ := h
    have := runs_gens h1
    simp only [setGen_size] at *; omega
  · obtain ⟨_, rfl⟩ := h; exact Nat.le_refl _
  · obtain ⟨_, rfl⟩ := h; exact Nat.le_refl _
theorem wp_gens {M : Model} {Γ : PySem.Ctx} {α : Type} {n : Nat} (t : Sem α) : ∀ (Q : α → Pos → Shared → Prop) (E : Value → Pos → Shared → Prop) (p : Pos) (s : Shared), n ≤ s.gens.size → Sem.wp M Γ t Q E p s → Sem.wp M Γ t (fun a p' s' => n ≤ s'.gens.size ∧ Q a p' s') (fun e p' s' => n ≤ s'.gens.size ∧ E e p' s') p s := by
  induction t with
  | pure a => intro Q E p s hn h; rw [Sem.wp] at h ⊢; exact ⟨hn, h⟩
  | raise x => intro Q E p s hn h; rw [Sem.wp] at h ⊢; exact ⟨hn, h⟩
  | call c h g l k ih =>
    intro Q E p s hn h
    rw [Sem.wp] at h ⊢
    obtain ⟨r, s1, hr, hq⟩ := h
    exact ⟨r, s1, hr, ih r Q E p s1 (Nat.le_trans hn (runs_gens hr)) hq⟩
  | resume g r l k ih =>
    intro Q E p s hn h
    rw [Sem.wp] at h ⊢
    obtain ⟨r, s1, hr, hq⟩ := h
    exact ⟨r, s1, hr, ih r Q E p s1 (Nat.le_trans hn (wakes_gens hr)) hq⟩
  | newGen c k ih =>
    intro Q E p s hn h
    rw [Sem.wp] at h ⊢
    exact ih _ Q E p _ (by simp only [Array.size_push]; omega) h
  | load a p k ih =>
    intro Q E p s hn h
    rw [Sem.wp] at h ⊢
    obtain ⟨o, h1, h2⟩ := h
    exact ⟨o, h1, ih _ Q E p _ hn h2⟩
  | genState a k ih =>
    intro Q E p s hn h
    rw [Sem.wp] at h ⊢
    obtain ⟨o, h1, h2⟩ := h
    exact ⟨o, h1, ih _ Q E p _ hn h2⟩
  | update a pt f k ih =>
    intro Q E p s hn h
    rw [Sem.wp] at h ⊢
    exact ⟨h.1, ih _ Q E p _ hn h.2⟩
  | choose a pt f ih =>
    intro Q E p s hn h
    rw [Sem.wp] at h ⊢
    exact ⟨h.1, ih _ Q E p _ hn h.2⟩
  | _ =>
    intro Q E p s hn h
    rw [Sem.wp] at h ⊢
    first
      | exact h
      | exact h.elim
      | (rename_i ih; exact ih _ Q E _ _ hn h)
theorem wpAny_gens {M : Model} {A : Around} {α : Type} {t : Sem α} {Q : α → Shared → Prop} {E : Value → Shared → Prop} {s : Shared} {n : Nat} (hn : n ≤ s.gens.size) (h : wpAny M A t Q E s) : wpAny M A t (fun a s' => n ≤ s'.gens.size ∧ Q a s') (fun e s' => n ≤ s'.gens.size ∧ E e s') s :=
  fun Γ p hΓ => wp_gens t _ _ p s hn (h Γ p hΓ)
end L2
set_option Elab.async false
set_option linter.all false
set_option maxRecDepth 100000
set_option autoImplicit false
namespace L2
open PySem PySem.Spec PyProof.Rows PySem.W
def cxGen (X : Cx) (A : Around) (env : Env) (s : Shared) (H : Hp) (fp : List Addr) : Cx where
  prog := X.prog
  w := X.w
  K := X.K
  mg := X.mg
  base := X.base
  A := A
  N := X.N
  s_0 := s
  H_0 := H
  env := env
  outer := X.stack
  stack := env :: X.stack
  ex := fp
  calm := true
  fn := fun _ => false
  pn := []
  xe := fun _ _ => False
abbrev genE (X : Cx) (scope : Scope) (C : Addr) (code : Value) : Env := genEnv scope (cloFrom X.env.cells scope.names []) C code builtinsNs X.env
section
variable {X : Cx} {pins : List (Addr × Obj)} {σ : St} {H : Hp} {s : Shared}
theorem gen_start {A : Around} {scope : Scope} {own : List (Str × Nat)} {fp : List Addr} {code it : Value} {h' : Heap} {g' : Array GenState} {tk : Nat} {a : Addr} {oa : Obj}
    (I : Inv X pins σ H s) (ok : BlkOk X.N X.env.scope scope own) (hN : X.N.Nodup) (hnc : ∀ y ∈ scope.names, y.2 ≠ .cell) (hfp : ∀ b ∈ fp, FpOk X pins H b ∧ b < s.heap.objs.size)
    (hA : A.frames = some (genE X scope s.heap.objs.size code :: X.stack)) (hh : A.handled = none)
    (hns : h'.Ns s.heap.objs.size (fun y => if y = (".0" : Str) then some it else none)) (hk : ∀ b o, s.heap.get? b = some o → h'.get? b = some o) (hg : AllBare g')
    (ha : h'.get? a = some oa) (hsz : s.heap.objs.size < a) (hoa : ∀ v, oa.data ≠ .cell v) :
    Inv (cxGen X A (genE X scope s.heap.objs.size code) s H fp) [(a, oa)] (wipe σ (own.map (·.2))) H { s with heap := h', gens := g', toks := tk } := by
  have hfree : ∀ y ∈ scope.names, y.2 = .free → ∃ c, X.env.cells.lookup y.1 = some c := fun y hy e => by
    rcases ok.free y hy e with k | k
    · exact I.ok.has _ (.inl k)
    · exact I.ok.has _ (.inr k)
  have cm : ∀ {y c}, (y, c) ∈ cloFrom X.env.cells scope.names [] → X.env.cells.lookup y = some c ∧ c < s.heap.objs.size := fun {y c} hm => by
    rcases cloFrom_mem hm with hm | ⟨h1, rfl⟩
    · cases hm
    · obtain ⟨c, hc⟩ := hfree _ h1 rfl
      rw [hc]
      obtain ⟨w, z⟩ := I.cell _ _ hc
      exact ⟨rfl, z.lt⟩
  have look : ∀ {y}, scope.names.lookup y = some .free → ∃ c, (cloFrom X.env.cells scope.names []).lookup y = some c ∧ X.env.cells.lookup y = some c := fun {y} hl => by
    have hy : (y, NameKind.free) ∈ scope.names := PySem.mem_of_lookup hl
    obtain ⟨c', e'⟩ := mem_lookup (cloFrom_has (cells := X.env.cells) (acc := []) hy)
    exact ⟨c', e', (cm (PySem.mem_of_lookup e')).1⟩
  have okB : (cxGen X A (genE X scope s.heap.objs.size code) s H fp).Ok := by
    refine ⟨I.ok.mod, ok.kind, I.ok.glob, rfl, Nat.le_refl _, fun y z c e1 e2 => I.ok.inj y z c (cm (PySem.mem_of_lookup e1)).1 (cm (PySem.mem_of_lookup e2)).1, fun y hy => ?_, fun y c z e => (by cases z), fun _ => hh, hA, .inr ⟨rfl, rfl⟩, fun b hb => ⟨?_, fun y c e z => ?_⟩, I.bs, Nat.le_trans I.ok.bsz I.sz, fun b o e hb => ?_, fun b hb z => ?_, I.stack, I.stkFree⟩
    · have hy : scope.names.lookup y = some .cell ∨ scope.names.lookup y = some .free := hy
      rcases hy with hy | hy
      · exact absurd rfl (hnc _ (PySem.mem_of_lookup hy))
      · obtain ⟨c, e, _⟩ := look hy
        exact ⟨c, e⟩
    · exact Nat.ne_of_lt (hfp b hb).2
    · exact (hfp b hb).1.2.2.2.2.1 y c (cm (PySem.mem_of_lookup e)).1 z
    · rcases (hfp b hb).1.2.2.2.1 with z | z
      · exact I.ok.noex b o e z
      · exact absurd (Nat.lt_of_lt_of_le (Heap.lt_size e) (Nat.le_trans I.ok.bsz z)) (Nat.lt_irrefl _)
    · rcases List.mem_cons.mp (I.stkSub b z) with z | z
      · exact (hfp b hb).1.2.1 z
      · exact (hfp b hb).1.2.2.1 z
  refine ⟨okB, rfl, hg, Un.kept hk, ⟨_, hns, fun i y av e1 e2 e3 => ?_⟩, fun y c e => ?_, I.hok.fresh (Nat.le_refl _), fun y c e => I.freeC y c (cm (PySem.mem_of_lookup e)).1, fun p hp => ?_, I.hok.kept hk, by rw [wipe_length]; exact I.len⟩
  · obtain ⟨e2, hne⟩ := wipe_some e2
    have own' : scope.names.lookup y = some .local → False := fun hl => by
      rcases ok.own _ (PySem.mem_of_lookup hl) (.inl rfl) with e' | e'
      · obtain ⟨p, hp, hpy⟩ := List.mem_map.mp e'
        have e4 := ok.ix p hp
        have : p.1 = y := hpy
        rw [this] at e4
        exact hne (List.mem_map.mpr ⟨p, hp, nodup_ix hN e4 e1⟩)
      · exact e' (List.mem_of_getElem? e1)
    have e3 : Vis scope y := e3
    rcases e3 with e3 | e3 | e3
    · exact (own' e3).elim
    · exact absurd rfl (hnc _ (PySem.mem_of_lookup e3))
    · obtain ⟨m, hn, hl⟩ := I.loc
      have hvis : Vis X.env.scope y := (ok.free _ (PySem.mem_of_lookup e3) rfl).elim (fun k => .inr (.inl k)) (fun k => .inr (.inr k))
      obtain ⟨w, r, q⟩ := hl i y av e1 e2 hvis
      refine ⟨w, r, .inr ⟨.inr e3, ?_⟩⟩
      obtain ⟨c, h1, h2⟩ := look e3
      rcases q with ⟨k, _⟩ | ⟨_, c', e', z⟩
      · have k : X.env.scope.names.lookup y = some .local := k
        rcases ok.free _ (PySem.mem_of_lookup e3) rfl with k' | k' <;> rw [show X.env.scope.names.lookup y = _ from k'] at k <;> cases k
      · rw [h2] at e'; cases e'
        exact ⟨c, h1, z.keeps hk⟩
  · obtain ⟨w, z⟩ := I.cell y c (cm (PySem.mem_of_lookup e)).1
    exact ⟨w, z.keeps hk⟩
  · have e : p = (a, oa) := by simpa [cxGen] using hp
    subst e
    refine ⟨ha, I.hok.fresh (Nat.le_of_lt hsz), Nat.ne_of_gt hsz, fun z => ?_, hoa⟩
    have z : a ∈ frs X.stack := z
    rcases List.mem_cons.mp (I.stkSub a z) with z | z
    · exact absurd (z ▸ I.lt) (Nat.not_lt_of_gt hsz)
    · exact I.nofs (Nat.le_of_lt hsz) z
theorem Inv.gend {g' : Array GenState} {t' : Nat} {h' : Heap} (I : Inv X pins σ H s) (hg : AllBare g') (hk : ∀ b o, s.heap.get? b = some o → h'.get? b = some o) : Inv X pins σ H { s with heap := h', gens := g', toks := t' } :=
  I.step (d' := s.drawn) (ch := []) (fun _ z => nomatch z) (fun b o _ _ _ e _ => hk b o e) (fun b o _ _ _ e _ => ⟨o.slots, hk b o e⟩) (fun _ _ _ _ n => n) (fun b o _ e => ⟨o, hk b o e⟩) (fun _ _ e => e) (fun _ _ _ e => e) (fun b ps e => ⟨#[], by rw [e]; simp⟩) (fun m hm => hm.keeps hk) (I.hok.kept hk) hg
end
end L2
set_option Elab.async false
set_option linter.all false
set_option maxRecDepth 100000
set_option autoImplicit false
namespace L2
open PySem PySem.Spec PyProof.Rows PySem.W
abbrev gExp (elt tg iter : Expr) (scope : Scope) (gpos : Pos) : Expr := .GeneratorExp elt [⟨tg, iter, [], 0⟩] scope gpos
abbrev gCode (elt tg iter : Expr) (scope : Scope) (gpos : Pos) (it : Value) (env : Env) : Code := .compLoop (gExp elt tg iter scope gpos) 0 it .none env
def GRest (Y : Cx) (pins : List (Addr × Obj)) (σ : St) (fp : List Addr) (tn : Nat → Heap → Prop) (W : Nat → Nat → Hp → Prop) (g n : Nat) (s : Shared) : Prop :=
  ∃ i m H', m < n ∧ W i m H' ∧ Inv Y pins σ H' s ∧ tn i s.heap ∧ (∀ b ∈ fp, H' b = none) ∧ g < s.gens.size
def GFail (Y : Cx) (pins : List (Addr × Obj)) (g : Nat) (Q : VK) (s : Shared) : Prop := ∃ σ8 H', Inv Y pins σ8 H' s ∧ g < s.gens.size ∧ Q (.bl false) H'
def GDone (Y : Cx) (pins : List (Addr × Obj)) (σ : St) (g : Nat) (Q : VK) (s : Shared) : Prop := ∃ H', Inv Y pins σ H' s ∧ g < s.gens.size ∧ Q (.bl true) H'
def genYd (rest : Nat → Shared → Prop) (fail : Shared → Prop) : Protocol := fun n _ v s κ => ∃ b, v = .bool b ∧ if b = true then rest n s ∧ ∀ s'', rest n s'' → κ (.send .none) s'' else fail s
def GTurn (J : It) (W : Nat → Nat → Hp → Prop) (gt : TG) (te : TE) (σ : St) (vs : List Nat) (Q : VK) : Prop := ∀ i m H, W i m H →
  (J.stop i H ∧ Q (.bl true) H) ∨ (J.go i H ∧ ∃ Nx : Hp → Prop, (∀ H', Nx H' → ∃ m', m' < m ∧ W (i + 1) m' H') ∧ ∀ x H', J.yld i H x H' → gt x (wipe σ vs) H' fun σ2 H2 => wipe σ2 vs = wipe σ vs ∧ te σ2 H2 fun y H3 => ∃ b, y = .bl b ∧ if b = true then Nx H3 else Q (.bl false) H3)
theorem seg_genL {X : Cx} {A1 : Around} {elt tg iter : Expr} {scope : Scope} {gpos : Pos} {it : Addr} {env : Env} {s0 : Shared} {H0 : Hp} {fp : List Addr} {tn : Nat → Heap → Prop} {J : It} {W : Nat → Nat → Hp → Prop} {gt : TG} {te : TE} {σ : St} {vs : List Nat} {Q : VK} {pins : List (Addr × Obj)} {g : Nat}
    (T : Turn X.prog X.w X.K tg J fp it tn) (hp : ∀ p ∈ pins, ∀ b ∈ fp, p.1 ≠ b) (hco : env.scope.isCoroutine = false)
    (hg : PG (cxGen X (A1.over (gCode elt tg iter scope gpos (.ref it) env) []) env s0 H0 fp) tg gt) (he : PE (cxGen X (A1.over (gCode elt tg iter scope gpos (.ref it) env) []) env s0 H0 fp) elt te) (turn : GTurn J W gt te σ vs Q) :
    ∀ (n : Nat) (s₀ s : Shared), GRest (cxGen X (A1.over (gCode elt tg iter scope gpos (.ref it) env) []) env s0 H0 fp) pins (wipe σ vs) fp tn W g n s →
      Seg (model X.prog X.w) A1 (fun _ _ r s => r = .ok .next ∧ GDone (cxGen X (A1.over (gCode elt tg iter scope gpos (.ref it) env) []) env s0 H0 fp) pins (wipe σ vs) g Q s) (genYd (GRest (cxGen X (A1.over (gCode elt tg iter scope gpos (.ref it) env) []) env s0 H0 fp) pins (wipe σ vs) fp tn W g) (GFail (cxGen X (A1.over (gCode elt tg iter scope gpos (.ref it) env) []) env s0 H0 fp) pins g Q))
        n s₀ (gCode elt tg iter scope gpos (.ref it) env) ((model X.prog X.w).den (gCode elt tg iter scope gpos (.ref it) env)) [] s := by
  generalize hY : cxGen X (A1.over (gCode elt tg iter scope gpos (.ref it) env) []) env s0 H0 fp = Y at hg he ⊢
  have yA : Y.A = A1.over (gCode elt tg iter scope gpos (.ref it) env) [] := by rw [← hY]; rfl
  have yP : Y.prog = X.prog := by rw [← hY]; rfl
  have yw : Y.w = X.w := by rw [← hY]; rfl
  have yK : Y.K = X.K := by rw [← hY]; rfl
  have ye : Y.env = env := by rw [← hY]; rfl
  have yc : Y.calm = true := by rw [← hY]; rfl
  have yx : Y.ex = fp := by rw [← hY]; rfl
  have yn : Y.pn = [] := by rw [← hY]; rfl
  have yxe : Y.xe = fun _ _ => False := by rw [← hY]; rfl
  have stat : ∀ {σ' : St} {H' : Hp} {s' : Shared}, Inv Y pins σ' H' s' → (∀ b ∈ fp, H' b = none) → ∀ b ∈ fp, FpOk Y pins H' b := fun {σ' H' s'} I' hn b hb =>
    ⟨hn b hb, (I'.ok.exf b (yx ▸ hb)).1, I'.ok.exfs b (yx ▸ hb), .inl (yx ▸ hb), fun x c e => (I'.ok.exf b (yx ▸ hb)).2 x c e, fun p hp' => by
      rw [yn] at hp'
      exact hp p (by simpa using hp') b hb⟩
  have td0 := fun i s σ H I f t st => T.done Y yP yw yK yc i pins s σ H (fun _ _ => False) I f t st
  have ti0 := fun i s σ H I f t st => T.item Y yP yw yK yc i pins s σ H (fun _ _ => False) I f t st
  have pg : ∀ (pins : List (Addr × Obj)) s σ H v u Q, Inv Y pins σ H s → RelV v u → gt v σ H Q → wpAny (model X.prog X.w) Y.A (assign tg env u) (fun _ s' => ∃ σ' H', Inv Y pins σ' H' s' ∧ Q σ' H') (fun _ _ => False) s := fun pins s σ H v u Q I r h => by
    have z := hg pins s σ H v u Q I r h
    rw [yP, yw, ye, yxe] at z
    exact z
  have pe : ∀ (pins : List (Addr × Obj)) s σ H Q, Inv Y pins σ H s → te σ H Q → wpAny (model X.prog X.w) Y.A (eval elt env) (EP Y pins σ Q) (fun _ _ => False) s := fun pins s σ H Q I h => by
    have z := he pins s σ H Q I h
    rw [yP, yw, ye, yxe] at z
    exact z
  rw [yA] at td0 ti0 pg pe
  intro n
  induction n with
  | zero =>
    rintro s₀ s ⟨i, m, H', hm, _⟩
    omega
  | succ n ih =>
    rintro s₀ s5 ⟨i, m, H5, hm, w5, I5, st5, n5, gs5⟩
    show Seg _ _ _ _ _ _ _ (Sem.onRaise (compTurn (gExp elt tg iter scope gpos) 0 (.ref it) .none env) (leaving env)) [] s5
    rw [Sem.onRaise_eq_wrap, compTurn_gen]
    refine seg_bind_wrap (wpAny_standAt ?_)
    refine seg_bind_wrap ?_
    rcases turn i m H5 w5 with ⟨stop, qq⟩ | ⟨go, Nx, hNx, step⟩
    · refine thnF (wpAny_mono (wpAny_gens gs5 (td0 i s5 _ H5 I5 (stat I5 n5) st5 stop)) (fun _ _ z => z) fun _ _ z => z.2.elim) fun r s6 ⟨g6, hr, I6⟩ => ?_
      subst hr
      exact seg_end (.ok .next) ⟨rfl, H5, I6, g6, qq⟩
    · refine thnF (wpAny_mono (wpAny_gens gs5 (ti0 i s5 _ H5 I5 (stat I5 n5) st5 go)) (fun _ _ z => z) fun _ _ z => z.2.elim) fun r s6 ⟨g6, u, hr, h6⟩ => ?_
      subst hr
      refine seg_bind_wrap ?_
      refine thnF (wpAny_mono (wpAny_gens g6 h6) (fun _ _ z => z) fun _ _ z => z.2.elim) fun _ s7 ⟨g7, x, H7, I7, r7, y7, st7, n7⟩ => ?_
      have I7' := I7.pinned (stat I7 n7) (T.obj _ _ st7)
      refine seg_bind_wrap ?_
      refine thnF (wpAny_mono (wpAny_gens g7 (pg _ s7 _ H7 x u _ I7' r7 (step x H7 y7))) (fun _ _ z => z) fun _ _ z => z.2.elim) fun _ s8 ⟨g8, σ8, H8, I8, hw8, q8⟩ => ?_
      refine seg_bind_wrap (wpAny_tests_nil ?_)
      show Seg _ _ _ _ _ _ _ (Sem.wrap _ _ id id ((do let v ← eval elt env; standAt elt.pos; let _ ← yieldOut env v; pure ()) >>= fun _ => again (gCode elt tg iter scope gpos (.ref it) env))) [] s8
      rw [Sem.bind_eq_wrap', Sem.wrap_wrap]
      refine seg_bind_wrap ?_
      refine thnF (wpAny_mono (wpAny_gens g8 (pe _ s8 σ8 H8 _ I8 q8)) (fun _ _ z => z) fun _ _ z => z.2.elim) fun z s9 ⟨g9, yv, H9, I9, r9, b, hb, q9⟩ => ?_
      refine seg_bind_wrap (wpAny_standAt ?_)
      have ey : yieldOut env z = Sem.yield z false [] (fun r => match r with | .send x => Sem.pure x | .throw e => raiseThrown e) := by
        unfold yieldOut
        rw [if_neg (by rw [hco]; decide)]
        rfl
      rw [ey, Sem.bind_eq_wrap', Sem.wrap_wrap, Sem.wrap.eq_22]
      subst hb
      have r9 : z = .bool b := r9
      refine seg_yield rfl rfl rfl ⟨b, r9, ?_⟩
      cases b with
      | false => exact ⟨σ8, H9, I9.unpinned, g9, q9⟩
      | true =>
        simp only [if_true] at q9 ⊢
        obtain ⟨m', hm', w'⟩ := hNx H9 q9
        have pin' : ∀ b ∈ fp, ∀ o, s7.heap.get? b = some o → s9.heap.get? b = some o ∧ H9 b = none := fun b hb o e =>
          let z := I9.pin (b, o) (List.mem_append_right _ (List.mem_append_right _ (mem_pinsAt hb e)))
          ⟨z.1, z.2.1⟩
        have hl : (wipe σ vs).length = σ8.length := by rw [← hw8, wipe_length]
        refine ⟨⟨i + 1, m', H9, by omega, w', (I9.unpinned (pins := pins)).weak hl (fun j v e => ?_), T.keep _ _ _ st7 fun b hb o e => (pin' b hb o e).1, fun b hb => ?_, g9⟩, fun s'' hr => ?_⟩
        · rw [← hw8] at e
          exact (wipe_some e).1
        · obtain ⟨o, e, _⟩ := T.obj _ _ st7 b hb
          exact (pin' b hb o e).2
        · show Seg _ _ _ _ _ _ _ (Sem.pure (Fin.again (gCode elt tg iter scope gpos (.ref it) env))) [] s''
          exact seg_again rfl (ih s'' s'' hr)
end L2
set_option Elab.async false
set_option linter.all false
set_option maxRecDepth 100000
set_option autoImplicit false
namespace L2
open PySem PySem.Spec PyProof.Rows PySem.W
theorem bare_set {gs : Array GenState} {g : Nat} {x : GenState} (h : AllBare gs) (hx : x.bare = true) : AllBare (gs.setIfInBounds g x) := by
  intro y hy
  rcases Array.mem_or_eq_of_mem_setIfInBounds hy with z | rfl
  · exact h y z
  · exact hx
theorem GRest.gens {Y : Cx} {pins : List (Addr × Obj)} {σ : St} {fp : List Addr} {tn : Nat → Heap → Prop} {W : Nat → Nat → Hp → Prop} {g n : Nat} {s : Shared} {x : GenState} {tk : Nat} (h : GRest Y pins σ fp tn W g n s) (hx : x.bare = true) : GRest Y pins σ fp tn W g n ({ s with toks := tk }.setGen g x) := by
  obtain ⟨i, m, H', h1, h2, I, h3, h4, h5⟩ := h
  exact ⟨i, m, H', h1, h2, I.gend (bare_set I.bare hx) fun _ _ e => e, h3, h4, by rw [setGen_size]; exact h5⟩
def AllR (Y : Cx) (Q : VK) (r : Result) (s : Shared) : Prop := ∃ b pins σ H', r = .ok (.ret (.bool b)) ∧ Inv Y pins σ H' s ∧ Q (.bl b) H'
theorem all_loop {X Y : Cx} {A : Around} {a : Addr} {oa : Obj} {nm qn : Value} {σ : St} {fp : List Addr} {tn : Nat → Heap → Prop} {W : Nat → Nat → Hp → Prop} {g : Nat} {Q : VK} (hh : A.handled = none) (hd : (A.under (.builtin "all.loop" ⟨[.ref a], []⟩)).depth < recursionLimit)
    (o1 : oa.cls = .type "generator") (o2 : oa.data = .fields #[.int g 0, nm, qn]) (o3 : oa.slots = #[]) :
    ∀ (n : Nat) (s : Shared) (gs : GenState), GRest Y [(a, oa)] σ fp tn W g n s → s.gens[g]? = some gs →
      (∀ s'', GRest Y [(a, oa)] σ fp tn W g n s'' → GenState.Goes (model X.prog X.w) (A.under (.builtin "all.loop" ⟨[.ref a], []⟩)).in1 (fun _ _ r s => r = .ok .next ∧ GDone Y [(a, oa)] σ g Q s) (genYd (GRest Y [(a, oa)] σ fp tn W g) (GFail Y [(a, oa)] g Q)) n gs (.send .none) s'') →
      codeAny (model X.prog X.w) A (.builtin "all.loop" ⟨[.ref a], []⟩) (AllR Y Q) s := by
  intro n
  induction n with
  | zero =>
    rintro s gs ⟨i, m, H', hm, _⟩
    omega
  | succ n ih =>
    intro s gs hr hg hgo
    refine codeAny_builtin F.entry_all_loop ?_
    show wpAny _ _ (pyNext (.ref a) >>= _) _ _ s
    have hr0 := hr
    obtain ⟨i, m, H', hm, w, I, st, nf, gsz⟩ := hr
    have isg : s.heap.IsGen a g := ⟨oa, nm, qn, (I.pin (a, oa) (List.mem_append_right _ (List.mem_singleton.mpr rfl))).1, o1, o2, o3⟩
    refine wpAny_bind (wpAny_pyNext_genexpQ (n := n + 1) (P := fun _ _ s => GDone Y [(a, oa)] σ g Q s) hh I.nolimit hd isg hg (hgo _ (hr0.gens (tk := s.toks) rfl)) (fun v s1 gs' hb hy => ?_) fun s1 hdn h' hk => ?_)
    · obtain ⟨b, rfl, hy⟩ := hy
      cases b with
      | false =>
        obtain ⟨σ8, H8, I8, g8, q8⟩ := hy
        refine wpAny_bind (wpAny_holding (wpAny_truthy_bool (wpAny_bind (wpAny_letGo ?_))))
        simp only [Bool.false_eq_true, if_false]
        refine wpAny_bind (wpAny_rule ?_)
        exact wpAny_pure ⟨false, _, σ8, H8, rfl, I8.gend (bare_set I8.bare hb) fun _ _ e => e, q8⟩
      | true =>
        obtain ⟨hr1, hk1⟩ := hy
        refine wpAny_bind (wpAny_holding (wpAny_truthy_bool (wpAny_bind (wpAny_letGo ?_))))
        simp only [if_true]
        have g1 : g < s1.gens.size := by
          obtain ⟨_, _, _, _, _, _, _, _, z⟩ := hr1
          exact z
        refine wpAny_pure ⟨rfl, ih _ gs' (hr1.gens (tk := s1.toks) hb) ?_ fun s'' h'' => hk1 s'' h''⟩
        show (s1.gens.setIfInBounds g gs')[g]? = some gs'
        rw [Array.getElem?_setIfInBounds_self_of_lt g1]
    · obtain ⟨H9, I9, g9, q9⟩ := hdn
      refine wpAny_bind (wpAny_rule ?_)
      exact wpAny_pure ⟨true, _, σ, H9, rfl, I9.gend (bare_set I9.bare rfl) hk, q9⟩
end L2
set_option Elab.async false
set_option linter.all false
set_option maxRecDepth 100000
set_option autoImplicit false
namespace L2
open PySem PySem.Spec PyProof.Rows PySem.W Kx
abbrev sCode (elt tg iter : Expr) (scope : Scope) (gpos : Pos) (it : Value) (env : Env) : Code := .compStart (gExp elt tg iter scope gpos) 0 it .none env
abbrev allA (A : Around) (a : Addr) : Around := (A.under (.builtin "all.loop" ⟨[.ref a], []⟩)).in1
theorem seg_genS {P : Program} {w : World} {K : PySem.W.Frag} {A1 : Around} {R : GenEnd} {Yp : Protocol} {elt tg iter : Expr} {scope : Scope} {gpos : Pos} {it : Addr} {env : Env} {fp : List Addr} {tn : Nat → Heap → Prop} {J : It} {n i : Nat} {s₀ s : Shared}
    (T : Turn P w K tg J fp it tn) (st : tn i s.heap) (h : Seg (model P w) A1 R Yp n s₀ (gCode elt tg iter scope gpos (.ref it) env) ((model P w).den (gCode elt tg iter scope gpos (.ref it) env)) [] s) :
    Seg (model P w) A1 R Yp n s₀ (sCode elt tg iter scope gpos (.ref it) env) ((model P w).den (sCode elt tg iter scope gpos (.ref it) env)) [] s := by
  show Seg _ _ _ _ _ _ _ (Sem.onRaise (compStart (gExp elt tg iter scope gpos) 0 (.ref it) .none env) (leaving env)) [] s
  rw [Sem.onRaise_eq_wrap]
  unfold compStart
  rw [if_neg (by show ¬ ((0 : Nat) != 0) = true; decide)]
  refine seg_bind_wrap (fun Γ p hΓ => ?_)
  show Sem.wp _ Γ (Sem.ask Sem.pure) _ _ p s
  rw [Sem.wp, Sem.wp]
  cases hc : w.params.followText "comprehension-iter-twice" with
  | true =>
    rw [if_pos (show (model P w).w.params.followText "comprehension-iter-twice" = true from hc)]
    exact seg_again rfl h
  | false =>
    rw [if_neg (show ¬ (model P w).w.params.followText "comprehension-iter-twice" = true from by rw [show (model P w).w.params.followText "comprehension-iter-twice" = false from hc]; decide)]
    refine seg_bind_wrap (wpAny_rule ?_)
    show Seg _ _ _ _ _ _ _ (Sem.wrap _ _ id id (standAt iter.pos >>= fun _ => (pyIter (.ref it) >>= fun x => again (.compLoop (gExp elt tg iter scope gpos) 0 x .none env)))) [] s
    refine seg_bind_wrap (wpAny_standAt ?_)
    refine seg_bind_wrap (T.self _ i _ _ _ st ?_)
    exact seg_again rfl h
theorem allA_room {k : Nat} {A : Around} {a it : Addr} {elt tg iter : Expr} {scope : Scope} {gpos : Pos} {env : Env} (r : Room (k + 1) A) : Room k ((allA A a).over (gCode elt tg iter scope gpos (.ref it) env) []) := by
  have e1 : ((allA A a).over (gCode elt tg iter scope gpos (.ref it) env) []).depth = A.depth + 0 + 0 + 1 := rfl
  have e2 : ((allA A a).over (gCode elt tg iter scope gpos (.ref it) env) []).units = A.units + 1 + 1 + 0 + 3 := rfl
  refine ⟨r.hd, ?_, ?_⟩
  · have := r.dp; rw [e1]; omega
  · have := r.un; rw [e2]; omega
theorem allA_frames {A : Around} {a it : Addr} {elt tg iter : Expr} {scope : Scope} {gpos : Pos} {env : Env} {l : List Env} (h : A.frames = some l) : ((allA A a).over (gCode elt tg iter scope gpos (.ref it) env) []).frames = some (env :: l) := by
  show pushEnvs [env] (pushEnvs [] (pushEnvs [] A.frames)) = _
  rw [h]
  rfl
theorem check_all (a : Value) : checkBuiltinCall "all" ⟨[a], []⟩ = pure () := by kernel_rfl
end L2
set_option Elab.async false
set_option linter.all false
set_option maxRecDepth 100000
set_option autoImplicit false
namespace L2
open PySem PySem.Spec PyProof.Rows PySem.W Kx
def tAllW (P : Addr) (wi : TI) (g : TG) (te : TE) (vs : List Nat) : TE := fun σ H Q => wi σ H fun J H1 => Tab H1 P ∧ ∀ H2, (∀ b, b ≠ P → H2 b = H1 b) → Tab H2 P → ∃ W m, W 0 m H2 ∧ GTurn J W g te σ vs Q
section
variable {X : Cx}
theorem closG {pins : List (Addr × Obj)} {σ : St} {H : Hp} {s : Shared} {scope : Scope} {own : List (Str × Nat)} (I : Inv X pins σ H s) (ok : BlkOk X.N X.env.scope scope own) : closureFor scope X.env = pure (cloFrom X.env.cells scope.names []) :=
  closure_ok fun y hy e => by
    rcases ok.free y hy e with k | k
    · exact I.ok.has _ (.inl k)
    · exact I.ok.has _ (.inr k)
theorem pe_allG {k : Nat} {elt tg iter : Expr} {scope : Scope} {own : List (Str × Nat)} {p pos gpos : Pos} {wi : TI} {gt : TG} {te : TE} {c P bm : Addr} {ob : Obj} (hr : Room (k + 1) X.A) (hcalm : X.calm = true) (hN : X.N.Nodup) (hi : PI X tg iter wi) (ok : BlkOk X.N X.env.scope scope own)
    (hcode : X.env.code = .ref c) (hCK : codeHdIn X.K c P = true) (hB : Blt X bm ob) (hg : Gl X "all") (hm : X.mg "all" = none)
    (hco : scope.isCoroutine = false) (hnc : ∀ y ∈ scope.names, y.2 ≠ .cell) (h0 : scope.names.lookup (".0" : Str) = some NameKind.local)
    (hpg : ∀ (A : Around) (s : Shared) (H : Hp) (code : Value) (fp : List Addr), Room k A → PG (cxGen X A (genE X scope s.heap.objs.size code) s H fp) tg gt)
    (hpe : ∀ (A : Around) (s : Shared) (H : Hp) (code : Value) (fp : List Addr), Room k A → PE (cxGen X A (genE X scope s.heap.objs.size code) s H fp) elt te)
    (hfold : ∀ v, genFold iter X.env v = pure v) :
    PE X (.Call (.Name "all" p) [gExp elt tg iter scope gpos] [] pos) (tAllW P wi gt te (own.map (·.2))) := by
  intro pins s σ H Q I h
  refine wpAny_Call_Name_kw (ld_blt I hg hm (u := .builtin "all") (by decide +kernel) ?_)
  refine PyProof.Rows.callWith_builtin1 ?_ rfl rfl
  refine Calls.spliced_cons ?_
  have hh : X.A.handled = none := I.ok.hd hcalm
  have hC : CodeHd X.base c P := codeHd_of_K I.ok.mod.kin hCK
  refine wpAny_GeneratorExp_make hco (closG I ok) hnc h0 ok.kind hr.depth ?_ hfold
  refine thn (hi pins s σ H _ I h) fun xv s1 hx => thn hx fun itv s2 h2 => ?_
  obtain ⟨it, fp, tn, J, H2, e, I2, T, st2, f2, ⟨ps, hP, hTr⟩, q⟩ := h2
  subst e
  have hPo : s2.heap.get? P = some { cls := .none, data := .fields ps } := I2.hok P _ hP
  have hlim : s2.heap.NoLimit := I2.nolimit
  have hPlt : P < s2.heap.objs.size := Heap.lt_size hPo
  have bne : ∀ b o, X.base.get? b = some o → b ≠ P := fun b o e z => by
    have := (I2.bs b o e).2
    rw [z, hP] at this
    cases this
  have C2 : CodeHd s2.heap c P := hC.keeps I2.bk
  refine ⟨hlim, ?_⟩
  have main : ∀ (code : Value) (h3 : Heap) (tk : Nat) (more : Array Value), Heap.ExtBut P s2.heap h3 → h3.get? P = some { cls := .none, data := .fields (ps ++ more) } → TriplesOk (ps ++ more).toList →
      wpAny (model X.prog X.w) X.A (builtinsFor X.env.globals X.env.builtins) (fun bi s4 => ∀ h' : Heap, (h'.Ns s4.heap.objs.size fun y => if y = (".0" : Str) then some (.ref it) else none) → Heap.SameBut s4.heap.objs.size (s4.heap.push { cls := .type "frame", data := .dict #[] }) h' →
        wpAny (model X.prog X.w) X.A (spliced (backTo pos (starEach [] X.env))) (fun us s' => wpAny (model X.prog X.w) X.A (call (.builtin "all") (.ref h'.objs.size :: us)) (EP X pins σ Q) X.xe s') X.xe
          { heap := h'.push { cls := .type "generator", data := .fields #[.int (s4.gens.size : Int) 0, .str "<genexpr>" (s4.toks + 1), .str (X.env.qual ++ "<genexpr>") (s4.toks + 1 + 1)] },
            gens := s4.gens.push (.fresh (sCode elt tg iter scope gpos (.ref it) (genEnv scope (cloFrom X.env.cells scope.names []) s4.heap.objs.size code bi X.env))), drawn := s4.drawn, toks := s4.toks + 1 + 1 + 1, os := s4.os }) X.xe { s2 with heap := h3, toks := tk } := by
    intro code h3 tk more hx3 hPT hTr3
    have I3 : Inv X pins σ (L2.upd H2 P (.tbl (ps ++ more))) { s2 with heap := h3, toks := tk } := Inv.tabbed I2 hP (fun b o hb e => hx3 b o hb e) hPT I2.bare rfl
    have bk3 : ∀ b o, X.base.get? b = some o → h3.get? b = some o := fun b o e => I3.bk b o e
    refine wpAny_builtinsFor (bm := bm) (o := ob) (m := X.mg) (by rw [I2.ok.glob]; exact I2.mod.glob.keeps bk3) hB.name hB.ne (bk3 _ _ hB.obj) hB.cls hB.dict hB.data ?_
    intro h' hns hsb
    refine Calls.spliced_nil ?_
    have fpP : ∀ b ∈ fp, b ≠ P := fun b hb z => by
      have := (f2 b hb).1
      rw [z, hP] at this
      cases this
    have f3 : ∀ b ∈ fp, FpOk X pins (L2.upd H2 P (.tbl (ps ++ more))) b ∧ b < h3.objs.size := fun b hb => by
      obtain ⟨o, e, _⟩ := T.obj _ _ st2 b hb
      exact ⟨⟨by rw [upd_ne (fpP b hb)]; exact (f2 b hb).1, (f2 b hb).2⟩, Heap.lt_size (hx3 b o (fpP b hb) e)⟩
    have st3 : tn 0 h3 := T.keep _ _ _ st2 fun b hb o e => hx3 b o (fpP b hb) e
    have hk : ∀ b o, h3.get? b = some o → h'.get? b = some o := fun b o e => (hsb.2 b (Nat.ne_of_lt (Heap.lt_size e))).trans (Heap.get?_push_of_some _ e)
    have szh : h3.objs.size < h'.objs.size := hns.lt
    generalize hoa : ({ cls := .type "generator", data := .fields #[.int (s2.gens.size : Int) 0, .str "<genexpr>" (tk + 1), .str (X.env.qual ++ "<genexpr>") (tk + 1 + 1)] } : Obj) = oa
    have o1 : oa.cls = .type "generator" := by rw [← hoa]
    have o2 : oa.data = .fields #[.int (s2.gens.size : Int) 0, .str "<genexpr>" (tk + 1), .str (X.env.qual ++ "<genexpr>") (tk + 1 + 1)] := by rw [← hoa]
    have o3 : oa.slots = #[] := by rw [← hoa]
    have of : oa.isFreed = false := by rw [← hoa]; rfl
    generalize ha : h'.objs.size = a
    have hget : (h'.push oa).get? a = some oa := by rw [← ha]; exact Heap.get?_push_size _ of
    obtain ⟨W, m, w0, turn⟩ := q (L2.upd H2 P (.tbl (ps ++ more))) (fun b hb => upd_ne hb) ⟨ps ++ more, upd_same, hTr3⟩
    have hk5 : ∀ b o, h3.get? b = some o → (h'.push oa).get? b = some o := fun b o e => Heap.get?_push_of_some _ (hk b o e)
    have bare5 : AllBare (s2.gens.push (.fresh (sCode elt tg iter scope gpos (.ref it) (genEnv scope (cloFrom X.env.cells scope.names []) h3.objs.size code builtinsNs X.env)))) := I2.bare.push rfl
    have IY := gen_start (A := (allA X.A a).over (gCode elt tg iter scope gpos (.ref it) (genE X scope h3.objs.size code)) []) (code := code) (it := .ref it) (tk := tk + 1 + 1 + 1) I3 ok hN hnc f3 (allA_frames I3.ok.frames) hh (hns.keeps fun b o e => Heap.get?_push_of_some _ e) hk5 bare5 hget (by rw [← ha]; exact szh) (fun v z => by rw [o2] at z; cases z)
    have rm : Room k ((allA X.A a).over (gCode elt tg iter scope gpos (.ref it) (genE X scope h3.objs.size code)) []) := allA_room hr
    have fpa : ∀ p ∈ [(a, oa)], ∀ b ∈ fp, p.1 ≠ b := fun p hp b hb z => by
      rw [List.mem_singleton.mp hp] at z
      have z : a = b := z
      have q2 : h'.objs.size < h3.objs.size := by rw [ha, z]; exact (f3 b hb).2
      omega
    have gl := seg_genL (X := X) (A1 := allA X.A a) (gpos := gpos) (s0 := { s2 with heap := h3, toks := tk }) (H0 := L2.upd H2 P (.tbl (ps ++ more))) (pins := [(a, oa)]) (g := s2.gens.size) T fpa (show (genE X scope h3.objs.size code).scope.isCoroutine = false from hco) (hpg _ { s2 with heap := h3, toks := tk } _ code fp rm) (hpe _ { s2 with heap := h3, toks := tk } _ code fp rm) turn
    refine wpAny_call (codeAny_call_builtin F.plain_all F.entry_all ?_)
    refine wpAny_of_eq (check_all _) ?_
    show wpAny _ _ (oneArg "all" ⟨[.ref a], []⟩ >>= fun x => pyIter x >>= fun it => again (.builtin "all.loop" ⟨[it], []⟩)) _ _ _
    refine wpAny_bind (wpAny_of_eq (show oneArg "all" ⟨[.ref a], []⟩ = pure (.ref a) from rfl) ?_)
    refine wpAny_bind (wpAny_pyIter_gen ⟨oa, _, _, hget, o1, o2, o3⟩ ?_)
    refine wpAny_pure ⟨plainId_quiet F.plain_all_loop _, ?_⟩
    refine codeAny_mono (all_loop (X := X) (Q := Q) hh ?_ o1 o2 o3 (m + 1) _ (.fresh (sCode elt tg iter scope gpos (.ref it) (genEnv scope (cloFrom X.env.cells scope.names []) h3.objs.size code builtinsNs X.env))) ⟨0, m, _, Nat.lt_succ_self m, w0, IY, T.keep _ _ _ st3 fun b _ o e => hk5 b o e, fun b hb => (f3 b hb).1.1, ?_⟩ ?_ fun s'' h'' => ?_) fun r s' hrs => ?_
    · have := hr.dp
      show X.A.depth + 0 < _
      omega
    · show s2.gens.size < (s2.gens.push _).size
      rw [Array.size_push]
      exact Nat.lt_succ_self _
    · show (s2.gens.push _)[s2.gens.size]? = _
      exact Array.getElem?_push_size
    · have h0 := h''
      obtain ⟨i, _, _, _, _, _, st'', _⟩ := h0
      exact ⟨rfl, seg_genS T st'' (gl (m + 1) s'' s'' h'')⟩
    · obtain ⟨b, pins', σ', H', rfl, I6, q6⟩ := hrs
      exact ⟨.bl b, H', I3.call' (ch := fp) I6.os I6.base I6.hok I6.bare fun b hb => ⟨(f3 b hb).1.2.2.2.1, (f3 b hb).1.2.1, (f3 b hb).1.2.2.2.2.1, (f3 b hb).1.2.2.2.2.2⟩, rfl, q6⟩
  cases hf : codeAmong gpos ps.toList with
  | some cv =>
    refine wpAny_genexprCode_hit hcode (C2.code hPo hTr) hf ?_
    exact main cv _ s2.toks #[] (Heap.ExtBut.refl _ _) (by simpa using hPo) (by simpa using hTr)
  | none =>
    refine wpAny_genexprCodeX hcode (C2.code hPo hTr) (C2.tab hPo) hf fun c' h3 tk3 hx3 hge hlt hcode3 _ htab3 _ => ?_
    refine main (.ref c') h3 tk3 #[rawInt gpos.line, rawInt gpos.col, .ref c'] hx3 htab3.2 ?_
    obtain ⟨_, _, _, _, _, _, _, _, _, op, _, _, _, _, _, _, _, hop, hod, ht, _⟩ := hcode3
    exact ht
end
end L2
set_option Elab.async false
set_option linter.all false
set_option maxRecDepth 100000
set_option autoImplicit false
namespace Dt
open PySem PySem.Spec L2 Kx PyProof.Rows
section
variable {T : Tb} {F F1 F2 F' H H1 H2 H' : Hp} {σ σ2 : L2.St} {Γ Γ1 Γ2 Γ' Γw : Gm} {E : XK} {te : TE} {we : WE} {P : Addr}
theorem nw_tabG (o : Ok T F H1) (hP : P ∈ T.ts) (hls : ∀ p ∈ T.ls, p.1 ≠ P) (k : ∀ b, b ≠ P → H2 b = H1 b) (t : Tab H2 P) : Nw T F H1 F H2 := by
  obtain ⟨ps1, e1, _⟩ := o.tabs _ hP
  have hne : ∀ b u, H1 b = some u → NoT u → H2 b = some u := fun b u e n => (k b (fun z => by rw [z, e1] at e; cases e; exact n _ rfl)).trans e
  refine ⟨⟨fun b u e => hne b u (o.sub b u e) (o.nt b u e), o.nt, fun P' hP' => ?_, fun p hp => ?_⟩, fun _ _ e => e, hne, fun b u e => ?_, fun _ _ e => .inl e⟩
  · by_cases h : P' = P
    · subst h
      exact t
    · obtain ⟨ps, e, r⟩ := o.tabs P' hP'
      exact ⟨ps, (k _ h).trans e, r⟩
  · obtain ⟨ps, e, r, c⟩ := o.labs p hp
    exact ⟨ps, (k _ (hls p hp)).trans e, r, fun cv hcv => codeAt_sub (c cv hcv) fun b u e n => .inl (hne b u e n)⟩
  · by_cases h : b = P
    · obtain ⟨ps, e', _⟩ := t
      exact ⟨_, by rw [h]; exact e'⟩
    · exact ⟨u, (k b h).trans e⟩
def allB (ds : List D) (wg : WG) (we : WE) (vs : List Nat) (Φ : R → Gm → Prop) (Γ1 : Gm) : Prop := ∃ I : Nat → Gm → Prop, I 0 (wipeG Γ1 vs) ∧
  (∀ i Γ d, I i Γ → ds[i]? = some d → wg d Γ fun Γ2 => we Γ2 (fun r Γ3 => ∃ b, r.at Γ3 = some (.bl b) ∧ iteR b (I (i + 1) (wipeG Γ3 vs)) (Φ (.val (.bl false)) (rstG Γ1 (wipeG Γ3 vs) vs))) fun _ => False) ∧
  ∀ Γ, I ds.length Γ → Φ (.val (.bl true)) (rstG Γ1 Γ vs)
def wAllG (wI : WI) (wg : WG) (we : WE) (vs : List Nat) : WE := fun Γ Φ Ξ => wI Γ (fun ds Γ1 => allB ds wg we vs Φ Γ1) Ξ
theorem ed_allG {wi : TI} {wI : WI} {g : TG} {wg : WG} {vs : List Nat} (hP : P ∈ T.ts) (hls : ∀ p ∈ T.ls, p.1 ≠ P) (hi : ID T E wi wI) (hg : CG T vs g wg) (he : ED T E0 te we) : ED T E (tAllW P wi g te vs) (wAllG wI wg we vs) := by
  intro F σ H Γ Q Ψ Ξ p hw x k
  refine hi F σ H Γ _ _ Ξ p hw x fun F1 H1 Γ1 J ds hr q1 wk => ?_
  obtain ⟨I, h0, hs, hd⟩ := hr
  refine ⟨q1.rp.tabs P hP, fun H2 ho hT => ?_⟩
  have q2 := q1.nw (nw_tabG q1.rp.toOk hP hls ho hT)
  have p2 := q2.rp
  have pw := p2.wipe (vs := vs)
  have xo0 : ∀ {ρ : L2.St} {F H : Hp} {Γ : Gm}, XO T ρ E0 (fun _ => False) F H Γ := fun {ρ F H Γ} _ _ _ _ h => h.elim
  refine ⟨fun i m H => m = ds.length - i ∧ i ≤ ds.length ∧ ∃ F Γw, I i Γw ∧ Γw = wipeG Γw vs ∧ Po T F1 (L2.wipe σ vs) H2 (wipeG Γ1 vs) F H Γw ∧ Same F1 F, ds.length, ⟨by simp, Nat.zero_le _, F1, _, h0, wipeG_idem.symm, pw.refl, fun _ _ h => h⟩, ?_⟩
  rintro i m H3 ⟨rfl, hle, F3, Γ3, i3, hw3, q3, f3⟩
  by_cases hlt : ¬ i < ds.length
  · have ei : i = ds.length := by omega
    subst ei
    refine .inl ⟨(wk F3 H3 _ f3 q3.rp.toOk).1 rfl, ?_⟩
    exact k F3 H3 _ _ _ (hd Γ3 i3) (q2.trans (Po.unwipe p2 q3)) (Rep.bl _)
  · have hlt : i < ds.length := by omega
    refine .inr ?_
    obtain ⟨go, yl⟩ := (wk F3 H3 i f3 q3.rp.toOk).2 _ (List.getElem?_eq_getElem hlt)
    refine ⟨go, fun H => ∃ F Γw, I (i + 1) Γw ∧ Γw = wipeG Γw vs ∧ Po T F1 (L2.wipe σ vs) H2 (wipeG Γ1 vs) F H Γw ∧ Same F1 F, fun H' h => ⟨ds.length - (i + 1), by omega, rfl, hlt, h⟩, fun xv H4 hy => ?_⟩
    obtain ⟨F4, n4, r4⟩ := yl xv H4 hy
    have q4 := q3.nw n4
    have nown3 : NoOwn vs Γ3 := hw3 ▸ noOwn_wipe
    refine hg F4 (L2.wipe σ vs) H4 Γ3 xv _ _ _ q4.rp nown3 r4 (hs i Γ3 _ i3 (List.getElem?_eq_getElem hlt)) fun σ5 Γ5 h5 p5 n5 l5 j5 => ?_
    have eσ : L2.wipe σ5 vs = L2.wipe σ vs := (wipe_ext l5 fun j hj => (j5 j hj).1).trans (wipe_ext (by rw [wipe_length]) fun j hj => wipe_out hj)
    have eΓ : wipeG Γ5 vs = Γ3 := (wipeG_ext (by rw [p5.len, l5, ← q4.rp.len]) fun j hj => (j5 j hj).2).trans hw3.symm
    refine ⟨eσ, he F4 σ5 H4 Γ5 _ _ _ p5 h5 xo0 fun F6 H6 Γ6 y r h6 q6 e6 => ?_⟩
    obtain ⟨b, hb, h6⟩ := h6
    have q6w : Po T F4 (L2.wipe σ vs) H4 Γ3 F6 H6 (wipeG Γ6 vs) := by
      have := q6.wipe n5
      rw [eσ, eΓ] at this
      exact this
    refine ⟨b, (e6.peek q6.rp hb).bl, ?_⟩
    cases b with
    | false => exact k F6 H6 _ _ _ h6 (q2.trans (Po.unwipe p2 (q4.trans q6w))) (Rep.bl _)
    | true => exact ⟨F6, _, h6, wipeG_idem.symm, q4.trans q6w, fun b o h => q6.ff b o (n4.ff b o (f3 b o h))⟩
theorem allG_ap {wI : WI} {wg : WG} {vs : List Nat} {Φ : R → Gm → Prop} {Ξ : XD → Prop} : wAllG wI wg we vs Γ Φ Ξ = wI Γ (fun ds Γ1 => allB ds wg we vs Φ Γ1) Ξ := rfl
theorem allB_map {ds : List D} {wg : WG} {vs : List Nat} {Φ : R → Gm → Prop} {Γ : Gm} (f : D → Bool)
    (hs : ∀ d, d ∈ ds → ∀ k : Bool → Gm → Prop, k (f d) (wipeG Γ vs) → wg d (wipeG Γ vs) fun Γ2 => we Γ2 (fun r Γ4 => ∃ b, r.at Γ4 = some (.bl b) ∧ k b (wipeG Γ4 vs)) fun _ => False)
    (hd : Φ (.val (.bl (ds.all f))) (rstG Γ (wipeG Γ vs) vs)) : allB ds wg we vs Φ Γ := by
  refine ⟨fun i Γ' => Γ' = wipeG Γ vs ∧ (ds.take i).all f = true, ⟨rfl, rfl⟩, fun i Γ' d ⟨e1, e2⟩ hd' => ?_, fun Γ' ⟨e1, e2⟩ => ?_⟩
  · subst e1
    refine hs d (List.mem_of_getElem? hd') (fun b Γ4 => iteR b (Γ4 = wipeG Γ vs ∧ (ds.take (i + 1)).all f = true) (Φ (.val (.bl false)) (rstG Γ Γ4 vs))) ?_
    refine iteR_by (fun hb => ⟨rfl, ?_⟩) fun hb => ?_
    · rw [List.take_add_one, hd', List.all_append, e2]
      simp [hb]
    · have e : ds.all f = false := by
        rw [Bool.eq_false_iff]
        intro z
        rw [List.all_eq_true] at z
        rw [z d (List.mem_of_getElem? hd')] at hb
        cases hb
      rw [e] at hd
      exact hd
  · subst e1
    rw [List.take_length] at e2
    rw [e2] at hd
    exact hd
end
section
variable {X : Cx} {T : Tb} {E : XK} {elt tg iter : Expr} {scope : Scope} {own : List (Str × Nat)} {te : TE} {we : WE} {wi : TI} {wI : WI} {g : TG} {wg : WG}
theorem q_allG {k : Nat} {P c bm : Addr} {ob : Obj} {p pos gpos : Pos} (hP : P ∈ T.ts) (hls : ∀ p ∈ T.ls, p.1 ≠ P) (hr : Room (k + 1) X.A) (hcalm : X.calm = true) (hN : X.N.Nodup) (hi : QI X T E tg iter wi wI) (ok : BlkOk X.N X.env.scope scope own)
    (hcode : X.env.code = .ref c) (hCK : PySem.W.codeHdIn X.K c P = true) (hB : Kx.Blt X bm ob) (hg : Gl X "all") (hm : X.mg "all" = none)
    (hco : scope.isCoroutine = false) (hnc : ∀ y ∈ scope.names, y.2 ≠ .cell) (h0 : scope.names.lookup (".0" : Str) = some NameKind.local)
    (hpg : ∀ (A : Around) (s : Shared) (H : Hp) (code : Value) (fp : List Addr), Room k A → QC (cxGen X A (genE X scope s.heap.objs.size code) s H fp) T (own.map (·.2)) tg g wg)
    (hpe : ∀ (A : Around) (s : Shared) (H : Hp) (code : Value) (fp : List Addr), Room k A → QE (cxGen X A (genE X scope s.heap.objs.size code) s H fp) T E0 elt te we)
    (hfold : ∀ v, genFold iter X.env v = pure v) :
    QE X T E (.Call (.Name "all" p) [gExp elt tg iter scope gpos] [] pos) (tAllW P wi g te (own.map (·.2))) (wAllG wI wg we (own.map (·.2))) :=
  ⟨pe_allG hr hcalm hN hi.pe ok hcode hCK hB hg hm hco hnc h0 (fun A s H code fp r => (hpg A s H code fp r).pe) (fun A s H code fp r => (hpe A s H code fp r).pe) hfold,
    have r := allA_room (a := 0) (it := 0) (elt := elt) (tg := tg) (iter := iter) (scope := scope) (gpos := gpos) (env := X.env) hr
    ed_allG hP hls hi.ed (hpg _ X.s_0 (fun _ => none) .none [] r).ed (hpe _ X.s_0 (fun _ => none) .none [] r).ed⟩
end
end Dt
set_option Elab.async false
set_option linter.all false
set_option maxRecDepth 100000
set_option autoImplicit false
namespace L2
open PySem PySem.Spec PyProof.Rows
end L2
namespace Dt
open PySem PySem.Spec L2 Kx PyProof.Rows
end Dt
set_option Elab.async false
set_option linter.all false
set_option maxRecDepth 100000
set_option maxHeartbeats 1000000
set_option autoImplicit false
namespace Kx
open PySem PySem.Spec L2 PyProof.Rows PySem.W
section
variable {X : Cx} {o e : Expr} {to te : TE} {apos pos : Pos}
end
end Kx
namespace Dt
open PySem PySem.Spec L2 Kx PyProof.Rows
section
variable {T : Tb} {E : XK} {to t1 t2 : TE} {wo w1 w2 : WE}
def dRmp : Str → D → (R → Prop) → Prop := fun a e Ψ => ∃ b, e = .str b ∧ a.length ≤ sizeLine ∧ Ψ (.val (.str (Txt.removeprefix a b)))
theorem drmp_str {a b : Str} {Ψ : R → Prop} : dRmp a (.str b) Ψ = sideR (a.length ≤ sizeLine) (Ψ (.val (.str (Txt.removeprefix a b)))) := propext ⟨fun ⟨_, e, h⟩ => by cases e; exact h, fun h => ⟨_, rfl, h⟩⟩
def dSplit : Str → D → (R → Prop) → Prop := fun a e Ψ => ∃ b : Str, e = .str b ∧ ((b.length == 0) = false ∧ a.length + 2 ≤ sizeLine) ∧ Ψ (.new ((Txt.split a b).map D.str))
theorem dsplit_str {a b : Str} {Ψ : R → Prop} : dSplit a (.str b) Ψ = sideR ((b.length == 0) = false ∧ a.length + 2 ≤ sizeLine) (Ψ (.new ((Txt.split a b).map D.str))) := propext ⟨fun ⟨_, e, h⟩ => by cases e; exact h, fun h => ⟨_, rfl, h⟩⟩
def ljR (a : Str) (d : D) (y : Str) (k : Str → Prop) : Prop := ∃ (i : Int) (c : Nat), d = .int i ∧ y = ⟨#[c]⟩ ∧ PadOk i = true ∧ k (Txt.ljustF a i c)
def wLjF (wo w1 w2 : WE) : WE := fun Γ Ψ Ξ => wo Γ (fun r1 Γ1 => strR Γ1 r1 fun a => w1 Γ1 (fun r2 Γ2 => getR Γ2 r2 fun d => w2 Γ2 (fun r3 Γ3 => strR Γ3 r3 fun y => ljR a d y fun x => Ψ (.val (.str x)) Γ3) Ξ) Ξ) Ξ
theorem ljF_ap {Γ : Gm} {Φ : R → Gm → Prop} {Ξ : XD → Prop} : wLjF wo w1 w2 Γ Φ Ξ = wo Γ (fun r1 Γ1 => strR Γ1 r1 fun a => w1 Γ1 (fun r2 Γ2 => getR Γ2 r2 fun d => w2 Γ2 (fun r3 Γ3 => strR Γ3 r3 fun y => ljR a d y fun x => Φ (.val (.str x)) Γ3) Ξ) Ξ) Ξ := rfl
end
end Dt
set_option Elab.async false
set_option linter.all false
set_option maxRecDepth 100000
set_option autoImplicit false
namespace L2
open PySem PySem.Spec PyProof.Rows PySem.W
section
variable {X : Cx} {pins : List (Addr × Obj)} {σ : St} {H : Hp} {s : Shared}
end
section
variable {X : Cx}
end
end L2
set_option Elab.async false
set_option linter.all false
set_option maxRecDepth 100000
set_option maxHeartbeats 4000000
set_option autoImplicit false
namespace Zt
open PySem PySem.Spec PyProof.Rows L2 Builtin
local macro_rules | `(tactic| walk_at "wps") => `(tactic| (repeat (any_goals (first | assumption | wp_step))))
end Zt
set_option Elab.async false
set_option linter.all false
set_option maxRecDepth 100000
set_option maxHeartbeats 4000000
set_option autoImplicit false
namespace Zt
open PySem PySem.Spec PyProof.Rows L2 Builtin
section
variable {prog : Program} {w : World} {A : Around} {E : Value → Shared → Prop} {s : Shared} {k : Nat} {i1 : Addr} {f1 : List Addr} {n1 : Nat} {P1 : Nat → Value → Prop} {S1 : Nat → Heap → Prop}
end
end Zt
set_option Elab.async false
set_option linter.all false
set_option maxRecDepth 100000
set_option maxHeartbeats 2000000
set_option autoImplicit false
namespace L2
open PySem PySem.Spec PyProof.Rows
end L2
namespace Dt
open PySem PySem.Spec L2 Kx PyProof.Rows
section
variable {T : Tb} {F F' H : Hp} {E : XK} {tA : TA} {wA : WA}
def enuC (k0 : Int) (ds : List D) : List D := ds.mapIdx fun i d => D.tup [.int (k0 + (i : Nat)), d]
def wIEnumC (k0 : Int) (wA : WA) : WI := fun Γ Ψ Ξ => wA Γ (fun rs Γ1 => ∃ ds Γ2, frzL Γ1 rs = some ([.lst ds], Γ2) ∧ Ψ (enuC k0 ds) Γ2) Ξ
theorem ieC_ap {k0 : Int} {Γ : Gm} {Φd : List D → Gm → Prop} {Ξ : XD → Prop} : wIEnumC k0 wA Γ Φd Ξ = wA Γ (fun rs Γ1 => frzLR Γ1 rs fun ds Γ2 => match ds with | [.lst es] => Φd (enuC k0 es) Γ2 | _ => False) Ξ := by
  unfold wIEnumC frzLR
  congr 1
  funext rs Γ1
  refine propext ⟨fun ⟨ds, Γ2, h, q⟩ => ⟨_, _, h, q⟩, fun ⟨ds, Γ2, h, q⟩ => ?_⟩
  dsimp only at q
  split at q
  · exact ⟨_, _, h, q⟩
  · exact q.elim
end
section
variable {X : Cx} {T : Tb} {E : XK} {a : Expr} {tA : TA} {wA : WA}
end
end Dt
set_option Elab.async false
set_option linter.all false
set_option maxRecDepth 100000
set_option maxHeartbeats 1000000
set_option autoImplicit false
namespace Dt
open PySem PySem.Spec L2 Kx PyProof.Rows
def NolR : R → Prop
  | .val d => Nol d
  | .new ds => NolA ds
  | .slot _ => False
section
variable {T : Tb} {F F1 F2 F' H H1 H2 H' : Hp} {σ : L2.St} {Γ Γ1 Γ2 Γ' : Gm} {E : XK} {t te tw : TE} {w we ww : WE} {tA : TA} {wA : WA}
open Classical in
noncomputable def lentF (σ : L2.St) (Γ : Gm) (F H : Hp) : Hp := fun b => if Owns σ Γ b then H b else F b
open Classical in
noncomputable def backF (σ : L2.St) (Γ : Gm) (F : Hp) : Hp := fun b => if Owns σ Γ b then none else F b
theorem lent_rep {Hs : Hp} (p : Rp T F σ H Γ) (hs : Same F (lentF σ Γ F H)) : ∀ {vs : List V} {rs : List R} {ds : List D}, RepRs T F σ H Γ Hs vs rs → ats Γ rs = some ds → RepA T.K (lentF σ Γ F H) vs ds
  | _, _, _, .nil, e => by cases e; exact .nil
  | _, _, _, .cons (r := r) (rs := rs) h rr, e => by
    unfold ats at e
    split at e
    · rename_i d ds' e1 e2
      cases e
      refine .cons ?_ (lent_rep p hs rr e2)
      cases r with
      | val d' => cases e1; exact Rep.mono hs h
      | new es => cases e1; exact Rep.mono hs h
      | slot i =>
        obtain ⟨h1, en, h2⟩ := h
        simp only [R.hold, R.at, h2] at e1
        cases e1
        obtain ⟨v', h3, re⟩ := p.at_ i en h2
        rw [h1] at h3
        cases h3
        cases en with
        | shr d => exact Rep.mono hs re
        | own es =>
          obtain ⟨a, us, rfl, ha, fa, ra⟩ := re
          refine .lst (a := a) (vs := us) ?_ (ra.mono hs)
          unfold lentF
          rw [if_pos ⟨i, es, h2, h1⟩]
          exact ha
    · cases e
theorem lend_d {wf : WF} {Fs Hs : Hp} {Γs : Gm} {vs : List V} {rs : List R} {ds : List D} {Ψ : R → Gm → Prop} {Q : VK} (q : Po T Fs σ Hs Γs F H Γ) (e : RepRs T F σ H Γ Hs vs rs) (a : ats Γ rs = some ds) (h : wf ds [] (fun r _ => NolR r ∧ Ψ r Γ) fun _ => False)
    (k : ∀ F' H' v r, Ψ r Γ → Po T Fs σ Hs Γs F' H' Γ → RepR T F' σ H' Γ Hs v r → Q v H') : spD T false wf vs H Q E := by
  have p := q.rp
  have own : ∀ {b : Addr}, Owns σ Γ b → ∃ us, H b = some (.lst us) ∧ F b = none := fun {b} z => p.owns z
  have same : Same F (lentF σ Γ F H) := fun b o hb => by
    unfold lentF
    rw [if_neg fun z => by obtain ⟨_, _, z2⟩ := own z; rw [hb] at z2; cases z2]
    exact hb
  have ok1 : Ok T (lentF σ Γ F H) H := ⟨fun b o hb => by
      unfold lentF at hb
      split at hb
      · exact hb
      · exact p.sub b o hb, fun b o hb => by
      unfold lentF at hb
      split at hb
      · rename_i z
        obtain ⟨us, z1, _⟩ := own z
        rw [z1] at hb
        cases hb
        exact lst_nt
      · exact p.nt b o hb, p.tabs, p.labs⟩
  refine ⟨lentF σ Γ F H, 0, [], [], vs, ds, _, _, ok1, rfl, (fun z => by cases z), lent_rep p same e a, h, fun F' H' v r row' hr x _ e' => ?_, fun _ _ _ z => z.elim⟩
  obtain ⟨hn, hΨ⟩ := hr
  have f := x.nw
  have up : Same F (backF σ Γ F') := fun b o hb => by
    have nb : ¬ Owns σ Γ b := fun z => by obtain ⟨_, _, z2⟩ := own z; rw [hb] at z2; cases z2
    unfold backF
    rw [if_neg nb]
    exact f.ff b o (same b o hb)
  have nlu : Same (nlF F') (backF σ Γ F') := fun b o hb => by
    obtain ⟨h1, h2⟩ := nl_of hb
    unfold backF
    rw [if_neg fun z => by
      obtain ⟨us, z1, _⟩ := own z
      have z3 : lentF σ Γ F H b = some (.lst us) := by unfold lentF; rw [if_pos z]; exact z1
      have z4 := f.ff b _ z3
      rw [h1] at z4
      exact h2 us (Option.some.inj z4)]
    exact h1
  have bk : ∀ {b : Addr} {o : HO}, backF σ Γ F' b = some o → F' b = some o ∧ ¬ Owns σ Γ b := fun {b o} hb => by
    unfold backF at hb
    split at hb
    · cases hb
    · exact ⟨hb, by assumption⟩
  have po : Po T F σ H Γ (backF σ Γ F') H' Γ := by
    refine ⟨⟨⟨fun b o hb => f.ok.sub b o (bk hb).1, fun b o hb => f.ok.nt b o (bk hb).1, f.ok.tabs, f.ok.labs⟩, p.len, fun i en hi => ?_, p.apart⟩, up, fun b o hb t _ => f.hh b o hb t, fun i es hi => ⟨es, hi⟩, f.gro, fun b o hb => ?_, fun i en hi => ⟨en, hi⟩⟩
    · obtain ⟨u, h1, re⟩ := p.at_ i en hi
      refine ⟨u, h1, ?_⟩
      cases en with
      | shr d => exact Rep.mono up re
      | own es =>
        obtain ⟨b, us, rfl, hb, fb, rb⟩ := re
        refine ⟨b, us, rfl, f.hh b _ hb lst_nt, ?_, rb.mono up⟩
        unfold backF
        rw [if_pos ⟨i, es, hi, h1⟩]
    · obtain ⟨h1, h2⟩ := bk hb
      rcases f.nf b o h1 with z | z
      · unfold lentF at z
        rw [if_neg h2] at z
        exact .inl z
      · exact .inr (.inl z)
  refine k _ H' v r hΨ (q.trans po) (RepN.toR (F' := backF σ Γ F') (H' := H') q ?_)
  cases r with
  | val d => exact Rep.mono nlu (Rep.nol e' hn)
  | new es =>
    obtain ⟨b, us, e1, e2, e3, e4, e5⟩ := e'
    refine ⟨b, us, e1, e2, ?_, e4, (RepA.nol e5 hn).mono nlu⟩
    unfold backF
    split
    · rfl
    · exact e3
  | slot i => exact hn.elim
def wLend (wf : WF) (wA : WA) : WE := fun Γ Ψ Ξ => wA Γ (fun rs Γ1 => ∃ ds, ats Γ1 rs = some ds ∧ callR wf ds [] (fun r _ => NolR r ∧ Ψ r Γ1) fun _ => False) Ξ
theorem ed_lend {wf : WF} (h : AD T E tA wA) : ED T E (tCall (spD T false wf) [] E tA) (wLend wf wA) := fun F σ H Γ Q Ψ Ξ p h1 x k => h F σ H Γ _ _ Ξ p h1 x fun F1 H1 Γ1 vs rs hr q e => by
  rw [List.append_nil]
  obtain ⟨ds, a, hw⟩ := hr
  exact lend_d q e a hw fun F' H' v r hΨ po er => k F' H' Γ1 v r hΨ po er
def valR (r : R) (k : D → Prop) : Prop := ∃ d, r = .val d ∧ k d
theorem valR_val {d : D} {k : D → Prop} : valR (.val d) k = k d := propext ⟨fun ⟨_, e, h⟩ => by cases e; exact h, fun h => ⟨_, rfl, h⟩⟩
def dStar (d1 : D) (d : D) (Ψ : R → Prop) : Prop := ∃ es, (d = .lst es ∨ d = .tup es) ∧ es.length + 1 ≤ sizeLine ∧ Ψ (.new (d1 :: es))
theorem dstar_lst {d1 : D} {es : List D} {Ψ : R → Prop} : dStar d1 (.lst es) Ψ = sideR (es.length + 1 ≤ sizeLine) (Ψ (.new (d1 :: es))) := propext ⟨fun ⟨_, e, h⟩ => by rcases e with e | e <;> cases e; exact h, fun h => ⟨_, .inl rfl, h⟩⟩
theorem dstar_tup {d1 : D} {es : List D} {Ψ : R → Prop} : dStar d1 (.tup es) Ψ = sideR (es.length + 1 ≤ sizeLine) (Ψ (.new (d1 :: es))) := propext ⟨fun ⟨_, e, h⟩ => by rcases e with e | e <;> cases e; exact h, fun h => ⟨_, .inr rfl, h⟩⟩
def wLstS (we ww : WE) : WE := fun Γ Ψ Ξ => we Γ (fun r1 Γ1 => valR r1 fun d1 => ww Γ1 (fun r2 Γ2 => getR Γ2 r2 fun d2 => dStar d1 d2 fun r => Ψ r Γ2) Ξ) Ξ
end
section
variable {X : Cx} {T : Tb} {E : XK} {o e e1 e2 : Expr} {es : List Expr} {to te t1 t2 : TE} {wo we w1 w2 : WE} {tA : TA} {wA : WA} {apos pos p : Pos} {x : Str}
theorem q_lend {j k : Nat} {ps : List Str} {wf : WF} {CX : CXT} (C : Cal X.prog X.w X.K X.mg X.base CX j x ps (spD T false wf)) (hr : Room k X.A) (hx : Passes CX X E) (ha : QA X T E (e :: es) tA wA) (hg : Gl X x) (hj : j ≤ k) (hdb : (x == ("__debug__" : Str)) = false) (hs : (e :: es).any isStar = false) :
    QE X T E (.Call (.Name x p) (e :: es) [] pos) (tCall (spD T false wf) [] E tA) (wLend wf wA) := ⟨pe_callC C hr hx ha.pe hg hj hdb hs, ed_lend ha.ed⟩
end
end Dt
namespace Dt
open PySem PySem.Spec L2 Kx PyProof.Rows
section
variable {Γ : Gm} {Φ : R → Gm → Prop} {Ξ : XD → Prop} {we ww wo w1 w2 : WE} {wA : WA} {wf : WF}
theorem lend_ap : wLend wf wA Γ Φ Ξ = wA Γ (fun rs Γ1 => atsR Γ1 rs fun ds => callR wf ds [] (fun r _ => NolR r ∧ Φ r Γ1) fun _ => False) Ξ := rfl
theorem lstS_ap : wLstS we ww Γ Φ Ξ = we Γ (fun r1 Γ1 => valR r1 fun d1 => ww Γ1 (fun r2 Γ2 => getR Γ2 r2 fun d2 => dStar d1 d2 fun r => Φ r Γ2) Ξ) Ξ := rfl
end
end Dt
set_option Elab.async false
set_option linter.all false
set_option maxRecDepth 100000
set_option maxHeartbeats 4000000
set_option autoImplicit false
namespace Dt
open PySem PySem.Spec L2 Kx PyProof.Rows PySem.NumText
def nT (neg : Bool) (A D : List Nat) : Int := sgI neg * ((digitsVal (A ++ D) : Nat) : Int)
def nB (D : List Nat) : Int := (10 : Int) ^ D.length
theorem nB_pos (D : List Nat) : 0 < nB D := Int.pow_pos (by decide)
theorem unit_is {D : List Nat} (h : D.length ≤ 12) : nB D * 10 ^ (12 - D.length) = 1000000000000 := by
  unfold nB
  rw [← Int.pow_add, show D.length + (12 - D.length) = 12 by omega]
  rfl
abbrev NT := Bool × List Nat × List Nat
def NumT (n : NT) : Prop := Num n.1 n.2.1 n.2.2
def ntF (n : NT) : Int × Int := (lowT (nT n.1 n.2.1 n.2.2) (nB n.2.2), lowB (nT n.1 n.2.1 n.2.2) (nB n.2.2))
theorem ntF_pos (n : NT) : 1 ≤ (ntF n).2 ∧ (ntF n).2 ≤ nB n.2.2 ∧ (ntF n).1.natAbs ≤ (nT n.1 n.2.1 n.2.2).natAbs := low_pos (nB_pos _)
theorem nT_lt {neg : Bool} {A D : List Nat} (h : Num neg A D) : (nT neg A D).natAbs < 10 ^ (A.length + D.length) := by
  have := dv_lt (app_digits h.a h.d)
  rw [List.length_append] at this
  unfold nT sgI
  cases neg <;> simp <;> exact this
theorem low_low {t b : Int} (hb : 0 < b) : lowT (lowT t b) (lowB t b) = lowT t b ∧ lowB (lowT t b) (lowB t b) = lowB t b := by
  obtain ⟨g, g0, e1, e2⟩ := low_mul (t := t) hb
  have hp := (low_pos (t := t) hb).1
  have := low_scale (t := lowT t b) (b := lowB t b) (m := g) hp g0
  rw [Int.mul_comm _ g, Int.mul_comm _ g, ← e1, ← e2] at this
  exact ⟨this.1.symm, this.2.symm⟩
theorem nB_le {D : List Nat} (h : D.length ≤ 12) : nB D ≤ 10 ^ 12 := by
  have e := unit_is h
  have : (1 : Int) ≤ 10 ^ (12 - D.length) := by
    have : (0 : Int) < 10 ^ (12 - D.length) := Int.pow_pos (by decide)
    omega
  have := Int.mul_le_mul_of_nonneg_left this (Int.le_of_lt (nB_pos D))
  omega
theorem ntF_bd {n : NT} (h : NumT n) : Bd 100 (ntF n).1 ∧ Bd 100 (ntF n).2 := by
  have p := ntF_pos n
  have q := nT_lt h
  have hl := h.al
  have hd := h.dl
  have q2 : (10 : Nat) ^ (n.2.1.length + n.2.2.length) ≤ 10 ^ 27 := Nat.pow_le_pow_right (by decide) (by omega)
  have u := nB_le h.dl
  unfold Bd
  have e : (10 : Nat) ^ 27 < 2 ^ 100 := by decide
  have e2 : (10 : Int) ^ 12 < 2 ^ 100 := by decide
  constructor <;> omega
structure Small (n : NT) : Prop where
  num : NumT n
  a12 : n.2.1.length ≤ 12
  d6 : n.2.2.length ≤ 6
theorem small_in {n : NT} (h : Small n) : 1000000 % (ntF n).2 = 0 ∧ (if (ntF n).1 < 0 then -(ntF n).1 else (ntF n).1) < 1000000000000 * (ntF n).2 := by
  obtain ⟨g, g0, e1, e2⟩ := low_mul (t := nT n.1 n.2.1 n.2.2) (nB_pos n.2.2)
  have p := ntF_pos n
  have e2 : nB n.2.2 = g * (ntF n).2 := e2
  have e1 : nT n.1 n.2.1 n.2.2 = g * (ntF n).1 := e1
  have d6 := h.d6
  have a12 := h.a12
  have eu : nB n.2.2 * 10 ^ (6 - n.2.2.length) = 1000000 := by
    unfold nB
    rw [← Int.pow_add, show n.2.2.length + (6 - n.2.2.length) = 6 by omega]
    rfl
  constructor
  · rw [← eu, e2, show g * (ntF n).2 * 10 ^ (6 - n.2.2.length) = (ntF n).2 * (g * 10 ^ (6 - n.2.2.length)) by rw [Int.mul_comm g, Int.mul_assoc]]
    exact Int.mul_emod_right _ _
  · have q := nT_lt h.num
    have ql : digitsVal (n.2.1 ++ n.2.2) < 10 ^ (n.2.1.length + n.2.2.length) := by
      have := dv_lt (app_digits h.num.a h.num.d)
      rwa [List.length_append] at this
    have q1 : (10 : Nat) ^ (n.2.1.length + n.2.2.length) ≤ 10 ^ 12 * 10 ^ n.2.2.length := by
      rw [← Nat.pow_add]
      exact Nat.pow_le_pow_right (by decide) (by omega)
    have q2 : ((nT n.1 n.2.1 n.2.2).natAbs : Int) < 10 ^ 12 * nB n.2.2 := by
      have q3 : (((nT n.1 n.2.1 n.2.2).natAbs : Nat) : Int) < ((10 ^ 12 * 10 ^ n.2.2.length : Nat) : Int) := by exact_mod_cast Nat.lt_of_lt_of_le q q1
      have q4 : ((10 ^ 12 * 10 ^ n.2.2.length : Nat) : Int) = 10 ^ 12 * nB n.2.2 := by
        rw [Int.natCast_mul, Int.natCast_pow, Int.natCast_pow]
        rfl
      rw [q4] at q3
      exact q3
    have key : g * (if (ntF n).1 < 0 then -(ntF n).1 else (ntF n).1) < g * (1000000000000 * (ntF n).2) := by
      have e3 : g * (1000000000000 * (ntF n).2) = 10 ^ 12 * nB n.2.2 := by
        rw [e2, ← Int.mul_assoc, ← Int.mul_assoc, Int.mul_comm g]
        rfl
      rw [e3]
      refine Int.lt_of_le_of_lt (b := ((nT n.1 n.2.1 n.2.2).natAbs : Int)) ?_ q2
      split
      · rw [Int.mul_neg, ← e1]
        omega
      · rw [← e1]
        omega
    exact Int.lt_of_mul_lt_mul_left key (Int.le_of_lt g0)
def isLet (c : Nat) : Bool := decide (c ∈ (Str.ofString "abcdefghijklmnopqrstuvwxyz").cps.toList)
def nmL (l : List Nat) : Bool := decide ((1 : Int) ≤ (l.length : Int)) && (decide ((l.length : Int) ≤ 10) && l.all isLet)
structure Nm (x : Str) : Prop where
  l1 : 1 ≤ x.cps.toList.length
  l2 : x.cps.toList.length ≤ 10
  az : ∀ c ∈ x.cps.toList, 97 ≤ c ∧ c ≤ 122
theorem let_one {c : Nat} (h : 97 ≤ c ∧ c ≤ 122) : isLet c = true := by
  have key : ∀ i : Fin 26, isLet (97 + i.val) = true := by decide +kernel
  have := key ⟨c - 97, by omega⟩
  simp only at this
  rwa [show 97 + (c - 97) = c by omega] at this
theorem nm_true {x : Str} (h : Nm x) : nmL x.cps.toList = true := by
  unfold nmL
  rw [decide_eq_true (show (1 : Int) ≤ (x.cps.toList.length : Int) by have := h.l1; omega), decide_eq_true (show (x.cps.toList.length : Int) ≤ 10 by have := h.l2; omega), List.all_eq_true.mpr fun c hc => let_one (h.az c hc)]
  rfl
abbrev TRow := Str × List NT
structure TOk (ss : List Str) (rs : List TRow) : Prop where
  s1 : 1 ≤ ss.length
  s4 : ss.length ≤ 4
  snd : ss.Nodup
  snm : ∀ s ∈ ss, Nm s
  r1 : 1 ≤ rs.length
  r12 : rs.length ≤ 12
  rnd : (rs.map (·.1)).Nodup
  rnm : ∀ r ∈ rs, Nm r.1
  rl : ∀ r ∈ rs, r.2.length = ss.length
  rn : ∀ r ∈ rs, ∀ n ∈ r.2, Small n
def trF (r : TRow) : Str × List (Int × Int) := (r.1, r.2.map ntF)
end Dt
set_option Elab.async false
set_option linter.all false
set_option maxRecDepth 100000
set_option maxHeartbeats 4000000
set_option autoImplicit false
namespace Dt
open PySem PySem.Spec L2 Kx PyProof.Rows PySem.NumText
theorem nm_len {x : Str} (h : Nm x) : x.length ≤ 10 := by
  have := h.l2
  simpa [Str.length] using this
def frN (n : NT) : D := frD (ntF n)
def rowIn (r : TRow) : D := .tup [.str r.1, .lst (r.2.map frN)]
def wf_is_fraction : WF := fun ds row Ψ Ξ => ∃ f : Int × Int, ds = [frD f] ∧ 1 ≤ f.2 ∧ Bd 3000 f.1 ∧ Bd 3000 f.2 ∧ lowT f.1 f.2 = f.1 ∧ lowB f.1 f.2 = f.2 ∧ Ψ (.val (.bl true)) []
def wf_is_name : WF := fun ds row Ψ Ξ => ∃ x : Str, ds = [.str x] ∧ x.length ≤ 100000 ∧ Ψ (.val (.bl (nmL x.cps.toList))) []
def wf_are_series : WF := fun ds row Ψ Ξ => ∃ ss : List Str, ds = [.lst (ss.map .str)] ∧ 1 ≤ ss.length ∧ ss.length ≤ 4 ∧ ss.Nodup ∧ (∀ s ∈ ss, Nm s) ∧ Ψ (.val (.bl true)) []
def wf_is_within : WF := fun ds row Ψ Ξ => ∃ n : NT, ds = [frN n] ∧ Small n ∧ Ψ (.val (.bl true)) []
def wf_is_row : WF := fun ds row Ψ Ξ => ∃ (r : TRow) (many : Int) (ah : List Str), ds = [.str r.1, .lst (r.2.map frN), .int many, .lst (ah.map .str)] ∧ Nm r.1 ∧ r.1 ∉ ah ∧ (r.2.length : Int) = many ∧ r.2.length ≤ 4 ∧ ah.length ≤ 12 ∧ (∀ n ∈ r.2, Small n) ∧ Ψ (.val (.bl true)) []
def wf_table_of : WF := fun ds row Ψ Ξ => ∃ (ss : List Str) (rs : List TRow), ds = [.lst (ss.map .str), .lst (rs.map rowIn)] ∧ TOk ss rs ∧ Ψ (.val (tblD ss (rs.map trF))) []
end Dt
set_option Elab.async false
set_option linter.all false
set_option maxRecDepth 100000
set_option maxHeartbeats 4000000
set_option autoImplicit false
namespace Dt
open PySem PySem.Spec L2 Kx PyProof.Rows PySem.NumText
theorem TOk.take {ss : List Str} {rs : List TRow} (h : TOk ss rs) {i : Nat} (hi : 1 ≤ i) : TOk ss (rs.take i) where
  s1 := h.s1
  s4 := h.s4
  snd := h.snd
  snm := h.snm
  r1 := by have := h.r1; rw [List.length_take]; omega
  r12 := by have := h.r12; rw [List.length_take]; omega
  rnd := by rw [List.map_take]; exact h.rnd.sublist (List.take_sublist ..)
  rnm := fun r hr => h.rnm r (List.mem_of_mem_take hr)
  rl := fun r hr => h.rl r (List.mem_of_mem_take hr)
  rn := fun r hr => h.rn r (List.mem_of_mem_take hr)
theorem take_succ {α : Type} {l : List α} {i : Nat} {a : α} (ha : l[i]? = some a) : l.take (i + 1) = l.take i ++ [a] := by rw [List.take_add_one, ha]; rfl
end Dt
set_option Elab.async false
set_option linter.all false
set_option maxRecDepth 100000
set_option maxHeartbeats 4000000
set_option autoImplicit false
namespace Dt
open PySem PySem.Spec L2 Kx PyProof.Rows PySem.NumText
theorem abc_at {v : Int} (h0 : 0 ≤ v) (h1 : v < 26) : atI (Str.ofString "abcdefghijklmnopqrstuvwxyz").cps.toList v = some (97 + v.toNat) := by
  have key : ∀ i : Fin 26, (Str.ofString "abcdefghijklmnopqrstuvwxyz").cps.toList[i.val]? = some (97 + i.val) := by decide +kernel
  have := key ⟨v.toNat, by omega⟩
  exact (congrArg (atI _) (show v = ((v.toNat : Nat) : Int) by omega)).trans (atI_nat this)
def Lt (l : List Nat) : Prop := ∀ c ∈ l, 97 ≤ c ∧ c ≤ 122
def nmK (L R : List Nat) (f : Int) (lg : Nat) (k : Nat) : Str := mkS ((L ++ [97 + ((f + 5 * (k : Int)) % 26).toNat] ++ R) ++ List.replicate (k % 2 * lg) 115)
theorem nmK_nm {L R : List Nat} {f : Int} {lg k : Nat} (hL : Lt L) (hR : Lt R) (hl : L.length + 1 + R.length + lg ≤ 10) : Nm (nmK L R f lg k) := by
  have h1 : k % 2 * lg ≤ lg := by
    have : k % 2 = 0 ∨ k % 2 = 1 := by omega
    rcases this with h | h <;> rw [h] <;> omega
  have e : (nmK L R f lg k).cps.toList = (L ++ [97 + ((f + 5 * (k : Int)) % 26).toNat] ++ R) ++ List.replicate (k % 2 * lg) 115 := tl_mk _
  refine ⟨by rw [e]; simp; omega, by rw [e]; simp; omega, fun c hc => ?_⟩
  rw [e] at hc
  rcases List.mem_append.mp hc with hc | hc
  · rcases List.mem_append.mp hc with hc | hc
    · rcases List.mem_append.mp hc with hc | hc
      · exact hL c hc
      · have := List.mem_singleton.mp hc
        have h2 := Int.emod_nonneg (f + 5 * (k : Int)) (show (26 : Int) ≠ 0 by decide)
        have h3 := Int.emod_lt_of_pos (f + 5 * (k : Int)) (show (0 : Int) < 26 by decide)
        omega
    · exact hR c hc
  · rw [(List.mem_replicate.mp hc).2]
    omega
theorem nmK_at {L R : List Nat} {f : Int} {lg k : Nat} : (nmK L R f lg k).cps.toList[L.length]? = some (97 + ((f + 5 * (k : Int)) % 26).toNat) := by
  unfold nmK
  rw [tl_mk, List.append_assoc, List.append_assoc, List.getElem?_append_right (Nat.le_refl _), Nat.sub_self]
  rfl
theorem nmK_ne {L R : List Nat} {f : Int} {lg i j : Nat} (hi : i < j) (hj : j < 26) : nmK L R f lg i ≠ nmK L R f lg j := fun e => by
  have := nmK_at (L := L) (R := R) (f := f) (lg := lg) (k := i)
  rw [e, nmK_at] at this
  have := Option.some.inj this
  omega
theorem nmK_nodup {L R : List Nat} {f : Int} {lg m : Nat} (hm : m ≤ 26) : ((List.range m).map (nmK L R f lg)).Nodup := by
  rw [List.nodup_iff_pairwise_ne, List.pairwise_map]
  refine List.Pairwise.imp_of_mem ?_ (List.pairwise_lt_range (n := m))
  intro a b ha hb h
  exact nmK_ne h (by have := List.mem_range.mp hb; omega)
theorem range_snoc {α : Type} (g : Nat → α) (i : Nat) : (List.range (i + 1)).map g = (List.range i).map g ++ [g i] := by rw [List.range_succ, List.map_append]; rfl
end Dt
set_option Elab.async false
set_option linter.all false
set_option maxRecDepth 100000
set_option maxHeartbeats 4000000
set_option autoImplicit false
namespace Dt
open PySem PySem.Spec L2 Kx PyProof.Rows PySem.NumText
theorem one_digit {n : Nat} (h : n < 10) : AllDigits [48 + n] := fun c hc => by
  rw [List.mem_singleton.mp hc]
  omega
theorem dv_dig (n : Nat) : digitsVal [48 + n] = n := by
  have := dv_one [] (48 + n)
  simp only [List.nil_append] at this
  rw [this]
  simp [digitsVal]
theorem exact_digits : ∀ (k r : Nat), r < 10 ^ k → ∃ D : List Nat, AllDigits D ∧ D.length = k ∧ digitsVal D = r
  | 0, r, h => ⟨[], (fun c hc => by cases hc), rfl, by simp at h; rw [h]; rfl⟩
  | k + 1, r, h => by
    obtain ⟨D, a, l, e⟩ := exact_digits k (r / 10) (by rw [Nat.pow_succ] at h; omega)
    refine ⟨D ++ [48 + r % 10], app_digits a (one_digit (by omega)), by rw [List.length_append, l]; rfl, ?_⟩
    rw [dv_one, e]
    omega
theorem lead_digits : ∀ (k n : Nat), n < 10 ^ (k + 1) → ∃ A : List Nat, AllDigits A ∧ A ≠ [] ∧ A.length ≤ k + 1 ∧ (A = [48] ∨ ∀ r, A ≠ 48 :: r) ∧ digitsVal A = n
  | 0, n, h => ⟨[48 + n], one_digit (by omega), by simp, by simp, by
      by_cases z : n = 0
      · exact .inl (by rw [z])
      · exact .inr fun r e => by have := (List.cons.inj e).1; omega, dv_dig n⟩
  | k + 1, n, h => by
    by_cases z : n < 10
    · obtain ⟨A, a, b, c, d, e⟩ := lead_digits 0 n (by omega)
      exact ⟨A, a, b, by omega, d, e⟩
    · obtain ⟨A, a, b, c, d, e⟩ := lead_digits k (n / 10) (by rw [Nat.pow_succ] at h; omega)
      refine ⟨A ++ [48 + n % 10], app_digits a (one_digit (by omega)), by simp, by rw [List.length_append, List.length_singleton]; omega, .inr fun r y => ?_, by rw [dv_one, e]; omega⟩
      rcases d with d | d
      · rw [d, show digitsVal [48] = 0 from rfl] at e
        omega
      · cases A with
        | nil => exact b rfl
        | cons x t => exact d t (by rw [(List.cons.inj y).1])
theorem end_digits : ∀ (k r : Nat), r < 10 ^ k → ∃ D : List Nat, AllDigits D ∧ D.length ≤ k ∧ (∀ s, D ≠ s ++ [48]) ∧ digitsVal D * 10 ^ (k - D.length) = r
  | 0, r, h => ⟨[], (fun c hc => by cases hc), Nat.le_refl _, (fun s e => by simp at e), by simp at h; rw [h]; rfl⟩
  | k + 1, r, h => by
    rw [Nat.pow_succ] at h
    by_cases z : r % 10 = 0
    · obtain ⟨D, a, l, n, e⟩ := end_digits k (r / 10) (by omega)
      refine ⟨D, a, by omega, n, ?_⟩
      rw [show k + 1 - D.length = (k - D.length) + 1 by omega, Nat.pow_succ, ← Nat.mul_assoc, e]
      omega
    · obtain ⟨D, a, l, e⟩ := exact_digits k (r / 10) (by omega)
      refine ⟨D ++ [48 + r % 10], app_digits a (one_digit (by omega)), by rw [List.length_append, l]; exact Nat.le_refl _, fun s y => ?_, ?_⟩
      · have := List.append_inj_right' y rfl
        simp at this
        omega
      · rw [dv_one, e, List.length_append, l, List.length_singleton, Nat.sub_self]
        omega
theorem nt_of {t b : Int} (hb : 1 ≤ b) (hd : 1000000 % b = 0) (ht : (if t < 0 then -t else t) < 1000000000000 * b) (e1 : lowT t b = t) (e2 : lowB t b = b) : ∃ n, Small n ∧ ntF n = (t, b) := by
  obtain ⟨m, hm⟩ : ∃ m : Int, m = 1000000 / b := ⟨_, rfl⟩
  have hbm : b * m = 1000000 := by
    rw [hm]
    exact Int.mul_ediv_cancel' (Int.dvd_of_emod_eq_zero hd)
  have hm0 : 0 < m := by
    rcases Int.lt_or_le 0 m with h | h
    · exact h
    · have := Int.mul_le_mul_of_nonneg_left h (show 0 ≤ b by omega)
      omega
  obtain ⟨neg, hneg⟩ : ∃ neg, neg = decide (t < 0) := ⟨_, rfl⟩
  obtain ⟨U, hU⟩ : ∃ U : Nat, t * m = sgI neg * (U : Int) ∧ U < 10 ^ 18 ∧ (neg = true → 0 < U) := by
    have key : (if t < 0 then -t else t) * m < 1000000000000 * 1000000 := by
      have := Int.mul_lt_mul_of_pos_right ht hm0
      rw [Int.mul_assoc, hbm] at this
      exact this
    have nn : 0 ≤ (if t < 0 then -t else t) * m := Int.mul_nonneg (by split <;> omega) (by omega)
    refine ⟨((if t < 0 then -t else t) * m).toNat, ?_, by omega, fun h => ?_⟩
    · rw [Int.toNat_of_nonneg nn, hneg]
      unfold sgI
      by_cases z : t < 0
      · rw [if_pos z, if_pos (decide_eq_true z), Int.neg_mul, Int.neg_mul, Int.one_mul, Int.neg_neg]
      · rw [if_neg z, if_neg (by simp; omega), Int.one_mul]
    · rw [hneg] at h
      have z : t < 0 := of_decide_eq_true h
      rw [if_pos z]
      have : 0 < -t * m := Int.mul_pos (by omega) hm0
      omega
  obtain ⟨hU, hU2, hU3⟩ := hU
  obtain ⟨A, a, a0, al, az, ae⟩ := lead_digits 11 (U / 10 ^ 6) (by omega)
  obtain ⟨D, d, dl, dz, de⟩ := end_digits 6 (U % 10 ^ 6) (Nat.mod_lt _ (by decide))
  have eU : digitsVal (A ++ D) * 10 ^ (6 - D.length) = U := by
    rw [dv_app, Nat.add_mul, Nat.mul_assoc, ← Nat.pow_add, show D.length + (6 - D.length) = 6 by omega, ae, de]
    omega
  have num : NumT (neg, A, D) := ⟨a, d, a0, by show A.length ≤ 15; omega, by show D.length ≤ 12; omega, az, dz, fun h ⟨y1, y2⟩ => by
    have y1 : A = [48] := y1
    have y2 : D = [] := y2
    have := hU3 h
    rw [← eU, y1, y2] at this
    simp [digitsVal] at this⟩
  refine ⟨(neg, A, D), ⟨num, al, dl⟩, ?_⟩
  have p10 : (0 : Int) < 10 ^ (6 - D.length) := Int.pow_pos (by decide)
  have s1 := low_scale (t := nT neg A D) (nB_pos D) p10
  have s2 := low_scale (t := t) (b := b) (m := m) (by omega) hm0
  have q1 : nT neg A D * 10 ^ (6 - D.length) = t * m := by
    rw [hU, ← eU]
    unfold nT
    rw [Int.mul_assoc, Int.natCast_mul, Int.natCast_pow]
    rfl
  have q2 : nB D * 10 ^ (6 - D.length) = b * m := by
    rw [hbm]
    unfold nB
    rw [← Int.pow_add, show D.length + (6 - D.length) = 6 by omega]
    rfl
  rw [q1, q2] at s1
  show (lowT (nT neg A D) (nB D), lowB (nT neg A D) (nB D)) = (t, b)
  rw [← s1.1, ← s1.2, s2.1, s2.2, e1, e2]
theorem nt_low {x b : Int} (hb : 0 < b) (hd : 1000000 % b = 0) (hx : (if x < 0 then -x else x) < 1000000000000 * b) : ∃ n, Small n ∧ ntF n = (lowT x b, lowB x b) := by
  obtain ⟨g, g0, e1, e2⟩ := low_mul (t := x) hb
  have lp := low_pos (t := x) hb
  have ll := low_low (t := x) hb
  refine nt_of lp.1 ?_ ?_ ll.1 ll.2
  · have d1 : b ∣ 1000000 := Int.dvd_of_emod_eq_zero hd
    have d2 : lowB x b ∣ b := ⟨g, by rw [Int.mul_comm]; exact e2⟩
    exact Int.emod_eq_zero_of_dvd (Int.dvd_trans d2 d1)
  · generalize lowT x b = t at *
    generalize lowB x b = c at *
    have key : g * (if t < 0 then -t else t) < g * (1000000000000 * c) := by
      have h1 : g * (1000000000000 * c) = 1000000000000 * b := by
        rw [e2, ← Int.mul_assoc, ← Int.mul_assoc, Int.mul_comm g]
      have h2 : g * (if t < 0 then -t else t) = (if x < 0 then -x else x) := by
        by_cases z : t < 0
        · have : g * t < 0 := Int.mul_neg_of_pos_of_neg g0 z
          rw [if_pos z, if_pos (by omega), Int.mul_neg, e1]
        · have : 0 ≤ g * t := Int.mul_nonneg (by omega) (by omega)
          rw [if_neg z, if_neg (by omega), e1]
      rw [h1, h2]
      exact hx
    exact Int.lt_of_mul_lt_mul_left key (Int.le_of_lt g0)
theorem nt_abs {n : NT} (h : Small n) : ∃ m, Small m ∧ ntF m = (if (ntF n).1 < 0 then -(ntF n).1 else (ntF n).1, (ntF n).2) := by
  obtain ⟨s1, s2⟩ := small_in h
  have lp := ntF_pos n
  have ll := low_low (t := nT n.1 n.2.1 n.2.2) (nB_pos n.2.2)
  have ll : lowT (ntF n).1 (ntF n).2 = (ntF n).1 ∧ lowB (ntF n).1 (ntF n).2 = (ntF n).2 := ll
  generalize ntF n = p at *
  obtain ⟨t, b⟩ := p
  simp only at *
  refine nt_of lp.1 s1 (by
    by_cases z : t < 0
    · rw [if_pos z] at s2 ⊢
      rw [if_neg (by omega)]
      exact s2
    · rw [if_neg z] at s2 ⊢
      rw [if_neg z]
      exact s2) ?_ ?_
  all_goals
    obtain ⟨hG, gp⟩ := lowG_pos (t := t) (b := b) (by omega)
    have hg : Int.gcd t b = 1 := by
      have hdv : ((Int.gcd t b : Nat) : Int) ∣ b := Int.gcd_dvd_right ..
      obtain ⟨c, hc⟩ := hdv
      have h2 := ll.2
      unfold lowB at h2
      rw [hG] at h2
      have h3 : b.fdiv ((Int.gcd t b : Nat) : Int) = c := by
        rw [Int.fdiv_eq_ediv_of_nonneg _ (by omega)]
        exact Int.ediv_eq_of_eq_mul_right (by omega) hc
      rw [h3] at h2
      rw [h2] at hc
      have h4 : b * 1 = b * ((Int.gcd t b : Nat) : Int) := by rw [Int.mul_one, Int.mul_comm]; exact hc
      have := Int.eq_of_mul_eq_mul_left (by omega) h4
      omega
    have hg2 : Int.gcd (if t < 0 then -t else t) b = 1 := by
      by_cases z : t < 0
      · rw [if_pos z, Int.neg_gcd]; exact hg
      · rw [if_neg z]; exact hg
    obtain ⟨hG2, _⟩ := lowG_pos (t := if t < 0 then -t else t) (b := b) (by omega)
    first
    | (unfold lowT; rw [hG2, hg2]; simp)
    | (unfold lowB; rw [hG2, hg2]; simp)
end Dt
set_option Elab.async false
set_option linter.all false
set_option maxRecDepth 100000
set_option maxHeartbeats 4000000
set_option autoImplicit false
namespace Dt
open PySem PySem.Spec L2 Kx PyProof.Rows PySem.NumText
end Dt
set_option Elab.async false
set_option linter.all false
set_option maxRecDepth 100000
set_option maxHeartbeats 4000000
set_option autoImplicit false
namespace Dt
open PySem PySem.Spec L2 Kx PyProof.Rows PySem.W
section
variable {T : Tb} {F F1 F2 F' H H1 H2 H' : Hp} {σ : L2.St} {Γ Γ1 Γ2 Γ' : Gm} {E : XK} {t : TE} {w : WE} {tA : TA} {wA : WA} {io : Bool}
def wRaise (c : Str) (wA : WA) : WS := fun Ψ Γ => wA Γ (fun rs _ => rs.length ≤ 1000 ∧ Ψ.xe ⟨c, [], []⟩) Ψ.xe
theorem AD.calm (h : AD T E0 tA wA) (E : XK) {Γ : Gm} {Ψ : List R → Gm → Prop} {Q : List V → Hp → Prop} (p : Rp T F σ H Γ) (hw : wA Γ Ψ fun _ => False)
    (k : ∀ F' H' Γ' vs rs, Ψ rs Γ' → Po T F σ H Γ F' H' Γ' → RepRs T F' σ H' Γ' H vs rs → Q vs H') : tA σ H Q := h F σ H Γ _ _ _ p hw (fun _ _ _ _ z _ => z.elim) k
def wCallT (io' : Bool) (wf : WF) (wA : WA) : WE := fun Γ Ψ Ξ => wA Γ (fun rs Γ1 => callW io' wf rs Γ1 Ψ Ξ) fun _ => False
def wIfT (w : WT) (u1 u2 : WS) : WS := fun Ψ Γ => w Γ (fun b Γ1 => if b = true then u1 Ψ Γ1 else u2 Ψ Γ1) fun _ => False
def AllShr (Γ : Gm) : Prop := ∀ (i : Nat) (ds : List D), Γ[i]? ≠ some (some (.own ds))
theorem Rs.old {H0 F0 : Hp} {ra : Addr} (s : Rs T false H0 F0 ra F σ H Γ) (n : AllShr Γ) (q : Po T F σ H Γ F' H' Γ') : Rs T false H0 F0 ra F' σ H' Γ := by
  have s' := s.po q
  refine ⟨⟨q.rp.toOk, s.rp.len, fun i e h => ?_, fun i j ds ds' v h1 => absurd h1 (n i ds)⟩, s'.ff, s'.en, fun b ⟨i, ds, h1, _⟩ => absurd h1 (n i ds), s'.gro, s'.nf, fun z => by cases z⟩
  obtain ⟨v, e1, r⟩ := s.rp.at_ i e h
  refine ⟨v, e1, ?_⟩
  cases e with
  | shr d => exact Rep.mono q.ff r
  | own ds => exact absurd h (n i ds)
theorem Rs.tr {H0 F0 : Hp} {ra : Addr} {σ' : L2.St} (s : Rs T false H0 F0 ra F σ H Γ) (s2 : Rs T false H F ra F' σ' H' Γ') : Rs T false H0 F0 ra F' σ' H' Γ' :=
  ⟨s2.rp, fun b o h => s2.ff _ _ (s.ff _ _ h), fun b o h nt hb => s2.en b o (s.en b o h nt hb) nt (fun z => nomatch z.1), fun b h => (s2.fr b h).elim (fun z => nomatch z.1) fun z => .inr (s.none z), fun b o h => let ⟨o1, h1⟩ := s.gro b o h; s2.gro b o1 h1, fun b o h => (s2.nf b o h).elim (fun z => s.nf b o z) fun z => z.elim (fun z => .inr (.inl (s.none z))) (fun z => by cases z.1), fun z => by cases z⟩
def hdE (Ψ : WEnds) (i : Nat) : WEnds := { nx := fun Γ2 => Ψ.nx (Γ2.set i none), rt := Ψ.rt, bk := fun Γ2 => Ψ.bk (Γ2.set i none), ct := fun Γ2 => Ψ.ct (Γ2.set i none), xe := fun _ => False }
theorem ext_nt {φ : Heap → Prop} : NoT (.ext φ) := fun _ z => by cases z
end
section
variable {X : Cx} {T : Tb} {E : XK} {io : Bool} {e : Expr} {es : List Expr} {tA : TA} {wA : WA} {pos : Pos} {x : Str}
structure QB (X : Cx) (T : Tb) (body : List Stmt) (tb : XK → TS) (u : WS) : Prop where
  pe : PB X body tb
  ed : ∀ Eh, SD T false Eh (tb Eh) u
end
section
variable {P : Program} {wd : World} {K : PySem.W.Frag} {mg : Str → Option Value} {base : Heap} {x qual : Str} {st : Stmt} {f : Addr} {fd : FuncData} {N ps : List Str} {k : Nat} {ts : List Addr} {ls : List (Addr × Pos × Str)} {io : Bool} {wf : WF} {w : WS}
theorem fn_dX (F : Fun K x qual st f fd) (S : FnScope N ps (defScope st)) (hn : ps.length ≤ N.length) (hl : ∀ ds row Ψ Ξ, wf ds row Ψ Ξ → (if io then 1 else 0) + ds.length = ps.length)
    (hw : ∀ ds row Ψ Ξ, wf ds row Ψ Ξ → w (endsW io Ψ Ξ) (startW io N.length ds row))
    (hb : ∀ (cdv : Value) (A : Around) (outer : List Env) (s : Shared) (H : Hp) (E : XK), Room k (A.deeper (envOfC qual (defScope st) s.heap.objs.size f cdv)) → ∃ t, QSs (cxOf (CXE P wd) P wd K mg base N qual (defScope st) f cdv A outer s H E) ⟨K, ts, ls⟩ io E (defBody st) t w) :
    FnOk P wd K mg base (CXE P wd) (k + 1) f fd ps (spD ⟨K, ts, ls⟩ io wf) := by
  refine Fun.okE F S (fun vs H Q E h => spD_len hl h) fun cdv A outer s H vs Q E hr h => ?_
  obtain ⟨t, q⟩ := hb cdv A outer s H E hr
  obtain ⟨F0, ra, rv, row, vs', ds, Ψ, Ξ, o, rfl, hrow, r, hwf, kk, kx⟩ := h
  refine ⟨t, q.pe, ?_⟩
  exact q.ed H F0 ra F0 _ H _ _ _ (start_ok o (by rw [hl ds row Ψ Ξ hwf]; exact hn) r hrow) (hw ds row Ψ Ξ hwf) (ends_ok (E' := E) kk kx)
variable {qual : Str} {scope : Scope} {cdv : Value} {A : Around} {outer : List Env} {s : Shared} {H : Hp} {E : XK}
end
end Dt
set_option Elab.async false
set_option linter.all false
set_option maxRecDepth 100000
set_option maxHeartbeats 4000000
set_option autoImplicit false
namespace Dt
open PySem PySem.Spec L2 Kx PyProof.Rows PySem.W
section
variable {X : Cx} {T : Tb} {E : XK} {c d : Str} {b : Bool} {e : Expr} {t : TE} {w : WE} {pos p1 p2 : Pos}
def isXR (c : Str) (r : R) : Prop := ∃ ns ds, r = .val (.exc c ns ds)
def wIsX (c : Str) (b : Bool) (w : WE) : WE := fun Γ Ψ Ξ => w Γ (fun r Γ1 => isXR c r ∧ Ψ (.val (.bl b)) Γ1) Ξ
def D.isiN : D → Option Bool
  | .lst _ => some false
  | .tup _ => some false
  | .non => some false
  | d => isiB d.v "str"
def dIsiN : List D → (R → Prop) → Prop := fun ds Ψ => ∃ d b, ds = [d, .ty "str"] ∧ d.isiN = some b ∧ Ψ (.val (.bl b))
theorem raise_ap {wA : WA} {Ψe : WEnds} {Γ : Gm} : wRaise c wA Ψe Γ = wA Γ (fun rs _ => rs.length ≤ 1000 ∧ Ψe.xe ⟨c, [], []⟩) Ψe.xe := rfl
theorem ifT_ap {w1 : WT} {u1 u2 : WS} {Ψe : WEnds} {Γ : Gm} : wIfT w1 u1 u2 Ψe Γ = w1 Γ (fun b Γ1 => iteR b (u1 Ψe Γ1) (u2 Ψe Γ1)) fun _ => False := rfl
theorem hdE_nx {Ψe : WEnds} {i : Nat} {Γ : Gm} : (hdE Ψe i).nx Γ = Ψe.nx (Γ.set i none) := rfl
theorem disiN_ap {d : D} {Ψ : R → Prop} : dIsiN [d, .ty "str"] Ψ = ∃ b, d.isiN = some b ∧ Ψ (.val (.bl b)) := propext ⟨fun ⟨_, _, e, h⟩ => by cases e; exact ⟨_, h⟩, fun ⟨b, h⟩ => ⟨d, b, rfl, h⟩⟩
theorem isX_ap {Γ : Gm} {Φ : R → Gm → Prop} {Ξ : XD → Prop} : wIsX c b w Γ Φ Ξ = w Γ (fun r Γ1 => isXR c r ∧ Φ (.val (.bl b)) Γ1) Ξ := rfl
theorem isX_val {c' : Str} {ns : List Str} {ds : List D} {P : Prop} : (isXR c (R.val (.exc c' ns ds)) ∧ P) = (c' = c ∧ P) := propext ⟨fun ⟨⟨_, _, h⟩, p⟩ => ⟨by cases h; rfl, p⟩, fun ⟨h, p⟩ => ⟨⟨ns, ds, by rw [h]⟩, p⟩⟩
theorem callT_ap {io' : Bool} {wf : WF} {wA : WA} {Γ : Gm} {Φ : R → Gm → Prop} {Ξ : XD → Prop} : wCallT io' wf wA Γ Φ Ξ = wA Γ (fun rs Γ1 => callW io' wf rs Γ1 Φ Ξ) fun _ => False := rfl
end
end Dt
set_option Elab.async false
set_option linter.all false
set_option maxRecDepth 100000
set_option maxHeartbeats 4000000
set_option autoImplicit false
namespace Dt
open PySem PySem.Spec L2 Kx PyProof.Rows PySem.NumText
end Dt
set_option Elab.async false
set_option linter.all false
set_option maxRecDepth 100000
set_option maxHeartbeats 1000000
set_option autoImplicit false
namespace L2
open PySem PySem.Spec PyProof.Rows
end L2
namespace Dt
open PySem PySem.Spec L2 Kx PyProof.Rows
section
variable {X : Cx} {T : Tb} {K : PySem.W.Frag} {F H : Hp}
def anyD (d : D) (ds : List D) : Bool := ds.any fun e => deq e d
def bInDeep : D → D → (Bool → Prop) → Prop := fun d e Ψ => ∃ ds, e = .lst ds ∧ (∃ n, n ≤ 60 ∧ Dep n d) ∧ (∃ n, n ≤ 60 ∧ ∀ x ∈ ds, Dep n x) ∧ Ψ (anyD d ds)
theorem inDeep_ap {d : D} {ds : List D} {Ψ : Bool → Prop} : bInDeep d (.lst ds) Ψ = sideR ((∃ n, n ≤ 60 ∧ Dep n d) ∧ ∃ n, n ≤ 60 ∧ ∀ x ∈ ds, Dep n x) (Ψ (anyD d ds)) := propext ⟨fun ⟨_, e, a, b, h⟩ => by cases e; exact ⟨⟨a, b⟩, h⟩, fun ⟨⟨a, b⟩, h⟩ => ⟨ds, rfl, a, b, h⟩⟩
end
end Dt
set_option Elab.async false
set_option linter.all false
set_option maxRecDepth 100000
set_option maxHeartbeats 1000000
set_option autoImplicit false
namespace Dt
open PySem PySem.Spec L2 Kx PyProof.Rows
structure GMk (k : Str) (n : Int) (j : Nat) (f : Int) (m : Nat) : Prop where
  j1 : j ≤ 80
  m0 : 2 ≤ m
  m1 : (m : Int) ≤ n / 2 + 2
  n0 : 2 ≤ n
  n1 : n ≤ 40
  bd : ∀ i : Nat, i < m → (Kx.R j * (f + i)).natAbs < 10 ^ 27
  br : k = "bars" → f ≤ 0 ∧ 0 < f + m
  st : k = "stacks" → f = 0
  sh : k = "shares" → f = 0 ∧ Kx.R j * (m - 1) = 100 * 10 ^ 12
def given (xs : List (Option Str)) : List Str := xs.filterMap id
def touch : List (Option Str × Int) → Int → Bool
  | [], _ => false
  | (none, _) :: r, f => touch r f
  | (some x, i) :: r, f => decide (i < f) || touch r (i + x.length + 1)
structure GPl (k : Str) (w n : Int) (j : Nat) (f : Int) (m : Nat) (lss : List (List Int)) (xs : List (Option Str)) (ss : List Str) : Prop where
  kd : IsKd k
  w0 : 1 ≤ w
  w1 : w ≤ 6
  gm : GMk k n j f m
  l0 : 1 ≤ lss.length
  l1 : lss.length ≤ 12
  ll : ∀ l ∈ lss, l.length = ss.length ∧ BandOk k n l
  xl : xs.length = lss.length
  xo : ∀ x, some x ∈ xs → Nm x
  xn : (given xs).Nodup
  nt : touch (xs.zip (stL k w ss.length lss.length)) 0 = false
  s0 : 1 ≤ ss.length
  s1 : ss.length ≤ 4
  so : ∀ s ∈ ss, Nm s
  sn : ss.Nodup
structure NmsOk (ss : List Str) (rs : List Rw) : Prop where
  so : ∀ s ∈ ss, Nm s
  sn : ss.Nodup
  xo : ∀ x ∈ nms rs, Nm x
  xn : (nms rs).Nodup
theorem R_80 {j : Nat} (h : j ≤ 80) : Kx.R j ≤ 5 * 10 ^ 26 := Int.le_trans (Kx.R_le h) (by decide +kernel)
theorem GMk.ok {k : Str} {n : Int} {j : Nat} {f : Int} {m : Nat} (g : GMk k n j f m) {i : Nat} (h : i < m) : MkOk (mkP (Kx.R j * (f + i))) := mk_ok (g.bd i h)
theorem GMk.R {k : Str} {n : Int} {j : Nat} {f : Int} {m : Nat} (g : GMk k n j f m) : (Kx.R j).natAbs < 2 ^ 95 := by
  have := R_80 g.j1
  have := Kx.R_pos j
  have : (5 : Int) * 10 ^ 26 < 2 ^ 95 := by decide
  omega
def there (l : List (Option Str × Int)) : List (Int × Int) := l.filterMap fun p => p.1.map fun x => (p.2, (x.length : Int))
end Dt
set_option Elab.async false
set_option linter.all false
set_option maxRecDepth 100000
set_option maxHeartbeats 1000000
set_option autoImplicit false
namespace L2
open PySem PySem.Spec PyProof.Rows
section
variable {X : Cx} {a b c d : Expr} {ta tb tc td : TE} {pos : Pos}
end
end L2
namespace Dt
open PySem PySem.Spec L2 Kx PyProof.Rows
section
variable {X : Cx} {T : Tb} {E : XK} {a b c d : Expr} {ta tb tc td : TE} {wa wb wc wd : WE} {pos : Pos}
end
end Dt
set_option Elab.async false
set_option linter.all false
set_option maxRecDepth 100000
set_option maxHeartbeats 1000000
set_option autoImplicit false
namespace Dt
open PySem PySem.Spec L2 Kx PyProof.Rows
structure Fair (xs : List Str) (is : List Int) (f : Int) (M : List (Option Nat)) : Prop where
  le : ∀ i, M[i]? = some (some i) → nxt xs is i ≤ f
  ap : ∀ i i', i < i' → M[i]? = some (some i) → M[i']? = some (some i') → nxt xs is i ≤ stAt is i'
structure Plc (c k : Str) (ss : List Str) (rs : List Rw) (w : Int) (res : List (Option Nat)) : Prop where
  al : Al res
  ln : res.length = rs.length
  nt : touch ((xsO (nms rs) res).zip (stL k w ss.length rs.length)) 0 = false
end Dt
set_option Elab.async false
set_option linter.all false
set_option maxRecDepth 100000
set_option maxHeartbeats 1000000
set_option autoImplicit false
namespace Zt
open PySem PySem.Builtin PyProof.Rows
abbrev IsZ (h : Heap) (z TI TO : Addr) (f0 : Value) (fl : Bool) : Prop := h.get? z = some { cls := .type "zip", dict := none, data := .fields #[f0, .bool fl, .bool false, .ref TI, .ref TO], slots := #[] }
section
variable {prog : Program} {w : World} {A : Around} {E : Value → Shared → Prop} {s : Shared} {z TI TO i1 i2 : Addr} {f1 f2 : List Addr} {n1 n2 k : Nat} {P1 P2 : Nat → Value → Prop} {S1 S2 : Nat → Heap → Prop} {a b : Value}
end
structure Lp (P1 P2 : Nat → Value → Prop) (S1 S2 : Nat → Heap → Prop) (z TI TO i1 i2 S : Addr) (hb : Heap) (b0 : Nat) (i : Nat) (h : Heap) (ts : List Addr) : Prop where
  pair : IsPair h TI (.ref i1) (.ref i2)
  one : S1 i h
  two : S2 i h
  zip : (i = 0 ∧ IsZip h z TI TO .none ∧ ∃ a b, IsPair h TO a b) ∨ ∃ t0 fl, t0 ∈ ts ∧ IsZ h z TI TO (rawInt t0) fl
  lst : ∃ c, h.get? S = some { cls := .type "list", dict := none, data := .seq (ts.map Value.ref).toArray c, slots := #[] }
  len : ts.length = i
  tup : ∀ (j : Nat) (t : Addr), ts[j]? = some t → ∃ x y, P1 j x ∧ P2 j y ∧ IsPair h t x y
  new : ∀ t ∈ ts, b0 ≤ t ∧ t < h.objs.size
  nd : ts.Nodup
  big : b0 ≤ h.objs.size
  keep : ∀ a o, a ≠ z → a ≠ TO → a ≠ i1 → a ≠ i2 → a ≠ S → hb.get? a = some o → h.get? a = some o
section
variable {prog : Program} {w : World} {A : Around} {R : Result → Shared → Prop} {z TI TO i1 i2 S : Addr} {f1 f2 : List Addr} {n1 n2 : Nat} {P1 P2 : Nat → Value → Prop} {S1 S2 : Nat → Heap → Prop} {a b : Value} {s : Shared}
end
end Zt
namespace L2
open PySem PySem.Spec PyProof.Rows
section
variable {X : Cx} {pins : List (Addr × Obj)} {σ : L2.St} {H : Hp} {s : Shared}
def Src.flat : Src → Bool
  | .s _ => false
  | _ => true
end
section
variable {X : Cx}
end
end L2
namespace Dt
open PySem PySem.Spec L2 Kx PyProof.Rows
section
variable {T : Tb} {E : XK} {tA : TA} {wA : WA}
def D.flt : D → Option (List D)
  | .lst ds => some ds
  | .tup ds => some ds
  | _ => none
variable {X : Cx} {a b : Expr} {pos pos' p p' : Pos}
end
end Dt
set_option Elab.async false
set_option linter.all false
set_option maxRecDepth 100000
set_option autoImplicit false
namespace HT
open PySem PyProof.Rows
section
variable {prog : Program} {w : World} {A : Around} {E : Value → Shared → Prop} {s : Shared}
end
end HT
namespace L2
open PySem PySem.Spec PyProof.Rows
section
variable {X : Cx}
end
end L2
namespace Dt
open PySem L2 Kx
section
variable {X : Cx} {T : Tb} {K : PySem.W.Frag}
end
end Dt
set_option Elab.async false
set_option linter.all false
set_option maxRecDepth 100000
set_option maxHeartbeats 1000000
set_option autoImplicit false
namespace Dt
open PySem L2 Kx
end Dt
namespace Dt
open PySem L2 Kx
theorem turn_mem {α : Type} {l : List α} {k : Nat} {x : α} : x ∈ l.drop k ++ l.take k ↔ x ∈ l := by
  rw [List.mem_append, or_comm, ← List.mem_append, List.take_append_drop]
end Dt
set_option Elab.async false
set_option linter.all false
set_option maxRecDepth 100000
set_option maxHeartbeats 1000000
set_option autoImplicit false
namespace Dt
open PySem PySem.Spec L2 Kx PyProof.Rows
section
variable {T : Tb} {E : XK} {X : Cx}
variable {to tk td : TE} {wo wk wd : WE}
end
end Dt
namespace Dt
open PySem PySem.Spec L2 Kx PyProof.Rows
end Dt
namespace Dt
open PySem PySem.Spec L2 Kx PyProof.Rows
end Dt
set_option Elab.async false
set_option linter.all false
set_option maxRecDepth 100000
set_option maxHeartbeats 1000000
set_option autoImplicit false
namespace L2
open PySem PySem.Spec PyProof.Rows PySem.W
inductive VHits (K : PySem.W.Frag) (H : Hp) (kb : List (Key × V)) : List (Key × V) → Bool → Prop
  | nil : VHits K H kb [] true
  | miss {k : Key} {v : V} {r : List (Key × V)} : valV kb k = none → VHits K H kb ((k, v) :: r) false
  | hit {k : Key} {v y : V} {d e : PyData} {r : List (Key × V)} {b : Bool} : valV kb k = some y → Dp K H v d → Dp K H y e → SeqAt.shaped d = true → SeqAt.shaped e = true → VHits K H kb r b → VHits K H kb ((k, v) :: r) (PyData.eqv d e && b)
section
variable {X : Cx} {pins : List (Addr × Obj)} {σ : L2.St} {H : Hp} {s : Shared}
end
end L2
namespace Dt
open PySem PySem.Spec L2 Kx PyProof.Rows
section
variable {T : Tb} {X : Cx} {K : PySem.W.Frag}
end
end Dt
namespace L2
open PySem PySem.Spec PyProof.Rows PySem.W
section
variable {X : Cx}
end
end L2
namespace Dt
open PySem PySem.Spec L2 Kx PyProof.Rows
section
variable {T : Tb} {E : XK} {tA : TA} {wA : WA} {to tk : TE} {wo wk : WE}
end
section
variable {T : Tb} {E : XK} {X : Cx} {tA : TA} {wA : WA} {to tk : TE} {wo wk : WE} {a b o e : Expr} {apos pos : Pos} {i : Nat}
end
end Dt
set_option Elab.async false
set_option linter.all false
set_option maxRecDepth 100000
set_option maxHeartbeats 1000000
set_option autoImplicit false
namespace Dt
open PySem L2 Kx
structure DrS (c k : Str) (ss : List Str) (rs : List Rw) (n w lo hi : Int) (j : Nat) : Prop where
  kd : Kd c k
  ok : TblOk ss rs
  nn : c = "Stacks" ∨ c = "Shares" → NonNeg rs
  n0 : 2 ≤ n
  n1 : n ≤ 40
  w0 : 1 ≤ w
  w1 : w ≤ 6
  lh : LoHi c rs lo hi
  hj : j < 75 + 1
  st : StpU lo (tkU lo hi) (n / 2 + 2) j
section
variable {c k : Str} {ss : List Str} {rs : List Rw} {n w lo hi : Int} {j : Nat} {K : D → WF → Prop}
end
end Dt
namespace Dt
open PySem L2 Kx
theorem stp_ex {u v m : Int} (h0 : -(10 ^ 25) < u) (h2 : v < 10 ^ 25) (h : 3 ≤ m) : ∃ j, j < 75 + 1 ∧ StpU u v m j := by
  have key : ∀ N : Nat, CU u v (Kx.R N) ≤ m → ∃ j, j ≤ N ∧ StpU u v m j := by
    intro N
    induction N using Nat.strongRecOn with
    | _ N ih =>
      intro hN
      by_cases e : ∃ i, i < N ∧ CU u v (Kx.R i) ≤ m
      · obtain ⟨i, hi, hc⟩ := e
        obtain ⟨j, hj, st⟩ := ih i hi hc
        exact ⟨j, by omega, st⟩
      · refine ⟨N, Nat.le_refl _, hN, fun i hi => ?_⟩
        rcases Int.lt_or_le m (CU u v (Kx.R i)) with z | z
        · exact z
        · exact absurd ⟨i, hi, z⟩ e
  obtain ⟨j, hj, st⟩ := key 75 (Int.le_trans (CU_top h0 h2) h)
  exact ⟨j, by omega, st⟩
theorem DrS.size {c k : Str} {ss : List Str} {rs : List Rw} {n w lo hi : Int} {j : Nat} (S : DrS c k ss rs n w lo hi j) {n' w' : Int} (n0 : 2 ≤ n') (n1 : n' ≤ 40) (w0 : 1 ≤ w') (w1 : w' ≤ 6) : ∃ j', DrS c k ss rs n' w' lo hi j' := by
  have bd := lohi_bd S.ok S.lh
  obtain ⟨j', hj, st⟩ := stp_ex (m := n' / 2 + 2) bd.1 bd.2 (by omega)
  exact ⟨j', S.kd, S.ok, S.nn, n0, n1, w0, w1, S.lh, hj, st⟩
theorem isMin_of {us vs : List Int} {m : Int} (h : IsMin m us) (e : ∀ x, x ∈ us ↔ x ∈ vs) : IsMin m vs := ⟨(e m).mp h.1, fun y hy => h.2 y ((e y).mpr hy)⟩
theorem isMax_of {us vs : List Int} {m : Int} (h : IsMax m us) (e : ∀ x, x ∈ us ↔ x ∈ vs) : IsMax m vs := ⟨(e m).mp h.1, fun y hy => h.2 y ((e y).mpr hy)⟩
theorem DrS.perm {c k : Str} {ss : List Str} {rs rs' : List Rw} {n w lo hi : Int} {j : Nat} (S : DrS c k ss rs n w lo hi j) (p : rs'.Perm rs) : DrS c k ss rs' n w lo hi j := by
  have m : ∀ r, r ∈ rs ↔ r ∈ rs' := fun r => p.mem_iff.symm
  have mu : ∀ x, x ∈ (nums rs).map un ↔ x ∈ (nums rs').map un := fun x => by
    unfold nums
    simp only [List.mem_map, List.mem_flatMap]
    exact ⟨fun ⟨q, ⟨r, hr, hq⟩, e⟩ => ⟨q, ⟨r, (m r).mp hr, hq⟩, e⟩, fun ⟨q, ⟨r, hr, hq⟩, e⟩ => ⟨q, ⟨r, (m r).mpr hr, hq⟩, e⟩⟩
  have mr : ∀ x, x ∈ rs.map rowU ↔ x ∈ rs'.map rowU := fun x => by
    simp only [List.mem_map]
    exact ⟨fun ⟨r, hr, e⟩ => ⟨r, (m r).mp hr, e⟩, fun ⟨r, hr, e⟩ => ⟨r, (m r).mpr hr, e⟩⟩
  have nn : NonNeg rs → NonNeg rs' := fun h q hq => by
    obtain ⟨r, hr, hq⟩ := List.mem_flatMap.mp hq
    exact h q (List.mem_flatMap.mpr ⟨r, (m r).mpr hr, hq⟩)
  obtain ⟨kd, ok, n', n0, n1, w0, w1, lh, hj, st⟩ := S
  have l := p.length_eq
  refine ⟨kd, ⟨ok.s0, ok.s1, ok.sok, by rw [l]; exact ok.r0, by rw [l]; exact ok.r1, fun r hr => ok.rok r ((m r).mpr hr), fun r hr => ok.rb r ((m r).mpr hr)⟩, fun h => nn (n' h), n0, n1, w0, w1, ?_, hj, st⟩
  have ma : ∀ (z : List Int) x, x ∈ z ++ (nums rs).map un ↔ x ∈ z ++ (nums rs').map un := fun z x => by
    rw [List.mem_append, List.mem_append, mu x]
  rcases lh with ⟨e, a, b⟩ | ⟨e, a, b⟩ | ⟨e, a, b, d⟩ | ⟨e, a, b, d⟩
  · exact .inl ⟨e, isMin_of a (ma _), isMax_of b (ma _)⟩
  · exact .inr (.inl ⟨e, isMin_of a (ma _), isMax_of b (ma _)⟩)
  · exact .inr (.inr (.inl ⟨e, nn a, b, isMax_of d mr⟩))
  · exact .inr (.inr (.inr ⟨e, nn a, b, d⟩))
section
variable {c : Str} {ss : List Str} {rs : List Rw} {n w : Int} {Ψ : R → Prop}
end
theorem Dep.up {n m : Nat} {d : D} (h : Dep n d) (hn : n ≤ m) : Dep m d := by
  induction h generalizing m with
  | non => exact .non
  | bl b => exact .bl b
  | int i => exact .int i
  | str h => exact .str h
  | lst h ih =>
    obtain ⟨q, rfl⟩ : ∃ q, m = q + 1 := ⟨m - 1, by omega⟩
    exact .lst fun x hx => ih x hx (by omega)
  | tup h ih =>
    obtain ⟨q, rfl⟩ : ∃ q, m = q + 1 := ⟨m - 1, by omega⟩
    exact .tup fun x hx => ih x hx (by omega)
def turnC (b : Int) (r : Rw) : Rw := (r.1, r.2.drop b.toNat ++ r.2.take b.toNat)
theorem turn_len {b : Int} {r : Rw} : (turnC b r).2.length = r.2.length := by
  show (r.2.drop b.toNat ++ r.2.take b.toNat).length = _
  rw [List.length_append, List.length_drop, List.length_take]
  omega
theorem turnS {ss : List Str} {b : Int} : (ss.drop b.toNat ++ ss.take b.toNat).length = ss.length := by
  rw [List.length_append, List.length_drop, List.length_take]
  omega
theorem DrS.turn {c k : Str} {ss : List Str} {rs : List Rw} {n w lo hi b : Int} {j : Nat} (S : DrS c k ss rs n w lo hi j) (hc : c = "Bars" ∨ c = "Lines") : DrS c k (ss.drop b.toNat ++ ss.take b.toNat) (rs.map (turnC b)) n w lo hi j := by
  have hm : ∀ (r : Rw) q, q ∈ (turnC b r).2 ↔ q ∈ r.2 := fun r q => turn_mem
  have mu : ∀ x, x ∈ (nums rs).map un ↔ x ∈ (nums (rs.map (turnC b))).map un := fun x => by
    unfold nums
    simp only [List.mem_map, List.mem_flatMap]
    constructor
    · rintro ⟨q, ⟨r, hr, hq⟩, e⟩
      exact ⟨q, ⟨turnC b r, ⟨r, hr, rfl⟩, (hm r q).mpr hq⟩, e⟩
    · rintro ⟨q, ⟨_, ⟨r, hr, rfl⟩, hq⟩, e⟩
      exact ⟨q, ⟨r, hr, (hm r q).mp hq⟩, e⟩
  have ma : ∀ (z : List Int) x, x ∈ z ++ (nums rs).map un ↔ x ∈ z ++ (nums (rs.map (turnC b))).map un := fun z x => by
    rw [List.mem_append, List.mem_append, mu x]
  obtain ⟨kd, ok, n', n0, n1, w0, w1, lh, hj, st⟩ := S
  refine ⟨kd, ⟨by rw [turnS]; exact ok.s0, by rw [turnS]; exact ok.s1, fun s hs => ok.sok s (turn_mem.mp hs), by rw [List.length_map]; exact ok.r0, by rw [List.length_map]; exact ok.r1, fun r hr => ?_, fun r hr p hp => ?_⟩, fun h => ?_, n0, n1, w0, w1, ?_, hj, st⟩
  · obtain ⟨r, hr0, rfl⟩ := List.mem_map.mp hr
    have a := ok.rok r hr0
    exact ⟨a.1, by rw [turn_len, turnS]; exact a.2.1, fun p hp => a.2.2 p ((hm r p).mp hp)⟩
  · obtain ⟨r, hr0, rfl⟩ := List.mem_map.mp hr
    exact ok.rb r hr0 p ((hm r p).mp hp)
  · rcases hc with rfl | rfl <;> rcases h with z | z <;> exact absurd z (by decide)
  · rcases lh with ⟨e, a, d⟩ | ⟨e, a, d⟩ | ⟨e, _⟩ | ⟨e, _⟩
    · exact .inl ⟨e, isMin_of a (ma _), isMax_of d (ma _)⟩
    · exact .inr (.inl ⟨e, isMin_of a (ma _), isMax_of d (ma _)⟩)
    · rcases hc with rfl | rfl <;> exact absurd e (by decide)
    · rcases hc with rfl | rfl <;> exact absurd e (by decide)
end Dt
set_option Elab.async false
set_option linter.all false
set_option maxRecDepth 100000
set_option maxHeartbeats 1000000
set_option autoImplicit false
namespace HT
open PySem PyProof.Rows
section
variable {prog : Program} {w : World} {A : Around} {E : Value → Shared → Prop} {s : Shared}
end
end HT
namespace L2
open PySem PySem.Spec PyProof.Rows
section
variable {X : Cx}
end
end L2
namespace Dt
open PySem L2 Kx
section
variable {X : Cx} {T : Tb} {K : PySem.W.Frag}
end
end Dt
namespace Dt
open PySem L2 Kx
end Dt
set_option Elab.async false
set_option linter.all false
set_option maxRecDepth 100000
set_option maxHeartbeats 1000000
set_option autoImplicit false
namespace Kx
open PySem PySem.Spec L2 PyProof.Rows PySem.W
open Builtin Builtin.ObjectAttr
section
variable {prog : Program} {w : World} {A : Around} {E : Value → Shared → Prop} {h : Heap} {g : Array GenState} {d : Drawn} {t : Nat} {os : OsState} {K : PySem.W.Frag} {a C dx : Addr} {o : Obj} {mA : Str → Option Value} {name : Str} {v : Value}
end
end Kx
set_option Elab.async false
set_option linter.all false
set_option maxRecDepth 100000
set_option maxHeartbeats 1000000
set_option autoImplicit false
namespace Xk
open PySem PySem.W
theorem wd_slot : Slot "wrapper_descriptor" "__get__" "wrapper_descriptor.__get__" :=
  .of (owner := "wrapper_descriptor") (n := "__get__") (by rw [typeLookup_type, builtinLookup_eq_fast]; kernel_rfl) (by decide +kernel) (by decide +kernel) (by decide +kernel)
    (by first | exact .inl (by decide +kernel) | exact .inr (by decide +kernel)) (by rw [isSubtype_type]; kernel_rfl)
theorem wd_entry : entryFor table "wrapper_descriptor.__get__" = some Builtin.«wrapper_descriptor.__get__» := entryFor_of_tree (by kernel_rfl)
theorem wd_type : typeOf (.builtin "ValueError.__init__") = pure (.type "wrapper_descriptor") := by show builtinType _ = _; rw [builtinType_eq_fast]; kernel_rfl
theorem own_ve : (".".intercalate ("ValueError.__init__".cutAt '.').dropLast) = "ValueError" := by decide +kernel
theorem wd_args (a b c : Value) : argsOk "wrapper_descriptor.__get__" ⟨[a, b, c], []⟩ := by unfold argsOk; kernel_rfl
section
variable {prog : Program} {w : World} {A : Around} {E : Value → Shared → Prop} {h : Heap} {g : Array GenState} {d : Drawn} {t : Nat} {os : OsState} {K : Frag}
theorem super_ga_b {so D x C : Addr} {ox : Obj} {l₀ l : List Value} {tk : Tok} {Q : Fin → Shared → Prop}
    (hso : h.get? so = some { cls := .type "super", dict := none, data := .fields #[.ref D, .ref x, .ref C], slots := #[] }) (hno : Looks (model prog w) h (opaqueClassAbove (.ref C)) none)
    (hC : Looks (model prog w) h (mroOf (.ref C)) l₀) (hl : (l₀.dropWhile (· != .ref D)).drop 1 = l) (X : K.In h)
    (hf : alongIn K "__init__" l = some (some (.builtin "ValueError.__init__"))) (hx : h.get? x = some ox) (hxc : ox.cls = .ref C) (hxC : x ≠ C) (hb : mroIn K C (.type "ValueError") = some true)
    (hq : Q (.done (.ret (.ref h.objs.size))) ⟨h.push { cls := .type "method-wrapper", data := .fields #[.builtin "ValueError.__init__", .ref x] }, g, d, t, os⟩) :
    wpAny (model prog w) A (Builtin.«super.__getattribute__» ⟨[.ref so, .str "__init__" tk], []⟩) Q E ⟨h, g, d, t, os⟩ := by
  have hlk := wd_slot.lookup
  have hne : (Value.ref x == Value.ref C) = false := by simp [hxC]
  have hn : (("__init__" : Str) == ("__class__" : Str)) = false := by decide
  have hTf : (⟨h, g, d, t, os⟩ : Shared).TypeIs (.builtin "ValueError.__init__") "wrapper_descriptor" := wd_type
  have hdt : ({ cls := .type "super", dict := none, data := .fields #[.ref D, .ref x, .ref C], slots := #[] } : Obj).data = .fields #[.ref D, .ref x, .ref C] := rfl
  have f0 : (#[.ref D, .ref x, .ref C] : Array Value)[0]? = some (.ref D) := rfl
  have f1 : (#[.ref D, .ref x, .ref C] : Array Value)[1]? = some (.ref x) := rfl
  have f2 : (#[.ref D, .ref x, .ref C] : Array Value)[2]? = some (.ref C) := rfl
  have L1 : Looks (model prog w) h (isSubtype (.ref C) (.type "ValueError")) true := looks_mroIn X hb
  unfold Builtin.«super.__getattribute__»
  repeat (first
    | (with_reducible refine wpAny_field hso hdt f0 ?_) | (with_reducible refine wpAny_field hso hdt f1 ?_) | (with_reducible refine wpAny_field hso hdt f2 ?_)
    | (with_reducible refine ks_wpAny_notOpaque hno ?_)
    | (with_reducible refine Looks.at hC ?_; rw [hl])
    | (refine ks_forIn_along X (fun _ _ => rfl) rfl ?_ hf)
    | (with_reducible refine wpAny_typeOf hTf ?_)
    | (with_reducible refine wpAny_call_entry wd_slot hTf wd_entry ?_ (wd_args _ _ _))
    | (with_reducible refine ⟨_, rfl, ?_⟩)
    | (simp only [hn, hne, Bool.or_false, Bool.false_eq_true, if_false])
    | wp_step
    | dsimp only)
  rw [hxc, own_ve]
  repeat (first
    | (with_reducible refine L1.at ?_)
    | (with_reducible refine ⟨_, rfl, ?_⟩)
    | wp_step
    | dsimp only)
  all_goals first | exact hq | skip
  done
theorem getMethod_super_b {so D x C : Addr} {ox : Obj} {l₀ l : List Value} {pl : Sem Bool} {Q : Value × List Value → Shared → Prop}
    (hso : h.get? so = some { cls := .type "super", dict := none, data := .fields #[.ref D, .ref x, .ref C], slots := #[] }) (hno : Looks (model prog w) h (opaqueClassAbove (.ref C)) none)
    (hC : Looks (model prog w) h (mroOf (.ref C)) l₀) (hl : (l₀.dropWhile (· != .ref D)).drop 1 = l) (X : K.In h)
    (hf : alongIn K "__init__" l = some (some (.builtin "ValueError.__init__"))) (hx : h.get? x = some ox) (hxc : ox.cls = .ref C) (hxC : x ≠ C) (hb : mroIn K C (.type "ValueError") = some true)
    (hq : Q (.ref h.objs.size, []) ⟨h.push { cls := .type "method-wrapper", data := .fields #[.builtin "ValueError.__init__", .ref x] }, g, d, t + 1, os⟩) :
    wpAny (model prog w) A (getMethod (.ref so) "__init__" pl) Q E ⟨h, g, d, t, os⟩ := by
  have hlk := F.ks_slot_super_ga.lookup
  have hT : ∀ t', (⟨h, g, d, t', os⟩ : Shared).TypeIs (.ref so) "super" := fun _ => ⟨_, hso, rfl⟩
  unfold getMethod
  refine wpAny_bind (wpAny_specialOf (hT _) hlk ?_)
  show wpAny _ _ (if (Manifest.canonical "super.__getattribute__" != "object.__getattribute__") = true then _ else _) _ _ _
  rw [if_pos F.ks_canon_super_ga]
  unfold getAttr getAttrBy
  refine wpAny_bind (wpAny_bind (wpAny_mkText (wpAny_holding (wpAny_bind (wpAny_typeOf (hT _) (wpAny_bind (wpAny_of_eq hlk ?_)))))))
  show wpAny _ _ (getAttrByItsOwn (.ref so) (.str "__init__" t) (.type "super") (.builtin "super.__getattribute__") true false) _ _ _
  unfold getAttrByItsOwn hookBefore callGetattribute boundAndCalled
  refine wpAny_bind (wpAny_of_eq (show (if onTheHeap (.type "super") then typeLookup (.type "super") "__getattr__" else pure none) = pure none from rfl) ?_)
  refine wpAny_bind (wpAny_attempt (wpAny_holding ?_))
  show wpAny _ _ (bindSpecial (.builtin "super.__getattribute__") (.ref so) >>= _) _ _ _
  refine wpAny_bind (wpAny_of_eq (F.ks_slot_super_ga.bind _) ?_)
  have key := fun (A' : Around) (E' : Value → Shared → Prop) => super_ga_b (A := A') (E := E') (tk := t) (t := t + 1) (g := g) (d := d) (os := os) hso hno hC hl X hf hx hxc hxC hb (Q := fun fin s' => ∃ v, fin = .done (.ret v) ∧ v = .ref h.objs.size ∧ s' = ⟨h.push { cls := .type "method-wrapper", data := .fields #[.builtin "ValueError.__init__", .ref x] }, g, d, t + 1, os⟩) ⟨_, rfl, rfl, rfl⟩
  refine wpAny_mono (Q := fun v s' => v = .ref h.objs.size ∧ s' = ⟨h.push { cls := .type "method-wrapper", data := .fields #[.builtin "ValueError.__init__", .ref x] }, g, d, t + 1, os⟩) (E := fun _ _ => False)
    (wpAny_call_entry F.ks_slot_super_ga (hT _) F.ks_entry_super_ga (key _ _) (F.ks_gaArgs_super _ _)) (fun v s' hv => ?_) fun _ _ z => z.elim
  obtain ⟨rfl, rfl⟩ := hv
  exact wpAny_pure (wpAny_pure hq)
end
end Xk
namespace Xk
open PySem PySem.W
theorem ve_entry : entryFor table "ValueError.__init__" = some Builtin.«BaseException.__init__» := F.excBase_ValueError.initEntry
section
variable {prog : Program} {w : World} {A : Around} {E : Value → Shared → Prop} {h : Heap} {g : Array GenState} {d : Drawn} {t : Nat} {os : OsState} {K : Frag}
theorem init_run {x t0 : Addr} {ox : Obj} {vs : Array Value} {v : Value} {Q : Fin → Shared → Prop} (hx : h.get? x = some ox) (hd : ox.data = .fields vs) (h0 : vs[0]? = some (.ref t0))
    (hq : ∀ h', (∀ b o, b ≠ x → h.get? b = some o → h'.get? b = some o) → h'.get? x = some { ox with data := .fields (vs.setIfInBounds 0 (.ref h.objs.size)) } → Q (.done (.ret .none)) ⟨h', g, d, t, os⟩) :
    wpAny (model prog w) A (Builtin.«BaseException.__init__» ⟨[.ref x, v], []⟩) Q E ⟨h, g, d, t, os⟩ := by
  unfold Builtin.«BaseException.__init__» Builtin.BaseException.bexcPut
  have up := Heap.get?_push_of_some (h := h) { cls := .type "tuple", data := .seq #[v] } hx
  have hsz : 0 < vs.size := (Array.getElem?_eq_some_iff.mp h0).1
  repeat (first
    | (with_reducible refine wpAny_newTuple (hsz := by show 1 ≤ sizeLine; decide) ?_)
    | (with_reducible refine wpAny_field up hd h0 ?_)
    | (with_reducible refine wpAny_setField up hd hsz ?_)
    | wp_step
    | dsimp only)
  have eu := Heap.get?_update_self (Obj.mapFields (·.setIfInBounds 0 (Value.ref h.objs.size))) up (by
    obtain ⟨c, dd, dt, sl⟩ := ox
    have hd : dt = .fields vs := hd
    subst hd
    rfl)
  refine hq _ (fun b o hb e => (Heap.get?_update_other _ _ (Ne.symm hb)).trans (Heap.get?_push_of_some _ e)) ?_
  refine eu.trans ?_
  obtain ⟨c, dd, dt, sl⟩ := ox
  have hd : dt = .fields vs := hd
  subst hd
  rfl
end
end Xk
set_option Elab.async false
set_option linter.all false
set_option maxRecDepth 100000
set_option maxHeartbeats 1000000
set_option autoImplicit false
namespace Xk
open PySem PySem.W
section
variable {M : Model} {A : Around} {E : Value → Shared → Prop} {h : Heap} {g : Array GenState} {d : Drawn} {t : Nat} {os : OsState}
variable {nm q : Str} {C N : Addr} {bs bm bmB : List Value} {hdct : Bool} {sn : List Str} {sub : List Value} {ab : Bool} {col : Option Bool} {dd : Option Addr} {k0 k1 k2 k3 k5 : Option Value} {B newId initId : String}
theorem check_newC (F : ExcBaseFacts B newId initId bmB) (hcont : (Value.ref C :: bm).contains (.type B) = true) {rest : List Value} {Q : Unit → Shared → Prop} (hC : h.get? C = some (excClassObj nm q C N bs bm hdct sn sub ab col dd k0 k1 k2 k3 k5 newId))
    (hq : Q () ⟨h, g, d, t, os⟩) : wpAny M A (checkBuiltinCall newId ⟨.ref C :: rest, []⟩) Q E ⟨h, g, d, t, os⟩ := by
  have hstar := F.noStar
  simp only [checkBuiltinCall, F.newKind, F.newSplit, F.newRow]
  repeat (first | refine wpAny_loadPart_at hC ?_ | (refine wpAny_isSubtype_exc hC ?_; rw [hcont]) | refine wpAny_staticBase_exc hC ?_ | refine wpAny_madeBy_exc hC ?_ | simp only [bne_self_eq_false, Bool.false_eq_true, if_false] | wp_step)
  exact hq
end
section
variable {prog : Program} {w : World} {A : Around} {R : Result → Shared → Prop} {h : Heap} {g : Array GenState} {d : Drawn} {t : Nat} {os : OsState}
variable {nm q : Str} {C N : Addr} {bs bm bmB : List Value} {hdct : Bool} {sn : List Str} {sub : List Value} {ab : Bool} {col : Option Bool} {dd : Option Addr} {k0 k1 k2 k3 k5 : Option Value} {B newId initId : String}
theorem exc_newC (F : ExcBaseFacts B newId initId bmB) (hcB : (Value.ref C :: bm).contains (.type B) = true) (hcA : (Value.ref C :: bm).contains (.type "AttributeError") = false) (hcN : (Value.ref C :: bm).contains (.type "NameError") = false)
    {rest : List Value} (hC : h.get? C = some (excClassObj nm q C N bs bm hdct sn sub ab col dd k0 k1 k2 k3 k5 newId))
    (hq : R (.ok (.ret (.ref (h.objs.size + 1)))) ⟨(h.push { cls := .type "tuple", data := .seq rest.toArray }).push
      { cls := .ref C, data := .fields #[.ref h.objs.size, .none, .none, .none, .bool false, .none] }, g, d, t, os⟩) (hrest : rest.length ≤ sizeLine) :
    codeAny (model prog w) A (.builtin newId ⟨.ref C :: rest, []⟩) R ⟨h, g, d, t, os⟩ := by
  have hends := F.ends
  refine codeAny_builtinAt F.entry ?_
  unfold Builtin.«BaseException.__new__»
  refine wpAt_bind ?_
  show wpAt _ _ _ (stack >>= _) _ _ _
  refine wpAt_bind (wpAt_stack fun p below => wpAt_of_wpAny ?_)
  wp_walk
  refine wpAt_of_wpAny ?_
  rw [F.owner]
  repeat (first | with_reducible refine wpAny_madeHere_exc F.canon hC ?_ | with_reducible refine wpAny_loadPart_at hC ?_ | (with_reducible refine wpAny_isSubtype_exc hC ?_; first | rw [hcB] | rw [hcA] | rw [hcN]) | wp_step)
  show R _ _
  rw [Heap.size_push]
  exact hq
end
section
variable {prog : Program} {w : World} {A : Around} {E : Value → Shared → Prop} {h : Heap} {g : Array GenState} {d : Drawn} {t : Nat} {os : OsState} {K : Frag}
variable {nm q : Str} {C N : Addr} {bs bm bmB : List Value} {hdct : Bool} {sn : List Str} {sub : List Value} {ab : Bool} {col : Option Bool} {dd : Option Addr} {k0 k1 k2 k3 k5 : Option Value} {B newId initId : String}
theorem type_call_initC (F : ExcBaseFacts B newId initId bmB) (hcB : (Value.ref C :: bm).contains (.type B) = true) (hcA : (Value.ref C :: bm).contains (.type "AttributeError") = false) (hcN : (Value.ref C :: bm).contains (.type "NameError") = false)
    {rest : List Value} {fI : Addr} {Q : Fin → Shared → Prop}
    (hC : h.get? C = some (excClassObj nm q C N bs bm hdct sn sub ab col dd k0 k1 k2 k3 k5 newId)) (X : K.In h) (hi : findIn K (.ref C) "__init__" = some (some (.ref fI))) (hf : typeIn K (.ref fI) = some (.type "function"))
    (hq : ∀ h' e, Heap.MadeExcOf h h' e (.ref C) rest →
      wpAny (model prog w) A (call (.ref fI) (.ref e :: rest)) (fun r s' => r = .none ∧ Q (.done (.ret (.ref e))) s') E ⟨h', g, d, t, os⟩) (hrest : rest.length ≤ sizeLine) :
    wpAny (model prog w) A (Builtin.«type.__call__» ⟨.ref C :: rest, []⟩) Q E ⟨h, g, d, t, os⟩ := by
  repeat (first | with_reducible refine wpAny_loadPart_at hC ?_ | with_reducible refine wpAny_madeBy_exc hC ?_ | wp_step)
  refine codeAny_call_builtin_code (Code.quiet_builtin _ F.quiet) (check_newC F hcB hC ?_)
  refine exc_newC F hcB hcA hcN hC ?_ hrest
  show wpAny _ _ _ _ _ _
  have hC₁ := Heap.get?_push_of_some { cls := .ref C, data := .fields #[.ref h.objs.size, .none, .none, .none, .bool false, .none] }
    (Heap.get?_push_of_some { cls := .type "tuple", data := .seq rest.toArray } hC)
  have X₁ : K.In ((h.push { cls := .type "tuple", data := .seq rest.toArray }).push { cls := .ref C, data := .fields #[.ref h.objs.size, .none, .none, .none, .bool false, .none] }) :=
    fun b o e => Heap.get?_push_of_some _ (Heap.get?_push_of_some _ (X b o e))
  have hget : ((h.push { cls := .type "tuple", data := .seq rest.toArray }).push
      { cls := .ref C, data := .fields #[.ref h.objs.size, .none, .none, .none, .bool false, .none] }).get? (h.objs.size + 1) = some
      { cls := .ref C, data := .fields #[.ref h.objs.size, .none, .none, .none, .bool false, .none] } := by heap_get
  have hcC : (Value.ref C :: bm).contains (.ref C) = true := by simp
  unfold isInstance
  repeat (first | with_reducible refine wpAny_loadPart_at hget ?_ | (with_reducible refine wpAny_isSubtype_exc hC₁ ?_; rw [hcC]) | wp_step)
  show wpAny _ _ (typeLookup (.ref C) _) _ _ _
  refine (looks_findIn X₁ hi).here (s := ⟨_, g, d, t, os⟩) ?_
  refine wpAny_holding (wpAny_bind ((bind_fn X₁ (.ref (h.objs.size + 1)) hf).here (s := ⟨_, g, d, t, os⟩) ?_))
  refine wpAny_bind (wpAny_mono (hq _ (h.objs.size + 1) ⟨fun b o hb => Heap.get?_push_of_some _ (Heap.get?_push_of_some _ hb), Heap.get?_none_of_le (Nat.le_succ _), h.objs.size, hget, Heap.get?_none_of_le (Nat.le_refl _), ?_⟩) (fun r s' hr => ?_) fun _ _ x => x)
  · exact Heap.get?_push_of_some _ (Heap.get?_push_at rfl rfl)
  · obtain ⟨rfl, hQ⟩ := hr
    wp_walk
    exact hQ
theorem call_initC (F : ExcBaseFacts B newId initId bmB) (hcB : (Value.ref C :: bm).contains (.type B) = true) (hcA : (Value.ref C :: bm).contains (.type "AttributeError") = false) (hcN : (Value.ref C :: bm).contains (.type "NameError") = false)
    {rest : List Value} {fI : Addr} {Q : Value → Shared → Prop}
    (hC : h.get? C = some (excClassObj nm q C N bs bm hdct sn sub ab col dd k0 k1 k2 k3 k5 newId)) (X : K.In h) (hi : findIn K (.ref C) "__init__" = some (some (.ref fI))) (hf : typeIn K (.ref fI) = some (.type "function"))
    (hq : ∀ h' e, Heap.MadeExcOf h h' e (.ref C) rest →
      wpAny (model prog w) (A.under (.builtin "type.__call__" ⟨.ref C :: rest, []⟩)) (call (.ref fI) (.ref e :: rest)) (fun r s' => r = .none ∧ Q (.ref e) s') E ⟨h', g, d, t, os⟩) (hrest : rest.length ≤ sizeLine) :
    wpAny (model prog w) A (call (.ref C) rest) Q E ⟨h, g, d, t, os⟩ := by
  have f1 := tc_lookup
  have f2 := tc_bind (.ref C)
  have hT : (⟨h, g, d, t, os⟩ : Shared).TypeIs (.ref C) "type" := ⟨_, hC, rfl⟩
  refine wpAny_call (codeAny_of_tree ?_)
  show wpAny _ _ (callAny (.ref C) _) _ _ _
  repeat (any_goals (first | assumption | with_reducible refine wpAny_loadPart_at hC ?_ | wp_step))
  refine ⟨rfl, ?_⟩
  refine codeAny_call_builtin_at (Code.quiet_builtin _ (by decide +kernel)) entry_typeCall (wpAny_check_type_call_sub hC (type_call_initC (hrest := hrest) F hcB hcA hcN hC X hi hf fun h' e hm => ?_))
  exact hq h' e hm
end
section
variable {prog : Program} {w : World} {A : Around} {E : Value → Shared → Prop} {s : Shared} {env : Env} {K : Frag}
variable {nm q : Str} {C N : Addr} {bs bm bmB : List Value} {hdct : Bool} {sn : List Str} {sub : List Value} {ab : Bool} {col : Option Bool} {dd : Option Addr} {k0 k1 k2 k3 k5 : Option Value} {B newId initId : String}
theorem raiseStmt_madeD {M : Model} {x : Sem Value} {Q : Flow → Shared → Prop} (hcB : (Value.ref C :: bm).contains (.type "BaseException") = true) (hh : A.handled = none)
    (h : wpAny M A x (fun v s₁ => ∃ e t dx, v = .ref e ∧ s₁.heap.get? C = some (excClassObj nm q C N bs bm hdct sn sub ab col dd k0 k1 k2 k3 k5 newId) ∧
      s₁.heap.get? e = some { cls := .ref C, dict := dx, data := .fields #[.ref t, .none, .none, .none, .bool false, .none] } ∧ E (.ref e) s₁) E s) :
    wpAny M A (raiseStmt env (some x) none) Q E s := by
  unfold raiseStmt
  refine wpAny_bind (wpAny_mono h (fun v s₁ h₁ => ?_) fun _ _ x => x)
  obtain ⟨e, t, dx, rfl, hC, he, hE⟩ := h₁
  obtain ⟨hp, g, d, tk, os⟩ := s₁
  repeat (first | with_reducible refine wpAny_loadPart_at he ?_ | with_reducible refine wpAny_loadPart_at hC ?_ | (with_reducible refine wpAny_isSubtype_exc hC ?_; rw [hcB]) | wp_step)
  exact wpAny_raiseNew_none hh hE
theorem Raise_initC (F : ExcBaseFacts B newId initId bmB) (hcB : (Value.ref C :: bm).contains (.type B) = true) (hcA : (Value.ref C :: bm).contains (.type "AttributeError") = false) (hcN : (Value.ref C :: bm).contains (.type "NameError") = false)
    (hcE : (Value.ref C :: bm).contains (.type "BaseException") = true) {x : Str} {np cpos pos : Pos} {args : List Expr} {Q : Flow → Shared → Prop} {fI : Addr}
    (hh : A.handled = none) (hplain : (backTo cpos (starEach args env)).any (·.1) = false) (hi : findIn K (.ref C) "__init__" = some (some (.ref fI))) (hf : typeIn K (.ref fI) = some (.type "function"))
    (h : wpAny (model prog w) A (eval (.Name x np) env) (fun f s₁ => f = .ref C ∧ wpAny (model prog w) A (evalArgs (.ref C) true (backTo cpos (starEach args env)) [])
      (fun a s₂ => a.kw = [] ∧ a.pos.length ≤ sizeLine ∧ s₂.heap.get? C = some (excClassObj nm q C N bs bm hdct sn sub ab col dd k0 k1 k2 k3 k5 newId) ∧ K.In s₂.heap ∧
        ∀ h' e, Heap.MadeExcOf s₂.heap h' e (.ref C) a.pos → wpAny (model prog w) (A.under (.builtin "type.__call__" ⟨.ref C :: a.pos, []⟩)) (call (.ref fI) (.ref e :: a.pos))
          (fun r s' => r = .none ∧ s'.heap.get? C = some (excClassObj nm q C N bs bm hdct sn sub ab col dd k0 k1 k2 k3 k5 newId) ∧ (∃ t dx, s'.heap.get? e = some { cls := .ref C, dict := dx, data := .fields #[.ref t, .none, .none, .none, .bool false, .none] }) ∧ E (.ref e) s') E { s₂ with heap := h' }) E s₁) E s) :
    wpAny (model prog w) A (exec (.Raise (some (.Call (.Name x np) args [] cpos)) none pos) env) Q E s := by
  rw [arm_exec_Raise]
  refine wpAny_bind (wpAny_standAt (raiseStmt_madeD (C := C) (nm := nm) (q := q) (N := N) (bs := bs) (bm := bm) (hdct := hdct) (sn := sn) (sub := sub) (ab := ab) (col := col) (dd := dd) (k0 := k0) (k1 := k1) (k2 := k2) (k3 := k3) (k5 := k5) (newId := newId) hcE hh (wpAny_bind (wpAny_mono (wpAny_Call_ofName (wpAny_mono h (fun f s₁ h₁ => ?_) fun _ _ x => x)) (fun v s₃ h₃ => wpAny_bind (wpAny_standAt (wpAny_pure h₃))) fun _ _ x => x))))
  obtain ⟨rfl, h₁⟩ := h₁
  unfold callWith
  refine wpAny_bind (wpAny_holding (wpAny_mono h₁ (fun a s₂ h₂ => wpAny_bind (wpAny_standAt ?_)) fun _ _ x => x))
  obtain ⟨apos, akw⟩ := a
  obtain ⟨hkw, hlen, hC, hX, h₂⟩ := h₂
  obtain rfl : akw = [] := hkw
  obtain ⟨hp, g, d, tk, os⟩ := s₂
  simp only [hplain]
  refine wpAny_bind (wpAny_keeperOf_exc hC ?_)
  refine wpAny_bind (call_initC (hrest := hlen) F hcB hcA hcN hC hX hi hf fun h' e hm => wpAny_mono (h₂ h' e hm) (fun r s' hr => ?_) fun _ _ z => z)
  obtain ⟨rfl, hC', ⟨t, dx, he⟩, hE⟩ := hr
  exact ⟨rfl, wpAny_bind (wpAny_holding (wpAny_point (wpAny_pure ⟨e, t, dx, rfl, hC', he, hE⟩)))⟩
end
end Xk
set_option Elab.async false
set_option linter.all false
set_option maxRecDepth 100000
set_option maxHeartbeats 1000000
set_option autoImplicit false
namespace Xk
open PySem PySem.W
open Builtin Builtin.ObjectAttr
section
variable {prog : Program} {w : World} {A : Around} {E : Value → Shared → Prop} {h : Heap} {g : Array GenState} {d : Drawn} {t : Nat} {os : OsState} {K : Frag}
theorem keeps_wr {M : Model} {q : Addr} {oq : Obj} {vs : Array Value} (h : Heap) (hq : h.get? q = some oq) (hd : oq.data = .fields vs) (hc : oq.cls = .type "method-wrapper") : ∃ k, (k = Keeper.frame ∨ k = Keeper.machine ∨ k = Keeper.boundFrame) ∧ Looks M h (keeperOf (.ref q)) k := by
  refine ⟨.machine, .inr (.inl rfl), (Looks.ld (part := none) hq).andThen ?_⟩
  obtain ⟨c, dd, dt, sl⟩ := oq
  have hd : dt = .fields vs := hd
  have hc : c = .type "method-wrapper" := hc
  subst hd hc
  exact .now
theorem bound_ok {M : Model} {x C N : Addr} {ox : Obj} {nm q : Str} {bs bm : List Value} {hdct : Bool} {sn : List Str} {sub : List Value} {ab : Bool} {col : Option Bool} {dd : Option Addr} {k0 k1 k2 k3 k5 : Option Value} {newId : String} {v : Value} {Q : Unit → Shared → Prop}
    (hx : h.get? x = some ox) (hcls : ox.cls = .ref C) (hC : h.get? C = some (excClassObj nm q C N bs bm hdct sn sub ab col dd k0 k1 k2 k3 k5 newId)) (hq : Q () ⟨h, g, d, t, os⟩) : wpAny M A (checkBoundCall "ValueError.__init__" ⟨[.ref x, v], []⟩) Q E ⟨h, g, d, t, os⟩ := by
  have F := F.excBase_ValueError
  have hshort := F.noStar
  unfold checkBoundCall
  rw [F.initRow]
  dsimp only
  rw [F.initKind]
  dsimp only
  rw [if_pos (by decide)]
  unfold Bind.checkArgs
  repeat (first | (with_reducible refine wpAny_loadPart_at hx ?_; rw [hcls]) | with_reducible refine wpAny_loadPart_at hC ?_ | wp_step)
  exact hq
theorem call_wr {q x : Addr} {v : Value} {Q : Value → Shared → Prop} {ox : Obj} {t0 : Addr} {vs : Array Value} {C N : Addr} {nm qn : Str} {bs bm : List Value} {hdct : Bool} {sn : List Str} {sub : List Value} {ab : Bool} {col : Option Bool} {dd : Option Addr} {k0 k1 k2 k3 k5 : Option Value} {newId : String}
    (hcls : ox.cls = .ref C) (hC : h.get? C = some (excClassObj nm qn C N bs bm hdct sn sub ab col dd k0 k1 k2 k3 k5 newId)) (hq0 : h.get? q = some { cls := .type "method-wrapper", data := .fields #[.builtin "ValueError.__init__", .ref x] })
    (hx : h.get? x = some ox) (hd : ox.data = .fields vs) (h0 : vs[0]? = some (.ref t0))
    (hq : ∀ h', (∀ b o, b ≠ x → h.get? b = some o → h'.get? b = some o) → h'.get? x = some { ox with data := .fields (vs.setIfInBounds 0 (.ref h.objs.size)) } → Q .none ⟨h', g, d, t, os⟩) :
    wpAny (model prog w) A (call (.ref q) [v]) Q E ⟨h, g, d, t, os⟩ := by
  refine wpAny_call (codeAny_of_tree ?_)
  show wpAny _ _ (callAny (.ref q) _) _ _ _
  unfold callAny
  refine wpAny_bind (wpAny_load hq0 ?_)
  dsimp only
  rw [if_pos (by decide)]
  show wpAny _ _ (if (Value.type "method-wrapper" != Value.type "method") = true then _ else _) _ _ _
  rw [if_pos (by decide)]
  refine wpAny_bind (bound_ok hx hcls hC ?_)
  refine wpAny_pure ⟨Code.quiet_builtin _ (by decide +kernel), ?_⟩
  refine codeAny_builtin ve_entry ?_
  exact init_run hx hd h0 fun h' k e => hq h' k e
theorem osa_openX {ox : Obj} {od : Option Obj} {C D x : Addr} {cd : ClassData} {name : Str} {tk : Tok} {v : Value} {s : Shared} {R : Result → Shared → Prop} (X : K.In s.heap) (I : InstAt s.heap x ox C od) (hc : clsIn K C = some cd) (hm : cd.mro = [.ref C, .ref D, .type "ValueError", .type "Exception", .type "BaseException", .type "object"])
    (ho : mroIn K C (.type "object") = some true) (ht : takerIn K C name = some none)
    (h : ∀ b, wpAny (model prog w) A.in1 (storeInOwnDict (.ref x) (.ref C) (.str name tk) name v b)
      (fun fin s' => match fin with | .done f => R (.ok f) s' | .again c' => c'.quiet = true ∧ codeAny (model prog w) A c' R s') (fun e s' => R (.error e) s') s) :
    codeAny (model prog w) A (.call (.builtin "object.__setattr__") ⟨[.ref x, .str name tk, v], []⟩) R s := by
  have SF := PySem.F.store_object
  have sub : Looks (model prog w) s.heap (isInstance (.ref x) (.type "object")) true := I.type.andThen (looks_mroIn X ho)
  refine codeAny_call_builtin SF.slot.plain SF.entry (@check_slot (model prog w) _ _ s "object.__setattr__" "object" "__setattr__" (.ref x) [.str name tk, v] [] _ SF.kind SF.split sub (SF.args (.ref x) (.str name tk) v) ?_)
  obtain ⟨attr, ha, hr⟩ := Option.bind_eq_some_iff.mp ht
  have hm' : Looks (model prog w) s.heap (mroOf (.ref C)) cd.mro := (looks_clsIn X hc).andThen .now
  have L3 : Looks (model prog w) s.heap (storeTaker? attr) none := by
    cases attr with
    | none => exact .now
    | some a =>
      obtain ⟨b, hb, e⟩ := Option.map_eq_some_iff.mp hr
      refine (looks_takesIn X hb).andThen ?_
      cases b
      · exact .now
      · simp at e
  rw [osa_eq, refuse_eq]
  refine wpAny_bind (wpAny_bind (I.type.here (wpAny_bind (hm'.here ?_))))
  rw [hm, refuseLoop_ref, refuseLoop_ref, PySem.F.store_ValueError.passes]
  refine wpAny_pure (wpAny_bind (I.type.here (wpAny_bind ((looks_findIn X ha).here (wpAny_bind (L3.here ?_))))))
  exact h _
end
section
variable {prog : Program} {w : World} {A : Around} {E : Value → Shared → Prop} {K : Frag} {s : Shared} {C D x : Addr} {cd : ClassData} {name : Str} {v : Value} {t0 : Value}
abbrev exObj (C : Addr) (od : Option Addr) (t0 : Value) : Obj := { cls := .ref C, dict := od, data := .fields #[t0, .none, .none, .none, .bool false, .none] }
theorem set_first {Q : Unit → Shared → Prop} (X : K.In s.heap) (hx : s.heap.get? x = some (exObj C none t0)) (hc : clsIn K C = some cd) (hm : cd.mro = [.ref C, .ref D, .type "ValueError", .type "Exception", .type "BaseException", .type "object"]) (hh : cd.hasDict = true)
    (ho : mroIn K C (.type "object") = some true) (ht : takerIn K C name = some none) (hs : findIn K (.ref C) "__setattr__" = some (some (.builtin "object.__setattr__")))
    (h : ∀ h', h'.get? x = some (exObj C (some s.heap.objs.size) t0) → h'.Ns1 s.heap.objs.size (fun y => if y = name then some v else none) → (∀ b o, b ≠ x → s.heap.get? b = some o → h'.get? b = some o) → Q () { s with heap := h', toks := s.toks + 2 }) :
    wpAny (model prog w) A (setAttr (.ref x) name v) Q E s := by
  have J : InstAt s.heap x (exObj C none t0) C none := ⟨hx, rfl, rfl, True.intro⟩
  refine set_plain X J hs (osa_openX (s := { s with toks := s.toks + 1 }) X J hc hm ho ht fun b => ?_)
  refine wpAny_bind (wpAny_pure (wpAny_bind (wpAny_bind (wpAny_loadPart hx (wpAny_bind (PySem.W.Looks.here (s := { s with toks := s.toks + 1 }) (PySem.W.looks_clsIn X hc) ?_))))))
  rw [hh]
  have hxs : x ≠ s.heap.objs.size := Nat.ne_of_lt (Heap.lt_size hx)
  have hx1 : (s.heap.push { cls := .type "dict", data := .dict #[] }).get? x = some (exObj C none t0) := Heap.get?_push_of_some _ hx
  refine wpAny_bind (wpAny_alloc' ?_)
  refine wpAny_bind (wpAny_update' hx1 ?_)
  refine wpAny_pure ?_
  have hgd : ((s.heap.push { cls := .type "dict", data := .dict #[] }).update x fun o => { cls := o.cls, dict := some s.heap.objs.size, data := o.data, slots := o.slots }).get? s.heap.objs.size
      = some { cls := .type "dict", data := .dict #[] } := (Heap.get?_update_ne _ _ _ _ hxs.symm).trans (Heap.get?_push_at rfl rfl)
  have hnd : ((s.heap.push { cls := .type "dict", data := .dict #[] }).update x fun o => { cls := o.cls, dict := some s.heap.objs.size, data := o.data, slots := o.slots }).Ns s.heap.objs.size (fun _ => none) :=
    ⟨_, #[], _, hgd, rfl, fun e he => absurd he (by simp), fun _ => rfl⟩
  have hx2 : ((s.heap.push { cls := .type "dict", data := .dict #[] }).update x fun o => { cls := o.cls, dict := some s.heap.objs.size, data := o.data, slots := o.slots }).get? x = some (exObj C (some s.heap.objs.size) t0) := Heap.get?_update_self _ hx1 rfl
  refine wpAny_bind (wpAny_pure (wpAny_bind ?_))
  refine wpAny_nsSet1 (Heap.Ns1.of_empty hnd) fun h' hn' hs => ?_
  obtain ⟨oD, esD, epD, hoD, hdD, hcD⟩ := hn'.count (Within.cons name v Within.nil)
  refine wpAny_bind (wpAny_lookBehind hoD (by rw [hdD]; exact pastItsLine_dict (Nat.le_trans hcD (by rw [List.length_cons, List.length_nil, sizeLine_eq]; omega))) ?_)
  refine wpAny_pure (h h' ((hs.2 x hxs).trans hx2) hn' fun b o hb e => ?_)
  exact (hs.2 b (Nat.ne_of_lt (Heap.lt_size e))).trans ((Heap.get?_update_ne _ _ _ _ hb).trans (Heap.get?_push_of_some _ e))
theorem set_next {dx : Addr} {mA : Str → Option Value} {ns : List Str} {Q : Unit → Shared → Prop} (X : K.In s.heap) (hx : s.heap.get? x = some (exObj C (some dx) t0)) (hne : dx ≠ x) (hn : s.heap.Ns1 dx mA) (hw : Within mA ns) (hsz : ns.length < sizeLine) (hc : clsIn K C = some cd) (hm : cd.mro = [.ref C, .ref D, .type "ValueError", .type "Exception", .type "BaseException", .type "object"]) (hh : cd.hasDict = true)
    (ho : mroIn K C (.type "object") = some true) (ht : takerIn K C name = some none) (hs : findIn K (.ref C) "__setattr__" = some (some (.builtin "object.__setattr__")))
    (h : ∀ h', h'.get? x = some (exObj C (some dx) t0) → h'.Ns1 dx (fun y => if y = name then some v else mA y) → (∀ b o, b ≠ dx → s.heap.get? b = some o → h'.get? b = some o) → Q () { s with heap := h', toks := s.toks + 2 }) :
    wpAny (model prog w) A (setAttr (.ref x) name v) Q E s := by
  obtain ⟨od, hod, _⟩ := L2.lookIn_ns hn
  have J : InstAt s.heap x (exObj C (some dx) t0) C (some od) := ⟨hx, rfl, rfl, hod⟩
  refine set_plain X J hs (osa_openX (s := { s with toks := s.toks + 1 }) X J hc hm ho ht fun b => ?_)
  refine wpAny_bind (wpAny_pure (wpAny_bind (wpAny_bind (wpAny_loadPart hx (wpAny_bind (PySem.W.Looks.here (s := { s with toks := s.toks + 1 }) (PySem.W.looks_clsIn X hc) ?_))))))
  rw [hh]
  refine wpAny_pure (a := some dx) (wpAny_bind (wpAny_pure (wpAny_bind ?_)))
  refine wpAny_nsSet1 (s := { s with toks := s.toks + 1 }) hn fun h' hn2 hs2 => ?_
  obtain ⟨oD, esD, epD, hoD, hdD, hcD⟩ := hn2.count (Within.cons name v hw)
  refine wpAny_bind (wpAny_lookBehind hoD (by rw [hdD]; exact pastItsLine_dict (Nat.le_trans hcD (by rw [List.length_cons]; omega))) ?_)
  exact wpAny_pure (h _ ((hs2.2 _ (Ne.symm hne)).trans hx) hn2 fun b o hb e => (hs2.2 b hb).trans e)
end
end Xk
set_option Elab.async false
set_option linter.all false
set_option maxRecDepth 100000
set_option maxHeartbeats 1000000
set_option autoImplicit false
namespace Kx
open PySem PySem.Spec L2 PyProof.Rows PySem.W Xk
def excN (a C : Addr) (od : Option Addr) : HO := .ext fun h => ∃ t : Addr, h.get? a = some (exObj C od (.ref t))
def del (H : Hp) (e : Addr) : Hp := fun b => if b = e then none else H b
theorem del_ne {H : Hp} {e b : Addr} (h : b ≠ e) : del H e b = H b := if_neg h
theorem del_same {H : Hp} {e : Addr} : del H e e = none := if_pos rfl
theorem excN_ok {P : Program} {w : World} {H : Hp} {h : Heap} {a C t : Addr} {od : Option Addr} (e : h.get? a = some (exObj C od (.ref t))) : ObjOk P w H h a (excN a C od) :=
  ⟨⟨t, e⟩, ⟨_, e⟩, fun _ _ ⟨t', e'⟩ k => ⟨t', k _ e'⟩⟩
theorem excN_get {P : Program} {w : World} {H : Hp} {h : Heap} {a C : Addr} {od : Option Addr} (hok : HOk P w H h) (e : H a = some (excN a C od)) : ∃ t : Addr, h.get? a = some (exObj C od (.ref t)) := (hok a _ e).1
section
variable {P : Program} {w : World} {K : PySem.W.Frag} {mg : Str → Option Value} {base : Heap} {N : List Str} {qual : Str} {scope : Scope} {f : Addr} {cdv : Value} {A : Around} {outer : List Env} {s : Shared} {H : Hp} {E : XK}
theorem raise_outI {pins : List (Addr × Obj)} {σ : L2.St} {H2 : Hp} {s2 : Shared} {e C : Addr} {od : Option Addr} (I : Inv (cxOf (CXE P w) P w K mg base N qual scope f cdv A outer s H E) pins σ H2 s2)
    (he2 : H2 e = some (excN e C od)) (hne : s.heap.get? e = none) (q : E (.ref C) od (del H2 e)) : (cxOf (CXE P w) P w K mg base N qual scope f cdv A outer s H E).xe (.ref e) s2 := by
  let env := envOfC qual scope s.heap.objs.size f cdv
  have hl : s2.heap.FunFrames base (env :: outer) := I.stack
  obtain ⟨t, he⟩ := excN_get I.hok he2
  have hin : ∀ v ∈ (env :: outer), ∀ b, v.frame = some b → b ∈ e :: (env :: outer).filterMap (·.frame) := fun v hv b hb => List.mem_cons_of_mem _ (List.mem_filterMap.mpr ⟨v, hv, hb⟩)
  let B := hideAll s2.heap (e :: (env :: outer).filterMap (·.frame))
  have gB : ∀ b o, s2.heap.get? b = some o → b ≠ e → b ∉ (env :: outer).filterMap (·.frame) → B.get? b = some o := fun b o q n1 n2 => hideAll_get _ q fun z => (List.mem_cons.mp z).elim n1 n2
  have ofB : ∀ b o, B.get? b = some o → s2.heap.get? b = some o := fun b o q => of_hideAll _ q
  have hen : B.get? e = none := hideAll_none _ (List.mem_cons_self ..)
  have h0 : (exObj C od (.ref t)).data = .fields #[.ref t, .none, .none, .none, .bool false, .none] := rfl
  show wpAny (model P w) (A.deeper env) (leaving env (.ref e)) _ _ _
  refine wpAny_mono (Xk.wpAny_keepD (Xk.dok_leaving env (.ref e)) (wpAny_leaving_firstW (Q := fun _ s3 => ∃ h3, s3 = { s2 with heap := h3 } ∧ Heap.FlyingW B outer e (.ref C) (.ref t) h3 ∧ s2.heap.UpToSlots h3) (E := fun _ _ => False) (base := B) (L := s.heap.objs.size) (a0 := .ref t) I.ok.frames (funFrames_hide hl hin) rfl he ofB hen h0 rfl rfl fun h3 hL => ?_)) (fun _ s3 hq => ?_) fun _ _ z => z.1.elim
  · obtain ⟨k1, ⟨_, _, k2⟩, k3, k4⟩ := hL
    exact ⟨h3, rfl, ⟨k1, hen, k2, k3⟩, k4⟩
  obtain ⟨⟨h3, rfl, x1, x4⟩, kd⟩ := hq
  have hdct : ∃ o, h3.get? e = some o ∧ o.dict = od := by
    obtain ⟨o', e1, e2⟩ := kd e _ he
    exact ⟨o', e1, e2⟩
  have neL : ∀ b o, s.heap.get? b = some o → b ≠ s.heap.objs.size := fun b o q => Nat.ne_of_lt (Heap.lt_size q)
  have neE : ∀ b o, s.heap.get? b = some o → b ≠ e := fun b o q z => by rw [z, hne] at q; cases q
  have memE : ∀ b, b ∈ (env :: outer).filterMap (·.frame) → b = s.heap.objs.size ∨ b ∈ frs outer := fun b hb => by
    have z : b ∈ s.heap.objs.size :: outer.filterMap (·.frame) := hb
    exact List.mem_cons.mp z
  have trk : ∀ b o, H2 b = some o → b ∉ (env :: outer).filterMap (·.frame) := fun b o q hb => by
    have z : H2 b = none := I.stkFree b hb
    rw [z] at q
    cases q
  have neK : ∀ b o, H2 b = some o → (∀ φ, o ≠ .ext φ) → b ≠ e := fun b o q n z => by
    rw [z, he2] at q
    cases q
    exact n _ rfl
  have u1 : Un (frs outer) [] H H2 s.heap s2.heap := I.base
  refine ⟨e, C, (t, od), B, del H2 e, rfl, q, del_same, ⟨I.os, I.bare, ?_, x1, hdct, ?_, ?_, ?_⟩⟩
  · intro b o q1
    have nb : b ≠ e := fun z => by rw [z, del_same] at q1; cases q1
    rw [del_ne nb] at q1
    refine (I.hok b o q1).stay (fun c u hc z => ?_) (fun c y => ?_) fun c xs y => ?_
    · rcases hc with y | y
      · exact gB c u z (y ▸ nb) (trk c o (y ▸ q1))
      · exact gB c u z (neK c _ y fun _ z => by cases z) (trk c _ y)
    · rw [del_ne (neK c _ y fun _ z => by cases z)]; exact y
    · rw [del_ne (neK c _ y fun _ z => by cases z)]; exact y
  · refine ⟨fun b o q n hb _ => ?_, fun b o q n hb hx' => ?_, fun b o q n hx' => ?_, fun b o q _ => ?_, fun b xs q => ?_, fun b o xs q => ?_, fun b ps q => ?_⟩
    · exact x1.1 b o (gB b o (u1.keep b o q n hb (by simp)) (neE b o q) fun z => (memE b z).elim (neL b o q) hb)
    · obtain ⟨sl, e2⟩ := u1.slot b o q n hb hx'
      obtain ⟨_, o2, e3, d3⟩ := hl.mem (b := b) (List.mem_cons_of_mem _ hb)
      rw [e2] at e3
      obtain ⟨sl', e4⟩ := x4 b _ e2 (by cases e3; exact d3)
      exact ⟨sl', e4⟩
    · rw [del_ne (neE b o q)]; exact u1.free b o q n hx'
    · obtain ⟨o', e2⟩ := u1.there b o q (by simp)
      by_cases hb : b ∈ frs outer
      · obtain ⟨_, o2, e3, d3⟩ := hl.mem (b := b) (List.mem_cons_of_mem _ hb)
        obtain ⟨sl', e4⟩ := x4 b _ e3 d3
        exact ⟨_, e4⟩
      · exact ⟨o', x1.1 b o' (gB b o' e2 (neE b o q) fun z => (memE b z).elim (neL b o q) hb)⟩
    · have z := u1.tups b xs q
      rw [del_ne (neK b _ z fun _ z => by cases z)]; exact z
    · have z := u1.frzs b o xs q
      rw [del_ne (neK b _ z fun _ z => by cases z)]; exact z
    · obtain ⟨m, z⟩ := u1.tbls b ps q
      exact ⟨m, by rw [del_ne (neK b _ z fun _ z => by cases z)]; exact z⟩
  · exact fun b o q n hb => gB b o (u1.keep b o q n hb (by simp)) (neE b o q) fun z => (memE b z).elim (neL b o q) hb
  · exact fun b o q hb => by
      obtain ⟨o', e2⟩ := u1.there b o q (by simp)
      exact ⟨o', gB b o' e2 (neE b o q) fun z => (memE b z).elim (neL b o q) hb⟩
end
abbrev bmV : List Value := [.type "ValueError", .type "Exception", .type "BaseException", .type "object"]
structure ExcKI (K : PySem.W.Frag) (x : Str) (C D fI : Addr) : Prop where
  ns : nsIn K mainGlobals x = some (some (.ref C))
  obj : ∃ nm q N bs sn sub ab col dd k0 k1 k2 k3 k5, K.lookup C = some (excClassObj nm q C N bs (.ref D :: bmV) true sn sub ab col dd k0 k1 k2 k3 k5 "ValueError.__new__")
  ini : findIn K (.ref C) "__init__" = some (some (.ref fI))
  ty : typeIn K (.ref fI) = some (.type "function")
def tRaiseI (E : XK) (C : Addr) (sp : Sp) (t : TA) : TS := fun _ σ H => t σ H fun vs H1 => vs.length ≤ 1000 ∧ ∀ a, H1 a = none → sp (.ref a :: vs) (upd H1 a (excN a C none)) (fun v H2 => v = .non ∧ ∃ od, H2 a = some (excN a C od) ∧ E (.ref C) od (del H2 a)) E0
section
variable {P : Program} {w : World} {K : PySem.W.Frag} {mg : Str → Option Value} {base : Heap} {N : List Str} {qual : Str} {scope : Scope} {f : Addr} {cdv : Value} {A : Around} {outer : List Env} {s : Shared} {H : Hp} {E : XK}
theorem Inv.laidX {X : Cx} {pins : List (Addr × Obj)} {σ : L2.St} {H : Hp} {s : Shared} {h' : Heap} {a : Addr} {o : HO} (I : Inv X pins σ H s) (k : ∀ b u, s.heap.get? b = some u → h'.get? b = some u) (hn : s.heap.get? a = none) (new : ObjOk X.prog X.w (upd H a o) h' a o) :
    Inv X pins σ (upd H a o) { s with heap := h' } := by
  have ha : H a = none := by
    cases z : H a with
    | none => rfl
    | some u =>
      obtain ⟨ob, e⟩ := obj_there (I.hok a u z)
      rw [hn] at e
      cases e
  refine I.call' (ch := []) rfl ⟨fun b ob e _ _ _ => k b ob e, fun b ob e _ _ _ => ⟨ob.slots, k b ob e⟩, fun b ob e n _ => ?_, fun b ob e _ => ⟨ob, k b ob e⟩, fun b xs e => same_new ha _ _ _ e, fun b ob xs e => same_new ha _ _ _ e, fun b ps e => ⟨#[], by rw [same_new ha _ _ _ e]; simp⟩⟩ (fun b ob e => ?_) I.bare (fun b z => nomatch z)
  · rw [upd_ne (fun z => by rw [z, hn] at e; cases e)]; exact n
  · by_cases hb : b = a
    · subst hb
      rw [upd_same] at e
      cases e
      exact new
    · rw [upd_ne hb] at e
      exact (I.hok b ob e).stay (fun c u _ z => k c u z) (fun c z => same_new ha _ _ _ z) fun c xs z => same_new ha _ _ _ z
theorem ps_raiseI {j : Nat} {x : Str} {C D fI : Addr} {fd : FuncData} {ps : List Str} {sp : Sp} {e : Expr} {es : List Expr} {np cpos pos : Pos} {t : TA} (T : ExcKI K x C D fI) (F : FnOk P w K mg base (CXE P w) j fI fd ps sp) (hb : Binds K fd ps []) (hr : Room (j + 1) (A.deeper (envOfC qual scope s.heap.objs.size f cdv)))
    (hG : Gl (cxOf (CXE P w) P w K mg base N qual scope f cdv A outer s H E) x) (hm : mg x = some (.ref C))
    (ha : PA (cxOf (CXE P w) P w K mg base N qual scope f cdv A outer s H E) (e :: es) t) (hkind : scope.kind = .function) (hs : (e :: es).any isStar = false) (hd : (x == ("__debug__" : Str)) = false) :
    PS (cxOf (CXE P w) P w K mg base N qual scope f cdv A outer s H E) (.Raise (some (.Call (.Name x np) (e :: es) [] cpos)) none pos) (tRaiseI E C sp t) := by
  intro pins s1 σ H1 D1 I h
  obtain ⟨nm, q, Nn, bs, sn, sub, ab, col, dd, k0, k1, k2, k3, k5, lk⟩ := T.obj
  have h2 : isStar e = false ∧ es.any isStar = false := by simpa using hs
  have cD : ∀ (T : String) (b : Bool), bmV.contains (.type T) = b → (Value.ref C :: .ref D :: bmV).contains (.type T) = b := fun T b z => by
    rw [List.contains_cons, List.contains_cons, z]
    rfl
  refine Raise_initC (C := C) (fI := fI) (K := K) (nm := nm) (q := q) (N := Nn) (bs := bs) (bm := .ref D :: bmV) (hdct := true) (sn := sn) (sub := sub) (ab := ab) (col := col) (dd := dd) (k0 := k0) (k1 := k1) (k2 := k2) (k3 := k3) (k5 := k5)
    PySem.F.excBase_ValueError (cD "ValueError" true (by decide +kernel)) (cD "AttributeError" false (by decide +kernel)) (cD "NameError" false (by decide +kernel)) (cD "BaseException" true (by decide +kernel)) (I.ok.hd rfl) (star_any hs) T.ini T.ty (ld_glob I hG hm ⟨rfl, ?_⟩ hd)
  have hsp := ha cpos pins s1 σ H1 _ I h
  rw [star_cons h2.1] at hsp ⊢
  refine Calls.evalArgs_plain (wpAny_mono hsp (fun us s2 hq => ?_) fun _ _ y => y)
  obtain ⟨vs, H2, I2, r, z, hsp2⟩ := hq
  refine ⟨rfl, ?_, I2.kIn _ _ lk, I2.kIn, fun h' a hmade => ?_⟩
  · show us.length ≤ sizeLine
    rw [← r.length]
    exact Nat.le_of_lt (small1000 z)
  obtain ⟨t0, hg0, _, _⟩ := hmade.there
  have I3 : Inv (cxOf (CXE P w) P w K mg base N qual scope f cdv A outer s H E) pins σ (upd H2 a (excN a C none)) { s2 with heap := h' } := Inv.laidX I2 hmade.keeps hmade.new (excN_ok hg0)
  have ha2 : H2 a = none := by
    cases z : H2 a with
    | none => rfl
    | some u =>
      obtain ⟨ob, e⟩ := obj_there (I2.hok a u z)
      rw [hmade.new] at e
      cases e
  have hsnew : s.heap.get? a = none := by
    cases z : s.heap.get? a with
    | none => rfl
    | some o =>
      obtain ⟨o', e⟩ := I2.base.there a o z (by intro z; cases z)
      rw [hmade.new] at e
      cases e
  have sp3 := hsp2 a ha2
  have r2 : Vals (V.ref a :: vs) (.ref a :: us) := .cons rfl r
  have hl : (.ref a :: us).length = ps.length := by rw [← r2.length]; exact F.len _ _ _ _ sp3
  have bb := hb { s2 with heap := h' } (.ref a :: us) I3.kIn (by simpa using hl)
  rw [List.append_nil] at bb
  refine wpAny_call (codeAny_mono (F.run _ _ { s2 with heap := h' } (upd H2 a (excN a C none)) ⟨.ref a :: us, []⟩ (.ref a :: us) (V.ref a :: vs) _ _ (hr.make C us []) (I3.env0.make C us []) bb r2 sp3) fun res s' hres => ?_)
  cases res with
  | error e1 =>
    obtain ⟨_, _, _, _, _, _, y, _⟩ := hres
    exact y.elim
  | ok fl =>
    cases fl with
    | next => exact False.elim hres
    | brk => exact False.elim hres
    | cont => exact False.elim hres
    | ret u =>
      obtain ⟨v, H3, I4, rv, rfl, od, hod, hE⟩ := I3.after hres
      refine ⟨rv, I4.kIn _ _ lk, ?_, raise_outI I4 hod hsnew hE⟩
      obtain ⟨t3, e3⟩ := excN_get I4.hok hod
      exact ⟨t3, od, e3⟩
end
end Kx
set_option Elab.async false
set_option linter.all false
set_option maxRecDepth 100000
set_option maxHeartbeats 1000000
set_option autoImplicit false
namespace Kx
open PySem PySem.Spec L2 PyProof.Rows PySem.W Xk
theorem ExcKI.cls {K : PySem.W.Frag} {x : Str} {C D fI : Addr} (T : ExcKI K x C D fI) : ∃ cd, clsIn K C = some cd ∧ cd.mro = [.ref C, .ref D, .type "ValueError", .type "Exception", .type "BaseException", .type "object"] ∧ cd.hasDict = true := by
  obtain ⟨nm, q, Nn, bs, sn, sub, ab, col, dd, k0, k1, k2, k3, k5, lk⟩ := T.obj
  unfold clsIn
  rw [lk]
  exact ⟨_, rfl, rfl, rfl⟩
section
variable {X : Cx} {pins : List (Addr × Obj)} {σ : L2.St} {H : Hp} {s : Shared} {a dx C : Addr} {h' : Heap}
theorem inv_turnX {od od' : Option Addr} {t t' : Nat} (I : Inv X pins σ H s) (hH : H a = some (excN a C od)) (k : ∀ b o, b ≠ a → s.heap.get? b = some o → h'.get? b = some o) (ha : ∃ t : Addr, h'.get? a = some (exObj C od' (.ref t))) :
    Inv X pins σ (upd H a (excN a C od')) { s with heap := h', toks := t' } := by
  obtain ⟨t, e⟩ := ha
  exact I.write (x := a) (e := a) (by rw [hH]; exact True.intro) (.inl rfl) (fun b u q z => k b u q z) ⟨_, e⟩ (excN_ok e)
theorem inv_turn0 {od : Option Addr} {t' : Nat} (I : Inv X pins σ H s) (hH : H a = some (excN a C od)) (k : ∀ b o, b ≠ a → s.heap.get? b = some o → h'.get? b = some o) (ha : ∃ t : Addr, h'.get? a = some (exObj C od (.ref t))) :
    Inv X pins σ H { s with heap := h', toks := t' } := by
  have z := inv_turnX (od := od) (od' := od) (t := 0) (t' := t') I hH k ha
  have e : upd H a (excN a C od) = H := by
    funext b
    by_cases hb : b = a
    · subst hb; rw [upd_same, hH]
    · rw [upd_ne hb]
  rw [e] at z
  exact z
theorem inv_setX1 {t : Addr} {t' : Nat} {o : HO} (I : Inv X pins σ H s) (hH : H a = some (excN a C none)) (hdx : s.heap.get? dx = none) (k : ∀ b o, b ≠ a → s.heap.get? b = some o → h'.get? b = some o) (ha : h'.get? a = some (exObj C (some dx) (.ref t)))
    (new : ∀ H', ObjOk X.prog X.w H' h' dx o) : Inv X pins σ (upd (upd H dx o) a (excN a C (some dx))) { s with heap := h', toks := t' } := by
  have nd : H dx = none := by
    cases z : H dx with
    | none => rfl
    | some u =>
      obtain ⟨ob, e⟩ := obj_there (I.hok dx u z)
      rw [hdx] at e
      cases e
  have ne : dx ≠ a := fun z => by rw [z, hH] at nd; cases nd
  have nD : ∀ b ob, s.heap.get? b = some ob → b ≠ dx := fun b ob e z => by rw [z, hdx] at e; cases e
  have nA : ∀ b, H b = none → b ≠ a := fun b n z => by rw [z, hH] at n; cases n
  have nK : ∀ b u, H b = some u → (∀ φ, u ≠ .ext φ) → b ≠ a := fun b u q n z => by
    rw [z, hH] at q
    cases q
    exact n _ rfl
  refine I.call' (s' := { s with heap := h', toks := t' }) (ch := []) rfl ⟨fun b ob e n _ _ => k b ob (nA b n) e, fun b ob e n _ _ => ⟨ob.slots, k b ob (nA b n) e⟩, fun b ob e n _ => ?_, fun b ob e _ => ?_, fun b xs e => ?_, fun b ob xs e => ?_, fun b ps e => ⟨#[], ?_⟩⟩ (fun b u e => ?_) I.bare (fun b z => nomatch z)
  · rw [upd_ne (nA b n), upd_ne (nD b ob e)]; exact n
  · by_cases hb : b = a
    · subst hb; exact ⟨_, ha⟩
    · exact ⟨ob, k b ob hb e⟩
  · rw [upd_ne (nK b _ e fun _ z => by cases z)]; exact same_new nd _ _ _ e
  · rw [upd_ne (nK b _ e fun _ z => by cases z)]; exact same_new nd _ _ _ e
  · rw [upd_ne (nK b _ e fun _ z => by cases z), same_new nd _ _ _ e]; simp
  · by_cases hb : b = a
    · subst hb
      rw [upd_same] at e
      cases e
      exact excN_ok ha
    · rw [upd_ne hb] at e
      by_cases hd : b = dx
      · subst hd
        rw [upd_same] at e
        cases e
        exact new _
      · rw [upd_ne hd] at e
        refine (I.hok b u e).stay (fun c v hc z => k c v ?_ z) (fun c z => ?_) fun c xs z => ?_
        · rcases hc with y | y
          · rw [y]; exact hb
          · exact nK c _ y fun _ z => by cases z
        · rw [upd_ne (nK c _ z fun _ z => by cases z)]; exact same_new nd _ _ _ z
        · rw [upd_ne (nK c _ z fun _ z => by cases z)]; exact same_new nd _ _ _ z
theorem inv_writeX {t' : Nat} {fs fs' : List (Str × V)} (I : Inv X pins σ H s) (hH : H dx = some (.xd fs)) (k : ∀ b o, b ≠ dx → s.heap.get? b = some o → h'.get? b = some o) (new : ∀ H', ObjOk X.prog X.w H' h' dx (.xd fs')) :
    Inv X pins σ (upd H dx (.xd fs')) { s with heap := h', toks := t' } := by
  have nA : ∀ b, H b = none → b ≠ dx := fun b n z => by rw [z, hH] at n; cases n
  have nK : ∀ b u, H b = some u → (∀ f, u ≠ .xd f) → b ≠ dx := fun b u q n z => by
    rw [z, hH] at q
    cases q
    exact n _ rfl
  refine I.call' (s' := { s with heap := h', toks := t' }) (ch := []) rfl ⟨fun b ob e n _ _ => k b ob (nA b n) e, fun b ob e n _ _ => ⟨ob.slots, k b ob (nA b n) e⟩, fun b ob e n _ => ?_, fun b ob e _ => ?_, fun b xs e => ?_, fun b ob xs e => ?_, fun b ps e => ⟨#[], ?_⟩⟩ (fun b u e => ?_) I.bare (fun b z => nomatch z)
  · rw [upd_ne (nA b n)]; exact n
  · by_cases hb : b = dx
    · subst hb; exact obj_there (new H)
    · exact ⟨ob, k b ob hb e⟩
  · rw [upd_ne (nK b _ e fun _ z => by cases z)]; exact e
  · rw [upd_ne (nK b _ e fun _ z => by cases z)]; exact e
  · rw [upd_ne (nK b _ e fun _ z => by cases z), e]; simp
  · by_cases hd : b = dx
    · subst hd
      rw [upd_same] at e
      cases e
      exact new _
    · rw [upd_ne hd] at e
      refine (I.hok b u e).stay (fun c v hc z => k c v ?_ z) (fun c z => ?_) fun c xs z => ?_
      · rcases hc with y | y
        · rw [y]; exact hd
        · exact nK c _ y fun _ z => by cases z
      · rw [upd_ne (nK c _ z fun _ z => by cases z)]; exact z
      · rw [upd_ne (nK c _ z fun _ z => by cases z)]; exact z
end
structure SupX (X : Cx) (C D : Addr) : Prop where
  fn : ∃ f fd oc od osl ar, X.env.func = some f ∧ X.K.lookup f = some ⟨oc, od, .func fd, osl⟩ ∧ (fd.params.posonlyargs ++ fd.params.args).head? = some ar ∧ X.N[0]? = some ar.arg ∧ X.env.scope.names.lookup ar.arg = some .local
  code : ∃ cda ccl cdd vs ccs file tf, X.env.code = .ref cda ∧ X.K.lookup cda = some ⟨ccl, cdd, .fields vs, ccs⟩ ∧ vs[2]? = some (.str file tf) ∧ ((X.prog.main.file : Str) == file) = true
  cell : ∃ cc cl cld csl, X.env.cells.lookup ("__class__" : Str) = some cc ∧ X.K.lookup cc = some ⟨cl, cld, .cell (some (.ref C)), csl⟩
  obj : ∃ nm q N bs sn sub ab col dd k0 k1 k2 k3 k5, X.K.lookup C = some (excClassObj nm q C N bs (.ref D :: bmV) true sn sub ab col dd k0 k1 k2 k3 k5 "ValueError.__new__")
  sub : PySem.W.mroIn X.K C (.ref C) = some true
  vb : PySem.W.mroIn X.K C (.type "ValueError") = some true
  glob : X.mg "super" = none
  ks : X.env.scope.names.lookup ("super" : Str) = some .globalImplicit
  kc : X.env.scope.names.lookup ("__class__" : Str) = some .free
  top : (X.prog.main.scope.names.lookup ("super" : Str)).isSome = false
  opq : PySem.W.nsIn X.K cStatics "thirdparty.any" = some none
  find : PySem.W.ks_superIn X.K C C "__init__" = some (some (.builtin "ValueError.__init__"))
def tSupX (C : Addr) (ta : TA) : TE := fun σ H Q => ∃ a, σ[0]? = some (some (V.ref a)) ∧ H a = some (excN a C none) ∧ ta σ H fun vs H1 => vs.length = 1 ∧ H1 a = some (excN a C none) ∧ Q .non H1
section
variable {X : Cx} {C D : Addr} {body : List Stmt} {e : Expr} {p0 p1 apos pos : Pos} {ta : TA}
abbrev wrObj (a : Addr) : Obj := { cls := .type "method-wrapper", data := .fields #[.builtin "ValueError.__init__", .ref a] }
theorem supX_base {pins : List (Addr × Obj)} {σ : L2.St} {H : Hp} {s : Shared} {a : Addr} {m : Str} {whole : Sem Value} {Q : Value → Shared → Prop} {E : Value → Shared → Prop} (S : SupX X C D) (hat : (m == ("__class__" : Str)) = false) (I : Inv X pins σ H s) (h0 : σ[0]? = some (some (.ref a))) (ha : H a = some (excN a C none))
    (h : ∀ h', h'.get? s.heap.objs.size = some { cls := .type "super", dict := none, data := .fields #[.ref C, .ref a, .ref C], slots := #[] } → (∀ y o, s.heap.get? y = some o → h'.get? y = some o) → Q (.ref s.heap.objs.size) { s with heap := h' }) :
    PySem.wpAt (model X.prog X.w) X.A (.func body X.env) (attributeBase (.Call (.Name "super" p0) [] [] p1) m X.env whole) Q E s := by
  obtain ⟨f, fd, oc, od, osl, ar, e1, e2, e3, e4, e5⟩ := S.fn
  obtain ⟨cda, ccl, cdd, vs, ccs, file, tf, g1, g2, g3, g4⟩ := S.code
  obtain ⟨cc, cl, cld, csl, c1, c2⟩ := S.cell
  obtain ⟨nm, q, Nn, bs, sn, sub, ab, col, dd, k0, k1, k2, k3, k5, lk⟩ := S.obj
  have KX := I.kIn
  obtain ⟨t0, hx⟩ := excN_get I.hok ha
  obtain ⟨mb, b1, b2⟩ := I.mod.blt
  obtain ⟨ml, n1, n2⟩ := I.loc
  obtain ⟨u, ru, lo⟩ := n2 0 ar.arg (.ref a) e4 h0 (.inl e5)
  obtain rfl : u = Value.ref a := ru
  have hm : ml ar.arg = some (.ref a) := by
    rcases lo with ⟨_, q⟩ | ⟨q, _⟩
    · exact q
    · have q : X.env.scope.names.lookup ar.arg = some .cell ∨ X.env.scope.names.lookup ar.arg = some .free := q
      rw [e5] at q
      rcases q with q | q <;> cases q
  refine ks_wpAt_super_base (env := X.env) S.ks S.kc hat e1 (KX _ _ e2) rfl e3 g1 (KX _ _ g2) rfl g3 g4 S.top ?_
  refine PySem.W.ks_loadName_global I.ok.kind S.ks (Calls.loadGlobal_builtin (by rw [I.ok.glob]; exact I.mod.glob.keeps I.bk) S.glob (by rw [I.ok.blt]; exact b1.keeps I.bk) ((b2 _ (by decide)).trans boot_super) ⟨rfl, ?_⟩)
  refine wpAny_loadName_free I.ok.kind S.kc c1 ⟨_, KX _ _ c2, rfl⟩ ?_
  refine wpAny_loadName_local I.ok.kind e5 n1 hm ?_
  refine ks_wpAny_isType_cls (KX _ _ lk) rfl ⟨rfl, ?_⟩
  obtain ⟨hh, g, d, t, os⟩ := s
  exact ks_wpAny_call_super (KX _ _ lk) rfl hx rfl (fun c e => by cases e) (PySem.W.looks_mroIn KX S.sub) (fun h' e k => h h' e k)
theorem pe_supX {pl : Sem Bool} (S : SupX X C D) (hA : PA X [e] ta)
    (hst : starEach [e] X.env = (false, eval e X.env) :: starEach [] X.env := by rfl)
    (ht : eval (.Call (.Attribute (.Call (.Name "super" p0) [] [] p1) "__init__" apos) [e] [] pos) X.env = (do
      let ov ← attributeBase (.Call (.Name "super" p0) [] [] p1) "__init__" X.env (eval (.Call (.Name "super" p0) [] [] p1) X.env)
      standAt apos.atName
      let (f, first) ← holding [ov] (getMethod ov "__init__" pl)
      callWith pos f first (backTo pos (starEach [e] X.env)) []) := by rfl) :
    PEAt X body (.Call (.Attribute (.Call (.Name "super" p0) [] [] p1) "__init__" apos) [e] [] pos) (tSupX C ta) := by
  intro pins s σ H Q I h
  obtain ⟨a, h0, ha, h⟩ := h
  obtain ⟨nm, q, Nn, bs, sn, sub, ab, col, dd, k0, k1, k2, k3, k5, lk⟩ := S.obj
  have hcls : ∃ cd, clsIn X.K C = some cd ∧ cd.mro = .ref C :: .ref D :: bmV := by
    unfold clsIn
    rw [lk]
    exact ⟨_, rfl, rfl⟩
  obtain ⟨cd, hcd, hmro⟩ := hcls
  refine ks_wpAt_MethodCall (pl := pl) (supX_base S (by decide) I h0 ha fun h' e1 k1 => ?_) ht
  have I1 : Inv X pins σ H { s with heap := h' } := I.kept (t' := s.toks) k1
  obtain ⟨t0, hx⟩ := excN_get I1.hok ha
  have hne : a ≠ C := by
    rintro rfl
    have e := I1.kIn _ _ lk
    rw [hx] at e
    cases e
  have hf := S.find
  unfold ks_superIn at hf
  rw [hcd] at hf
  have hf : alongIn X.K "__init__" ((cd.mro.dropWhile (· != .ref C)).drop 1) = some (some (.builtin "ValueError.__init__")) := hf
  refine getMethod_super_b (g := s.gens) (d := s.drawn) (t := s.toks) (os := s.os) e1 (PySem.W.looks_opaque I1.kIn S.opq) (l₀ := cd.mro) (l := (cd.mro.dropWhile (· != .ref C)).drop 1) ?_ rfl I1.kIn hf hx rfl hne S.vb ?_
  · exact fun A Q E s k q => wpAny_bind ((PySem.W.looks_clsIn I1.kIn hcd) A _ E s k (wpAny_pure q))
  have k2 : ∀ b u, h'.get? b = some u → (h'.push (wrObj a)).get? b = some u := fun b u e => Heap.get?_push_of_some _ e
  have I2 := I1.kept (t' := s.toks + 1) k2
  have hq : (h'.push (wrObj a)).get? h'.objs.size = some (wrObj a) := Heap.get?_push_at rfl rfl
  obtain ⟨f0, f1, f2', f3⟩ := I1.fpOk (Nat.le_refl _) (I1.hok.fresh (Nat.le_refl _))
  have I3 : Inv X (pins ++ [(h'.objs.size, wrObj a)]) σ H { s with heap := h'.push (wrObj a), toks := s.toks + 1 } := I2.pins_of fun p hp => by
    rcases List.mem_append.mp hp with z | z
    · exact I2.pin p (List.mem_append_right _ z)
    · cases List.mem_singleton.mp z
      exact ⟨hq, f0, f1, f2', fun v z => by cases z⟩
  show wpAny _ _ (callWith pos (.ref h'.objs.size) [] (backTo pos (starEach [e] X.env)) []) _ _ _
  have hA2 := thn (hA pos _ _ σ H _ I3 h) fun us s2 ⟨vs, H2, I4, r, q2⟩ => (show s2.heap.get? h'.objs.size = some (wrObj a) ∧ wpAny (model X.prog X.w) X.A (call (.ref h'.objs.size) ([] ++ us)) (EP X pins σ Q) X.xe s2 from by
    have hw := (I4.pin _ (List.mem_append_right _ (List.mem_append_right _ (.head _)))).1
    obtain ⟨hl, hHa, hQ⟩ := q2
    have hlu : us.length = 1 := by rw [← r.length]; exact hl
    obtain ⟨u, rfl⟩ := List.length_eq_one_iff.mp hlu
    obtain ⟨t2, hx2⟩ := excN_get I4.hok hHa
    refine ⟨hw, ?_⟩
    obtain ⟨hp, g, d, tk, os⟩ := s2
    refine call_wr (ox := exObj C none (.ref t2)) rfl (I4.kIn _ _ lk) hw hx2 rfl rfl fun h'' k e => ⟨.non, H2, ?_, rfl, hQ⟩
    exact inv_turn0 (s := ⟨hp, g, d, tk, os⟩) (t' := tk) I4.unpinned hHa k ⟨_, e⟩)
  rw [hst] at hA2 ⊢
  exact PySem.W.callWith_of (P := fun hp => hp.get? h'.objs.size = some (wrObj a)) rfl (fun hp z => keeps_wr hp z rfl rfl) (PySem.Calls.evalArgs_plain hA2)
end
def tSetX (C : Addr) (tv : TE) (f : Str) : TS := fun D σ H => tv σ H fun y H1 => ∃ a, σ[0]? = some (some (.ref a)) ∧ ((H1 a = some (excN a C none) ∧ ∀ dx, H1 dx = none → dx ≠ a → D.nx σ (upd (upd H1 dx (.xd [(f, y)])) a (excN a C (some dx)))) ∨
  ∃ dx fs, H1 a = some (excN a C (some dx)) ∧ H1 dx = some (.xd fs) ∧ dx ≠ a ∧ fs.length < 1000 ∧ D.nx σ (upd H1 dx (.xd (putF f y fs))))
theorem xd_within {fs : List (Str × V)} {mA : Str → Option Value} (r : ∀ f, RelO (fs.lookup f) (mA f)) : PySem.Within mA (fs.map (·.1)) := fun y hy => by
  cases z : fs.lookup y with
  | none =>
    have q := r y
    rw [z] at q
    exact absurd (RelO.none_of q) hy
  | some v =>
    have : (y, v) ∈ fs := PySem.mem_of_lookup z
    exact List.mem_map_of_mem (f := (·.1)) this
section
variable {X : Cx} {C D fI : Addr} {x f : Str} {o value : Expr} {tv : TE} {pos pos' : Pos}
theorem ps_setX (T : ExcKI X.K x C D fI) (ho : mroIn X.K C (.type "object") = some true) (hs : findIn X.K (.ref C) "__setattr__" = some (some (.builtin "object.__setattr__"))) (hn : NoAttr X.K C f) (ha : PE X o (tVar 0)) (hv : PE X value tv)
    (hsw : swapsWith value (some (.Attribute o f pos')) pos.line X.env = pure false) : PS X (.Assign [.Attribute o f pos'] value pos) (tSetX C tv f) := by
  intro pins s σ H Dn I h
  obtain ⟨cd, hc, hm, hh⟩ := T.cls
  refine plainObj_wpAny_Assign_Attribute (thn (hv pins s σ H _ I h) fun u s1 ⟨y, H1, I1, ry, a, h0, q⟩ => thn (ha pins s1 σ H1 (fun z H2 => z = .ref a ∧ H2 = H1) I1 ⟨_, h0, rfl, rfl⟩) fun ov s2 ⟨z, H2, I2, rx, ez, eH⟩ => ?_) hsw
  subst ez eH
  obtain rfl : ov = Value.ref a := rx
  rcases q with ⟨hH, q⟩ | ⟨dx, fs, hH, hd, hne, hl, q⟩
  · obtain ⟨t0, hx⟩ := excN_get I2.hok hH
    refine set_first I2.kIn hx hc hm hh ho hn.taker hs fun h' e1 n1 k1 => ?_
    have hnew : H2 s2.heap.objs.size = none := I2.hok.fresh (Nat.le_refl _)
    refine ⟨σ, _, inv_setX1 (dx := s2.heap.objs.size) (o := .xd [(f, y)]) I2 hH (Heap.get?_none_of_le (Nat.le_refl _)) k1 e1 (fun H' => ⟨_, n1, fun g => ?_⟩), q _ hnew (fun z => by rw [z, hH] at hnew; cases hnew)⟩
    show RelO (List.lookup g [(f, y)]) (if g = f then some u else none)
    by_cases hg : g = f
    · have hb : (g == f) = true := beq_iff_eq.mpr hg
      simp only [List.lookup, hb, if_pos hg]; exact ry
    · have hb : (g == f) = false := beq_eq_false_iff_ne.mpr hg
      simp only [List.lookup, hb, if_neg hg]; exact True.intro
  · obtain ⟨t0, hx⟩ := excN_get I2.hok hH
    obtain ⟨mA, n0, r0⟩ := (show ObjOk X.prog X.w H2 s2.heap dx (.xd fs) from I2.hok dx _ hd)
    refine set_next I2.kIn hx hne n0 (xd_within r0) (by rw [List.length_map, sizeLine_eq]; omega) hc hm hh ho hn.taker hs fun h' e1 n1 k1 => ?_
    refine ⟨σ, _, inv_writeX (fs' := putF f y fs) I2 hd k1 (fun H' => ⟨_, n1, fun g => ?_⟩), q⟩
    show RelO ((putF f y fs).lookup g) (if g = f then some u else mA g)
    rw [lookup_putF]
    by_cases hg : g = f
    · rw [if_pos hg, if_pos hg]; exact ry
    · rw [if_neg hg, if_neg hg]; exact r0 g
end
end Kx
set_option Elab.async false
set_option linter.all false
set_option maxRecDepth 100000
set_option maxHeartbeats 1000000
set_option autoImplicit false
namespace Kx
open PySem PySem.Spec L2 PyProof.Rows PySem.W Xk
section
variable {X : Cx} {e : Expr} {f : Str} {pos : Pos} {ta : TE}
end
end Kx
namespace Dt
open PySem PySem.Spec L2 Kx PyProof.Rows PySem.W Xk
def xat (ns : List Str) (ds : List D) (f : Str) : Option D := (ns.zip ds).lookup f
def wFldX (c f : Str) (w : WE) : WE := fun Γ Ψ Ξ => w Γ (fun r Γ1 => ∃ ns ds d, r = .val (.exc c ns ds) ∧ ns ≠ [] ∧ xat ns ds f = some d ∧ Ψ (.val d) Γ1) Ξ
section
variable {T : Tb} {F F1 F2 F' H H1 H2 H' : Hp} {σ : L2.St} {Γ Γ1 Γ2 Γ' : Gm} {E : XK} {t : TE} {w : WE} {tA : TA} {wA : WA} {io : Bool} {c f : Str}
theorem fldX_ap {Φ : R → Gm → Prop} {Ξ : XD → Prop} : wFldX c f w Γ Φ Ξ = w Γ (fun r Γ1 => ∃ ns ds d, r = .val (.exc c ns ds) ∧ ns ≠ [] ∧ xat ns ds f = some d ∧ Φ (.val d) Γ1) Ξ := rfl
theorem xdn_nt {fs : List (Str × V)} : NoT (.xd fs) := fun _ z => by cases z
theorem nw_del {a C : Addr} {od : Option Addr} (o : Ok T F H1) (ha : H1 a = none) (n : Nw T F (upd H1 a (excN a C od)) F2 H2) : Nw T F H1 F2 (del H2 a) := by
  have h2 : H2 a = some (excN a C od) := n.hh a _ upd_same ext_nt
  have fa : ∀ b u, F2 b = some u → b ≠ a := fun b u e z => by
    subst z
    rcases n.nf b u e with y | y
    · have := o.sub _ _ y; rw [ha] at this; cases this
    · rw [upd_same] at y; cases y
  refine ⟨⟨fun b u e => ?_, n.ok.nt, fun P hP => ?_, fun p hp => ?_⟩, n.ff, fun b u e t => ?_, fun b u e => ?_, fun b u e => ?_⟩
  · rw [del_ne (fa b u e)]; exact n.ok.sub _ _ e
  · obtain ⟨ps, e, q⟩ := n.ok.tabs P hP
    exact ⟨ps, by rw [del_ne (ne_of e h2 (by intro z; cases z))]; exact e, q⟩
  · obtain ⟨ps, e, r, cc⟩ := n.ok.labs p hp
    refine ⟨ps, by rw [del_ne (ne_of e h2 (by intro z; cases z))]; exact e, r, fun cv hcv => ?_⟩
    obtain ⟨c0, oc, vs, t, e0, hc, r0⟩ := cc cv hcv
    exact ⟨c0, oc, vs, t, e0, by rw [del_ne (ne_of hc h2 (by intro z; cases z))]; exact hc, r0⟩
  · have hb : b ≠ a := fun z => by rw [z, ha] at e; cases e
    rw [del_ne hb]
    exact n.hh b u (by rw [upd_ne hb]; exact e) t
  · have hb : b ≠ a := fun z => by rw [z, ha] at e; cases e
    obtain ⟨o', e'⟩ := n.gro b u (by rw [upd_ne hb]; exact e)
    exact ⟨o', by rw [del_ne hb]; exact e'⟩
  · rcases n.nf b u e with y | y
    · exact .inl y
    · rw [upd_ne (fa b u e)] at y; exact .inr y
def spX (T : Tb) (C : Addr) (ns : List Str) (mok : List D → Prop) : Sp := fun vs H Q E => ∃ (F H1 : Hp) (a : Addr) (vs' : List V) (ds : List D), vs = .ref a :: vs' ∧ H = upd H1 a (excN a C none) ∧ H1 a = none ∧ Ok T F H1 ∧ RepA T.K F vs' ds ∧ ds.length = ns.length ∧ mok ds ∧
  ∀ F2 H2 dx, Nw T F (upd H1 a (excN a C none)) F2 H2 → H2 a = some (excN a C none) → H2 dx = none → dx ≠ a → Q .non (upd (upd H2 dx (.xd (ns.zip vs'))) a (excN a C (some dx)))
def wRaiseI (c : Str) (ns : List Str) (mok : List D → Prop) (wA : WA) : WS := fun Ψ Γ => wA Γ (fun rs Γ1 => frzLR Γ1 rs fun ds _ => ds.length = ns.length ∧ ds.length ≤ 1000 ∧ mok ds ∧ Ψ.xe ⟨c, ns, ds⟩) Ψ.xe
theorem raiseI_ap {ns : List Str} {mok : List D → Prop} {Ψe : WEnds} : wRaiseI c ns mok wA Ψe Γ = wA Γ (fun rs Γ1 => frzLR Γ1 rs fun ds _ => ds.length = ns.length ∧ ds.length ≤ 1000 ∧ mok ds ∧ Ψe.xe ⟨c, ns, ds⟩) Ψe.xe := rfl
theorem sd_raiseI {C : Addr} {ns : List Str} {mok : List D → Prop} (hns0 : ns ≠ []) (h : AD T E tA wA) (hns : PySem.W.nsIn T.K mainGlobals c = some (some (.ref C))) : SD T io E (tRaiseI E C (spX T C ns mok) tA) (wRaiseI c ns mok wA) := fun H0 F0 ra F σ H Γ D Ψ s hw e =>
  h F σ H Γ _ _ _ s.rp hw (e.xo s) fun F1 H1 Γ1 vs rs hr q er => by
    obtain ⟨ds, Γ2, hf, hl, hlen, hm, hx⟩ := hr
    obtain ⟨F2, q2, s2, r2⟩ := er.frz q hf
    refine ⟨by rw [r2.length]; exact hlen, fun a ha => ⟨F2, H1, a, vs, ds, rfl, rfl, ha, q2.rp.toOk, r2, hl, hm, fun F3 H3 dx n3 h3 hdx hne => ⟨rfl, some dx, upd_same, ?_⟩⟩⟩
    have nd : Nw T F2 H1 F3 (del H3 a) := nw_del q2.rp.toOk ha n3
    have hd0 : del H3 a dx = none := by rw [del_ne hne]; exact hdx
    have n4 := nd.ok.lay (o := .xd (ns.zip vs)) hd0 xdn_nt
    have q4 := (q2.nw nd).nw n4
    have e4 : del (upd (upd H3 dx (.xd (ns.zip vs))) a (excN a C (some dx))) a = upd (del H3 a) dx (.xd (ns.zip vs)) := by
      funext b
      by_cases hb : b = a
      · subst hb; rw [del_same, upd_ne (Ne.symm hne), del_same]
      · rw [del_ne hb, upd_ne hb]
        by_cases hd : b = dx
        · subst hd; rw [upd_same, upd_same]
        · rw [upd_ne hd, upd_ne hd, del_ne hb]
    rw [e4]
    exact (e.xe _ σ _ Γ2 _ hx (s.po q4) C hns).2 dx vs hns0 upd_same (RepA.mono (fun b o z => n4.ff _ _ (nd.ff _ _ z)) r2)
end
section
variable {P : Program} {wd : World} {K : PySem.W.Frag} {mg : Str → Option Value} {base : Heap} {N ps : List Str} {ts : List Addr} {ls : List (Addr × Pos × Str)} {io : Bool}
structure RaI (P : Program) (wd : World) (K : PySem.W.Frag) (mg : Str → Option Value) (base : Heap) (ts : List Addr) (ls : List (Addr × Pos × Str)) (j : Nat) (x : Str) (ps ns : List Str) (mok : List D → Prop) : Prop where
  k : ∃ D fI fd, ExcKI K x (CA K x) D fI ∧ FnOk P wd K mg base (CXE P wd) j fI fd ps (spX ⟨K, ts, ls⟩ (CA K x) ns mok) ∧ Binds K fd ps []
  m : mg x = some (.ref (CA K x))
  n0 : ns ≠ []
variable {qual : Str} {scope : Scope} {f : Addr} {cdv : Value} {A : Around} {outer : List Env} {s : Shared} {H : Hp} {E : XK}
theorem q_raiseI {j k : Nat} {y : Str} {ns : List Str} {mok : List D → Prop} {e : Expr} {es : List Expr} {np cpos pos : Pos} {t : TA} {wA : WA} (R : RaI P wd K mg base ts ls j y ps ns mok) (hr : Room k (A.deeper (envOfC qual scope s.heap.objs.size f cdv))) (hj : j + 1 ≤ k)
    (hG : Gl (cxOf (CXE P wd) P wd K mg base N qual scope f cdv A outer s H E) y) (ha : QA (cxOf (CXE P wd) P wd K mg base N qual scope f cdv A outer s H E) ⟨K, ts, ls⟩ E (e :: es) t wA) (hkind : scope.kind = .function) (hs : (e :: es).any isStar = false) (hd : (y == ("__debug__" : Str)) = false) :
    QS (cxOf (CXE P wd) P wd K mg base N qual scope f cdv A outer s H E) ⟨K, ts, ls⟩ io E (.Raise (some (.Call (.Name y np) (e :: es) [] cpos)) none pos) (tRaiseI E (CA K y) (spX ⟨K, ts, ls⟩ (CA K y) ns mok) t) (wRaiseI y ns mok wA) := by
  obtain ⟨D, fI, fd, T, F, b⟩ := R.k
  exact ⟨ps_raiseI T F b (hr.mono hj) hG R.m ha.pe hkind hs hd, sd_raiseI R.n0 ha.ed T.ns⟩
end
section
variable {P : Program} {wd : World} {K : PySem.W.Frag} {mg : Str → Option Value} {base : Heap} {x qual cn : Str} {st : Stmt} {f cc cda C Dd : Addr} {N ps ns : List Str} {k : Nat} {ts : List Addr} {ls : List (Addr × Pos × Str)} {fd : FuncData} {mok : List D → Prop} {wA : WA} {tA : TA}
structure SupXD (P : Program) (K : PySem.W.Frag) (mg : Str → Option Value) (N : List Str) (st : Stmt) (x qual : Str) (f cc cda C Dd : Addr) (fd : FuncData) : Prop where
  lk : ∃ oc od kV doc pm an ct osl, fd = PySem.W.ksFn x qual (defArgs st) (defBody st) (defScope st) .none kV doc pm an (.ref cda) ct cc ∧ K.lookup f = some ⟨oc, od, .func fd, osl⟩
  cdo : PySem.W.codeIn K (.ref cda) qual = true
  par : ∃ ar, ((defArgs st).posonlyargs ++ (defArgs st).args).head? = some ar ∧ N[0]? = some ar.arg ∧ (defScope st).names.lookup ar.arg = some .local
  code : ∃ ccl cdd vs ccs file tf, K.lookup cda = some ⟨ccl, cdd, .fields vs, ccs⟩ ∧ vs[2]? = some (.str file tf) ∧ ((P.main.file : Str) == file) = true
  cell : ∃ cl cld csl, K.lookup cc = some ⟨cl, cld, .cell (some (.ref C)), csl⟩
  obj : ∃ nm q N bs sn sub ab col dd k0 k1 k2 k3 k5, K.lookup C = some (excClassObj nm q C N bs (.ref Dd :: bmV) true sn sub ab col dd k0 k1 k2 k3 k5 "ValueError.__new__")
  sub : PySem.W.mroIn K C (.ref C) = some true
  vb : PySem.W.mroIn K C (.type "ValueError") = some true
  glob : mg "super" = none
  ks : (defScope st).names.lookup ("super" : Str) = some .globalImplicit
  kc : (defScope st).names.lookup ("__class__" : Str) = some .free
  top : (P.main.scope.names.lookup ("super" : Str)).isSome = false
  opq : PySem.W.nsIn K cStatics "thirdparty.any" = some none
  find : PySem.W.ks_superIn K C C "__init__" = some (some (.builtin "ValueError.__init__"))
theorem SupXD.toX (D : SupXD P K mg N st x qual f cc cda C Dd fd) {A : Around} {outer : List Env} {s : Shared} {H : Hp} {E : XK} : SupX (cxS (CXE P wd) P wd K mg base N qual (defScope st) f (.ref cda) cc A outer s H E).nox C Dd := by
  obtain ⟨oc, od, kV, doc, pm, an, ct, osl, rfl, lk⟩ := D.lk
  obtain ⟨ar, a1, a2, a3⟩ := D.par
  obtain ⟨ccl, cdd, vs, ccs, file, tf, b1, b2, b3⟩ := D.code
  obtain ⟨cl, cld, csl, c1⟩ := D.cell
  exact ⟨⟨f, _, oc, od, osl, ar, rfl, lk, a1, a2, a3⟩, ⟨cda, ccl, cdd, vs, ccs, file, tf, rfl, b1, b2, b3⟩, ⟨cc, cl, cld, csl, rfl, c1⟩, D.obj, D.sub, D.vb, D.glob, D.ks, D.kc, D.top, D.opq, D.find⟩
def tSets (C : Addr) : List Str → TS
  | [n] => tSetX C (tVar 1) n
  | [n, m] => tSeq (tSetX C (tVar 1) n) (tSetX C (tVar 2) m)
  | _ => tNever
theorem po_nw {T : Tb} {F H F' H' : Hp} {σ : L2.St} {Γ Γ' : Gm} (n : ∀ (i : Nat) (es : List D), Γ[i]? ≠ some (some (En.own es))) (q : Po T F σ H Γ F' H' Γ') : Nw T F H F' H' :=
  ⟨q.rp.toOk, q.ff, fun b o h t => q.fr b o h t fun ⟨i, ds, h1, _⟩ => n i ds h1, q.gro, fun b o h => (q.nf b o h).elim .inl fun z => z.elim .inr fun ⟨i, ds, h1, _⟩ => absurd h1 (n i ds)⟩
theorem sets_run {a : Addr} {vs : List V} {σ : L2.St} {H2 : Hp} {Dn : Ends} (hl : vs.length = ns.length) (hns : ns.Nodup) (h12 : ns.length = 1 ∨ ns.length = 2) (h0 : σ[0]? = some (some (.ref a))) (hσ : ∀ i v, vs[i]? = some v → σ[i + 1]? = some (some v)) (ha : H2 a = some (excN a C none))
    (h : ∀ dx, H2 dx = none → dx ≠ a → Dn.nx σ (upd (upd H2 dx (.xd (ns.zip vs))) a (excN a C (some dx)))) : tSets C ns Dn σ H2 := by
  match ns, vs, hl, h12, hns, h with
  | [n], [v], _, _, _, h => exact ⟨v, hσ 0 v rfl, a, h0, .inl ⟨ha, fun dx hdx hne => h dx hdx hne⟩⟩
  | [n, m], [v, u], _, _, hns, h =>
    have hnm : ¬ n = m := fun z => by
      rw [z] at hns
      simp at hns
    refine ⟨v, hσ 0 v rfl, a, h0, .inl ⟨ha, fun dx hdx hne => ?_⟩⟩
    refine ⟨u, hσ 1 u rfl, a, h0, .inr ⟨dx, [(n, v)], upd_same, by rw [upd_ne hne, upd_same], hne, by simp, ?_⟩⟩
    have e : upd (upd (upd H2 dx (.xd [(n, v)])) a (excN a C (some dx))) dx (.xd (putF m u [(n, v)])) = upd (upd H2 dx (.xd ([n, m].zip [v, u]))) a (excN a C (some dx)) := by
      have ep : putF m u [(n, v)] = [n, m].zip [v, u] := by
        show (if n = m then _ else _) = _
        rw [if_neg hnm]
        rfl
      rw [ep]
      funext b
      by_cases hb : b = dx
      · subst hb; rw [upd_same, upd_ne hne, upd_same]
      · rw [upd_ne hb]
        by_cases hba : b = a
        · subst hba; rw [upd_same, upd_same]
        · rw [upd_ne hba, upd_ne hba, upd_ne hb, upd_ne hb]
    rw [e]
    exact h dx hdx hne
theorem fn_initX {e e0 : Expr} {pos : Pos} {rest : List Stmt} (D : SupXD P K mg N st x qual f cc cda C Dd fd) (S : FnScopeS N ps (defScope st)) (hpl : ps.length = ns.length + 1) (hn : ps.length ≤ N.length) (hns : ns.Nodup) (h12 : ns.length = 1 ∨ ns.length = 2)
    (hw : ∀ ds, mok ds → ds.length = ns.length → wA (startI N.length ds) (fun rs _ => rs.length = 1) fun _ => False) (hbd : defBody st = .Expr e pos :: rest)
    (hb : ∀ (A : Around) (outer : List Env) (s : Shared) (H : Hp) (E : XK), QA (cxS (CXE P wd) P wd K mg base N qual (defScope st) f (.ref cda) cc A outer s H E).nox ⟨K, ts, ls⟩ E0 [e0] tA wA ∧ (PA (cxS (CXE P wd) P wd K mg base N qual (defScope st) f (.ref cda) cc A outer s H E).nox [e0] tA → PEAt (cxS (CXE P wd) P wd K mg base N qual (defScope st) f (.ref cda) cc A outer s H E).nox (defBody st) e (tSupX C tA)) ∧ PSs (cxS (CXE P wd) P wd K mg base N qual (defScope st) f (.ref cda) cc A outer s H E).nox rest (tSets C ns) ∧
      interactive (cxS (CXE P wd) P wd K mg base N qual (defScope st) f (.ref cda) cc A outer s H E).nox.env = false ∧ swapsWith e none pos.line (cxS (CXE P wd) P wd K mg base N qual (defScope st) f (.ref cda) cc A outer s H E).nox.env = pure false) :
    FnOk P wd K mg base (CXE P wd) (k + 1) f fd ps (spX ⟨K, ts, ls⟩ C ns mok) := by
  obtain ⟨oc, od, kV, doc, pm, an, ct, osl, rfl, lk⟩ := D.lk
  obtain ⟨cl, cld, csl, c1⟩ := D.cell
  refine fn_ofS lk D.cdo S c1 rfl (fun vs H Q E h => ?_) fun A outer s H vs Q E hr h => ?_
  · obtain ⟨F0, H1, a, vs', ds, rfl, _, _, _, r, hl, _⟩ := h
    rw [List.length_cons, r.length, hl, hpl]
  obtain ⟨qa0, q1', q2, q3, q4⟩ := hb A outer s H E
  have q1 := q1' qa0.pe
  have qa := qa0.ed
  obtain ⟨F0, H1, a, vs', ds, rfl, rfl, ha, ok, r, hl, hm, kk⟩ := h
  have rl := r.length
  refine ⟨tSeq (tDrop (tSupX C tA)) (tSets C ns), ?_, ?_⟩
  · rw [hbd] at *
    exact PSsAt_nox (pa_expr q1 q2 q3 q4)
  obtain ⟨rp, no⟩ := startI_rp (N := N) (y := a) (ok.put (o := excN a C none) ha).ok (by omega) r
  refine ⟨a, by simp [L2.start], upd_same, ?_⟩
  refine qa F0 _ _ _ _ _ _ rp (hw ds hm hl) (fun _ _ _ _ z _ => z.elim) fun F2 H2 Γ2 us rs hrs q er => ?_
  have ha2 : H2 a = some (excN a C none) := q.fr a _ upd_same ext_nt fun ⟨i, es, h1, _⟩ => no i es h1
  refine ⟨by rw [er.len]; exact hrs, ha2, ?_⟩
  refine sets_run (vs := vs') (by omega) hns h12 (by simp [L2.start]) (fun i v hv => ?_) ha2 fun dx hdx hne => kk F2 H2 dx (po_nw no q) ha2 hdx hne
  unfold L2.start
  rw [List.map_cons, List.cons_append, List.getElem?_cons_succ, List.getElem?_append_left (by rw [List.length_map]; exact (List.getElem?_eq_some_iff.mp hv).1), List.getElem?_map, hv]
  rfl
end
end Dt
namespace Dt
open PySem PySem.Spec L2 Kx PyProof.Rows PySem.W
section
variable {X : Cx} {T : Tb} {E : XK} {io : Bool} {e : Expr} {es : List Expr} {tA : TA} {wA : WA} {pos : Pos} {x : Str}
end
end Dt
set_option Elab.async false
set_option linter.all false
set_option maxRecDepth 100000
set_option maxHeartbeats 1000000
set_option autoImplicit false
namespace Kx
open PySem PySem.Spec L2 PyProof.Rows PySem.W
end Kx
namespace Dt
open PySem PySem.Spec L2 Kx PyProof.Rows
section
variable {T : Tb} {E : XK} {ta tb : TE} {wa wb : WE}
def dCnt : D → D → (R → Prop) → Prop := fun d e Ψ => ∃ (ds : List D), d = .lst ds ∧ (∃ n, n ≤ 60 ∧ Dep n (.lst ds)) ∧ (∃ n, n ≤ 10 ∧ Dep n e) ∧ Ψ (.val (.int (ds.countP fun x => deq x e : Nat)))
def wCnt (wa wb : WE) : WE := fun Γ Ψ Ξ => wa Γ (fun r1 Γ1 => ∃ d0, r1.at Γ1 = some d0 ∧ (∃ ds n, d0 = .lst ds ∧ Dep n (.lst ds)) ∧ wb Γ1 (fun r2 Γ2 => ∃ d1 d2, r1.at Γ2 = some d1 ∧ r2.at Γ2 = some d2 ∧ dCnt d1 d2 fun r => Ψ r Γ2) Ξ) Ξ
theorem cntL_ap {Γ : Gm} {Ψ : R → Gm → Prop} {Ξ : XD → Prop} : wCnt wa wb Γ Ψ Ξ = wa Γ (fun r1 Γ1 => getR Γ1 r1 fun d0 => sideR (∃ ds n, d0 = .lst ds ∧ Dep n (.lst ds)) (wb Γ1 (fun r2 Γ2 => getR Γ2 r1 fun d1 => getR Γ2 r2 fun d2 => dCnt d1 d2 fun r => Ψ r Γ2) Ξ)) Ξ := by
  unfold wCnt getR sideR
  congr 1
  funext r1 Γ1
  refine propext ⟨fun ⟨d0, a0, s, h⟩ => ⟨d0, a0, s, ?_⟩, fun ⟨d0, a0, s, h⟩ => ⟨d0, a0, s, ?_⟩⟩
  · refine cast (congrFun (congrArg (wb Γ1) ?_) Ξ) h
    funext r2 Γ2
    exact propext ⟨fun ⟨d1, d2, x, y, z⟩ => ⟨d1, x, d2, y, z⟩, fun ⟨d1, x, d2, y, z⟩ => ⟨d1, d2, x, y, z⟩⟩
  · refine cast (congrFun (congrArg (wb Γ1) ?_) Ξ) h
    funext r2 Γ2
    exact propext ⟨fun ⟨d1, x, d2, y, z⟩ => ⟨d1, d2, x, y, z⟩, fun ⟨d1, d2, x, y, z⟩ => ⟨d1, x, d2, y, z⟩⟩
theorem dCntL_ap {ds : List D} {e : D} {Ψ : R → Prop} : dCnt (.lst ds) e Ψ = sideR ((∃ n, n ≤ 60 ∧ Dep n (.lst ds)) ∧ ∃ n, n ≤ 10 ∧ Dep n e) (Ψ (.val (.int (ds.countP fun x => deq x e : Nat)))) := propext ⟨fun ⟨_, e, a, b, h⟩ => by cases e; exact ⟨⟨a, b⟩, h⟩, fun ⟨⟨a, b⟩, h⟩ => ⟨ds, rfl, a, b, h⟩⟩
end
section
variable {X : Cx} {T : Tb} {E : XK} {o e : Expr} {to te : TE} {wo we : WE} {apos pos : Pos}
end
end Dt
set_option Elab.async false
set_option linter.all false
set_option maxRecDepth 100000
set_option maxHeartbeats 1000000
set_option autoImplicit false
namespace Dt
open PySem PySem.Spec L2 Kx PyProof.Rows
abbrev GR := Str × List (Int × Int)
def rwL (r : GR) : D := .tup [.str r.1, .lst (r.2.map frD)]
structure FrB (f : Int × Int) : Prop where
  pos : 1 ≤ f.2
  b1 : Bd 3000 f.1
  b2 : Bd 3000 f.2
  l1 : lowT f.1 f.2 = f.1
  l2 : lowB f.1 f.2 = f.2
def inB (f : Int × Int) : Bool := decide ((1000000 : Int) % f.2 = 0) && decide ((if f.1 < 0 then -f.1 else f.1) < 1000000000000 * f.2)
def serB (ss : List Str) : Bool := decide (1 ≤ ss.length) && decide (ss.length ≤ 4) && (ss.all fun s => nmL s.cps.toList) && decide ss.Nodup
def rowB (many : Nat) (ah : List Str) (r : GR) : Bool := nmL r.1.cps.toList && !decide (r.1 ∈ ah) && decide (r.2.length = many) && r.2.all inB
def rowsBad (many : Nat) : List Str → Nat → List GR → Option Nat
  | _, _, [] => none
  | ah, i, r :: t => if rowB many ah r = true then rowsBad many (ah ++ [r.1]) (i + 1) t else some i
theorem rowsBad_cons {many : Nat} {ah : List Str} {i : Nat} {r : GR} {t : List GR} : rowsBad many ah i (r :: t) = if rowB many ah r = true then rowsBad many (ah ++ [r.1]) (i + 1) t else some i := rfl
def tabBad (ss : List Str) (rs : List GR) : Option Int := if serB ss = true then if 1 ≤ rs.length ∧ rs.length ≤ 12 then (rowsBad ss.length [] 0 rs).map fun i : Nat => (i : Int) else some (rs.length : Nat) else some (-1)
def noTab (i : Int) : XD := ⟨Str.ofString "NoTable", [Str.ofString "row"], [.int i]⟩
def mokSmall : List D → Prop := fun ds => ∃ i : Int, ds = [.int i] ∧ -1 ≤ i ∧ i < 1000000
theorem small_text {i : Int} (h0 : -1 ≤ i) (h : i < 1000000) : (Str.ofString (toString i)).length ≤ 400 := by
  by_cases z : i = -1
  · subst z; decide
  · obtain ⟨m, rfl⟩ := Int.eq_ofNat_of_zero_le (by omega : 0 ≤ i)
    exact Nat.le_trans (num_len (k := 6) (by have := Int.ofNat_lt.mp (show ((m : Nat) : Int) < ((1000000 : Nat) : Int) from h); omega) (by decide)) (by decide)
theorem small_log {i : Int} (h0 : -1 ≤ i) (h : i < 1000000) : i.natAbs.log2 < 1920 := by
  by_cases z : i.natAbs = 0
  · rw [z]; decide
  · exact (Nat.log2_lt z).mpr (Nat.lt_of_lt_of_le (m := 2 ^ 20) (by omega) (Nat.pow_le_pow_right (by decide) (by decide)))
theorem lw_gcd {t b : Int} (hb : 0 < b) (h : Int.gcd t b = 1) : lowT t b = t ∧ lowB t b = b := by
  have g := (lowG_pos (t := t) hb).1
  rw [h] at g
  unfold lowT lowB
  rw [g]
  exact ⟨Int.fdiv_one t, Int.fdiv_one b⟩
theorem FrB.of {t b : Int} (hb : 0 < b) (h : Int.gcd t b = 1) (h1 : t.natAbs < 2 ^ 64) (h2 : b < 2 ^ 64) : FrB (t, b) := by
  obtain ⟨l1, l2⟩ := lw_gcd hb h
  refine ⟨hb, ?_, ?_, l1, l2⟩
  · show t.natAbs < 2 ^ 3000
    exact Nat.lt_of_lt_of_le h1 (Nat.pow_le_pow_right (by decide) (by decide))
  · show b.natAbs < 2 ^ 3000
    exact Nat.lt_of_lt_of_le (m := 2 ^ 64) (by omega) (Nat.pow_le_pow_right (by decide) (by decide))
end Dt
namespace Dtq
open PySem PySem.Spec L2 Kx PyProof.Rows Dt
def wf_is_name : WF := fun ds row Ψ Ξ => ∃ d : D, ds = [d] ∧ ((∃ x : Str, d = .str x ∧ x.length ≤ 100000 ∧ Ψ (.val (.bl (nmL x.cps.toList))) []))
def wf_are_series : WF := fun ds row Ψ Ξ => ∃ ss : List Str, ds = [.lst (ss.map .str)] ∧ ss.length ≤ 1000 ∧ (∀ s ∈ ss, s.length ≤ 100000) ∧ Ψ (.val (.bl (serB ss))) []
def wf_is_within : WF := fun ds row Ψ Ξ => ∃ f : Int × Int, ds = [frD f] ∧ FrB f ∧ Ψ (.val (.bl (inB f))) []
def wf_is_row : WF := fun ds row Ψ Ξ => ∃ (r : GR) (many : Nat) (ah : List Str), ds = [.str r.1, .lst (r.2.map frD), .int (many : Nat), .lst (ah.map .str)] ∧ r.1.length ≤ 100000 ∧ r.2.length ≤ 1000 ∧ ah.length ≤ 1000 ∧ (∀ f ∈ r.2, FrB f) ∧ Ψ (.val (.bl (rowB many ah r))) []
structure TIn (ss : List Str) (rs : List GR) : Prop where
  s1 : ss.length ≤ 500
  s2 : ∀ s ∈ ss, s.length ≤ 100000
  r1 : rs.length ≤ 500
  r2 : ∀ r ∈ rs, r.1.length ≤ 100000 ∧ r.2.length ≤ 500 ∧ ∀ f ∈ r.2, FrB f
def wf_table_of : WF := fun ds row Ψ Ξ => ∃ (ss : List Str) (rs : List GR), ds = [.lst (ss.map .str), .lst (rs.map rwL)] ∧ TIn ss rs ∧ ((tabBad ss rs = none ∧ Ψ (.val (tblD ss rs)) []) ∨ ∃ i, tabBad ss rs = some i ∧ Ξ (noTab i))
end Dtq
set_option Elab.async false
set_option linter.all false
set_option maxRecDepth 100000
set_option autoImplicit false
namespace Dt
open PySem L2 Kx
section
variable {T : Tb} {F F1 F2 F' H H1 H2 H' H0 F0 Fs Hs : Hp} {σ σs : St} {Γ Γ1 Γ2 Γ' Γn Γs : Gm} {E : XK} {t : TE} {w : WE} {ra : Addr} {K : PySem.W.Frag}
def PrsA (Hs : Hp) (A : Addr) (H : Hp) (acc : List V) : Prop := H A = some (.lst acc) ∧ ∀ u ∈ acc, ∃ c b nm ws, u = .ref c ∧ H c = some (.tup [nm, .ref b]) ∧ b ≠ A ∧ Hs b = none ∧ Hs c = none ∧ H b = some (.lst ws)
def listR (K : PySem.W.Frag) : List V → Hp → VK → Prop := fun xs H Q => ∃ p ys, xs = [.ref p] ∧ (SqL K H p ys ∨ SqT K H p ys) ∧ ∀ l, H l = none → Q (.ref l) (upd H l (.lst ys))
def tPairs (K : PySem.W.Frag) (r p q : Nat) : TE := tLc (iList K (tVar r)) (gTup K 2 (gCons (gName p) (gCons (gName q) gNil))) tYes (tTup (tCons (tVar p) (tCons (tCB (listR K) (tCons (tVar q) tNil)) tNil))) [p, q]
theorem pairs_new {r p q : Nat} {Q : VK} (h : tPairs K r p q σ H fun v H' => (∃ A acc, v = .ref A ∧ H A = none ∧ PrsA H A H' acc) → Q v H') : tPairs K r p q σ H Q := by
  obtain ⟨v, e0, a, rfl, hxs, h⟩ := h
  refine ⟨_, e0, a, rfl, hxs, fun A hA => ?_⟩
  obtain ⟨W, ⟨m0, w0⟩, turn⟩ := h A hA
  refine ⟨fun i m H' => W i m H' ∧ (∃ acc, PrsA H A H' acc) ∧ ∀ b, H' b = none → H b = none, ⟨m0, w0, ⟨[], upd_same, fun u hu => by cases hu⟩, fun b hb => ?_⟩, ?_⟩
  · by_cases z : b = A
    · rw [z]; exact hA
    · rw [upd_ne z] at hb; exact hb
  rintro i m H' ⟨w1, ⟨acc, ha, hp⟩, gr⟩
  rcases turn i m H' w1 with ⟨st, q0⟩ | ⟨go, Nx, hn, body⟩
  · exact .inl ⟨st, q0 ⟨A, acc, rfl, hA, ha, hp⟩⟩
  refine .inr ⟨go, fun H'' => Nx H'' ∧ (∃ acc, PrsA H A H'' acc) ∧ ∀ b, H'' b = none → H b = none, fun H'' hx => ?_, fun x H'' hy => ?_⟩
  · obtain ⟨m', lt, w'⟩ := hn H'' hx.1
    exact ⟨m', lt, w', hx.2⟩
  have b0 := body x H'' hy
  obtain ⟨rfl, _⟩ := hy
  obtain ⟨c0, xs, rfl, sq, ln, v1, r1, rfl, v2, r2, rfl, r3, wp, b0⟩ := b0
  refine ⟨c0, _, rfl, sq, ln, v1, _, rfl, v2, _, rfl, r3, wp, ?_⟩
  obtain ⟨u1, g1, u2, g2, l0, ys, e1, sq1, b0⟩ := b0
  refine ⟨u1, g1, u2, g2, l0, ys, e1, sq1, fun l hl => ?_⟩
  obtain ⟨lx, b0⟩ := b0 l hl
  refine ⟨lx, fun c hc => ?_⟩
  obtain ⟨acc', e2, lt, b0⟩ := b0 c hc
  refine ⟨acc', e2, lt, b0, ?_⟩
  have lA : A ≠ l := fun z => by rw [← z, ha] at hl; cases hl
  have cl : c ≠ l := fun z => by rw [z, upd_same] at hc; cases hc
  have hc' : H'' c = none := by rw [upd_ne cl] at hc; exact hc
  have cA : A ≠ c := fun z => by rw [← z, ha] at hc'; cases hc'
  rw [upd_ne cA, upd_ne lA, ha] at e2
  cases e2
  refine ⟨⟨acc ++ [.ref c], upd_same, fun u hu => ?_⟩, fun b hb => ?_⟩
  · rcases List.mem_append.mp hu with hu | hu
    · obtain ⟨c1, b1, nm, ws, e, h1, h2, h3, h3', h4⟩ := hp u hu
      have n1 : c1 ≠ A := fun z => by rw [z, ha] at h1; cases h1
      have n2 : c1 ≠ c := fun z => by rw [z, hc'] at h1; cases h1
      have n3 : c1 ≠ l := fun z => by rw [z, hl] at h1; cases h1
      have n4 : b1 ≠ c := fun z => by rw [z, hc'] at h4; cases h4
      have n5 : b1 ≠ l := fun z => by rw [z, hl] at h4; cases h4
      exact ⟨c1, b1, nm, ws, e, by rw [upd_ne n1, upd_ne n2, upd_ne n3]; exact h1, h2, h3, h3', by rw [upd_ne h2, upd_ne n4, upd_ne n5]; exact h4⟩
    · rw [List.mem_singleton.mp hu]
      exact ⟨c, l, u1, ys, rfl, by rw [upd_ne (Ne.symm cA), upd_same], Ne.symm lA, gr l hl, gr c hc', by rw [upd_ne (Ne.symm lA), upd_ne (Ne.symm cl), upd_same]⟩
  · have n1 : b ≠ A := fun z => by rw [z, upd_same] at hb; cases hb
    rw [upd_ne n1] at hb
    have n2 : b ≠ c := fun z => by rw [z, upd_same] at hb; cases hb
    rw [upd_ne n2] at hb
    have n3 : b ≠ l := fun z => by rw [z, upd_same] at hb; cases hb
    rw [upd_ne n3] at hb
    exact gr b hb
theorem Rs.comp {Fm : Hp} (s : Rs T false H0 F0 ra Fs σs Hs Γs) (c : Rs T false Hs Fm ra F σ H Γ) (f : Same Fs Fm) (n : ∀ b o, Fm b = some o → Fs b = some o ∨ Hs b = Option.none) : Rs T false H0 F0 ra F σ H Γ where
  rp := c.rp
  ff := fun b o h => c.ff b o (f b o (s.ff b o h))
  en := fun b o h z y => c.en b o (s.en b o h z y) z fun z => by cases z.1
  fr := fun b h => (c.fr b h).elim (fun z => by cases z.1) fun z => .inr (s.none z)
  gro := fun b o h => let ⟨o1, h1⟩ := s.gro b o h; c.gro b o1 h1
  nf := fun b o h => by
    rcases c.nf b o h with z | z | z
    · rcases n b o z with y | y
      · exact s.nf b o y
      · exact .inr (.inl (s.none y))
    · exact .inr (.inl (s.none z))
    · cases z.1
  par := fun z => by cases z
structure Sn (T : Tb) (H0 F0 : Hp) (ra : Addr) (ks : List Nat) (o : Option Nat) (Fs : Hp) (σs : St) (Hs : Hp) (Γs : Gm) (F : Hp) (σ : St) (H : Hp) (Γ : Gm) : Prop where
  base : Rs T false H0 F0 ra Fs σs Hs Γs
  no : NoOw Γs
  cur : Rs T false Hs Fs ra F σ H Γ
  kp : ∀ i ∈ ks, σ[i]? = σs[i]?
  xs : ∀ x, o = some x → ∃ A acc, σ[x]? = some (some (.ref A)) ∧ Hs A = none ∧ PrsA Hs A F acc
def KeepE (s : TS) (P : Nat → Prop) : Prop := ∀ (D : Ends) (σ : St) (H : Hp), s { D with nx := fun σ' H' => (∀ i, P i → σ'[i]? = σ[i]?) → D.nx σ' H' } σ H = s D σ H
theorem keep_asg {t : TE} {y : Nat} {P : Nat → Prop} (h : ¬ P y) : KeepE (tAsg t (gName y)) P := fun D σ H => by
  show t σ H _ = t σ H _
  refine congrArg (t σ H) ?_
  funext v H'
  refine propext ⟨fun z => z fun i hi => List.getElem?_set_ne fun e => h (by rw [e]; exact hi), fun z _ => z⟩
theorem keep_drop {t : TE} {P : Nat → Prop} : KeepE (tDrop t) P := fun D σ H => by
  show t σ H _ = t σ H _
  refine congrArg (t σ H) ?_
  funext v H'
  exact propext ⟨fun z => z fun i hi => rfl, fun z _ => z⟩
theorem keep_ret {c : TT} {t : TE} {P : Nat → Prop} : KeepE (tIfS c (tRet t) tNext) P := fun D σ H => by
  show c σ H _ = c σ H _
  refine congrArg (c σ H) ?_
  funext b H'
  cases b with
  | true => rfl
  | false =>
    rw [if_neg Bool.false_ne_true, if_neg Bool.false_ne_true]
    exact propext ⟨fun z => z fun i hi => rfl, fun z _ => z⟩
abbrev WSn := Gm → WEnds → Gm → Prop
def Snd (T : Tb) (E : XK) (ks : List Nat) (o : Option Nat) (t : TS) (w : WSn) : Prop := ∀ (H0 F0 : Hp) (ra : Addr) (Fs : Hp) (σs : St) (Hs : Hp) (Γs : Gm) (F : Hp) (σ : St) (H : Hp) (Γ : Gm) (D : Ends) (Ψ : WEnds), Sn T H0 F0 ra ks o Fs σs Hs Γs F σ H Γ → w Γs Ψ Γ → EO T false H0 F0 ra E D Ψ → t D σ H
variable {ks : List Nat} {o : Option Nat} {s1 s2 : TS} {u1 : WS} {w2 : WSn}
theorem Sn.here (S : Sn T H0 F0 ra ks o Fs σs Hs Γs F σ H Γ) : Rs T false Hs F ra F σ H Γ := ⟨S.cur.rp, fun _ _ h => h, S.cur.en, S.cur.fr, S.cur.gro, fun _ _ h => .inl h, fun z => by cases z⟩
theorem Sn.nfs (S : Sn T H0 F0 ra ks o Fs σs Hs Γs F σ H Γ) : ∀ b u, F b = some u → Fs b = some u ∨ Hs b = none := fun b u h => (S.cur.nf b u h).elim .inl fun z => z.elim .inr fun y => by cases y.1
theorem Sn.to (S : Sn T H0 F0 ra ks o Fs σs Hs Γs F σ H Γ) {σ' : St} (c : Rs T false Hs F ra F' σ' H' Γ') : Rs T false H0 F0 ra F' σ' H' Γ' := S.base.comp c S.cur.ff S.nfs
theorem Sn.next (S : Sn T H0 F0 ra ks o Fs σs Hs Γs F σ H Γ) {σ' : St} (c : Rs T false Hs F ra F' σ' H' Γ') (k : ∀ i, i ∈ ks ∨ o = some i → σ'[i]? = σ[i]?) : Sn T H0 F0 ra ks o Fs σs Hs Γs F' σ' H' Γ' where
  base := S.base
  no := S.no
  cur := ⟨c.rp, fun b u h => c.ff b u (S.cur.ff b u h), c.en, c.fr, c.gro, fun b u h => (c.nf b u h).elim (S.cur.nf b u) .inr, fun z => by cases z⟩
  kp := fun i hi => (k i (.inl hi)).trans (S.kp i hi)
  xs := fun x e => by
    obtain ⟨A, acc, h1, h2, h3, h4⟩ := S.xs x e
    refine ⟨A, acc, (k x (.inr e)).trans h1, h2, c.ff _ _ h3, fun u hu => ?_⟩
    obtain ⟨c1, b1, nm, ws, e1, k1, k2, k3, k3', k4⟩ := h4 u hu
    exact ⟨c1, b1, nm, ws, e1, c.ff _ _ k1, k2, k3, k3', c.ff _ _ k4⟩
theorem Sn.rt (S : Sn T H0 F0 ra ks o Fs σs Hs Γs F σ H Γ) {v : V} {r : R} {σ' : St} (h : RepR T F' σ' H' Γ' Hs v r) : RepR T F' σ' H' Γ' H0 v r := by
  cases r with
  | val d => exact h
  | new ds => obtain ⟨a, vs, e1, e2, e3, e4, e5⟩ := h; exact ⟨a, vs, e1, e2, e3, S.base.none e4, e5⟩
  | slot i => exact h
def wSnS (u1 : WS) (w2 : WSn) : WSn := fun Γs Ψ Γ => u1 { Ψ with nx := w2 Γs Ψ } Γ
theorem snd_stm (h1 : SD T false E s1 u1) (hk : KeepE s1 fun i => i ∈ ks ∨ o = some i) (h2 : Snd T E ks o s2 w2) : Snd T E ks o (tSeq s1 s2) (wSnS u1 w2) := fun H0 F0 ra Fs σs Hs Γs F σ H Γ D Ψ S hw e => by
  show s1 { D with nx := s2 D } σ H
  rw [← hk]
  exact h1 Hs F ra F σ H Γ _ _ S.here hw ⟨fun F1 σ1 H1 Γ1 g c k => h2 H0 F0 ra Fs σs Hs Γs F1 σ1 H1 Γ1 D Ψ (S.next c k) g e, fun F1 σ1 H1 Γ1 g c => e.bk F1 σ1 H1 Γ1 g (S.to c), fun F1 σ1 H1 Γ1 g c => e.ct F1 σ1 H1 Γ1 g (S.to c), fun F1 σ1 H1 Γ1 v r g c rr => e.rt F1 σ1 H1 Γ1 v r g (S.to c) (S.rt rr), fun F1 σ1 H1 Γ1 xd g c => e.xe F1 σ1 H1 Γ1 xd g (S.to c)⟩
def noOwnE : Option En → Option En
  | some (.own _) => none
  | e => e
def noOwn (Γ : Gm) : Gm := Γ.map noOwnE
theorem noOwn_nil : noOwn [] = [] := rfl
theorem noOwn_cons {e : Option En} : noOwn (e :: Γ) = noOwnE e :: noOwn Γ := rfl
theorem noOwnE_none : noOwnE none = none := rfl
theorem noOwnE_shr {d : D} : noOwnE (some (.shr d)) = some (.shr d) := rfl
theorem noOwnE_own {ds : List D} : noOwnE (some (.own ds)) = none := rfl
theorem noOwn_get {i : Nat} {e : En} (h : (noOwn Γ)[i]? = some (some e)) : ∃ d, e = .shr d ∧ Γ[i]? = some (some (.shr d)) := by
  unfold noOwn at h
  rw [List.getElem?_map] at h
  cases q : Γ[i]? with
  | none => rw [q] at h; cases h
  | some u =>
    rw [q] at h
    cases u with
    | none => cases h
    | some u => cases u <;> cases h; exact ⟨_, rfl, rfl⟩
theorem noOwn_no : NoOw (noOwn Γ) := fun i ds h => by
  obtain ⟨d, e, _⟩ := noOwn_get h
  cases e
theorem Rs.noOwn (s : Rs T false H0 F0 ra F σ H Γ) : Rs T false H0 F0 ra F σ H (noOwn Γ) :=
  ⟨⟨s.rp.toOk, by unfold Dt.noOwn; rw [List.length_map]; exact s.rp.len, fun i e h => by
    obtain ⟨d, rfl, h'⟩ := noOwn_get h
    exact s.rp.at_ i _ h', fun i j ds _ _ h => absurd h (noOwn_no i ds)⟩, s.ff, s.en, fun b h => absurd h noOwn_no.owns, s.gro, s.nf, fun z => by cases z⟩
def wSn0 (w2 : WSn) : WS := fun Ψ Γ => w2 (noOwn Γ) Ψ (noOwn Γ)
theorem sd_snap (h : Snd T E ks none s2 w2) : SD T false E s2 (wSn0 w2) := fun H0 F0 ra F σ H Γ D Ψ s hw e =>
  h H0 F0 ra F σ H _ F σ H _ D Ψ ⟨s.noOwn, noOwn_no, ⟨s.noOwn.rp, fun _ _ h => h, fun b o h _ _ => h, fun b h => absurd h noOwn_no.owns, fun b o h => ⟨o, h⟩, fun _ _ h => .inl h, fun z => by cases z⟩, fun _ _ => rfl, fun x z => by cases z⟩ hw e
open Classical in
theorem new_known {x : Nat} {Fa : Hp} (s : Rs T false Hs Fa ra F σ H Γ) (Hm : Hp) (gr : ∀ b u, Hs b = some u → ∃ u', Hm b = some u') (ow : ∀ b, Owns σ Γ b → ∃ u, Hm b = some u) : ∃ F', Same F F' ∧ (∀ b u, Hm b = none → H b = some u → NoT u → F' b = some u) ∧ Rs T false Hs Fa ra F' σ H Γ := by
  have p := s.rp
  have ff : Same F (fun b => if Hm b = none ∧ ∃ u, H b = some u ∧ NoT u then H b else F b) := fun b u h => by
    show (if Hm b = none ∧ ∃ u, H b = some u ∧ NoT u then H b else F b) = some u
    split
    · exact p.sub b u h
    · exact h
  refine ⟨_, ff, fun b u h1 h2 h3 => ?_, ⟨⟨fun b u h => ?_, fun b u h => ?_, p.tabs, p.labs⟩, p.len, fun i e h => ?_, p.apart⟩, fun b u h => ff b u (s.ff b u h), s.en, s.fr, s.gro, fun b u h => ?_, s.par⟩
  · show (if Hm b = none ∧ ∃ u, H b = some u ∧ NoT u then H b else F b) = some u
    rw [if_pos ⟨h1, u, h2, h3⟩]
    exact h2
  · replace h : (if Hm b = none ∧ ∃ u, H b = some u ∧ NoT u then H b else F b) = some u := h
    split at h
    · exact h
    · exact p.sub b u h
  · replace h : (if Hm b = none ∧ ∃ u, H b = some u ∧ NoT u then H b else F b) = some u := h
    split at h
    · rename_i z
      obtain ⟨u', z1, z2⟩ := z.2
      rw [h] at z1
      cases z1
      exact z2
    · exact p.nt b u h
  · obtain ⟨v, h1, h2⟩ := p.at_ i e h
    refine ⟨v, h1, ?_⟩
    cases e with
    | shr d => exact Rep.mono ff h2
    | own ds =>
      obtain ⟨a, vs, rfl, ha, fa, r⟩ := h2
      obtain ⟨u, hu⟩ := ow a ⟨i, ds, h, h1⟩
      refine ⟨a, vs, rfl, ha, ?_, r.mono ff⟩
      show (if Hm a = none ∧ ∃ u, H a = some u ∧ NoT u then H a else F a) = none
      rw [if_neg (fun z => by rw [hu] at z; cases z.1)]
      exact fa
  · replace h : (if Hm b = none ∧ ∃ u, H b = some u ∧ NoT u then H b else F b) = some u := h
    split at h
    · rename_i z
      refine .inr (.inl ?_)
      cases y : Hs b with
      | none => rfl
      | some u1 =>
        obtain ⟨u2, y2⟩ := gr b u1 y
        rw [z.1] at y2
        cases y2
    · exact s.nf b u h
def wSnP (x : Nat) (w : WE) (w2 : WSn) : WSn := fun Γs Ψ Γ => w Γ (fun r Γ1 => ∃ d Γ2, frz Γ1 r = some (d, Γ2) ∧ x < Γ2.length ∧ w2 Γs Ψ (Γ2.set x (some (.shr d)))) Ψ.xe
theorem snd_pairs {r p q x : Nat} (hx : x ∉ ks) (h : ED T E (tPairs T.K r p q) w) (h2 : Snd T E ks (some x) s2 w2) : Snd T E ks none (tSeq (tAsg (tPairs T.K r p q) (gName x)) s2) (wSnP x w w2) := fun H0 F0 ra Fs σs Hs Γs F σ H Γ D Ψ S hw e => by
  show tPairs T.K r p q σ H (fun v H1 => gName x v σ H1 (s2 D))
  refine pairs_new ?_
  have sc := S.here
  refine h F σ H Γ _ _ _ sc.rp hw (fun F' H' Γ' xd g q => e.xe F' σ H' Γ' xd g (S.to (sc.po q))) fun F1 H1 Γ1 v r hr q er => ?_
  rintro ⟨A, acc, rfl, hA, hP1, hP2⟩
  obtain ⟨d, Γ2, fz, hl, hr⟩ := hr
  obtain ⟨F2, q2, _, r2⟩ := RepR.frz q er fz
  have s2 := sc.po q2
  have nn : ∀ {b : Addr}, H b = none → Hs b = none := fun {b} z => by
    cases y : Hs b with
    | none => rfl
    | some u => obtain ⟨u', y'⟩ := S.cur.gro b u y; rw [z] at y'; cases y'
  obtain ⟨F3, f3, k3, s3⟩ := new_known (x := x) s2 H S.cur.gro (fun b ob => by
    obtain ⟨vs, z, _⟩ := sc.rp.owns (q2.ows ob)
    exact ⟨_, z⟩)
  have s4 : Rs T false Hs F ra F3 (σ.set x (some (.ref A))) H1 (Γ2.set x (some (.shr d))) := s3.set (r2.mono f3) (.inr rfl) (fun _ z => by cases z)
  refine h2 H0 F0 ra Fs σs Hs Γs F3 _ H1 _ D Ψ ⟨S.base, S.no, ?_, fun i hi => ?_, fun y ey => ?_⟩ hr e
  · exact ⟨s4.rp, fun b u z => s4.ff b u (S.cur.ff b u z), s4.en, s4.fr, s4.gro, fun b u z => (s4.nf b u z).elim (S.cur.nf b u) .inr, fun z => by cases z⟩
  · rw [List.getElem?_set_ne (fun z : x = i => hx (z ▸ hi))]
    exact S.kp i hi
  · cases ey
    refine ⟨A, acc, List.getElem?_set_self (by rw [← s3.rp.len]; exact hl), nn hA, k3 _ _ hA hP1 lst_nt, fun u hu => ?_⟩
    obtain ⟨c1, b1, nm, ws, e1, k1, k2, k4, k4', k5⟩ := hP2 u hu
    exact ⟨c1, b1, nm, ws, e1, k3 _ _ k4' k1 tup_nt, k2, nn k4, nn k4', k3 _ _ k4 k5 lst_nt⟩
inductive MidG : List Bool → Gm → Gm → Gm → Prop
  | nil : MidG [] [] [] []
  | skip {b : Bool} {m : List Bool} {e e' : Option En} {Γs Γ Γn : Gm} : MidG m Γs Γ Γn → MidG (b :: m) (e :: Γs) (e' :: Γ) (none :: Γn)
  | nol {b : Bool} {m : List Bool} {e : Option En} {d : D} {Γs Γ Γn : Gm} : Nol d → MidG m Γs Γ Γn → MidG (b :: m) (e :: Γs) (some (.shr d) :: Γ) (some (.shr d) :: Γn)
  | kept {m : List Bool} {e' : Option En} {d : D} {Γs Γ Γn : Gm} : MidG m Γs Γ Γn → MidG (true :: m) (some (.shr d) :: Γs) (e' :: Γ) (some (.shr d) :: Γn)
theorem MidG.len : ∀ {m : List Bool} {Γs Γ Γn : Gm}, MidG m Γs Γ Γn → Γn.length = Γ.length
  | _, _, _, _, .nil => rfl
  | _, _, _, _, .skip h => congrArg (· + 1) h.len
  | _, _, _, _, .nol _ h => congrArg (· + 1) h.len
  | _, _, _, _, .kept h => congrArg (· + 1) h.len
theorem MidG.get : ∀ {m : List Bool} {Γs Γ Γn : Gm}, MidG m Γs Γ Γn → ∀ (i : Nat) (e : En), Γn[i]? = some (some e) → ∃ d, e = .shr d ∧ ((Nol d ∧ Γ[i]? = some (some (.shr d))) ∨ (m[i]? = some true ∧ Γs[i]? = some (some (.shr d))))
  | _, _, _, _, .nil, i, e, h => by simp at h
  | _, _, _, _, .skip g, 0, e, h => by simp at h
  | _, _, _, _, .skip g, i + 1, e, h => by simpa using g.get i e (by simpa using h)
  | _, _, _, _, .nol n g, 0, e, h => by simp at h; exact ⟨_, h.symm, .inl ⟨n, by simp⟩⟩
  | _, _, _, _, .nol n g, i + 1, e, h => by simpa using g.get i e (by simpa using h)
  | _, _, _, _, .kept g, 0, e, h => by simp at h; exact ⟨_, h.symm, .inr ⟨by simp, by simp⟩⟩
  | _, _, _, _, .kept g, i + 1, e, h => by simpa using g.get i e (by simpa using h)
def wSnE (m : List Bool) (p q x : Nat) (u : WS) : WSn := fun Γs Ψ Γ => q < Γ.length ∧ p < Γ.length ∧ ∃ Γn, MidG m Γs Γ Γn ∧ Γn[p]? = some none ∧ Γn[q]? = some none ∧ Γn[x]? = some none ∧ u Ψ Γn
def idxs (m : List Bool) : List Nat := (List.range m.length).filter fun i => m[i]? == some true
theorem idxs_mem {m : List Bool} {i : Nat} (h : m[i]? = some true) : i ∈ idxs m := List.mem_filter.mpr ⟨List.mem_range.mpr (List.getElem?_eq_some_iff.mp h).1, by rw [h]; rfl⟩
theorem snd_clear {m : List Bool} {p q x : Nat} (hm : ∀ i, m[i]? = some true → i ∈ ks) (hpq : p ≠ q) (hxp : x ≠ p) (hxq : x ≠ q) (h : SD T false E s2 u1) :
    Snd T E ks (some x) (tSeq (tFor (iList T.K (tVar x)) (gTup T.K 2 (gCons (gName p) (gCons (gName q) gNil))) (tDrop (tBM0 T.K "list" rClear (tVar q)))) (tSeq (tDrop (tBM0 T.K "list" rClear (tVar x))) s2)) (wSnE m p q x u1) := fun H0 F0 ra Fs σs Hs Γs F σ H Γ D Ψ S hw e => by
  obtain ⟨lq, lp, Γn, hg, gp, gq, gx, hw⟩ := hw
  obtain ⟨A, acc, hσ, hA, fA, hP⟩ := S.xs x rfl
  have rp := S.cur.rp
  have HA := rp.sub _ _ fA
  have sq : ∀ {H' : Hp}, H' A = some (.lst acc) → SqL T.K H' A acc := fun z => .inl (.inl z)
  refine ⟨_, hσ, A, rfl, ⟨acc, sq HA⟩, fun i n σ' H' => n = acc.length - i ∧ i ≤ acc.length ∧ σ'.length = σ.length ∧ (∀ j, j ≠ p → j ≠ q → σ'[j]? = σ[j]?) ∧ (∀ b, H' b = H b ∨ (b ≠ A ∧ Hs b = none ∧ ∃ vs ws, H b = some (.lst vs) ∧ H' b = some (.lst ws))) ∧ (∀ P ∈ T.ts, Tab H' P) ∧ ∀ p ∈ T.ls, TabL H' p.1 p.2.1 p.2.2, ⟨_, rfl, Nat.zero_le _, rfl, fun _ _ _ => rfl, fun _ => .inl rfl, rp.tabs, rp.labs⟩, ?_⟩
  rintro i n σ' H' ⟨rfl, hi, hl, hs, hc, ht, hL⟩
  have HA' : H' A = some (.lst acc) := by
    rcases hc A with z | z
    · rw [z]; exact HA
    · exact absurd rfl z.1
  by_cases hlt : i < acc.length
  · refine .inr ⟨⟨acc, acc[i], sq HA', List.getElem?_eq_getElem hlt⟩, fun σ' H' => i + 1 ≤ acc.length ∧ σ'.length = σ.length ∧ (∀ j, j ≠ p → j ≠ q → σ'[j]? = σ[j]?) ∧ (∀ b, H' b = H b ∨ (b ≠ A ∧ Hs b = none ∧ ∃ vs ws, H b = some (.lst vs) ∧ H' b = some (.lst ws))) ∧ (∀ P ∈ T.ts, Tab H' P) ∧ ∀ p ∈ T.ls, TabL H' p.1 p.2.1 p.2.2, fun σ' H' hh => ⟨acc.length - (i + 1), by omega, rfl, hh⟩, fun y H'' hy => ?_⟩
    obtain ⟨rfl, hy⟩ := hy
    have ey := hy acc (sq HA')
    rw [List.getElem?_eq_getElem hlt] at ey
    obtain ⟨c, b, nm, ws, e1, k1, k2, k3, k3', k4⟩ := hP _ (List.getElem_mem hlt)
    rw [e1] at ey
    cases ey
    have hc1 : H'' c = some (.tup [nm, .ref b]) := by
      rcases hc c with z | ⟨_, _, vs, ws, z, _⟩
      · rw [z]; exact rp.sub _ _ k1
      · rw [rp.sub _ _ k1] at z; cases z
    have hb0 := rp.sub _ _ k4
    obtain ⟨ws', hb1⟩ : ∃ ws', H'' b = some (.lst ws') := by
      rcases hc b with z | ⟨_, _, vs, ws1, z, z2⟩
      · exact ⟨ws, by rw [z]; exact hb0⟩
      · exact ⟨ws1, z2⟩
    refine ⟨c, _, rfl, .inl (.inl hc1), rfl, nm, _, rfl, _, _, rfl, rfl, ?_⟩
    refine ⟨.ref b, ?_, .inl ⟨rfl, ws', .inl (.inl hb1)⟩, b, ws', rfl, rfl, hb1, hlt, by rw [List.length_set, List.length_set]; exact hl, fun j j1 j2 => ?_, fun a => ?_, fun P hP => tab_lst hb1 (ht P hP), fun l hl => lab_lst hb1 (hL l hl)⟩
    · exact List.getElem?_set_self (by rw [List.length_set, hl, ← rp.len]; exact lq)
    · rw [List.getElem?_set_ne (Ne.symm j2), List.getElem?_set_ne (Ne.symm j1)]
      exact hs j j1 j2
    · by_cases z : a = b
      · subst z
        exact .inr ⟨k2, k3, _, _, hb0, upd_same⟩
      · rw [upd_ne z]
        exact hc a
  · have hi : i = acc.length := by omega
    subst hi
    refine .inl ⟨⟨acc, sq HA', Nat.le_refl _⟩, ?_⟩
    have hσ' : σ'[x]? = some (some (.ref A)) := by rw [hs x hxp hxq]; exact hσ
    refine ⟨_, hσ', .inl ⟨rfl, acc, .inl (.inl HA')⟩, A, acc, rfl, rfl, HA', ?_⟩
    have cl : ∀ b, (upd H' A (.lst [])) b = H b ∨ (Hs b = none ∧ ∃ vs ws, H b = some (.lst vs) ∧ (upd H' A (.lst [])) b = some (.lst ws)) := fun b => by
      by_cases z : b = A
      · subst z
        exact .inr ⟨hA, _, _, HA, upd_same⟩
      · rw [upd_ne z]
        rcases hc b with y | ⟨_, y1, vs, ws, y2, y3⟩
        · exact .inl y
        · exact .inr ⟨y1, vs, ws, y2, y3⟩
    have tb : ∀ P ∈ T.ts, Tab (upd H' A (.lst [])) P := fun P hP => tab_lst HA' (ht P hP)
    have lb : ∀ p ∈ T.ls, TabL (upd H' A (.lst [])) p.1 p.2.1 p.2.2 := fun l hl => lab_lst HA' (hL l hl)
    generalize upd H' A (.lst []) = Hz at cl tb lb
    obtain ⟨Fc, hFc⟩ : ∃ Fc : Hp, Fc = fun b => match nlF F b with | some u => some u | none => Fs b := ⟨_, rfl⟩
    have get : ∀ b u, Fc b = some u → nlF F b = some u ∨ Fs b = some u := fun b u z => by
      rw [hFc] at z
      cases y : nlF F b with
      | none => simp only [y] at z; exact .inr z
      | some u' => simp only [y] at z; exact .inl z
    have f1 : Same (nlF F) Fc := fun b u z => by rw [hFc]; simp only [z]
    have f2 : Same Fs Fc := fun b u z => by
      rw [hFc]
      cases y : nlF F b with
      | none => simp only [y]; exact z
      | some u' =>
        have := (nl_of y).1
        rw [S.cur.ff b u z] at this
        cases this
        simp only [y]
    have old : ∀ b u, Fc b = some u → F b = some u := fun b u z => by
      rcases get b u z with y | y
      · exact (nl_of y).1
      · exact S.cur.ff b u y
    have subz : Same Fc Hz := fun b u z => by
      rcases cl b with y | ⟨y1, vs, ws, y2, y3⟩
      · rw [y]; exact rp.sub b u (old b u z)
      · rcases get b u z with k | k
        · have := rp.sub b u (nl_of k).1
          rw [y2] at this
          cases this
          exact absurd rfl ((nl_of k).2 vs)
        · have := S.base.rp.sub b u k
          rw [y1] at this
          cases this
    refine h H0 F0 ra Fc σ' Hz Γn D Ψ ⟨⟨⟨subz, fun b u z => rp.nt b u (old b u z), tb, lb⟩, by rw [hg.len, hl]; exact rp.len, fun j en z => ?_, fun j _ ds _ _ z => ?_⟩, fun b u z => f2 b u (S.base.ff b u z), fun b u z n y => ?_, fun b ob => ?_, fun b u z => ?_, fun b u z => ?_, fun z => by cases z⟩ hw e
    · obtain ⟨d, rfl, hd⟩ := hg.get j en z
      have jp : j ≠ p := fun k => by rw [k, gp] at z; cases z
      have jq : j ≠ q := fun k => by rw [k, gq] at z; cases z
      rcases hd with ⟨nd, z2⟩ | ⟨z2, z3⟩
      · obtain ⟨v, h1, h2⟩ := rp.at_ j _ z2
        exact ⟨v, by rw [hs j jp jq]; exact h1, (Rep.nol h2 nd).mono f1⟩
      · obtain ⟨v, h1, h2⟩ := S.base.rp.at_ j _ z3
        exact ⟨v, by rw [hs j jp jq, S.kp j (hm j z2)]; exact h1, Rep.mono f2 h2⟩
    · obtain ⟨d, z2, _⟩ := hg.get j _ z
      cases z2
    · have h1 := S.base.en b u z n y
      have h2 := S.cur.en b u h1 n (fun k => by cases k.1)
      rcases cl b with k | ⟨k, _⟩
      · rw [k]; exact h2
      · rw [h1] at k; cases k
    · obtain ⟨j, ds, z, _⟩ := ob
      obtain ⟨d, z2, _⟩ := hg.get j _ z
      cases z2
    · obtain ⟨u1, h1⟩ := S.base.gro b u z
      obtain ⟨u2, h2⟩ := S.cur.gro b u1 h1
      rcases cl b with k | ⟨_, _, ws, _, k⟩
      · exact ⟨u2, by rw [k]; exact h2⟩
      · exact ⟨_, k⟩
    · rcases S.cur.nf b u (old b u z) with k | k | k
      · exact S.base.nf b u k
      · exact .inr (.inl (S.base.none k))
      · cases k.1
variable {Ψ : WEnds} {m : List Bool} {p q x : Nat} {d : D} {ds : List D}
theorem sn0_ap : wSn0 w2 Ψ Γ = w2 (noOwn Γ) Ψ (noOwn Γ) := rfl
theorem snS_ap : wSnS u1 w2 Γs Ψ Γ = u1 { Ψ with nx := w2 Γs Ψ } Γ := rfl
theorem snP_ap : wSnP x w w2 Γs Ψ Γ = w Γ (fun r Γ1 => frzR Γ1 r fun d Γ2 => sideR (x < Γ2.length) (w2 Γs Ψ (Γ2.set x (some (.shr d))))) Ψ.xe := rfl
theorem snE_by (lq : q < Γ.length) (lp : p < Γ.length) (h1 : MidG m Γs Γ Γn) (h2 : Γn[p]? = some none) (h3 : Γn[q]? = some none) (h4 : Γn[x]? = some none) (h : goR (u1 Ψ) Γn) : wSnE m p q x u1 Γs Ψ Γ := ⟨lq, lp, Γn, h1, h2, h3, h4, h⟩
end
structure QSn (X : Cx) (T : Tb) (E : XK) (ks : List Nat) (o : Option Nat) (st : List Stmt) (t : TS) (w : WSn) : Prop where
  pe : PSs X st t
  ed : Snd T E ks o t w
section
variable {X : Cx} {T : Tb} {E : XK} {e : Expr} {st st2 : Stmt} {sts : List Stmt} {w : WE} {s1 s2 : TS} {u0 u1 u2 : WS} {w2 : WSn} {m : List Bool} {ks : List Nat} {o : Option Nat} {r p q x : Nat} {y : Str} {py spos : Pos}
theorem q_snap (h : QSn X T E ks none sts s2 w2) : QSs X T false E sts s2 (wSn0 w2) := ⟨h.pe, sd_snap h.ed⟩
theorem q_snS (h1 : QS X T false E st s1 u1) (hk : KeepE s1 fun i => i ∈ ks ∨ o = some i) (h2 : QSn X T E ks o sts s2 w2) : QSn X T E ks o (st :: sts) (tSeq s1 s2) (wSnS u1 w2) := ⟨pss_cons h1.pe h2.pe, snd_stm h1.ed hk h2.ed⟩
theorem q_snP (hx : x ∉ ks) (h1 : QS X T false E (.Assign [.Name y py] e spos) (tAsg (tPairs T.K r p q) (gName x)) u0) (he : QE X T E e (tPairs T.K r p q) w) (h2 : QSn X T E ks (some x) sts s2 w2) : QSn X T E ks none (.Assign [.Name y py] e spos :: sts) (tSeq (tAsg (tPairs T.K r p q) (gName x)) s2) (wSnP x w w2) := ⟨pss_cons h1.pe h2.pe, snd_pairs hx he.ed h2.ed⟩
theorem q_snC (hpq : p ≠ q) (hxp : x ≠ p) (hxq : x ≠ q) (h1 : QS X T false E st (tFor (iList T.K (tVar x)) (gTup T.K 2 (gCons (gName p) (gCons (gName q) gNil))) (tDrop (tBM0 T.K "list" rClear (tVar q)))) u0) (h2 : QS X T false E st2 (tDrop (tBM0 T.K "list" rClear (tVar x))) u2) (h : QSs X T false E sts s2 u1) :
    QSn X T E (idxs m) (some x) (st :: st2 :: sts) (tSeq (tFor (iList T.K (tVar x)) (gTup T.K 2 (gCons (gName p) (gCons (gName q) gNil))) (tDrop (tBM0 T.K "list" rClear (tVar q)))) (tSeq (tDrop (tBM0 T.K "list" rClear (tVar x))) s2)) (wSnE m p q x u1) :=
  ⟨pss_cons h1.pe (pss_cons h2.pe h.pe), snd_clear (fun i h => idxs_mem h) hpq hxp hxq h.ed⟩
end
end Dt
set_option Elab.async false
set_option linter.all false
set_option maxRecDepth 100000
set_option maxHeartbeats 4000000
namespace Law
open PySem L2 Kx Dt
local macro_rules | `(tactic| walk_at "ev") => `(tactic| (try simp only [↓raiseI_ap, ↓fldX_ap, ↓cntL_ap, ↓dCntL_ap, ↓hdE_nx, ↓raise_ap, ↓ifT_ap, ↓disiN_ap, ↓isX_ap, ↓isX_val, ↓callT_ap, ↓startI_ap, ↓fstr_ap, ↓j0_ap, ↓jT_ap, ↓jV_ap, ↓fmt_str, ↓fmt_int, ↓revS_ap, ↓inDeep_ap, ↓fr_ix0, ↓fr_ix1, ↓izG_ap, ↓src_lst, ↓src_tup, ↓BS_ap, ↓allG_ap, ↓ddm_ap, ↓txR_val, ↓flat_ap, ↓ext_ap, ↓newR_new, ↓drepS_ap, ↓lend_ap, ↓lstS_ap, ↓ljF_ap, ↓valR_val, ↓dstar_lst, ↓dstar_tup, ↓dsplit_str, ↓drmp_str, ↓dpart_str, ↓drstr_str, ↓dpad_int, ↓ieC_ap, ↓atsR_nil, ↓atsR_cons, ↓inS_str, ↓lenSet_ap, ↓meth_ap, ↓two_ap, ↓sn0_ap, ↓snS_ap, ↓snP_ap, ↓noOwn_nil, ↓noOwn_cons, ↓noOwnE_none, ↓noOwnE_shr, ↓noOwnE_own, ↓seq_ap, ↓next_ap, ↓brk_ap, ↓cnt_ap, ↓drop_ap, ↓ret_ap, ↓retN_ap, ↓ifS_ap, ↓set_ap, ↓asg_ap, ↓putAt_ap, ↓par_ap, ↓aug_ap, ↓augAt_ap, ↓C_ap, ↓op_ap, ↓un_ap, ↓B_ap, ↓cmp_ap, ↓not_ap, ↓and_ap, ↓or_ap, ↓if_ap, ↓andV_ap, ↓orV_ap, ↓notV_ap, ↓chain_ap, ↓nil_ap, ↓cons_ap, ↓cb_ap, ↓tup_ap, ↓lst_ap, ↓call_ap, ↓callF, ↓callT, ↓sl_ap, ↓noP_ap, ↓prt_ap, ↓m1_ap, ↓rev_ap, ↓clr_ap, ↓app_ap, ↓gN_ap, ↓gT_ap, ↓g0_ap, ↓g1_ap, ↓il_ap, ↓it_ap, ↓ir1_ap, ↓ir2_ap, ↓is_ap, ↓ie_ap, ↓iz_ap, ↓for_ap, ↓lc_ap, ↓lcO_ap, ↓var_ap, ↓end_rt, ↓end_nx, ↓retT_val, ↓retT_new, ↓retT_slot, ↓retF_val, ↓retF_new, ↓retF_slot, ↓getR_val, ↓getR_new, ↓getR_slot, ↓blR_val, ↓intR_val, ↓strR_val, ↓frzR_val, ↓frzR_new, ↓frzR_slot, ↓atsR_nil, ↓atsR_cons, ↓frzLR_nil, ↓frzLR_cons, ↓ownR_ap, ↓shrR_ap, ↓anyR_ap, ↓ixR_ap, ↓atR_ap, ↓iteR_true, ↓iteR_false, ↓sideR_true, ↓put_val', ↓put_new', ↓put_slot, ↓I0_int, ↓I_ap, ↓B_int, ↓bod_eq, ↓sc_int, ↓sc_str, ↓sc_bl, ↓dx_lst, ↓dx_scr, ↓dx_tup, ↓dx_str, ↓len_lst, ↓len_tup, ↓len_scr, ↓dlen_str, ↓one_int, ↓two_int, ↓isi_ap, ↓din_tup, ↓din_lst, ↓daddS, ↓dcat, ↓dneg_int, ↓list_lst, ↓list_tup, ↓dtuple_lst, ↓dtuple_tup, ↓sl_lst, ↓dsl_str, ↓isN_non, ↓deq_ap, ↓dStrI_ap, ↓dInt1_bl, ↓dInt1_int, ↓drep_ap, ↓djoin_ap, startT, startF, goR_ap, varM_shr, varM_own, getM_shr, getM_own, frzM_shr, frzM_own, ownM_own, shrM_shr, anyM_some, ixM_some, atM_some, boM_some, retM_shr, retM_own, isi_int_int, isi_int_bool, isi_int_str, isi_int_tuple, isi_bl_int, isi_bl_bool, isi_bl_str, isi_bl_tuple, isi_str_int, isi_str_bool, isi_str_str, isi_str_tuple, isi_lst, isi_tup, v_int, v_str, v_bl, v_non, fl_int, fl_str, fl_bl, fl_non, List.all_cons, List.all_nil, Bool.and_self, end_xe, hold_val, hold_new, hold_slot, ix0, ix1, ix2, ixN_0, ixN_1, ixN_2, List.map_cons, List.map_nil, List.length_cons, List.length_nil, List.cons_append, List.nil_append, List.replicate_succ, List.replicate_zero, List.getElem?_cons_zero, List.getElem?_cons_succ, List.getElem?_nil, List.set_cons_zero, List.set_cons_succ, List.set_nil, and_true, true_and, reduceIte, reduceCtorEq, Bool.false_eq_true, Bool.not_true, Bool.not_false, if_true, if_false, Nat.zero_add, Nat.reduceAdd, Nat.reduceSub, wipeG, rstG]))
local macro_rules | `(tactic| walk_at "side") => `(tactic| first
  | assumption
  | exact ⟨by decide, by decide, by decide⟩
  | exact ⟨by decide, by decide⟩
  | (show (0 : Int) < _; decide)
  | (show (0 : Int) < _; omega)
  | exact Or.inr (Or.inr ⟨by omega, by omega⟩)
  | exact Or.inr (Or.inl ⟨by omega, by omega⟩)
  | exact ⟨by omega, Bd.mono (n := 8000) (m := 400) (by unfold Bd; omega) (by decide)⟩
  | exact ⟨by omega, by omega⟩
  | exact Nat.le_trans (m := 1000) (by simp) (by decide)
  | (show _ ≤ 16777216; omega)
  | rfl
  | decide)
local macro_rules | `(tactic| walk_at "sd") => `(tactic| (refine sideR_by (by walk_at "side") fun _ => ?_; walk_at "ev"))
def top (i : Nat) : Stmt := PySem.Challenge.pw_chartscribe_k12_tables_made.main.body.getD i (.Pass ⟨0, 0, 0, 0⟩)
abbrev LSK (K : PySem.W.Frag) : List (Addr × Pos × Str) := []
abbrev tabG0 (K : PySem.W.Frag) : Addr := ((PySem.W.tabIn K "is_name").map (·.2)).getD 0
abbrev tabG1 (K : PySem.W.Frag) : Addr := ((PySem.W.tabIn K "are_series").map (·.2)).getD 0
abbrev tabG2 (K : PySem.W.Frag) : Addr := ((PySem.W.tabIn K "is_row").map (·.2)).getD 0
abbrev TSK (K : PySem.W.Frag) : List Addr := [tabG0 K, tabG1 K, tabG2 K]
def mok_NoTable : List D → Prop := mokSmall
def wf_is_name : WF := Dtq.wf_is_name
def wf_are_series : WF := Dtq.wf_are_series
def wf_is_within : WF := Dtq.wf_is_within
def wf_is_row : WF := Dtq.wf_is_row
def wf_table_of : WF := Dtq.wf_table_of
def wf__law_low : WF := fun ds row Ψ Ξ => ∃ t b : Int, ds = [.int t, .int b] ∧ b ≠ 0 ∧ Bd 3100 t ∧ Bd 3100 b ∧ Ψ (.val (frD (lowT t b, lowB t b))) []
def wf__law_names : WF := fun ds row Ψ Ξ => ∃ (m N : Int), ds = [.int m] ∧ RowD N row ∧ 0 ≤ N ∧ N < 2 ^ 40 ∧ 1 ≤ m ∧ m ≤ 12 ∧ ∀ (ss : List Str) row', (ss.length : Int) = m → (∀ s ∈ ss, Nm s) → ss.Nodup → RowD (N + 20) row' → Ψ (.new (ss.map .str)) row'
def wf__law_number : WF := fun ds row Ψ Ξ => ∃ N : Int, ds = [] ∧ RowD N row ∧ 0 ≤ N ∧ N < 2 ^ 40 ∧ ∀ (n : NT) row', Small n → RowD (N + 100) row' → Ψ (.val (frN n)) row'
def wf__law_table : WF := fun ds row Ψ Ξ => ∃ (m N : Int), ds = [.int m] ∧ RowD N row ∧ 0 ≤ N ∧ N < 2 ^ 30 ∧ 1 ≤ m ∧ m ≤ 12 ∧ ∀ (ss : List Str) (rs : List TRow) row', TOk ss rs → RowD (N + 100000) row' → Ψ (.val (.tup [.lst (ss.map .str), .lst (rs.map rowIn)])) row'
def G (rs : List TRow) : List GR := rs.map trF
theorem rowIn_G (rs : List TRow) : rs.map rowIn = (G rs).map rwL := by
  unfold G
  rw [List.map_map]
  refine List.map_congr_left fun r _ => ?_
  unfold rowIn trF rwL
  rw [Function.comp_apply, List.map_map]
  rfl
structure Gd (ss : List Str) (gs : List GR) : Prop where
  s1 : 1 ≤ ss.length
  s4 : ss.length ≤ 4
  snd : ss.Nodup
  snm : ∀ s ∈ ss, Nm s
  r1 : 1 ≤ gs.length
  r12 : gs.length ≤ 12
  rnd : (gs.map (·.1)).Nodup
  rnm : ∀ r ∈ gs, Nm r.1
  rl : ∀ r ∈ gs, r.2.length = ss.length
  rn : ∀ r ∈ gs, ∀ f ∈ r.2, FrB f ∧ inB f = true
theorem gd_in {ss : List Str} {gs : List GR} (gd : Gd ss gs) : ∀ x ∈ gs, x.1.length ≤ 100 ∧ x.2.length ≤ 20 ∧ ∀ f ∈ x.2, FrB f := fun x hx => by
  have h1 := nm_len (gd.rnm x hx)
  have h2 := gd.rl x hx
  have h4 := gd.s4
  exact ⟨by omega, by omega, fun f hf => (gd.rn x hx f hf).1⟩
theorem sl_of {ss : List Str} {gs : List GR} (gd : Gd ss gs) : ∀ s ∈ ss, s.length ≤ 100 := fun s h => by have := nm_len (gd.snm s h); omega
theorem tin_of {ss : List Str} {hs : List GR} (h1 : ss.length ≤ 500) (h2 : ∀ s ∈ ss, s.length ≤ 100) (h3 : hs.length ≤ 500) (h4 : ∀ x ∈ hs, x.1.length ≤ 100 ∧ x.2.length ≤ 20 ∧ ∀ f ∈ x.2, FrB f) : Dtq.TIn ss hs :=
  ⟨h1, fun s h => by have := h2 s h; omega, h3, fun x hx => by obtain ⟨a, b, c⟩ := h4 x hx; exact ⟨by omega, by omega, c⟩⟩
theorem tab_ser {ss : List Str} {hs : List GR} (h : serB ss = false) : tabBad ss hs = some (-1) := by unfold tabBad; rw [h]; rfl
theorem ser_true {ss : List Str} {gs : List GR} (gd : Gd ss gs) : serB ss = true := by
  unfold serB
  rw [decide_eq_true gd.s1, decide_eq_true gd.s4, decide_eq_true gd.snd, List.all_eq_true.mpr fun s h => nm_true (gd.snm s h)]
  rfl
theorem frb_nt {n : NT} (h : Small n) : FrB (ntF n) := by
  have b := ntF_bd h.num
  have l := low_low (t := nT n.1 n.2.1 n.2.2) (nB_pos n.2.2)
  exact ⟨(ntF_pos n).1, b.1.mono (by decide), b.2.mono (by decide), l.1, l.2⟩
theorem gd_of {ss : List Str} {rs : List TRow} (h : TOk ss rs) : Gd ss (G rs) := by
  refine ⟨h.s1, h.s4, h.snd, h.snm, by unfold G; rw [List.length_map]; exact h.r1, by unfold G; rw [List.length_map]; exact h.r12, ?_, fun r hr => ?_, fun r hr => ?_, fun r hr f hf => ?_⟩
  · unfold G
    rw [List.map_map]
    exact h.rnd
  all_goals obtain ⟨q, hq, rfl⟩ := List.mem_map.mp hr
  · exact h.rnm q hq
  · show (q.2.map ntF).length = _
    rw [List.length_map]
    exact h.rl q hq
  · obtain ⟨n, hn, rfl⟩ := List.mem_map.mp hf
    have hs := h.rn q hq n hn
    have hi := small_in hs
    refine ⟨frb_nt hs, ?_⟩
    unfold inB
    rw [decide_eq_true hi.1, decide_eq_true hi.2]
    rfl
theorem rows_good {many : Nat} : ∀ {gs : List GR} {ah : List Str} {i : Nat}, (ah ++ gs.map (·.1)).Nodup → (∀ x ∈ gs, Nm x.1 ∧ x.2.length = many ∧ ∀ f ∈ x.2, inB f = true) → rowsBad many ah i gs = none
  | [], ah, i, _, _ => rfl
  | p :: t, ah, i, nd, hp => by
    obtain ⟨h1, h2, h3⟩ := hp p (List.mem_cons_self ..)
    have hni : p.1 ∉ ah := fun z => by
      rw [List.map_cons, List.nodup_append] at nd
      exact nd.2.2 _ z _ (List.mem_cons_self ..) rfl
    have hr : rowB many ah p = true := by
      unfold rowB
      rw [nm_true h1, decide_eq_false hni, decide_eq_true h2, List.all_eq_true.mpr h3]
      rfl
    rw [rowsBad_cons, if_pos hr]
    exact rows_good (by rw [List.append_assoc]; exact nd) fun x hx => hp x (List.mem_cons_of_mem _ hx)
theorem tab_good {ss : List Str} {gs : List GR} (gd : Gd ss gs) : tabBad ss gs = none := by
  unfold tabBad
  rw [if_pos (ser_true gd), if_pos ⟨gd.r1, gd.r12⟩, rows_good (by rw [List.nil_append]; exact gd.rnd) fun x hx => ⟨gd.rnm x hx, gd.rl x hx, fun f hf => (gd.rn x hx f hf).2⟩]
  rfl
theorem ser_dep {ss : List Str} {gs : List GR} (gd : Gd ss gs) : Dep 1 (.tup (ss.map D.str)) := .tup fun x hx => by
  obtain ⟨y, hy, rfl⟩ := List.mem_map.mp hx
  exact .str (strOk_iff.mpr fun c hc => by have := (gd.snm y hy).az c hc; omega)
theorem nol_tbl {ss : List Str} {gs : List GR} : Nol (tblD ss gs) := .tup (.cons (.tup (.of fun d hd => by
  obtain ⟨x, _, rfl⟩ := List.mem_map.mp hd
  exact .str x)) (.cons (.tup (.of fun d hd => by
  obtain ⟨r, _, rfl⟩ := List.mem_map.mp hd
  exact .tup (.cons (.str _) (.cons (.tup (.of fun d hd => by
    obtain ⟨f, _, rfl⟩ := List.mem_map.mp hd
    exact .tup (.cons (.int _) (.cons (.int _) .nil)))) .nil)))) .nil))
theorem rows_dep {ss : List Str} {gs : List GR} (gd : Gd ss gs) : Dep 4 (.lst (gs.map rwL)) := .lst fun x hx => by
  obtain ⟨r, hr, rfl⟩ := List.mem_map.mp hx
  exact .tup fun x hx => by
    rcases List.mem_cons.mp hx with rfl | hx
    · exact .str (strOk_iff.mpr fun c hc => by have := (gd.rnm r hr).az c hc; omega)
    · rw [List.mem_singleton.mp hx]
      exact .lst fun x hx => by
        obtain ⟨p, hp, rfl⟩ := List.mem_map.mp hx
        exact fr_dep
theorem serl_dep {ss : List Str} {gs : List GR} (gd : Gd ss gs) : Dep 1 (.lst (ss.map D.str)) := .lst fun x hx => by
  obtain ⟨y, hy, rfl⟩ := List.mem_map.mp hx
  exact .str (strOk_iff.mpr fun c hc => by have := (gd.snm y hy).az c hc; omega)
theorem tbl_dep {ss : List Str} {gs : List GR} (gd : Gd ss gs) : Dep 5 (tblD ss gs) := .tup fun d hd => by
  rcases List.mem_cons.mp hd with rfl | hd
  · exact (ser_dep gd).up (by decide)
  · rw [List.mem_singleton.mp hd]
    exact .tup fun x hx => by
      obtain ⟨r, hr, rfl⟩ := List.mem_map.mp hx
      exact .tup fun x hx => by
        rcases List.mem_cons.mp hx with rfl | hx
        · exact .str (strOk_iff.mpr fun c hc => by have := (gd.rnm r hr).az c hc; omega)
        · rw [List.mem_singleton.mp hx]
          exact .tup fun x hx => by
            obtain ⟨p, hp, rfl⟩ := List.mem_map.mp hx
            exact fr_dep
def wf_law : WF := fun ds row Ψ Ξ => ∃ ns : List Int, ds = [.scr (ns.map .int)] ∧ ns.length ≤ 63 ∧ Ψ (.val (.bl true)) []
def w_is_whole : WS := (wRet (wAndV (wCB dIsi (wACons (wVar 0) (wACons (wC (.ty "int")) wANil))) (wNotV (wCB dIsi (wACons (wVar 0) (wACons (wC (.ty "bool")) wANil))))))
theorem d_is_whole : ∀ ds row Ψ Ξ, wf_is_whole ds row Ψ Ξ → goR (w_is_whole (endsW false Ψ fun _ => False)) (startW false 1 ds row) := by
  rintro ds row Ψ Ξ ⟨t, rfl, q⟩
  unfold w_is_whole
  walk_at "ev"
  exact q
abbrev s_is_whole : Stmt := top 5
theorem sc_is_whole : FnScope ["thing"] ["thing"] (defScope s_is_whole) := ⟨rfl, rfl, rfl, by decide +kernel, rfl, by decide +kernel, by decide +kernel⟩
theorem ok_is_whole {P : Program} {w : World} {K : PySem.W.Frag} {mg : Str → Option Value} {base : Heap} {f : Addr} {fd : FuncData} (F : Fun K "is_whole" "is_whole" s_is_whole f fd)  (z_isinstance : mg "isinstance" = none) (z_int : mg "int" = none) (z_bool : mg "bool" = none) : FnOk P w K mg base (CXE P w) 1 f fd ["thing"] (spD ⟨K, TSK K, LSK K⟩ false wf_is_whole) := by
  have nd := (sc_is_whole).nd
  refine fn_d F sc_is_whole (by decide) (fun ds row Ψ Ξ h => by first | (obtain ⟨rfl, _⟩ := h; rfl) | (obtain ⟨_, rfl, _⟩ := h; rfl) | (obtain ⟨_, _, rfl, _⟩ := h; rfl) | (obtain ⟨_, _, _, rfl, _⟩ := h; rfl) | (obtain ⟨_, _, _, _, rfl, _⟩ := h; rfl) | (obtain ⟨_, _, _, _, _, rfl, _⟩ := h; rfl) | (obtain ⟨_, _, _, _, _, _, rfl, _⟩ := h; rfl) | (obtain ⟨_, _, _, _, _, _, _, rfl, _⟩ := h; rfl) | (obtain ⟨_, _, _, _, _, _, _, _, rfl, _⟩ := h; rfl) | (obtain ⟨_, _, _, _, _, _, _, _, _, rfl, _⟩ := h; rfl) | (obtain ⟨_, _, _, _, _, _, _, _, _, _, rfl, _⟩ := h; rfl) | (obtain ⟨_, _, _, _, _, _, _, _, _, _, _, rfl, _⟩ := h; rfl) | (obtain ⟨_, _, _, _, _, _, _, _, _, _, _, _, rfl, _⟩ := h; rfl) | (obtain ⟨_, _, _, _, _, _, _, _, _, _, _, _, _, rfl, _⟩ := h; rfl)) d_is_whole (fun cdv A outer s H E hr => ⟨_, (q_s1 (q_ret (q_andV (q_cB (call_isiK (by rfl)) cd_isi (by rfl) z_isinstance (by decide +kernel) (q_cons (q_v 0 (pv 0)) (q_cons (q_glob (pe_bltn (v := .ty "int") (by rfl) z_int (by decide +kernel) rfl) (fun _ => .ty _)) q_nil (by rfl)) (by rfl)) (by decide) (by decide) (by rfl)) (q_one (q_notV (q_cB (call_isiK (by rfl)) cd_isi (by rfl) z_isinstance (by decide +kernel) (q_cons (q_v 0 (pv 0)) (q_cons (q_glob (pe_bltn (v := .ty "bool") (by rfl) z_bool (by decide +kernel) rfl) (fun _ => .ty _)) q_nil (by rfl)) (by rfl)) (by decide) (by decide) (by rfl)))))))⟩)
def w_common_divisor : WS := (wSeq (wWhile (wCmp (bSc not) (wVar 1) (wC (.int 0))) (wPar 0 1 (wACons (wVar 1) (wACons (wOp dMod (wVar 0) (wVar 1)) wANil))))
  (wRet (wVar 0)))
theorem d_common_divisor : ∀ ds row Ψ Ξ, wf_common_divisor ds row Ψ Ξ → goR (w_common_divisor (endsW false Ψ fun _ => False)) (startW false 2 ds row) := by
  rintro ds row Ψ Ξ ⟨x, y, rfl, x0, y0, q⟩
  unfold w_common_divisor
  refine ⟨fun m Γ => ∃ (x' y' : Int), Γ = [some (En.shr (D.int x')), some (En.shr (D.int y'))] ∧ 0 ≤ x' ∧ 0 ≤ y' ∧ m = y'.toNat ∧ Nat.gcd x'.toNat y'.toNat = Int.gcd x y, ⟨_, x, y, rfl, x0, y0, rfl, ?_⟩, ?_⟩
  · unfold Int.gcd
    congr 1 <;> omega
  rintro m Γ ⟨x', y', rfl, hx, hy, rfl, hg⟩
  walk_at "ev"
  by_cases h0 : y' = 0
  · subst h0
    simp only [decide_true, Bool.not_true]
    walk_at "ev"
    have e : x' = ((Int.gcd x y : Nat) : Int) := by
      rw [← hg]
      simp
      omega
    rw [e]
    exact q
  · simp only [h0, decide_false, Bool.not_false]
    walk_at "ev"
    refine sideR_by (show 0 < y' by omega) fun _ => ?_
    walk_at "ev"
    have h1 := Int.emod_nonneg x' h0
    have h2 := Int.emod_lt_of_pos x' (show 0 < y' by omega)
    refine ⟨(x' % y').toNat, by omega, _, _, rfl, hy, h1, rfl, ?_⟩
    have e : (x' % y').toNat = x'.toNat % y'.toNat := by
      have := Int.toNat_emod hx hy
      omega
    rw [e]
    exact gcd_step hg (by omega)
abbrev s_common_divisor : Stmt := top 6
theorem sc_common_divisor : FnScope ["one", "other"] ["one", "other"] (defScope s_common_divisor) := ⟨rfl, rfl, rfl, by decide +kernel, rfl, by decide +kernel, by decide +kernel⟩
theorem ok_common_divisor {P : Program} {w : World} {K : PySem.W.Frag} {mg : Str → Option Value} {base : Heap} {f : Addr} {fd : FuncData} (F : Fun K "common_divisor" "common_divisor" s_common_divisor f fd)   : FnOk P w K mg base (CXE P w) 1 f fd ["one", "other"] (spD ⟨K, TSK K, LSK K⟩ false wf_common_divisor) := by
  have nd := (sc_common_divisor).nd
  refine fn_d F sc_common_divisor (by decide) (fun ds row Ψ Ξ h => by first | (obtain ⟨rfl, _⟩ := h; rfl) | (obtain ⟨_, rfl, _⟩ := h; rfl) | (obtain ⟨_, _, rfl, _⟩ := h; rfl) | (obtain ⟨_, _, _, rfl, _⟩ := h; rfl) | (obtain ⟨_, _, _, _, rfl, _⟩ := h; rfl) | (obtain ⟨_, _, _, _, _, rfl, _⟩ := h; rfl) | (obtain ⟨_, _, _, _, _, _, rfl, _⟩ := h; rfl) | (obtain ⟨_, _, _, _, _, _, _, rfl, _⟩ := h; rfl) | (obtain ⟨_, _, _, _, _, _, _, _, rfl, _⟩ := h; rfl) | (obtain ⟨_, _, _, _, _, _, _, _, _, rfl, _⟩ := h; rfl) | (obtain ⟨_, _, _, _, _, _, _, _, _, _, rfl, _⟩ := h; rfl) | (obtain ⟨_, _, _, _, _, _, _, _, _, _, _, rfl, _⟩ := h; rfl) | (obtain ⟨_, _, _, _, _, _, _, _, _, _, _, _, rfl, _⟩ := h; rfl) | (obtain ⟨_, _, _, _, _, _, _, _, _, _, _, _, _, rfl, _⟩ := h; rfl)) d_common_divisor (fun cdv A outer s H E hr => ⟨_, (q_sc (q_while PassesOwn.never (q_cmpT op_ne bd_ne (q_v 1 (pv 1)) q_int (nomark _)) (q_s1 (q_par (i := 0) (j := 1) (by rfl) nd rfl rfl (by decide) rfl rfl (q_cons (q_v 1 (pv 1)) (q_cons (q_op op_mod od_mod (q_v 0 (pv 0)) (q_v 1 (pv 1))) q_nil (by rfl)) (by rfl)) (Or.inr rfl) (by rfl) (by rfl))))
      (q_s1 (q_ret (q_v 0 (pv 0)))))⟩)
def w_fraction : WS := (wSeq (wIfS (wOr (wNot (wB (wCall false wf_is_whole (wACons (wVar 0) wANil)))) (wNot (wB (wCall false wf_is_whole (wACons (wVar 1) wANil))))) (fun _ _ => False) wNext)
  (wSeq (wIfS (wCmp (bSc id) (wVar 1) (wC (.int 0))) (fun _ _ => False) wNext)
  (wSeq (wSet 2 (wCall false wf_common_divisor (wACons (wCB dAbs (wACons (wVar 0) wANil)) (wACons (wCB dAbs (wACons (wVar 1) wANil)) wANil))))
  (wSeq (wIfS (wCmp bLt (wVar 1) (wC (.int 0))) (wSet 2 (wUn dNeg (wVar 2))) wNext)
  (wRet (wTup (wACons (wOp dDivB (wVar 0) (wVar 2)) (wACons (wOp dDivB (wVar 1) (wVar 2)) wANil))))))))
theorem d_fraction : ∀ ds row Ψ Ξ, wf_fraction ds row Ψ Ξ → goR (w_fraction (endsW false Ψ fun _ => False)) (startW false 3 ds row) := by
  rintro ds row Ψ Ξ ⟨t, b, rfl, bt, bb, b0, q⟩
  unfold w_fraction
  walk_at "ev"
  refine ⟨t, rfl, ?_⟩
  walk_at "ev"
  refine ⟨b, rfl, ?_⟩
  walk_at "ev"
  simp only [b0, decide_false, id]
  walk_at "ev"
  refine ⟨_, _, rfl, by split <;> omega, by split <;> omega, ?_⟩
  rw [gcd_abs]
  walk_at "ev"
  have hpos : 0 < Int.gcd t b := Int.gcd_pos_of_ne_zero_right t b0
  have hb : Bd 3100 ((Int.gcd t b : Nat) : Int) := by
    have : Int.gcd t b ≤ b.natAbs := Nat.gcd_le_right _ (by omega)
    unfold Bd at *
    omega
  refine iteR_by (fun h => ?_) (fun h => ?_)
  · have h := of_decide_eq_true h
    walk_at "ev"
    refine sideR_by ⟨by omega, (Bd.mono (m := 3101) (by unfold Bd at *; omega) (by decide))⟩ fun _ => ?_
    walk_at "ev"
    refine sideR_by ⟨by omega, (Bd.mono (m := 3101) (by unfold Bd at *; omega) (by decide))⟩ fun _ => ?_
    walk_at "ev"
    walk_at "sd"
    rw [show -((Int.gcd t b : Nat) : Int) = lowG t b by unfold lowG; rw [if_pos h]]
    exact q
  · have h := of_decide_eq_false h
    walk_at "ev"
    refine sideR_by ⟨by omega, hb.mono⟩ fun _ => ?_
    walk_at "ev"
    refine sideR_by ⟨by omega, hb.mono⟩ fun _ => ?_
    walk_at "ev"
    walk_at "sd"
    rw [show ((Int.gcd t b : Nat) : Int) = lowG t b by unfold lowG; rw [if_neg h]]
    exact q
abbrev s_fraction : Stmt := top 7
theorem sc_fraction : FnScope ["top", "bottom", "shared"] ["top", "bottom"] (defScope s_fraction) := ⟨rfl, rfl, rfl, by decide +kernel, rfl, by decide +kernel, by decide +kernel⟩
theorem ok_fraction {P : Program} {w : World} {K : PySem.W.Frag} {mg : Str → Option Value} {base : Heap} {f : Addr} {fd : FuncData} (F : Fun K "fraction" "fraction" s_fraction f fd) (C_is_whole : Cal P w K mg base (CXE P w) 1 "is_whole" ["thing"] (spD ⟨K, TSK K, LSK K⟩ false wf_is_whole)) (C_common_divisor : Cal P w K mg base (CXE P w) 1 "common_divisor" ["one", "other"] (spD ⟨K, TSK K, LSK K⟩ false wf_common_divisor)) (z_abs : mg "abs" = none) : FnOk P w K mg base (CXE P w) 2 f fd ["top", "bottom"] (spD ⟨K, TSK K, LSK K⟩ false wf_fraction) := by
  have nd := (sc_fraction).nd
  refine fn_d F sc_fraction (by decide) (fun ds row Ψ Ξ h => by first | (obtain ⟨rfl, _⟩ := h; rfl) | (obtain ⟨_, rfl, _⟩ := h; rfl) | (obtain ⟨_, _, rfl, _⟩ := h; rfl) | (obtain ⟨_, _, _, rfl, _⟩ := h; rfl) | (obtain ⟨_, _, _, _, rfl, _⟩ := h; rfl) | (obtain ⟨_, _, _, _, _, rfl, _⟩ := h; rfl) | (obtain ⟨_, _, _, _, _, _, rfl, _⟩ := h; rfl) | (obtain ⟨_, _, _, _, _, _, _, rfl, _⟩ := h; rfl) | (obtain ⟨_, _, _, _, _, _, _, _, rfl, _⟩ := h; rfl) | (obtain ⟨_, _, _, _, _, _, _, _, _, rfl, _⟩ := h; rfl) | (obtain ⟨_, _, _, _, _, _, _, _, _, _, rfl, _⟩ := h; rfl) | (obtain ⟨_, _, _, _, _, _, _, _, _, _, _, rfl, _⟩ := h; rfl) | (obtain ⟨_, _, _, _, _, _, _, _, _, _, _, _, rfl, _⟩ := h; rfl) | (obtain ⟨_, _, _, _, _, _, _, _, _, _, _, _, _, rfl, _⟩ := h; rfl)) d_fraction (fun cdv A outer s H E hr => ⟨_, (q_sc (q_ifS (QW.tst (q_or (q_tnot (q_tv (q_call C_is_whole hr passE0 (q_cons (q_v 0 (pv 0)) q_nil (by rfl)) (by rfl) (by decide) (by decide) (by rfl)) (by rfl))) (q_or1 (q_tnot (q_tv (q_call C_is_whole hr passE0 (q_cons (q_v 1 (pv 1)) q_nil (by rfl)) (by rfl) (by decide) (by decide) (by rfl)) (by rfl)))))) (q_s1 q_never) q_s0)
      (q_sc (q_ifS (q_cmpT op_eq bd_eq (q_v 1 (pv 1)) q_int (nomark _)) (q_s1 q_never) q_s0)
      (q_sc (q_set (i := 2) nd rfl (Or.inl rfl) (q_call C_common_divisor hr passE0 (q_cons (q_cB call_abs cd_abs (by rfl) z_abs (by decide +kernel) (q_cons (q_v 0 (pv 0)) q_nil (by rfl)) (by decide) (by decide) (by rfl)) (q_cons (q_cB call_abs cd_abs (by rfl) z_abs (by decide +kernel) (q_cons (q_v 1 (pv 1)) q_nil (by rfl)) (by decide) (by decide) (by rfl)) q_nil (by rfl)) (by rfl)) (by rfl) (by decide) (by decide) (by rfl)) (Or.inl (by decide)) (by rfl) (by first | exact .inl rfl | exact .inr rfl))
      (q_sc (q_ifS (q_cmpT op_lt bd_lt (q_v 1 (pv 1)) q_int (nomark _)) (q_s1 (q_set (i := 2) nd rfl (Or.inl rfl) (q_un un_neg ud_neg (q_v 2 (pv 2))) (Or.inl (by decide)) (by rfl) (by first | exact .inl rfl | exact .inr rfl))) q_s0)
      (q_s1 (q_ret (q_tup (q_cons (q_op op_fdivB od_divB (q_v 0 (pv 0)) (q_v 2 (pv 2))) (q_cons (q_op op_fdivB od_divB (q_v 1 (pv 1)) (q_v 2 (pv 2))) q_nil (by rfl)) (by rfl)))))))))⟩)
def w_is_fraction : WS := (wSeq (wIfS (wOr (wNot (wB (wCB dIsi (wACons (wVar 0) (wACons (wC (.ty "tuple")) wANil))))) (wCmp (bSc not) (wCB dLen (wACons (wVar 0) wANil)) (wC (.int 2)))) (wRet (wC (.bl false))) wNext)
  (wSeq (wAsg (wVar 0) (wgTup 2 (wgCons (wgName 1) (wgCons (wgName 2) wgNil))))
  (wRet (wAndV (wCall false wf_is_whole (wACons (wVar 1) wANil)) (wAndV (wCall false wf_is_whole (wACons (wVar 2) wANil)) (wAndV (wOp (bod bGt) (wVar 2) (wC (.int 0))) (wOp (bod (bEq id)) (wCall false wf_fraction (wACons (wVar 1) (wACons (wVar 2) wANil))) (wVar 0))))))))
theorem d_is_fraction : ∀ ds row Ψ Ξ, wf_is_fraction ds row Ψ Ξ → goR (w_is_fraction (endsW false Ψ fun _ => False)) (startW false 3 ds row) := by
  rintro ds row Ψ Ξ ⟨⟨a, b⟩, rfl, b1, ba, bb, e1, e2, q⟩
  simp only at b1 ba bb e1 e2
  unfold w_is_fraction frD
  walk_at "ev"
  rw [show (!decide (((2 : Nat) : Int) = 2)) = false by decide]
  walk_at "ev"
  refine ⟨a, rfl, ?_⟩
  walk_at "ev"
  refine ⟨b, rfl, ?_⟩
  walk_at "ev"
  refine iteR_by (fun h => ?_) fun h => ?_
  · walk_at "ev"
    refine ⟨a, b, rfl, ba.mono (by decide), bb.mono (by decide), by omega, ?_⟩
    walk_at "ev"
    rw [e1, e2]
    refine sideR_by ⟨⟨1, by decide, fr_dep (n := 0)⟩, ⟨1, by decide, fr_dep (n := 0) (p := (a, b))⟩⟩ fun _ => ?_
    rw [show id (deq (frD (a, b)) (D.tup [D.int a, D.int b])) = true from deq_refl (fr_dep (n := 0) (p := (a, b)))]
    walk_at "ev"
    exact q
  · have h := of_decide_eq_false h
    omega
abbrev s_is_fraction : Stmt := top 8
theorem sc_is_fraction : FnScope ["thing", "top", "bottom"] ["thing"] (defScope s_is_fraction) := ⟨rfl, rfl, rfl, by decide +kernel, rfl, by decide +kernel, by decide +kernel⟩
theorem ok_is_fraction {P : Program} {w : World} {K : PySem.W.Frag} {mg : Str → Option Value} {base : Heap} {f : Addr} {fd : FuncData} (F : Fun K "is_fraction" "is_fraction" s_is_fraction f fd) (C_is_whole : Cal P w K mg base (CXE P w) 1 "is_whole" ["thing"] (spD ⟨K, TSK K, LSK K⟩ false wf_is_whole)) (C_fraction : Cal P w K mg base (CXE P w) 2 "fraction" ["top", "bottom"] (spD ⟨K, TSK K, LSK K⟩ false wf_fraction)) (z_isinstance : mg "isinstance" = none) (z_tuple : mg "tuple" = none) (z_len : mg "len" = none) : FnOk P w K mg base (CXE P w) 3 f fd ["thing"] (spD ⟨K, TSK K, LSK K⟩ false wf_is_fraction) := by
  have nd := (sc_is_fraction).nd
  refine fn_d F sc_is_fraction (by decide) (fun ds row Ψ Ξ h => by first | (obtain ⟨rfl, _⟩ := h; rfl) | (obtain ⟨_, rfl, _⟩ := h; rfl) | (obtain ⟨_, _, rfl, _⟩ := h; rfl) | (obtain ⟨_, _, _, rfl, _⟩ := h; rfl) | (obtain ⟨_, _, _, _, rfl, _⟩ := h; rfl) | (obtain ⟨_, _, _, _, _, rfl, _⟩ := h; rfl) | (obtain ⟨_, _, _, _, _, _, rfl, _⟩ := h; rfl) | (obtain ⟨_, _, _, _, _, _, _, rfl, _⟩ := h; rfl) | (obtain ⟨_, _, _, _, _, _, _, _, rfl, _⟩ := h; rfl) | (obtain ⟨_, _, _, _, _, _, _, _, _, rfl, _⟩ := h; rfl) | (obtain ⟨_, _, _, _, _, _, _, _, _, _, rfl, _⟩ := h; rfl) | (obtain ⟨_, _, _, _, _, _, _, _, _, _, _, rfl, _⟩ := h; rfl) | (obtain ⟨_, _, _, _, _, _, _, _, _, _, _, _, rfl, _⟩ := h; rfl) | (obtain ⟨_, _, _, _, _, _, _, _, _, _, _, _, _, rfl, _⟩ := h; rfl)) d_is_fraction (fun cdv A outer s H E hr => ⟨_, (q_sc (q_ifS (QW.tst (q_or (q_tnot (q_tv (q_cB (call_isiK (by rfl)) cd_isi (by rfl) z_isinstance (by decide +kernel) (q_cons (q_v 0 (pv 0)) (q_cons (q_glob (pe_bltn (v := .ty "tuple") (by rfl) z_tuple (by decide +kernel) rfl) (fun _ => .ty _)) q_nil (by rfl)) (by rfl)) (by decide) (by decide) (by rfl)) (by rfl))) (q_or1 (q_cmpT op_ne bd_ne (q_cB (call_lenK (by rfl)) cd_len (by rfl) z_len (by decide +kernel) (q_cons (q_v 0 (pv 0)) q_nil (by rfl)) (by decide) (by decide) (by rfl)) q_int (nomark _))))) (q_s1 (q_ret q_bl)) q_s0)
      (q_sc (q_asg (q_v 0 (pv 0)) (q_gt (by rfl) (by rfl) (q_g1 (q_gn (i := 1) (pg_name nd rfl (Or.inl rfl)) (Or.inl (by decide))) (q_g1 (q_gn (i := 2) (pg_name nd rfl (Or.inl rfl)) (Or.inl (by decide))) q_g0 (by rfl)) (by rfl)) (by rfl) (by rfl)) (by rfl) (by rfl) (by rfl))
      (q_s1 (q_ret (q_andV (q_call C_is_whole hr passE0 (q_cons (q_v 1 (pv 1)) q_nil (by rfl)) (by rfl) (by decide) (by decide) (by rfl)) (q_andV (q_call C_is_whole hr passE0 (q_cons (q_v 2 (pv 2)) q_nil (by rfl)) (by rfl) (by decide) (by decide) (by rfl)) (q_andV (q_cmp op_gt bd_gt (q_v 2 (pv 2)) q_int (nomark _)) (q_one (q_cmp (op_eqDK (by rfl) hr.units) bd_eqD (q_call C_fraction hr passE0 (q_cons (q_v 1 (pv 1)) (q_cons (q_v 2 (pv 2)) q_nil (by rfl)) (by rfl)) (by rfl) (by decide) (by decide) (by rfl)) (q_v 0 (pv 0)) (nomark _))))))))))⟩)
def w_NoTable___init__ : WA := (wACons (wFStr (wJT "no table, at row " (wJV (wVar 1) wJ0))) wANil)
theorem d_NoTable___init__ : ∀ ds, mok_NoTable ds → ds.length = (["row"] : List Str).length → w_NoTable___init__ (startI 2 ds) (fun rs _ => rs.length = 1) fun _ => False := by
  rintro ds ⟨i, rfl, h0, hi⟩ _
  unfold w_NoTable___init__
  walk_at "ev"
  have hl := small_text h0 hi
  refine sideR_by (by decide) fun _ => ?_
  simp only [List.map_cons, List.map_nil, List.cons_append, List.nil_append]
  walk_at "ev"
  refine sideR_by ⟨small_log h0 hi, ?_⟩ fun _ => ?_
  · rw [len_app]
    exact Nat.le_trans (Nat.add_le_add_left hl _) (by decide)
  walk_at "ev"
  refine sideR_by ?_ fun _ => rfl
  rw [len_app]
  exact Nat.le_trans (Nat.add_le_add_left hl _) (by decide)
abbrev s_NoTable___init__ : Stmt := clsBody (top 3) 0
theorem sc_NoTable___init__ : FnScopeS ["self", "row"] ["self", "row"] (defScope s_NoTable___init__) := ⟨rfl, rfl, rfl, by decide +kernel, rfl, by decide +kernel, by decide +kernel, by decide +kernel⟩
theorem ok_NoTable___init__ {P : Program} {w : World} {K : PySem.W.Frag} {mg : Str → Option Value} {base : Heap} {f cc cda Dd : Addr} {fd : FuncData} (D : SupXD P K mg ["self", "row"] s_NoTable___init__ "__init__" "NoTable.__init__" f cc cda (CA K "NoTable") Dd fd) (T : ExcKI K "NoTable" (CA K "NoTable") Dd f) (ho : PySem.W.mroIn K (CA K "NoTable") (.type "object") = some true) (hs : PySem.W.findIn K (.ref (CA K "NoTable")) "__setattr__" = some (some (.builtin "object.__setattr__"))) (hn_row : PySem.W.findIn K (.ref (CA K "NoTable")) "row" = some none)  (z_super : mg "super" = none) : FnOk P w K mg base (CXE P w) 1 f fd ["self", "row"] (spX ⟨K, TSK K, LSK K⟩ (CA K "NoTable") ["row"] mok_NoTable) := by
  have nd := (sc_NoTable___init__).nd
  refine fn_initX D sc_NoTable___init__ (by rfl) (by decide) (by decide) (by decide) d_NoTable___init__ rfl (fun A outer s H E => ⟨(q_cons (q_fstr (q_jT (q_jV (q_v 1 (pv 1)) q_j0))) q_nil (by rfl)), fun h => pe_supX D.toX h, (pss_one (ps_setX T ho hs hn_row (pv 0) (pv 1) (by rfl))), rfl, rfl⟩)
def w_is_name : WS := (wRet (wAndV (wCB dIsi (wACons (wVar 0) (wACons (wC (.ty "str")) wANil))) (wAndV (wChain bLe bLe (wC (.int 1)) (wCB dLenS (wACons (wVar 0) wANil)) (wC (.int 10))) (wAllG (wIStr (wVar 0)) (wgName 1) (wOp (bod (bInS id)) (wVar 1) (wC (.str (Str.ofString "abcdefghijklmnopqrstuvwxyz")))) [1]))))
theorem d_is_name : ∀ ds row Ψ Ξ, wf_is_name ds row Ψ Ξ → goR (w_is_name (endsW false Ψ fun _ => False)) (startW false 2 ds row) := by
  rintro ds row Ψ Ξ ⟨d, rfl, x, rfl, hl, q⟩
  have el : x.length = x.cps.toList.length := by simp [Str.length]
  unfold w_is_name
  walk_at "ev"
  refine sideR_by (Nat.le_trans hl (show 100000 ≤ sizeLine by decide)) fun _ => ?_
  walk_at "ev"
  unfold nmL at q
  rw [← el] at q
  refine iteR_by (fun h1 => ?_) fun h1 => ?_
  · rw [h1, Bool.true_and] at q
    walk_at "ev"
    refine iteR_by (fun h2 => ?_) fun h2 => ?_
    · rw [h2, Bool.true_and] at q
      walk_at "ev"
      refine allB_map (fun d => match d with | .str x => x.cps.toList.all isLet | _ => false) (fun d hd k hk => ?_) ?_
      · unfold chs at hd
        obtain ⟨c, _, rfl⟩ := List.mem_map.mp hd
        walk_at "ev"
        refine ⟨_, rfl, ?_⟩
        rw [show id (hasS (Str.ofString "abcdefghijklmnopqrstuvwxyz") ⟨#[c]⟩) = isLet c from StrLaws.found_one _ c]
        have z : (match D.str (⟨#[c]⟩ : Str) with | D.str x => x.cps.toList.all isLet | x => false) = isLet c := by simp
        rw [z] at hk
        exact hk
      · have e : ((chs x).all fun d => match d with | .str x => x.cps.toList.all isLet | _ => false) = x.cps.toList.all isLet := by
          unfold chs
          rw [List.all_map]
          refine congrArg (fun f => x.cps.toList.all f) (funext fun c => ?_)
          simp
        rw [e]
        show (endsW false Ψ fun _ => False).rt _ [some (En.shr (D.str x)), none]
        walk_at "ev"
        exact q
    · rw [h2] at q
      walk_at "ev"
      exact q
  · rw [h1] at q
    walk_at "ev"
    exact q
abbrev s_is_name : Stmt := top 16
theorem sc_is_name : FnScope ["text", "sign"] ["text"] (defScope s_is_name) := ⟨rfl, rfl, rfl, by decide +kernel, rfl, by decide +kernel, by decide +kernel⟩
theorem ok_is_name {P : Program} {w : World} {K : PySem.W.Frag} {mg : Str → Option Value} {base : Heap} {t_LONGEST_NAME : Tok} {t_LETTERS : Tok} {f c : Addr} {oc kV doc pm ct : Value} {od an : Option Addr} {osl : Array (Option Value)} (lk : K.lookup f = some ⟨oc, od, .func (PySem.W.fnOf "is_name" "is_name" (defArgs s_is_name) (defBody s_is_name) (defScope s_is_name) .none kV doc pm an (.ref c) ct), osl⟩) (hcd : PySem.W.codeIn K (.ref c) "is_name" = true) (hCK : PySem.W.codeHdIn K c (tabG0 K) = true) (hB : Kx.BltB mg base) (hls : ∀ p ∈ LSK K, p.1 ≠ tabG0 K)  (z_isinstance : mg "isinstance" = none) (z_str : mg "str" = none) (z_len : mg "len" = none) (z_all : mg "all" = none) (m_LONGEST_NAME : mg "LONGEST_NAME" = some (.int 10 t_LONGEST_NAME)) (m_LETTERS : mg "LETTERS" = some (.str (Str.ofString "abcdefghijklmnopqrstuvwxyz") t_LETTERS)) : FnOk P w K mg base (CXE P w) 2 f (PySem.W.fnOf "is_name" "is_name" (defArgs s_is_name) (defBody s_is_name) (defScope s_is_name) .none kV doc pm an (.ref c) ct) ["text"] (spD ⟨K, TSK K, LSK K⟩ false wf_is_name) := by
  have nd := (sc_is_name).nd
  obtain ⟨bm, ob, b1, b2, b3, b4, b5, b6⟩ := hB
  refine fn_dC lk hcd sc_is_name (by decide) (fun ds row Ψ Ξ h => by first | (obtain ⟨rfl, _⟩ := h; rfl) | (obtain ⟨_, rfl, _⟩ := h; rfl) | (obtain ⟨_, _, rfl, _⟩ := h; rfl) | (obtain ⟨_, _, _, rfl, _⟩ := h; rfl) | (obtain ⟨_, _, _, _, rfl, _⟩ := h; rfl) | (obtain ⟨_, _, _, _, _, rfl, _⟩ := h; rfl) | (obtain ⟨_, _, _, _, _, _, rfl, _⟩ := h; rfl) | (obtain ⟨_, _, _, _, _, _, _, rfl, _⟩ := h; rfl) | (obtain ⟨_, _, _, _, _, _, _, _, rfl, _⟩ := h; rfl) | (obtain ⟨_, _, _, _, _, _, _, _, _, rfl, _⟩ := h; rfl) | (obtain ⟨_, _, _, _, _, _, _, _, _, _, rfl, _⟩ := h; rfl) | (obtain ⟨_, _, _, _, _, _, _, _, _, _, _, rfl, _⟩ := h; rfl) | (obtain ⟨_, _, _, _, _, _, _, _, _, _, _, _, rfl, _⟩ := h; rfl) | (obtain ⟨_, _, _, _, _, _, _, _, _, _, _, _, _, rfl, _⟩ := h; rfl)) d_is_name (fun A outer s H E hr => ⟨_, (q_s1 (q_ret (q_andV (q_cB (call_isiK (by rfl)) cd_isi (by rfl) z_isinstance (by decide +kernel) (q_cons (q_v 0 (pv 0)) (q_cons (q_glob (pe_bltn (v := .ty "str") (by rfl) z_str (by decide +kernel) rfl) (fun _ => .ty _)) q_nil (by rfl)) (by rfl)) (by decide) (by decide) (by rfl)) (q_andV (q_chain op_le bd_le op_le bd_le q_int (q_cB call_len_str cd_lenS (by rfl) z_len (by decide +kernel) (q_cons (q_v 0 (pv 0)) q_nil (by rfl)) (by decide) (by decide) (by rfl)) (q_glob (v := .int 10) (pe_glob (by rfl) m_LONGEST_NAME ⟨_, rfl⟩) (fun _ => .int _)) (by rfl)) (q_one (q_allG (k := 0) (P := tabG0 K) (own := [("sign", 1)]) (List.mem_cons_self ..) hls hr (by rfl) nd (q_is (q_v 0 (pv 0))) (blkOk_by (own := [("sign", 1)]) (N := ["text", "sign"]) (sc := defScope s_is_name) (by decide +kernel)) (by rfl) hCK ⟨b1, b2, b3, b4, b5, b6⟩ (by rfl) z_all (by rfl) (by decide +kernel) (by rfl) (fun _ _ _ _ _ hr => (q_cn (i := 1) (pg_name nd rfl (Or.inl rfl)) (by decide))) (fun _ _ _ _ _ hr => (q_cmp op_in_str bd_inS (q_v 1 (pv 1)) (q_glob (v := .str (Str.ofString "abcdefghijklmnopqrstuvwxyz")) (pe_glob (by rfl) m_LETTERS ⟨_, rfl⟩) (fun _ => .str _)) (by rfl))) (fun _ => rfl)))))))⟩)
def w_are_series : WS := (wSeq (wIfS (wOr (wNot (wB (wChain bLe bLe (wC (.int 1)) (wCB dLen (wACons (wVar 0) wANil)) (wC (.int 4))))) (wNot (wB (wAllG (wIList (wVar 0)) (wgName 1) (wCall false wf_is_name (wACons (wVar 1) wANil)) [1])))) (wRet (wC (.bl false))) wNext)
  (wRet (wOp (bod (bSc id)) (wLenSet (wACons (wVar 0) wANil)) (wCB dLen (wACons (wVar 0) wANil)))))
theorem d_are_series : ∀ ds row Ψ Ξ, wf_are_series ds row Ψ Ξ → goR (w_are_series (endsW false Ψ fun _ => False)) (startW false 2 ds row) := by
  rintro ds row Ψ Ξ ⟨ss, rfl, hs, hl, q⟩
  unfold w_are_series
  walk_at "ev"
  rw [List.length_map]
  unfold serB at q
  refine iteR_by (fun h1 => ?_) fun h1 => ?_
  rotate_left
  · have h1 := of_decide_eq_false h1
    rw [decide_eq_false (show ¬ 1 ≤ ss.length by omega)] at q
    walk_at "ev"
    exact q
  have h1 := of_decide_eq_true h1
  rw [decide_eq_true (show 1 ≤ ss.length by omega)] at q
  walk_at "ev"
  by_cases h4 : (ss.length : Int) ≤ 4
  rotate_left
  · rw [decide_eq_false (show ¬ ss.length ≤ 4 by omega)] at q
    rw [decide_eq_false h4]
    walk_at "ev"
    exact q
  rw [decide_eq_true (show ss.length ≤ 4 by omega)] at q
  rw [decide_eq_true h4]
  walk_at "ev"
  refine allB_map (fun d => match d with | .str x => nmL x.cps.toList | _ => false) (fun d hd k hk => ?_) ?_
  · obtain ⟨x, hx, rfl⟩ := List.mem_map.mp hd
    walk_at "ev"
    refine ⟨_, rfl, x, rfl, hl x hx, ?_⟩
    walk_at "ev"
    exact ⟨_, rfl, hk⟩
  rw [show ((ss.map D.str).all fun d => match d with | .str x => nmL x.cps.toList | _ => false) = ss.all fun s => nmL s.cps.toList by rw [List.all_map]; rfl]
  rw [show rstG [some (En.shr (D.lst (List.map D.str ss))), none] (wipeG [some (En.shr (D.lst (List.map D.str ss))), none] [1]) [1] = [some (En.shr (D.lst (List.map D.str ss))), none] from rfl]
  walk_at "ev"
  refine iteR_by (fun h => ?_) fun h => ?_
  · have h : (ss.all fun s => nmL s.cps.toList) = false := by simpa using h
    rw [h] at q
    walk_at "ev"
    exact q
  have h : (ss.all fun s => nmL s.cps.toList) = true := by simpa using h
  rw [h] at q
  walk_at "ev"
  refine ⟨_, ⟨by rw [List.length_map]; omega, .inr ⟨ss, rfl, rfl⟩⟩, ?_⟩
  walk_at "ev"
  rw [List.length_map]
  have e : id (decide (((met ss).length : Int) = (ss.length : Int))) = decide ss.Nodup := by
    show decide _ = _
    by_cases z : ss.Nodup
    · rw [decide_eq_true z, decide_eq_true (by rw [met_nodup.mpr z])]
    · rw [decide_eq_false z, decide_eq_false fun y => z (met_nodup.mp (by omega))]
  rw [e]
  exact q
abbrev s_are_series : Stmt := top 17
theorem sc_are_series : FnScope ["names", "name"] ["names"] (defScope s_are_series) := ⟨rfl, rfl, rfl, by decide +kernel, rfl, by decide +kernel, by decide +kernel⟩
theorem ok_are_series {P : Program} {w : World} {K : PySem.W.Frag} {mg : Str → Option Value} {base : Heap} {t_MOST_SERIES : Tok} {f c : Addr} {oc kV doc pm ct : Value} {od an : Option Addr} {osl : Array (Option Value)} (lk : K.lookup f = some ⟨oc, od, .func (PySem.W.fnOf "are_series" "are_series" (defArgs s_are_series) (defBody s_are_series) (defScope s_are_series) .none kV doc pm an (.ref c) ct), osl⟩) (hcd : PySem.W.codeIn K (.ref c) "are_series" = true) (hCK : PySem.W.codeHdIn K c (tabG1 K) = true) (hB : Kx.BltB mg base) (hls : ∀ p ∈ LSK K, p.1 ≠ tabG1 K) (C_is_name : Cal P w K mg base (CXE P w) 2 "is_name" ["text"] (spD ⟨K, TSK K, LSK K⟩ false wf_is_name)) (z_len : mg "len" = none) (z_all : mg "all" = none) (z_set : mg "set" = none) (m_MOST_SERIES : mg "MOST_SERIES" = some (.int 4 t_MOST_SERIES)) : FnOk P w K mg base (CXE P w) 4 f (PySem.W.fnOf "are_series" "are_series" (defArgs s_are_series) (defBody s_are_series) (defScope s_are_series) .none kV doc pm an (.ref c) ct) ["names"] (spD ⟨K, TSK K, LSK K⟩ false wf_are_series) := by
  have nd := (sc_are_series).nd
  obtain ⟨bm, ob, b1, b2, b3, b4, b5, b6⟩ := hB
  refine fn_dC lk hcd sc_are_series (by decide) (fun ds row Ψ Ξ h => by first | (obtain ⟨rfl, _⟩ := h; rfl) | (obtain ⟨_, rfl, _⟩ := h; rfl) | (obtain ⟨_, _, rfl, _⟩ := h; rfl) | (obtain ⟨_, _, _, rfl, _⟩ := h; rfl) | (obtain ⟨_, _, _, _, rfl, _⟩ := h; rfl) | (obtain ⟨_, _, _, _, _, rfl, _⟩ := h; rfl) | (obtain ⟨_, _, _, _, _, _, rfl, _⟩ := h; rfl) | (obtain ⟨_, _, _, _, _, _, _, rfl, _⟩ := h; rfl) | (obtain ⟨_, _, _, _, _, _, _, _, rfl, _⟩ := h; rfl) | (obtain ⟨_, _, _, _, _, _, _, _, _, rfl, _⟩ := h; rfl) | (obtain ⟨_, _, _, _, _, _, _, _, _, _, rfl, _⟩ := h; rfl) | (obtain ⟨_, _, _, _, _, _, _, _, _, _, _, rfl, _⟩ := h; rfl) | (obtain ⟨_, _, _, _, _, _, _, _, _, _, _, _, rfl, _⟩ := h; rfl) | (obtain ⟨_, _, _, _, _, _, _, _, _, _, _, _, _, rfl, _⟩ := h; rfl)) d_are_series (fun A outer s H E hr => ⟨_, (q_sc (q_ifS (QW.tst (q_or (q_tnot (q_chainT op_le bd_le op_le bd_le q_int (q_cB (call_lenK (by rfl)) cd_len (by rfl) z_len (by decide +kernel) (q_cons (q_v 0 (pv 0)) q_nil (by rfl)) (by decide) (by decide) (by rfl)) (q_glob (v := .int 4) (pe_glob (by rfl) m_MOST_SERIES ⟨_, rfl⟩) (fun _ => .int _)) (by rfl))) (q_or1 (q_tnot (q_tv (q_allG (k := 2) (P := tabG1 K) (own := [("name", 1)]) (List.mem_cons_of_mem _ (List.mem_cons_self ..)) hls hr (by rfl) nd (q_il (by rfl) (q_v 0 (pv 0))) (blkOk_by (own := [("name", 1)]) (N := ["names", "name"]) (sc := defScope s_are_series) (by decide +kernel)) (by rfl) hCK ⟨b1, b2, b3, b4, b5, b6⟩ (by rfl) z_all (by rfl) (by decide +kernel) (by rfl) (fun _ _ _ _ _ hr => (q_cn (i := 1) (pg_name nd rfl (Or.inl rfl)) (by decide))) (fun _ _ _ _ _ hr => (q_call C_is_name hr passE0 (q_cons (q_v 1 (pv 1)) q_nil (by rfl)) (by rfl) (by decide) (by decide) (by rfl))) (fun _ => rfl)) (by rfl)))))) (q_s1 (q_ret q_bl)) q_s0)
      (q_s1 (q_ret (q_cmp op_eq bd_eq (q_lenSet (by rfl) hr.hd (q_cons (q_v 0 (pv 0)) q_nil (by rfl)) (by rfl) z_len (by rfl) z_set (by rfl)) (q_cB (call_lenK (by rfl)) cd_len (by rfl) z_len (by decide +kernel) (q_cons (q_v 0 (pv 0)) q_nil (by rfl)) (by decide) (by decide) (by rfl)) (nomark _)))))⟩)
def w_is_within : WS := (wSeq (wIfS (wNot (wB (wCall false wf_is_fraction (wACons (wVar 0) wANil)))) (wRet (wC (.bl false))) wNext)
  (wSeq (wAsg (wVar 0) (wgTup 2 (wgCons (wgName 1) (wgCons (wgName 2) wgNil))))
  (wRet (wAndV (wOp (bod (bSc id)) (wOp dMod (wC (.int 1000000)) (wVar 2)) (wC (.int 0))) (wOp (bod bLt) (wCB dAbs (wACons (wVar 1) wANil)) (wOp dMul (wC (.int 1000000000000)) (wVar 2)))))))
theorem d_is_within : ∀ ds row Ψ Ξ, wf_is_within ds row Ψ Ξ → goR (w_is_within (endsW false Ψ fun _ => False)) (startW false 3 ds row) := by
  rintro ds row Ψ Ξ ⟨f, rfl, hf, q⟩
  unfold w_is_within
  obtain ⟨a, b⟩ := f
  unfold frD
  walk_at "ev"
  refine ⟨(a, b), rfl, hf.pos, hf.b1, hf.b2, hf.l1, hf.l2, ?_⟩
  walk_at "ev"
  have hp := hf.pos
  unfold inB at q
  simp only at hp q
  refine sideR_by (by omega) fun _ => ?_
  by_cases h1 : (1000000 : Int) % b = 0
  · rw [decide_eq_true h1] at q
    rw [h1]
    walk_at "ev"
    rw [show id (decide True) = true by decide]
    walk_at "ev"
    refine sideR_by (.inr (.inl ⟨by decide, by decide⟩)) fun _ => ?_
    walk_at "ev"
    exact q
  · rw [decide_eq_false h1] at q
    walk_at "ev"
    rw [decide_eq_false h1]
    simp only [id]
    walk_at "ev"
    exact q
abbrev s_is_within : Stmt := top 18
theorem sc_is_within : FnScope ["thing", "top", "bottom"] ["thing"] (defScope s_is_within) := ⟨rfl, rfl, rfl, by decide +kernel, rfl, by decide +kernel, by decide +kernel⟩
theorem ok_is_within {P : Program} {w : World} {K : PySem.W.Frag} {mg : Str → Option Value} {base : Heap} {t_UNITS : Tok} {t_TOO_GREAT : Tok} {f : Addr} {fd : FuncData} (F : Fun K "is_within" "is_within" s_is_within f fd) (C_is_fraction : Cal P w K mg base (CXE P w) 3 "is_fraction" ["thing"] (spD ⟨K, TSK K, LSK K⟩ false wf_is_fraction)) (z_abs : mg "abs" = none) (m_UNITS : mg "UNITS" = some (.int 1000000 t_UNITS)) (m_TOO_GREAT : mg "TOO_GREAT" = some (.int 1000000000000 t_TOO_GREAT)) : FnOk P w K mg base (CXE P w) 4 f fd ["thing"] (spD ⟨K, TSK K, LSK K⟩ false wf_is_within) := by
  have nd := (sc_is_within).nd
  refine fn_d F sc_is_within (by decide) (fun ds row Ψ Ξ h => by first | (obtain ⟨rfl, _⟩ := h; rfl) | (obtain ⟨_, rfl, _⟩ := h; rfl) | (obtain ⟨_, _, rfl, _⟩ := h; rfl) | (obtain ⟨_, _, _, rfl, _⟩ := h; rfl) | (obtain ⟨_, _, _, _, rfl, _⟩ := h; rfl) | (obtain ⟨_, _, _, _, _, rfl, _⟩ := h; rfl) | (obtain ⟨_, _, _, _, _, _, rfl, _⟩ := h; rfl) | (obtain ⟨_, _, _, _, _, _, _, rfl, _⟩ := h; rfl) | (obtain ⟨_, _, _, _, _, _, _, _, rfl, _⟩ := h; rfl) | (obtain ⟨_, _, _, _, _, _, _, _, _, rfl, _⟩ := h; rfl) | (obtain ⟨_, _, _, _, _, _, _, _, _, _, rfl, _⟩ := h; rfl) | (obtain ⟨_, _, _, _, _, _, _, _, _, _, _, rfl, _⟩ := h; rfl) | (obtain ⟨_, _, _, _, _, _, _, _, _, _, _, _, rfl, _⟩ := h; rfl) | (obtain ⟨_, _, _, _, _, _, _, _, _, _, _, _, _, rfl, _⟩ := h; rfl)) d_is_within (fun cdv A outer s H E hr => ⟨_, (q_sc (q_ifS (q_tnot (q_tv (q_call C_is_fraction hr passE0 (q_cons (q_v 0 (pv 0)) q_nil (by rfl)) (by rfl) (by decide) (by decide) (by rfl)) (by rfl))) (q_s1 (q_ret q_bl)) q_s0)
      (q_sc (q_asg (q_v 0 (pv 0)) (q_gt (by rfl) (by rfl) (q_g1 (q_gn (i := 1) (pg_name nd rfl (Or.inl rfl)) (Or.inl (by decide))) (q_g1 (q_gn (i := 2) (pg_name nd rfl (Or.inl rfl)) (Or.inl (by decide))) q_g0 (by rfl)) (by rfl)) (by rfl) (by rfl)) (by rfl) (by rfl) (by rfl))
      (q_s1 (q_ret (q_andV (q_cmp op_eq bd_eq (q_op op_mod od_mod (q_glob (v := .int 1000000) (pe_glob (by rfl) m_UNITS ⟨_, rfl⟩) (fun _ => .int _)) (q_v 2 (pv 2))) q_int (nomark _)) (q_one (q_cmp op_lt bd_lt (q_cB call_abs cd_abs (by rfl) z_abs (by decide +kernel) (q_cons (q_v 1 (pv 1)) q_nil (by rfl)) (by decide) (by decide) (by rfl)) (q_op op_mulB od_mul (q_glob (v := .int 1000000000000) (pe_glob (by rfl) m_TOO_GREAT ⟨_, rfl⟩) (fun _ => .int _)) (q_v 2 (pv 2))) (nomark _))))))))⟩)
def w_is_row : WS := (wSeq (wIfS (wOr (wNot (wB (wCall false wf_is_name (wACons (wVar 0) wANil)))) (wOr (wCmp (bIn false) (wVar 0) (wVar 3)) (wCmp (bSc not) (wCB dLen (wACons (wVar 1) wANil)) (wVar 2)))) (wRet (wC (.bl false))) wNext)
  (wRet (wAllG (wIList (wVar 1)) (wgName 4) (wCall false wf_is_within (wACons (wVar 4) wANil)) [4])))
theorem d_is_row : ∀ ds row Ψ Ξ, wf_is_row ds row Ψ Ξ → goR (w_is_row (endsW false Ψ fun _ => False)) (startW false 5 ds row) := by
  rintro ds row Ψ Ξ ⟨r, many, ah, rfl, hn, hr, ha, hs, q⟩
  unfold w_is_row
  walk_at "ev"
  refine ⟨_, rfl, r.1, rfl, hn, ?_⟩
  walk_at "ev"
  unfold rowB at q
  refine iteR_by (fun h => ?_) fun h => ?_
  · have h : nmL r.1.cps.toList = false := by simpa using h
    rw [h] at q
    walk_at "ev"
    exact q
  have h : nmL r.1.cps.toList = true := by simpa using h
  rw [h] at q
  walk_at "ev"
  refine sideR_by (List.all_eq_true.mpr fun d hd => by obtain ⟨x, _, rfl⟩ := List.mem_map.mp hd; rfl) fun _ => ?_
  have e : inV (V.str r.1) (List.map D.v (List.map D.str ah)) = decide (r.1 ∈ ah) := by
    rw [Bool.eq_iff_iff, decide_eq_true_iff]
    constructor
    · intro z
      obtain ⟨y, hy, e⟩ := List.any_eq_true.mp z
      rw [List.map_map] at hy
      obtain ⟨x, hx, rfl⟩ := List.mem_map.mp hy
      have : x = r.1 := by simpa [eqV, D.v] using e
      exact this ▸ hx
    · intro z
      refine List.any_eq_true.mpr ⟨V.str r.1, ?_, by simp [eqV]⟩
      rw [List.map_map]
      exact List.mem_map.mpr ⟨r.1, z, rfl⟩
  rw [e]
  by_cases z : r.1 ∈ ah
  · rw [decide_eq_true z] at q ⊢
    walk_at "ev"
    exact q
  rw [decide_eq_false z] at q ⊢
  walk_at "ev"
  rw [List.length_map]
  by_cases z : r.2.length = many
  rotate_left
  · rw [decide_eq_false z] at q
    rw [decide_eq_false (show ¬ (r.2.length : Int) = many by omega)]
    walk_at "ev"
    exact q
  rw [decide_eq_true z] at q
  rw [decide_eq_true (show (r.2.length : Int) = many by omega)]
  walk_at "ev"
  refine allB_map (fun d => match d with | .tup [.int a, .int b] => inB (a, b) | _ => false) (fun d hd k hk => ?_) ?_
  · obtain ⟨f, hf, rfl⟩ := List.mem_map.mp hd
    walk_at "ev"
    refine ⟨f, rfl, hs f hf, ?_⟩
    walk_at "ev"
    exact ⟨_, rfl, hk⟩
  rw [show ((r.2.map frD).all fun d => match d with | .tup [.int a, .int b] => inB (a, b) | _ => false) = r.2.all inB by rw [List.all_map]; rfl]
  walk_at "ev"
  exact q
abbrev s_is_row : Stmt := top 19
theorem sc_is_row : FnScope ["name", "numbers", "many", "ahead", "one"] ["name", "numbers", "many", "ahead"] (defScope s_is_row) := ⟨rfl, rfl, rfl, by decide +kernel, rfl, by decide +kernel, by decide +kernel⟩
theorem ok_is_row {P : Program} {w : World} {K : PySem.W.Frag} {mg : Str → Option Value} {base : Heap} {f c : Addr} {oc kV doc pm ct : Value} {od an : Option Addr} {osl : Array (Option Value)} (lk : K.lookup f = some ⟨oc, od, .func (PySem.W.fnOf "is_row" "is_row" (defArgs s_is_row) (defBody s_is_row) (defScope s_is_row) .none kV doc pm an (.ref c) ct), osl⟩) (hcd : PySem.W.codeIn K (.ref c) "is_row" = true) (hCK : PySem.W.codeHdIn K c (tabG2 K) = true) (hB : Kx.BltB mg base) (hls : ∀ p ∈ LSK K, p.1 ≠ tabG2 K) (C_is_name : Cal P w K mg base (CXE P w) 2 "is_name" ["text"] (spD ⟨K, TSK K, LSK K⟩ false wf_is_name)) (C_is_within : Cal P w K mg base (CXE P w) 4 "is_within" ["thing"] (spD ⟨K, TSK K, LSK K⟩ false wf_is_within)) (z_len : mg "len" = none) (z_all : mg "all" = none) : FnOk P w K mg base (CXE P w) 6 f (PySem.W.fnOf "is_row" "is_row" (defArgs s_is_row) (defBody s_is_row) (defScope s_is_row) .none kV doc pm an (.ref c) ct) ["name", "numbers", "many", "ahead"] (spD ⟨K, TSK K, LSK K⟩ false wf_is_row) := by
  have nd := (sc_is_row).nd
  obtain ⟨bm, ob, b1, b2, b3, b4, b5, b6⟩ := hB
  refine fn_dC lk hcd sc_is_row (by decide) (fun ds row Ψ Ξ h => by first | (obtain ⟨rfl, _⟩ := h; rfl) | (obtain ⟨_, rfl, _⟩ := h; rfl) | (obtain ⟨_, _, rfl, _⟩ := h; rfl) | (obtain ⟨_, _, _, rfl, _⟩ := h; rfl) | (obtain ⟨_, _, _, _, rfl, _⟩ := h; rfl) | (obtain ⟨_, _, _, _, _, rfl, _⟩ := h; rfl) | (obtain ⟨_, _, _, _, _, _, rfl, _⟩ := h; rfl) | (obtain ⟨_, _, _, _, _, _, _, rfl, _⟩ := h; rfl) | (obtain ⟨_, _, _, _, _, _, _, _, rfl, _⟩ := h; rfl) | (obtain ⟨_, _, _, _, _, _, _, _, _, rfl, _⟩ := h; rfl) | (obtain ⟨_, _, _, _, _, _, _, _, _, _, rfl, _⟩ := h; rfl) | (obtain ⟨_, _, _, _, _, _, _, _, _, _, _, rfl, _⟩ := h; rfl) | (obtain ⟨_, _, _, _, _, _, _, _, _, _, _, _, rfl, _⟩ := h; rfl) | (obtain ⟨_, _, _, _, _, _, _, _, _, _, _, _, _, rfl, _⟩ := h; rfl)) d_is_row (fun A outer s H E hr => ⟨_, (q_sc (q_ifS (QW.tst (q_or (q_tnot (q_tv (q_call C_is_name hr passE0 (q_cons (q_v 0 (pv 0)) q_nil (by rfl)) (by rfl) (by decide) (by decide) (by rfl)) (by rfl))) (q_or (q_cmpT (op_inK (by rfl)) bd_in (q_v 0 (pv 0)) (q_v 3 (pv 3)) (by rfl)) (q_or1 (q_cmpT op_ne bd_ne (q_cB (call_lenK (by rfl)) cd_len (by rfl) z_len (by decide +kernel) (q_cons (q_v 1 (pv 1)) q_nil (by rfl)) (by decide) (by decide) (by rfl)) (q_v 2 (pv 2)) (nomark _)))))) (q_s1 (q_ret q_bl)) q_s0)
      (q_s1 (q_ret (q_allG (k := 4) (P := tabG2 K) (own := [("one", 4)]) (List.mem_cons_of_mem _ (List.mem_cons_of_mem _ (List.mem_cons_self ..))) hls hr (by rfl) nd (q_il (by rfl) (q_v 1 (pv 1))) (blkOk_by (own := [("one", 4)]) (N := ["name", "numbers", "many", "ahead", "one"]) (sc := defScope s_is_row) (by decide +kernel)) (by rfl) hCK ⟨b1, b2, b3, b4, b5, b6⟩ (by rfl) z_all (by rfl) (by decide +kernel) (by rfl) (fun _ _ _ _ _ hr => (q_cn (i := 4) (pg_name nd rfl (Or.inl rfl)) (by decide))) (fun _ _ _ _ _ hr => (q_call C_is_within hr passE0 (q_cons (q_v 4 (pv 4)) q_nil (by rfl)) (by rfl) (by decide) (by decide) (by rfl))) (fun _ => rfl)))))⟩)
def w_table_of : WS := (wSeq (wIfS (wNot (wB (wCall false wf_are_series (wACons (wVar 0) wANil)))) (wRaiseI "NoTable" ["row"] mok_NoTable (wACons (wUn dNeg (wC (.int 1))) wANil)) wNext)
  (wSeq (wIfS (wNot (wB (wChain bLe bLe (wC (.int 1)) (wCB dLen (wACons (wVar 1) wANil)) (wC (.int 12))))) (wRaiseI "NoTable" ["row"] mok_NoTable (wACons (wCB dLen (wACons (wVar 1) wANil)) wANil)) wNext)
  (wSeq (wSet 2 (wLst wANil))
  (wSeq (wSet 3 (wLst wANil))
  (wSeq (wFor (wIEnum (wACons (wVar 1) wANil)) (wgTup 2 (wgCons (wgName 4) (wgCons (wgTup 2 (wgCons (wgName 5) (wgCons (wgName 6) wgNil))) wgNil))) (wSeq (wIfS (wNot (wB (wLend wf_is_row (wACons (wVar 5) (wACons (wVar 6) (wACons (wCB dLen (wACons (wVar 0) wANil)) (wACons (wVar 2) wANil))))))) (wRaiseI "NoTable" ["row"] mok_NoTable (wACons (wVar 4) wANil)) wNext)
  (wSeq (wDrop (wApp 2 (wVar 5)))
  (wDrop (wApp 3 (wTup (wACons (wVar 5) (wACons (wCB dTuple (wACons (wVar 6) wANil)) wANil))))))))
  (wRet (wTup (wACons (wCB dTuple (wACons (wVar 0) wANil)) (wACons (wCB dTuple (wACons (wVar 3) wANil)) wANil)))))))))
theorem d_table_of : ∀ ds row Ψ Ξ, wf_table_of ds row Ψ Ξ → goR (w_table_of (endsW false Ψ Ξ)) (startW false 7 ds row) := by
  rintro ds row Ψ Ξ ⟨ss, rs, rfl, ok, q⟩
  unfold w_table_of
  walk_at "ev"
  refine ⟨ss, rfl, by have := ok.s1; omega, ok.s2, ?_⟩
  walk_at "ev"
  have r5 := ok.r1
  have bad : ∀ i, tabBad ss rs = some i → Ξ (noTab i) := fun i z => by
    rcases q with ⟨y, _⟩ | ⟨j, y, hx⟩
    · rw [z] at y; cases y
    · rw [z] at y; cases y; exact hx
  refine iteR_by (fun h => ?_) fun h => ?_
  · have h : serB ss = false := by simpa using h
    walk_at "ev"
    exact ⟨by decide, ⟨_, rfl, by decide, by decide⟩, bad _ (by unfold tabBad; rw [h]; rfl)⟩
  have hs : serB ss = true := by simpa using h
  walk_at "ev"
  rw [List.length_map]
  have hlen : ¬ (1 ≤ rs.length ∧ rs.length ≤ 12) → tabBad ss rs = some ((rs.length : Nat) : Int) := fun z => by
    unfold tabBad
    rw [if_pos hs, if_neg z]
  refine iteR_by (fun h1 => ?_) fun h1 => ?_
  rotate_left
  · have h1 := of_decide_eq_false h1
    walk_at "ev"
    rw [List.length_map]
    exact ⟨by decide, ⟨_, rfl, by omega, by omega⟩, bad _ (hlen (by omega))⟩
  have h1 := of_decide_eq_true h1
  walk_at "ev"
  refine iteR_by (fun h2 => ?_) fun h2 => ?_
  · have h2 : ¬ (rs.length : Int) ≤ 12 := by simpa using h2
    walk_at "ev"
    rw [List.length_map]
    exact ⟨by decide, ⟨_, rfl, by omega, by omega⟩, bad _ (hlen (by omega))⟩
  have h2 : (rs.length : Int) ≤ 12 := by simpa using h2
  walk_at "ev"
  refine sideR_by (by decide) fun _ => ?_
  walk_at "ev"
  refine sideR_by (by decide) fun _ => ?_
  walk_at "ev"
  have htb : tabBad ss rs = (rowsBad ss.length [] 0 rs).map fun i : Nat => (i : Int) := by
    unfold tabBad
    rw [if_pos hs, if_pos (by omega)]
  refine forB_by (fun i Γ => ∃ e4 e5 e6, Γ = [some (En.shr (D.lst (ss.map D.str))), some (En.shr (D.lst (rs.map rwL))), some (En.own (((rs.take i).map (·.1)).map D.str)), some (En.own ((rs.take i).map rwD)), e4, e5, e6] ∧ rowsBad ss.length [] 0 rs = rowsBad ss.length ((rs.take i).map (·.1)) i (rs.drop i)) ⟨_, _, _, rfl, rfl⟩ (fun i Γ d hd ⟨e4, e5, e6, eΓ, hb⟩ => ?_) (fun Γ ⟨e4, e5, e6, eΓ, hb⟩ => ?_)
  · subst eΓ
    obtain ⟨e, he, rfl⟩ := enu_get hd
    rw [List.getElem?_map] at he
    obtain ⟨r, hr, rfl⟩ := Option.map_eq_some_iff.mp he
    have hi : i < rs.length := (List.getElem?_eq_some_iff.mp hr).1
    have hm := List.mem_of_getElem? hr
    have hdr : rs.drop i = r :: rs.drop (i + 1) := by
      rw [List.drop_eq_getElem_cons hi, (List.getElem?_eq_some_iff.mp hr).2]
    rw [hdr, rowsBad_cons] at hb
    obtain ⟨o1, o2, o3⟩ := ok.r2 r hm
    unfold rwL
    walk_at "ev"
    refine ⟨r, ss.length, (rs.take i).map (·.1), by rw [List.length_map], o1, by omega, by rw [List.length_map, List.length_take]; omega, o3, ?_⟩
    walk_at "ev"
    refine ⟨Nol.bl _, ?_⟩
    walk_at "ev"
    refine iteR_by (fun h => ?_) fun h => ?_
    · have h : ¬ rowB ss.length ((rs.take i).map (·.1)) r = true := by simpa using h
      rw [if_neg h] at hb
      walk_at "ev"
      exact ⟨by decide, ⟨_, rfl, by omega, by omega⟩, bad _ (by rw [htb, hb]; rfl)⟩
    have h : rowB ss.length ((rs.take i).map (·.1)) r = true := by simpa using h
    rw [if_pos h] at hb
    walk_at "ev"
    have lt : (List.take i rs).length ≤ 12 := by rw [List.length_take]; omega
    refine sideR_by (by rw [List.length_map, List.length_map]; exact Nat.lt_of_le_of_lt lt (by decide)) fun _ => ?_
    walk_at "ev"
    refine sideR_by (by decide) fun _ => ?_
    walk_at "ev"
    refine sideR_by (by rw [List.length_map]; exact Nat.lt_of_le_of_lt lt (by decide)) fun _ => ?_
    walk_at "ev"
    rw [take_succ hr, List.map_append, List.map_append, List.map_append]
    exact ⟨_, _, _, rfl, by rw [hb]; rfl⟩
  · subst eΓ
    rw [enu_len, List.length_map] at *
    rw [List.take_length, List.drop_length] at *
    walk_at "ev"
    refine sideR_by (by decide) fun _ => ?_
    walk_at "ev"
    rcases q with ⟨_, h⟩ | ⟨j, y, _⟩
    · exact h
    · rw [htb, hb] at y; cases y
abbrev s_table_of : Stmt := top 20
theorem sc_table_of : FnScope ["series", "rows", "ahead", "kept", "at", "name", "numbers"] ["series", "rows"] (defScope s_table_of) := ⟨rfl, rfl, rfl, by decide +kernel, rfl, by decide +kernel, by decide +kernel⟩
theorem ok_table_of {P : Program} {w : World} {K : PySem.W.Frag} {mg : Str → Option Value} {base : Heap} {t_MOST_ROWS : Tok} {f : Addr} {fd : FuncData} (F : Fun K "table_of" "table_of" s_table_of f fd) (C_are_series : Cal P w K mg base (CXE P w) 4 "are_series" ["names"] (spD ⟨K, TSK K, LSK K⟩ false wf_are_series)) (C_is_row : Cal P w K mg base (CXE P w) 6 "is_row" ["name", "numbers", "many", "ahead"] (spD ⟨K, TSK K, LSK K⟩ false wf_is_row)) (RA_NoTable : RaI P w K mg base (TSK K) (LSK K) 1 "NoTable" ["self", "row"] ["row"] mok_NoTable) (z_len : mg "len" = none) (z_enumerate : mg "enumerate" = none) (z_tuple : mg "tuple" = none) (m_MOST_ROWS : mg "MOST_ROWS" = some (.int 12 t_MOST_ROWS)) : FnOk P w K mg base (CXE P w) 7 f fd ["series", "rows"] (spD ⟨K, TSK K, LSK K⟩ false wf_table_of) := by
  have nd := (sc_table_of).nd
  refine fn_dX F sc_table_of (by decide) (fun ds row Ψ Ξ h => by first | (obtain ⟨rfl, _⟩ := h; rfl) | (obtain ⟨_, rfl, _⟩ := h; rfl) | (obtain ⟨_, _, rfl, _⟩ := h; rfl) | (obtain ⟨_, _, _, rfl, _⟩ := h; rfl) | (obtain ⟨_, _, _, _, rfl, _⟩ := h; rfl) | (obtain ⟨_, _, _, _, _, rfl, _⟩ := h; rfl) | (obtain ⟨_, _, _, _, _, _, rfl, _⟩ := h; rfl) | (obtain ⟨_, _, _, _, _, _, _, rfl, _⟩ := h; rfl) | (obtain ⟨_, _, _, _, _, _, _, _, rfl, _⟩ := h; rfl) | (obtain ⟨_, _, _, _, _, _, _, _, _, rfl, _⟩ := h; rfl) | (obtain ⟨_, _, _, _, _, _, _, _, _, _, rfl, _⟩ := h; rfl) | (obtain ⟨_, _, _, _, _, _, _, _, _, _, _, rfl, _⟩ := h; rfl) | (obtain ⟨_, _, _, _, _, _, _, _, _, _, _, _, rfl, _⟩ := h; rfl) | (obtain ⟨_, _, _, _, _, _, _, _, _, _, _, _, _, rfl, _⟩ := h; rfl)) d_table_of (fun cdv A outer s H E hr => ⟨_, (q_sc (q_ifS (q_tnot (q_tv (q_call C_are_series hr Kx.pass_on (q_cons (q_v 0 (pv 0)) q_nil (by rfl)) (by rfl) (by decide) (by decide) (by rfl)) (by rfl))) (q_s1 (q_raiseI RA_NoTable hr (by decide) (by rfl) (q_cons (q_un un_neg ud_neg q_int) q_nil (by rfl)) rfl (by rfl) (by decide))) q_s0)
      (q_sc (q_ifS (q_tnot (q_chainT op_le bd_le op_le bd_le q_int (q_cB (call_lenK (by rfl)) cd_len (by rfl) z_len (by decide +kernel) (q_cons (q_v 1 (pv 1)) q_nil (by rfl)) (by decide) (by decide) (by rfl)) (q_glob (v := .int 12) (pe_glob (by rfl) m_MOST_ROWS ⟨_, rfl⟩) (fun _ => .int _)) (by rfl))) (q_s1 (q_raiseI RA_NoTable hr (by decide) (by rfl) (q_cons (q_cB (call_lenK (by rfl)) cd_len (by rfl) z_len (by decide +kernel) (q_cons (q_v 1 (pv 1)) q_nil (by rfl)) (by decide) (by decide) (by rfl)) q_nil (by rfl)) rfl (by rfl) (by decide))) q_s0)
      (q_sc (q_set (i := 2) nd rfl (Or.inl rfl) (q_lst q_nil) (Or.inl (by decide)) (by rfl) (by first | exact .inl rfl | exact .inr rfl))
      (q_sc (q_set (i := 3) nd rfl (Or.inl rfl) (q_lst q_nil) (Or.inl (by decide)) (by rfl) (by first | exact .inl rfl | exact .inr rfl))
      (q_sc (q_for PassesOwn.leaving (by rfl) (q_ie (by rfl) (by rfl) z_enumerate (q_cons (q_v 1 (pv 1)) q_nil (by rfl)) (by rfl)) (q_gt (by rfl) (by rfl) (q_g1 (q_gn (i := 4) (pg_name nd rfl (Or.inl rfl)) (Or.inl (by decide))) (q_g1 (q_gt (by rfl) (by rfl) (q_g1 (q_gn (i := 5) (pg_name nd rfl (Or.inl rfl)) (Or.inl (by decide))) (q_g1 (q_gn (i := 6) (pg_name nd rfl (Or.inl rfl)) (Or.inl (by decide))) q_g0 (by rfl)) (by rfl)) (by rfl) (by rfl)) q_g0 (by rfl)) (by rfl)) (by rfl) (by rfl)) (q_sc (q_ifS (q_tnot (q_tv (q_lend C_is_row hr Kx.pass_on (q_cons (q_v 5 (pv 5)) (q_cons (q_v 6 (pv 6)) (q_cons (q_cB (call_lenK (by rfl)) cd_len (by rfl) z_len (by decide +kernel) (q_cons (q_v 0 (pv 0)) q_nil (by rfl)) (by decide) (by decide) (by rfl)) (q_cons (q_v 2 (pv 2)) q_nil (by rfl)) (by rfl)) (by rfl)) (by rfl)) (by rfl) (by decide) (by decide) (by rfl)) (by rfl))) (q_s1 (q_raiseI RA_NoTable hr (by decide) (by rfl) (q_cons (q_v 4 (pv 4)) q_nil (by rfl)) rfl (by rfl) (by decide))) q_s0)
      (q_sc (q_drop (q_app (pv 2) (q_v 5 (pv 5)) (by rfl) (by rfl) (by rfl) (by rfl)) (by rfl))
      (q_s1 (q_drop (q_app (pv 3) (q_tup (q_cons (q_v 5 (pv 5)) (q_cons (q_cT (tuple_ofK (by rfl)) cd_tuple (by rfl) z_tuple (by decide +kernel) (q_cons (q_v 6 (pv 6)) q_nil (by rfl)) (by decide) (by decide) (by rfl)) q_nil (by rfl)) (by rfl))) (by rfl) (by rfl) (by rfl) (by rfl)) (by rfl))))) (fun _ => rfl))
      (q_s1 (q_ret (q_tup (q_cons (q_cT (tuple_ofK (by rfl)) cd_tuple (by rfl) z_tuple (by decide +kernel) (q_cons (q_v 0 (pv 0)) q_nil (by rfl)) (by decide) (by decide) (by rfl)) (q_cons (q_cT (tuple_ofK (by rfl)) cd_tuple (by rfl) z_tuple (by decide +kernel) (q_cons (q_v 3 (pv 3)) q_nil (by rfl)) (by decide) (by decide) (by rfl)) q_nil (by rfl)) (by rfl))))))))))⟩)
def w__law_cell_at : WS := (wSeq (wIfS (wCmp bLt (wVar 1) (wCB dLen (wACons (wVar 0) wANil))) (wRet (wOp dIx (wVar 0) (wVar 1))) wNext)
  (wRet (wC (.int 0))))
theorem d__law_cell_at : ∀ ds row Ψ Ξ, wf__law_cell_at ds row Ψ Ξ → goR (w__law_cell_at (endsW false Ψ fun _ => False)) (startW false 2 ds row) := by
  rintro ds row Ψ Ξ ⟨ns, k, rfl, h0, q⟩
  unfold w__law_cell_at
  walk_at "ev"
  refine iteR_by (fun h => ?_) (fun h => ?_)
  rotate_left
  · walk_at "ev"
    exact q 0
  have h := of_decide_eq_true h
  walk_at "ev"
  obtain ⟨z, hz, ha⟩ := at_in (ds := ns.map D.int) h0 h
  obtain ⟨v, _, rfl⟩ := List.mem_map.mp hz
  refine ⟨_, ha, ?_⟩
  walk_at "ev"
  exact q v
abbrev s__law_cell_at : Stmt := top 22
theorem sc__law_cell_at : FnScope ["_law_script", "_law_k"] ["_law_script", "_law_k"] (defScope s__law_cell_at) := ⟨rfl, rfl, rfl, by decide +kernel, rfl, by decide +kernel, by decide +kernel⟩
theorem ok__law_cell_at {P : Program} {w : World} {K : PySem.W.Frag} {mg : Str → Option Value} {base : Heap} {f : Addr} {fd : FuncData} (F : Fun K "_law_cell_at" "_law_cell_at" s__law_cell_at f fd)  (z_len : mg "len" = none) : FnOk P w K mg base (CXE P w) 1 f fd ["_law_script", "_law_k"] (spD ⟨K, TSK K, LSK K⟩ false wf__law_cell_at) := by
  have nd := (sc__law_cell_at).nd
  refine fn_d F sc__law_cell_at (by decide) (fun ds row Ψ Ξ h => by first | (obtain ⟨rfl, _⟩ := h; rfl) | (obtain ⟨_, rfl, _⟩ := h; rfl) | (obtain ⟨_, _, rfl, _⟩ := h; rfl) | (obtain ⟨_, _, _, rfl, _⟩ := h; rfl) | (obtain ⟨_, _, _, _, rfl, _⟩ := h; rfl) | (obtain ⟨_, _, _, _, _, rfl, _⟩ := h; rfl) | (obtain ⟨_, _, _, _, _, _, rfl, _⟩ := h; rfl) | (obtain ⟨_, _, _, _, _, _, _, rfl, _⟩ := h; rfl) | (obtain ⟨_, _, _, _, _, _, _, _, rfl, _⟩ := h; rfl) | (obtain ⟨_, _, _, _, _, _, _, _, _, rfl, _⟩ := h; rfl) | (obtain ⟨_, _, _, _, _, _, _, _, _, _, rfl, _⟩ := h; rfl) | (obtain ⟨_, _, _, _, _, _, _, _, _, _, _, rfl, _⟩ := h; rfl) | (obtain ⟨_, _, _, _, _, _, _, _, _, _, _, _, rfl, _⟩ := h; rfl) | (obtain ⟨_, _, _, _, _, _, _, _, _, _, _, _, _, rfl, _⟩ := h; rfl)) d__law_cell_at (fun cdv A outer s H E hr => ⟨_, (q_sc (q_ifS (q_cmpT op_lt bd_lt (q_v 1 (pv 1)) (q_cB (call_lenK (by rfl)) cd_len (by rfl) z_len (by decide +kernel) (q_cons (q_v 0 (pv 0)) q_nil (by rfl)) (by decide) (by decide) (by rfl)) (nomark _)) (q_s1 (q_ret (q_ix (ix_seqK (by rfl)) od_ix (q_v 0 (pv 0)) (q_v 1 (pv 1)) (fun _ _ => rfl)))) q_s0)
      (q_s1 (q_ret q_int)))⟩)
def w__law_take : WS := (wSeq (wPutAt 0 (wOp dAdd (wOp dIx (wVar 0) (wC (.int 1))) (wC (.int 1))) (wC (.int 1)))
  (wSeq (wIfS (wCmp bGe (wOp dIx (wVar 0) (wC (.int 0))) (wOp dPow (wC (.int 10)) (wC (.int 18)))) (wSeq (wSet 2 (wOp dSub (wOp dIx (wVar 0) (wC (.int 0))) (wOp dPow (wC (.int 10)) (wC (.int 18)))))
  (wSeq (wPutAt 0 (wOp dAdd (wOp dPow (wC (.int 10)) (wC (.int 18))) (wOp dDiv (wVar 2) (wVar 1))) (wC (.int 0)))
  (wRet (wOp dMod (wVar 2) (wVar 1))))) wNext)
  (wSeq (wSet 3 (wOp dMod (wOp dAdd (wOp dAdd (wOp dAdd (wOp dMul (wOp dIx (wVar 0) (wC (.int 0))) (wC (.int 40692))) (wOp dMul (wOp dMul (wC (.int 104729)) (wOp dIx (wVar 0) (wC (.int 1)))) (wOp dIx (wVar 0) (wC (.int 1))))) (wOp dMul (wC (.int 31)) (wOp dIx (wVar 0) (wC (.int 1))))) (wC (.int 5))) (wC (.int 2147483399))))
  (wSeq (wSet 3 (wOp dMod (wOp dAdd (wOp dAdd (wOp dMul (wVar 3) (wVar 3)) (wOp dMul (wC (.int 48271)) (wVar 3))) (wOp dIx (wVar 0) (wC (.int 1)))) (wC (.int 2147483647))))
  (wRet (wOp dMod (wOp dDiv (wVar 3) (wC (.int 7))) (wVar 1)))))))
theorem d__law_take : ∀ ds row Ψ Ξ, wf__law_take ds row Ψ Ξ → goR (w__law_take (endsW true Ψ fun _ => False)) (startW true 4 ds row) := by
  rintro ds row Ψ Ξ ⟨b, N, rfl, ⟨a, n, rfl, h0, h1⟩, hN, hb0, hb1, q⟩
  unfold w__law_take
  walk_at "ev"
  walk_at "sd"
  refine iteR_by (fun h => ?_) (fun h => ?_)
  · walk_at "ev"
    repeat walk_at "sd"
    exact q _ _ (Int.emod_nonneg _ (by omega)) (Int.emod_lt_of_pos _ hb0) ⟨_, _, rfl, by omega, by omega⟩
  · walk_at "ev"
    repeat walk_at "sd"
    exact q _ _ (Int.emod_nonneg _ (by omega)) (Int.emod_lt_of_pos _ hb0) ⟨_, _, rfl, by omega, by omega⟩
abbrev s__law_take : Stmt := top 23
theorem sc__law_take : FnScope ["_law_row", "_law_base", "_law_rest", "_law_number_here"] ["_law_row", "_law_base"] (defScope s__law_take) := ⟨rfl, rfl, rfl, by decide +kernel, rfl, by decide +kernel, by decide +kernel⟩
theorem ok__law_take {P : Program} {w : World} {K : PySem.W.Frag} {mg : Str → Option Value} {base : Heap} {f : Addr} {fd : FuncData} (F : Fun K "_law_take" "_law_take" s__law_take f fd)   : FnOk P w K mg base (CXE P w) 1 f fd ["_law_row", "_law_base"] (spD ⟨K, TSK K, LSK K⟩ true wf__law_take) := by
  have nd := (sc__law_take).nd
  refine fn_d F sc__law_take (by decide) (fun ds row Ψ Ξ h => by first | (obtain ⟨rfl, _⟩ := h; rfl) | (obtain ⟨_, rfl, _⟩ := h; rfl) | (obtain ⟨_, _, rfl, _⟩ := h; rfl) | (obtain ⟨_, _, _, rfl, _⟩ := h; rfl) | (obtain ⟨_, _, _, _, rfl, _⟩ := h; rfl) | (obtain ⟨_, _, _, _, _, rfl, _⟩ := h; rfl) | (obtain ⟨_, _, _, _, _, _, rfl, _⟩ := h; rfl) | (obtain ⟨_, _, _, _, _, _, _, rfl, _⟩ := h; rfl) | (obtain ⟨_, _, _, _, _, _, _, _, rfl, _⟩ := h; rfl) | (obtain ⟨_, _, _, _, _, _, _, _, _, rfl, _⟩ := h; rfl) | (obtain ⟨_, _, _, _, _, _, _, _, _, _, rfl, _⟩ := h; rfl) | (obtain ⟨_, _, _, _, _, _, _, _, _, _, _, rfl, _⟩ := h; rfl) | (obtain ⟨_, _, _, _, _, _, _, _, _, _, _, _, rfl, _⟩ := h; rfl) | (obtain ⟨_, _, _, _, _, _, _, _, _, _, _, _, _, rfl, _⟩ := h; rfl)) d__law_take (fun cdv A outer s H E hr => ⟨_, (q_sc (q_putAt (pv 0) (q_op op_add od_add (q_ix (ix_seqK (by rfl)) od_ix (q_v 0 (pv 0)) q_int (fun _ _ => rfl)) q_int) q_int (by rfl) (by rfl) (by rfl) (by intro _; rfl))
      (q_sc (q_ifS (q_cmpT op_ge bd_ge (q_ix (ix_seqK (by rfl)) od_ix (q_v 0 (pv 0)) q_int (fun _ _ => rfl)) (q_op op_pow od_pow q_int q_int) (nomark _)) (q_sc (q_set (i := 2) nd rfl (Or.inl rfl) (q_op op_sub od_sub (q_ix (ix_seqK (by rfl)) od_ix (q_v 0 (pv 0)) q_int (fun _ _ => rfl)) (q_op op_pow od_pow q_int q_int)) (Or.inl (by decide)) (by rfl) (by first | exact .inl rfl | exact .inr rfl))
      (q_sc (q_putAt (pv 0) (q_op op_add od_add (q_op op_pow od_pow q_int q_int) (q_op op_fdivP od_div (q_v 2 (pv 2)) (q_v 1 (pv 1)))) q_int (by rfl) (by rfl) (by rfl) (by intro _; rfl))
      (q_s1 (q_ret (q_op op_mod od_mod (q_v 2 (pv 2)) (q_v 1 (pv 1))))))) q_s0)
      (q_sc (q_set (i := 3) nd rfl (Or.inl rfl) (q_op op_mod od_mod (q_op op_add od_add (q_op op_add od_add (q_op op_add od_add (q_op op_mulB od_mul (q_ix (ix_seqK (by rfl)) od_ix (q_v 0 (pv 0)) q_int (fun _ _ => rfl)) q_int) (q_op op_mulB od_mul (q_op op_mulB od_mul q_int (q_ix (ix_seqK (by rfl)) od_ix (q_v 0 (pv 0)) q_int (fun _ _ => rfl))) (q_ix (ix_seqK (by rfl)) od_ix (q_v 0 (pv 0)) q_int (fun _ _ => rfl)))) (q_op op_mulB od_mul q_int (q_ix (ix_seqK (by rfl)) od_ix (q_v 0 (pv 0)) q_int (fun _ _ => rfl)))) q_int) q_int) (Or.inl (by decide)) (by rfl) (by first | exact .inl rfl | exact .inr rfl))
      (q_sc (q_set (i := 3) nd rfl (Or.inl rfl) (q_op op_mod od_mod (q_op op_add od_add (q_op op_add od_add (q_op op_mulB od_mul (q_v 3 (pv 3)) (q_v 3 (pv 3))) (q_op op_mulB od_mul q_int (q_v 3 (pv 3)))) (q_ix (ix_seqK (by rfl)) od_ix (q_v 0 (pv 0)) q_int (fun _ _ => rfl))) q_int) (Or.inl (by decide)) (by rfl) (by first | exact .inl rfl | exact .inr rfl))
      (q_s1 (q_ret (q_op op_mod od_mod (q_op op_fdivP od_div (q_v 3 (pv 3)) q_int) (q_v 1 (pv 1)))))))))⟩)
def w__law_wide : WS := (wSeq (wSet 2 (wC (.int 0)))
  (wSeq (wFor (wIRng1 (wACons (wC (.int 12)) wANil)) (wgName 3) (wSet 2 (wOp dAdd (wOp dMul (wVar 2) (wC (.int 1000))) (wCall true wf__law_take (wACons (wVar 0) (wACons (wC (.int 1000)) wANil))))))
  (wRet (wOp dMod (wVar 2) (wVar 1)))))
theorem d__law_wide : ∀ ds row Ψ Ξ, wf__law_wide ds row Ψ Ξ → goR (w__law_wide (endsW true Ψ fun _ => False)) (startW true 4 ds row) := by
  rintro ds row Ψ Ξ ⟨b, N, rfl, R0, n0, n1, b0, q⟩
  unfold w__law_wide
  walk_at "ev"
  repeat walk_at "sd"
  refine forB_by (fun j Γ => ∃ (row3 : List D) (z : Int) (x3 : Option En), Γ = [some (En.own row3), some (En.shr (D.int b)), some (En.shr (D.int z)), x3] ∧ 0 ≤ z ∧ z < 1000 ^ j ∧ RowD (N + j) row3) ⟨_, _, _, rfl, by decide, by decide, R0.mono (by omega)⟩ ?_ ?_
  · rintro j Γ d hd ⟨row3, z, x3, rfl, z0, z1, R3⟩
    obtain ⟨hi, rfl⟩ := rng_get hd
    have hj : j < 12 := hi
    walk_at "ev"
    refine sideR_by (Or.inr (Or.inr ⟨by decide, by decide⟩)) fun _ => ?_
    walk_at "ev"
    refine ⟨1000, _, rfl, R3, by omega, by decide, by decide, fun v row' v0 v1 R4 => ?_⟩
    walk_at "ev"
    refine ⟨_, _, _, rfl, by omega, ?_, R4.mono (by omega)⟩
    rw [Int.pow_succ]
    omega
  · rintro Γ ⟨row3, z, x3, rfl, z0, z1, R3⟩
    rw [rng_length] at R3
    walk_at "ev"
    refine sideR_by b0 fun _ => ?_
    walk_at "ev"
    exact q _ _ (Int.emod_nonneg _ (by omega)) (Int.emod_lt_of_pos _ b0) R3
abbrev s__law_wide : Stmt := top 24
theorem sc__law_wide : FnScope ["_law_row", "_law_base", "_law_number_here", "_law_turn"] ["_law_row", "_law_base"] (defScope s__law_wide) := ⟨rfl, rfl, rfl, by decide +kernel, rfl, by decide +kernel, by decide +kernel⟩
theorem ok__law_wide {P : Program} {w : World} {K : PySem.W.Frag} {mg : Str → Option Value} {base : Heap} {f : Addr} {fd : FuncData} (F : Fun K "_law_wide" "_law_wide" s__law_wide f fd) (C__law_take : Cal P w K mg base (CXE P w) 1 "_law_take" ["_law_row", "_law_base"] (spD ⟨K, TSK K, LSK K⟩ true wf__law_take)) (z_range : mg "range" = none) : FnOk P w K mg base (CXE P w) 2 f fd ["_law_row", "_law_base"] (spD ⟨K, TSK K, LSK K⟩ true wf__law_wide) := by
  have nd := (sc__law_wide).nd
  refine fn_d F sc__law_wide (by decide) (fun ds row Ψ Ξ h => by first | (obtain ⟨rfl, _⟩ := h; rfl) | (obtain ⟨_, rfl, _⟩ := h; rfl) | (obtain ⟨_, _, rfl, _⟩ := h; rfl) | (obtain ⟨_, _, _, rfl, _⟩ := h; rfl) | (obtain ⟨_, _, _, _, rfl, _⟩ := h; rfl) | (obtain ⟨_, _, _, _, _, rfl, _⟩ := h; rfl) | (obtain ⟨_, _, _, _, _, _, rfl, _⟩ := h; rfl) | (obtain ⟨_, _, _, _, _, _, _, rfl, _⟩ := h; rfl) | (obtain ⟨_, _, _, _, _, _, _, _, rfl, _⟩ := h; rfl) | (obtain ⟨_, _, _, _, _, _, _, _, _, rfl, _⟩ := h; rfl) | (obtain ⟨_, _, _, _, _, _, _, _, _, _, rfl, _⟩ := h; rfl) | (obtain ⟨_, _, _, _, _, _, _, _, _, _, _, rfl, _⟩ := h; rfl) | (obtain ⟨_, _, _, _, _, _, _, _, _, _, _, _, rfl, _⟩ := h; rfl) | (obtain ⟨_, _, _, _, _, _, _, _, _, _, _, _, _, rfl, _⟩ := h; rfl)) d__law_wide (fun cdv A outer s H E hr => ⟨_, (q_sc (q_set (i := 2) nd rfl (Or.inl rfl) q_int (Or.inl (by decide)) (by rfl) (by first | exact .inl rfl | exact .inr rfl))
      (q_sc (q_for PassesOwn.never (by rfl) (q_ir1 (by rfl) z_range (q_cons q_int q_nil (by rfl)) (by rfl)) (q_gn (i := 3) (pg_name nd rfl (Or.inl rfl)) (Or.inl (by decide))) (q_s1 (q_set (i := 2) nd rfl (Or.inl rfl) (q_op op_add od_add (q_op op_mulB od_mul (q_v 2 (pv 2)) q_int) (q_call C__law_take hr passE0 (q_cons (q_v 0 (pv 0)) (q_cons q_int q_nil (by rfl)) (by rfl)) (by rfl) (by decide) (by decide) (by rfl))) (Or.inl (by decide)) (by rfl) (by first | exact .inl rfl | exact .inr rfl))) (fun _ => rfl))
      (q_s1 (q_ret (q_op op_mod od_mod (q_v 2 (pv 2)) (q_v 1 (pv 1)))))))⟩)
def w__law_low : WS := (wSeq (wSet 2 (wCB dAbs (wACons (wVar 0) wANil)))
  (wSeq (wSet 3 (wCB dAbs (wACons (wVar 1) wANil)))
  (wSeq (wWhile (wCmp (bSc not) (wVar 3) (wC (.int 0))) (wSeq (wSet 4 (wOp dMod (wVar 2) (wVar 3)))
  (wSeq (wSet 2 (wVar 3))
  (wSet 3 (wVar 4)))))
  (wSeq (wIfS (wCmp bLt (wVar 1) (wC (.int 0))) (wSet 2 (wOp dSub (wC (.int 0)) (wVar 2))) wNext)
  (wRet (wTup (wACons (wOp dDivB (wVar 0) (wVar 2)) (wACons (wOp dDivB (wVar 1) (wVar 2)) wANil))))))))
theorem d__law_low : ∀ ds row Ψ Ξ, wf__law_low ds row Ψ Ξ → goR (w__law_low (endsW false Ψ fun _ => False)) (startW false 5 ds row) := by
  rintro ds row Ψ Ξ ⟨t, b, rfl, b0, bt, bb, q⟩
  unfold w__law_low
  walk_at "ev"
  refine ⟨fun m Γ => ∃ (x y : Int) (x4 : Option En), Γ = [some (En.shr (D.int t)), some (En.shr (D.int b)), some (En.shr (D.int x)), some (En.shr (D.int y)), x4] ∧ 0 ≤ x ∧ 0 ≤ y ∧ m = y.toNat ∧ Nat.gcd x.toNat y.toNat = Int.gcd t b, ⟨_, _, _, _, rfl, ?_, ?_, rfl, ?_⟩, ?_⟩
  · split <;> omega
  · split <;> omega
  · rw [← gcd_abs]
    unfold Int.gcd
    congr 1 <;> split <;> omega
  rintro m Γ ⟨x, y, x4, rfl, x0, y0, rfl, hg⟩
  walk_at "ev"
  by_cases hy : y = 0
  · subst hy
    simp only [decide_true, Bool.not_true]
    walk_at "ev"
    have hx : x = ((Int.gcd t b : Nat) : Int) := by
      rw [← hg]
      simp
      omega
    subst hx
    have hpos : 0 < Int.gcd t b := Int.gcd_pos_of_ne_zero_right t b0
    have hb : Bd 3100 ((Int.gcd t b : Nat) : Int) := by
      have : Int.gcd t b ≤ b.natAbs := Nat.gcd_le_right _ (by omega)
      unfold Bd at *
      omega
    refine iteR_by (fun h => ?_) (fun h => ?_)
    · have h := of_decide_eq_true h
      walk_at "ev"
      refine sideR_by ⟨by omega, (Bd.mono (m := 3101) (by unfold Bd at *; omega) (by decide))⟩ fun _ => ?_
      walk_at "ev"
      refine sideR_by ⟨by omega, (Bd.mono (m := 3101) (by unfold Bd at *; omega) (by decide))⟩ fun _ => ?_
      walk_at "ev"
      walk_at "sd"
      rw [show (0 : Int) - ((Int.gcd t b : Nat) : Int) = lowG t b by unfold lowG; rw [if_pos h]; omega]
      exact q
    · have h := of_decide_eq_false h
      walk_at "ev"
      refine sideR_by ⟨by omega, hb.mono⟩ fun _ => ?_
      walk_at "ev"
      refine sideR_by ⟨by omega, hb.mono⟩ fun _ => ?_
      walk_at "ev"
      walk_at "sd"
      rw [show ((Int.gcd t b : Nat) : Int) = lowG t b by unfold lowG; rw [if_neg h]]
      exact q
  · simp only [hy, decide_false, Bool.not_false]
    walk_at "ev"
    refine sideR_by (show 0 < y by omega) fun _ => ?_
    walk_at "ev"
    have h1 := Int.emod_nonneg x hy
    have h2 := Int.emod_lt_of_pos x (show 0 < y by omega)
    refine ⟨(x % y).toNat, by omega, _, _, _, rfl, y0, h1, rfl, ?_⟩
    have e : (x % y).toNat = x.toNat % y.toNat := by
      have := Int.toNat_emod x0 y0
      omega
    rw [e]
    exact gcd_step hg (by omega)
abbrev s__law_low : Stmt := top 25
theorem sc__law_low : FnScope ["_law_top", "_law_bottom", "_law_one", "_law_other", "_law_rest"] ["_law_top", "_law_bottom"] (defScope s__law_low) := ⟨rfl, rfl, rfl, by decide +kernel, rfl, by decide +kernel, by decide +kernel⟩
theorem ok__law_low {P : Program} {w : World} {K : PySem.W.Frag} {mg : Str → Option Value} {base : Heap} {f : Addr} {fd : FuncData} (F : Fun K "_law_low" "_law_low" s__law_low f fd)  (z_abs : mg "abs" = none) : FnOk P w K mg base (CXE P w) 1 f fd ["_law_top", "_law_bottom"] (spD ⟨K, TSK K, LSK K⟩ false wf__law_low) := by
  have nd := (sc__law_low).nd
  refine fn_d F sc__law_low (by decide) (fun ds row Ψ Ξ h => by first | (obtain ⟨rfl, _⟩ := h; rfl) | (obtain ⟨_, rfl, _⟩ := h; rfl) | (obtain ⟨_, _, rfl, _⟩ := h; rfl) | (obtain ⟨_, _, _, rfl, _⟩ := h; rfl) | (obtain ⟨_, _, _, _, rfl, _⟩ := h; rfl) | (obtain ⟨_, _, _, _, _, rfl, _⟩ := h; rfl) | (obtain ⟨_, _, _, _, _, _, rfl, _⟩ := h; rfl) | (obtain ⟨_, _, _, _, _, _, _, rfl, _⟩ := h; rfl) | (obtain ⟨_, _, _, _, _, _, _, _, rfl, _⟩ := h; rfl) | (obtain ⟨_, _, _, _, _, _, _, _, _, rfl, _⟩ := h; rfl) | (obtain ⟨_, _, _, _, _, _, _, _, _, _, rfl, _⟩ := h; rfl) | (obtain ⟨_, _, _, _, _, _, _, _, _, _, _, rfl, _⟩ := h; rfl) | (obtain ⟨_, _, _, _, _, _, _, _, _, _, _, _, rfl, _⟩ := h; rfl) | (obtain ⟨_, _, _, _, _, _, _, _, _, _, _, _, _, rfl, _⟩ := h; rfl)) d__law_low (fun cdv A outer s H E hr => ⟨_, (q_sc (q_set (i := 2) nd rfl (Or.inl rfl) (q_cB call_abs cd_abs (by rfl) z_abs (by decide +kernel) (q_cons (q_v 0 (pv 0)) q_nil (by rfl)) (by decide) (by decide) (by rfl)) (Or.inl (by decide)) (by rfl) (by first | exact .inl rfl | exact .inr rfl))
      (q_sc (q_set (i := 3) nd rfl (Or.inl rfl) (q_cB call_abs cd_abs (by rfl) z_abs (by decide +kernel) (q_cons (q_v 1 (pv 1)) q_nil (by rfl)) (by decide) (by decide) (by rfl)) (Or.inl (by decide)) (by rfl) (by first | exact .inl rfl | exact .inr rfl))
      (q_sc (q_while PassesOwn.never (q_cmpT op_ne bd_ne (q_v 3 (pv 3)) q_int (nomark _)) (q_sc (q_set (i := 4) nd rfl (Or.inl rfl) (q_op op_mod od_mod (q_v 2 (pv 2)) (q_v 3 (pv 3))) (Or.inl (by decide)) (by rfl) (by first | exact .inl rfl | exact .inr rfl))
      (q_sc (q_set (i := 2) nd rfl (Or.inl rfl) (q_v 3 (pv 3)) (Or.inl (by decide)) (by rfl) (by first | exact .inl rfl | exact .inr rfl))
      (q_s1 (q_set (i := 3) nd rfl (Or.inl rfl) (q_v 4 (pv 4)) (Or.inl (by decide)) (by rfl) (by first | exact .inl rfl | exact .inr rfl))))))
      (q_sc (q_ifS (q_cmpT op_lt bd_lt (q_v 1 (pv 1)) q_int (nomark _)) (q_s1 (q_set (i := 2) nd rfl (Or.inl rfl) (q_op op_sub od_sub q_int (q_v 2 (pv 2))) (Or.inl (by decide)) (by rfl) (by first | exact .inl rfl | exact .inr rfl))) q_s0)
      (q_s1 (q_ret (q_tup (q_cons (q_op op_fdivB od_divB (q_v 0 (pv 0)) (q_v 2 (pv 2))) (q_cons (q_op op_fdivB od_divB (q_v 1 (pv 1)) (q_v 2 (pv 2))) q_nil (by rfl)) (by rfl)))))))))⟩)
def w__law_names : WS := (wSeq (wSet 2 (wC (.str "abcdefghijklmnopqrstuvwxyz")))
  (wSeq (wSet 3 (wOp dAdd (wC (.int 1)) (wCall true wf__law_take (wACons (wVar 0) (wACons (wC (.int 10)) wANil)))))
  (wSeq (wSet 4 (wCall true wf__law_take (wACons (wVar 0) (wACons (wVar 3) wANil))))
  (wSeq (wSet 5 (wM1 dJoin (wC (.str "")) (wLc (wIRng1 (wACons (wVar 3) wANil)) (wgName 11) (fun Γ Ψ _ => Ψ true Γ) (wOp dIx (wVar 2) (wCall true wf__law_take (wACons (wVar 0) (wACons (wC (.int 26)) wANil)))) [11])))
  (wSeq (wSet 6 (wCall true wf__law_take (wACons (wVar 0) (wACons (wC (.int 26)) wANil))))
  (wSeq (wSet 7 (wCB dInt1 (wACons (wAndV (wOp (bod bLt) (wVar 3) (wC (.int 10))) (wOp (bod (bSc id)) (wCall true wf__law_take (wACons (wVar 0) (wACons (wC (.int 3)) wANil))) (wC (.int 0)))) wANil)))
  (wSeq (wSet 8 (wLst wANil))
  (wSeq (wFor (wIRng1 (wACons (wVar 1) wANil)) (wgName 9) (wSeq (wSet 10 (wOp dAddS (wOp dAddS (wSl dSlS (wVar 5) wNoP (wPrt (wVar 4))) (wOp dIx (wVar 2) (wOp dMod (wOp dAdd (wVar 6) (wOp dMul (wC (.int 5)) (wVar 9))) (wC (.int 26))))) (wSl dSlS (wVar 5) (wPrt (wOp dAdd (wVar 4) (wC (.int 1)))) wNoP)))
  (wDrop (wApp 8 (wOp dAddS (wVar 10) (wOp dRepS (wC (.str "s")) (wOp dMul (wOp dMod (wVar 9) (wC (.int 2))) (wVar 7))))))))
  (wRet (wVar 8))))))))))
theorem d__law_names : ∀ ds row Ψ Ξ, wf__law_names ds row Ψ Ξ → goR (w__law_names (endsW true Ψ fun _ => False)) (startW true 12 ds row) := by
  rintro ds row Ψ Ξ ⟨m, N, rfl, hr, n0, n1, m0, m1, q⟩
  unfold w__law_names
  walk_at "ev"
  refine ⟨10, _, rfl, hr, by omega, by decide, by decide, fun v1 row1 v10 v11 R1 => ?_⟩
  walk_at "ev"
  refine ⟨1 + v1, _, rfl, R1, by omega, by omega, by omega, fun v3 row3 v30 v31 R3 => ?_⟩
  walk_at "ev"
  refine sideR_by (by omega) fun _ => ?_
  refine lcB_by (fun i acc Γ => ∃ (row5 : List D) (l : List Nat), Γ = [some (En.own row5), some (En.shr (D.int m)), some (En.shr (D.str (Str.ofString "abcdefghijklmnopqrstuvwxyz"))),
          some (En.shr (D.int (1 + v1))), some (En.shr (D.int v3)), none, none, none, none, none, none, none] ∧ acc = (l.map fun c => (⟨#[c]⟩ : Str)).map D.str ∧ l.length = i ∧ Lt l ∧ RowD (N + 2 + i) row5) ?_ ⟨_, [], rfl, rfl, rfl, (fun c hc => by cases hc), R3.mono (by omega)⟩ ?_ ?_
  · rw [rng_length]
    exact Nat.le_trans (m := 10) (by omega) (by decide)
  · rintro i acc Γ d hd ⟨row5, l, rfl, rfl, hl, hc, R5⟩
    obtain ⟨hi, rfl⟩ := rng_get hd
    walk_at "ev"
    refine ⟨26, _, rfl, R5, by omega, by decide, by decide, fun v6 row6 v60 v61 R6 => ?_⟩
    walk_at "ev"
    walk_at "sd"
    refine ⟨_, abc_at v60 v61, ?_⟩
    walk_at "ev"
    refine ⟨row6, l ++ [97 + v6.toNat], rfl, by simp, by simp [hl], fun c' hc' => ?_, R6.mono (by omega)⟩
    rcases List.mem_append.mp hc' with z | z
    · exact hc c' z
    · cases List.mem_singleton.mp z
      omega
  rintro acc Γ ⟨row5, l, rfl, rfl, hl, hc, R5⟩
  rw [rng_length] at hl R5
  walk_at "ev"
  refine sideR_by ?_ fun _ => ?_
  · rw [ones_sum, List.length_map]
    show l.length + l.length * 0 ≤ 16777216
    omega
  rw [join_mk]
  walk_at "ev"
  refine ⟨26, _, rfl, R5, by omega, by decide, by decide, fun v6 row6 v60 v61 R6 => ?_⟩
  walk_at "ev"
  have lw : ((mkS l).length : Int) = 1 + v1 := by rw [len_mk]; omega
  have c1 : cutS (mkS l) none (some v3) = mkS (l.take v3.toNat) := ext_mk (by rw [cut_head v30 (by omega), tl_mk])
  have c2 : cutS (mkS l) (some (v3 + 1)) none = mkS (l.drop (v3 + 1).toNat) := ext_mk (by rw [cut_fr _ (by omega) (by omega), tl_mk])
  have lL : (l.take v3.toNat).length = v3.toNat := by rw [List.length_take]; omega
  have lR : (l.drop (v3 + 1).toNat).length = l.length - (v3 + 1).toNat := List.length_drop ..
  have aL : Lt (l.take v3.toNat) := fun c h => hc c (List.mem_of_mem_take h)
  have aR : Lt (l.drop (v3 + 1).toNat) := fun c h => hc c (List.mem_of_mem_drop h)
  refine iteR_by (fun h => ?_) (fun h => ?_)
  rotate_left
  have R7 : RowD (N + 2 + ((1 + v1).toNat : Int) + 1 + 1) row6 := R6.mono (by omega)
  obtain ⟨lg, elg, l1, l9⟩ : ∃ lg : Nat, (if false then (1 : Int) else 0) = (lg : Int) ∧ lg ≤ 1 ∧ (lg = 1 → v1 < 9) := ⟨0, by simp, by omega, fun y => by cases y⟩
  walk_at "ev"
  rw [show (D.int 0) = D.int ((lg : Nat) : Int) from congrArg D.int (elg)]
  clear elg
  obtain ⟨rowZ, eZ⟩ : ∃ rowZ, rowZ = row6 := ⟨_, rfl⟩
  rw [← eZ] at R7 ⊢
  clear eZ
  rotate_left
  have h10 := of_decide_eq_true h
  walk_at "ev"
  refine ⟨3, _, rfl, R6, by omega, by decide, by decide, fun v8 row7 v80 v81 R7 => ?_⟩
  walk_at "ev"
  obtain ⟨lg, elg, l1, l9⟩ : ∃ lg : Nat, (if id (decide (v8 = 0)) then (1 : Int) else 0) = (lg : Int) ∧ lg ≤ 1 ∧ (lg = 1 → v1 < 9) := by
    by_cases z : v8 = 0
    · exact ⟨1, by simp [z], by omega, fun _ => by omega⟩
    · exact ⟨0, by simp [z], by omega, fun y => by cases y⟩
  rw [elg]
  clear elg
  obtain ⟨rowZ, eZ⟩ : ∃ rowZ, rowZ = row7 := ⟨_, rfl⟩
  rw [← eZ] at R7 ⊢
  clear eZ
  all_goals
    have R7 : RowD (N + 15) rowZ := R7.mono (by omega)
    refine sideR_by (by decide) fun _ => ?_
    walk_at "ev"
    refine sideR_by (by omega) fun _ => ?_
    refine forB_by (fun i Γ => ∃ e9 e10 e11 : Option En, Γ = [some (En.own rowZ), some (En.shr (D.int m)), some (En.shr (D.str (Str.ofString "abcdefghijklmnopqrstuvwxyz"))),
          some (En.shr (D.int (1 + v1))), some (En.shr (D.int v3)), some (En.shr (D.str (mkS l))), some (En.shr (D.int v6)), some (En.shr (D.int (lg : Nat))), some (En.own (((List.range i).map (nmK (l.take v3.toNat) (l.drop (v3 + 1).toNat) v6 lg)).map D.str)), e9, e10, e11]) ⟨_, _, _, rfl⟩ ?_ ?_
    · rintro i Γ d hd ⟨e9, e10, e11, rfl⟩
      obtain ⟨hi, rfl⟩ := rng_get hd
      walk_at "ev"
      refine sideR_by (Nat.le_trans (m := 10) (by rw [len_mk]; omega) (by decide)) fun _ => ?_
      walk_at "ev"
      rw [Int.zero_add]
      refine sideR_by (.inr (.inl ⟨by decide, by decide⟩)) fun _ => ?_
      walk_at "ev"
      refine sideR_by (by decide) fun _ => ?_
      walk_at "ev"
      walk_at "sd"
      refine ⟨_, abc_at (Int.emod_nonneg _ (by decide)) (Int.emod_lt_of_pos _ (by decide)), ?_⟩
      walk_at "ev"
      rw [c1]
      have sz : ∀ n : Nat, n ≤ 1000 → n ≤ sizeLine := fun n h => Nat.le_trans h (by decide)
      have hN : nmK (l.take v3.toNat) (l.drop (v3 + 1).toNat) v6 lg i = mkS ((l.take v3.toNat ++ [97 + ((v6 + 5 * (i : Int)) % 26).toNat] ++ l.drop (v3 + 1).toNat) ++ List.replicate (i % 2 * lg) 115) := rfl
      rw [range_snoc, hN]
      generalize 97 + ((v6 + 5 * (i : Int)) % 26).toNat = cc at *
      rw [show (⟨#[cc]⟩ : Str) = mkS [cc] from rfl]
      refine sideR_by (sz _ (by rw [len_mk, len_mk, lL]; simp; omega)) fun _ => ?_
      rw [app_mk]
      walk_at "ev"
      refine sideR_by (sz _ (by rw [len_mk]; omega)) fun _ => ?_
      rw [c2]
      walk_at "ev"
      refine sideR_by (sz _ (by rw [len_mk, len_mk, List.length_append, lL, lR]; simp; omega)) fun _ => ?_
      rw [app_mk]
      walk_at "ev"
      refine sideR_by (by decide) fun _ => ?_
      walk_at "ev"
      refine sideR_by (.inr (.inl ⟨by omega, by omega⟩)) fun _ => ?_
      have hk : (((i : Nat) : Int) % 2 * (lg : Int)) = ((i % 2 * lg : Nat) : Int) := by rw [Int.natCast_mul]; rfl
      have hk1 : i % 2 * lg ≤ 1 := by
        have : i % 2 = 0 ∨ i % 2 = 1 := by omega
        rcases this with h | h <;> rw [h] <;> omega
      rw [hk]
      generalize i % 2 * lg = kk at *
      walk_at "ev"
      refine sideR_by ⟨by omega, by omega, by decide, by rw [show (Str.ofString "s").length = 1 from rfl]; omega⟩ fun _ => ?_
      rw [show repS (Str.ofString "s") ((kk : Nat) : Int) = mkS (List.replicate kk 115) from ext_mk ((repS_tl 115 (kk : Int)).trans (by simp))]
      walk_at "ev"
      refine sideR_by (sz _ (by rw [len_mk, len_mk, List.length_append, List.length_append, lL, lR]; simp; omega)) fun _ => ?_
      rw [app_mk]
      walk_at "ev"
      refine sideR_by (by rw [List.length_map, List.length_map, List.length_range]; exact Nat.lt_of_lt_of_le (m := 13) (by omega) (by decide)) fun _ => ?_
      rw [List.map_append]
      exact ⟨_, _, _, rfl⟩
    · rintro Γ ⟨e9, e10, e11, rfl⟩
      rw [rng_length]
      walk_at "ev"
      refine q _ _ (by rw [List.length_map, List.length_range]; omega) (fun s hs => ?_) (nmK_nodup (by omega)) (R7.mono (by omega))
      obtain ⟨k, hk, rfl⟩ := List.mem_map.mp hs
      exact nmK_nm aL aR (by omega)
abbrev s__law_names : Stmt := top 26
theorem sc__law_names : FnScope ["_law_row", "_law_many", "_law_letters", "_law_size", "_law_at", "_law_base", "_law_first", "_law_longer", "_law_found", "_law_k", "_law_name", "_law_turn"] ["_law_row", "_law_many"] (defScope s__law_names) := ⟨rfl, rfl, rfl, by decide +kernel, rfl, by decide +kernel, by decide +kernel⟩
theorem ok__law_names {P : Program} {w : World} {K : PySem.W.Frag} {mg : Str → Option Value} {base : Heap} {f : Addr} {fd : FuncData} (F : Fun K "_law_names" "_law_names" s__law_names f fd) (C__law_take : Cal P w K mg base (CXE P w) 1 "_law_take" ["_law_row", "_law_base"] (spD ⟨K, TSK K, LSK K⟩ true wf__law_take)) (z_range : mg "range" = none) (z_int : mg "int" = none) : FnOk P w K mg base (CXE P w) 2 f fd ["_law_row", "_law_many"] (spD ⟨K, TSK K, LSK K⟩ true wf__law_names) := by
  have nd := (sc__law_names).nd
  refine fn_d F sc__law_names (by decide) (fun ds row Ψ Ξ h => by first | (obtain ⟨rfl, _⟩ := h; rfl) | (obtain ⟨_, rfl, _⟩ := h; rfl) | (obtain ⟨_, _, rfl, _⟩ := h; rfl) | (obtain ⟨_, _, _, rfl, _⟩ := h; rfl) | (obtain ⟨_, _, _, _, rfl, _⟩ := h; rfl) | (obtain ⟨_, _, _, _, _, rfl, _⟩ := h; rfl) | (obtain ⟨_, _, _, _, _, _, rfl, _⟩ := h; rfl) | (obtain ⟨_, _, _, _, _, _, _, rfl, _⟩ := h; rfl) | (obtain ⟨_, _, _, _, _, _, _, _, rfl, _⟩ := h; rfl) | (obtain ⟨_, _, _, _, _, _, _, _, _, rfl, _⟩ := h; rfl) | (obtain ⟨_, _, _, _, _, _, _, _, _, _, rfl, _⟩ := h; rfl) | (obtain ⟨_, _, _, _, _, _, _, _, _, _, _, rfl, _⟩ := h; rfl) | (obtain ⟨_, _, _, _, _, _, _, _, _, _, _, _, rfl, _⟩ := h; rfl) | (obtain ⟨_, _, _, _, _, _, _, _, _, _, _, _, _, rfl, _⟩ := h; rfl)) d__law_names (fun cdv A outer s H E hr => ⟨_, (q_sc (q_set (i := 2) nd rfl (Or.inr rfl) q_str (Or.inl (by decide)) (by rfl) (by first | exact .inl rfl | exact .inr rfl))
      (q_sc (q_set (i := 3) nd rfl (Or.inl rfl) (q_op op_add od_add q_int (q_call C__law_take hr passE0 (q_cons (q_v 0 (pv 0)) (q_cons q_int q_nil (by rfl)) (by rfl)) (by rfl) (by decide) (by decide) (by rfl))) (Or.inl (by decide)) (by rfl) (by first | exact .inl rfl | exact .inr rfl))
      (q_sc (q_set (i := 4) nd rfl (Or.inl rfl) (q_call C__law_take hr passE0 (q_cons (q_v 0 (pv 0)) (q_cons (q_v 3 (pv 3)) q_nil (by rfl)) (by rfl)) (by rfl) (by decide) (by decide) (by rfl)) (Or.inl (by decide)) (by rfl) (by first | exact .inl rfl | exact .inr rfl))
      (q_sc (q_set (i := 5) nd rfl (Or.inl rfl) (q_join q_str (q_lc (own := [("_law_turn", 11)]) (by rfl) nd (q_ir1 (by rfl) z_range (q_cons (q_v 3 (pv 3)) q_nil (by rfl)) (by rfl)) (blkOk_by (own := [("_law_turn", 11)]) (N := ["_law_row", "_law_many", "_law_letters", "_law_size", "_law_at", "_law_base", "_law_first", "_law_longer", "_law_found", "_law_k", "_law_name", "_law_turn"]) (sc := defScope s__law_names) (by decide +kernel)) (fun _ _ _ _ _ => (q_cn (i := 11) (pg_name nd rfl (Or.inl rfl)) (by decide))) (fun _ _ _ _ _ => q_t0) (fun _ _ _ _ _ => (q_ix (ix_seqK (by rfl)) od_ix (q_v 2 (pv 2)) (q_call C__law_take hr passE0 (q_cons (q_v 0 (pv 0)) (q_cons q_int q_nil (by rfl)) (by rfl)) (by rfl) (by decide) (by decide) (by rfl)) (fun _ _ => rfl))) (fun _ => rfl)) (by rfl) (by rfl) (by rfl) (by rfl)) (Or.inl (by decide)) (by rfl) (by first | exact .inl rfl | exact .inr rfl))
      (q_sc (q_set (i := 6) nd rfl (Or.inl rfl) (q_call C__law_take hr passE0 (q_cons (q_v 0 (pv 0)) (q_cons q_int q_nil (by rfl)) (by rfl)) (by rfl) (by decide) (by decide) (by rfl)) (Or.inl (by decide)) (by rfl) (by first | exact .inl rfl | exact .inr rfl))
      (q_sc (q_set (i := 7) nd rfl (Or.inl rfl) (q_cT call_int1 cd_int1 (by rfl) z_int (by decide +kernel) (q_cons (q_andV (q_cmp op_lt bd_lt (q_v 3 (pv 3)) q_int (nomark _)) (q_one (q_cmp op_eq bd_eq (q_call C__law_take hr passE0 (q_cons (q_v 0 (pv 0)) (q_cons q_int q_nil (by rfl)) (by rfl)) (by rfl) (by decide) (by decide) (by rfl)) q_int (nomark _)))) q_nil (by rfl)) (by decide) (by decide) (by rfl)) (Or.inl (by decide)) (by rfl) (by first | exact .inl rfl | exact .inr rfl))
      (q_sc (q_set (i := 8) nd rfl (Or.inl rfl) (q_lst q_nil) (Or.inl (by decide)) (by rfl) (by first | exact .inl rfl | exact .inr rfl))
      (q_sc (q_for PassesOwn.never (by rfl) (q_ir1 (by rfl) z_range (q_cons (q_v 1 (pv 1)) q_nil (by rfl)) (by rfl)) (q_gn (i := 9) (pg_name nd rfl (Or.inl rfl)) (Or.inl (by decide))) (q_sc (q_set (i := 10) nd rfl (Or.inl rfl) (q_op op_add_str od_addS (q_op op_add_str od_addS (q_sl sl_str ld_str (q_v 5 (pv 5)) q_o0 (q_o1 (q_v 4 (pv 4)))) (q_ix (ix_seqK (by rfl)) od_ix (q_v 2 (pv 2)) (q_op op_mod od_mod (q_op op_add od_add (q_v 6 (pv 6)) (q_op op_mulB od_mul q_int (q_v 9 (pv 9)))) q_int) (fun _ _ => rfl))) (q_sl sl_str ld_str (q_v 5 (pv 5)) (q_o1 (q_op op_add od_add (q_v 4 (pv 4)) q_int)) q_o0)) (Or.inl (by decide)) (by rfl) (by first | exact .inl rfl | exact .inr rfl))
      (q_s1 (q_drop (q_app (pv 8) (q_op op_add_str od_addS (q_v 10 (pv 10)) (q_op op_repS od_repS q_str (q_op op_mulB od_mul (q_op op_mod od_mod (q_v 9 (pv 9)) q_int) (q_v 7 (pv 7))))) (by rfl) (by rfl) (by rfl) (by rfl)) (by rfl)))) (fun _ => rfl))
      (q_s1 (q_ret (q_v 8 (pv 8))))))))))))⟩)
def w__law_number : WS := (wSeq (wSet 1 (wCall true wf__law_take (wACons (wVar 0) (wACons (wC (.int 6)) wANil))))
  (wSeq (wSet 2 (wOp dIx (wLst (wACons (wCall true wf__law_take (wACons (wVar 0) (wACons (wC (.int 30)) wANil))) (wACons (wCall true wf__law_take (wACons (wVar 0) (wACons (wC (.int 1000)) wANil))) (wACons (wCall true wf__law_wide (wACons (wVar 0) (wACons (wOp dPow (wC (.int 10)) (wC (.int 12))) wANil))) (wACons (wC (.int 0)) (wACons (wCall true wf__law_take (wACons (wVar 0) (wACons (wC (.int 10)) wANil))) (wACons (wC (.int 5)) wANil))))))) (wVar 1)))
  (wSeq (wSet 3 (wOp dIx (wLst (wACons (wC (.int 1)) (wACons (wC (.int 1)) (wACons (wC (.int 10)) (wACons (wC (.int 2)) (wACons (wC (.int 4)) (wACons (wC (.int 100)) (wACons (wC (.int 1000)) (wACons (wC (.int 1000000)) wANil))))))))) (wCall true wf__law_take (wACons (wVar 0) (wACons (wC (.int 8)) wANil)))))
  (wSeq (wIfS (wCmp bGt (wVar 3) (wC (.int 1))) (wSet 2 (wOp dAdd (wVar 2) (wOp dMul (wCall true wf__law_take (wACons (wVar 0) (wACons (wC (.int 2)) wANil))) (wCall true wf__law_wide (wACons (wVar 0) (wACons (wOp dPow (wC (.int 10)) (wC (.int 6))) wANil)))))) wNext)
  (wRet (wCall false wf__law_low (wACons (wOp dMul (wOp dSub (wC (.int 1)) (wOp dMul (wC (.int 2)) (wCB dInt1 (wACons (wOp (bod (bSc id)) (wCall true wf__law_take (wACons (wVar 0) (wACons (wC (.int 4)) wANil))) (wC (.int 0))) wANil)))) (wVar 2)) (wACons (wVar 3) wANil))))))))
theorem d__law_number : ∀ ds row Ψ Ξ, wf__law_number ds row Ψ Ξ → goR (w__law_number (endsW true Ψ fun _ => False)) (startW true 4 ds row) := by
  rintro ds row Ψ Ξ ⟨N, rfl, R, h0, h1, q⟩
  unfold w__law_number
  walk_at "ev"
  refine ⟨6, _, rfl, R, by omega, by decide, by decide, fun w1 row1 w10 w11 R1 => ?_⟩
  walk_at "ev"
  refine ⟨30, _, rfl, R1, by omega, by decide, by decide, fun a1 row2 a10 a11 R2 => ?_⟩
  walk_at "ev"
  refine ⟨1000, _, rfl, R2, by omega, by decide, by decide, fun a2 row3 a20 a21 R3 => ?_⟩
  walk_at "ev"
  refine sideR_by ⟨by decide, by decide, by decide⟩ fun _ => ?_
  walk_at "ev"
  refine ⟨10 ^ Int.toNat 12, _, rfl, R3, by omega, by omega, by decide, fun a3 row4 a30 a31 R4 => ?_⟩
  have a31 : a3 < 1000000000000 := a31
  walk_at "ev"
  refine ⟨10, _, rfl, R4, by omega, by decide, by decide, fun a5 row5 a50 a51 R5 => ?_⟩
  walk_at "ev"
  refine sideR_by (by decide) fun _ => ?_
  walk_at "ev"
  obtain ⟨z, hz, ha⟩ := at_some (f := D.int) (P := fun z : Int => 0 ≤ z ∧ z < 1000000000000) (v := w1) [a1, a2, a3, 0, a5, 5] w10 (by exact w11) (fun z hz => by
    simp only [List.mem_cons, List.not_mem_nil, or_false] at hz
    omega)
  refine ⟨_, ha, ?_⟩
  walk_at "ev"
  refine sideR_by (by decide) fun _ => ?_
  walk_at "ev"
  refine ⟨8, _, rfl, R5, by omega, by decide, by decide, fun a6 row6 a60 a61 R6 => ?_⟩
  walk_at "ev"
  obtain ⟨b, hb, hab⟩ := at_some (f := D.int) (P := fun z : Int => 1 ≤ z ∧ z ≤ 1000000 ∧ 1000000 % z = 0) (v := a6) [1, 1, 10, 2, 4, 100, 1000, 1000000] a60 (by exact a61) (fun z hz => by
    simp only [List.mem_cons, List.not_mem_nil, or_false] at hz
    rcases hz with rfl | rfl | rfl | rfl | rfl | rfl | rfl | rfl <;> decide)
  refine ⟨_, hab, ?_⟩
  walk_at "ev"
  refine iteR_by (fun h => ?_) (fun h => ?_)
  rotate_left
  have ht : 0 ≤ z ∧ z < 1000000000000 * b := ⟨by omega, by omega⟩
  obtain ⟨rowZ, eZ⟩ : ∃ rowZ, rowZ = row6 := ⟨_, rfl⟩
  have RZ : RowD (N + 60) rowZ := by rw [eZ]; exact R6.mono (by omega)
  rw [← eZ]
  clear eZ ha
  rotate_left
  have h2 := of_decide_eq_true h
  walk_at "ev"
  refine ⟨2, _, rfl, R6, by omega, by decide, by decide, fun a7 row7 a70 a71 R7 => ?_⟩
  walk_at "ev"
  refine sideR_by ⟨by decide, by decide, by decide⟩ fun _ => ?_
  walk_at "ev"
  refine ⟨10 ^ Int.toNat 6, _, rfl, R7, by omega, by omega, by decide, fun a8 row8 a80 a81 R8 => ?_⟩
  have a81 : a8 < 1000000 := a81
  walk_at "ev"
  refine sideR_by (.inr (.inl ⟨by omega, by omega⟩)) fun _ => ?_
  walk_at "ev"
  have hp : 0 ≤ a7 * a8 ∧ a7 * a8 < 1000000 := by
    have : a7 = 0 ∨ a7 = 1 := by omega
    rcases this with rfl | rfl <;> omega
  obtain ⟨y, ey⟩ : ∃ y, y = z + a7 * a8 := ⟨_, rfl⟩
  rw [← ey]
  have ht : 0 ≤ y ∧ y < 1000000000000 * b := ⟨by omega, by omega⟩
  clear ha ey hp
  obtain ⟨rowZ, eZ⟩ : ∃ rowZ, rowZ = row8 := ⟨_, rfl⟩
  have RZ : RowD (N + 60) rowZ := by rw [eZ]; exact R8.mono (by omega)
  rw [← eZ]
  clear eZ
  rename_i zold
  clear hz
  revert ht
  generalize y = z
  intro ht
  all_goals
    walk_at "ev"
    refine ⟨4, _, rfl, RZ, by omega, by decide, by decide, fun a9 row9 a90 a91 R9 => ?_⟩
    walk_at "ev"
    refine sideR_by (.inr (.inl ⟨by decide, by decide⟩)) fun _ => ?_
    walk_at "ev"
    obtain ⟨s, es, hs⟩ : ∃ s : Int, s = 1 - 2 * (if id (decide (a9 = 0)) = true then 1 else 0) ∧ (s = 1 ∨ s = -1) := ⟨_, rfl, by split <;> omega⟩
    rw [← es]
    clear es
    refine sideR_by (.inr (.inl ⟨by omega, by omega⟩)) fun _ => ?_
    walk_at "ev"
    have hx : (if s * z < 0 then -(s * z) else s * z) < 1000000000000 * b := by
      rcases hs with rfl | rfl <;> split <;> omega
    have hx2 : -(1000000000000 * b) < s * z ∧ s * z < 1000000000000 * b := by
      rcases hs with rfl | rfl <;> constructor <;> omega
    obtain ⟨n, hn, en⟩ := nt_low (x := s * z) (b := b) (by omega) hb.2.2 hx
    refine ⟨s * z, b, rfl, by omega, Bd.mono (m := 100) (by unfold Bd; omega) (by decide), Bd.mono (m := 100) (by unfold Bd; omega) (by decide), ?_⟩
    rw [← en]
    walk_at "ev"
    exact q n _ hn (R9.mono (by omega))
abbrev s__law_number : Stmt := top 27
theorem sc__law_number : FnScope ["_law_row", "_law_way", "_law_top", "_law_bottom"] ["_law_row"] (defScope s__law_number) := ⟨rfl, rfl, rfl, by decide +kernel, rfl, by decide +kernel, by decide +kernel⟩
theorem ok__law_number {P : Program} {w : World} {K : PySem.W.Frag} {mg : Str → Option Value} {base : Heap} {f : Addr} {fd : FuncData} (F : Fun K "_law_number" "_law_number" s__law_number f fd) (C__law_take : Cal P w K mg base (CXE P w) 1 "_law_take" ["_law_row", "_law_base"] (spD ⟨K, TSK K, LSK K⟩ true wf__law_take)) (C__law_wide : Cal P w K mg base (CXE P w) 2 "_law_wide" ["_law_row", "_law_base"] (spD ⟨K, TSK K, LSK K⟩ true wf__law_wide)) (C__law_low : Cal P w K mg base (CXE P w) 1 "_law_low" ["_law_top", "_law_bottom"] (spD ⟨K, TSK K, LSK K⟩ false wf__law_low)) (z_int : mg "int" = none) : FnOk P w K mg base (CXE P w) 3 f fd ["_law_row"] (spD ⟨K, TSK K, LSK K⟩ true wf__law_number) := by
  have nd := (sc__law_number).nd
  refine fn_d F sc__law_number (by decide) (fun ds row Ψ Ξ h => by first | (obtain ⟨rfl, _⟩ := h; rfl) | (obtain ⟨_, rfl, _⟩ := h; rfl) | (obtain ⟨_, _, rfl, _⟩ := h; rfl) | (obtain ⟨_, _, _, rfl, _⟩ := h; rfl) | (obtain ⟨_, _, _, _, rfl, _⟩ := h; rfl) | (obtain ⟨_, _, _, _, _, rfl, _⟩ := h; rfl) | (obtain ⟨_, _, _, _, _, _, rfl, _⟩ := h; rfl) | (obtain ⟨_, _, _, _, _, _, _, rfl, _⟩ := h; rfl) | (obtain ⟨_, _, _, _, _, _, _, _, rfl, _⟩ := h; rfl) | (obtain ⟨_, _, _, _, _, _, _, _, _, rfl, _⟩ := h; rfl) | (obtain ⟨_, _, _, _, _, _, _, _, _, _, rfl, _⟩ := h; rfl) | (obtain ⟨_, _, _, _, _, _, _, _, _, _, _, rfl, _⟩ := h; rfl) | (obtain ⟨_, _, _, _, _, _, _, _, _, _, _, _, rfl, _⟩ := h; rfl) | (obtain ⟨_, _, _, _, _, _, _, _, _, _, _, _, _, rfl, _⟩ := h; rfl)) d__law_number (fun cdv A outer s H E hr => ⟨_, (q_sc (q_set (i := 1) nd rfl (Or.inl rfl) (q_call C__law_take hr passE0 (q_cons (q_v 0 (pv 0)) (q_cons q_int q_nil (by rfl)) (by rfl)) (by rfl) (by decide) (by decide) (by rfl)) (Or.inl (by decide)) (by rfl) (by first | exact .inl rfl | exact .inr rfl))
      (q_sc (q_set (i := 2) nd rfl (Or.inl rfl) (q_ix (ix_seqK (by rfl)) od_ix (q_lst (q_cons (q_call C__law_take hr passE0 (q_cons (q_v 0 (pv 0)) (q_cons q_int q_nil (by rfl)) (by rfl)) (by rfl) (by decide) (by decide) (by rfl)) (q_cons (q_call C__law_take hr passE0 (q_cons (q_v 0 (pv 0)) (q_cons q_int q_nil (by rfl)) (by rfl)) (by rfl) (by decide) (by decide) (by rfl)) (q_cons (q_call C__law_wide hr passE0 (q_cons (q_v 0 (pv 0)) (q_cons (q_op op_pow od_pow q_int q_int) q_nil (by rfl)) (by rfl)) (by rfl) (by decide) (by decide) (by rfl)) (q_cons q_int (q_cons (q_call C__law_take hr passE0 (q_cons (q_v 0 (pv 0)) (q_cons q_int q_nil (by rfl)) (by rfl)) (by rfl) (by decide) (by decide) (by rfl)) (q_cons q_int q_nil (by rfl)) (by rfl)) (by rfl)) (by rfl)) (by rfl)) (by rfl))) (q_v 1 (pv 1)) (fun _ _ => rfl)) (Or.inl (by decide)) (by rfl) (by first | exact .inl rfl | exact .inr rfl))
      (q_sc (q_set (i := 3) nd rfl (Or.inl rfl) (q_ix (ix_seqK (by rfl)) od_ix (q_lst (q_cons q_int (q_cons q_int (q_cons q_int (q_cons q_int (q_cons q_int (q_cons q_int (q_cons q_int (q_cons q_int q_nil (by rfl)) (by rfl)) (by rfl)) (by rfl)) (by rfl)) (by rfl)) (by rfl)) (by rfl))) (q_call C__law_take hr passE0 (q_cons (q_v 0 (pv 0)) (q_cons q_int q_nil (by rfl)) (by rfl)) (by rfl) (by decide) (by decide) (by rfl)) (fun _ _ => rfl)) (Or.inl (by decide)) (by rfl) (by first | exact .inl rfl | exact .inr rfl))
      (q_sc (q_ifS (q_cmpT op_gt bd_gt (q_v 3 (pv 3)) q_int (nomark _)) (q_s1 (q_set (i := 2) nd rfl (Or.inl rfl) (q_op op_add od_add (q_v 2 (pv 2)) (q_op op_mulB od_mul (q_call C__law_take hr passE0 (q_cons (q_v 0 (pv 0)) (q_cons q_int q_nil (by rfl)) (by rfl)) (by rfl) (by decide) (by decide) (by rfl)) (q_call C__law_wide hr passE0 (q_cons (q_v 0 (pv 0)) (q_cons (q_op op_pow od_pow q_int q_int) q_nil (by rfl)) (by rfl)) (by rfl) (by decide) (by decide) (by rfl)))) (Or.inl (by decide)) (by rfl) (by first | exact .inl rfl | exact .inr rfl))) q_s0)
      (q_s1 (q_ret (q_call C__law_low hr passE0 (q_cons (q_op op_mulB od_mul (q_op op_sub od_sub q_int (q_op op_mulB od_mul q_int (q_cT call_int1 cd_int1 (by rfl) z_int (by decide +kernel) (q_cons (q_cmp op_eq bd_eq (q_call C__law_take hr passE0 (q_cons (q_v 0 (pv 0)) (q_cons q_int q_nil (by rfl)) (by rfl)) (by rfl) (by decide) (by decide) (by rfl)) q_int (nomark _)) q_nil (by rfl)) (by decide) (by decide) (by rfl)))) (q_v 2 (pv 2))) (q_cons (q_v 3 (pv 3)) q_nil (by rfl)) (by rfl)) (by rfl) (by decide) (by decide) (by rfl))))))))⟩)
def w__law_table : WS := (wSeq (wSet 2 (wCall true wf__law_names (wACons (wVar 0) (wACons (wOp dAdd (wC (.int 1)) (wCall true wf__law_take (wACons (wVar 0) (wACons (wC (.int 4)) wANil)))) wANil))))
  (wSeq (wSet 3 (wCall true wf__law_names (wACons (wVar 0) (wACons (wOp dAdd (wC (.int 1)) (wCall true wf__law_take (wACons (wVar 0) (wACons (wVar 1) wANil)))) wANil))))
  (wSeq (wSet 4 (wOp (bod (bSc id)) (wCall true wf__law_take (wACons (wVar 0) (wACons (wC (.int 5)) wANil))) (wC (.int 0))))
  (wSeq (wSet 5 (wOp (bod (bSc id)) (wCall true wf__law_take (wACons (wVar 0) (wACons (wC (.int 2)) wANil))) (wC (.int 0))))
  (wSeq (wSet 6 (wCall true wf__law_number (wACons (wVar 0) wANil)))
  (wSeq (wSet 7 (wLst wANil))
  (wSeq (wFor (wIList (wVar 3)) (wgName 8) (wSeq (wSet 9 (wLst wANil))
  (wSeq (wFor (wIList (wVar 2)) (wgName 10) (wSeq (wIfS (wNot (wB (wVar 4))) (wSet 6 (wCall true wf__law_number (wACons (wVar 0) wANil))) wNext)
  (wSeq (wIfS (wB (wVar 5)) (wSet 6 (wTup (wACons (wCB dAbs (wACons (wOp dIx (wVar 6) (wC (.int 0))) wANil)) (wACons (wOp dIx (wVar 6) (wC (.int 1))) wANil)))) wNext)
  (wDrop (wApp 9 (wVar 6))))))
  (wDrop (wApp 7 (wTup (wACons (wVar 8) (wACons (wVar 9) wANil))))))))
  (wRet (wTup (wACons (wVar 2) (wACons (wVar 7) wANil)))))))))))
theorem d__law_table : ∀ ds row Ψ Ξ, wf__law_table ds row Ψ Ξ → goR (w__law_table (endsW true Ψ fun _ => False)) (startW true 11 ds row) := by
  rintro ds row Ψ Ξ ⟨m, N, rfl, R, h0, h1, m0, m1, q⟩
  unfold w__law_table
  walk_at "ev"
  refine ⟨4, _, rfl, R, by omega, by decide, by decide, fun v1 row1 v10 v11 R1 => ?_⟩
  walk_at "ev"
  refine ⟨1 + v1, _, rfl, R1, by omega, by omega, by omega, by omega, fun ss row2 hm1 hs1 hd1 R2 => ?_⟩
  walk_at "ev"
  refine ⟨m, _, rfl, R2, by omega, by omega, by omega, fun v2 row3 v20 v21 R3 => ?_⟩
  walk_at "ev"
  refine ⟨1 + v2, _, rfl, R3, by omega, by omega, by omega, by omega, fun xs row4 hm2 xn xd R4 => ?_⟩
  walk_at "ev"
  refine ⟨5, _, rfl, R4, by omega, by decide, by decide, fun v3 row5 v30 v31 R5 => ?_⟩
  walk_at "ev"
  refine ⟨2, _, rfl, R5, by omega, by decide, by decide, fun v4 row6 v40 v41 R6 => ?_⟩
  walk_at "ev"
  refine ⟨_, rfl, R6, by omega, by omega, fun n1 row7 hn1 R7 => ?_⟩
  walk_at "ev"
  refine sideR_by (by decide) fun _ => ?_
  walk_at "ev"
  generalize id (decide (v3 = 0)) = alike
  generalize id (decide (v4 = 0)) = above
  have s4 : ss.length ≤ 4 := by omega
  have s1 : 1 ≤ ss.length := by omega
  have x1 : 1 ≤ xs.length := by omega
  have x12 : xs.length ≤ 12 := by omega
  refine forB_by (fun i Γ => ∃ (row8 : List D) (rs : List TRow) (s2 : En) (n : NT) (e8 e9 e10 : Option En), (s2 = En.own (ss.map D.str) ∨ s2 = En.shr (D.lst (ss.map D.str))) ∧ Γ = [some (En.own row8), some (En.shr (D.int m)), some s2, some (En.shr (D.lst (xs.map D.str))), some (En.shr (D.bl alike)), some (En.shr (D.bl above)), some (En.shr (frN n)), some (En.own (rs.map rowIn)), e8, e9, e10] ∧ Small n ∧ rs.map (·.1) = xs.take i ∧ (∀ r ∈ rs, r.2.length = ss.length) ∧ (∀ r ∈ rs, ∀ n ∈ r.2, Small n) ∧ RowD (N + 1000 + 1000 * i) row8) ⟨_, [], _, n1, _, _, _, .inl rfl, rfl, hn1, rfl, (fun _ h => by cases h), (fun _ h => by cases h), R7.mono (by omega)⟩ ?_ ?_
  · rintro i Γ d hd ⟨row8, rs, s2, n, e8, e9, e10, hs2, rfl, hn, hx, hl1, hl2, R8⟩
    rw [List.getElem?_map] at hd
    obtain ⟨x, hx2, rfl⟩ := Option.map_eq_some_iff.mp hd
    have hi2 : i < xs.length := (List.getElem?_eq_some_iff.mp hx2).1
    have lrs : rs.length = i := by
      have := congrArg List.length hx
      rw [List.length_map, List.length_take] at this
      omega
    rcases hs2 with rfl | rfl
    all_goals
      walk_at "ev"
      refine sideR_by (by decide) fun _ => ?_
      walk_at "ev"
      refine forB_by (fun j Γ => ∃ (row9 : List D) (l : List NT) (n : NT) (e10 : Option En), Γ = [some (En.own row9), some (En.shr (D.int m)), some (En.shr (D.lst (ss.map D.str))), some (En.shr (D.lst (xs.map D.str))), some (En.shr (D.bl alike)), some (En.shr (D.bl above)), some (En.shr (frN n)), some (En.own (rs.map rowIn)), some (En.shr (D.str x)), some (En.own (l.map frN)), e10] ∧ Small n ∧ l.length = j ∧ (∀ n ∈ l, Small n) ∧ RowD (N + 1000 + 1000 * i + 100 * j) row9) ⟨_, [], n, _, rfl, hn, rfl, (fun _ h => by cases h), R8.mono (by omega)⟩ ?_ ?_
      · rintro j Γ d hd ⟨row9, l, n, e10, rfl, hn, hlj, hls, R9⟩
        rw [List.getElem?_map] at hd
        obtain ⟨s, hs, rfl⟩ := Option.map_eq_some_iff.mp hd
        have hj : j < ss.length := (List.getElem?_eq_some_iff.mp hs).1
        walk_at "ev"
        refine iteR_by (fun h => ?_) (fun h => ?_)
        rotate_left
        obtain ⟨nn, enn⟩ : ∃ nn, nn = n := ⟨_, rfl⟩
        have hnn : Small nn := by rw [enn]; exact hn
        obtain ⟨rowY, eY⟩ : ∃ rowY, rowY = row9 := ⟨_, rfl⟩
        have RY : RowD (N + 1000 + 1000 * (i : Int) + 100 * (j : Int) + 100) rowY := by rw [eY]; exact R9.mono (by omega)
        rw [← enn, ← eY]
        clear enn eY
        rotate_left
        walk_at "ev"
        refine ⟨_, rfl, R9, by omega, by omega, fun nn rowY hnn RY => ?_⟩
        walk_at "ev"
        all_goals
          walk_at "ev"
          refine iteR_by (fun h2 => ?_) (fun h2 => ?_)
          rotate_left
          obtain ⟨n3, en3⟩ : ∃ n3, n3 = nn := ⟨_, rfl⟩
          have hn3 : Small n3 := by rw [en3]; exact hnn
          rw [← en3]
          clear en3
          rotate_left
          rw [show frN nn = frD (ntF nn) from rfl]
          walk_at "ev"
          refine sideR_by (by decide) fun _ => ?_
          obtain ⟨n3, hn3, en3⟩ := nt_abs hnn
          rw [show D.tup [D.int (if (ntF nn).fst < 0 then -(ntF nn).fst else (ntF nn).fst), D.int (ntF nn).snd] = frN n3 from by unfold frN; rw [en3]; rfl]
          all_goals
            walk_at "ev"
            refine sideR_by (by rw [List.length_map]; exact Nat.lt_of_le_of_lt (m := 4) (by omega) (by decide)) fun _ => ?_
            refine ⟨rowY, l ++ [n3], n3, _, by rw [List.map_append]; rfl, hn3, by rw [List.length_append, List.length_singleton, hlj], fun m hm => ?_, RY.mono (by omega)⟩
            rcases List.mem_append.mp hm with hm | hm
            · exact hls m hm
            · rw [List.mem_singleton.mp hm]; exact hn3
      · rintro Γ ⟨row9, l, n, e10, rfl, hn, hlj, hls, R9⟩
        rw [List.length_map] at hlj R9
        walk_at "ev"
        refine sideR_by (by decide) fun _ => ?_
        walk_at "ev"
        refine sideR_by (by rw [List.length_map]; exact Nat.lt_of_le_of_lt (m := 12) (by omega) (by decide)) fun _ => ?_
        rw [show D.tup [D.str x, D.lst (List.map frN l)] = rowIn (x, l) from rfl]
        refine ⟨row9, rs ++ [(x, l)], _, n, _, _, _, .inr rfl, by rw [List.map_append]; rfl, hn, by rw [List.map_append, hx, take_succ hx2]; rfl, fun r hr => ?_, fun r hr => ?_, R9.mono (by omega)⟩
        · rcases List.mem_append.mp hr with hr | hr
          · exact hl1 r hr
          · rw [List.mem_singleton.mp hr]; exact hlj
        · rcases List.mem_append.mp hr with hr | hr
          · exact hl2 r hr
          · rw [List.mem_singleton.mp hr]; exact hls
  · rintro Γ ⟨row8, rs, s2, n, e8, e9, e10, hs2, rfl, hn, hx, hl1, hl2, R8⟩
    rw [List.length_map] at hx R8
    rw [List.take_length] at hx
    have ok : TOk ss rs := ⟨s1, s4, hd1, hs1, by rw [← List.length_map (f := (·.1)), hx]; exact x1, by rw [← List.length_map (f := (·.1)), hx]; exact x12, by rw [hx]; exact xd, fun r hr => xn _ (by rw [← hx]; exact List.mem_map_of_mem hr), hl1, hl2⟩
    rcases hs2 with rfl | rfl
    all_goals
      walk_at "ev"
      refine sideR_by (by decide) fun _ => ?_
      walk_at "ev"
      exact q ss rs _ ok (R8.mono (by omega))
abbrev s__law_table : Stmt := top 28
theorem sc__law_table : FnScope ["_law_row", "_law_most", "_law_series", "_law_names_here", "_law_alike", "_law_above", "_law_one", "_law_rows", "_law_name", "_law_numbers", "_law_turn"] ["_law_row", "_law_most"] (defScope s__law_table) := ⟨rfl, rfl, rfl, by decide +kernel, rfl, by decide +kernel, by decide +kernel⟩
theorem ok__law_table {P : Program} {w : World} {K : PySem.W.Frag} {mg : Str → Option Value} {base : Heap} {f : Addr} {fd : FuncData} (F : Fun K "_law_table" "_law_table" s__law_table f fd) (C__law_names : Cal P w K mg base (CXE P w) 2 "_law_names" ["_law_row", "_law_many"] (spD ⟨K, TSK K, LSK K⟩ true wf__law_names)) (C__law_take : Cal P w K mg base (CXE P w) 1 "_law_take" ["_law_row", "_law_base"] (spD ⟨K, TSK K, LSK K⟩ true wf__law_take)) (C__law_number : Cal P w K mg base (CXE P w) 3 "_law_number" ["_law_row"] (spD ⟨K, TSK K, LSK K⟩ true wf__law_number)) (z_abs : mg "abs" = none) : FnOk P w K mg base (CXE P w) 4 f fd ["_law_row", "_law_most"] (spD ⟨K, TSK K, LSK K⟩ true wf__law_table) := by
  have nd := (sc__law_table).nd
  refine fn_d F sc__law_table (by decide) (fun ds row Ψ Ξ h => by first | (obtain ⟨rfl, _⟩ := h; rfl) | (obtain ⟨_, rfl, _⟩ := h; rfl) | (obtain ⟨_, _, rfl, _⟩ := h; rfl) | (obtain ⟨_, _, _, rfl, _⟩ := h; rfl) | (obtain ⟨_, _, _, _, rfl, _⟩ := h; rfl) | (obtain ⟨_, _, _, _, _, rfl, _⟩ := h; rfl) | (obtain ⟨_, _, _, _, _, _, rfl, _⟩ := h; rfl) | (obtain ⟨_, _, _, _, _, _, _, rfl, _⟩ := h; rfl) | (obtain ⟨_, _, _, _, _, _, _, _, rfl, _⟩ := h; rfl) | (obtain ⟨_, _, _, _, _, _, _, _, _, rfl, _⟩ := h; rfl) | (obtain ⟨_, _, _, _, _, _, _, _, _, _, rfl, _⟩ := h; rfl) | (obtain ⟨_, _, _, _, _, _, _, _, _, _, _, rfl, _⟩ := h; rfl) | (obtain ⟨_, _, _, _, _, _, _, _, _, _, _, _, rfl, _⟩ := h; rfl) | (obtain ⟨_, _, _, _, _, _, _, _, _, _, _, _, _, rfl, _⟩ := h; rfl)) d__law_table (fun cdv A outer s H E hr => ⟨_, (q_sc (q_set (i := 2) nd rfl (Or.inl rfl) (q_call C__law_names hr passE0 (q_cons (q_v 0 (pv 0)) (q_cons (q_op op_add od_add q_int (q_call C__law_take hr passE0 (q_cons (q_v 0 (pv 0)) (q_cons q_int q_nil (by rfl)) (by rfl)) (by rfl) (by decide) (by decide) (by rfl))) q_nil (by rfl)) (by rfl)) (by rfl) (by decide) (by decide) (by rfl)) (Or.inl (by decide)) (by rfl) (by first | exact .inl rfl | exact .inr rfl))
      (q_sc (q_set (i := 3) nd rfl (Or.inl rfl) (q_call C__law_names hr passE0 (q_cons (q_v 0 (pv 0)) (q_cons (q_op op_add od_add q_int (q_call C__law_take hr passE0 (q_cons (q_v 0 (pv 0)) (q_cons (q_v 1 (pv 1)) q_nil (by rfl)) (by rfl)) (by rfl) (by decide) (by decide) (by rfl))) q_nil (by rfl)) (by rfl)) (by rfl) (by decide) (by decide) (by rfl)) (Or.inl (by decide)) (by rfl) (by first | exact .inl rfl | exact .inr rfl))
      (q_sc (q_set (i := 4) nd rfl (Or.inl rfl) (q_cmp op_eq bd_eq (q_call C__law_take hr passE0 (q_cons (q_v 0 (pv 0)) (q_cons q_int q_nil (by rfl)) (by rfl)) (by rfl) (by decide) (by decide) (by rfl)) q_int (nomark _)) (Or.inl (by decide)) (by rfl) (by first | exact .inl rfl | exact .inr rfl))
      (q_sc (q_set (i := 5) nd rfl (Or.inl rfl) (q_cmp op_eq bd_eq (q_call C__law_take hr passE0 (q_cons (q_v 0 (pv 0)) (q_cons q_int q_nil (by rfl)) (by rfl)) (by rfl) (by decide) (by decide) (by rfl)) q_int (nomark _)) (Or.inl (by decide)) (by rfl) (by first | exact .inl rfl | exact .inr rfl))
      (q_sc (q_set (i := 6) nd rfl (Or.inl rfl) (q_call C__law_number hr passE0 (q_cons (q_v 0 (pv 0)) q_nil (by rfl)) (by rfl) (by decide) (by decide) (by rfl)) (Or.inl (by decide)) (by rfl) (by first | exact .inl rfl | exact .inr rfl))
      (q_sc (q_set (i := 7) nd rfl (Or.inl rfl) (q_lst q_nil) (Or.inl (by decide)) (by rfl) (by first | exact .inl rfl | exact .inr rfl))
      (q_sc (q_for PassesOwn.never (by rfl) (q_il (by rfl) (q_v 3 (pv 3))) (q_gn (i := 8) (pg_name nd rfl (Or.inl rfl)) (Or.inl (by decide))) (q_sc (q_set (i := 9) nd rfl (Or.inl rfl) (q_lst q_nil) (Or.inl (by decide)) (by rfl) (by first | exact .inl rfl | exact .inr rfl))
      (q_sc (q_for PassesOwn.never (by rfl) (q_il (by rfl) (q_v 2 (pv 2))) (q_gn (i := 10) (pg_name nd rfl (Or.inl rfl)) (Or.inl (by decide))) (q_sc (q_ifS (q_tnot (q_tv (q_v 4 (pv 4)) (by rfl))) (q_s1 (q_set (i := 6) nd rfl (Or.inl rfl) (q_call C__law_number hr passE0 (q_cons (q_v 0 (pv 0)) q_nil (by rfl)) (by rfl) (by decide) (by decide) (by rfl)) (Or.inl (by decide)) (by rfl) (by first | exact .inl rfl | exact .inr rfl))) q_s0)
      (q_sc (q_ifS (q_tv (q_v 5 (pv 5)) (by rfl)) (q_s1 (q_set (i := 6) nd rfl (Or.inl rfl) (q_tup (q_cons (q_cB call_abs cd_abs (by rfl) z_abs (by decide +kernel) (q_cons (q_ix (ix_seqK (by rfl)) od_ix (q_v 6 (pv 6)) q_int (fun _ _ => rfl)) q_nil (by rfl)) (by decide) (by decide) (by rfl)) (q_cons (q_ix (ix_seqK (by rfl)) od_ix (q_v 6 (pv 6)) q_int (fun _ _ => rfl)) q_nil (by rfl)) (by rfl))) (Or.inl (by decide)) (by rfl) (by first | exact .inl rfl | exact .inr rfl))) q_s0)
      (q_s1 (q_drop (q_app (pv 9) (q_v 6 (pv 6)) (by rfl) (by rfl) (by rfl) (by rfl)) (by rfl))))) (fun _ => rfl))
      (q_s1 (q_drop (q_app (pv 7) (q_tup (q_cons (q_v 8 (pv 8)) (q_cons (q_v 9 (pv 9)) q_nil (by rfl)) (by rfl))) (by rfl) (by rfl) (by rfl) (by rfl)) (by rfl))))) (fun _ => rfl))
      (q_s1 (q_ret (q_tup (q_cons (q_v 2 (pv 2)) (q_cons (q_v 7 (pv 7)) q_nil (by rfl)) (by rfl))))))))))))⟩)
def w_law : WS := (wSeq (wFor (wIRng1 (wACons (wCB dMax2 (wACons (wC (.int 1)) (wACons (wCB dMin2 (wACons (wC (.int 6)) (wACons (wCB dLen (wACons (wVar 0) wANil)) wANil))) wANil))) wANil)) (wgName 1) (wSeq (wSet 2 (wLst (wACons (wCall false wf__law_cell_at (wACons (wVar 0) (wACons (wVar 1) wANil))) (wACons (wC (.int 0)) wANil))))
  (wSeq (wAsg (wCall true wf__law_table (wACons (wVar 2) (wACons (wC (.int 12)) wANil))) (wgTup 2 (wgCons (wgName 3) (wgCons (wgName 4) wgNil))))
  (wSn0 (wSnS (wSet 5 (wCB dList (wACons (wVar 3) wANil)))
  (wSnP 6 (wLc (wIList (wVar 4)) (wgTup 2 (wgCons (wgName 10) (wgCons (wgName 11) wgNil))) (fun Γ Ψ _ => Ψ true Γ) (wTup (wACons (wVar 10) (wACons (wCB dList (wACons (wVar 11) wANil)) wANil))) [10, 11])
  (wSnS (wSet 7 (wLend wf_table_of (wACons (wVar 5) (wACons (wVar 6) wANil))))
  (wSnS (wIfS (wOr (wCmp (bEq not) (wVar 5) (wVar 3)) (wCmp (bEq not) (wVar 6) (wVar 4))) (wRet (wC (.bl false))) wNext)
  (wSnS (wSet 8 (wTup (wACons (wCB dTuple (wACons (wVar 3) wANil)) (wACons (wCB dTuple (wACons (wLc (wIList (wVar 4)) (wgTup 2 (wgCons (wgName 10) (wgCons (wgName 11) wgNil))) (fun Γ Ψ _ => Ψ true Γ) (wTup (wACons (wVar 10) (wACons (wCB dTuple (wACons (wVar 11) wANil)) wANil))) [10, 11]) wANil)) wANil))))
  (wSnS (wDrop (wApp 5 (wC (.str "z"))))
  (wSnE [true, true, false, true, true, false, false, false, false, false, false, false] 10 11 6 (wSeq (wIfS (wOr (wNot (wB (wCB dIsi (wACons (wVar 7) (wACons (wC (.ty "tuple")) wANil))))) (wOr (wCmp (bEq not) (wVar 7) (wVar 8)) (wNot (wB (wCB dIsi (wACons (wOp dIx (wVar 7) (wC (.int 0))) (wACons (wC (.ty "tuple")) wANil))))))) (wRet (wC (.bl false))) wNext)
  (wSeq (wIfS (wOr (wNot (wB (wCB dIsi (wACons (wOp dIx (wVar 7) (wC (.int 1))) (wACons (wC (.ty "tuple")) wANil))))) (wCmp (bEq not) (wCall false wf_table_of (wACons (wVar 3) (wACons (wVar 4) wANil))) (wVar 8))) (wRet (wC (.bl false))) wNext)
  (wFor (wITup (wOp dIx (wVar 7) (wC (.int 1)))) (wgName 9) (wIfS (wOr (wNot (wB (wCB dIsi (wACons (wVar 9) (wACons (wC (.ty "tuple")) wANil))))) (wNot (wB (wCB dIsi (wACons (wOp dIx (wVar 9) (wC (.int 1))) (wACons (wC (.ty "tuple")) wANil)))))) (wRet (wC (.bl false))) wNext)))))))))))))))
  (wRet (wC (.bl true))))
theorem d_law : ∀ ds row Ψ Ξ, wf_law ds row Ψ Ξ → goR (w_law (endsW false Ψ fun _ => False)) (startW false 12 ds row) := by
  rintro ds row Ψ Ξ ⟨ns, rfl, hl, q⟩
  unfold w_law
  walk_at "ev"
  refine sideR_by (by rw [List.length_map]; split <;> split <;> omega) fun _ => ?_
  refine forB_by (fun i Γ => ∃ x1 x2 x3 x4 x5 x6 x7 x8 x9 x10 x11, Γ = [some (En.shr (D.scr (List.map D.int ns))), x1, x2, x3, x4, x5, x6, x7, x8, x9, x10, x11]) ⟨_, _, _, _, _, _, _, _, _, _, _, rfl⟩ ?_ ?_
  rotate_left
  · rintro Γ ⟨x1, x2, x3, x4, x5, x6, x7, x8, x9, x10, x11, rfl⟩
    walk_at "ev"
    exact q
  rintro i0 Γ d hd ⟨x1, x2, x3, x4, x5, x6, x7, x8, x9, x10, x11, rfl⟩
  obtain ⟨hi, rfl⟩ := rng_get hd
  walk_at "ev"
  refine ⟨ns, _, rfl, by omega, fun cell => ?_⟩
  walk_at "ev"
  refine sideR_by (by decide) fun _ => ?_
  walk_at "ev"
  refine ⟨12, 0, rfl, ⟨_, _, rfl, by omega, by omega⟩, by omega, by omega, by omega, by omega, fun ss rs row1 ok R1 => ?_⟩
  walk_at "ev"
  have gd := gd_of ok
  rw [rowIn_G]
  generalize G rs = gs at gd
  have g12 := gd.r12
  have s4 := gd.s4
  refine lcB_fg rwL (Nat.le_trans (m := 20) (by omega) (by decide)) (fun r hr kk hk => ?_) ?_
  · unfold rwL
    walk_at "ev"
    refine sideR_by (by decide) fun _ => ?_
    walk_at "ev"
    exact hk
  walk_at "ev"
  refine sideR_by (by decide) fun _ => ?_
  walk_at "ev"
  refine ⟨ss, gs, rfl, tin_of (by omega) (sl_of gd) (by omega) (gd_in gd), .inl ⟨tab_good gd, ?_⟩⟩
  refine ⟨nol_tbl, ?_⟩
  walk_at "ev"
  have d1 := serl_dep gd
  have d4 := rows_dep gd
  have d5 := tbl_dep gd
  refine sideR_by ⟨⟨1, by decide, d1⟩, 1, by decide, d1⟩ fun _ => ?_
  rw [deq_refl d1]
  walk_at "ev"
  refine sideR_by ⟨⟨4, by decide, d4⟩, 4, by decide, d4⟩ fun _ => ?_
  rw [deq_refl d4]
  walk_at "ev"
  refine lcB_fg rwD (Nat.le_trans (m := 20) (by omega) (by decide)) (fun r hr kk hk => ?_) ?_
  · unfold rwL
    walk_at "ev"
    refine sideR_by (by decide) fun _ => ?_
    walk_at "ev"
    exact hk
  walk_at "ev"
  refine sideR_by (by decide) fun _ => ?_
  walk_at "ev"
  refine sideR_by (Nat.le_trans (m := 20) (by rw [List.length_map]; omega) (by decide)) fun _ => ?_
  walk_at "ev"
  rw [show D.tup [D.tup (ss.map D.str), D.tup (gs.map rwD)] = tblD ss gs from rfl]
  refine snE_by (Γn := [some (En.shr (D.scr (List.map D.int ns))), some (En.shr (D.int (0 + ↑i0))), none, some (En.shr (D.lst (List.map D.str ss))), some (En.shr (D.lst (List.map rwL gs))), none, none, some (En.shr (tblD ss gs)), some (En.shr (tblD ss gs)), none, none, none]) (by simp) (by simp) (.kept (.kept (.skip (.kept (.kept (.skip (.skip (.nol nol_tbl (.nol nol_tbl (.skip (.skip (.skip .nil)))))))))))) rfl rfl rfl ?_
  walk_at "ev"
  unfold tblD
  walk_at "ev"
  have d6 : Dep 5 (D.tup [D.tup (ss.map D.str), D.tup (gs.map rwD)]) := d5
  refine sideR_by ⟨⟨5, by decide, d6⟩, 5, by decide, d6⟩ fun _ => ?_
  rw [deq_refl d6]
  walk_at "ev"
  refine ⟨ss, gs, rfl, tin_of (by omega) (sl_of gd) (by omega) (gd_in gd), .inl ⟨tab_good gd, ?_⟩⟩
  unfold tblD
  walk_at "ev"
  refine sideR_by ⟨⟨5, by decide, d6⟩, 5, by decide, d6⟩ fun _ => ?_
  rw [deq_refl d6]
  walk_at "ev"
  refine forB_by (fun i Γ => ∃ x9, Γ = [some (En.shr (D.scr (List.map D.int ns))), some (En.shr (D.int (0 + ↑i0))), none, some (En.shr (D.lst (List.map D.str ss))), some (En.shr (D.lst (List.map rwL gs))), none, none, some (En.shr (tblD ss gs)), some (En.shr (tblD ss gs)), x9, none, none]) ⟨_, rfl⟩ ?_ ?_
  · rintro i1 Γ d hd ⟨x9, rfl⟩
    rw [List.getElem?_map] at hd
    obtain ⟨r, hr, rfl⟩ := Option.map_eq_some_iff.mp hd
    unfold rwD
    walk_at "ev"
    exact ⟨_, rfl⟩
  · rintro Γ ⟨x9, rfl⟩
    walk_at "ev"
    exact ⟨_, _, _, _, _, _, _, _, _, _, _, rfl⟩
abbrev s_law : Stmt := top 29
theorem sc_law : FnScope ["_law_script", "_law_k", "_law_row", "_law_series", "_law_rows", "_law_handed", "_law_numbers", "_law_found", "_law_due", "_law_one", "_law_name", "_law_some"] ["_law_script"] (defScope s_law) := ⟨rfl, rfl, rfl, by decide +kernel, rfl, by decide +kernel, by decide +kernel⟩
theorem ok_law {P : Program} {w : World} {K : PySem.W.Frag} {mg : Str → Option Value} {base : Heap} {f : Addr} {fd : FuncData} (F : Fun K "law" "law" s_law f fd) (C__law_cell_at : Cal P w K mg base (CXE P w) 1 "_law_cell_at" ["_law_script", "_law_k"] (spD ⟨K, TSK K, LSK K⟩ false wf__law_cell_at)) (C__law_table : Cal P w K mg base (CXE P w) 4 "_law_table" ["_law_row", "_law_most"] (spD ⟨K, TSK K, LSK K⟩ true wf__law_table)) (C_table_of : Cal P w K mg base (CXE P w) 7 "table_of" ["series", "rows"] (spD ⟨K, TSK K, LSK K⟩ false wf_table_of)) (z_range : mg "range" = none) (z_max : mg "max" = none) (z_min : mg "min" = none) (z_len : mg "len" = none) (z_list : mg "list" = none) (z_tuple : mg "tuple" = none) (z_isinstance : mg "isinstance" = none) : FnOk P w K mg base (CXE P w) 8 f fd ["_law_script"] (spD ⟨K, TSK K, LSK K⟩ false wf_law) := by
  have nd := (sc_law).nd
  refine fn_d F sc_law (by decide) (fun ds row Ψ Ξ h => by first | (obtain ⟨rfl, _⟩ := h; rfl) | (obtain ⟨_, rfl, _⟩ := h; rfl) | (obtain ⟨_, _, rfl, _⟩ := h; rfl) | (obtain ⟨_, _, _, rfl, _⟩ := h; rfl) | (obtain ⟨_, _, _, _, rfl, _⟩ := h; rfl) | (obtain ⟨_, _, _, _, _, rfl, _⟩ := h; rfl) | (obtain ⟨_, _, _, _, _, _, rfl, _⟩ := h; rfl) | (obtain ⟨_, _, _, _, _, _, _, rfl, _⟩ := h; rfl) | (obtain ⟨_, _, _, _, _, _, _, _, rfl, _⟩ := h; rfl) | (obtain ⟨_, _, _, _, _, _, _, _, _, rfl, _⟩ := h; rfl) | (obtain ⟨_, _, _, _, _, _, _, _, _, _, rfl, _⟩ := h; rfl) | (obtain ⟨_, _, _, _, _, _, _, _, _, _, _, rfl, _⟩ := h; rfl) | (obtain ⟨_, _, _, _, _, _, _, _, _, _, _, _, rfl, _⟩ := h; rfl) | (obtain ⟨_, _, _, _, _, _, _, _, _, _, _, _, _, rfl, _⟩ := h; rfl)) d_law (fun cdv A outer s H E hr => ⟨_, (q_sc (q_for PassesOwn.never (by rfl) (q_ir1 (by rfl) z_range (q_cons (q_cB (call_max2 rfl) cd_max2 (by rfl) z_max (by decide +kernel) (q_cons q_int (q_cons (q_cB (call_min2 rfl) cd_min2 (by rfl) z_min (by decide +kernel) (q_cons q_int (q_cons (q_cB (call_lenK (by rfl)) cd_len (by rfl) z_len (by decide +kernel) (q_cons (q_v 0 (pv 0)) q_nil (by rfl)) (by decide) (by decide) (by rfl)) q_nil (by rfl)) (by rfl)) (by decide) (by decide) (by rfl)) q_nil (by rfl)) (by rfl)) (by decide) (by decide) (by rfl)) q_nil (by rfl)) (by rfl)) (q_gn (i := 1) (pg_name nd rfl (Or.inl rfl)) (Or.inl (by decide))) (q_sc (q_set (i := 2) nd rfl (Or.inl rfl) (q_lst (q_cons (q_call C__law_cell_at hr passE0 (q_cons (q_v 0 (pv 0)) (q_cons (q_v 1 (pv 1)) q_nil (by rfl)) (by rfl)) (by rfl) (by decide) (by decide) (by rfl)) (q_cons q_int q_nil (by rfl)) (by rfl))) (Or.inl (by decide)) (by rfl) (by first | exact .inl rfl | exact .inr rfl))
      (q_sc (q_asg (q_call C__law_table hr passE0 (q_cons (q_v 2 (pv 2)) (q_cons q_int q_nil (by rfl)) (by rfl)) (by rfl) (by decide) (by decide) (by rfl)) (q_gt (by rfl) (by rfl) (q_g1 (q_gn (i := 3) (pg_name nd rfl (Or.inl rfl)) (Or.inl (by decide))) (q_g1 (q_gn (i := 4) (pg_name nd rfl (Or.inl rfl)) (Or.inl (by decide))) q_g0 (by rfl)) (by rfl)) (by rfl) (by rfl)) (by rfl) (by rfl) (by rfl))
      (q_snap (q_snS (q_set (i := 5) nd rfl (Or.inl rfl) (q_cT (list_ofK (by rfl)) cd_list (by rfl) z_list (by decide +kernel) (q_cons (q_v 3 (pv 3)) q_nil (by rfl)) (by decide) (by decide) (by rfl)) (Or.inl (by decide)) (by rfl) (by first | exact .inl rfl | exact .inr rfl)) (keep_asg (by decide))
      (q_snP (x := 6) (r := 4) (p := 10) (q := 11) (by decide) (q_setLc (i := 6) (own := [("_law_name", 10), ("_law_some", 11)]) (by rfl) nd rfl rfl (Or.inl (by decide)) (sw_true rfl rfl rfl (by decide +kernel)) (q_il (by rfl) (q_v 4 (pv 4))) (blkOk_by (own := [("_law_name", 10), ("_law_some", 11)]) (N := ["_law_script", "_law_k", "_law_row", "_law_series", "_law_rows", "_law_handed", "_law_numbers", "_law_found", "_law_due", "_law_one", "_law_name", "_law_some"]) (sc := defScope s_law) (by decide +kernel)) (fun _ _ _ _ _ => (q_ct (by rfl) (by rfl) (q_c1 (q_cn (i := 10) (pg_name nd rfl (Or.inl rfl)) (by decide)) (q_c1 (q_cn (i := 11) (pg_name nd rfl (Or.inl rfl)) (by decide)) q_c0 (by rfl)) (by rfl)) (by rfl) (by rfl))) (fun _ _ _ _ _ => q_t0) (fun _ _ _ _ _ => (q_tup (q_cons (q_v 10 (pv 10)) (q_cons (q_cT (list_ofK (by rfl)) cd_list (by rfl) z_list (by decide +kernel) (q_cons (q_v 11 (pv 11)) q_nil (by rfl)) (by decide) (by decide) (by rfl)) q_nil (by rfl)) (by rfl)))) (fun _ => rfl)) (q_lc (own := [("_law_name", 10), ("_law_some", 11)]) (by rfl) nd (q_il (by rfl) (q_v 4 (pv 4))) (blkOk_by (own := [("_law_name", 10), ("_law_some", 11)]) (N := ["_law_script", "_law_k", "_law_row", "_law_series", "_law_rows", "_law_handed", "_law_numbers", "_law_found", "_law_due", "_law_one", "_law_name", "_law_some"]) (sc := defScope s_law) (by decide +kernel)) (fun _ _ _ _ _ => (q_ct (by rfl) (by rfl) (q_c1 (q_cn (i := 10) (pg_name nd rfl (Or.inl rfl)) (by decide)) (q_c1 (q_cn (i := 11) (pg_name nd rfl (Or.inl rfl)) (by decide)) q_c0 (by rfl)) (by rfl)) (by rfl) (by rfl))) (fun _ _ _ _ _ => q_t0) (fun _ _ _ _ _ => (q_tup (q_cons (q_v 10 (pv 10)) (q_cons (q_cT (list_ofK (by rfl)) cd_list (by rfl) z_list (by decide +kernel) (q_cons (q_v 11 (pv 11)) q_nil (by rfl)) (by decide) (by decide) (by rfl)) q_nil (by rfl)) (by rfl)))) (fun _ => rfl))
      (q_snS (q_set (i := 7) nd rfl (Or.inl rfl) (q_lend C_table_of hr passE0 (q_cons (q_v 5 (pv 5)) (q_cons (q_v 6 (pv 6)) q_nil (by rfl)) (by rfl)) (by rfl) (by decide) (by decide) (by rfl)) (Or.inl (by decide)) (by rfl) (by first | exact .inl rfl | exact .inr rfl)) (keep_asg (by decide))
      (q_snS (q_ifS (QW.tst (q_or (q_cmpT (op_neDK (by rfl) hr.units) bd_neD (q_v 5 (pv 5)) (q_v 3 (pv 3)) (nomark _)) (q_or1 (q_cmpT (op_neDK (by rfl) hr.units) bd_neD (q_v 6 (pv 6)) (q_v 4 (pv 4)) (nomark _))))) (q_s1 (q_ret q_bl)) q_s0) keep_ret
      (q_snS (q_set (i := 8) nd rfl (Or.inl rfl) (q_tup (q_cons (q_cT (tuple_ofK (by rfl)) cd_tuple (by rfl) z_tuple (by decide +kernel) (q_cons (q_v 3 (pv 3)) q_nil (by rfl)) (by decide) (by decide) (by rfl)) (q_cons (q_cT (tuple_ofK (by rfl)) cd_tuple (by rfl) z_tuple (by decide +kernel) (q_cons (q_lc (own := [("_law_name", 10), ("_law_some", 11)]) (by rfl) nd (q_il (by rfl) (q_v 4 (pv 4))) (blkOk_by (own := [("_law_name", 10), ("_law_some", 11)]) (N := ["_law_script", "_law_k", "_law_row", "_law_series", "_law_rows", "_law_handed", "_law_numbers", "_law_found", "_law_due", "_law_one", "_law_name", "_law_some"]) (sc := defScope s_law) (by decide +kernel)) (fun _ _ _ _ _ => (q_ct (by rfl) (by rfl) (q_c1 (q_cn (i := 10) (pg_name nd rfl (Or.inl rfl)) (by decide)) (q_c1 (q_cn (i := 11) (pg_name nd rfl (Or.inl rfl)) (by decide)) q_c0 (by rfl)) (by rfl)) (by rfl) (by rfl))) (fun _ _ _ _ _ => q_t0) (fun _ _ _ _ _ => (q_tup (q_cons (q_v 10 (pv 10)) (q_cons (q_cT (tuple_ofK (by rfl)) cd_tuple (by rfl) z_tuple (by decide +kernel) (q_cons (q_v 11 (pv 11)) q_nil (by rfl)) (by decide) (by decide) (by rfl)) q_nil (by rfl)) (by rfl)))) (fun _ => rfl)) q_nil (by rfl)) (by decide) (by decide) (by rfl)) q_nil (by rfl)) (by rfl))) (Or.inl (by decide)) (by rfl) (by first | exact .inl rfl | exact .inr rfl)) (keep_asg (by decide))
      (q_snS (q_drop (q_app (pv 5) q_str (by rfl) (by rfl) (by rfl) (by rfl)) (by rfl)) keep_drop
      (q_snC (m := [true, true, false, true, true, false, false, false, false, false, false, false]) (by decide) (by decide) (by decide) (q_for PassesOwn.never (by rfl) (q_il (by rfl) (q_v 6 (pv 6))) (q_gt (by rfl) (by rfl) (q_g1 (q_gn (i := 10) (pg_name nd rfl (Or.inl rfl)) (Or.inl (by decide))) (q_g1 (q_gn (i := 11) (pg_name nd rfl (Or.inl rfl)) (Or.inl (by decide))) q_g0 (by rfl)) (by rfl)) (by rfl) (by rfl)) (q_s1 (q_drop (q_clr (pv 11) (by rfl) (by rfl) (by rfl)) (by rfl))) (fun _ => rfl)) (q_drop (q_clr (pv 6) (by rfl) (by rfl) (by rfl)) (by rfl))
      (q_sc (q_ifS (QW.tst (q_or (q_tnot (q_tv (q_cB (call_isiK (by rfl)) cd_isi (by rfl) z_isinstance (by decide +kernel) (q_cons (q_v 7 (pv 7)) (q_cons (q_glob (pe_bltn (v := .ty "tuple") (by rfl) z_tuple (by decide +kernel) rfl) (fun _ => .ty _)) q_nil (by rfl)) (by rfl)) (by decide) (by decide) (by rfl)) (by rfl))) (q_or (q_cmpT (op_neDK (by rfl) hr.units) bd_neD (q_v 7 (pv 7)) (q_v 8 (pv 8)) (nomark _)) (q_or1 (q_tnot (q_tv (q_cB (call_isiK (by rfl)) cd_isi (by rfl) z_isinstance (by decide +kernel) (q_cons (q_ix (ix_seqK (by rfl)) od_ix (q_v 7 (pv 7)) q_int (fun _ _ => rfl)) (q_cons (q_glob (pe_bltn (v := .ty "tuple") (by rfl) z_tuple (by decide +kernel) rfl) (fun _ => .ty _)) q_nil (by rfl)) (by rfl)) (by decide) (by decide) (by rfl)) (by rfl))))))) (q_s1 (q_ret q_bl)) q_s0)
      (q_sc (q_ifS (QW.tst (q_or (q_tnot (q_tv (q_cB (call_isiK (by rfl)) cd_isi (by rfl) z_isinstance (by decide +kernel) (q_cons (q_ix (ix_seqK (by rfl)) od_ix (q_v 7 (pv 7)) q_int (fun _ _ => rfl)) (q_cons (q_glob (pe_bltn (v := .ty "tuple") (by rfl) z_tuple (by decide +kernel) rfl) (fun _ => .ty _)) q_nil (by rfl)) (by rfl)) (by decide) (by decide) (by rfl)) (by rfl))) (q_or1 (q_cmpT (op_neDK (by rfl) hr.units) bd_neD (q_call C_table_of hr passE0 (q_cons (q_v 3 (pv 3)) (q_cons (q_v 4 (pv 4)) q_nil (by rfl)) (by rfl)) (by rfl) (by decide) (by decide) (by rfl)) (q_v 8 (pv 8)) (nomark _))))) (q_s1 (q_ret q_bl)) q_s0)
      (q_s1 (q_for PassesOwn.never (by rfl) (q_it (by rfl) (q_ix (ix_seqK (by rfl)) od_ix (q_v 7 (pv 7)) q_int (fun _ _ => rfl))) (q_gn (i := 9) (pg_name nd rfl (Or.inl rfl)) (Or.inl (by decide))) (q_s1 (q_ifS (QW.tst (q_or (q_tnot (q_tv (q_cB (call_isiK (by rfl)) cd_isi (by rfl) z_isinstance (by decide +kernel) (q_cons (q_v 9 (pv 9)) (q_cons (q_glob (pe_bltn (v := .ty "tuple") (by rfl) z_tuple (by decide +kernel) rfl) (fun _ => .ty _)) q_nil (by rfl)) (by rfl)) (by decide) (by decide) (by rfl)) (by rfl))) (q_or1 (q_tnot (q_tv (q_cB (call_isiK (by rfl)) cd_isi (by rfl) z_isinstance (by decide +kernel) (q_cons (q_ix (ix_seqK (by rfl)) od_ix (q_v 9 (pv 9)) q_int (fun _ _ => rfl)) (q_cons (q_glob (pe_bltn (v := .ty "tuple") (by rfl) z_tuple (by decide +kernel) rfl) (fun _ => .ty _)) q_nil (by rfl)) (by rfl)) (by decide) (by decide) (by rfl)) (by rfl)))))) (q_s1 (q_ret q_bl)) q_s0)) (fun _ => rfl))))))))))))))) (fun _ => rfl))
      (q_s1 (q_ret q_bl)))⟩)
theorem all_mk {l : PySem.W.OpenLaw} {w : World} {K : PySem.W.Frag} {h : Heap} {mg : Str → Option Value} {fa : Addr} (X : K.In h) (G : h.Ns mainGlobals mg) (hfa : mg "law" = some (.ref fa))
    {f0 : Addr} {od0 an0 : Option Addr} {sl0 : Array (Option Value)} {oc0 kV0 dc0 pm0 cd0 ct0 : Value} {f1 : Addr} {od1 an1 : Option Addr} {sl1 : Array (Option Value)} {oc1 kV1 dc1 pm1 cd1 ct1 : Value} {f2 : Addr} {od2 an2 : Option Addr} {sl2 : Array (Option Value)} {oc2 kV2 dc2 pm2 cd2 ct2 : Value} {f3 : Addr} {od3 an3 : Option Addr} {sl3 : Array (Option Value)} {oc3 kV3 dc3 pm3 cd3 ct3 : Value} {f4 : Addr} {od4 an4 : Option Addr} {sl4 : Array (Option Value)} {oc4 kV4 dc4 pm4 ct4 : Value} {f5 : Addr} {od5 an5 : Option Addr} {sl5 : Array (Option Value)} {oc5 kV5 dc5 pm5 ct5 : Value} {gca0 : Addr} {f6 : Addr} {od6 an6 : Option Addr} {sl6 : Array (Option Value)} {oc6 kV6 dc6 pm6 ct6 : Value} {gca1 : Addr} {f7 : Addr} {od7 an7 : Option Addr} {sl7 : Array (Option Value)} {oc7 kV7 dc7 pm7 cd7 ct7 : Value} {f8 : Addr} {od8 an8 : Option Addr} {sl8 : Array (Option Value)} {oc8 kV8 dc8 pm8 ct8 : Value} {gca2 : Addr} {f9 : Addr} {od9 an9 : Option Addr} {sl9 : Array (Option Value)} {oc9 kV9 dc9 pm9 cd9 ct9 : Value} {f10 : Addr} {od10 an10 : Option Addr} {sl10 : Array (Option Value)} {oc10 kV10 dc10 pm10 cd10 ct10 : Value} {f11 : Addr} {od11 an11 : Option Addr} {sl11 : Array (Option Value)} {oc11 kV11 dc11 pm11 cd11 ct11 : Value} {f12 : Addr} {od12 an12 : Option Addr} {sl12 : Array (Option Value)} {oc12 kV12 dc12 pm12 cd12 ct12 : Value} {f13 : Addr} {od13 an13 : Option Addr} {sl13 : Array (Option Value)} {oc13 kV13 dc13 pm13 cd13 ct13 : Value} {f14 : Addr} {od14 an14 : Option Addr} {sl14 : Array (Option Value)} {oc14 kV14 dc14 pm14 cd14 ct14 : Value} {f15 : Addr} {od15 an15 : Option Addr} {sl15 : Array (Option Value)} {oc15 kV15 dc15 pm15 cd15 ct15 : Value} {f16 : Addr} {od16 an16 : Option Addr} {sl16 : Array (Option Value)} {oc16 kV16 dc16 pm16 cd16 ct16 : Value} {f17 : Addr} {od17 an17 : Option Addr} {sl17 : Array (Option Value)} {oc17 kV17 dc17 pm17 cd17 ct17 : Value} {t_LONGEST_NAME : Tok} {t_LETTERS : Tok} {t_MOST_SERIES : Tok} {t_UNITS : Tok} {t_TOO_GREAT : Tok} {t_MOST_ROWS : Tok} {a_NoTable : Addr} {ca4 cc4 dd4 : Addr} {xl4 yl4 : Value} {xd4 yd4 : Option Addr} {xv4 : Array Value} {xs4 ys4 : Array (Option Value)} {xf4 : Str} {xt4 : Tok} {xo4 : Obj} {xm4 xq4 : Str} {xN4 : Addr} {xb4 xu4 : List Value} {xn4 : List Str} {xa4 : Bool} {xc4 : Option Bool} {xe4 : Option Addr} {xk04 xk14 xk24 xk34 xk54 : Option Value}
    (nX_NoTable : PySem.W.nsIn K mainGlobals "NoTable" = some (some (.ref a_NoTable)))
    (xi1_4 : K.lookup a_NoTable = some xo4)
    (xi2_4 : xo4 = PySem.excClassObj xm4 xq4 a_NoTable xN4 xb4 (.ref dd4 :: bmV) true xn4 xu4 xa4 xc4 xe4 xk04 xk14 xk24 xk34 xk54 "ValueError.__new__")
    (xi3_4 : PySem.W.findIn K (.ref a_NoTable) "__init__" = some (some (.ref f4)))
    (xi4_4 : PySem.W.mroIn K a_NoTable (.type "object") = some true)
    (xi5_4 : PySem.W.findIn K (.ref a_NoTable) "__setattr__" = some (some (.builtin "object.__setattr__")))
    (xi6_4 : PySem.W.mroIn K a_NoTable (.type "ValueError") = some true)
    (xi7_4 : PySem.W.hasDictIn K a_NoTable = true)
    (xj_row_4 : PySem.W.findIn K (.ref a_NoTable) "row" = some none)
    (su9_4 : PySem.W.ks_superIn K a_NoTable a_NoTable "__init__" = some (some (.builtin "ValueError.__init__")))
    (a0 : PySem.W.nsIn K mainGlobals "is_whole" = some (some (.ref f0))) (l0 : K.lookup f0 = some ⟨oc0, od0, .func (PySem.W.fnOf "is_whole" "is_whole" (defArgs s_is_whole) (defBody s_is_whole) (defScope s_is_whole) .none kV0 dc0 pm0 an0 cd0 ct0), sl0⟩) (c0 : PySem.W.codeIn K cd0 "is_whole" = true) (k0 : PySem.W.keepIn K (.ref f0) = true)
    (a1 : PySem.W.nsIn K mainGlobals "common_divisor" = some (some (.ref f1))) (l1 : K.lookup f1 = some ⟨oc1, od1, .func (PySem.W.fnOf "common_divisor" "common_divisor" (defArgs s_common_divisor) (defBody s_common_divisor) (defScope s_common_divisor) .none kV1 dc1 pm1 an1 cd1 ct1), sl1⟩) (c1 : PySem.W.codeIn K cd1 "common_divisor" = true) (k1 : PySem.W.keepIn K (.ref f1) = true)
    (a2 : PySem.W.nsIn K mainGlobals "fraction" = some (some (.ref f2))) (l2 : K.lookup f2 = some ⟨oc2, od2, .func (PySem.W.fnOf "fraction" "fraction" (defArgs s_fraction) (defBody s_fraction) (defScope s_fraction) .none kV2 dc2 pm2 an2 cd2 ct2), sl2⟩) (c2 : PySem.W.codeIn K cd2 "fraction" = true) (k2 : PySem.W.keepIn K (.ref f2) = true)
    (a3 : PySem.W.nsIn K mainGlobals "is_fraction" = some (some (.ref f3))) (l3 : K.lookup f3 = some ⟨oc3, od3, .func (PySem.W.fnOf "is_fraction" "is_fraction" (defArgs s_is_fraction) (defBody s_is_fraction) (defScope s_is_fraction) .none kV3 dc3 pm3 an3 cd3 ct3), sl3⟩) (c3 : PySem.W.codeIn K cd3 "is_fraction" = true) (k3 : PySem.W.keepIn K (.ref f3) = true)
    (i4 : PySem.W.isFn K (.ref f4) = true) (l4 : K.lookup f4 = some ⟨oc4, od4, .func (PySem.W.ksFn "__init__" "NoTable.__init__" (defArgs s_NoTable___init__) (defBody s_NoTable___init__) (defScope s_NoTable___init__) .none kV4 dc4 pm4 an4 (.ref ca4) ct4 cc4), sl4⟩) (c4 : PySem.W.codeIn K (.ref ca4) "NoTable.__init__" = true) (k4 : PySem.W.keepIn K (.ref f4) = true)
    (su1_4 : K.lookup ca4 = some ⟨xl4, xd4, .fields xv4, xs4⟩)
    (su2_4 : xv4[2]? = some (.str xf4 xt4))
    (su3_4 : ((l.prog.main.file : Str) == xf4) = true)
    (su4_4 : K.lookup cc4 = some ⟨yl4, yd4, .cell (some (.ref a_NoTable)), ys4⟩)
    (su6_4 : PySem.W.mroIn K a_NoTable (.ref a_NoTable) = some true)
    (su7_4 : (l.prog.main.scope.names.lookup ("super" : Str)).isSome = false)
    (su8_4 : PySem.W.nsIn K cStatics "thirdparty.any" = some none)
    (a5 : PySem.W.nsIn K mainGlobals "is_name" = some (some (.ref f5))) (l5 : K.lookup f5 = some ⟨oc5, od5, .func (PySem.W.fnOf "is_name" "is_name" (defArgs s_is_name) (defBody s_is_name) (defScope s_is_name) .none kV5 dc5 pm5 an5 (.ref gca0) ct5), sl5⟩) (c5 : PySem.W.codeIn K (.ref gca0) "is_name" = true) (k5 : PySem.W.keepIn K (.ref f5) = true)
    (a6 : PySem.W.nsIn K mainGlobals "are_series" = some (some (.ref f6))) (l6 : K.lookup f6 = some ⟨oc6, od6, .func (PySem.W.fnOf "are_series" "are_series" (defArgs s_are_series) (defBody s_are_series) (defScope s_are_series) .none kV6 dc6 pm6 an6 (.ref gca1) ct6), sl6⟩) (c6 : PySem.W.codeIn K (.ref gca1) "are_series" = true) (k6 : PySem.W.keepIn K (.ref f6) = true)
    (a7 : PySem.W.nsIn K mainGlobals "is_within" = some (some (.ref f7))) (l7 : K.lookup f7 = some ⟨oc7, od7, .func (PySem.W.fnOf "is_within" "is_within" (defArgs s_is_within) (defBody s_is_within) (defScope s_is_within) .none kV7 dc7 pm7 an7 cd7 ct7), sl7⟩) (c7 : PySem.W.codeIn K cd7 "is_within" = true) (k7 : PySem.W.keepIn K (.ref f7) = true)
    (a8 : PySem.W.nsIn K mainGlobals "is_row" = some (some (.ref f8))) (l8 : K.lookup f8 = some ⟨oc8, od8, .func (PySem.W.fnOf "is_row" "is_row" (defArgs s_is_row) (defBody s_is_row) (defScope s_is_row) .none kV8 dc8 pm8 an8 (.ref gca2) ct8), sl8⟩) (c8 : PySem.W.codeIn K (.ref gca2) "is_row" = true) (k8 : PySem.W.keepIn K (.ref f8) = true)
    (a9 : PySem.W.nsIn K mainGlobals "table_of" = some (some (.ref f9))) (l9 : K.lookup f9 = some ⟨oc9, od9, .func (PySem.W.fnOf "table_of" "table_of" (defArgs s_table_of) (defBody s_table_of) (defScope s_table_of) .none kV9 dc9 pm9 an9 cd9 ct9), sl9⟩) (c9 : PySem.W.codeIn K cd9 "table_of" = true) (k9 : PySem.W.keepIn K (.ref f9) = true)
    (a10 : PySem.W.nsIn K mainGlobals "_law_cell_at" = some (some (.ref f10))) (l10 : K.lookup f10 = some ⟨oc10, od10, .func (PySem.W.fnOf "_law_cell_at" "_law_cell_at" (defArgs s__law_cell_at) (defBody s__law_cell_at) (defScope s__law_cell_at) .none kV10 dc10 pm10 an10 cd10 ct10), sl10⟩) (c10 : PySem.W.codeIn K cd10 "_law_cell_at" = true) (k10 : PySem.W.keepIn K (.ref f10) = true)
    (a11 : PySem.W.nsIn K mainGlobals "_law_take" = some (some (.ref f11))) (l11 : K.lookup f11 = some ⟨oc11, od11, .func (PySem.W.fnOf "_law_take" "_law_take" (defArgs s__law_take) (defBody s__law_take) (defScope s__law_take) .none kV11 dc11 pm11 an11 cd11 ct11), sl11⟩) (c11 : PySem.W.codeIn K cd11 "_law_take" = true) (k11 : PySem.W.keepIn K (.ref f11) = true)
    (a12 : PySem.W.nsIn K mainGlobals "_law_wide" = some (some (.ref f12))) (l12 : K.lookup f12 = some ⟨oc12, od12, .func (PySem.W.fnOf "_law_wide" "_law_wide" (defArgs s__law_wide) (defBody s__law_wide) (defScope s__law_wide) .none kV12 dc12 pm12 an12 cd12 ct12), sl12⟩) (c12 : PySem.W.codeIn K cd12 "_law_wide" = true) (k12 : PySem.W.keepIn K (.ref f12) = true)
    (a13 : PySem.W.nsIn K mainGlobals "_law_low" = some (some (.ref f13))) (l13 : K.lookup f13 = some ⟨oc13, od13, .func (PySem.W.fnOf "_law_low" "_law_low" (defArgs s__law_low) (defBody s__law_low) (defScope s__law_low) .none kV13 dc13 pm13 an13 cd13 ct13), sl13⟩) (c13 : PySem.W.codeIn K cd13 "_law_low" = true) (k13 : PySem.W.keepIn K (.ref f13) = true)
    (a14 : PySem.W.nsIn K mainGlobals "_law_names" = some (some (.ref f14))) (l14 : K.lookup f14 = some ⟨oc14, od14, .func (PySem.W.fnOf "_law_names" "_law_names" (defArgs s__law_names) (defBody s__law_names) (defScope s__law_names) .none kV14 dc14 pm14 an14 cd14 ct14), sl14⟩) (c14 : PySem.W.codeIn K cd14 "_law_names" = true) (k14 : PySem.W.keepIn K (.ref f14) = true)
    (a15 : PySem.W.nsIn K mainGlobals "_law_number" = some (some (.ref f15))) (l15 : K.lookup f15 = some ⟨oc15, od15, .func (PySem.W.fnOf "_law_number" "_law_number" (defArgs s__law_number) (defBody s__law_number) (defScope s__law_number) .none kV15 dc15 pm15 an15 cd15 ct15), sl15⟩) (c15 : PySem.W.codeIn K cd15 "_law_number" = true) (k15 : PySem.W.keepIn K (.ref f15) = true)
    (a16 : PySem.W.nsIn K mainGlobals "_law_table" = some (some (.ref f16))) (l16 : K.lookup f16 = some ⟨oc16, od16, .func (PySem.W.fnOf "_law_table" "_law_table" (defArgs s__law_table) (defBody s__law_table) (defScope s__law_table) .none kV16 dc16 pm16 an16 cd16 ct16), sl16⟩) (c16 : PySem.W.codeIn K cd16 "_law_table" = true) (k16 : PySem.W.keepIn K (.ref f16) = true)
    (a17 : PySem.W.nsIn K mainGlobals "law" = some (some (.ref f17))) (l17 : K.lookup f17 = some ⟨oc17, od17, .func (PySem.W.fnOf "law" "law" (defArgs s_law) (defBody s_law) (defScope s_law) .none kV17 dc17 pm17 an17 cd17 ct17), sl17⟩) (c17 : PySem.W.codeIn K cd17 "law" = true) (k17 : PySem.W.keepIn K (.ref f17) = true)
    (hgt0 : PySem.W.tabIn K "is_name" = some (gca0, tabG0 K)) (hGK0 : PySem.W.codeHdIn K gca0 (tabG0 K) = true) (hls0 : ∀ p ∈ LSK K, p.1 ≠ tabG0 K)
    (hgt1 : PySem.W.tabIn K "are_series" = some (gca1, tabG1 K)) (hGK1 : PySem.W.codeHdIn K gca1 (tabG1 K) = true) (hls1 : ∀ p ∈ LSK K, p.1 ≠ tabG1 K)
    (hgt2 : PySem.W.tabIn K "is_row" = some (gca2, tabG2 K)) (hGK2 : PySem.W.codeHdIn K gca2 (tabG2 K) = true) (hls2 : ∀ p ∈ LSK K, p.1 ≠ tabG2 K)
    (z_isinstance : PySem.W.nsIn K mainGlobals "isinstance" = some none)
    (z_int : PySem.W.nsIn K mainGlobals "int" = some none)
    (z_bool : PySem.W.nsIn K mainGlobals "bool" = some none)
    (z_abs : PySem.W.nsIn K mainGlobals "abs" = some none)
    (z_tuple : PySem.W.nsIn K mainGlobals "tuple" = some none)
    (z_len : PySem.W.nsIn K mainGlobals "len" = some none)
    (z_super : PySem.W.nsIn K mainGlobals "super" = some none)
    (z_str : PySem.W.nsIn K mainGlobals "str" = some none)
    (z_all : PySem.W.nsIn K mainGlobals "all" = some none)
    (z_set : PySem.W.nsIn K mainGlobals "set" = some none)
    (z_enumerate : PySem.W.nsIn K mainGlobals "enumerate" = some none)
    (z_range : PySem.W.nsIn K mainGlobals "range" = some none)
    (z_max : PySem.W.nsIn K mainGlobals "max" = some none)
    (z_min : PySem.W.nsIn K mainGlobals "min" = some none)
    (z_list : PySem.W.nsIn K mainGlobals "list" = some none)
    (m_LONGEST_NAME : PySem.W.nsIn K mainGlobals "LONGEST_NAME" = some (some (.int 10 t_LONGEST_NAME)))
    (m_LETTERS : PySem.W.nsIn K mainGlobals "LETTERS" = some (some (.str (Str.ofString "abcdefghijklmnopqrstuvwxyz") t_LETTERS)))
    (m_MOST_SERIES : PySem.W.nsIn K mainGlobals "MOST_SERIES" = some (some (.int 4 t_MOST_SERIES)))
    (m_UNITS : PySem.W.nsIn K mainGlobals "UNITS" = some (some (.int 1000000 t_UNITS)))
    (m_TOO_GREAT : PySem.W.nsIn K mainGlobals "TOO_GREAT" = some (some (.int 1000000000000 t_TOO_GREAT)))
    (m_MOST_ROWS : PySem.W.nsIn K mainGlobals "MOST_ROWS" = some (some (.int 12 t_MOST_ROWS)))
    : ∃ fd : FuncData, (∀ (s : Shared) (v : Value), BindsTo s fd ⟨[v], []⟩ [("_law_script", v)]) ∧ ∀ base : Heap, K.In base → base.Ns mainGlobals mg → Kx.BltB mg base → FnOk l.prog w K mg base (CXE l.prog w) 8 fa fd ["_law_script"] (spD ⟨K, TSK K, LSK K⟩ false wf_law) := by
  have e := hfa.symm.trans (PySem.W.mg_of X G a17)
  cases e
  have F0 := fun_mk (st := s_is_whole) l0 c0 k0
  have F1 := fun_mk (st := s_common_divisor) l1 c1 k1
  have F2 := fun_mk (st := s_fraction) l2 c2 k2
  have F3 := fun_mk (st := s_is_fraction) l3 c3 k3
  have F5 := fun_mk (st := s_is_name) l5 c5 k5
  have F6 := fun_mk (st := s_are_series) l6 c6 k6
  have F7 := fun_mk (st := s_is_within) l7 c7 k7
  have F8 := fun_mk (st := s_is_row) l8 c8 k8
  have F9 := fun_mk (st := s_table_of) l9 c9 k9
  have F10 := fun_mk (st := s__law_cell_at) l10 c10 k10
  have F11 := fun_mk (st := s__law_take) l11 c11 k11
  have F12 := fun_mk (st := s__law_wide) l12 c12 k12
  have F13 := fun_mk (st := s__law_low) l13 c13 k13
  have F14 := fun_mk (st := s__law_names) l14 c14 k14
  have F15 := fun_mk (st := s__law_number) l15 c15 k15
  have F16 := fun_mk (st := s__law_table) l16 c16 k16
  have F17 := fun_mk (st := s_law) l17 c17 k17
  obtain rfl : a_NoTable = CA K "NoTable" := (CA_of nX_NoTable).symm
  have mX_NoTable := PySem.W.mg_of X G nX_NoTable
  have TI_NoTable : ExcKI K "NoTable" (CA K "NoTable") dd4 f4 := ⟨nX_NoTable, ⟨_, _, _, _, _, _, _, _, _, _, _, _, _, _, xi1_4.trans (congrArg some xi2_4)⟩, xi3_4, beq_iff_eq.mp i4⟩
  have b0 := F0.binds (ps := ["thing"]) fun _ _ _ _ _ _ us hl => match us, hl with | [_], _ => rfl
  have b1 := F1.binds (ps := ["one", "other"]) fun _ _ _ _ _ _ us hl => match us, hl with | [_, _], _ => rfl
  have b2 := F2.binds (ps := ["top", "bottom"]) fun _ _ _ _ _ _ us hl => match us, hl with | [_, _], _ => rfl
  have b3 := F3.binds (ps := ["thing"]) fun _ _ _ _ _ _ us hl => match us, hl with | [_], _ => rfl
  have b4 : Binds K (PySem.W.ksFn "__init__" "NoTable.__init__" (defArgs s_NoTable___init__) (defBody s_NoTable___init__) (defScope s_NoTable___init__) .none kV4 dc4 pm4 an4 (.ref ca4) ct4 cc4) ["self", "row"] [] := .all fun us hl => match us, hl with | [_, _], _ => rfl
  have b5 := F5.binds (ps := ["text"]) fun _ _ _ _ _ _ us hl => match us, hl with | [_], _ => rfl
  have b6 := F6.binds (ps := ["names"]) fun _ _ _ _ _ _ us hl => match us, hl with | [_], _ => rfl
  have b7 := F7.binds (ps := ["thing"]) fun _ _ _ _ _ _ us hl => match us, hl with | [_], _ => rfl
  have b8 := F8.binds (ps := ["name", "numbers", "many", "ahead"]) fun _ _ _ _ _ _ us hl => match us, hl with | [_, _, _, _], _ => rfl
  have b9 := F9.binds (ps := ["series", "rows"]) fun _ _ _ _ _ _ us hl => match us, hl with | [_, _], _ => rfl
  have b10 := F10.binds (ps := ["_law_script", "_law_k"]) fun _ _ _ _ _ _ us hl => match us, hl with | [_, _], _ => rfl
  have b11 := F11.binds (ps := ["_law_row", "_law_base"]) fun _ _ _ _ _ _ us hl => match us, hl with | [_, _], _ => rfl
  have b12 := F12.binds (ps := ["_law_row", "_law_base"]) fun _ _ _ _ _ _ us hl => match us, hl with | [_, _], _ => rfl
  have b13 := F13.binds (ps := ["_law_top", "_law_bottom"]) fun _ _ _ _ _ _ us hl => match us, hl with | [_, _], _ => rfl
  have b14 := F14.binds (ps := ["_law_row", "_law_many"]) fun _ _ _ _ _ _ us hl => match us, hl with | [_, _], _ => rfl
  have b15 := F15.binds (ps := ["_law_row"]) fun _ _ _ _ _ _ us hl => match us, hl with | [_], _ => rfl
  have b16 := F16.binds (ps := ["_law_row", "_law_most"]) fun _ _ _ _ _ _ us hl => match us, hl with | [_, _], _ => rfl
  have z_isinstance := PySem.W.mg_none_of X G z_isinstance
  have z_int := PySem.W.mg_none_of X G z_int
  have z_bool := PySem.W.mg_none_of X G z_bool
  have z_abs := PySem.W.mg_none_of X G z_abs
  have z_tuple := PySem.W.mg_none_of X G z_tuple
  have z_len := PySem.W.mg_none_of X G z_len
  have z_super := PySem.W.mg_none_of X G z_super
  have z_str := PySem.W.mg_none_of X G z_str
  have z_all := PySem.W.mg_none_of X G z_all
  have z_set := PySem.W.mg_none_of X G z_set
  have z_enumerate := PySem.W.mg_none_of X G z_enumerate
  have z_range := PySem.W.mg_none_of X G z_range
  have z_max := PySem.W.mg_none_of X G z_max
  have z_min := PySem.W.mg_none_of X G z_min
  have z_list := PySem.W.mg_none_of X G z_list
  have m_LONGEST_NAME := PySem.W.mg_of X G m_LONGEST_NAME
  have m_LETTERS := PySem.W.mg_of X G m_LETTERS
  have m_MOST_SERIES := PySem.W.mg_of X G m_MOST_SERIES
  have m_UNITS := PySem.W.mg_of X G m_UNITS
  have m_TOO_GREAT := PySem.W.mg_of X G m_TOO_GREAT
  have m_MOST_ROWS := PySem.W.mg_of X G m_MOST_ROWS
  refine ⟨PySem.W.fnOf "law" "law" (defArgs s_law) (defBody s_law) (defScope s_law) .none kV17 dc17 pm17 an17 cd17 ct17, fun s v => .of_eq rfl, fun base hK hG hB => ?_⟩
  have C_is_whole : Cal l.prog w K mg base (CXE l.prog w) 1 "is_whole" ["thing"] (spD ⟨K, TSK K, LSK K⟩ false wf_is_whole) := Kx.Fun.cal F0 (ok_is_whole (P := l.prog) (w := w) (mg := mg) (base := base) F0 z_isinstance z_int z_bool) b0 (PySem.W.mg_of X G a0)
  have C_common_divisor : Cal l.prog w K mg base (CXE l.prog w) 1 "common_divisor" ["one", "other"] (spD ⟨K, TSK K, LSK K⟩ false wf_common_divisor) := Kx.Fun.cal F1 (ok_common_divisor (P := l.prog) (w := w) (mg := mg) (base := base) F1 ) b1 (PySem.W.mg_of X G a1)
  have C_fraction : Cal l.prog w K mg base (CXE l.prog w) 2 "fraction" ["top", "bottom"] (spD ⟨K, TSK K, LSK K⟩ false wf_fraction) := Kx.Fun.cal F2 (ok_fraction (P := l.prog) (w := w) (mg := mg) (base := base) F2 C_is_whole C_common_divisor z_abs) b2 (PySem.W.mg_of X G a2)
  have C_is_fraction : Cal l.prog w K mg base (CXE l.prog w) 3 "is_fraction" ["thing"] (spD ⟨K, TSK K, LSK K⟩ false wf_is_fraction) := Kx.Fun.cal F3 (ok_is_fraction (P := l.prog) (w := w) (mg := mg) (base := base) F3 C_is_whole C_fraction z_isinstance z_tuple z_len) b3 (PySem.W.mg_of X G a3)
  have D4 : SupXD l.prog K mg ["self", "row"] s_NoTable___init__ "__init__" "NoTable.__init__" f4 cc4 ca4 (CA K "NoTable") dd4 _ := ⟨⟨_, _, _, _, _, _, _, _, rfl, l4⟩, c4, ⟨_, rfl, rfl, rfl⟩, ⟨_, _, _, _, _, _, su1_4, su2_4, su3_4⟩, ⟨_, _, _, su4_4⟩, TI_NoTable.obj, su6_4, xi6_4, z_super, rfl, rfl, su7_4, su8_4, su9_4⟩
  have O_NoTable___init__ := ok_NoTable___init__ (P := l.prog) (w := w) (mg := mg) (base := base) D4 TI_NoTable xi4_4 xi5_4 xj_row_4 z_super
  have RA_NoTable : RaI l.prog w K mg base (TSK K) (LSK K) 1 "NoTable" ["self", "row"] ["row"] mok_NoTable := ⟨⟨_, _, _, TI_NoTable, O_NoTable___init__, b4⟩, mX_NoTable, by decide⟩
  have C_is_name : Cal l.prog w K mg base (CXE l.prog w) 2 "is_name" ["text"] (spD ⟨K, TSK K, LSK K⟩ false wf_is_name) := Kx.Fun.cal F5 (ok_is_name (P := l.prog) (w := w) (mg := mg) (base := base) l5 c5 hGK0 hB hls0 z_isinstance z_str z_len z_all m_LONGEST_NAME m_LETTERS) b5 (PySem.W.mg_of X G a5)
  have C_are_series : Cal l.prog w K mg base (CXE l.prog w) 4 "are_series" ["names"] (spD ⟨K, TSK K, LSK K⟩ false wf_are_series) := Kx.Fun.cal F6 (ok_are_series (P := l.prog) (w := w) (mg := mg) (base := base) l6 c6 hGK1 hB hls1 C_is_name z_len z_all z_set m_MOST_SERIES) b6 (PySem.W.mg_of X G a6)
  have C_is_within : Cal l.prog w K mg base (CXE l.prog w) 4 "is_within" ["thing"] (spD ⟨K, TSK K, LSK K⟩ false wf_is_within) := Kx.Fun.cal F7 (ok_is_within (P := l.prog) (w := w) (mg := mg) (base := base) F7 C_is_fraction z_abs m_UNITS m_TOO_GREAT) b7 (PySem.W.mg_of X G a7)
  have C_is_row : Cal l.prog w K mg base (CXE l.prog w) 6 "is_row" ["name", "numbers", "many", "ahead"] (spD ⟨K, TSK K, LSK K⟩ false wf_is_row) := Kx.Fun.cal F8 (ok_is_row (P := l.prog) (w := w) (mg := mg) (base := base) l8 c8 hGK2 hB hls2 C_is_name C_is_within z_len z_all) b8 (PySem.W.mg_of X G a8)
  have C_table_of : Cal l.prog w K mg base (CXE l.prog w) 7 "table_of" ["series", "rows"] (spD ⟨K, TSK K, LSK K⟩ false wf_table_of) := Kx.Fun.cal F9 (ok_table_of (P := l.prog) (w := w) (mg := mg) (base := base) F9 C_are_series C_is_row RA_NoTable z_len z_enumerate z_tuple m_MOST_ROWS) b9 (PySem.W.mg_of X G a9)
  have C__law_cell_at : Cal l.prog w K mg base (CXE l.prog w) 1 "_law_cell_at" ["_law_script", "_law_k"] (spD ⟨K, TSK K, LSK K⟩ false wf__law_cell_at) := Kx.Fun.cal F10 (ok__law_cell_at (P := l.prog) (w := w) (mg := mg) (base := base) F10 z_len) b10 (PySem.W.mg_of X G a10)
  have C__law_take : Cal l.prog w K mg base (CXE l.prog w) 1 "_law_take" ["_law_row", "_law_base"] (spD ⟨K, TSK K, LSK K⟩ true wf__law_take) := Kx.Fun.cal F11 (ok__law_take (P := l.prog) (w := w) (mg := mg) (base := base) F11 ) b11 (PySem.W.mg_of X G a11)
  have C__law_wide : Cal l.prog w K mg base (CXE l.prog w) 2 "_law_wide" ["_law_row", "_law_base"] (spD ⟨K, TSK K, LSK K⟩ true wf__law_wide) := Kx.Fun.cal F12 (ok__law_wide (P := l.prog) (w := w) (mg := mg) (base := base) F12 C__law_take z_range) b12 (PySem.W.mg_of X G a12)
  have C__law_low : Cal l.prog w K mg base (CXE l.prog w) 1 "_law_low" ["_law_top", "_law_bottom"] (spD ⟨K, TSK K, LSK K⟩ false wf__law_low) := Kx.Fun.cal F13 (ok__law_low (P := l.prog) (w := w) (mg := mg) (base := base) F13 z_abs) b13 (PySem.W.mg_of X G a13)
  have C__law_names : Cal l.prog w K mg base (CXE l.prog w) 2 "_law_names" ["_law_row", "_law_many"] (spD ⟨K, TSK K, LSK K⟩ true wf__law_names) := Kx.Fun.cal F14 (ok__law_names (P := l.prog) (w := w) (mg := mg) (base := base) F14 C__law_take z_range z_int) b14 (PySem.W.mg_of X G a14)
  have C__law_number : Cal l.prog w K mg base (CXE l.prog w) 3 "_law_number" ["_law_row"] (spD ⟨K, TSK K, LSK K⟩ true wf__law_number) := Kx.Fun.cal F15 (ok__law_number (P := l.prog) (w := w) (mg := mg) (base := base) F15 C__law_take C__law_wide C__law_low z_int) b15 (PySem.W.mg_of X G a15)
  have C__law_table : Cal l.prog w K mg base (CXE l.prog w) 4 "_law_table" ["_law_row", "_law_most"] (spD ⟨K, TSK K, LSK K⟩ true wf__law_table) := Kx.Fun.cal F16 (ok__law_table (P := l.prog) (w := w) (mg := mg) (base := base) F16 C__law_names C__law_take C__law_number z_abs) b16 (PySem.W.mg_of X G a16)
  exact ok_law F17 C__law_cell_at C__law_table C_table_of z_range z_max z_min z_len z_list z_tuple z_isinstance
theorem walk {l : PySem.W.OpenLaw} {q : Program} {loose : List Str} {XP : (Str → Option Value) → Heap → Prop} {YP : World → Heap → Prop} {d : DefRec} {K : Params → PySem.W.Frag} (hn : l.most = some 63) (hdf : d.params.defaults = [])
    (hY : ∀ (w : World) (h : Heap), YP w h → (K w.params).In h)
    {gdg0 : DefRec} (hgdg0 : (PyProof.Rows.recsOf q).find? (fun e => e.name == ("is_name" : Str)) = some gdg0) (htabg0 : ∀ p, PySem.W.tabIn (K p) "is_name" = some (((PySem.W.tabIn (K p) "is_name").map (·.1)).getD 0, tabG0 (K p))) (hKPg0 : ∀ p, (K p).lookup (tabG0 (K p)) = none)
    {gdg1 : DefRec} (hgdg1 : (PyProof.Rows.recsOf q).find? (fun e => e.name == ("are_series" : Str)) = some gdg1) (htabg1 : ∀ p, PySem.W.tabIn (K p) "are_series" = some (((PySem.W.tabIn (K p) "are_series").map (·.1)).getD 0, tabG1 (K p))) (hKPg1 : ∀ p, (K p).lookup (tabG1 (K p)) = none)
    {gdg2 : DefRec} (hgdg2 : (PyProof.Rows.recsOf q).find? (fun e => e.name == ("is_row" : Str)) = some gdg2) (htabg2 : ∀ p, PySem.W.tabIn (K p) "is_row" = some (((PySem.W.tabIn (K p) "is_row").map (·.1)).getD 0, tabG2 (K p))) (hKPg2 : ∀ p, (K p).lookup (tabG2 (K p)) = none)
    (F : ∀ (w : World) (mg : Str → Option Value) (fa : Addr) (h : Heap), (K w.params).In h → h.Ns mainGlobals mg → mg d.name = some (.ref fa) →
      ∃ fd : FuncData, (∀ (s : Shared) (u : Value), BindsTo s fd ⟨[u], []⟩ [("_law_script", u)]) ∧ ∀ base : Heap, (K w.params).In base → base.Ns mainGlobals mg → Kx.BltB mg base → FnOk l.prog w (K w.params) mg base (CXE l.prog w) 8 fa fd ["_law_script"] (spD ⟨K w.params, TSK (K w.params), LSK (K w.params)⟩ false wf_law)) :
    PySem.W.WalkO q loose XP YP l.row.toRowW d [] (fun f vs => PySem.call f vs) := by
  have hall : ∀ p, ∀ P ∈ (LSK (K p)).map (·.1) ++ TSK (K p), ∃ (gn : Str) (gd : DefRec) (c : Addr), (PyProof.Rows.recsOf q).find? (fun e => e.name == gn) = some gd ∧ PySem.W.tabIn (K p) gn = some (c, P) ∧ (K p).lookup P = none := fun p P hP => by
    simp only [List.map_cons, List.map_nil, List.cons_append, List.nil_append, List.mem_cons, List.not_mem_nil, or_false] at hP
    rcases hP with rfl | rfl | rfl
    · exact ⟨_, gdg0, _, hgdg0, htabg0 p, hKPg0 p⟩
    · exact ⟨_, gdg1, _, hgdg1, htabg1 p, hKPg1 p⟩
    · exact ⟨_, gdg2, _, hgdg2, htabg2 p, hKPg2 p⟩
  refine Kx.walk_ofTs (n := 63) (k := 8) (x := "_law_script") (CX := fun w => CXE l.prog w) (sp := fun p => spD ⟨K p, TSK (K p), LSK (K p)⟩ false wf_law) (Ps := fun p => (LSK (K p)).map (·.1) ++ TSK (K p)) hn (by decide) hdf ⟨rfl, by decide, by decide⟩ hY hall F (fun w H a ns h1 h2 hA h3 => law_sp (fun hl => ⟨ns, rfl, hl, rfl⟩) h1 (fun P hP => ⟨#[], h2 P (List.mem_append_right _ hP), trivial⟩) (fun p hp => ⟨#[], h2 p.1 (List.mem_append_left _ (List.mem_map_of_mem hp)), trivial, fun cv z => by cases z⟩) h3 (fun b ps z e => by
    subst e
    rcases hA _ _ z with y | ⟨_, _, o, xs, y⟩
    · rcases h3 with (h | ⟨o, h⟩) | ⟨o, _, _, hk, _⟩
      · rw [h] at z; cases z
      · rw [h] at z; cases z
      · obtain ⟨_, _, _, _, _, hl⟩ := hall w.params _ y
        rw [hl] at hk; cases hk
    · cases y)) fun _ _ _ _ _ z => by
    obtain ⟨_, _, _, _, _, _, y, _⟩ := z
    exact y
end Law
open PySem PySem.W PyProof.Rows
set_option maxRecDepth 100000 in
set_option maxHeartbeats 0 in
theorem PySem.Challenge.cw_chartscribe_k12_tables_made_holds : PySem.Challenge.rw_chartscribe_k12_tables_made.Holds := by
  w_on; o_law; k_head; (case hw => w_witness2)
  k_fill
  refine Law.walk (l := PySem.Challenge.rw_chartscribe_k12_tables_made) rfl rfl (fun w h Y => PySem.W.kIn_of Y) rfl ?htabg0 ?hKPg0 rfl ?htabg1 ?hKPg1 rfl ?htabg2 ?hKPg2 ?F
  case htabg0 => (intro p; kernel_rfl)
  case hKPg0 => (intro p; kernel_rfl)
  case htabg1 => (intro p; kernel_rfl)
  case hKPg1 => (intro p; kernel_rfl)
  case htabg2 => (intro p; kernel_rfl)
  case hKPg2 => (intro p; kernel_rfl)
  case F =>
    intro w mg fa h KX G hmg
    refine' Law.all_mk KX G hmg ?nX_NoTable ?xi1_4 ?xi2_4 ?xi3_4 ?xi4_4 ?xi5_4 ?xi6_4 ?xi7_4 ?xj_row_4 ?su9_4 ?a0 ?l0 ?c0 ?k0 ?a1 ?l1 ?c1 ?k1 ?a2 ?l2 ?c2 ?k2 ?a3 ?l3 ?c3 ?k3 ?i4 ?l4 ?c4 ?k4 ?su1_4 ?su2_4 ?su3_4 ?su4_4 ?su6_4 ?su7_4 ?su8_4 ?a5 ?l5 ?c5 ?k5 ?a6 ?l6 ?c6 ?k6 ?a7 ?l7 ?c7 ?k7 ?a8 ?l8 ?c8 ?k8 ?a9 ?l9 ?c9 ?k9 ?a10 ?l10 ?c10 ?k10 ?a11 ?l11 ?c11 ?k11 ?a12 ?l12 ?c12 ?k12 ?a13 ?l13 ?c13 ?k13 ?a14 ?l14 ?c14 ?k14 ?a15 ?l15 ?c15 ?k15 ?a16 ?l16 ?c16 ?k16 ?a17 ?l17 ?c17 ?k17 ?hgt0 ?hGK0 ?hls0 ?hgt1 ?hGK1 ?hls1 ?hgt2 ?hGK2 ?hls2 ?z_isinstance ?z_int ?z_bool ?z_abs ?z_tuple ?z_len ?z_super ?z_str ?z_all ?z_set ?z_enumerate ?z_range ?z_max ?z_min ?z_list ?m_LONGEST_NAME ?m_LETTERS ?m_MOST_SERIES ?m_UNITS ?m_TOO_GREAT ?m_MOST_ROWS
    (case nX_NoTable => k_is)
    (case xi1_4 => k_is)
    (case xi2_4 => rfl)
    (case xi3_4 => k_is)
    (case xi4_4 => k_is)
    (case xi5_4 => k_is)
    (case xi6_4 => k_is)
    (case xi7_4 => k_is)
    (case xj_row_4 => k_is)
    (case su9_4 => ks_is)
    (case a0 => k_is)
    (case l0 => k_is)
    (case c0 => k_is)
    (case k0 => k_is)
    (case a1 => k_is)
    (case l1 => k_is)
    (case c1 => k_is)
    (case k1 => k_is)
    (case a2 => k_is)
    (case l2 => k_is)
    (case c2 => k_is)
    (case k2 => k_is)
    (case a3 => k_is)
    (case l3 => k_is)
    (case c3 => k_is)
    (case k3 => k_is)
    (case i4 => k_is)
    (case l4 => k_is)
    (case c4 => k_is)
    (case k4 => k_is)
    (case su1_4 => k_is)
    (case su2_4 => rfl)
    (case su3_4 => first | rfl | decide +kernel)
    (case su4_4 => k_is)
    (case su6_4 => k_is)
    (case su7_4 => first | rfl | decide +kernel)
    (case su8_4 => k_is)
    (case a5 => k_is)
    (case l5 => k_is)
    (case c5 => k_is)
    (case k5 => k_is)
    (case a6 => k_is)
    (case l6 => k_is)
    (case c6 => k_is)
    (case k6 => k_is)
    (case a7 => k_is)
    (case l7 => k_is)
    (case c7 => k_is)
    (case k7 => k_is)
    (case a8 => k_is)
    (case l8 => k_is)
    (case c8 => k_is)
    (case k8 => k_is)
    (case a9 => k_is)
    (case l9 => k_is)
    (case c9 => k_is)
    (case k9 => k_is)
    (case a10 => k_is)
    (case l10 => k_is)
    (case c10 => k_is)
    (case k10 => k_is)
    (case a11 => k_is)
    (case l11 => k_is)
    (case c11 => k_is)
    (case k11 => k_is)
    (case a12 => k_is)
    (case l12 => k_is)
    (case c12 => k_is)
    (case k12 => k_is)
    (case a13 => k_is)
    (case l13 => k_is)
    (case c13 => k_is)
    (case k13 => k_is)
    (case a14 => k_is)
    (case l14 => k_is)
    (case c14 => k_is)
    (case k14 => k_is)
    (case a15 => k_is)
    (case l15 => k_is)
    (case c15 => k_is)
    (case k15 => k_is)
    (case a16 => k_is)
    (case l16 => k_is)
    (case c16 => k_is)
    (case k16 => k_is)
    (case a17 => k_is)
    (case l17 => k_is)
    (case c17 => k_is)
    (case k17 => k_is)
    (case hgt0 => kernel_rfl)
    (case hGK0 => kernel_rfl)
    (case hls0 => (intro p hp; simp only [Law.LSK, List.mem_cons, List.not_mem_nil, or_false] at hp))
    (case hgt1 => kernel_rfl)
    (case hGK1 => kernel_rfl)
    (case hls1 => (intro p hp; simp only [Law.LSK, List.mem_cons, List.not_mem_nil, or_false] at hp))
    (case hgt2 => kernel_rfl)
    (case hGK2 => kernel_rfl)
    (case hls2 => (intro p hp; simp only [Law.LSK, List.mem_cons, List.not_mem_nil, or_false] at hp))
    (case z_isinstance => k_is)
    (case z_int => k_is)
    (case z_bool => k_is)
    (case z_abs => k_is)
    (case z_tuple => k_is)
    (case z_len => k_is)
    (case z_super => k_is)
    (case z_str => k_is)
    (case z_all => k_is)
    (case z_set => k_is)
    (case z_enumerate => k_is)
    (case z_range => k_is)
    (case z_max => k_is)
    (case z_min => k_is)
    (case z_list => k_is)
    (case m_LONGEST_NAME => k_is)
    (case m_LETTERS => k_is)
    (case m_MOST_SERIES => k_is)
    (case m_UNITS => k_is)
    (case m_TOO_GREAT => k_is)
    (case m_MOST_ROWS => k_is)
